import PyProof.Rows.All
import Wide.All
import OpenK.AllK
import Wide.FinOn
import HandS.ForMost
import HandS.Rev
import HandS.GenList
import HandS.AnyAll
import HandS.EndOwn
import HandS.ExcOwn
import HandS.IsInst
import PyProof.ReprRoads
import HandS.Walk
import HandS.Dict
import HandS.TupAny
import HandS.Style
import KE.KDictPairs
import KE.GoesMore
import HandS.Iter
import KE.KRevSl
import PyProof.Draws
import PyProof.EnumMake
import PyProof.EqKinds
import HandS.More
import PyProof.Rows.IntBool
import PyProof.CallStr
import PyProof.IsRules
import PyProof.ReprLen
import PyProof.FitsInt
import PyProof.StrLawsRepr
import HandS.FStrTup
import PyProof.Rows.RegReprOcc
import HandS.Set
import HandS.SetBool
import HandS.TupSets
import HandS.SetFor
import PyProof.Rows.StrCase
import HandS.StrMore
import HandS.Replace
import HandS.Codes
import HandS.Wide
import HandS.Zip
import HandS.DeepEq
import HandS.RaiseMore
import HandS.TryOnly
import HandS.ForExc
import HandS.FStr
import HandS.IterVal
import HandS.Defaults
import HandS.Comp
import HandS.DictComp
import HandS.OwnEq
import HandS.ExcIs
import HandS.Flow
import KE.KExcIs
import KE.KIsAll
import HandS.DictTup
import PyProof.DictUpdate
import HandS.Conv
import HandS.Deep
import KE.KDictZip
import KE.GoesZip
import HandS.TupMul
import HandS.Text
import KE.KIntText
import PyProof.Rows.Digits
import PyProof.Rows.StrOr
import HandS.Star
import PySem.Challenge.RW_kindalone_k73_worths_mapped
set_option Elab.async false
set_option linter.all false
set_option maxRecDepth 100000
set_option maxHeartbeats 4000000
namespace Kr
open PySem PySem.Spec PyProof.Rows L2 RT
section
variable {prog : Program} {w : World} {A : Around} {E : Value → Shared → Prop} {s : Shared}
/-- a list grows by what a walk from behind over another list gives -/
theorem growRev {R : Result → Shared → Prop} {it l S : Addr} {its : Array Value} {res : Value} {c0 : Nat} (hh : A.handled = none) (hit : s.heap.IsRevIter it l ((its.size : Int) - 1))
    (hl : s.heap.IsList l its) (hne : l ≠ it) (hn : its.size ≤ sizeLine) (hS : s.heap.get? S = some { cls := .type "list", data := .seq #[] c0 }) (hSi : S ≠ it) (hSl : S ≠ l)
    (hR : ∀ (h' : Heap) (tk : Nat) (acc : Array Value) (c : Nat), (∀ b o, b ≠ it → b ≠ S → s.heap.get? b = some o → h'.get? b = some o) →
      h'.get? S = some { cls := .type "list", dict := none, data := .seq acc c, slots := #[] } → ItemsOf (fun i v => its[its.size - 1 - i]? = some v) acc its.size → R (.ok (.ret res)) { s with heap := h', toks := tk }) :
    wpAny (model prog w) A.in1 (Builtin.List.listExtendWith (.ref S) (.ref it) res)
      (fun fin s' => match fin with
        | .done f => R (.ok f) s'
        | .again c' => c'.quiet = true ∧ codeAny (model prog w) A c' R s') (fun e s' => R (.error e) s') s := by
  have W := (Walks.listRev (prog := prog) (w := w) (A := A.in1) hh it l hne its).toS
  have out : S ∉ [it, l] := by
    intro z
    rcases List.mem_cons.mp z with z | z
    · exact hSi z
    · exact hSl (List.mem_singleton.mp z)
  have ty : s.TypeIs (.ref it) "list_reverseiterator" := hit.typeIs
  have no : Builtin.List.listSameRef (.ref S) (.ref it) = false := by
    simp [Builtin.List.listSameRef, hSi]
  unfold Builtin.List.listExtendWith
  refine wpAny_bind (wpAny_typeOf ty ?_)
  rw [if_neg (by rw [no]; decide)]
  refine wpAny_bind (wpAny_pyIter_revIter hit ?_)
  refine wpAny_bind (wpAny_holding ?_)
  unfold Builtin.List.listLengthHint
  refine wpAny_bind (wpAny_specialOf ty RT.nolen_lri ?_)
  show wpAny _ A.in1 (specialOf (.ref it) (Str.ofString "__length_hint__") >>= _) _ _ _
  refine wpAny_bind (wpAny_specialOf ty RT.hint_lri ?_)
  generalize hid : ("list_reverseiterator.__length_hint__" : String) = nm
  wp_delta
  have sp : splitId nm = some ("list_reverseiterator", "__length_hint__") := by
    subst hid
    decide +kernel
  rw [sp]
  subst hid
  refine wpAny_bind (wpAny_isInstance (b := true) ty (by rw [isSubtype_type]; kernel_rfl) ?_)
  refine wpAny_pure ?_
  rw [if_neg (by decide)]
  have z0 : ((its.size : Nat) : Int) - 1 - ((0 : Nat) : Int) = (its.size : Int) - 1 := by omega
  have st0 : s.heap.IsRevIter it l ((its.size : Int) - 1 - ((0 : Nat) : Int)) := by rw [z0]; exact hit
  refine wpAny_pure ⟨plainId_quiet F.plain_extend_loop _, ?_⟩
  refine codeAny_extend_loopS W hn S out res its.size 0 _ _ _ rfl (Nat.zero_le _) ⟨Nat.zero_le _, st0, hl⟩ hS (ItemsOf.nil _) (fun s' acc' c' mv hS' hacc => ?_)
  rw [Moved.eq_with mv]
  refine hR s'.heap s'.toks acc' c' (fun b o h1 h2 e => mv.heap b o (fun z => ?_) e) hS' hacc
  rcases List.mem_cons.mp z with z | z
  · exact h2 z
  · exact h1 (List.mem_singleton.mp z)
theorem call_list_rev {Q : Value → Shared → Prop} {it l : Addr} {its : Array Value} (hh : A.handled = none) (hit : s.heap.IsRevIter it l ((its.size : Int) - 1)) (hl : s.heap.IsList l its) (hne : l ≠ it) (hn : its.size ≤ sizeLine)
    (hQ : ∀ (h' : Heap) (tk : Nat) (acc : Array Value) (c : Nat), (∀ b o, b ≠ it → s.heap.get? b = some o → h'.get? b = some o) →
      h'.get? s.heap.objs.size = some { cls := .type "list", dict := none, data := .seq acc c, slots := #[] } → ItemsOf (fun i v => its[its.size - 1 - i]? = some v) acc its.size → Q (.ref s.heap.objs.size) { s with heap := h', toks := tk }) :
    wpAny (model prog w) A (call (.type "list") [.ref it]) Q E s := by
  obtain ⟨oi, hoi, _⟩ := id hit
  obtain ⟨ol, hol, _⟩ := id hl
  have n1 : s.heap.objs.size ≠ it := Nat.ne_of_gt (Heap.lt_size hoi)
  have n2 : s.heap.objs.size ≠ l := Nat.ne_of_gt (Heap.lt_size hol)
  refine callType_codes (Q₁ := fun obj s₁ => obj = .ref s.heap.objs.size ∧ s₁ = { s with heap := s.heap.push { cls := .type "list", data := .seq #[] } })
    F.called_list (F.typeCall_list_1 _) F.entry_list_init (code_list_new _ ⟨rfl, rfl⟩) (fun obj s₁ h₁ => ?_)
  obtain ⟨rfl, rfl⟩ := h₁
  have hS : (s.heap.push { cls := .type "list", data := .seq #[] }).get? s.heap.objs.size
      = some { cls := .type "list", data := .seq #[] } := Heap.get?_push_size _ rfl
  refine ⟨⟨_, hS, rfl⟩, F.args_list_init_2 _ _, ?_⟩
  show wpAny _ _ (do
    let old ← Builtin.List.listItems (.ref s.heap.objs.size)
    Builtin.List.listUpdate (.ref s.heap.objs.size) (fun _ => #[])
    letGo old.toList.reverse
    Builtin.List.listExtendWith (.ref s.heap.objs.size) (.ref it) .none) _ _ _
  refine wpAny_bind ?_
  unfold Builtin.List.listItems
  refine wpAny_bind (wpAny_seqItems hS rfl (wpAny_pure ?_))
  show wpAny _ _ (do
    updateSeq s.heap.objs.size (fun _ => #[])
    letGo (#[] : Array Value).toList.reverse
    Builtin.List.listExtendWith (.ref s.heap.objs.size) (.ref it) .none) _ _ _
  refine wpAny_bind (wpAny_updateSeq hS rfl ?_)
  have hS2 := Heap.get?_update_self (Obj.mapSeq fun _ => (#[] : Array Value)) hS rfl
  refine wpAny_bind (wpAny_letGo ?_)
  generalize hh2 : (s.heap.push { cls := .type "list", data := .seq #[] }).update s.heap.objs.size (Obj.mapSeq fun _ => (#[] : Array Value)) = h2 at hS2 ⊢
  have kp : ∀ b o, s.heap.get? b = some o → h2.get? b = some o := fun b o e => by
    rw [← hh2, Heap.get?_update_other _ _ (Nat.ne_of_gt (Heap.lt_size e))]
    exact Heap.get?_push_of_some _ e
  have hl2 : h2.IsList l its := by
    obtain ⟨o, e, r⟩ := id hl
    exact ⟨o, kp _ _ e, r⟩
  refine growRev (A := A.in1) (s := { s with heap := h2 }) hh (hit.at fun o e => kp _ _ e) hl2 hne hn hS2 n1 n2 (fun h' tk acc c k e i => ?_)
  exact ⟨rfl, hQ h' tk acc c (fun b o hb hbo => k b o hb (Nat.ne_of_lt (Heap.lt_size hbo)) (kp b o hbo)) e i⟩
end
/-- list(reversed(x)), x a list -/
def tListRev (K : PySem.W.Frag) (te : TE) : TE := fun σ H Q => te σ H fun v G => ∃ (a : Addr) (xs : List V), v = .ref a ∧ SqL K G a xs ∧ ∀ q, G q = none → Q (.ref q) (upd G q (.lst xs.reverse))
theorem pe_listRev {X : Cx} {e : Expr} {te : TE} {p p2 pos pos2 : Pos} (hc : X.calm = true) (hg : Gl X "list") (hm : X.mg "list" = none) (hg2 : Gl X "reversed") (hm2 : X.mg "reversed" = none) (he : PE X e te)
    (hs : starEach [e] X.env = (false, eval e X.env) :: starEach [] X.env := by rfl)
    (hs2 : starEach [.Call (.Name "reversed" p2) [e] [] pos2] X.env = (false, eval (.Call (.Name "reversed" p2) [e] [] pos2) X.env) :: starEach [] X.env := by rfl) :
    PE X (.Call (.Name "list" p) [.Call (.Name "reversed" p2) [e] [] pos2] [] pos) (tListRev X.K te) := by
  refine ⟨fun pins s σ H Q I h => ?_⟩
  have inner := fun (Q' : Value → Shared → Prop) (k : ∀ (a : Addr) (xs : List V) (its : List Value) (s1 : Shared) (G : Hp), Inv X pins σ G s1 → SqL X.K G a xs → Vals xs its → PlainL s1.heap a its.toArray → xs.length ≤ sizeLine →
      (∀ q, G q = none → Q (.ref q) (upd G q (.lst xs.reverse))) → Q' (.ref s1.heap.objs.size) { s1 with heap := s1.heap.push (revObj a ((its.toArray.size : Int) - 1)) }) =>
    show wpAny (model X.prog X.w) X.A (eval (.Call (.Name "reversed" p2) [e] [] pos2) X.env) Q' X.xe s from
      Call_ (ld_blt I hg2 hm2 PyProof.Rows.boot_reversed (PyProof.Rows.callWith_type1 (args_cons (thn (he.run pins s σ H _ I h) fun u s1 ⟨v, G, I1, r1, a, xs, ev, hq, q⟩ => args_nil (by
        subst ev
        obtain rfl : u = Value.ref a := r1
        obtain ⟨its, rv, pl, hz⟩ := I1.list hq
        exact call_reversed_list pl.isList (k a xs its s1 G I1 hq rv pl hz q))) hs) hs rfl))
  refine Call_ (ld_blt I hg hm boot_list (PyProof.Rows.callWith_type1 (args_cons (inner _ fun a xs its s1 G I1 hq rv pl hz q => args_nil ?_) hs2) hs2 rfl))
  have k0 : ∀ b o, s1.heap.get? b = some o → (s1.heap.push (revObj a ((its.toArray.size : Int) - 1))).get? b = some o := fun b o z => Heap.get?_push_of_some _ z
  obtain ⟨ol, hol, _⟩ := id pl.isList
  have hne : a ≠ s1.heap.objs.size := Nat.ne_of_lt (Heap.lt_size hol)
  have hn : its.toArray.size ≤ sizeLine := by rw [List.size_toArray, ← rv.length]; exact hz
  generalize hh3 : s1.heap.push (revObj a ((its.toArray.size : Int) - 1)) = h3 at k0 ⊢
  have it3 : h3.IsRevIter s1.heap.objs.size a ((its.toArray.size : Int) - 1) := by
    rw [← hh3]
    exact ⟨_, Heap.get?_push_size _ rfl, rfl, rfl⟩
  have l3 : h3.IsList a its.toArray := by
    rw [← hh3]
    exact pl.isList.push _
  have lt3 : s1.heap.objs.size < h3.objs.size := by
    obtain ⟨o, e, _⟩ := id it3
    exact Heap.lt_size e
  refine call_list_rev (s := { s1 with heap := h3 }) (I1.ok.hd hc) it3 l3 hne hn fun h' tk acc c hk hS hi => ?_
  have hgo : G h3.objs.size = none := I1.hok.fresh (Nat.le_of_lt lt3)
  refine ⟨.ref h3.objs.size, upd G h3.objs.size (.lst xs.reverse), I1.laid (t' := tk) (fun b o z => hk b o (Nat.ne_of_lt (Heap.lt_size z)) (k0 b o z)) (Nat.le_of_lt lt3)
    (show ObjOk X.prog X.w _ _ _ (.lst xs.reverse) from ⟨by rw [List.length_reverse]; exact hz, acc.toList, c, vals_rev rv hi, by rw [Array.toArray_toList]; exact hS⟩), rfl, q _ hgo⟩
/-- xs.extend(t), t a tuple -/
def rExtT (K : PySem.W.Frag) : V → List V → Hp → VK → Prop := fun x vs H Q => ∃ l b xs zs, x = .ref l ∧ vs = [.ref b] ∧ H l = some (.lst xs) ∧ SqT K H b zs ∧ xs.length + zs.length ≤ sizeLine ∧ Q .non (upd H l (.lst (xs ++ zs)))
theorem mt_extT {X : Cx} : MtM X "list.extend" (rExtT X.K) := by
  intro pins s σ H x vs v us Q I rx rv h
  obtain ⟨l, b, xs, zs, rfl, rfl, hl, hb, hz, q⟩ := h
  cases rx
  obtain ⟨u, rfl, ru⟩ := rv.one
  cases ru
  obtain ⟨z1, its, n, r1, _, e1⟩ := I.lstM hl
  obtain ⟨jts, r2, ⟨o, eo, oc, m, od⟩, z2⟩ := I.tuple hb
  have n1 := r1.length
  have n2 := r2.length
  have sm : its.toArray.size + jts.toArray.size ≤ sizeLine := by
    rw [List.size_toArray, List.size_toArray]
    omega
  have ty : s.TypeIs (.ref b) "tuple" := ⟨o, eo, oc⟩
  refine wpAny_call_entry F.slot_list_extend ⟨_, e1, rfl⟩ F.entry_list_extend ?_ (F.args_list_extend_2 _ _)
  show wpAny _ _ (Builtin.List.listExtendWith (.ref l) (.ref b) .none) _ _ _
  unfold Builtin.List.listExtendWith
  refine wpAny_bind (wpAny_typeOf ty ?_)
  have yes : (Builtin.List.listSameRef (.ref l) (.ref b) || Value.type "tuple" == Value.type "list" || Value.type "tuple" == Value.type "tuple") = true := by simp
  rw [if_pos yes]
  refine wpAny_bind ?_
  unfold Builtin.List.listItems
  refine wpAny_bind (wpAny_seqItems eo od (wpAny_pure ?_))
  refine wpAny_bind ?_
  refine wpAny_bind (wpAny_seqItems e1 rfl (wpAny_pure ?_))
  have long : (!its.toArray.isEmpty && Builtin.List.listTooLong (its.toArray.size + jts.toArray.size)) = false := by
    rw [notLongL sm, Bool.and_false]
  rw [if_neg (by rw [long]; exact Bool.false_ne_true)]
  refine wpAny_bind ?_
  show wpAny _ _ (updateSeq l (· ++ jts.toArray)) _ _ _
  refine wpAny_updateSeq e1 rfl ?_ (by rw [List.size_toArray]; omega) (by rw [Array.size_append]; omega)
  refine wpAny_pure ⟨_, rfl, ?_⟩
  refine ⟨.non, _, I.lset (its' := its ++ jts) hl e1 (by simp) (r1.append r2) ?_, rfl, q⟩
  rw [List.length_append]
  exact hz
end Kr

/-! all(..) of a generator expression whose element may call defs -/
namespace Kg
open PySem PySem.Spec PyProof.Rows L2 GenW GxR
open Sem (wp)
theorem over_startC {A : Around} {elt t it : Expr} {ifs : List Expr} {scope : Scope} {pos : Pos} {iv acc : Value} {env : Env} : A.over (.compStart (.GeneratorExp elt [⟨t, it, ifs, 0⟩] scope pos) 0 iv acc env) [] = A.deeper env := by
  first
    | rfl
    | (obtain ⟨hd, d, fr, gs, u⟩ := A; simp [Around.over, Around.deeper, marksOver, frameCount, unitsOf, envsOf, guardsOf, pushEnvs, pushGuards, Code.envs, Code.env?, Code.isFrame, Code.guards, Code.isGuard, Code.weight, Code.frames, Code.isCreation, Code.isCaller, Code.cUnits])
theorem over_loopC {A : Around} {elt t it : Expr} {ifs : List Expr} {scope : Scope} {pos : Pos} {iv acc : Value} {env : Env} : A.over (.compLoop (.GeneratorExp elt [⟨t, it, ifs, 0⟩] scope pos) 0 iv acc env) [] = A.deeper env := by
  first
    | rfl
    | (obtain ⟨hd, d, fr, gs, u⟩ := A; simp [Around.over, Around.deeper, marksOver, frameCount, unitsOf, envsOf, guardsOf, pushEnvs, pushGuards, Code.envs, Code.env?, Code.isFrame, Code.guards, Code.isGuard, Code.weight, Code.frames, Code.isCreation, Code.isCaller, Code.cUnits])
/-- the scope of a generator expression within a def: its own names, those that it captures (with their places in N) -/
structure GxS (N : List Str) (sc scope : Scope) (own : List Str) (caps : List (Str × Nat)) : Prop where
  kind : scope.kind = .function
  co : scope.isCoroutine = false
  cell : ∀ y ∈ scope.names, y.2 ≠ .cell
  dot : scope.names.lookup (".0" : Str) = some NameKind.local
  nd : (own ++ caps.map (·.1)).Nodup
  caps : ∀ p ∈ caps, N[p.2]? = some p.1 ∧ scope.names.lookup p.1 = some .free
  free : ∀ y ∈ scope.names, y.2 = .free → sc.names.lookup y.1 = some .cell ∨ sc.names.lookup y.1 = some .free
  uniq : ∀ y ∈ scope.names, scope.names.lookup y.1 = some y.2
abbrev gxN (own : List Str) (caps : List (Str × Nat)) : List Str := own ++ caps.map (·.1)
abbrev gxSt (own : List Str) (caps : List (Str × Nat)) (σ : L2.St) : L2.St := own.map (fun _ => none) ++ caps.map (fun p => (σ[p.2]?).join)
abbrev gxEnv (X : Cx) (scope : Scope) (C : Addr) (code : Value) : Env := genEnv scope (cloFrom X.env.cells scope.names []) C code builtinsNs X.env
/-- the context of its frame -/
abbrev gcx (X : Cx) (A : Around) (N : List Str) (s : Shared) (H : Hp) (cenv : Env) (fp : List Addr) : Cx :=
  { X with A := A.deeper cenv, N := N, s_0 := s, H_0 := H, env := cenv, outer := X.stack, stack := cenv :: X.stack, ex := fp, fn := fun _ => false, calm := true, pn := [], xe := fun _ _ => False }
section
variable {X : Cx} {pins : List (Addr × Obj)} {σ : L2.St} {H : Hp} {s : Shared}
theorem gx_start {A : Around} {scope : Scope} {own : List Str} {caps : List (Str × Nat)} {fp : List Addr} {code : Value} {m0 : Str → Option Value} {s1 : Shared} (I : Inv X pins σ H s) (S : GxS X.N X.env.scope scope own caps) (hh : A.handled = none) (hfr : A.frames = some X.stack)
    (hfp : ∀ b ∈ fp, FpOk X pins H b ∧ b < s.heap.objs.size) (hns : s1.heap.Ns s.heap.objs.size m0) (kp : ∀ b o, s.heap.get? b = some o → s1.heap.get? b = some o) (hos : s1.os = s.os) (hb : AllBare s1.gens) :
    Inv (gcx X A (gxN own caps) s H (gxEnv X scope s.heap.objs.size code) fp) [] (gxSt own caps σ) H s1 := by
  have hfree : ∀ y ∈ scope.names, y.2 = .free → ∃ c, X.env.cells.lookup y.1 = some c := fun y hy e => by
    rcases S.free y hy e with k | k
    · exact I.ok.has _ (.inl k)
    · exact I.ok.has _ (.inr k)
  have cm : ∀ {y c}, (y, c) ∈ cloFrom X.env.cells scope.names [] → X.env.cells.lookup y = some c ∧ c < s.heap.objs.size := fun {y c} hm => by
    rcases cloFrom_mem hm with hm | ⟨h1, rfl⟩
    · cases hm
    · obtain ⟨c, hc⟩ := hfree _ h1 rfl
      rw [hc]
      obtain ⟨w, z⟩ := I.cell _ _ hc
      exact ⟨rfl, z.lt⟩
  have mem : ∀ {y c}, (cloFrom X.env.cells scope.names []).lookup y = some c → X.env.cells.lookup y = some c ∧ c < s.heap.objs.size := fun {y c} e => cm (PySem.mem_of_lookup e)
  have look : ∀ {y}, scope.names.lookup y = some .free → ∃ c, (cloFrom X.env.cells scope.names []).lookup y = some c := fun {y} hl => by
    have hy : (y, NameKind.free) ∈ scope.names := PySem.mem_of_lookup hl
    exact mem_lookup (cloFrom_has (cells := X.env.cells) (acc := []) hy)
  have nfs : ∀ b o, X.base.get? b = some o → b ∉ frs X.stack := fun b o e z => by
    rcases List.mem_cons.mp (I.stkSub b z) with z | z
    · have h1 := Heap.lt_size e
      have h2 := Nat.le_trans I.ok.bsz I.ok.above
      rw [z] at h1
      exact absurd (Nat.lt_of_lt_of_le h1 h2) (Nat.lt_irrefl _)
    · exact I.ok.nofr e z
  have okB : (gcx X A (gxN own caps) s H (gxEnv X scope s.heap.objs.size code) fp).Ok := by
    refine ⟨I.ok.mod, S.kind, I.ok.glob, rfl, Nat.le_refl _, fun y z c e1 e2 => I.ok.inj y z c (mem e1).1 (mem e2).1, fun y hy => ?_, fun y c z e => ?_, fun _ => hh, ?_, .inr ⟨rfl, rfl⟩, fun b hb => ⟨Nat.ne_of_lt (hfp b hb).2, fun y c e z => (hfp b hb).1.2.2.2.2.1 y c (mem e).1 z⟩,
      I.bs, Nat.le_trans I.ok.bsz I.sz, fun b o e hb => ?_, fun b hb z => ?_, I.stack, I.stkFree⟩
    · have hy : scope.names.lookup y = some .cell ∨ scope.names.lookup y = some .free := hy
      rcases hy with hy | hy
      · exact absurd rfl (S.cell _ (PySem.mem_of_lookup hy))
      · exact look hy
    · cases z
    · exact Around.frames_deeper hfr
    · rcases (hfp b hb).1.2.2.2.1 with z | z
      · exact I.ok.noex b o e z
      · exact absurd (Nat.lt_of_lt_of_le (Heap.lt_size e) (Nat.le_trans I.ok.bsz z)) (Nat.lt_irrefl _)
    · rcases List.mem_cons.mp (I.stkSub b z) with z | z
      · exact (hfp b hb).1.2.1 z
      · exact (hfp b hb).1.2.2.1 z
  refine ⟨okB, hos, hb, Un.kept kp, ⟨m0, hns, fun i y av e1 e2 e3 => ?_⟩, fun y c e => ?_, I.hok.fresh (Nat.le_refl _), fun y c e => ?_, fun p hp => ?_, I.hok.kept kp, ?_⟩
  · have e1 : (own ++ caps.map (·.1))[i]? = some y := e1
    have e2 : (own.map (fun _ => (none : Option V)) ++ caps.map (fun p => (σ[p.2]?).join))[i]? = some (some av) := e2
    by_cases hi : i < own.length
    · rw [List.getElem?_append_left (by rw [List.length_map]; exact hi), List.getElem?_map, List.getElem?_eq_getElem hi] at e2
      cases e2
    · rw [List.getElem?_append_right (by rw [List.length_map]; omega), List.length_map, List.getElem?_map] at e2
      rw [List.getElem?_append_right (by omega), List.getElem?_map] at e1
      cases hc : caps[i - own.length]? with
      | none => rw [hc] at e1; cases e1
      | some p =>
        rw [hc] at e1 e2
        have e1 : p.1 = y := Option.some.inj e1
        have e2 : (σ[p.2]?).join = some av := Option.some.inj e2
        obtain ⟨hN, hf⟩ := S.caps p (List.mem_of_getElem? hc)
        have hσ : σ[p.2]? = some (some av) := by
          cases q : σ[p.2]? with
          | none => rw [q] at e2; cases e2
          | some o => rw [q] at e2; exact congrArg some e2
        have hv : X.env.scope.names.lookup p.1 = some .cell ∨ X.env.scope.names.lookup p.1 = some .free := S.free (p.1, .free) (PySem.mem_of_lookup hf) rfl
        obtain ⟨m, hm, hl⟩ := I.loc
        obtain ⟨u, ru, lk⟩ := hl p.2 p.1 av hN hσ (.inr hv)
        subst e1
        refine ⟨u, ru, .inr ⟨.inr hf, ?_⟩⟩
        obtain ⟨c, hc'⟩ := look hf
        refine ⟨c, hc', ?_⟩
        rcases lk with ⟨h1, _⟩ | ⟨_, c2, h2, h3⟩
        · have h1 : X.env.scope.names.lookup p.1 = some .local := h1
          rcases hv with hv | hv
          · rw [hv] at h1; cases h1
          · rw [hv] at h1; cases h1
        · rw [(mem hc').1] at h2
          cases h2
          obtain ⟨o, ho, hd⟩ := h3
          exact ⟨o, kp _ _ ho, hd⟩
  · obtain ⟨v, o, ho, hd⟩ := I.cell y c (mem e).1
    exact ⟨v, o, kp _ _ ho, hd⟩
  · exact I.freeC y c (mem e).1
  · exact absurd (show p ∈ ([] : List (Addr × Obj)) ++ [] from hp) (by simp)
  · show (own.map (fun _ => (none : Option V)) ++ caps.map (fun p => (σ[p.2]?).join)).length = (own ++ caps.map (·.1)).length
    simp
end
/-! the protocol -/
/-- behind the whole: only the table of generators has turned, things may be new -/
def Done (Qf : Value → Shared → Prop) (b : Bool) (s : Shared) : Prop := ∀ s' : Shared, (∀ x o, s.heap.get? x = some o → s'.heap.get? x = some o) → s'.os = s.os → AllBare s'.gens → Qf (.bool b) s'
def GEndA (Qf : Value → Shared → Prop) : Nat → Shared → Shared → Prop := fun _ _ s => AllBare s.gens ∧ Done Qf true s
def GProto (Qf : Value → Shared → Prop) (a : Addr) (g : Nat) : Protocol := fun _ _ v s kap =>
  ∃ b : Bool, v = .bool b ∧ s.heap.IsGen a g ∧ s.heap.NoLimit ∧ AllBare s.gens ∧ (b = true → ∀ s' : Shared, s'.heap = s.heap → s'.os = s.os → AllBare s'.gens → kap (.send .none) s') ∧ (b = false → Done Qf false s)
section
variable {P : Program} {w : World} {A : Around} {Qf : Value → Shared → Prop} {a : Addr} {g : Nat}
/-- all's own loop -/
theorem all_drain (hh : A.handled = none) (hd : A.depth < recursionLimit) : ∀ (n : Nat) (s : Shared), s.heap.IsGen a g → s.heap.NoLimit →
    (∃ gs, s.gens[g]? = some gs ∧ gs.Goes (model P w) A.in1.in1 (fun n s₀ r s₁ => r = .ok .next ∧ GEndA Qf n s₀ s₁) (GProto Qf a g) n (.send .none) (s.setGen g .running)) →
    codeAny (model P w) A (.builtin "all.loop" ⟨[.ref a], []⟩) (fun r s' => ∃ b : Bool, r = .ok (.ret (.bool b)) ∧ Qf (.bool b) s') s := by
  intro n
  induction n with
  | zero =>
    intro s hg hl ⟨gs, hgs, hgo⟩
    refine codeAny_builtin F.entry_all_loop ?_
    rw [Around.under_plainId F.plain_all_loop _]
    show wpAny _ A.in1 (pyNext (.ref a) >>= _) _ _ s
    refine wpAny_bind (wpAny_pyNext_genexpQ (A := A.in1) (P := GEndA Qf) hh hl hd hg hgs hgo (fun v s₁ gs' hbare hv => ?_) (fun s₁ hp h' hk => ?_))
    · obtain ⟨b, rfl, hg1, hl1, hb1, ht, hf⟩ := hv
      cases b with
      | true => exact False.elim (ht rfl s₁ rfl rfl hb1)
      | false =>
        refine wpAny_bind (wpAny_holding (wpAny_truthy_bool ?_))
        refine wpAny_bind (wpAny_letGo ?_)
        simp only [Bool.false_eq_true, if_false]
        refine wpAny_bind (wpAny_rule (wpAny_pure ⟨false, rfl, hf rfl _ (fun x o e => e) rfl (allBare_setGen hb1 hbare)⟩))
    · refine wpAny_bind (wpAny_rule (wpAny_pure ⟨true, rfl, hp.2 _ hk rfl (allBare_setGen hp.1 rfl)⟩))
  | succ n ih =>
    intro s hg hl ⟨gs, hgs, hgo⟩
    have hgl : g < s.gens.size := (Array.getElem?_eq_some_iff.mp hgs).1
    refine codeAny_builtin F.entry_all_loop ?_
    rw [Around.under_plainId F.plain_all_loop _]
    show wpAny _ A.in1 (pyNext (.ref a) >>= _) _ _ s
    refine wpAny_bind (wpAny_gsz (n := g + 1) hgl (wpAny_pyNext_genexpQ (A := A.in1) (P := GEndA Qf) hh hl hd hg hgs hgo (fun v s₁ gs' hbare hv => ?_) (fun s₁ hp h' hk => ?_)))
    · intro hsz
      have hsz1 : g < s₁.gens.size := by
        have q : (s₁.setGen g gs').gens.size = s₁.gens.size := setGen_size _ _ _
        have hsz' : g + 1 ≤ (s₁.setGen g gs').gens.size := hsz
        omega
      obtain ⟨b, rfl, hg1, hl1, hb1, ht, hf⟩ := hv
      refine wpAny_bind (wpAny_holding (wpAny_truthy_bool ?_))
      refine wpAny_bind (wpAny_letGo ?_)
      cases b with
      | true =>
        simp only [if_true]
        refine wpAny_pure ⟨plainId_quiet F.plain_all_loop _, ih _ hg1 hl1 ⟨gs', setGen_at hsz1, ?_⟩⟩
        exact ht rfl _ rfl rfl (allBare_setGen (s := s₁.setGen g gs') (allBare_setGen hb1 hbare) rfl)
      | false =>
        simp only [Bool.false_eq_true, if_false]
        refine wpAny_bind (wpAny_rule (wpAny_pure ⟨false, rfl, hf rfl _ (fun x o e => e) rfl (allBare_setGen hb1 hbare)⟩))
    · intro hsz
      refine wpAny_bind (wpAny_rule (wpAny_pure ⟨true, rfl, hp.2 _ hk rfl (allBare_setGen hp.1 rfl)⟩))
theorem call_all_gen {E : Value → Shared → Prop} {n : Nat} {s : Shared} (hh : A.handled = none) (hd : A.depth < recursionLimit) (hg : s.heap.IsGen a g) (hl : s.heap.NoLimit)
    (hgo : ∃ gs, s.gens[g]? = some gs ∧ gs.Goes (model P w) A.in1.in1 (fun n s₀ r s₁ => r = .ok .next ∧ GEndA Qf n s₀ s₁) (GProto Qf a g) n (.send .none) (s.setGen g .running)) : wpAny (model P w) A (call (.builtin "all") [.ref a]) Qf E s := by
  refine call_function_tree F.kind_all F.plain_all F.entry_all (F.args_all1 _) ?_
  unfold Builtin.«all»
  refine wpAny_bind (m := oneArg "all" _) (wpAny_pure ?_)
  refine wpAny_bind (wpAny_pyIter_gen hg ?_)
  refine wpAny_pure ⟨plainId_quiet F.plain_all_loop _, codeAny_mono (all_drain hh hd n s hg hl hgo) fun r s' h => ?_⟩
  obtain ⟨b, rfl, q⟩ := h
  exact q
end
end Kg

namespace Kg
open PySem PySem.Spec PyProof.Rows L2 GenW GxR
open Sem (wp)
theorem inv_same {G : Cx} {pins : List (Addr × Obj)} {σ : L2.St} {H : Hp} {s s' : Shared} (I : Inv G pins σ H s) (hk : ∀ x o, s.heap.get? x = some o → s'.heap.get? x = some o) (ho : s'.os = s.os) (hb : AllBare s'.gens) : Inv G pins σ H s' :=
  I.call' (ch := []) ho (Un.kept hk) (I.hok.kept hk) hb fun b z => by simp at z
/-- a turn's wish -/
def Turns (J : It) (σ0 : L2.St) (vs : List Nat) (g : TG) (te : TE) (Qe : Bool → Hp → Prop) (W : Nat → Nat → Hp → Prop) : Prop :=
  ∀ i m H, W i m H → (J.stop i H ∧ Qe true H) ∨ (J.go i H ∧ ∃ Nx : Hp → Prop, (∀ H', Nx H' → ∃ m', m' < m ∧ W (i + 1) m' H') ∧ ∀ x H', J.yld i H x H' → g x σ0 H' fun σ2 H2 => wipe σ2 vs = σ0 ∧ te σ2 H2 fun y H4 => ∃ b, y = .bl b ∧ if b = true then Nx H4 else Qe false H4)
section
variable {X : Cx} {A : Around} {N : List Str} {s4 : Shared} {H0 : Hp} {cenv : Env} {fp : List Addr} {tg elt iter : Expr} {scope : Scope} {pos : Pos} {it a : Addr} {gi : Nat} {go : Obj} {J : It} {tn : Nat → Heap → Prop} {σ0 : L2.St} {vs : List Nat} {g : TG} {te : TE} {Qe : Bool → Hp → Prop} {W : Nat → Nat → Hp → Prop} {Qf : Value → Shared → Prop}
theorem gx_loop (hh : A.handled = none) (hco : cenv.scope.isCoroutine = false) (T : Turn X.prog X.w X.K tg J fp it tn) (haf : a ∉ fp) (hgen : ∀ h : Heap, h.get? a = some go → h.IsGen a gi)
    (pg : PG (gcx X A N s4 H0 cenv fp) tg g) (pe : PE (gcx X A N s4 H0 cenv fp) elt te) (turn : Turns J σ0 vs g te Qe W)
    (hfin : ∀ b s H', Inv (gcx X A N s4 H0 cenv fp) [(a, go)] σ0 H' s → Qe b H' → Done Qf b s) :
    ∀ (m n i : Nat) (H : Hp) (s₀ s : Shared), m < n → W i m H → Inv (gcx X A N s4 H0 cenv fp) [(a, go)] σ0 H s → tn i s.heap → (∀ b ∈ fp, H b = none) →
      Seg (model X.prog X.w) A (fun n s₀ r s₁ => r = .ok .next ∧ GEndA Qf n s₀ s₁) (GProto Qf a gi) n s₀ (.compLoop (.GeneratorExp elt [⟨tg, iter, [], 0⟩] scope pos) 0 (.ref it) .none cenv)
        ((model X.prog X.w).den (.compLoop (.GeneratorExp elt [⟨tg, iter, [], 0⟩] scope pos) 0 (.ref it) .none cenv)) [] s := by
  have stat : ∀ {σ' : L2.St} {H' : Hp} {s' : Shared}, Inv (gcx X A N s4 H0 cenv fp) [(a, go)] σ' H' s' → (∀ b ∈ fp, H' b = none) → ∀ b ∈ fp, FpOk (gcx X A N s4 H0 cenv fp) [(a, go)] H' b := fun {σ' H' s'} I' hn b hb =>
    ⟨hn b hb, (I'.ok.exf b hb).1, I'.ok.exfs b hb, .inl hb, fun x c e => (I'.ok.exf b hb).2 x c e, fun p hp z => by
      have hp : p ∈ [(a, go)] := hp
      rw [List.mem_singleton.mp hp] at z
      have z : a = b := z
      exact haf (by rw [z]; exact hb)⟩
  have hy : ∀ v, yieldOut cenv v = yieldValue v := fun v => by simp only [yieldOut, hco, Bool.false_eq_true, if_false]
  intro m
  induction m using Nat.strongRecOn with
  | ind m ih =>
    intro n i H s₀ s hmn hW I hst hn
    obtain ⟨n, rfl⟩ : ∃ k, n = k + 1 := ⟨n - 1, by omega⟩
    show Seg _ A _ _ _ s₀ _ ((compTurn (.GeneratorExp elt [⟨tg, iter, [], 0⟩] scope pos) 0 (.ref it) .none cenv).onRaise (leaving cenv)) [] s
    rw [compTurn_gen, Sem.onRaise_eq_wrap]
    refine seg_bind_wrap (wpAny_standAt ?_)
    rcases turn i m H hW with ⟨stop, qq⟩ | ⟨hgo, Nx, hNx, step⟩
    · refine seg_bind_wrap ?_
      rw [over_loopC]
      refine thn (T.done (gcx X A N s4 H0 cenv fp) rfl rfl rfl rfl i [(a, go)] s _ H _ I (stat I hn) hst stop) fun r s6 ⟨hr, I6⟩ => ?_
      subst hr
      exact seg_end (.ok .next) ⟨rfl, I6.bare, hfin true s6 H I6 qq⟩
    · refine seg_bind_wrap ?_
      rw [over_loopC]
      refine thn (T.item (gcx X A N s4 H0 cenv fp) rfl rfl rfl rfl i [(a, go)] s _ H _ I (stat I hn) hst hgo) fun r s6 ⟨u, hr, h6⟩ => ?_
      subst hr
      refine seg_bind_wrap ?_
      rw [over_loopC]
      refine thn h6 fun _ s7 ⟨x, H7, I7, r7, y7, st7, n7⟩ => ?_
      have I7' := I7.pinned (stat I7 n7) (T.obj _ _ st7)
      refine seg_bind_wrap ?_
      rw [over_loopC]
      refine wpAny_mono (pg.run _ s7 _ H7 x u _ I7' r7 (step x H7 y7)) (fun _ s8 ⟨σ8, H8, I8, hw8, q8⟩ => ?_) fun _ _ e => e.elim
      have fin : ∀ {s' : Shared} {H' : Hp}, Inv (gcx X A N s4 H0 cenv fp) ([(a, go)] ++ pinsAt fp s7.heap) σ8 H' s' → Inv (gcx X A N s4 H0 cenv fp) [(a, go)] σ0 H' s' ∧ tn (i + 1) s'.heap ∧ ∀ b ∈ fp, H' b = none := fun {s' H'} I' => by
        have pin' : ∀ b ∈ fp, ∀ o, s7.heap.get? b = some o → s'.heap.get? b = some o ∧ H' b = none := fun b hb o e =>
          let z := I'.pin (b, o) (List.mem_append_right _ (List.mem_append_right _ (mem_pinsAt hb e)))
          ⟨z.1, z.2.1⟩
        have hl : σ0.length = σ8.length := by rw [← hw8, wipe_length]
        refine ⟨(I'.unpinned (pins := [(a, go)])).weak hl (fun j v e => ?_), T.keep _ _ _ st7 fun b hb o e => (pin' b hb o e).1, fun b hb => ?_⟩
        · rw [← hw8] at e
          exact (wipe_some e).1
        · obtain ⟨o, e, _⟩ := T.obj _ _ st7 b hb
          exact (pin' b hb o e).2
      simp only [List.forIn_nil]
      refine seg_bind_wrap (wpAny_pure ?_)
      simp only [if_true]
      simp only [hy]
      rw [Sem.bind_eq_wrap', Sem.bind_eq_wrap', Sem.wrap_wrap, Sem.wrap_wrap]
      refine seg_wrap ?_
      rw [over_loopC]
      refine wpAny_mono (pe.run _ s8 σ8 H8 _ I8 q8) (fun v s10 ⟨y, H10, I10, r10, b, hyb, q10⟩ => ?_) fun _ _ e => e.elim
      subst hyb
      obtain rfl : v = Value.bool b := r10
      obtain ⟨J1, J2, J3⟩ := fin I10
      have hga : s10.heap.IsGen a gi := hgen _ (J1.pin (a, go) (List.mem_append_right _ (List.mem_singleton.mpr rfl))).1
      refine seg_at (seg_yield rfl rfl rfl ⟨b, rfl, hga, J1.nolimit, J1.bare, fun hb s'' e1 e2 e3 => ?_, fun hb => ?_⟩)
      · subst hb
        rw [if_pos rfl] at q10
        obtain ⟨m', hm', w'⟩ := hNx H10 q10
        refine seg_again rfl (ih m' hm' n (i + 1) H10 s'' s'' (by omega) w' (inv_same J1 (fun x o e => by rw [e1]; exact e) e2 e3) (by rw [e1]; exact J2) J3)
      · subst hb
        rw [if_neg Bool.false_ne_true] at q10
        exact hfin false s10 H10 J1 q10
theorem gx_begin (hh : A.handled = none) (hco : cenv.scope.isCoroutine = false) (T : Turn X.prog X.w X.K tg J fp it tn) (haf : a ∉ fp) (hgen : ∀ h : Heap, h.get? a = some go → h.IsGen a gi)
    (pg : PG (gcx X A N s4 H0 cenv fp) tg g) (pe : PE (gcx X A N s4 H0 cenv fp) elt te) (turn : Turns J σ0 vs g te Qe W)
    (hfin : ∀ b s H', Inv (gcx X A N s4 H0 cenv fp) [(a, go)] σ0 H' s → Qe b H' → Done Qf b s) {m : Nat} {H : Hp} {s : Shared} (w0 : W 0 m H) (I : Inv (gcx X A N s4 H0 cenv fp) [(a, go)] σ0 H s) (hst : tn 0 s.heap) (hn : ∀ b ∈ fp, H b = none) :
    Seg (model X.prog X.w) A (fun n s₀ r s₁ => r = .ok .next ∧ GEndA Qf n s₀ s₁) (GProto Qf a gi) (m + 1) s (.compStart (.GeneratorExp elt [⟨tg, iter, [], 0⟩] scope pos) 0 (.ref it) .none cenv)
      ((model X.prog X.w).den (.compStart (.GeneratorExp elt [⟨tg, iter, [], 0⟩] scope pos) 0 (.ref it) .none cenv)) [] s := by
  have loop := gx_loop (iter := iter) (scope := scope) (pos := pos) hh hco T haf hgen pg pe turn hfin m (m + 1) 0 H s s (Nat.lt_succ_self _) w0 I hst hn
  show Seg _ A _ _ _ s _ ((compStart (.GeneratorExp elt [⟨tg, iter, [], 0⟩] scope pos) 0 (.ref it) .none cenv).onRaise (leaving cenv)) [] s
  unfold compStart
  rw [Sem.onRaise_eq_wrap]
  show Seg _ A _ _ _ s _ ((ask >>= _).wrap _ _ _ _) [] s
  refine seg_bind_wrap (wpAny_askSetting ?_)
  split
  · exact seg_again rfl loop
  · first
      | exact seg_bind_wrap (wpAny_rule (seg_bind_wrap (wpAny_standAt (seg_bind_wrap (T.self _ 0 s _ _ hst (seg_again rfl loop))))))
      | (refine seg_bind_wrap (wpAny_rule ?_); show Seg _ A _ _ _ s _ ((standAt iter.pos >>= _).wrap _ _ _ _) [] s; exact seg_bind_wrap (wpAny_standAt (seg_bind_wrap (T.self _ 0 s _ _ hst (seg_again rfl loop)))))
end
/-! the rule -/
section
variable {X : Cx}
/-- all(elt for tg in iter) -/
def tAllG (P : Addr) (wi : TI) (own : List Str) (caps : List (Str × Nat)) (vs : List Nat) (g : TG) (te : TE) : TE := fun σ H Q => wi σ H fun J H1 => TabG H1 P ∧ ∀ H2, Tabbed P H1 H2 → ∃ W : Nat → Nat → Hp → Prop, (∃ m, W 0 m H2) ∧ Turns J (gxSt own caps σ) vs g te (fun b H' => Q (.bl b) H') W
theorem pe_allG {c P : Addr} {elt tg iter : Expr} {p pos gpos : Pos} {scope : Scope} {own : List Str} {caps : List (Str × Nat)} {vs : List Nat} {wi : TI} {g : TG} {te : TE} {k : Nat}
    (hr : Room k X.A) (hg : Gl X "all") (hm : X.mg "all" = none) (TB : TabB X.base X.mg c P) (hcode : X.env.code = .ref c) (S : GxS X.N X.env.scope scope own caps) (hi : PI X tg iter wi)
    (pg : ∀ (s : Shared) (H : Hp) (C : Addr) (cd : Value) (fp : List Addr), PG (gcx X X.A.in1.in1 (gxN own caps) s H (gxEnv X scope C cd) fp) tg g)
    (pe : ∀ (s : Shared) (H : Hp) (C : Addr) (cd : Value) (fp : List Addr), PE (gcx X X.A.in1.in1 (gxN own caps) s H (gxEnv X scope C cd) fp) elt te)
    (hs : ∀ v, genFold iter X.env v = pure v := by intro _; rfl)
    (he : starEach [.GeneratorExp elt [⟨tg, iter, [], 0⟩] scope gpos] X.env = (false, eval (.GeneratorExp elt [⟨tg, iter, [], 0⟩] scope gpos) X.env) :: starEach [] X.env := by rfl) :
    PE X (.Call (.Name "all" p) [.GeneratorExp elt [⟨tg, iter, [], 0⟩] scope gpos] [] pos) (tAllG P wi own caps vs g te) := by
  refine ⟨fun pins s σ H Q I h => ?_⟩
  have hfree : ∀ y ∈ scope.names, y.2 = .free → ∃ c, X.env.cells.lookup y.1 = some c := fun y hy e => by
    rcases S.free y hy e with k | k
    · exact I.ok.has _ (.inl k)
    · exact I.ok.has _ (.inr k)
  refine wpAny_Call_Name_kw (ld_blt I hg hm PyProof.Rows.boot_all ?_)
  refine PyProof.Rows.callWith_builtin1 ?_ he (by rfl)
  rw [he]
  show wpAny _ _ (spliced ((false, eval (.GeneratorExp elt [⟨tg, iter, [], 0⟩] scope gpos) X.env) :: backTo pos (starEach [] X.env))) _ _ s
  refine Calls.spliced_cons ?_
  refine wpAny_GeneratorExp_make S.co (closure_ok hfree) S.cell S.dot S.kind (by have := hr.dp; omega) ?_ hs
  refine thn (hi.run pins s σ H _ I h) fun xv s1 hx => thn hx fun itv s2 h2 => ?_
  obtain ⟨it, fp, tn, J, H1, rfl, I2, T, st2, f2, ⟨ps, hP, ht⟩, q⟩ := h2
  refine ⟨I2.nolimit, ?_⟩
  have hPs : s2.heap.get? P = some { cls := .none, data := .fields ps } := I2.hok P _ hP
  have cd : PySem.W.CodeHd s2.heap c P := TB.code.keeps I2.bk
  have sz2 : ∀ b ∈ fp, b < s2.heap.objs.size := fun b hb => by
    obtain ⟨o, e, _⟩ := T.obj _ _ st2 b hb
    exact Heap.lt_size e
  have cont : ∀ (code : Value) (h3 : Heap) (tk : Nat) (ps' more : Array Value), Heap.ExtBut P s2.heap h3 → s2.heap.objs.size ≤ h3.objs.size → h3.get? P = some { cls := .none, data := .fields ps' } → ps' = ps ++ more → TriplesOk ps'.toList →
      wpAny (model X.prog X.w) X.A (builtinsFor X.env.globals X.env.builtins) (fun bi s₄ =>
        ∀ h', h'.Ns s₄.heap.objs.size (fun y => if y = ".0" then some (.ref it) else none) → Heap.SameBut s₄.heap.objs.size (s₄.heap.push { cls := .type "frame", data := .dict #[] }) h' →
          wpAny (model X.prog X.w) X.A (spliced (backTo pos (starEach [] X.env))) (fun us s' => wpAny (model X.prog X.w) X.A (call (.builtin "all") (.ref h'.objs.size :: us)) (EP X pins σ Q) X.xe s') X.xe { s₄ with
            gens := s₄.gens.push (.fresh (.compStart (.GeneratorExp elt [⟨tg, iter, [], 0⟩] scope gpos) 0 (.ref it) .none (genEnv scope (cloFrom X.env.cells scope.names []) s₄.heap.objs.size code bi X.env))),
            toks := s₄.toks + 1 + 1 + 1,
            heap := h'.push { cls := .type "generator", data := .fields #[.int s₄.gens.size 0, .str "<genexpr>" (s₄.toks + 1), .str (X.env.qual ++ "<genexpr>") (s₄.toks + 1 + 1)] } }) X.xe { s2 with heap := h3, toks := tk } := by
    intro code h3 tk ps' more hx hsz hP3 hmore ht3
    obtain ⟨bm, ob, e1, e2, e3, e4, e5, e6, e7, e8⟩ := TB.bm
    have keep3 : ∀ b u, b ≠ P → s2.heap.get? b = some u → h3.get? b = some u := fun b u hb e => hx b u hb e
    refine wpAny_builtinsFor (m := X.mg) (by rw [I2.ok.glob]; exact (I2.mod.glob.keeps I2.bk).extBut hx TB.gP) e1 e2 (keep3 _ _ e4 (I2.bk _ _ e5)) e6 e7 e8 ?_
    intro h' hns hsb
    have I3 : Inv X pins σ (upd H1 P (.tbl (ps ++ more))) { s2 with heap := h3, toks := tk } := inv_tab (more := more) (g' := s2.gens) (d' := s2.drawn) (t' := tk) I2 hP keep3 (by rw [← hmore]; exact hP3) I2.bare
    have hT : Tabbed P H1 (upd H1 P (.tbl (ps ++ more))) := ⟨⟨ps ++ more, upd_same, by rw [← hmore]; exact ht3⟩, fun b hb => upd_ne hb⟩
    obtain ⟨W, ⟨m, w0⟩, turn⟩ := q _ hT
    have nP : ∀ b ∈ fp, b ≠ P := fun b hb z => by
      have := (f2 b hb).1
      rw [z, hP] at this
      cases this
    have f3 : ∀ b ∈ fp, FpOk X pins (upd H1 P (.tbl (ps ++ more))) b ∧ b < h3.objs.size := fun b hb => ⟨⟨by rw [upd_ne (nP b hb)]; exact (f2 b hb).1, (f2 b hb).2⟩, Nat.lt_of_lt_of_le (sz2 b hb) hsz⟩
    generalize upd H1 P (.tbl (ps ++ more)) = H3 at I3 w0 f3
    have hsz' : h'.objs.size = h3.objs.size + 1 := by rw [hsb.1, Heap.size_push]
    have keep' : ∀ b o, h3.get? b = some o → h'.get? b = some o := fun b o e => hsb.extBut b o (Nat.ne_of_lt (Heap.lt_size e)) (Heap.get?_push_of_some _ e)
    refine Calls.spliced_nil ?_
    generalize hgo : ({ cls := .type "generator", data := .fields #[.int s2.gens.size 0, .str "<genexpr>" (tk + 1), .str (X.env.qual ++ "<genexpr>") (tk + 1 + 1)] } : Obj) = go
    have hgen : ∀ hp : Heap, hp.get? h'.objs.size = some go → hp.IsGen h'.objs.size s2.gens.size := fun hp e => ⟨go, _, _, e, by rw [← hgo], by rw [← hgo], by rw [← hgo]⟩
    have hput : (h'.push go).get? h'.objs.size = some go := Heap.get?_push_size _ (by rw [← hgo]; rfl)
    have hgd : ∀ v, go.data ≠ .cell v := fun v z => by rw [← hgo] at z; cases z
    show wpAny _ _ (call (.builtin "all") [.ref h'.objs.size]) _ _ { s2 with gens := s2.gens.push (.fresh (.compStart (.GeneratorExp elt [⟨tg, iter, [], 0⟩] scope gpos) 0 (.ref it) .none (gxEnv X scope h3.objs.size code))), toks := tk + 1 + 1 + 1, heap := h'.push go }
    have keep5 : ∀ b o, h3.get? b = some o → (h'.push go).get? b = some o := fun b o e => Heap.get?_push_of_some _ (keep' b o e)
    have hb5 : AllBare (s2.gens.push (.fresh (.compStart (.GeneratorExp elt [⟨tg, iter, [], 0⟩] scope gpos) 0 (.ref it) .none (gxEnv X scope h3.objs.size code)))) := I2.bare.push rfl
    have hrun : AllBare (({ s2 with gens := s2.gens.push (.fresh (.compStart (.GeneratorExp elt [⟨tg, iter, [], 0⟩] scope gpos) 0 (.ref it) .none (gxEnv X scope h3.objs.size code))), toks := tk + 1 + 1 + 1, heap := h'.push go } : Shared).setGen s2.gens.size .running).gens := allBare_setGen hb5 rfl
    have G0 : Inv (gcx X X.A.in1.in1 (gxN own caps) { s2 with heap := h3, toks := tk } H3 (gxEnv X scope h3.objs.size code) fp) [] (gxSt own caps σ) H3 (({ s2 with gens := s2.gens.push (.fresh (.compStart (.GeneratorExp elt [⟨tg, iter, [], 0⟩] scope gpos) 0 (.ref it) .none (gxEnv X scope h3.objs.size code))), toks := tk + 1 + 1 + 1, heap := h'.push go } : Shared).setGen s2.gens.size .running) :=
      gx_start (s := { s2 with heap := h3, toks := tk }) I3 S hr.hd I3.ok.frames f3 (hns.push go) keep5 rfl hrun
    have hna : H3 h'.objs.size = none := I3.hok.fresh (by show h3.objs.size ≤ h'.objs.size; omega)
    have G1 : Inv (gcx X X.A.in1.in1 (gxN own caps) { s2 with heap := h3, toks := tk } H3 (gxEnv X scope h3.objs.size code) fp) [(h'.objs.size, go)] (gxSt own caps σ) H3 (({ s2 with gens := s2.gens.push (.fresh (.compStart (.GeneratorExp elt [⟨tg, iter, [], 0⟩] scope gpos) 0 (.ref it) .none (gxEnv X scope h3.objs.size code))), toks := tk + 1 + 1 + 1, heap := h'.push go } : Shared).setGen s2.gens.size .running) :=
      G0.pins_of fun p hp => by
        rw [List.mem_singleton.mp hp]
        refine ⟨hput, hna, ?_, fun z => ?_, hgd⟩
        · show h'.objs.size ≠ h3.objs.size
          omega
        · have z : h'.objs.size ∈ frs X.stack := z
          rcases List.mem_cons.mp (I3.stkSub _ z) with z | z
          · have h1 := I3.lt
            rw [← z] at h1
            have h1 : h'.objs.size < h3.objs.size := h1
            omega
          · exact I3.nofs (show h3.objs.size ≤ h'.objs.size by omega) z
    have st5 : tn 0 (h'.push go) := T.keep _ _ _ st2 fun b hb o e => keep5 b o (keep3 b o (nP b hb) e)
    refine call_all_gen (n := m + 1) hr.hd (by have := hr.dp; omega) (hgen _ hput) (I3.nolimit.keeps keep5) ⟨_, Array.getElem?_push_size .., rfl, ?_⟩
    refine gx_begin (A := X.A.in1.in1) (N := gxN own caps) (σ0 := gxSt own caps σ) (vs := vs) (g := g) (te := te) (Qe := fun b H' => Q (.bl b) H') (W := W) hr.hd S.co T (fun z => ?_) hgen (pg _ _ _ _ _) (pe _ _ _ _ _) turn (fun b s6 H6 J6 q6 s7 k7 o7 b7 => ?_) w0 G1 st5 (fun b hb => (f3 b hb).1.1)
    · have z2 : h'.objs.size < h3.objs.size := (f3 _ z).2
      rw [hsz'] at z2
      exact absurd z2 (by omega)
    · have I6 : Inv X pins σ H6 s6 := I3.call' (ch := fp) J6.os J6.base J6.hok J6.bare fun b hb => ⟨(f3 b hb).1.2.2.2.1, (f3 b hb).1.2.1, (f3 b hb).1.2.2.2.2.1, (f3 b hb).1.2.2.2.2.2⟩
      exact ⟨.bl b, H6, inv_same I6 k7 o7 b7, rfl, q6⟩
  cases hf : codeAmong gpos ps.toList with
  | none =>
    refine wpAny_genexprCodeX hcode (cd.code hPs ht) (cd.tab hPs) hf fun c' h' tk hx hge hlt hco' _ htab' _ => ?_
    obtain ⟨o1, vs, f1, tf, fl, tg, inF, tx, tt, op, _, _, _, _, _, _, _, _, _, htr, _⟩ := hco'
    exact cont _ h' tk _ _ hx (Nat.le_trans hge (Nat.le_of_lt hlt)) htab'.2 rfl htr
  | some cv =>
    refine wpAny_genexprCode_hit hcode (cd.code hPs ht) hf ?_
    exact cont cv s2.heap s2.toks ps #[] (Heap.ExtBut.refl _ _) (Nat.le_refl _) hPs (by simp) ht
end
end Kg

/-! defs that are called where no repr is under way -/
namespace Kf
open PySem PySem.Spec PyProof.Rows L2 LamX
/-- no repr is under way -/
abbrev Still (A : Around) : Prop := A.guards = some []
/-- a def's promise, called where no repr is under way -/
structure FnG (P : Program) (w : World) (K : PySem.W.Frag) (mg : Str → Option Value) (base : Heap) (CX : CXT) (k : Nat) (f : Addr) (fd : FuncData) (ps : List Str) (sp : Sp) : Prop where
  cnt : ∀ vs H Q E, sp vs H Q E → vs.length = ps.length
  go : ∀ (A : Around) (o : List Env) (s : Shared) (H : Hp) (r : Args) (us : List Value) (vs : List V) (Q : VK) (E : XK), Still A → Room k A → Env0 P w K mg base A o s H → BindsTo s fd r (ps.zip us) → Vals vs us → sp vs H Q E →
    codeAny (model P w) A (.call (.ref f) r) (CR CX o P w H s Q E) s
section
variable {P : Program} {w : World} {K : PySem.W.Frag} {mg : Str → Option Value} {base : Heap} {CX : CXT}
theorem FnG.of {k : Nat} {f : Addr} {fd : FuncData} {ps : List Str} {sp : Sp} (F : FnOk P w K mg base CX k f fd ps sp) : FnG P w K mg base CX k f fd ps sp :=
  ⟨F.len, fun A o s H r us vs Q E _ => F.run A o s H r us vs Q E⟩
theorem FnG.up {j k : Nat} {f : Addr} {fd : FuncData} {ps : List Str} {sp : Sp} (F : FnG P w K mg base CX j f fd ps sp) (h : j ≤ k) : FnG P w K mg base CX k f fd ps sp :=
  ⟨F.cnt, fun A o s H r us vs Q E g hr => F.go A o s H r us vs Q E g (hr.mono h)⟩
/-- a def by its body -/
theorem fnG_of {k : Nat} {f : Addr} {nm ql : Str} {prm : Arguments} {bd : List Stmt} {sco : Scope} {dV kV doc pm cdv ct oc : Value} {an od : Option Addr} {sl : Array (Option Value)} {N ps : List Str} {sp : Sp}
    (at' : K.lookup f = some ⟨oc, od, .func (PySem.W.fnOf nm ql prm bd sco dV kV doc pm an cdv ct), sl⟩) (hc : PySem.W.codeIn K cdv ql = true) (S : FnScope N ps sco) (cnt : ∀ vs H Q E, sp vs H Q E → vs.length = ps.length)
    (body : ∀ (A : Around) (o : List Env) (s : Shared) (H : Hp) (vs : List V) (Q : VK) (E : XK), Still A → Room k (A.deeper (envOfC ql sco s.heap.objs.size f cdv)) → sp vs H Q E →
      ∃ t, PSs (cxOf CX P w K mg base N ql sco f cdv A o s H E) bd t ∧ t { nx := fun _ G => Q .non G, rt := Q } (start N vs) H) : FnG P w K mg base CX (k + 1) f (PySem.W.fnOf nm ql prm bd sco dV kV doc pm an cdv ct) ps sp where
  cnt := cnt
  go := by
    intro A o s H r us vs Q E still room e0 binds vals hsp
    have hold := fun b u (z : base.get? b = some u) => (e0.bs b u z).1
    have kx := e0.mod.kin.keeps hold
    have par : ∀ z ∈ ps.zip us, sco.names.lookup z.1 = some .local ∨ (sco.names.lookup z.1 = some .cell ∧ ((cellsFrom (s.heap.objs.size + 1) sco.names []).lookup z.1).isSome = true) := by
      intro z hz
      have hm : z.1 ∈ ps := (List.of_mem_zip (a := z.1) (b := z.2) hz).1
      exact (S.par z.1 hm).imp id fun q => ⟨q, PySem.W.cellsFrom_some _ _ _ (.inl q)⟩
    refine codeAny_call_function room.depth (kx _ _ at') rfl S.co S.gen rfl (PySem.W.codeRec_of kx hc) (binds _ _ _ _ (wpAny_newFunctionEnv_cells S.kind par ?_))
    rintro env rfl s1 x
    refine ⟨(e0.mod.nolimit.keeps hold).keeps x.toInCall.keep, codeAny_func ?_⟩
    obtain ⟨t, ht, hq⟩ := body A o s H vs Q E still (room.deeper _) hsp
    refine wpAny_mono (ht.run [] s1 (start N vs) H _ (inv_start S room.hd e0 (cnt _ _ _ _ hsp) vals x) hq) ?_ (fun _ _ z => z)
    intro fl s2 z
    match fl, z with
    | .ret u, ⟨v, _, G, J, rv, q⟩ => exact ⟨v, G, J.os, J.bare, J.base, J.hok, rv, q⟩
    | .next, ⟨_, G, J, q⟩ => exact ⟨V.non, G, J.os, J.bare, J.base, J.hok, rfl, q⟩
    | .brk, ⟨_, _, _, q⟩ => exact q.elim
    | .cont, ⟨_, _, _, q⟩ => exact q.elim
/-- a def of the text that lets nothing out -/
theorem okG {x ql : Str} {st : Stmt} {f : Addr} {fd : FuncData} {N ps : List Str} {k : Nat} {sp : Sp} (F : Fun K x ql st f fd) (S : FnScope N ps (defScope st)) (cnt : ∀ vs H Q E, sp vs H Q E → vs.length = ps.length)
    (body : ∀ (cdv : Value) (A : Around) (o : List Env) (s : Shared) (H : Hp) (vs : List V) (Q : VK) (E : XK), Still A → Room k (A.deeper (envOfC ql (defScope st) s.heap.objs.size f cdv)) → sp vs H Q E →
      ∃ t, PSs (cxOf CX0 P w K mg base N ql (defScope st) f cdv A o s H E).nox (defBody st) t ∧ t { nx := fun _ G => Q .non G, rt := Q } (start N vs) H) : FnG P w K mg base CX0 (k + 1) f fd ps sp := by
  obtain ⟨oc, od, kV, doc, pm, an, cdv, ct, sl, rfl, hl, hc⟩ := F.ex
  exact fnG_of hl hc S cnt fun A o s H vs Q E g hr h => (body cdv A o s H vs Q E g hr h).imp fun t z => ⟨z.1.nox, z.2⟩
end
section
variable {X : Cx} {CX : CXT} {k : Nat} {f : Addr} {fd : FuncData} {ps : List Str} {sp : Sp} {dvs : List V} {ds : List Value} {E : XK} {x : Str} {p pos : Pos} {e : Expr} {es : List Expr} {t : TA}
theorem goG {pins : List (Addr × Obj)} {σ : L2.St} {H : Hp} {s : Shared} {Q : VK} {us : List Value} {vs : List V} (F : FnG X.prog X.w X.K X.mg X.base CX k f fd ps sp) (g : Still X.A) (hr : Room k X.A) (hb : Binds X.K fd ps ds) (hd : Vals dvs ds) (hx : Passes CX X E) (I : Inv X pins σ H s) (rv : Vals vs us)
    (h : sp (vs ++ dvs) H Q E) : wpAny (model X.prog X.w) X.A (call (.ref f) us) (EP X pins σ Q) X.xe s := by
  have both := rv.append hd
  have n : (us ++ ds).length = ps.length := both.length.symm.trans (F.cnt _ _ _ _ h)
  refine wpAny_call (codeAny_mono (F.go X.A X.stack s H ⟨us, []⟩ _ _ Q E g hr I.env0 (hb s us I.kIn n) both h) ?_)
  intro r s2 z
  match r, z with
  | .error u, z => exact hx pins σ H s u s2 I z
  | .ok (.ret u), z => exact I.after z
  | .ok .next, z => exact z.elim
  | .ok .brk, z => exact z.elim
  | .ok .cont, z => exact z.elim
/-- f(e, ..) -/
theorem pe_callG (F : FnG X.prog X.w X.K X.mg X.base CX k f fd ps sp) (g : Still X.A) (hr : Room k X.A) (hg : Gl X x) (hm : X.mg x = some (.ref f)) (hk : PySem.W.keepIn X.K (.ref f) = true) (hb : Binds X.K fd ps ds) (hd : Vals dvs ds) (hx : Passes CX X E) (ha : PA X (e :: es) t)
    (hn : (x == ("__debug__" : Str)) = false := by decide) (h1 : starEach (e :: es) X.env = (false, eval e X.env) :: starEach es X.env := by rfl) (h2 : (backTo pos (starEach es X.env)).any (·.1) = false := by rfl) : PE X (.Call (.Name x p) (e :: es) [] pos) (tCall sp dvs E t) := by
  constructor
  intro pins s σ H Q I h
  refine wpAny_Call_Name_kw (ld_glob I hg hm (PySem.W.callWith_K (h₀ := X.base) I.ok.mod.kin hk (thn (ha.run pos pins s σ H _ I h) ?_) h1 h2) hn)
  rintro us s2 ⟨vs, G, J, rv, q⟩
  exact ⟨J.kIn, goG F g hr hb hd hx J rv q⟩
end
end Kf

/-! repr of data -/
namespace Kf
open PySem PySem.Spec PyProof.Rows L2
/-- data that shows as it is, of at most so many in one another -/
structure Shows (n : Nat) (d : PyData) : Prop where
  ok : d.showable = true
  nd : d.hasDict = false
  dp : d.depth ≤ n
  sz : d.shown.length ≤ sizeLine
def rShow (K : PySem.W.Frag) (n : Nat) : List V → Hp → VK → Prop := fun xs H Q => ∃ (a : Addr) (d : PyData), xs = [.ref a] ∧ Dp K H (.ref a) d ∧ Shows n d ∧ Q (.str d.shown) H
theorem call_show {X : Cx} {n : Nat} (g : Still X.A) (hu : X.A.units + (n + 1) < cLine) : CallR X (.builtin "repr") (rShow X.K n) := by
  intro pins s σ H xs us Q I r h
  obtain ⟨a, d, rfl, hd, sh, q⟩ := h
  rw [Vals.ref1 r]
  obtain ⟨as, rd⟩ := Dp.reads I d _ (.ref a) hd rfl
  exact repr_of_reads' rd sh.ok (PyData.noDict_hsm sh.nd) g (by have := sh.dp; omega) (fun _ _ e => e) (fun h' u tk hk => ⟨.str d.shown, H, I.kept hk, ⟨u, rfl⟩, q⟩) sh.sz
end Kf

/-! things of anything: none, truths, numbers, texts, tuples, lists, the empty dict -/
namespace Kv
open PySem PySem.Spec PyProof.Rows L2 Kf
inductive Dt where
  | non
  | bl (b : Bool)
  | int (i : Int)
  | str (x : Str)
  | tup (xs : List Dt)
  | lst (xs : List Dt)
  | dct (kvs : List (Str × Int))
/-- a dict of texts with numbers -/
def dkv (kvs : List (Str × Int)) : List (Key × V) := kvs.map fun p => (.inr p.1, .int p.2)
def dkp (kvs : List (Str × Int)) : List (PyData × PyData) := kvs.map fun p => (.str p.1, .int p.2)
mutual
/-- the thing stands at v; its lists and dicts at places N -/
inductive Dd (N : Addr → Prop) (H : Hp) : Dt → V → Prop
  | non : Dd N H .non .non
  | bl (b : Bool) : Dd N H (.bl b) (.bl b)
  | int (i : Int) : Dd N H (.int i) (.int i)
  | str (x : Str) : Dd N H (.str x) (.str x)
  | tup {a : Addr} {xs : List Dt} {vs : List V} : H a = some (.tup vs) → DdL N H xs vs → Dd N H (.tup xs) (.ref a)
  | lst {a : Addr} {xs : List Dt} {vs : List V} : N a → H a = some (.lst vs) → DdL N H xs vs → Dd N H (.lst xs) (.ref a)
  | dct {a : Addr} {kvs : List (Str × Int)} : N a → H a = some (.dK (dkv kvs)) → Dd N H (.dct kvs) (.ref a)
inductive DdL (N : Addr → Prop) (H : Hp) : List Dt → List V → Prop
  | nil : DdL N H [] []
  | cons {x : Dt} {xs : List Dt} {v : V} {vs : List V} : Dd N H x v → DdL N H xs vs → DdL N H (x :: xs) (v :: vs)
end
/-- what stood of tuples, and of lists and dicts at N, stands -/
structure Kn (N : Addr → Prop) (H G : Hp) : Prop where
  tup : ∀ b xs, H b = some (.tup xs) → G b = some (.tup xs)
  lst : ∀ b xs, N b → H b = some (.lst xs) → G b = some (.lst xs)
  dic : ∀ b xs, N b → H b = some (.dK xs) → G b = some (.dK xs)
theorem Kn.of {N : Addr → Prop} {H G : Hp} (s : Same H G) : Kn N H G := ⟨fun b _ e => s b _ e, fun b _ _ e => s b _ e, fun b _ _ e => s b _ e⟩
theorem Kn.trans {N : Addr → Prop} {H G F : Hp} (a : Kn N H G) (b : Kn N G F) : Kn N H F := ⟨fun x _ e => b.tup x _ (a.tup x _ e), fun x _ n e => b.lst x _ n (a.lst x _ n e), fun x _ n e => b.dic x _ n (a.dic x _ n e)⟩
theorem Kn.rfl {N : Addr → Prop} {H : Hp} : Kn N H H := ⟨fun _ _ e => e, fun _ _ _ e => e, fun _ _ _ e => e⟩
theorem Kn.sub {N M : Addr → Prop} {H G : Hp} (k : Kn N H G) (h : ∀ b, M b → N b) : Kn M H G := ⟨k.tup, fun b xs n e => k.lst b xs (h b n) e, fun b xs n e => k.dic b xs (h b n) e⟩
/-- another list, dict or the like is put at p -/
theorem Kn.put {N : Addr → Prop} {H G : Hp} {p : Addr} {o : HO} (k : Kn N H G) (n : ¬ N p) (h : ∀ xs, H p ≠ some (.tup xs)) : Kn N H (upd G p o) := by
  refine ⟨fun b xs e => ?_, fun b u hb e => ?_, fun b u hb e => ?_⟩
  · rw [upd_ne (fun z => h xs (by rw [← z]; exact e))]
    exact k.tup b xs e
  · rw [upd_ne (fun z => n (by rw [← z]; exact hb))]
    exact k.lst b u hb e
  · rw [upd_ne (fun z => n (by rw [← z]; exact hb))]
    exact k.dic b u hb e
/-- what was free is put at p -/
theorem Kn.new {N : Addr → Prop} {H G : Hp} {p : Addr} {o : HO} (k : Kn N H G) (h : H p = none) : Kn N H (upd G p o) := by
  refine ⟨fun b xs e => ?_, fun b u hb e => ?_, fun b u hb e => ?_⟩
  · rw [upd_ne (ne_of_none e h)]
    exact k.tup b xs e
  · rw [upd_ne (ne_of_none e h)]
    exact k.lst b u hb e
  · rw [upd_ne (ne_of_none e h)]
    exact k.dic b u hb e
mutual
theorem Dd.kn {N : Addr → Prop} {H G : Hp} (k : Kn N H G) : ∀ {x : Dt} {v : V}, Dd N H x v → Dd N G x v
  | _, _, .non => .non
  | _, _, .bl b => .bl b
  | _, _, .int i => .int i
  | _, _, .str x => .str x
  | _, _, .tup h t => .tup (k.tup _ _ h) (t.kn k)
  | _, _, .lst n h t => .lst n (k.lst _ _ n h) (t.kn k)
  | _, _, .dct n h => .dct n (k.dic _ _ n h)
theorem DdL.kn {N : Addr → Prop} {H G : Hp} (k : Kn N H G) : ∀ {xs : List Dt} {vs : List V}, DdL N H xs vs → DdL N G xs vs
  | _, _, .nil => .nil
  | _, _, .cons h t => .cons (h.kn k) (t.kn k)
end
mutual
/-- at fewer, or other places, where the heap has nothing elsewhere -/
theorem Dd.at {N M : Addr → Prop} {H : Hp} (k : ∀ b u, N b → H b = some u → M b) : ∀ {x : Dt} {v : V}, Dd N H x v → Dd M H x v
  | _, _, .non => .non
  | _, _, .bl b => .bl b
  | _, _, .int i => .int i
  | _, _, .str x => .str x
  | _, _, .tup h t => .tup h (t.at k)
  | _, _, .lst n h t => .lst (k _ _ n h) h (t.at k)
  | _, _, .dct n h => .dct (k _ _ n h) h
theorem DdL.at {N M : Addr → Prop} {H : Hp} (k : ∀ b u, N b → H b = some u → M b) : ∀ {xs : List Dt} {vs : List V}, DdL N H xs vs → DdL M H xs vs
  | _, _, .nil => .nil
  | _, _, .cons h t => .cons (h.at k) (t.at k)
end
/-- at any places -/
abbrev Any : Addr → Prop := fun _ => True
theorem Dd.any {N : Addr → Prop} {H : Hp} {x : Dt} {v : V} (h : Dd N H x v) : Dd Any H x v := h.at fun _ _ _ _ => trivial
theorem DdL.any {N : Addr → Prop} {H : Hp} {x : List Dt} {v : List V} (h : DdL N H x v) : DdL Any H x v := h.at fun _ _ _ _ => trivial
theorem Dd.same {N : Addr → Prop} {H G : Hp} {x : Dt} {v : V} (h : Dd N H x v) (s : Same H G) : Dd N G x v := h.kn (.of s)
theorem DdL.same {N : Addr → Prop} {H G : Hp} {x : List Dt} {v : List V} (h : DdL N H x v) (s : Same H G) : DdL N G x v := h.kn (.of s)
section
variable {N : Addr → Prop} {H : Hp}
theorem DdL.len : ∀ {xs : List Dt} {vs : List V}, DdL N H xs vs → xs.length = vs.length
  | _, _, .nil => rfl
  | _, _, .cons _ t => congrArg (· + 1) t.len
theorem DdL.app : ∀ {xs ys : List Dt} {vs ws : List V}, DdL N H xs vs → DdL N H ys ws → DdL N H (xs ++ ys) (vs ++ ws)
  | _, _, _, _, .nil, h => h
  | _, _, _, _, .cons h t, k => .cons h (t.app k)
theorem DdL.get : ∀ {xs : List Dt} {vs : List V} {i : Nat} {v : V}, DdL N H xs vs → vs[i]? = some v → ∃ x, xs[i]? = some x ∧ Dd N H x v
  | _, _, i, v, .nil, e => by simp at e
  | _, _, 0, v, .cons (x := x) (v := w) h t, e => ⟨x, rfl, by rw [← show w = v from Option.some.inj e]; exact h⟩
  | _, _, i + 1, v, .cons h t, e => DdL.get (i := i) t e
theorem DdL.get' : ∀ {xs : List Dt} {vs : List V} {i : Nat} {x : Dt}, DdL N H xs vs → xs[i]? = some x → ∃ v, vs[i]? = some v ∧ Dd N H x v
  | _, _, i, v, .nil, e => by simp at e
  | _, _, 0, v, .cons (x := w) (v := y) h t, e => ⟨y, rfl, by rw [← show w = v from Option.some.inj e]; exact h⟩
  | _, _, i + 1, v, .cons h t, e => DdL.get' (i := i) t e
theorem DdL.drop : ∀ {xs : List Dt} {vs : List V} (n : Nat), DdL N H xs vs → DdL N H (xs.drop n) (vs.drop n)
  | _, _, 0, h => h
  | _, _, n + 1, .nil => .nil
  | _, _, n + 1, .cons _ t => t.drop n
theorem DdL.take : ∀ {xs : List Dt} {vs : List V} (n : Nat), DdL N H xs vs → DdL N H (xs.take n) (vs.take n)
  | _, _, 0, h => .nil
  | _, _, n + 1, .nil => .nil
  | _, _, n + 1, .cons h t => .cons h (t.take n)
theorem DdL.rev : ∀ {xs : List Dt} {vs : List V}, DdL N H xs vs → DdL N H xs.reverse vs.reverse
  | _, _, .nil => .nil
  | _, _, .cons (x := x) (xs := xs) (v := v) (vs := vs) h t => by
    rw [List.reverse_cons, List.reverse_cons]
    exact t.rev.app (.cons h .nil)
theorem DdL.last : ∀ {xs : List Dt} {vs : List V}, DdL N H xs vs → vs ≠ [] → ∃ ys y ws w, xs = ys ++ [y] ∧ vs = ws ++ [w] ∧ DdL N H ys ws ∧ Dd N H y w
  | _, _, .nil, n => absurd rfl n
  | _, _, .cons (x := x) (v := v) h .nil, _ => ⟨[], x, [], v, rfl, rfl, .nil, h⟩
  | _, _, .cons (x := x) (v := v) h (.cons h' t'), _ => by
    obtain ⟨ys, y, ws, w, e1, e2, k, r⟩ := DdL.last (.cons h' t') (by simp)
    exact ⟨x :: ys, y, v :: ws, w, by rw [e1]; rfl, by rw [e2]; rfl, .cons h k, r⟩
theorem DdL.strs : ∀ (xs : List Str), DdL N H (xs.map Dt.str) (xs.map V.str)
  | [] => .nil
  | x :: xs => .cons (.str x) (DdL.strs xs)
theorem DdL.ints : ∀ (xs : List Int), DdL N H (xs.map Dt.int) (xs.map V.int)
  | [] => .nil
  | x :: xs => .cons (.int x) (DdL.ints xs)
end
/-! their classes -/
def Dt.cls : Dt → String
  | .non => "NoneType"
  | .bl _ => "bool"
  | .int _ => "int"
  | .str _ => "str"
  | .tup _ => "tuple"
  | .lst _ => "list"
  | .dct _ => "dict"
theorem Dd.ty {K : PySem.W.Frag} {N : Addr → Prop} {H : Hp} {x : Dt} {v : V} (h : Dd N H x v) : TyX K H v (.type x.cls) := by
  cases h with
  | non => exact .base .non
  | bl b => exact .base (.bl b)
  | int i => exact .base (.int i)
  | str x => exact .base (.str x)
  | tup h _ => exact .base (.tup h)
  | lst _ h _ => exact .base (.lst h)
  | dct _ h => exact .base (.dK h)
def Dt.isTup : Dt → Bool
  | .tup _ => true
  | _ => false
def Dt.isStr : Dt → Bool
  | .str _ => true
  | _ => false
def Dt.isBl : Dt → Bool
  | .bl _ => true
  | _ => false
def Dt.isInt : Dt → Bool
  | .bl _ => true
  | .int _ => true
  | _ => false
def Dt.isLst : Dt → Bool
  | .lst _ => true
  | _ => false
/-- isinstance of such a thing: the answers -/
theorem kTup (K : PySem.W.Frag) : ∀ x : Dt, PySem.W.kitOne K (.type x.cls) (.type "tuple") = some x.isTup := by
  intro x
  cases x <;> (refine kit_ty ?_; simp only [Dt.cls, Dt.isTup]; decide +kernel)
theorem kStr (K : PySem.W.Frag) : ∀ x : Dt, PySem.W.kitOne K (.type x.cls) (.type "str") = some x.isStr := by
  intro x
  cases x <;> (refine kit_ty ?_; simp only [Dt.cls, Dt.isStr]; decide +kernel)
theorem kBl (K : PySem.W.Frag) : ∀ x : Dt, PySem.W.kitOne K (.type x.cls) (.type "bool") = some x.isBl := by
  intro x
  cases x <;> (refine kit_ty ?_; simp only [Dt.cls, Dt.isBl]; decide +kernel)
theorem kInt (K : PySem.W.Frag) : ∀ x : Dt, PySem.W.kitOne K (.type x.cls) (.type "int") = some x.isInt := by
  intro x
  cases x <;> (refine kit_ty ?_; simp only [Dt.cls, Dt.isInt]; decide +kernel)
theorem kLst (K : PySem.W.Frag) : ∀ x : Dt, PySem.W.kitOne K (.type x.cls) (.type "list") = some x.isLst := by
  intro x
  cases x <;> (refine kit_ty ?_; simp only [Dt.cls, Dt.isLst]; decide +kernel)
/-! as data, shown -/
mutual
def Dt.toP : Dt → PyData
  | .non => .none
  | .bl b => .bool b
  | .int i => .int i
  | .str x => .str x
  | .tup xs => .tuple (Dt.toPs xs)
  | .lst xs => .list (Dt.toPs xs)
  | .dct kvs => .dict (dkp kvs)
def Dt.toPs : List Dt → List PyData
  | [] => []
  | x :: xs => x.toP :: Dt.toPs xs
end
section
variable {X : Cx} {pins : List (Addr × Obj)} {σ : L2.St} {H : Hp} {s : Shared} {N : Addr → Prop}
theorem reads_pairs {P : Program} {w : World} {h : Heap} : ∀ {kvs : List (Str × Int)} {vs : List (Key × Value)} {es : List DictEntry}, KV (dkv kvs) vs → Pairs (mixKind P w) es vs → ReadsAll h (es.map (·.key)) ((dkp kvs).map (·.1)) [] ∧ ReadsAll h (es.map (·.val)) ((dkp kvs).map (·.2)) []
  | [], _, _, r, p => by
    unfold KV at r
    cases r
    cases p
    exact ⟨.nil, .nil⟩
  | (x, i) :: kvs, _, _, r, p => by
    unfold KV at r
    cases r with
    | cons hh t =>
      cases p with
      | cons h1 h2 t2 =>
        rename_i q qs e es
        obtain ⟨a, b⟩ := reads_pairs (P := P) (w := w) (h := h) (kvs := kvs) (by unfold KV; exact t) t2
        obtain ⟨g1, tk, g2⟩ := hh
        have h1 : keyIs q.1 e.key = true := h1
        rw [← g1] at h1
        rcases keyIs_shape h1 with ⟨j, u, z, _⟩ | ⟨y, u, z, ek⟩
        · cases z
        cases z
        obtain ⟨k0, v0⟩ := e
        cases ek
        have ev := h2.trans g2
        dsimp only at ev
        subst ev
        exact ⟨.cons (.str _ u) a, .cons (as := []) (.int _ tk) b⟩
/-- a dict, as an object -/
theorem dct_obj (I : Inv X pins σ H s) {a : Addr} {kvs : List (Str × Int)} (h : H a = some (.dK (dkv kvs))) : ∃ o es n, s.heap.get? a = some o ∧ o.cls = .type "dict" ∧ o.data = .dict es n ∧ (a == sysModules) = false ∧ ReadsAll s.heap (es.toList.map (·.key)) ((dkp kvs).map (·.1)) [] ∧ ReadsAll s.heap (es.toList.map (·.val)) ((dkp kvs).map (·.2)) [] := by
  obtain ⟨_, low, vs, kv, o, es, ep, ho, hx, hd, _, pr, _⟩ := dk_of I.hok h
  obtain ⟨r1, r2⟩ := reads_pairs (h := s.heap) kv pr
  exact ⟨o, es, ep, ho, hx.1, hd, low, r1, r2⟩
mutual
theorem Dd.reads (I : Inv X pins σ H s) : ∀ {x : Dt} {v : V}, Dd N H x v → ∀ {u : Value}, RelV v u → ∃ as, Reads s.heap u x.toP as
  | _, _, .non, _, r => by
    cases r
    exact ⟨_, .none⟩
  | _, _, .bl b, _, r => by
    cases r
    exact ⟨_, .bool b⟩
  | _, _, .int i, _, r => by
    obtain ⟨t, rfl⟩ := r
    exact ⟨_, .int i t⟩
  | _, _, .str x, _, r => by
    obtain ⟨t, rfl⟩ := r
    exact ⟨_, .str x t⟩
  | _, _, .tup h t, _, r => by
    cases r
    obtain ⟨its, rv, ⟨o, ho, hc, n, hd⟩, _⟩ := I.tuple (SqT.of h)
    obtain ⟨as, ra⟩ := t.reads I rv
    exact ⟨_, .tuple ho hc hd ra⟩
  | _, _, .lst _ h t, _, r => by
    cases r
    obtain ⟨its, rv, ⟨o, n, ho, hc, _, hd⟩, _⟩ := I.list (SqL.of h)
    obtain ⟨as, ra⟩ := t.reads I rv
    exact ⟨_, .list ho hc hd ra⟩
  | _, _, .dct _ h, _, r => by
    cases r
    obtain ⟨o, es, n, ho, hc, hd, _, h4, h5⟩ := dct_obj I h
    exact ⟨_, .dict ho hc hd h4 h5⟩
theorem DdL.reads (I : Inv X pins σ H s) : ∀ {xs : List Dt} {vs : List V}, DdL N H xs vs → ∀ {us : List Value}, Vals vs us → ∃ as, ReadsAll s.heap us (Dt.toPs xs) as
  | _, _, .nil, _, r => by
    cases r
    exact ⟨_, .nil⟩
  | _, _, .cons h t, _, r => by
    cases r with
    | cons r1 r2 =>
      obtain ⟨as, ra⟩ := h.reads I r1
      obtain ⟨bs, rb⟩ := t.reads I r2
      exact ⟨_, .cons ra rb⟩
end
theorem shownAll_le {xs : List PyData} {n : Nat} (h : ∀ t ∈ PyData.shownAll xs, t.length ≤ n) : ∀ t ∈ PyData.shownAll xs, t.length ≤ n := h
mutual
theorem Dd.reprK (I : Inv X pins σ H s) : ∀ {x : Dt} {v : V}, Dd N H x v → ∀ {u : Value}, RelV v u → x.toP.showable = true → x.toP.shown.length ≤ sizeLine → ∃ bs, ReadAtMost s.heap x.toP.depth bs ∧ ReprK X.prog X.w bs s.heap x.toP.depth u x.toP.shown
  | _, _, .non, _, r, _, _ => by
    cases r
    exact ⟨[], (fun _ h => nomatch h), by simp only [Dt.toP, PyData.shown]; exact .of_is ReprIs.none _ _ _⟩
  | _, _, .bl b, _, r, _, _ => by
    cases r
    exact ⟨[], (fun _ h => nomatch h), by simp only [Dt.toP, PyData.shown]; exact .of_is (ReprIs.bool b) _ _ _⟩
  | _, _, .int i, _, r, hs, _ => by
    obtain ⟨t, rfl⟩ := r
    exact ⟨[], (fun _ h => nomatch h), by simp only [Dt.toP, PyData.shown]; exact .of_is (ReprIs.int t (by simpa [Dt.toP, PyData.showable] using hs)) _ _ _⟩
  | _, _, .str x, _, r, _, hz => by
    obtain ⟨t, rfl⟩ := r
    exact ⟨[], (fun _ h => nomatch h), by simp only [Dt.toP, PyData.shown]; exact .of_is (ReprIs.str x t (by simpa only [Dt.toP, PyData.shown] using hz)) _ _ _⟩
  | _, _, .tup (a := a) (xs := xs) h t, _, r, hs, hz => by
    cases r
    obtain ⟨its, rv, ⟨o, ho, hc, n, hd⟩, _⟩ := I.tuple (SqT.of h)
    have hz' : (tupleText (PyData.shownAll (Dt.toPs xs))).length ≤ sizeLine := by simpa only [Dt.toP, PyData.shown] using hz
    obtain ⟨as, ra⟩ := t.reads I rv
    obtain ⟨bs, hb, hk⟩ := t.reprK I rv (by simpa [Dt.toP, PyData.showable] using hs) (fun t ht => Nat.le_trans (tupleText_mem_le ht) hz')
    have rd : Reads s.heap (.ref a) (.tuple (Dt.toPs xs)) _ := .tuple ho hc hd ra
    have na : a ∉ bs := not_mem_of_deeper rd (by simp only [PyData.depth]; omega) hb
    have le : PyData.depthAll (Dt.toPs xs) ≤ (PyData.tuple (Dt.toPs xs)).depth := by simp only [PyData.depth]; omega
    exact ⟨a :: bs, ReadAtMost.cons rd le hb, by simp only [Dt.toP, PyData.depth, PyData.shown]; exact ReprK.tuple ho hc hd na hk⟩
  | _, _, .lst (a := a) (xs := xs) (vs := vs) _ h t, _, r, hs, hz => by
    cases r
    obtain ⟨its, rv, ⟨o, n, ho, hc, _, hd⟩, _⟩ := I.list (SqL.of h)
    have hz' : (listText (PyData.shownAll (Dt.toPs xs))).length ≤ sizeLine := by simpa only [Dt.toP, PyData.shown] using hz
    obtain ⟨as, ra⟩ := t.reads I rv
    obtain ⟨bs, hb, hk⟩ := t.reprK I rv (by simpa [Dt.toP, PyData.showable] using hs) (fun t ht => Nat.le_trans (listText_mem_le ht) hz')
    have rd : Reads s.heap (.ref a) (.list (Dt.toPs xs)) _ := .list ho hc hd ra
    have na : a ∉ bs := not_mem_of_deeper rd (by simp only [PyData.depth]; omega) hb
    have le : PyData.depthAll (Dt.toPs xs) ≤ (PyData.list (Dt.toPs xs)).depth := by simp only [PyData.depth]; omega
    refine ⟨a :: bs, ReadAtMost.cons rd le hb, ?_⟩
    simp only [Dt.toP, PyData.depth, PyData.shown]
    cases its with
    | nil =>
      cases rv
      cases t
      simp only [Dt.toPs, PyData.shownAll, listText_nil]
      exact ReprK.listEmpty ho hc hd
    | cons y l => exact ReprK.list ho hc hd na (by simpa using hk.length_eq) (fun i y e => hk.item i y (by simpa using e))
  | _, _, .dct (a := a) (kvs := kvs) _ h, _, r, hs, hz => by
    cases r
    obtain ⟨o, es, n, ho, hc, hd, low, h4, h5⟩ := dct_obj I h
    have rd : Reads s.heap (.ref a) (.dict (dkp kvs)) _ := .dict ho hc hd h4 h5
    have hz' : (dictText (PyData.shownKv (dkp kvs))).length ≤ sizeLine := by simpa only [Dt.toP, PyData.shown] using hz
    obtain ⟨hs1, hs2⟩ := PyData.showableKv_split (dkp kvs) (by simpa [Dt.toP, PyData.showable] using hs)
    obtain ⟨b1, hb1, k1⟩ := ReprAllK.of_readsAll (prog := X.prog) (w := X.w) h4 hs1 (fun _ hm => nomatch hm) (fun t ht => let ⟨p, hp, hl⟩ := PyData.shownKv_key_le _ t ht; Nat.le_trans hl (Nat.le_trans (dictText_mem_le hp) hz'))
    obtain ⟨b2, hb2, k2⟩ := ReprAllK.of_readsAll (prog := X.prog) (w := X.w) h5 hs2 (fun _ hm => nomatch hm) (fun t ht => let ⟨p, hp, hl⟩ := PyData.shownKv_val_le _ t ht; Nat.le_trans hl (Nat.le_trans (dictText_mem_le hp) hz'))
    have hb : ReadAtMost s.heap (PyData.depthKv (dkp kvs)) (b1 ++ b2) := (hb1.mono (PyData.depthAll_keys_le _)).append (hb2.mono (PyData.depthAll_vals_le _))
    have le : PyData.depthKv (dkp kvs) ≤ (PyData.dict (dkp kvs)).depth := by simp only [PyData.depth]; omega
    have hna : a ∉ b1 ++ b2 := not_mem_of_deeper rd (by simp only [PyData.depth]; omega) hb
    refine ⟨a :: (b1 ++ b2), ReadAtMost.cons rd le hb, ?_⟩
    simp only [Dt.toP, PyData.depth, PyData.shown, PyData.shownKv_eq]
    exact ReprK.dict ho hc hd low hna (ReprEntriesK.of_two es.toList _ _ (k1.more_le (fun b hb => List.mem_append_left _ hb) (PyData.depthAll_keys_le _)) (k2.more_le (fun b hb => List.mem_append_right _ hb) (PyData.depthAll_vals_le _)))
theorem DdL.reprK (I : Inv X pins σ H s) : ∀ {xs : List Dt} {vs : List V}, DdL N H xs vs → ∀ {us : List Value}, Vals vs us → PyData.showableAll (Dt.toPs xs) = true → (∀ t ∈ PyData.shownAll (Dt.toPs xs), t.length ≤ sizeLine) →
    ∃ bs, ReadAtMost s.heap (PyData.depthAll (Dt.toPs xs)) bs ∧ ReprAllK X.prog X.w bs s.heap (PyData.depthAll (Dt.toPs xs)) us (PyData.shownAll (Dt.toPs xs))
  | _, _, .nil, _, r, _, _ => by
    cases r
    exact ⟨[], (fun _ h => nomatch h), .nil⟩
  | _, _, .cons (x := x) (xs := xs) h t, _, r, hs, hz => by
    cases r with
    | cons r1 r2 =>
      have hs' : x.toP.showable = true ∧ PyData.showableAll (Dt.toPs xs) = true := by simpa [Dt.toPs, PyData.showableAll] using hs
      obtain ⟨as, ha, ka⟩ := h.reprK I r1 hs'.1 (hz _ (by simp [Dt.toPs, PyData.shownAll]))
      obtain ⟨bs, hb, kb⟩ := t.reprK I r2 hs'.2 (fun t ht => hz _ (by simp [Dt.toPs, PyData.shownAll, ht]))
      have m1 : x.toP.depth ≤ PyData.depthAll (Dt.toPs (x :: xs)) := by simp only [Dt.toPs, PyData.depthAll]; omega
      have m2 : PyData.depthAll (Dt.toPs xs) ≤ PyData.depthAll (Dt.toPs (x :: xs)) := by simp only [Dt.toPs, PyData.depthAll]; omega
      refine ⟨as ++ bs, (ha.mono m1).append (hb.mono m2), ?_⟩
      simp only [Dt.toPs, PyData.shownAll]
      exact .cons ((ka.more fun b hb => List.mem_append_left _ hb).level_le m1) (kb.more_le (fun b hb => List.mem_append_right _ hb) m2)
end
/-- it is shown: within the bounds -/
structure Shw (n : Nat) (x : Dt) : Prop where
  ok : x.toP.showable = true
  dp : x.toP.depth ≤ n
  sz : x.toP.shown.length ≤ sizeLine
def rShowU (n : Nat) : List V → Hp → VK → Prop := fun xs H Q => ∃ (v : V) (x : Dt), xs = [v] ∧ Dd Any H x v ∧ Shw n x ∧ Q (.str x.toP.shown) H
theorem call_showU {n : Nat} (g : Still X.A) (hu : X.A.units + (n + 1) < cLine) : CallR X (.builtin "repr") (rShowU n) := by
  intro pins s σ H xs us Q I r h
  obtain ⟨v, x, rfl, hd, sh, q⟩ := h
  cases r with
  | cons r1 r2 =>
    cases r2
    have done : ∀ (h' : Heap) (u tk : Tok), (∀ b o, s.heap.get? b = some o → h'.get? b = some o) → EP X pins σ Q (.str x.toP.shown u) { s with heap := h', toks := tk } := fun h' u tk hk => ⟨.str _, H, I.kept hk, ⟨u, rfl⟩, q⟩
    have dpx := sh.dp
    cases hd with
    | non =>
      cases r1
      exact PySem.P.repr_of_none (done s.heap _ _ fun _ _ e => e)
    | bl b =>
      cases r1
      exact PySem.P.repr_of_bool (by simpa only [Dt.toP, PyData.shown] using done s.heap _ _ fun _ _ e => e)
    | int i =>
      obtain ⟨t, rfl⟩ := r1
      exact PySem.P.repr_of_int (by simpa [Dt.toP, PyData.showable] using sh.ok) (by simpa only [Dt.toP, PyData.shown] using done s.heap _ _ fun _ _ e => e)
    | str y =>
      obtain ⟨t, rfl⟩ := r1
      exact PySem.P.repr_of_str (by simpa only [Dt.toP, PyData.shown] using done s.heap _ _ fun _ _ e => e) (by simpa only [Dt.toP, PyData.shown] using sh.sz)
    | tup h t =>
      rename_i a ys ws
      cases r1
      obtain ⟨its, rv, ⟨o, ho, hc, m, hd⟩, _⟩ := I.tuple (SqT.of h)
      have hz' : (tupleText (PyData.shownAll (Dt.toPs ys))).length ≤ sizeLine := by simpa only [Dt.toP, PyData.shown] using sh.sz
      obtain ⟨as, ra⟩ := t.reads I rv
      obtain ⟨bs, hb, hk⟩ := t.reprK I rv (by simpa [Dt.toP, PyData.showable] using sh.ok) (fun t ht => Nat.le_trans (tupleText_mem_le ht) hz')
      have rd : Reads s.heap (.ref a) (.tuple (Dt.toPs ys)) _ := .tuple ho hc hd ra
      have na : a ∉ bs := not_mem_of_deeper rd (by simp only [PyData.depth]; omega) hb
      have dp : PyData.depthAll (Dt.toPs ys) + 1 ≤ n := by simpa only [Dt.toP, PyData.depth, Nat.add_comm] using dpx
      exact call_repr_slot (by omega) ⟨o, ho, hc⟩ PySem.F.slot_tuple_repr (call_tuple_reprK ho hc hd na hk (A := X.A.in1) g (fun b _ => Clear.nil b) (by show X.A.units + 1 + _ < cLine; omega) (fun _ _ e => e) (fun h' u tk hk' => ⟨_, _, rfl, by simpa only [Dt.toP, PyData.shown] using done h' u tk hk'⟩) hz')
    | lst _ h t =>
      rename_i a ys ws _
      cases r1
      obtain ⟨its, rv, ⟨o, m, ho, hc, _, hd⟩, _⟩ := I.list (SqL.of h)
      have hz' : (listText (PyData.shownAll (Dt.toPs ys))).length ≤ sizeLine := by simpa only [Dt.toP, PyData.shown] using sh.sz
      obtain ⟨as, ra⟩ := t.reads I rv
      obtain ⟨bs, hb, hk⟩ := t.reprK I rv (by simpa [Dt.toP, PyData.showable] using sh.ok) (fun t ht => Nat.le_trans (listText_mem_le ht) hz')
      have rd : Reads s.heap (.ref a) (.list (Dt.toPs ys)) _ := .list ho hc hd ra
      have na : a ∉ bs := not_mem_of_deeper rd (by simp only [PyData.depth]; omega) hb
      have dp : PyData.depthAll (Dt.toPs ys) + 1 ≤ n := by simpa only [Dt.toP, PyData.depth, Nat.add_comm] using dpx
      cases its with
      | nil =>
        cases rv
        cases t
        exact call_repr_slot (by omega) ⟨o, ho, hc⟩ PySem.F.slot_list_repr.toG (call_list_repr_empty ⟨o, ho, hc⟩ ho hd ⟨_, _, rfl, by
          have z := done s.heap s.toks (s.toks + 1) fun _ _ e => e
          simp only [Dt.toP, Dt.toPs, PyData.shown, PyData.shownAll, listText_nil] at z
          exact z⟩)
      | cons y l =>
        exact call_repr_slot (by omega) ⟨o, ho, hc⟩ PySem.F.slot_list_repr.toG (call_list_reprK ho hc hd na (by simpa using hk.length_eq) (fun i y e => hk.item i y (by simpa using e)) (A := X.A.in1) g (fun b _ => Clear.nil b) (by show X.A.units + 1 + _ < cLine; omega) (fun _ _ e => e) (fun h' u tk hk' => ⟨_, _, rfl, by simpa only [Dt.toP, PyData.shown] using done h' u tk hk'⟩) hz')
    | dct _ h =>
      rename_i a kvs _
      cases r1
      obtain ⟨o, es, m, ho, hc, hd, low, h4, h5⟩ := dct_obj I h
      have rd : Reads s.heap (.ref a) (.dict (dkp kvs)) _ := .dict ho hc hd h4 h5
      have hz' : (dictText (PyData.shownKv (dkp kvs))).length ≤ sizeLine := by simpa only [Dt.toP, PyData.shown] using sh.sz
      obtain ⟨hs1, hs2⟩ := PyData.showableKv_split (dkp kvs) (by simpa [Dt.toP, PyData.showable] using sh.ok)
      obtain ⟨b1, hb1, k1⟩ := ReprAllK.of_readsAll (prog := X.prog) (w := X.w) h4 hs1 (fun _ hm => nomatch hm) (fun t ht => let ⟨p, hp, hl⟩ := PyData.shownKv_key_le _ t ht; Nat.le_trans hl (Nat.le_trans (dictText_mem_le hp) hz'))
      obtain ⟨b2, hb2, k2⟩ := ReprAllK.of_readsAll (prog := X.prog) (w := X.w) h5 hs2 (fun _ hm => nomatch hm) (fun t ht => let ⟨p, hp, hl⟩ := PyData.shownKv_val_le _ t ht; Nat.le_trans hl (Nat.le_trans (dictText_mem_le hp) hz'))
      have hb : ReadAtMost s.heap (PyData.depthKv (dkp kvs)) (b1 ++ b2) := (hb1.mono (PyData.depthAll_keys_le _)).append (hb2.mono (PyData.depthAll_vals_le _))
      have hna : a ∉ b1 ++ b2 := not_mem_of_deeper rd (by simp only [PyData.depth]; omega) hb
      have dp : PyData.depthKv (dkp kvs) + 1 ≤ n := by simpa only [Dt.toP, PyData.depth, Nat.add_comm] using dpx
      exact call_repr_slot (by omega) ⟨o, ho, hc⟩ PySem.F.slot_dict_repr (call_dict_reprK ho hc hd low hna (ReprEntriesK.of_two es.toList _ _ (k1.more_le (fun b hb => List.mem_append_left _ hb) (PyData.depthAll_keys_le _)) (k2.more_le (fun b hb => List.mem_append_right _ hb) (PyData.depthAll_vals_le _))) (A := X.A.in1) g (fun b _ => Clear.nil b) (by show X.A.units + 1 + _ < cLine; omega) (fun _ _ e => e) (fun h' u tk hk => ⟨_, _, rfl, by simpa only [Dt.toP, PyData.shown, PyData.shownKv_eq] using done h' u tk hk⟩) (by rw [← PyData.shownKv_eq]; exact hz'))
end
end Kv

namespace Kg
open PySem PySem.Spec PyProof.Rows L2 GxR
/-- a def whose code object is known -/
structure FunC (K : PySem.W.Frag) (x qual : Str) (st : Stmt) (f : Addr) (fd : FuncData) (c : Addr) : Prop where
  ex : ∃ (oc : Value) (od : Option Addr) (kV doc pm : Value) (an : Option Addr) (ct : Value) (osl : Array (Option Value)),
    fd = PySem.W.fnOf x qual (defArgs st) (defBody st) (defScope st) .none kV doc pm an (.ref c) ct ∧ K.lookup f = some ⟨oc, od, .func fd, osl⟩ ∧ PySem.W.codeIn K (.ref c) qual = true
section
variable {P : Program} {w : World} {K : PySem.W.Frag} {mg : Str → Option Value} {base : Heap}
theorem FunC.ok {x qual : Str} {st : Stmt} {f : Addr} {fd : FuncData} {c : Addr} {N ps : List Str} {k : Nat} {sp : Sp} (F : FunC K x qual st f fd c) (S : FnScope N ps (defScope st)) (len : ∀ vs H Q E, sp vs H Q E → vs.length = ps.length)
    (hbody : ∀ (A : Around) (outer : List Env) (s : Shared) (H : Hp) (vs : List V) (Q : VK) (E : XK), Room k (A.deeper (envOfC qual (defScope st) s.heap.objs.size f (.ref c))) → sp vs H Q E →
      ∃ t, PSs (cxOf CX0 P w K mg base N qual (defScope st) f (.ref c) A outer s H E).nox (defBody st) t ∧ t { nx := fun _ H' => Q .non H', rt := Q } (start N vs) H) : FnOk P w K mg base CX0 (k + 1) f fd ps sp := by
  obtain ⟨oc, od, kV, doc, pm, an, ct, osl, rfl, lk, hcd⟩ := F.ex
  refine fn_of lk hcd S len fun A outer s H vs Q E hr hsp => ?_
  obtain ⟨t, h, q⟩ := hbody A outer s H vs Q E hr hsp
  exact ⟨t, h.nox, q⟩
theorem funC_mk {x qual : Str} {st : Stmt} {f c : Addr} {oc : Value} {od an : Option Addr} {osl : Array (Option Value)} {kV doc pm ct : Value} (l : K.lookup f = some ⟨oc, od, .func (PySem.W.fnOf x qual (defArgs st) (defBody st) (defScope st) .none kV doc pm an (.ref c) ct), osl⟩)
    (h : PySem.W.codeIn K (.ref c) qual = true) : FunC K x qual st f (PySem.W.fnOf x qual (defArgs st) (defBody st) (defScope st) .none kV doc pm an (.ref c) ct) c := ⟨⟨oc, od, kV, doc, pm, an, ct, osl, rfl, l, h⟩⟩
end
def gxSB (N : List Str) (sc scope : Scope) (own : List Str) (caps : List (Str × Nat)) : Bool :=
  decide (scope.kind = .function) && !scope.isCoroutine && scope.names.all (fun y => !decide (y.2 = .cell)) && decide (scope.names.lookup (".0" : Str) = some NameKind.local) && decide ((own ++ caps.map (·.1)).Nodup) &&
  caps.all (fun p => decide (N[p.2]? = some p.1) && decide (scope.names.lookup p.1 = some .free)) && scope.names.all (fun y => !decide (y.2 = .free) || decide (sc.names.lookup y.1 = some .cell) || decide (sc.names.lookup y.1 = some .free)) && scope.names.all fun y => decide (scope.names.lookup y.1 = some y.2)
theorem gxS_by {N : List Str} {sc scope : Scope} {own : List Str} {caps : List (Str × Nat)} (h : gxSB N sc scope own caps = true) : GxS N sc scope own caps := by
  unfold gxSB at h
  simp only [Bool.and_eq_true, Bool.or_eq_true, Bool.not_eq_true', decide_eq_true_eq, decide_eq_false_iff_not, List.all_eq_true] at h
  obtain ⟨⟨⟨⟨⟨⟨⟨h1, h2⟩, h3⟩, h4⟩, h5⟩, h6⟩, h7⟩, h8⟩ := h
  refine ⟨h1, h2, h3, h4, h5, h6, fun y hy e => ?_, h8⟩
  rcases h7 y hy with (z | z) | z
  · exact absurd e z
  · exact .inl z
  · exact .inr z
/-! the tables of code objects -/
def TbS (T : List Addr) (H : Hp) : Prop := ∀ p ∈ T, TabG H p
/-- all but the tables stands; they are tables -/
def Sm (T : List Addr) (H G : Hp) : Prop := (∀ b u, b ∉ T → H b = some u → G b = some u) ∧ TbS T G
theorem TbS.same {T : List Addr} {H G : Hp} (t : TbS T H) (s : Same H G) : TbS T G := fun p hp => by
  obtain ⟨ps, h1, h2⟩ := t p hp
  exact ⟨ps, s _ _ h1, h2⟩
theorem Sm.refl {T : List Addr} {H : Hp} (t : TbS T H) : Sm T H H := ⟨fun _ _ _ e => e, t⟩
theorem Sm.of {T : List Addr} {H G : Hp} (s : Same H G) (t : TbS T H) : Sm T H G := ⟨fun b u _ e => s b u e, t.same s⟩
theorem Sm.trans {T : List Addr} {H G F : Hp} (a : Sm T H G) (b : Sm T G F) : Sm T H F := ⟨fun x u h e => b.1 x u h (a.1 x u h e), b.2⟩
theorem Sm.tab {T : List Addr} {H G : Hp} {p : Addr} (hp : p ∈ T) (t : TbS T H) (h : Tabbed p H G) : Sm T H G := by
  refine ⟨fun b u hb e => ?_, fun q hq => ?_⟩
  · rw [h.2 b (fun z => hb (by rw [z]; exact hp))]
    exact e
  · by_cases z : q = p
    · rw [z]
      exact h.1
    · obtain ⟨ps, h1, h2⟩ := t q hq
      exact ⟨ps, by rw [h.2 q z]; exact h1, h2⟩
theorem TbS.off {T : List Addr} {H : Hp} {b : Addr} {u : HO} (t : TbS T H) (e : H b = some u) (n : ∀ ps, u ≠ .tbl ps) : b ∉ T := fun hb => by
  obtain ⟨ps, h1, _⟩ := t b hb
  rw [e] at h1
  exact n ps (Option.some.inj h1)
theorem Sm.at {T : List Addr} {H G : Hp} (a : Sm T H G) (t : TbS T H) {b : Addr} {u : HO} (e : H b = some u) (n : ∀ ps, u ≠ .tbl ps) : G b = some u := a.1 b u (t.off e n) e
theorem Sm.free {T : List Addr} {H G : Hp} {p : Addr} (a : Sm T H G) (h : G p = none) : H p = none := by
  cases e : H p with
  | none => rfl
  | some u =>
    by_cases hp : p ∈ T
    · obtain ⟨ps, h1, _⟩ := a.2 p hp
      rw [h] at h1
      cases h1
    · rw [a.1 p u hp e] at h
      cases h
/-! all over a list, over a tuple -/
section
variable {K : PySem.W.Frag} {a : Addr} {xs : List V} {g : TG} {te : TE} {vs : List Nat} {σ0 : L2.St} {G : Hp} {Qe : Bool → Hp → Prop}
theorem all_list (Pv : Nat → Hp → Prop) (h0 : Pv 0 G) (hl : ∀ i H, i ≤ xs.length → Pv i H → SqL K H a xs)
    (hs : ∀ i x H, xs[i]? = some x → Pv i H → g x σ0 H fun σ2 H2 => wipe σ2 vs = σ0 ∧ te σ2 H2 fun y H4 => ∃ b, y = .bl b ∧ if b = true then Pv (i + 1) H4 else Qe false H4) (hd : ∀ H, Pv xs.length H → Qe true H) :
    ∃ W : Nat → Nat → Hp → Prop, (∃ m, W 0 m G) ∧ Turns (Itl K a) σ0 vs g te Qe W := by
  refine ⟨fun i m F => m = xs.length - i ∧ i ≤ xs.length ∧ Pv i F, ⟨_, rfl, Nat.zero_le _, h0⟩, fun i m F z => ?_⟩
  obtain ⟨rfl, hi, p⟩ := z
  have q := hl i F hi p
  by_cases lt : i < xs.length
  · refine .inr ⟨⟨xs, xs[i], q, List.getElem?_eq_getElem lt⟩, Pv (i + 1), fun F' p' => ⟨xs.length - (i + 1), by omega, rfl, lt, p'⟩, fun x F' y => ?_⟩
    obtain ⟨e, y⟩ := y
    subst e
    exact hs i x _ (y xs q) p
  · have e : i = xs.length := by omega
    subst e
    exact .inl ⟨⟨xs, q, Nat.le_refl _⟩, hd F p⟩
theorem all_tup (Pv : Nat → Hp → Prop) (h0 : Pv 0 G) (hl : ∀ i H, i ≤ xs.length → Pv i H → SqT K H a xs)
    (hs : ∀ i x H, xs[i]? = some x → Pv i H → g x σ0 H fun σ2 H2 => wipe σ2 vs = σ0 ∧ te σ2 H2 fun y H4 => ∃ b, y = .bl b ∧ if b = true then Pv (i + 1) H4 else Qe false H4) (hd : ∀ H, Pv xs.length H → Qe true H) :
    ∃ W : Nat → Nat → Hp → Prop, (∃ m, W 0 m G) ∧ Turns (Itt K a) σ0 vs g te Qe W := by
  refine ⟨fun i m F => m = xs.length - i ∧ i ≤ xs.length ∧ Pv i F, ⟨_, rfl, Nat.zero_le _, h0⟩, fun i m F z => ?_⟩
  obtain ⟨rfl, hi, p⟩ := z
  have q := hl i F hi p
  by_cases lt : i < xs.length
  · refine .inr ⟨⟨xs, xs[i], q, List.getElem?_eq_getElem lt⟩, Pv (i + 1), fun F' p' => ⟨xs.length - (i + 1), by omega, rfl, lt, p'⟩, fun x F' y => ?_⟩
    obtain ⟨e, y⟩ := y
    subst e
    exact hs i x _ (y xs q) p
  · have e : i = xs.length := by omega
    subst e
    exact .inl ⟨⟨xs, q, Nat.le_refl _⟩, hd F p⟩
/-- all over what walks -/
theorem all_it {J : It} {n : Nat} {I : Hp → Prop} {Y : Nat → Hp → V → Hp → Prop} (w : Walk J n I Y) (Pv : Nat → Hp → Prop) (h0 : Pv 0 G) (hl : ∀ i H, i ≤ n → Pv i H → I H)
    (hs : ∀ i x H H', i < n → Pv i H → Y i H x H' → g x σ0 H' fun σ2 H2 => wipe σ2 vs = σ0 ∧ te σ2 H2 fun y H4 => ∃ b, y = .bl b ∧ if b = true then Pv (i + 1) H4 else Qe false H4) (hd : ∀ H, Pv n H → Qe true H) :
    ∃ W : Nat → Nat → Hp → Prop, (∃ m, W 0 m G) ∧ Turns J σ0 vs g te Qe W := by
  refine ⟨fun i m F => m = n - i ∧ i ≤ n ∧ Pv i F, ⟨_, rfl, Nat.zero_le _, h0⟩, fun i m F z => ?_⟩
  obtain ⟨rfl, hi, p⟩ := z
  have q := hl i F hi p
  by_cases lt : i < n
  · exact .inr ⟨w.goes i F lt q, Pv (i + 1), fun F' p' => ⟨n - (i + 1), by omega, rfl, lt, p'⟩, fun x F' y => hs i x F F' lt p (w.yields i F x F' lt q y)⟩
  · have e : i = n := by omega
    subst e
    exact .inl ⟨w.stops F q, hd F p⟩
theorem Sm.kn {T : List Addr} {N : Addr → Prop} {H G : Hp} (a : Sm T H G) (t : TbS T H) : Kv.Kn N H G :=
  ⟨fun b xs e => a.at t e (fun ps z => by cases z), fun b xs _ e => a.at t e (fun ps z => by cases z), fun b xs _ e => a.at t e (fun ps z => by cases z)⟩
theorem Sm.new {T : List Addr} {H G : Hp} {p : Addr} {o : HO} (a : Sm T H G) (h : H p = none) (tb : TbS T H) : Sm T H (upd G p o) := by
  refine ⟨fun b u hb e => ?_, fun q hq => ?_⟩
  · rw [upd_ne (ne_of_none e h)]
    exact a.1 b u hb e
  · obtain ⟨ps, h1, h2⟩ := a.2 q hq
    obtain ⟨ps0, h10, _⟩ := tb q hq
    exact ⟨ps, by rw [upd_ne (ne_of_none h10 h)]; exact h1, h2⟩
end
end Kg

/-! dict(..) of a tuple of pairs, a tuple of two turned about -/
namespace Kt
open PySem PySem.Spec PyProof.Rows L2
section
variable {X : Cx}
/-- tuple(l): the object is known -/
theorem call_tupleF : CallR X (.type "tuple") (fun xs H Q => ∃ p ys, xs = [.ref p] ∧ SqL X.K H p ys ∧ ∀ l (o : Obj), H l = none → o.dict = none → o.cls = .type "tuple" → Q (.ref l) (upd H l (.frz o (.tup ys)))) := by
  intro pins s σ H xs us Q I r h
  obtain ⟨p, ys, rfl, hq, q⟩ := h
  obtain ⟨u, rfl, rx⟩ := vals1 r
  cases rx
  obtain ⟨its, r', pl, hz⟩ := I.list hq
  have hlen := r'.length
  refine call_tuple_list pl.isList (fun h' kp => ?_) (by simp only [List.size_toArray] <;> omega)
  have I1 : Inv X pins σ H { s with heap := h' } := I.kept (t' := s.toks) kp
  have I2 : Inv X pins σ (upd H h'.objs.size (.frz { cls := .type "tuple", data := .seq its.toArray } (.tup ys))) { s with heap := h'.push { cls := .type "tuple", data := .seq its.toArray } } :=
    I1.laid (t' := s.toks) (fun b o e => Heap.get?_push_of_some _ e) (Nat.le_refl _) (show ObjOk X.prog X.w _ _ _ (.frz _ (.tup ys)) from ⟨Heap.get?_push_size _ rfl, hz, its, r', IsTup.new _ _⟩)
  exact ⟨.ref h'.objs.size, _, I2, rfl, q _ _ (I1.hok.fresh (Nat.le_refl _)) rfl rfl⟩
/-- () -/
def tTup0 : TE := fun _ H Q => ∀ p (o : Obj), H p = none → o.dict = none → o.cls = .type "tuple" → Q (.ref p) (upd H p (.frz o (.tup [])))
theorem pe_tup0 {x1 : Nat} {pos : Pos} : PE X (.Tuple [] x1 pos) tTup0 := by
  refine ⟨fun pins s σ H Q I h => ?_⟩
  refine wpAny_Tuple_spliced (thn ((pa_nil (X := X)).run pos pins s σ H (fun xs H1 => xs = [] ∧ H1 = H) I ⟨rfl, rfl⟩) fun us s1 ⟨xs, H1, I1, r, e1, e2⟩ => ?_)
  subst e1 e2
  cases r
  refine ⟨Nat.zero_le _, ?_⟩
  refine ⟨.ref s1.heap.objs.size, _, I1.laid (t' := s1.toks) (o := .frz { cls := .type "tuple", data := .seq ([] : List Value).toArray } (.tup [])) (fun b u e => Heap.get?_push_of_some _ e) (Nat.le_refl _) ?_, rfl, h _ _ (I1.hok.fresh (Nat.le_refl _)) rfl rfl⟩
  exact ⟨Heap.get?_push_size _ rfl, Nat.zero_le _, [], .nil, IsTup.new _ _⟩
theorem raws_of {pins : List (Addr × Obj)} {σ : L2.St} {H : Hp} {s : Shared} (I : Inv X pins σ H s) : ∀ {ps : List Addr} {kvs : List (Key × V)}, Paired (fun p kv => SqT X.K H p [kV kv.1, kv.2]) ps kvs →
    ∃ (prs : List (Key × Value)) (raws : List (Value × Value)), KV kvs prs ∧ prs.length = ps.length ∧ raws.length = ps.length ∧ ∀ (j : Nat) (u v : Value), raws[j]? = some (u, v) → ∃ (b : Addr) (k : Key), ps[j]? = some b ∧ IsTup s.heap b #[u, v] ∧ prs[j]? = some (k, v) ∧ keyIs k u = true
  | _, _, .nil => ⟨[], [], .nil, rfl, rfl, fun j u v e => by simp at e⟩
  | _, _, .cons (a := p) (b := kv) h t => by
    obtain ⟨prs, raws, r, hl, hl2, hp⟩ := raws_of I t
    obtain ⟨its, rv, ht, _⟩ := I.tuple h
    obtain ⟨u, y, ei, ru, ry⟩ := vals2 rv
    subst ei
    refine ⟨(kv.1, y) :: prs, (u, y) :: raws, .cons ⟨rfl, ry⟩ r, by rw [List.length_cons, List.length_cons, hl], by rw [List.length_cons, List.length_cons, hl2], fun j u' v' e => ?_⟩
    cases j with
    | zero =>
      have e' : (u, y) = (u', v') := Option.some.inj e
      cases e'
      exact ⟨p, kv.1, rfl, ht, rfl, kV_is (P := X.prog) (w := X.w) ru⟩
    | succ j =>
      obtain ⟨b, k, e1, e2, e3, e4⟩ := hp j u' v' (by simpa using e)
      exact ⟨b, k, by simpa using e1, e2, by simpa using e3, e4⟩
/-- dict(t) of a tuple of pairs -/
theorem call_dictF (hcalm : X.calm = true) : CallR X (.type "dict") (fun xs H Q => ∃ (a : Addr) (o : Obj) (ps : List Addr) (kvs : List (Key × V)), xs = [.ref a] ∧ H a = some (.frz o (.tup (ps.map V.ref))) ∧ o.dict = none ∧ o.cls = .type "tuple" ∧ Paired (fun p kv => SqT X.K H p [kV kv.1, kv.2]) ps kvs ∧
    ∀ p, H p = none → Q (.ref p) (upd H p (.dK (mergeK [] kvs)))) := by
  intro pins s σ H xs us Q I r q
  obtain ⟨a, o, ps, kvs, ex, hq, hod, hoc, hp, q⟩ := q
  subst ex
  obtain ⟨u, eu, rx⟩ := vals1 r
  subst eu
  cases rx
  obtain ⟨ho, hz, its, rv, o2, ho2, hc2, n2, hdat⟩ := I.hok a _ hq
  rw [ho] at ho2
  cases ho2
  have ei := refs_at rv
  subst ei
  rw [List.length_map] at hz
  obtain ⟨prs, raws, rel, hl, hl2, hpr⟩ := raws_of I hp
  have PA := PairArg.tuple (prog := X.prog) (w := X.w) a (ps.map Value.ref).toArray (fun j => (ps[j]?).getD 0) raws
  refine PySem.call_dict_pairs (knd := mixKind X.prog X.w) (kvs := prs) PA (I.ok.hd hcalm) ⟨⟨o, n2, ho, hoc, hod, hdat⟩, by simp [hl2], fun j k v e => ?_⟩ ⟨by rw [hl, hl2], fun i key v e => ?_⟩ (by rw [hl2]; exact hz) fun h' tk hd' k => ?_
  · obtain ⟨b, kk, e1, e2, e3, e4⟩ := hpr j k v e
    refine ⟨by simp [e1], .inl ?_⟩
    show s.heap.IsTuple ((ps[j]?).getD 0) #[k, v]
    rw [e1]
    exact e2
  · obtain ⟨b, kk, e1, e2, e3, e4⟩ := hpr i key v e
    exact ⟨kk, e3, e4⟩
  · have hm : (s.heap.objs.size == sysModules) = false := beq_eq_false_iff_ne.mpr (Nat.ne_of_gt I.big)
    have hlen : (mergeK [] kvs).length ≤ sizeLine := by
      refine Nat.le_trans (length_mergeK kvs []) ?_
      rw [List.length_nil, Nat.zero_add, rel.length, hl]
      exact hz
    exact ⟨.ref s.heap.objs.size, upd H s.heap.objs.size (.dK (mergeK [] kvs)), I.laid (t' := tk) (fun b o e => k b o (by simp) e) (Nat.le_refl _) (show ObjOk X.prog X.w _ _ _ (.dK (mergeK [] kvs)) from ⟨hlen, hm, merged [] prs, KV.merge rel .nil, hd'⟩), rfl, q _ (I.hok.fresh (Nat.le_refl _))⟩
end
/-! t[::-1], t of two -/
section
variable {prog : Program} {w : World} {A : Around} {E : Value → Shared → Prop} {s : Shared}
theorem getItem_two {t sl : Addr} {x y vl vu vs : Value} {Q : Value → Shared → Prop} (ht : IsTup s.heap t #[x, y]) (hs : s.heap.IsSliceOf sl vl vu vs) (pl : IsPart vl none) (pu : IsPart vu none) (ps : IsPart vs (some (-1)))
    (h : Q (.ref s.heap.objs.size) { s with heap := s.heap.push { cls := .type "tuple", data := .seq #[y, x] } }) : wpAny (model prog w) A (getItem (.ref t) (.ref sl)) Q E s := by
  have htake : sizeOk (.seq #[y, x]) := by
    show 2 ≤ sizeLine
    decide
  obtain ⟨os, hos, hcs, hds⟩ := id hs
  have hTs : s.TypeIs (.ref sl) "slice" := ⟨os, hos, hcs⟩
  unfold getItem
  try with_reducible refine wpAny_holding ?_
  first | refine wpAny_bind (wpAny_pure ?_) | skip
  refine wpAny_bind (wpAny_sequenceKey ht.typeIs (by decide) ?_)
  refine wpAny_bind (wpAny_callSpecial?_slot (name := Str.ofString "__getitem__") ht.typeIs PyProof.Rows.slot_tuple_getitem
    (wpAny_call_entry PyProof.Rows.slot_tuple_getitem ht.typeIs entry_tuple_getitem ?_ (args_tuple_getitem _ _)))
  show wpAny _ _ (Builtin.Tuple.tupleItemsOf (.ref t) >>= _) _ _ s
  refine wpAny_bind (tupleItemsOf_ ht ?_)
  refine wpAny_bind (wpAny_typeOf hTs ?_)
  rw [if_pos (by decide)]
  refine wpAny_bind ?_
  unfold Builtin.Slice.sliceApplied Builtin.Slice.sliceFields
  refine wpAny_bind (wpAny_bind (wpAny_field hos hds (x := vl) rfl (wpAny_bind (wpAny_field hos hds (x := vu) rfl (wpAny_bind (wpAny_field hos hds (x := vs) rfl (wpAny_pure ?_)))))))
  refine wpAny_bind (HT.slicePart_ ps ?_)
  show wpAny _ _ (if ((-1 : Int) == 0) = true then _ else _) _ _ s
  rw [if_neg (by decide)]
  refine wpAny_bind (HT.slicePart_ pl (wpAny_bind (HT.slicePart_ pu (wpAny_bind (wpAny_pure ?_)))))
  refine wpAny_pure ?_
  show wpAny _ _ (if (((1 : Int) == 0 && (-1 : Int) == 1 && (2 : Nat) == 2) = true) then _ else _) _ _ s
  rw [if_neg (by decide)]
  generalize hA : (List.filterMap _ (List.range _)).toArray = arr
  have eA : arr = #[y, x] := by
    rw [← hA]
    first
      | rfl
      | kernel_rfl
      | with_unfolding_all rfl
  subst eA
  show wpAny _ _ (Builtin.Tuple.tupleExact #[y, x] >>= fun v => ret v) _ _ s
  have e : ((List.range 2).filterMap fun (m : Nat) => (#[x, y] : Array Value)[((1 : Int) + (m : Int) * (-1)).toNat]?).toArray = #[y, x] := rfl
  first
    | exact wpAny_bind (m := Builtin.Tuple.tupleExact _) (wpAny_newObj_type (wpAny_pure ⟨_, rfl, wpAny_pure h⟩) htake)
    | exact wpAny_bind (m := Builtin.Tuple.tupleExact _) (wpAny_newObj_type (wpAny_bind (wpAny_pure (wpAny_pure ⟨_, rfl, wpAny_pure h⟩))) htake)
    | exact wpAny_bind (wpAny_bind (m := Builtin.Tuple.tupleExact _) (wpAny_newObj_type (wpAny_pure (wpAny_pure ⟨_, rfl, wpAny_pure h⟩)) htake))
    | exact wpAny_bind (wpAny_bind (m := Builtin.Tuple.tupleExact _) (wpAny_newObj_type (wpAny_pure ⟨_, rfl, wpAny_pure h⟩) htake))
end
section
variable {X : Cx}
def tRev2 (K : PySem.W.Frag) (te : TE) : TE := fun σ H Q => te σ H fun x H1 => ∃ a y z, x = .ref a ∧ SqT K H1 a [y, z] ∧ ∀ p, H1 p = none → Q (.ref p) (upd H1 p (.tup [z, y]))
theorem pe_rev2 {e : Expr} {te : TE} {k : Nat} {p1 p2 p3 pos : Pos} (he : PE X e te) : PE X (.Subscript e (.Slice none none (some (.UnaryOp .USub (.Constant (.int 1) k p1) p2)) p3) pos) (tRev2 X.K te) := by
  refine ⟨fun pins s σ H Q I h => ?_⟩
  refine Subscript_ (thn (he.run pins s σ H _ I h) fun v s1 ⟨x, H1, I1, r1, q1⟩ => ?_)
  obtain ⟨a, y, z, ex, hx, q⟩ := q1
  subst ex
  cases r1
  have hst : PO X (some (.UnaryOp .USub (.Constant (.int 1) k p1) p2)) (tPart (tUn (rU fun i => .int (-i)) (tC (.int 1)))) := po_some (pe_un un_neg pe_int)
  refine wpAny_Slice (thn (po_none.run pins s1 σ H1 (fun o H2 => o = none ∧ H2 = H1) I1 ⟨rfl, rfl⟩) fun vl s2 ⟨l, H2, I2, pl, el, e2⟩ => ?_)
  subst el e2
  refine thn (po_none.run pins s2 σ H2 (fun o H3 => o = none ∧ H3 = H2) I2 ⟨rfl, rfl⟩) fun vu s3 ⟨u, H3, I3, pu, eu, e3⟩ => ?_
  subst eu e3
  refine thn (hst.run pins s3 σ H3 (fun o H4 => o = some (-1) ∧ H4 = H3) I3 ⟨1, rfl, -1, rfl, rfl, rfl⟩) fun vs s4 ⟨o, H4, I4, ps, eo, e4⟩ => ?_
  subst eo e4
  have I5 : Inv X pins σ H4 { s4 with heap := s4.heap.push { cls := .type "slice", data := .fields #[vl, vu, vs] } } := I4.kept (t' := s4.toks) fun b ob q => Heap.get?_push_of_some _ q
  obtain ⟨its, r, ht, hz⟩ := I5.tuple hx
  obtain ⟨yv, zv, ei, ry, rz⟩ := vals2 r
  subst ei
  show wpAny (model X.prog X.w) X.A (subscriptTail e (.Slice none none (some (.UnaryOp .USub (.Constant (.int 1) k p1) p2)) p3) (.ref a) (.ref s4.heap.objs.size)) (EP X pins σ Q) X.xe { s4 with heap := s4.heap.push { cls := .type "slice", data := .fields #[vl, vu, vs] } }
  refine tail_any (ops := [.ref a, .ref s4.heap.objs.size]) ht.typeIs (PyProof.Rows.slot_tuple_getitem.lookup) ?_ (by with_unfolding_all rfl)
  refine getItem_two ht (Heap.IsSliceOf.new _ vl vu vs) pl pu ps ?_
  refine ⟨.ref _, _, I5.laid (t' := s4.toks) (o := .tup [z, y]) (fun b ob q => Heap.get?_push_of_some _ q) (Nat.le_refl _) ?_, rfl, q _ (I5.hok.fresh (Nat.le_refl _))⟩
  exact ⟨by show 2 ≤ sizeLine; decide, [zv, yv], .cons rz (.cons ry .nil), IsTup.new _ _⟩
end
end Kt

/-! further rules: == of tuples by texts, enumerate of a tuple, a text many times, a tuple turned about -/
namespace Kv
open PySem PySem.Spec PyProof.Rows L2 Kf
theorem vals_at : ∀ {xs : List V} {us : List Value} {i : Nat} (h : i < us.length), Vals xs us → ∃ x, xs[i]? = some x ∧ RelV x us[i]
  | _, _, i, h, .nil => absurd h (Nat.not_lt_zero _)
  | _, _, 0, h, .cons r t => ⟨_, rfl, r⟩
  | _, _, i + 1, h, .cons r t => by
    obtain ⟨x, e, q⟩ := vals_at (i := i) (Nat.lt_of_succ_lt_succ h) t
    exact ⟨x, e, q⟩
/-- at places that both have stand texts -/
def BothTxt (xs ys : List V) : Prop := ∀ (i : Nat) (u v : V), xs[i]? = some u → ys[i]? = some v → ∃ a b : Str, u = .str a ∧ v = .str b
def rEqTT (K : PySem.W.Frag) : R2 := fun x y H Q => ∃ (a b : Addr) (xs ys : List V), x = .ref a ∧ y = .ref b ∧ SqT K H a xs ∧ SqT K H b ys ∧ BothTxt xs ys ∧ Q (.bl (decide (xs = ys))) H
theorem op_eqTT {X : Cx} (hu : X.A.units + 64 < cLine) : OpR X (compareOp .Eq) (rEqTT X.K) := by
  intro pins s σ H x y v u Q I rx ry h
  obtain ⟨a, b, xs, ys, rfl, rfl, ha, hb, bt, q⟩ := h
  cases rx
  cases ry
  obtain ⟨is, r1, ⟨o1, h1, c1, n1, d1⟩, _⟩ := I.tuple ha
  obtain ⟨js, r2, ⟨o2, h2, c2, n2, d2⟩, _⟩ := I.tuple hb
  have l1 := r1.length
  have l2 := r2.length
  refine PySem.SeqAt.eq_tupleAt (e := fun i => decide (xs[i]? = ys[i]?)) ⟨o1, h1, c1, n1, d1⟩ ⟨o2, h2, c2, n2, d2⟩ (by omega) (fun j j1 j2 => ?_) ?_
  · have j1' : j < is.length := by simpa using j1
    have j2' : j < js.length := by simpa using j2
    obtain ⟨p, ep, rp⟩ := vals_at j1' r1
    obtain ⟨p', ep', rp'⟩ := vals_at j2' r2
    obtain ⟨sa, sb, rfl, rfl⟩ := bt j p p' ep ep'
    obtain ⟨t1, e1⟩ := rp
    obtain ⟨t2, e2⟩ := rp'
    have z := PySem.SeqAt.EqAt.str_str (A := X.A.in1) (s := s) sa t1 sb t2
    simp only [List.getElem_toArray, e1, e2, ep, ep']
    have e : decide (some (V.str sa) = some (V.str sb)) = (sa == sb) := by
      by_cases c : sa = sb
      · subst c
        simp
      · have : ¬ some (V.str sa) = some (V.str sb) := fun z => c (V.str.inj (Option.some.inj z))
        rw [decide_eq_false this]
        exact (beq_eq_false_iff_ne.mpr c).symm
    rw [e]
    exact z
  · have e : ((List.range (min is.toArray.size js.toArray.size)).all (fun i => decide (xs[i]? = ys[i]?)) && is.toArray.size == js.toArray.size) = decide (xs = ys) := by
      rw [List.size_toArray, List.size_toArray, ← l1, ← l2]
      by_cases c : xs = ys
      · subst c
        simp
      · rw [decide_eq_false c]
        by_cases cl : xs.length = ys.length
        · rw [Bool.and_eq_false_iff]
          left
          rw [← Bool.not_eq_true, List.all_eq_true]
          intro all
          refine c (List.ext_getElem? fun i => ?_)
          by_cases hi : i < xs.length
          · exact of_decide_eq_true (all i (List.mem_range.mpr (by omega)))
          · rw [List.getElem?_eq_none (by omega), List.getElem?_eq_none (by omega)]
        · rw [Bool.and_eq_false_iff]
          right
          exact beq_eq_false_iff_ne.mpr cl
    rw [e]
    exact ⟨.bl _, H, I, rfl, q⟩
/-! a text many times -/
theorem fold_app : ∀ (l : List (Array Nat)) (acc : Array Nat), (l.foldl (· ++ ·) acc).toList = acc.toList ++ (l.map Array.toList).flatten
  | [], acc => by simp
  | x :: l, acc => by
    rw [List.foldl_cons, fold_app l]
    simp [Array.toList_append, List.append_assoc]
theorem mul_cps (z : Str) (n : Nat) : (∀ c ∈ (Txt.mul z (n : Int)).cps.toList, c ∈ z.cps.toList) ∧ (Txt.mul z (n : Int)).cps.toList.length ≤ z.cps.toList.length * n := by
  unfold Txt.mul
  by_cases h1 : (n : Int) < 1
  · rw [if_pos h1]
    exact ⟨fun c h => absurd h (by simp [Str.empty]), by simp [Str.empty]⟩
  rw [if_neg h1]
  by_cases h2 : ((n : Int) == 1 || z.length == 0) = true
  · rw [if_pos h2]
    exact ⟨fun c h => h, Nat.le_mul_of_pos_right _ (by omega)⟩
  rw [if_neg h2]
  show (∀ c ∈ ((List.replicate (n : Int).toNat z.cps).foldl (· ++ ·) #[]).toList, c ∈ z.cps.toList) ∧ ((List.replicate (n : Int).toNat z.cps).foldl (· ++ ·) #[]).toList.length ≤ _
  rw [fold_app, Int.toNat_natCast, List.map_replicate]
  refine ⟨fun c h => ?_, ?_⟩
  · have h' : c ∈ (List.replicate n z.cps.toList).flatten := by simpa using h
    obtain ⟨l, hl, hc⟩ := List.mem_flatten.mp h'
    rw [(List.mem_replicate.mp hl).2] at hc
    exact hc
  · have e : ((#[] : Array Nat).toList ++ (List.replicate n z.cps.toList).flatten).length = n * z.cps.toList.length := by simp
    rw [e, Nat.mul_comm]
    exact Nat.le_refl _
def rMulS : R2 := fun x y H Q => ∃ (z : Str) (n : Nat), x = .str z ∧ y = .int (n : Int) ∧ n ≤ 1000 ∧ z.length ≤ sizeLine ∧ z.length * n ≤ sizeLine ∧ Q (.str (Txt.mul z (n : Int))) H
theorem op_mulS {X : Cx} : OpR X (binaryOp .Mult) rMulS := by
  intro pins s σ H x y v u Q I rx ry h
  obtain ⟨z, n, rfl, rfl, hn, hz0, hz1, q⟩ := h
  have hz : z.length ≤ 16777216 := hz0
  obtain ⟨t1, rfl⟩ := rx
  obtain ⟨t2, rfl⟩ := ry
  refine SB.mul (x := z) (n := (n : Int)) ⟨?_, fun h1 _ => ?_, fun h1 _ => ?_⟩ fun t' k => ⟨.str _, H, I.tok _, ⟨t', rfl⟩, q⟩
  · have a : decide ((n : Int) < -(2 ^ 63 : Int)) = false := decide_eq_false (by omega)
    have b : decide ((n : Int) ≥ 2 ^ 63) = false := decide_eq_false (by omega)
    rw [a, b]
    rfl
  · have h0 : (0 : Int) < (n : Int) := by omega
    have h3 : (16777216 : Int) ≤ (2 ^ 63 - 1) / (n : Int) := by
      rw [Int.le_ediv_iff_mul_le h0]
      omega
    omega
  · have le : z.length * (n : Int).toNat ≤ 16777216 := by
      rw [Int.toNat_natCast]
      exact hz1
    unfold Builtin.Str.tooLong
    exact decide_eq_false (by have : sizeLine = 16777216 := rfl; omega)
/-! a tuple turned about -/
theorem fm_congr {α β : Type} {f g : α → Option β} : ∀ {l : List α}, (∀ x ∈ l, f x = g x) → l.filterMap f = l.filterMap g
  | [], _ => rfl
  | x :: l, h => by
    rw [List.filterMap_cons, List.filterMap_cons, h x List.mem_cons_self, fm_congr fun y hy => h y (List.mem_cons_of_mem _ hy)]
section
variable {prog : Program} {w : World} {A : Around} {E : Value → Shared → Prop} {s : Shared}
theorem getItem_back {t sl : Addr} {its : Array Value} {vl vu vs : Value} {Q : Value → Shared → Prop} (ht : IsTup s.heap t its) (hz : its.size ≤ sizeLine) (hs : s.heap.IsSliceOf sl vl vu vs) (pl : IsPart vl none) (pu : IsPart vu none) (ps : IsPart vs (some (-1)))
    (h : Q (.ref s.heap.objs.size) { s with heap := s.heap.push { cls := .type "tuple", data := .seq its.toList.reverse.toArray } }) : wpAny (model prog w) A (getItem (.ref t) (.ref sl)) Q E s := by
  have htake : sizeOk (.seq its.toList.reverse.toArray) := by
    show its.toList.reverse.toArray.size ≤ sizeLine
    simpa using hz
  obtain ⟨os, hos, hcs, hds⟩ := id hs
  have hTs : s.TypeIs (.ref sl) "slice" := ⟨os, hos, hcs⟩
  unfold getItem
  try with_reducible refine wpAny_holding ?_
  first | refine wpAny_bind (wpAny_pure ?_) | skip
  refine wpAny_bind (wpAny_sequenceKey ht.typeIs (by decide) ?_)
  refine wpAny_bind (wpAny_callSpecial?_slot (name := Str.ofString "__getitem__") ht.typeIs PyProof.Rows.slot_tuple_getitem
    (wpAny_call_entry PyProof.Rows.slot_tuple_getitem ht.typeIs entry_tuple_getitem ?_ (args_tuple_getitem _ _)))
  show wpAny _ _ (Builtin.Tuple.tupleItemsOf (.ref t) >>= _) _ _ s
  refine wpAny_bind (tupleItemsOf_ ht ?_)
  refine wpAny_bind (wpAny_typeOf hTs ?_)
  rw [if_pos (by decide)]
  refine wpAny_bind ?_
  unfold Builtin.Slice.sliceApplied Builtin.Slice.sliceFields
  refine wpAny_bind (wpAny_bind (wpAny_field hos hds (x := vl) rfl (wpAny_bind (wpAny_field hos hds (x := vu) rfl (wpAny_bind (wpAny_field hos hds (x := vs) rfl (wpAny_pure ?_)))))))
  refine wpAny_bind (HT.slicePart_ ps ?_)
  show wpAny _ _ (if ((-1 : Int) == 0) = true then _ else _) _ _ s
  rw [if_neg (by decide)]
  refine wpAny_bind (HT.slicePart_ pl (wpAny_bind (HT.slicePart_ pu (wpAny_bind (wpAny_pure ?_)))))
  refine wpAny_pure ?_
  have en : Builtin.Slice.slicePlaces ((its.size : Int) - 1) (-1) (-1) = its.size := by
    unfold Builtin.Slice.slicePlaces
    simp only [show ¬ ((-1 : Int) > 0) by decide, if_false, show (- -1 : Int) = 1 by decide, Int.ediv_one]
    split <;> omega
  show wpAny _ _ (if ((((its.size : Int) - 1) == 0 && (-1 : Int) == 1 && Builtin.Slice.slicePlaces ((its.size : Int) - 1) (-1) (-1) == its.size) = true) then _ else _) _ _ s
  rw [if_neg (by simp)]
  generalize hA : (List.filterMap _ (List.range _)).toArray = arr
  have hA' : (List.filterMap (fun k : Nat => its[(((its.size : Int) - 1) + (k : Int) * (-1)).toNat]?) (List.range (Builtin.Slice.slicePlaces ((its.size : Int) - 1) (-1) (-1)))).toArray = arr := hA
  have eA : arr = its.toList.reverse.toArray := by
    rw [← hA', en]
    have e : List.filterMap (fun k : Nat => its[(((its.size : Int) - 1) + (k : Int) * (-1)).toNat]?) (List.range its.size) = List.filterMap (its[·]?) ((List.range its.size).map fun k => its.size - 1 - k) := by
      rw [List.filterMap_map]
      refine fm_congr fun k hk => ?_
      have := List.mem_range.mp hk
      show its[(((its.size : Int) - 1) + (k : Int) * (-1)).toNat]? = its[its.size - 1 - k]?
      have e2 : (((its.size : Int) - 1) + (k : Int) * (-1)).toNat = its.size - 1 - k := by omega
      rw [e2]
    rw [e, PySem.W.krv_range, List.filterMap_reverse, PySem.W.krv_all]
  subst eA
  show wpAny _ _ (Builtin.Tuple.tupleExact its.toList.reverse.toArray >>= fun v => ret v) _ _ s
  first
    | exact wpAny_bind (m := Builtin.Tuple.tupleExact _) (wpAny_newObj_type (wpAny_pure ⟨_, rfl, wpAny_pure h⟩) htake)
    | exact wpAny_bind (m := Builtin.Tuple.tupleExact _) (wpAny_newObj_type (wpAny_bind (wpAny_pure (wpAny_pure ⟨_, rfl, wpAny_pure h⟩))) htake)
end
section
variable {X : Cx}
def tRevT (K : PySem.W.Frag) (te : TE) : TE := fun σ H Q => te σ H fun x H1 => ∃ (a : Addr) (xs : List V), x = .ref a ∧ SqT K H1 a xs ∧ ∀ p, H1 p = none → Q (.ref p) (upd H1 p (.tup xs.reverse))
theorem pe_revT {e : Expr} {te : TE} {k : Nat} {p1 p2 p3 pos : Pos} (he : PE X e te) : PE X (.Subscript e (.Slice none none (some (.UnaryOp .USub (.Constant (.int 1) k p1) p2)) p3) pos) (tRevT X.K te) := by
  refine ⟨fun pins s σ H Q I h => ?_⟩
  refine Subscript_ (thn (he.run pins s σ H _ I h) fun v s1 ⟨x, H1, I1, r1, q1⟩ => ?_)
  obtain ⟨a, xs, ex, hx, q⟩ := q1
  subst ex
  cases r1
  have hst : PO X (some (.UnaryOp .USub (.Constant (.int 1) k p1) p2)) (tPart (tUn (rU fun i => .int (-i)) (tC (.int 1)))) := po_some (pe_un un_neg pe_int)
  refine wpAny_Slice (thn (po_none.run pins s1 σ H1 (fun o H2 => o = none ∧ H2 = H1) I1 ⟨rfl, rfl⟩) fun vl s2 ⟨l, H2, I2, pl, el, e2⟩ => ?_)
  subst el e2
  refine thn (po_none.run pins s2 σ H2 (fun o H3 => o = none ∧ H3 = H2) I2 ⟨rfl, rfl⟩) fun vu s3 ⟨u, H3, I3, pu, eu, e3⟩ => ?_
  subst eu e3
  refine thn (hst.run pins s3 σ H3 (fun o H4 => o = some (-1) ∧ H4 = H3) I3 ⟨1, rfl, -1, rfl, rfl, rfl⟩) fun vs s4 ⟨o, H4, I4, ps, eo, e4⟩ => ?_
  subst eo e4
  have I5 : Inv X pins σ H4 { s4 with heap := s4.heap.push { cls := .type "slice", data := .fields #[vl, vu, vs] } } := I4.kept (t' := s4.toks) fun b ob q => Heap.get?_push_of_some _ q
  obtain ⟨its, r, ht, hz⟩ := I5.tuple hx
  have lr := r.length
  show wpAny (model X.prog X.w) X.A (subscriptTail e (.Slice none none (some (.UnaryOp .USub (.Constant (.int 1) k p1) p2)) p3) (.ref a) (.ref s4.heap.objs.size)) (EP X pins σ Q) X.xe { s4 with heap := s4.heap.push { cls := .type "slice", data := .fields #[vl, vu, vs] } }
  refine tail_any (ops := [.ref a, .ref s4.heap.objs.size]) ht.typeIs (PyProof.Rows.slot_tuple_getitem.lookup) ?_ (by with_unfolding_all rfl)
  refine getItem_back ht (by rw [List.size_toArray]; omega) (Heap.IsSliceOf.new _ vl vu vs) pl pu ps ?_
  refine ⟨.ref _, _, I5.laid (t' := s4.toks) (o := .tup xs.reverse) (fun b ob q => Heap.get?_push_of_some _ q) (Nat.le_refl _) ?_, rfl, q _ (I5.hok.fresh (Nat.le_refl _))⟩
  exact ⟨by rw [List.length_reverse]; exact hz, its.reverse, r.reverse, IsTup.new _ _⟩
end
/-! a list == the empty list -/
def rEqL0 (K : PySem.W.Frag) : R2 := fun x y H Q => ∃ (a b : Addr) (xs : List V), x = .ref a ∧ y = .ref b ∧ SqL K H a xs ∧ SqL K H b [] ∧ Q (.bl xs.isEmpty) H
theorem op_eqL0 {X : Cx} (hu : X.A.units + 64 < cLine) : OpR X (compareOp .Eq) (rEqL0 X.K) := by
  intro pins s σ H x y v u Q I rx ry h
  obtain ⟨a, b, xs, rfl, rfl, ha, hb, q⟩ := h
  cases rx
  cases ry
  obtain ⟨is, r1, ⟨o1, n1, h1, c1, _, d1⟩, _⟩ := I.list ha
  obtain ⟨js, r2, ⟨o2, n2, h2, c2, _, d2⟩, _⟩ := I.list hb
  cases r2
  cases r1 with
  | nil => exact PySem.SeqAt.eq_listAt (e := fun _ => true) ⟨o1, h1, c1, n1, d1⟩ ⟨o2, h2, c2, n2, d2⟩ rfl (by omega) (fun j j1 _ => absurd j1 (Nat.not_lt_zero _)) ⟨.bl true, H, I, rfl, q⟩
  | cons r t => exact PySem.SeqAt.eq_list_lengthsAt ⟨o1, h1, c1, n1, d1⟩ ⟨o2, h2, c2, n2, d2⟩ (by simp) (by omega) ⟨.bl false, H, I, rfl, q⟩
end Kv

/-! enumerate of a tuple -/
namespace PySem
open Sem (wp)
open AutoSeq1 (wpAny_loadPart')
theorem enumT_new (l : Addr) (its : Array Value) :
    Meets (Builtin.«enumerate.__new__» ⟨[.type "enumerate", .ref l], []⟩) (fun _ R s => s.heap.IsTuple l its ∧
      R (.ok (.ret (.ref (s.heap.push { cls := .type "tuple_iterator", data := .fields #[.ref l, .int 0 0] }).objs.size)))
        { s with heap := (s.heap.push { cls := .type "tuple_iterator", data := .fields #[.ref l, .int 0 0] }).push { cls := .type "enumerate", data := .fields #[.none, .bool false, .ref s.heap.objs.size, rawInt 0, .none, .none] } }) :=
  .of_wp fun prog w A R s h => by
    obtain ⟨hp, g, d, tk, os⟩ := s
    obtain ⟨hT, h⟩ := h
    obtain ⟨o, ho, hc, n, hd⟩ := id hT
    have ff := sub_enumerate
    wp_walk using wpAny_loadPart' ho
    refine wpAny_stack_any fun st => wpAny_pure ?_
    split
    · rename_i c _ _ _ _ _
      cases (c == Value.type "enumerate")
      · wp_walk using wpAny_loadPart' ho, wpAny_pyIter_tuple hT
        exact ⟨_, rfl, h⟩
      · wp_walk using wpAny_loadPart' ho, wpAny_pyIter_tuple hT
        exact ⟨_, rfl, h⟩
    · wp_walk using wpAny_loadPart' ho, wpAny_pyIter_tuple hT
      exact ⟨_, rfl, h⟩
end PySem
namespace Kv
open PySem PySem.Spec PyProof.Rows L2 Kf
/-- the tuple at a, each item in a new pair -/
def IteT (K : PySem.W.Frag) (a : Addr) : It where
  go := fun i H => ∃ (xs : List V) (x : V), SqT K H a xs ∧ xs[i]? = some x
  yld := fun i H v G => ∃ T x, v = .ref T ∧ H T = none ∧ G = upd H T (.tup [.int (i : Nat), x]) ∧ ∀ xs, SqT K H a xs → xs[i]? = some x
  stop := fun i H => ∃ xs : List V, SqT K H a xs ∧ xs.length ≤ i
theorem turn_enumT {P : Program} {w : World} {K : PySem.W.Frag} {elts : List Expr} {kk : Nat} {tpos : Pos} (a e it : Addr) :
    Turn P w K (.Tuple elts kk tpos) (IteT K a) [e, it] e (fun i h => (∃ old, IsEnum h e it ((i : Nat) : Int) old) ∧ h.IsTupleIter it a i ∧ e ≠ it) where
  mem := by simp
  obj := by
    intro i h st b hb
    obtain ⟨⟨old, he⟩, ⟨o, ho, hc, hd⟩, _⟩ := st
    rcases (by simpa using hb : b = e ∨ b = it) with rfl | rfl
    · exact ⟨_, he, fun v q => nomatch q⟩
    · exact ⟨o, ho, fun v q => by rw [hd] at q; cases q⟩
  keep := fun i h h' st k => let ⟨⟨old, he⟩, hi, hne⟩ := st; ⟨⟨old, k e (by simp) _ he⟩, hi.at fun o q => k it (by simp) o q, hne⟩
  item := by
    intro X hP hw hK hc i pins s σ H E I hf st hg
    subst hP hw hK
    obtain ⟨⟨old, he⟩, hit, hne⟩ := st
    obtain ⟨xs, x, hq, hx⟩ := hg
    obtain ⟨its, rv, tp, hz⟩ := I.tuple hq
    obtain ⟨u, hu, ru⟩ := rv.get hx
    obtain ⟨oi, hoi, hci, hdi⟩ := id hit
    obtain ⟨ot, hot, hct, nt, hdt⟩ := id tp
    have lt : i < its.length := (List.getElem?_eq_some_iff.mp hu).1
    have ai : a ≠ it := fun z => by
      rw [z, hoi] at hot
      cases hot
      rw [hci] at hct
      exact absurd (Value.type.inj hct) (by decide)
    have ea : e ≠ a := fun z => by
      rw [← z, he] at hot
      cases hot
      exact absurd (Value.type.inj hct) (by decide)
    have hel : e < s.heap.objs.size := Heap.lt_size he
    have hil : it < s.heap.objs.size := Heap.lt_size hoi
    refine wpAny_pyNext_enum_itemD (Draws.tuple (A := X.A.in1) (I.ok.hd hc) it a ai its.toArray) he ⟨hit, ⟨ot, hot, hct, nt, hdt⟩⟩ (by simpa using lt) hne (by simp [hne, ea]) ?_
    intro u' h1 tk hu' ho hst hT hsz hk
    have eu : u' = u := by
      have z : its[i]? = some u' := by simpa using hu'
      rw [hu] at z
      exact (Option.some.inj z).symm
    subst eu
    refine ⟨_, rfl, wpAny_letOwnedTupleGo_enum (s := { s with heap := h1, toks := tk + 1 }) ho ?_⟩
    intro h2 he' sb
    have hT2 : h2.get? s.heap.objs.size = some { cls := .type "tuple", data := .seq #[.int i tk, u'] } := (sb.2 _ (Nat.ne_of_gt hel)).trans hT
    have new : ObjOk X.prog X.w (upd H s.heap.objs.size (.tup [.int (i : Nat), x])) h2 s.heap.objs.size (.tup [.int (i : Nat), x]) := ⟨by show 2 ≤ sizeLine; decide, [.int i tk, u'], .cons ⟨_, rfl⟩ (.cons ru .nil), ⟨_, hT2, rfl, _, rfl⟩⟩
    have J : Inv X pins σ (upd H s.heap.objs.size (.tup [.int (i : Nat), x])) { s with heap := h2, toks := tk + 1 } :=
      I.turnedNew (ch := [e, it]) (fun b ob hb q => (sb.2 b (fun z => hb (by simp [z]))).trans (hk b ob (fun z => hb (by simp [z])) (fun z => hb (by simp [z])) q)) hf (Nat.le_refl _) new
    refine ⟨.ref s.heap.objs.size, _, J, rfl, ⟨_, x, rfl, I.hok.fresh (Nat.le_refl _), rfl, fun ys hy => by rw [I.tuple_inj hy hq]; exact hx⟩, ⟨⟨u', ?_⟩, hst.1.at fun o q => (sb.2 it (Ne.symm hne)).trans q, hne⟩, fun b hb => ?_⟩
    · rw [show ((i + 1 : Nat) : Int) = (i : Int) + 1 by omega]
      exact he'
    · have lb : b < s.heap.objs.size := by
        rcases (by simpa using hb : b = e ∨ b = it) with rfl | rfl
        · exact hel
        · exact hil
      rw [upd_ne (Nat.ne_of_lt lb)]
      exact (hf b hb).1
  done := by
    intro X hP hw hK hc i pins s σ H E I hf st hg
    subst hP hw hK
    obtain ⟨⟨old, he⟩, hit, hne⟩ := st
    obtain ⟨xs, hq, hx⟩ := hg
    obtain ⟨its, rv, tp, hz⟩ := I.tuple hq
    obtain ⟨oi, hoi, hci, hdi⟩ := id hit
    obtain ⟨ot, hot, hct, nt, hdt⟩ := id tp
    have ai : a ≠ it := fun z => by
      rw [z, hoi] at hot
      cases hot
      rw [hci] at hct
      exact absurd (Value.type.inj hct) (by decide)
    obtain ⟨f0, f1, f2, f3, f4, f5⟩ := hf it (by simp)
    have hl := rv.length
    have none : its.toArray[i]? = none := by
      rw [List.getElem?_toArray]
      exact List.getElem?_eq_none (by omega)
    have D : Draws X.prog X.w X.A.in1 it [it, a] i (fun _ _ => True) (fun j h => j = i ∧ h.IsTupleIter it a i ∧ h.IsTuple a its.toArray) :=
      { live := fun _ _ st => let ⟨o, ho, _⟩ := st.2.1; ⟨o, ho⟩
        frame := fun _ _ _ st hk => ⟨st.1, st.2.1.at fun o e => hk it (by simp) o e, st.2.2.at fun o e => hk a (by simp) o e⟩
        item := fun j s Q E hj st _ => absurd st.1 (Nat.ne_of_lt hj)
        done := fun s Q E st hE => wpAny_nextOf_tuple_end (I.ok.hd hc) st.2.1 st.2.2 none hE }
    exact wpAny_pyNext_enum_endD D he ⟨rfl, hit, ⟨ot, hot, hct, nt, hdt⟩⟩ fun h1 eb => ⟨rfl, I.turned (t' := s.toks) (fun b o hb q => eb b o hb q) f0 f1 f3 f4 f5⟩
  self := fun A i s Q E st h => let ⟨⟨_, he⟩, _⟩ := st; wpAny_pyIter_enum he h
def iEnumT (K : PySem.W.Frag) (ta : TA) : TI := fun σ H R => ta σ H fun vs G => ∃ (a : Addr) (xs : List V), vs = [.ref a] ∧ SqT K G a xs ∧ R (IteT K a) G
theorem pi_enumT {X : Cx} {e : Expr} {ta : TA} {p pos tpos : Pos} {elts : List Expr} {kk : Nat} (hg : Gl X "enumerate") (hm : X.mg "enumerate" = none) (ha : PA X [e] ta) (hs : starEach [e] X.env = [(false, eval e X.env)] := by rfl) :
    PI X (.Tuple elts kk tpos) (.Call (.Name "enumerate" p) [e] [] pos) (iEnumT X.K ta) := by
  constructor
  intro pins s σ H R I h
  refine Call_ (ld_blt I hg hm boot_enumerate (PyProof.Rows.callWith_type1 (thn (ha.run pos pins s σ H _ I h) ?_) hs rfl))
  rintro us s1 ⟨vs, G, J, r, a, xs, rfl, hq, q⟩
  rw [Vals.ref1 r]
  obtain ⟨its, rv, tp, hz⟩ := J.tuple hq
  have IT : s1.heap.IsTuple a its.toArray := let ⟨o, ho, hc, n, hd⟩ := tp; ⟨o, ho, hc, n, hd⟩
  have sz1 : (s1.heap.push { cls := .type "tuple_iterator", data := .fields #[.ref a, .int 0 0] }).objs.size = s1.heap.objs.size + 1 := Heap.size_push ..
  refine callType_new F.called_enumerate (by decide) (F.typeCall_enumerate_1 _) (F.newCall_enumerate_1 _) (fun obj => F.args_object_init_2 obj _) F.entry_enumerate_new (enumT_new a its.toArray) ⟨IT, ?_⟩
  show _ ∧ _
  rw [sz1]
  have he := Heap.get?_push_size (s1.heap.push { cls := .type "tuple_iterator", data := .fields #[.ref a, .int 0 0] }) (o := { cls := .type "enumerate", data := .fields #[.none, .bool false, .ref s1.heap.objs.size, rawInt 0, .none, .none] }) rfl
  rw [sz1] at he
  refine ⟨⟨_, he, rfl⟩, wpAny_pyIter_enum he ?_⟩
  have J2 := J.kept (h' := (s1.heap.push { cls := .type "tuple_iterator", data := .fields #[.ref a, .int 0 0] }).push { cls := .type "enumerate", data := .fields #[.none, .bool false, .ref s1.heap.objs.size, rawInt 0, .none, .none] }) (t' := s1.toks) (fun b o x => Heap.get?_push_of_some _ (Heap.get?_push_of_some _ x))
  refine ⟨s1.heap.objs.size + 1, [s1.heap.objs.size + 1, s1.heap.objs.size], _, _, G, rfl, J2, turn_enumT a (s1.heap.objs.size + 1) s1.heap.objs.size, ⟨⟨.none, he⟩, ⟨_, Heap.get?_push_of_some _ (Heap.get?_push_size _ rfl), rfl, rfl⟩, Nat.succ_ne_self _⟩, fun b hb => ?_, q⟩
  have le : s1.heap.objs.size ≤ b := by
    rcases (by simpa using hb : b = s1.heap.objs.size + 1 ∨ b = s1.heap.objs.size) with rfl | rfl
    · exact Nat.le_add_right _ _
    · exact Nat.le_refl _
  exact J.fpOk le (J.hok.fresh le)
theorem walk_enumT {K : PySem.W.Frag} {a : Addr} {xs : List V} : Walk (IteT K a) xs.length (fun H => SqT K H a xs) (YPair (fun i => some (.int (i : Nat))) (fun i => xs[i]?)) := by
  refine ⟨fun i _ hi q => ⟨xs, xs[i], q, by simp [hi]⟩, fun _ q => ⟨xs, q, Nat.le_refl _⟩, fun i H v G _ q y => ?_⟩
  obtain ⟨T, x, h1, h2, h3, h4⟩ := y
  exact ⟨T, .int (i : Nat), x, h1, h2, h3, rfl, h4 xs q⟩
end Kv

/-! a thing of anything == a text -/
namespace PySem.SeqAt
theorem sub_str_dic : isSubtype (.type "str") (.type "dict") = pure false := by kernel_rfl
theorem dic_declines (l : Addr) (es : Array DictEntry) (n : Nat) (dd : Option Addr) (sl : Array (Option Value)) (b : Str) (u : Tok) :
    Meets (Builtin.«dict.__eq__» ⟨[.ref l, .str b u], []⟩) (fun _ R s => s.heap.get? l = some { cls := .type "dict", dict := dd, data := .dict es n, slots := sl } ∧ R (.ok (.ret .notImplemented)) s) :=
  .of_wp fun prog w A R s h => by
    obtain ⟨hp, g, d, tk, os⟩ := s
    obtain ⟨hl, h⟩ := h
    have f1 := sub_str_dic
    wp_walk using AutoSeq1.wpAny_loadPart' hl
    exact ⟨_, rfl, h⟩
theorem str_declines_dic (b : Str) (u : Tok) (l : Addr) (es : Array DictEntry) (n : Nat) (dd : Option Addr) (sl : Array (Option Value)) :
    Meets (Builtin.«str.__eq__» ⟨[.str b u, .ref l], []⟩) (fun _ R s => s.heap.get? l = some { cls := .type "dict", dict := dd, data := .dict es n, slots := sl } ∧ R (.ok (.ret .notImplemented)) s) :=
  .of_wp fun prog w A R s h => by
    obtain ⟨hp, g, d, tk, os⟩ := s
    obtain ⟨hl, h⟩ := h
    wp_walk using AutoSeq1.wpAny_loadPart' hl, wpAny_load hl
    exact ⟨_, rfl, h⟩
theorem dic_str {A : Around} {s : Shared} {l : Addr} {o : Obj} {es : Array DictEntry} {n : Nat} (b : Str) (u : Tok) (ho : s.heap.get? l = some o) (hc : o.cls = .type "dict") (hd : o.data = .dict es n) (hu : A.units < cLine) : RcAt A s (.ref l) (.str b u) false := fun prog w E Q h => by
  obtain ⟨cls, dd, data, sl⟩ := o
  simp only at hc hd
  subst hc hd
  exact rc_eq_decline_or (k := false) ⟨_, ho, rfl⟩ (typeIs_str s b u) (by decide) sub_str_dic F.slot_dict_eq F.slot_str_eq_refl
    (fun _ hq => call_meets F.slot_dict_eq ⟨_, ho, rfl⟩ F.entry_dict_eq (F.args_dict_eq_2 _ _) (dic_declines l es n dd sl b u) ⟨ho, hq⟩)
    (fun _ hq => call_meets F.slot_str_eq_refl (typeIs_str s b u) F.entry_str_eq (F.args_str_eq_2 _ _) (str_declines_dic b u l es n dd sl) ⟨ho, hq⟩)
    (fun _ hq => wpAny_of_eq (rfl : isSame (.ref l) (.str b u) = pure false) hq) (.inr hu) h
end PySem.SeqAt
namespace Kv
open PySem PySem.Spec PyProof.Rows L2 Kf
def Dt.isS (x : Dt) (z : Str) : Bool := match x with
  | .str y => decide (y = z)
  | _ => false
def rEqUS : R2 := fun x y H Q => ∃ (d : Dt) (z : Str), Dd Any H d x ∧ y = .str z ∧ Q (.bl (d.isS z)) H
theorem op_eqUS {X : Cx} (hu : X.A.units + 64 < cLine) : OpR X (compareOp .Eq) rEqUS := by
  intro pins s σ H x y v u Q I rx ry h
  obtain ⟨d, z, hd, rfl, q⟩ := h
  obtain ⟨t2, rfl⟩ := ry
  have no : d.isS z = false → EP X pins σ Q (.bool false) s := fun e => by
    rw [e] at q
    exact ⟨.bl false, H, I, rfl, q⟩
  cases hd with
  | non =>
    cases rx
    exact SeqAt.RcAt.none_str z t2 _ _ _ _ (no rfl)
  | bl b =>
    cases rx
    exact SeqAt.RcAt.bool_str b z t2 _ _ _ _ (no rfl)
  | int i =>
    obtain ⟨t1, rfl⟩ := rx
    exact SeqAt.RcAt.int_str i t1 z t2 _ _ _ _ (no rfl)
  | str y =>
    obtain ⟨t1, rfl⟩ := rx
    refine SeqAt.RcAt.str_str y t1 z t2 _ _ _ _ ?_
    have e : (y == z) = (Dt.str y).isS z := by
      show (y == z) = decide (y = z)
      by_cases c : y = z
      · subst c
        simp
      · rw [decide_eq_false c]
        exact beq_eq_false_iff_ne.mpr c
    rw [e]
    exact ⟨.bl _, H, I, rfl, q⟩
  | tup h t =>
    cases rx
    obtain ⟨its, rv, ⟨o, ho, hc, n, hd⟩, _⟩ := I.tuple (SqT.of h)
    exact SeqAt.RcAt.tuple_str z t2 ⟨o, ho, hc, n, hd⟩ (by omega) _ _ _ _ (no rfl)
  | lst _ h t =>
    cases rx
    obtain ⟨its, rv, ⟨o, n, ho, hc, _, hd⟩, _⟩ := I.list (SqL.of h)
    exact SeqAt.RcAt.list_str z t2 ⟨o, ho, hc, n, hd⟩ (by omega) _ _ _ _ (no rfl)
  | dct _ h =>
    cases rx
    obtain ⟨o, es, n, ho, hc, hd, _, _, _⟩ := dct_obj I h
    exact SeqAt.dic_str z t2 ho hc hd (by omega) _ _ _ _ (no rfl)
end Kv

/-! numbers and truths reckoned with; a thing is a truth; None among things -/
namespace Kv
open PySem PySem.Spec PyProof.Rows L2 Kf
/-- a number, or a truth as a number -/
def nu : V → Option Int
  | .int i => some i
  | .bl b => some (if b = true then (1 : Int) else 0)
  | _ => none
section
variable {X : Cx}
theorem op_addU : OpR X (binaryOp .Add) (fun x y H Q => ∃ i j, nu x = some i ∧ y = .int j ∧ Q (.int (i + j)) H) := by
  intro pins s σ H x y v u Q I rx ry h
  obtain ⟨i, j, hx, rfl, q⟩ := h
  obtain ⟨t2, rfl⟩ := ry
  cases x with
  | int a =>
    obtain ⟨t1, rfl⟩ := rx
    cases hx
    exact (op_add (X := X)) pins s σ H (.int i) (.int j) _ _ Q I ⟨t1, rfl⟩ ⟨t2, rfl⟩ ⟨i, j, rfl, rfl, q⟩
  | bl b =>
    cases rx
    cases hx
    exact PySem.IntBool.add_bool_int ⟨.int _, H, I.tok _, ⟨_, rfl⟩, q⟩
  | _ => cases hx
theorem op_subU : OpR X (binaryOp .Sub) (fun x y H Q => ∃ i j, nu x = some i ∧ y = .int j ∧ Q (.int (i - j)) H) := by
  intro pins s σ H x y v u Q I rx ry h
  obtain ⟨i, j, hx, rfl, q⟩ := h
  obtain ⟨t2, rfl⟩ := ry
  cases x with
  | int a =>
    obtain ⟨t1, rfl⟩ := rx
    cases hx
    exact (op_sub (X := X)) pins s σ H (.int i) (.int j) _ _ Q I ⟨t1, rfl⟩ ⟨t2, rfl⟩ ⟨i, j, rfl, rfl, q⟩
  | bl b =>
    cases rx
    cases hx
    exact PySem.IntBool.sub_bool_int ⟨.int _, H, I.tok _, ⟨_, rfl⟩, q⟩
  | _ => cases hx
theorem op_subV : OpR X (binaryOp .Sub) (fun x y H Q => ∃ i j, x = .int i ∧ nu y = some j ∧ Q (.int (i - j)) H) := by
  intro pins s σ H x y v u Q I rx ry h
  obtain ⟨i, j, rfl, hy, q⟩ := h
  obtain ⟨t1, rfl⟩ := rx
  cases y with
  | int a =>
    obtain ⟨t2, rfl⟩ := ry
    cases hy
    exact (op_sub (X := X)) pins s σ H (.int i) (.int j) _ _ Q I ⟨t1, rfl⟩ ⟨t2, rfl⟩ ⟨i, j, rfl, rfl, q⟩
  | bl b =>
    cases ry
    cases hy
    exact PySem.IntBool.sub_int_bool ⟨.int _, H, I.tok _, ⟨_, rfl⟩, q⟩
  | _ => cases hy
theorem op_eqU1 : OpR X (compareOp .Eq) (fun x y H Q => ∃ i j, nu x = some i ∧ y = .int j ∧ ∀ b : Bool, Q (.bl b) H) := by
  intro pins s σ H x y v u Q I rx ry h
  obtain ⟨i, j, hx, rfl, q⟩ := h
  obtain ⟨t2, rfl⟩ := ry
  cases x with
  | int a =>
    obtain ⟨t1, rfl⟩ := rx
    exact SeqAt.RcAt.int_int a t1 j t2 _ _ _ _ ⟨.bl _, H, I, rfl, q _⟩
  | bl b =>
    cases rx
    exact SeqAt.RcAt.bool_int b j t2 _ _ _ _ ⟨.bl _, H, I, rfl, q _⟩
  | _ => cases hx
theorem call_strU : CallR X (.type "str") (fun xs H Q => ∃ x i, xs = [x] ∧ nu x = some i ∧ i.natAbs < 10 ^ 45 ∧ ∀ z : Str, z.length ≤ 50 → (∀ c ∈ z.cps.toList, c < 16 ^ 8) → Q (.str z) H) := by
  intro pins s σ H xs us Q I r h
  obtain ⟨x, i, rfl, hx, hi, q⟩ := h
  obtain ⟨u, rfl, rx⟩ := vals1 r
  cases x with
  | int a =>
    obtain ⟨t, rfl⟩ := rx
    cases hx
    have hl : i.natAbs.log2 < 1920 := by
      by_cases z : i.natAbs = 0
      · rw [z]
        decide
      · have : i.natAbs.log2 < 150 := (Nat.log2_lt z).mpr (Nat.lt_of_lt_of_le hi (by decide))
        omega
    refine PySem.P.str_of_int hl ⟨.str _, H, I.tok _, ⟨_, rfl⟩, q _ ?_ ?_⟩
    · have z := int_text_length_le10 (a := i) (k := 45) (by decide) hi
      have e : (Str.ofString (toString i)).length = (toString i).length := PySem.ofString_length _
      show (Str.ofString (toString i)).length ≤ 50
      rw [e]
      omega
    · intro c hc
      have hc : c ∈ (Str.ofString (toString i)).cps.toList := hc
      rw [Str.ofString_eq_toList] at hc
      simp only [List.mem_map] at hc
      obtain ⟨ch, _, rfl⟩ := hc
      exact ch.val.toNat_lt
  | bl b =>
    cases rx
    refine PySem.P.str_of_bool ⟨.str _, H, I.tok _, ⟨_, rfl⟩, q _ ?_ ?_⟩
    · cases b <;> decide +kernel
    · cases b <;> decide +kernel
  | _ => cases hx
/-- a thing is this truth -/
def Dt.isB (x : Dt) (b : Bool) : Bool := match x with
  | .bl c => decide (c = b)
  | _ => false
theorem op_isU : OpR X (compareOp .Is) (fun x y H Q => ∃ (d : Dt) (b : Bool), Dd Any H d x ∧ y = .bl b ∧ Q (.bl (d.isB b)) H) := by
  intro pins s σ H x y v u Q I rx ry h
  obtain ⟨d, b, hd, rfl, q⟩ := h
  cases ry
  have no : d.isB b = false → EP X pins σ Q (.bool false) s := fun e => by
    rw [e] at q
    exact ⟨.bl false, H, I, rfl, q⟩
  cases hd with
  | non =>
    cases rx
    exact wpAny_is_other rfl (fun z => by cases z) (no rfl)
  | bl c =>
    cases rx
    by_cases e : c = b
    · subst e
      exact wpAny_is_self rfl ⟨.bl true, H, I, rfl, by simpa [Dt.isB] using q⟩
    · exact wpAny_is_other rfl (fun z => e (Value.bool.inj z)) (no (by simp [Dt.isB, e]))
  | int i =>
    obtain ⟨t1, rfl⟩ := rx
    exact wpAny_is_other rfl (fun z => by cases z) (no rfl)
  | str y =>
    obtain ⟨t1, rfl⟩ := rx
    exact wpAny_is_other rfl (fun z => by cases z) (no rfl)
  | tup h t =>
    cases rx
    exact wpAny_is_other rfl (fun z => by cases z) (no rfl)
  | lst _ h t =>
    cases rx
    exact wpAny_is_other rfl (fun z => by cases z) (no rfl)
  | dct _ h =>
    cases rx
    exact wpAny_is_other rfl (fun z => by cases z) (no rfl)
/-- None, a number, a truth, a tuple -/
def Plainy (H : Hp) (z : V) : Prop := z = .non ∨ (∃ i, z = .int i) ∨ (∃ b, z = .bl b) ∨ ∃ a xs, z = .ref a ∧ H a = some (.tup xs)
theorem isNone_pl {z : V} {u : Value} {H : Hp} (r : RelV z u) (f : Plainy H z) : PySem.Numpy.isNone u = isNon z := by
  rcases f with rfl | ⟨i, rfl⟩ | ⟨b, rfl⟩ | ⟨a, xs, rfl, _⟩
  · cases r; rfl
  · obtain ⟨t, rfl⟩ := r; rfl
  · cases r; rfl
  · cases r; rfl
theorem any_pl {H : Hp} : ∀ {xs : List V} {us : List Value}, Vals xs us → (∀ z ∈ xs, Plainy H z) → us.any PySem.Numpy.isNone = xs.any isNon
  | _, _, .nil, _ => rfl
  | y :: xs, u :: us, .cons r t, f => by
    rw [List.any_cons, List.any_cons, isNone_pl r (f y (List.mem_cons_self ..)), any_pl t fun z hz => f z (List.mem_cons_of_mem _ hz)]
theorem pl_eq {A : Around} {pins : List (Addr × Obj)} {σ : L2.St} {H : Hp} {s : Shared} (I : Inv X pins σ H s) (hu : A.units < cLine) {z : V} {u : Value} (r : RelV z u) (f : Plainy H z) : SeqAt.EqAt A s u .none (PySem.Numpy.isNone u) := by
  rcases f with rfl | ⟨i, rfl⟩ | ⟨b, rfl⟩ | ⟨a, xs, rfl, h⟩
  · cases r
    exact SeqAt.EqAt.same _
  · obtain ⟨t, rfl⟩ := r
    exact SeqAt.EqAt.int_none i t
  · cases r
    exact SeqAt.EqAt.bool_none b
  · cases r
    obtain ⟨its, rv, ⟨o, ho, hc, n, hd⟩, _⟩ := I.tuple (SqT.of h)
    exact SeqAt.EqAt.tuple_none ⟨o, ho, hc, n, hd⟩ hu
theorem mem_pl {A : Around} {pins : List (Addr × Obj)} {σ : L2.St} {H : Hp} {s : Shared} (I : Inv X pins σ H s) (hu : A.units < cLine) : ∀ {xs : List V} {us : List Value}, Vals xs us → (∀ z ∈ xs, Plainy H z) → ∀ u ∈ us, SeqAt.EqAt A s u .none (PySem.Numpy.isNone u)
  | _, _, .nil, _ => fun u hu' => by cases hu'
  | y :: xs, u :: us, .cons r t, f => fun u' hu' => by
    rcases List.mem_cons.mp hu' with e | hu'
    · subst e
      exact pl_eq I hu r (f y (List.mem_cons_self ..))
    · exact mem_pl I hu t (fun z hz => f z (List.mem_cons_of_mem _ hz)) u' hu'
def rNoneInU (K : PySem.W.Frag) : R2 := fun x y H Q => ∃ p xs, x = .non ∧ y = .ref p ∧ SqL K H p xs ∧ (∀ z ∈ xs, Plainy H z) ∧ Q (.bl (xs.any isNon)) H
theorem op_noneInU (hu : X.A.units + 64 < cLine) : OpR X (compareOp .In) (rNoneInU X.K) := by
  intro pins s σ H x y v u Q I rx ry h
  obtain ⟨p, xs, rfl, rfl, hq, f, q⟩ := h
  cases rx
  cases ry
  obtain ⟨its, rv, hl, _⟩ := I.list hq
  have hu1 : X.A.in1.units < cLine := by show X.A.units + 1 < cLine; omega
  refine SeqAt.in_listAt PySem.Numpy.isNone hl.isList (fun z hz => mem_pl I hu1 rv f z (by simpa using hz)) ⟨.bl _, H, I, rfl, ?_⟩
  rw [show its.toArray.any PySem.Numpy.isNone = its.any PySem.Numpy.isNone by simp, any_pl rv f]
  exact q
end
end Kv

/-! things of anything: how great they are -/
namespace Kv
open PySem PySem.Spec PyProof.Rows L2 Kf
mutual
def Dt.sz : Dt → Nat
  | .tup xs => 1 + Dt.szs xs
  | .lst xs => 1 + Dt.szs xs
  | .dct kvs => 1 + 3 * kvs.length
  | _ => 1
def Dt.szs : List Dt → Nat
  | [] => 0
  | x :: xs => x.sz + Dt.szs xs
end
theorem sz_mem : ∀ {xs : List Dt} {x : Dt}, x ∈ xs → x.sz ≤ Dt.szs xs
  | y :: ys, x, h => by
    rcases List.mem_cons.mp h with rfl | h
    · exact Nat.le_add_right _ _
    · exact Nat.le_trans (sz_mem h) (Nat.le_add_left _ _)
theorem szs_app : ∀ (xs ys : List Dt), Dt.szs (xs ++ ys) = Dt.szs xs + Dt.szs ys
  | [], ys => by show _ = 0 + _; rw [Nat.zero_add]; rfl
  | x :: xs, ys => by
    show x.sz + Dt.szs (xs ++ ys) = x.sz + Dt.szs xs + Dt.szs ys
    rw [szs_app xs ys, Nat.add_assoc]
mutual
def Dt.dp : Dt → Nat
  | .tup xs => Dt.dps xs + 1
  | .lst xs => Dt.dps xs + 1
  | .dct _ => 1
  | _ => 0
def Dt.dps : List Dt → Nat
  | [] => 0
  | x :: xs => max x.dp (Dt.dps xs)
end
def kwt : List (Str × Int) → Nat
  | [] => 3
  | p :: r => 10 * p.1.length + 60 + kwt r
mutual
def Dt.wt : Dt → Nat
  | .non => 4
  | .bl _ => 5
  | .int _ => 52
  | .str x => 10 * x.length + 2
  | .tup xs => Dt.wts xs + 3
  | .lst xs => Dt.wts xs + 3
  | .dct kvs => kwt kvs
def Dt.wts : List Dt → Nat
  | [] => 0
  | x :: xs => x.wt + 2 + Dt.wts xs
end
mutual
def Dt.fine (B : Nat) : Dt → Prop
  | .int i => i.natAbs < B
  | .str x => ∀ c ∈ x.cps.toList, c < 16 ^ 8
  | .tup xs => Dt.fines B xs
  | .lst xs => Dt.fines B xs
  | .dct kvs => ∀ p ∈ kvs, (∀ c ∈ p.1.cps.toList, c < 16 ^ 8) ∧ p.2.natAbs < B
  | _ => True
def Dt.fines (B : Nat) : List Dt → Prop
  | [] => True
  | x :: xs => x.fine B ∧ Dt.fines B xs
end
theorem int_shw {B : Nat} (hB : B ≤ 10 ^ 45) (i : Int) (h : i.natAbs < B) : (PyData.int i).showable = true ∧ (PyData.int i).depth = 0 ∧ (PyData.int i).shown.length ≤ 52 := by
  have h : i.natAbs < 10 ^ 45 := Nat.lt_of_lt_of_le h hB
  refine ⟨?_, by simp [PyData.depth], ?_⟩
  · simp only [PyData.showable]
    refine decide_eq_true ?_
    by_cases z : i.natAbs = 0
    · rw [z]
      decide
    · have : i.natAbs.log2 < 150 := (Nat.log2_lt z).mpr (Nat.lt_of_lt_of_le h (by decide))
      omega
  · have z := int_text_length_le10 (a := i) (k := 45) (by decide) h
    simp only [PyData.shown]
    have e : (Str.ofString (toString i)).length = (toString i).length := PySem.ofString_length _
    rw [e]
    omega
theorem dct_shw {B : Nat} (hB : B ≤ 10 ^ 45) : ∀ (kvs : List (Str × Int)), (∀ p ∈ kvs, (∀ c ∈ p.1.cps.toList, c < 16 ^ 8) ∧ p.2.natAbs < B) → PyData.showableKv (dkp kvs) = true ∧ PyData.depthKv (dkp kvs) = 0 ∧ ((PyData.shownKv (dkp kvs)).map (·.length)).sum + 2 * (PyData.shownKv (dkp kvs)).length + 3 ≤ kwt kvs
  | [], _ => ⟨by simp [dkp, PyData.showableKv], by simp [dkp, PyData.depthKv], by simp [dkp, PyData.shownKv, kwt]⟩
  | (x, i) :: kvs, h => by
    obtain ⟨a, b, c⟩ := dct_shw hB kvs fun p hp => h p (List.mem_cons_of_mem _ hp)
    obtain ⟨f1, f2⟩ := h (x, i) List.mem_cons_self
    obtain ⟨i1, i2, i3⟩ := int_shw hB i f2
    have e : dkp ((x, i) :: kvs) = (.str x, .int i) :: dkp kvs := rfl
    rw [e]
    refine ⟨by simp only [PyData.showableKv, a, i1]; simp [PyData.showable], by simp only [PyData.depthKv, b, i2]; simp [PyData.depth], ?_⟩
    have z : (PyData.str x).shown.length ≤ 10 * x.length + 2 := by simp only [PyData.shown]; exact PySem.StrLaws.reprText_len x f1
    have e2 : ((": " : Str)).length = 2 := by decide +kernel
    simp only [PyData.shownKv, List.map_cons, List.sum_cons, List.length_cons, kwt, strLen_append, e2]
    omega
mutual
theorem Dt.shw {B : Nat} (hB : B ≤ 10 ^ 45) : ∀ (x : Dt), x.fine B → x.toP.showable = true ∧ x.toP.depth = x.dp ∧ x.toP.shown.length ≤ x.wt
  | .non, _ => ⟨by simp [Dt.toP, PyData.showable], by simp [Dt.toP, PyData.depth, Dt.dp], by simp only [Dt.toP, PyData.shown, Dt.wt]; decide⟩
  | .bl b, _ => ⟨by simp [Dt.toP, PyData.showable], by simp [Dt.toP, PyData.depth, Dt.dp], by cases b <;> (simp only [Dt.toP, PyData.shown, Dt.wt]; decide)⟩
  | .int i, h => by
    have h : i.natAbs < B := by simpa only [Dt.fine] using h
    have h : i.natAbs < 10 ^ 45 := Nat.lt_of_lt_of_le h hB
    refine ⟨?_, by simp [Dt.toP, PyData.depth, Dt.dp], ?_⟩
    · simp only [Dt.toP, PyData.showable]
      refine decide_eq_true ?_
      by_cases z : i.natAbs = 0
      · rw [z]
        decide
      · have : i.natAbs.log2 < 150 := (Nat.log2_lt z).mpr (Nat.lt_of_lt_of_le h (by decide))
        omega
    · have z := int_text_length_le10 (a := i) (k := 45) (by decide) h
      simp only [Dt.toP, PyData.shown, Dt.wt]
      have e : (Str.ofString (toString i)).length = (toString i).length := PySem.ofString_length _
      rw [e]
      omega
  | .str x, h => by
    have h : ∀ c ∈ x.cps.toList, c < 16 ^ 8 := by simpa only [Dt.fine] using h
    exact ⟨by simp [Dt.toP, PyData.showable], by simp [Dt.toP, PyData.depth, Dt.dp], by simp only [Dt.toP, PyData.shown, Dt.wt]; exact PySem.StrLaws.reprText_len x h⟩
  | .tup xs, h => by
    obtain ⟨a, b, c⟩ := Dt.shws hB xs (by simpa only [Dt.fine] using h)
    refine ⟨by simpa only [Dt.toP, PyData.showable] using a, by simp only [Dt.toP, PyData.depth, Dt.dp]; omega, ?_⟩
    simp only [Dt.toP, PyData.shown, Dt.wt]
    have := tupleText_len_le (PyData.shownAll (Dt.toPs xs))
    omega
  | .lst xs, h => by
    obtain ⟨a, b, c⟩ := Dt.shws hB xs (by simpa only [Dt.fine] using h)
    refine ⟨by simpa only [Dt.toP, PyData.showable] using a, by simp only [Dt.toP, PyData.depth, Dt.dp]; omega, ?_⟩
    simp only [Dt.toP, PyData.shown, Dt.wt]
    have := listText_len_le (PyData.shownAll (Dt.toPs xs))
    omega
  | .dct kvs, h => by
    obtain ⟨a, b, c⟩ := dct_shw hB kvs (by simpa only [Dt.fine] using h)
    refine ⟨by simp only [Dt.toP, PyData.showable, a], by simp only [Dt.toP, PyData.depth, b, Dt.dp], ?_⟩
    simp only [Dt.toP, PyData.shown, Dt.wt]
    have := dictText_len_le (PyData.shownKv (dkp kvs))
    omega
theorem Dt.shws {B : Nat} (hB : B ≤ 10 ^ 45) : ∀ (xs : List Dt), Dt.fines B xs → PyData.showableAll (Dt.toPs xs) = true ∧ PyData.depthAll (Dt.toPs xs) = Dt.dps xs ∧ ((PyData.shownAll (Dt.toPs xs)).map (·.length)).sum + 2 * (PyData.shownAll (Dt.toPs xs)).length ≤ Dt.wts xs
  | [], _ => ⟨by simp [Dt.toPs, PyData.showableAll], by simp [Dt.toPs, PyData.depthAll, Dt.dps], by simp [Dt.toPs, PyData.shownAll]⟩
  | x :: xs, h => by
    have h : x.fine B ∧ Dt.fines B xs := by simpa only [Dt.fines] using h
    obtain ⟨a, b, c⟩ := x.shw hB h.1
    obtain ⟨a', b', c'⟩ := Dt.shws hB xs h.2
    refine ⟨by simp [Dt.toPs, PyData.showableAll, a, a'], by simp [Dt.toPs, PyData.depthAll, Dt.dps, b, b'], ?_⟩
    simp only [Dt.toPs, PyData.shownAll, List.map_cons, List.sum_cons, List.length_cons, Dt.wts]
    omega
end
/-- it is fine, and within the bounds -/
structure Fine (B n W : Nat) (x : Dt) : Prop where
  ok : x.fine B
  dp : x.dp ≤ n
  wt : x.wt ≤ W
theorem Fine.shw {B n W : Nat} {x : Dt} (h : Fine B n W x) (hB : B ≤ 10 ^ 45) (hW : W ≤ sizeLine) : Shw n x := by
  obtain ⟨a, b, c⟩ := x.shw hB h.ok
  exact ⟨a, by rw [b]; exact h.dp, Nat.le_trans c (Nat.le_trans h.wt hW)⟩
mutual
theorem Dt.fine_up {B C : Nat} (h : B ≤ C) : ∀ {x : Dt}, x.fine B → x.fine C
  | .non, _ => by simp only [Dt.fine]
  | .bl _, _ => by simp only [Dt.fine]
  | .int i, f => by
    simp only [Dt.fine] at f ⊢
    omega
  | .str x, f => by
    simp only [Dt.fine] at f ⊢
    exact f
  | .tup xs, f => by
    simp only [Dt.fine] at f ⊢
    exact Dt.fines_up h f
  | .lst xs, f => by
    simp only [Dt.fine] at f ⊢
    exact Dt.fines_up h f
  | .dct kvs, f => by
    simp only [Dt.fine] at f ⊢
    exact fun p hp => ⟨(f p hp).1, Nat.lt_of_lt_of_le (f p hp).2 h⟩
theorem Dt.fines_up {B C : Nat} (h : B ≤ C) : ∀ {xs : List Dt}, Dt.fines B xs → Dt.fines C xs
  | [], _ => by simp only [Dt.fines]
  | x :: xs, f => by
    simp only [Dt.fines] at f ⊢
    exact ⟨Dt.fine_up h f.1, Dt.fines_up h f.2⟩
end
theorem Fine.mono {A B n W m V : Nat} {x : Dt} (h : Fine A n W x) (ha : A ≤ B) (hn : n ≤ m) (hw : W ≤ V) : Fine B m V x := ⟨Dt.fine_up ha h.ok, Nat.le_trans h.dp hn, Nat.le_trans h.wt hw⟩
mutual
theorem Dt.sz_wt : ∀ x : Dt, x.sz ≤ x.wt
  | .non => by simp only [Dt.sz, Dt.wt]; omega
  | .bl _ => by simp only [Dt.sz, Dt.wt]; omega
  | .int _ => by simp only [Dt.sz, Dt.wt]; omega
  | .str _ => by simp only [Dt.sz, Dt.wt]; omega
  | .tup xs => by
    have := Dt.szs_wts xs
    simp only [Dt.sz, Dt.wt]
    omega
  | .lst xs => by
    have := Dt.szs_wts xs
    simp only [Dt.sz, Dt.wt]
    omega
  | .dct kvs => by
    have : ∀ l : List (Str × Int), 1 + 3 * l.length ≤ kwt l := by
      intro l
      induction l with
      | nil => simp [kwt]
      | cons p r ih => simp only [kwt, List.length_cons]; omega
    simp only [Dt.sz, Dt.wt]
    exact this kvs
theorem Dt.szs_wts : ∀ xs : List Dt, Dt.szs xs ≤ Dt.wts xs
  | [] => by simp only [Dt.szs, Dt.wts]; omega
  | x :: xs => by
    have := x.sz_wt
    have := Dt.szs_wts xs
    simp only [Dt.szs, Dt.wts]
    omega
end
theorem len_szs : ∀ xs : List Dt, xs.length ≤ Dt.szs xs
  | [] => Nat.zero_le _
  | x :: xs => by
    have := len_szs xs
    have : 1 ≤ x.sz := by cases x <;> simp only [Dt.sz] <;> omega
    simp only [Dt.szs, List.length_cons]
    omega
theorem wts_app : ∀ (xs ys : List Dt), Dt.wts (xs ++ ys) = Dt.wts xs + Dt.wts ys
  | [], ys => by simp only [List.nil_append, Dt.wts]; omega
  | x :: xs, ys => by
    simp only [List.cons_append, Dt.wts]
    rw [wts_app xs ys]
    omega
theorem dps_app : ∀ (xs ys : List Dt), Dt.dps (xs ++ ys) = max (Dt.dps xs) (Dt.dps ys)
  | [], ys => by simp only [List.nil_append, Dt.dps]; omega
  | x :: xs, ys => by
    simp only [List.cons_append, Dt.dps]
    rw [dps_app xs ys]
    omega
theorem fines_app {B : Nat} : ∀ (xs ys : List Dt), Dt.fines B (xs ++ ys) ↔ Dt.fines B xs ∧ Dt.fines B ys
  | [], ys => by simp only [List.nil_append, Dt.fines, true_and]
  | x :: xs, ys => by
    simp only [List.cons_append, Dt.fines]
    rw [fines_app xs ys, and_assoc]
end Kv

/-! the end of a law whose defs show things -/
namespace Kf
open PySem PySem.Spec PyProof.Rows L2 LamX
/-- the heap at the law's call: the written part, the tables cs, the script -/
structure Beg (h : Heap) (K : PySem.W.Frag) (mg : Str → Option Value) (cs : List (Addr × Addr)) (a : Addr) (us : Array Value) : Prop where
  kin : K.In h
  gl : h.Ns mainGlobals mg
  bl : ∃ m, h.Ns builtinsNs m ∧ ∀ y : Str, y ≠ "__name__" → m y = bootBuiltins y
  nl : h.NoLimit
  tb : ∀ p ∈ cs, h.get? p.2 = some { cls := .none, data := .fields #[] }
  nk : ∀ p ∈ cs, K.lookup p.2 = none
  cd : ∀ p ∈ cs, PySem.W.CodeHd h p.1 p.2
  bm : ∃ (z : Addr) (q : Obj), mg "__builtins__" = some (.ref z) ∧ z ≠ builtinsNs ∧ h.get? z = some q ∧ q.cls = .type "module" ∧ q.dict = some builtinsNs ∧ q.data = .plain
  sc : h.get? a = some { cls := .type "list", data := .seq us }
/-- tracked are the tables, and perhaps the script -/
structure Fit (H : Hp) (K : PySem.W.Frag) (cs : List (Addr × Addr)) (a : Addr) : Prop where
  tb : ∀ p ∈ cs, H p.2 = some (.tbl #[])
  no : ∀ b u, H b = some u → (∃ p ∈ cs, p.2 = b ∧ u = .tbl #[]) ∨ (b = a ∧ K.lookup a = none ∧ ∃ o xs, u = .frz o (.lst xs))
section
variable {h : Heap} {K : PySem.W.Frag} {mg : Str → Option Value} {cs : List (Addr × Addr)} {a : Addr} {us : Array Value} {H : Hp}
theorem Fit.off (F : Fit H K cs a) (B : Beg h K mg cs a us) {b : Addr} {o : Obj} (e : h.get? b = some o) (n1 : ∀ vs n, o.data ≠ .seq vs n) (n2 : o.data ≠ .fields #[]) : H b = none := by
  match q : H b with
  | none => rfl
  | some u =>
    rcases F.no b u q with ⟨p, hp, rfl, _⟩ | ⟨rfl, _⟩
    · have z := (B.tb p hp).symm.trans e
      exact absurd (congrArg Obj.data (Option.some.inj z)).symm n2
    · have z := B.sc.symm.trans e
      exact absurd (congrArg Obj.data (Option.some.inj z)).symm (n1 _ _)
theorem Fit.dic (F : Fit H K cs a) (B : Beg h K mg cs a us) {b : Addr} {m : Str → Option Value} (N : h.Ns b m) : (hidT h H).Ns b m := by
  obtain ⟨o, es, n, e, d, r⟩ := N
  refine ⟨o, es, n, hidT_get e (F.off B e ?_ ?_), d, r⟩
  · intro vs k z
    rw [d] at z
    cases z
  · intro z
    rw [d] at z
    cases z
theorem Fit.kin (F : Fit H K cs a) (B : Beg h K mg cs a us) : K.In (hidT h H) := fun b o e => hidT_get (B.kin b o e) <| by
  match q : H b with
  | none => rfl
  | some u =>
    rcases F.no b u q with ⟨p, hp, rfl, _⟩ | ⟨rfl, n, _⟩
    · rw [B.nk p hp] at e
      cases e
    · rw [n] at e
      cases e
theorem Fit.mod (F : Fit H K cs a) (B : Beg h K mg cs a us) : L2.Mod K mg (hidT h H) := by
  obtain ⟨m, m1, m2⟩ := B.bl
  obtain ⟨c, c1, c2⟩ := B.nl
  exact ⟨F.kin B, F.dic B B.gl, ⟨m, F.dic B m1, m2⟩, ⟨c, F.dic B c1, c2⟩⟩
theorem Fit.tabs (F : Fit H K cs a) (B : Beg h K mg cs a us) : ∀ p ∈ cs, TabB (hidT h H) mg p.1 p.2 := by
  intro p hp
  have tp := B.tb p hp
  have gP : mainGlobals ≠ p.2 := by
    intro z
    obtain ⟨o, es, n, e, d, _⟩ := B.gl
    rw [z, tp] at e
    cases e
    cases d
  refine ⟨?_, ?_, gP⟩
  · obtain ⟨o, vs, fl, tf, fg, tg, iF, tx, tt, e, r1, r2, r3, r⟩ := B.cd p hp
    refine ⟨o, vs, fl, tf, fg, tg, iF, tx, tt, hidT_get e (F.off B e (fun vs n z => ?_) (fun z => ?_)), r1, r2, r3, r⟩
    · rw [r2] at z
      cases z
    · rw [r2] at z
      cases z
      simp at r3
  · obtain ⟨z, q, b1, b2, b3, b4, b5, b6⟩ := B.bm
    refine ⟨z, q, b1, b2, fun y => ?_, fun y => ?_, hidT_get b3 (F.off B b3 (fun vs n y => ?_) (fun y => ?_)), b4, b5, b6⟩
    · obtain ⟨o, es, n, e, d, _⟩ := B.gl
      rw [← y, b3] at e
      cases e
      rw [b6] at d
      cases d
    · rw [y, tp] at b3
      cases b3
      cases b6
    · rw [b6] at y
      cases y
    · rw [b6] at y
      cases y
/-- what stood stands, behind the call -/
theorem Fit.old (F : Fit H K cs a) (B : Beg h K mg cs a us) {P : Program} {w : World} {G : Hp} {h' : Heap} (U : Un [] [] H G h h') (o1 : HOk P w H h) (o2 : HOk P w G h') : OldK h h' := by
  have tab : ∀ p ∈ cs, ∃ m : Array Value, h'.get? p.2 = some { cls := .none, data := .fields m } := fun p hp => by
    obtain ⟨m, z⟩ := U.tbls p.2 #[] (F.tb p hp)
    exact ⟨_, o2 p.2 _ z⟩
  have rest : ∀ b o, h.get? b = some o → (∃ p ∈ cs, p.2 = b) ∨ h'.get? b = some o := fun b o e => by
    match q : H b with
    | none => exact .inr (U.keep b o e q (by simp) (by simp))
    | some u =>
      rcases F.no b u q with ⟨p, hp, z, _⟩ | ⟨_, _, ob, xs, rfl⟩
      · exact .inl ⟨p, hp, z⟩
      · have e1 := (o1 b _ q).1
        have e2 := (o2 b _ (U.frzs b ob _ q)).1
        rw [e] at e1
        cases e1
        exact .inr e2
  constructor
  · intro b o e
    rcases rest b o e with ⟨p, hp, rfl⟩ | z
    · obtain ⟨m, hm⟩ := tab p hp
      have tp := B.tb p hp
      rw [tp] at e
      cases e
      exact .inr (.inl ⟨((B.cd p hp).tab tp).isCodeTable, rfl, #[], m, rfl, by rw [Array.empty_append]; exact hm⟩)
    · exact .inl z
  · intro b o e
    rcases rest b o e with ⟨p, hp, rfl⟩ | z
    · obtain ⟨m, hm⟩ := tab p hp
      exact ⟨_, hm⟩
    · exact ⟨o, z⟩
end
/-- such a heap there is -/
theorem fit_of {h : Heap} {K : PySem.W.Frag} {mg : Str → Option Value} {cs : List (Addr × Addr)} {a : Addr} {vs : List Value} {ns : List Int} (P : Program) (w : World) (B : Beg h K mg cs a vs.toArray) (hi : IntsAre vs ns) (hl : ns.length ≤ sizeLine) :
    ∃ H : Hp, Fit H K cs a ∧ SqL K H a (ns.map V.int) ∧ HOk P w H h := by
  have lv := hi.length
  have isT : ∀ b, (∃ p ∈ cs, p.2 = b) → h.get? b = some { cls := .none, data := .fields #[] } := by
    rintro b ⟨p, hp, rfl⟩
    exact B.tb p hp
  have na : ¬ ∃ p ∈ cs, p.2 = a := fun z => by
    have y := congrArg Obj.data (Option.some.inj ((isT a z).symm.trans B.sc))
    cases y
  open Classical in
  let T : Hp := fun b => if ∃ p ∈ cs, p.2 = b then some (.tbl #[]) else none
  have Ty : ∀ p ∈ cs, T p.2 = some (.tbl #[]) := fun p hp => if_pos ⟨p, hp, rfl⟩
  have Tn : ∀ b u, T b = some u → (∃ p ∈ cs, p.2 = b) ∧ u = .tbl #[] := fun b u z => by
    by_cases c : ∃ p ∈ cs, p.2 = b
    · exact ⟨c, (Option.some.inj ((if_pos c).symm.trans z)).symm⟩
    · have y := (if_neg c).symm.trans z
      cases y
  match hk : K.lookup a with
  | some o =>
    have e := B.kin a o hk
    rw [B.sc] at e
    cases e
    refine ⟨T, ⟨Ty, fun b u z => ?_⟩, .inr ⟨_, vs.toArray, _, hk, rfl, rfl, rfl, by rw [List.size_toArray, lv]; exact hl, by simpa using vals_ints hi⟩, fun b u z => ?_⟩
    · obtain ⟨⟨p, hp, e⟩, e2⟩ := Tn b u z
      exact .inl ⟨p, hp, e, e2⟩
    · obtain ⟨c, rfl⟩ := Tn b u z
      exact isT b c
  | none =>
    refine ⟨upd T a (.frz { cls := .type "list", data := .seq vs.toArray } (.lst (ns.map V.int))), ⟨fun p hp => ?_, fun b u z => ?_⟩, .inl (.inr ⟨_, upd_same⟩), fun b u z => ?_⟩
    · rw [upd_ne (fun y => na ⟨p, hp, y⟩)]
      exact Ty p hp
    · by_cases c : b = a
      · subst c
        rw [upd_same] at z
        cases z
        exact .inr ⟨rfl, hk, _, _, rfl⟩
      · rw [upd_ne c] at z
        obtain ⟨⟨p, hp, e⟩, e2⟩ := Tn b u z
        exact .inl ⟨p, hp, e, e2⟩
    · by_cases c : b = a
      · subst c
        rw [upd_same] at z
        cases z
        exact ⟨B.sc, by rw [List.length_map]; exact hl, vs, _, vals_ints hi, B.sc⟩
      · rw [upd_ne c] at z
        obtain ⟨c, rfl⟩ := Tn b u z
        exact isT b c
/-- what is known of the law's promise at the head's heap -/
def LawG (l : PySem.W.OpenLaw) (w : World) (K : PySem.W.Frag) (CX : CXT) (k n : Nat) (x : Str) (mg : Str → Option Value) (fa : Addr) (h : Heap) : Prop :=
  ∃ (fd : FuncData) (cs : List (Addr × Addr)) (sp : Sp), (∀ p ∈ cs, h.get? p.2 = some { cls := .none, data := .fields #[] } ∧ K.lookup p.2 = none ∧ PySem.W.CodeHd h p.1 p.2) ∧ (∀ (s : Shared) (u : Value), BindsTo s fd ⟨[u], []⟩ [(x, u)]) ∧
    (∀ (H : Hp) (a : Addr) (ns : List Int), ns.length ≤ n → (∀ z ∈ ns, Builtin.Int.intBits z ≤ 1048576) → (∀ p ∈ cs, H p.2 = some (.tbl #[])) → SqL K H a (ns.map V.int) → sp [.ref a] H (fun v _ => v = .bl true) E0) ∧
    ∀ base : Heap, K.In base → base.Ns mainGlobals mg → (∀ p ∈ cs, TabB base mg p.1 p.2) → FnG l.prog w K mg base CX k fa fd [x] sp
/-- the end; names: the defs with generator expressions -/
theorem walk_ofG {l : PySem.W.OpenLaw} {n k : Nat} {q : Program} {loose : List Str} {XP : (Str → Option Value) → Heap → Prop} {YP : World → Heap → Prop} {d : DefRec} {K : Params → PySem.W.Frag} {CX : World → CXT} {x : Str}
    (hn : l.most = some n) (hz : n ≤ sizeLine) (hdf : d.params.defaults = []) (hr : Room k callerA) (hY : ∀ (w : World) (h : Heap), YP w h → (K w.params).In h)
    (F : ∀ (w : World) (mg : Str → Option Value) (fa : Addr) (h : Heap), YP w h → (K w.params).In h → h.Ns mainGlobals mg → mg d.name = some (.ref fa) →
      (∀ e ∈ recsOf q, ∃ (a : Addr) (o : Obj) (fd : FuncData) (c p : Addr), mg e.name = some (.ref a) ∧ h.get? a = some o ∧ o.data = .func fd ∧ fd.code = .ref c ∧ h.IsCode c p #[] ∧ h.TableAt c p #[]) → LawG l w (K w.params) (CX w) k n x mg fa h)
    (hX : ∀ (w : World) (H : Hp) (s : Shared) (e : Value) (t : Shared), CX w [] H s E0 e t → False) :
    PySem.W.WalkO q loose XP YP l.row.toRowW d [] (fun f vs => PySem.call f vs) := by
  refine Att.attach_callB hn hdf ?_
  intro w s₀ s mg mb fa o pm cd doc a vs ns G Y _ _ _ hmg ha hi hlen bits hg
  have KX := hY w _ Y
  obtain ⟨fd, cs, sp, tabs, bind, start, run⟩ := F w mg fa _ Y KX G.T.g hmg fun e he => G.T.tab e he
  have B : Beg s.heap (K w.params) mg cs a vs.toArray := ⟨KX, G.T.g, ⟨mb, G.T.b, G.T.builtins⟩, G.T.nolimit, fun p hp => (tabs p hp).1, fun p hp => (tabs p hp).2.1, fun p hp => (tabs p hp).2.2, G.T.bmain, ha⟩
  obtain ⟨H, Ft, sq, ok⟩ := fit_of l.prog w B hi (Nat.le_trans hlen hz)
  have e0 : Env0 l.prog w (K w.params) mg (hidT s.heap H) callerA [] s H := ⟨rfl, Ft.mod B, fun b u e => of_hidT e, Nat.le_of_eq (hidT_size _ _), trivial, by simp [frs], ok, .of_eq hg⟩
  refine codeAny_mono ((run _ (Ft.kin B) (Ft.dic B G.T.g) (Ft.tabs B)).go callerA [] s H ⟨[.ref a], []⟩ [.ref a] [.ref a] _ E0 rfl hr e0 (bind s (.ref a)) (.cons rfl .nil) (start H a ns hlen bits Ft.tb sq)) ?_
  intro r t z
  match r, z with
  | .error e, z => exact (hX w H s e t z).elim
  | .ok .next, z => exact z.elim
  | .ok .brk, z => exact z.elim
  | .ok .cont, z => exact z.elim
  | .ok (.ret u), ⟨v, G', os, bare, un, ok', rv, e⟩ =>
    have e : v = .bl true := e
    subst e
    obtain rfl : u = Value.bool true := rv
    exact ⟨rfl, Ft.old B un ok ok', os, bare⟩
end Kf

/-! the signs of a repr: texts of letters, tuples -/
namespace Kf
open PySem PySem.Spec PyProof.Rows L2 PySem.Builtin.Str
/-- of small letters alone -/
def Low (x : Str) : Prop := ∀ c ∈ x.cps.toList, 97 ≤ c ∧ c < 123
theorem ch_low : ∀ i : Fin 26, reprChar 39 (97 + i.val) = [97 + i.val] := by decide +kernel
theorem ch_low' {c : Nat} (h : 97 ≤ c ∧ c < 123) : reprChar 39 c = [c] := by
  have z := ch_low ⟨c - 97, by omega⟩
  have e : 97 + (c - 97) = c := by omega
  simp only [e] at z
  exact z
theorem fold_low : ∀ (l : List Nat) (acc : Array Nat), (∀ c ∈ l, 97 ≤ c ∧ c < 123) → (l.foldl (fun out c => out ++ (reprChar 39 c).toArray) acc).toList = acc.toList ++ l
  | [], acc, _ => by simp
  | c :: l, acc, h => by
    rw [List.foldl_cons, fold_low l _ fun d hd => h d (List.mem_cons_of_mem _ hd), ch_low' (h c List.mem_cons_self)]
    simp
theorem quote_low {x : Str} (h : Low x) : reprQuote x = 39 := by
  unfold reprQuote
  have e : x.cps.contains 39 = false := by
    rw [← Bool.not_eq_true]
    intro z
    have m : (39 : Nat) ∈ x.cps := by simpa using z
    have := h 39 (Array.mem_def.mp m)
    omega
  rw [e]
  rfl
theorem repr_low {x : Str} (h : Low x) : (reprText x).cps.toList = 39 :: (x.cps.toList ++ [39]) := by
  unfold reprText
  rw [quote_low h, ← Array.foldl_toList, Array.toList_push, fold_low _ _ h]
  rfl
theorem cnt_low {x : Str} (h : Low x) : cnt 40 (reprText x).cps.toList = 0 := by
  rw [repr_low h, cnt_cons, cnt_append]
  have z : ∀ l : List Nat, (∀ c ∈ l, 97 ≤ c ∧ c < 123) → cnt 40 l = 0 := by
    intro l
    induction l with
    | nil => intro _; rfl
    | cons c l ih =>
      intro h
      rw [cnt_cons, ih fun d hd => h d (List.mem_cons_of_mem _ hd)]
      have := h c List.mem_cons_self
      rw [if_neg (by omega)]
      rfl
  rw [z _ h]
  decide
theorem len_low {x : Str} (h : Low x) : (reprText x).length = x.cps.toList.length + 2 := by
  show (reprText x).cps.size = _
  rw [← Array.length_toList, repr_low h]
  simp
theorem cps_app (x y : Str) : (x ++ y).cps.toList = x.cps.toList ++ y.cps.toList := by
  show (x.cps ++ y.cps).toList = _
  rw [Array.toList_append]
theorem cnt_tup (ts : List Str) : cnt 40 (tupleText ts).cps.toList = 1 + (ts.map fun t => cnt 40 t.cps.toList).sum := by
  unfold tupleText
  rw [cps_app, cps_app, cnt_append, cnt_append, cnt_join_sum]
  have e1 : cnt 40 (("(" : Str)).cps.toList = 1 := by decide +kernel
  have e2 : cnt 40 ((", " : Str)).cps.toList = 0 := by decide +kernel
  have e3 : cnt 40 (((if ts.length == 1 then ",)" else ")" : String) : Str)).cps.toList = 0 := by split <;> decide +kernel
  rw [e1, e2, e3, Int.mul_zero]
  omega
theorem count_par (x : Str) : Txt.count x "(" = cnt 40 x.cps.toList := by
  have e : (("(" : String) : Str) = ⟨#[40]⟩ := by decide +kernel
  rw [e]
  exact count_cnt x 40
end Kf

namespace Ks
open PySem PySem.Spec PyProof.Rows L2
/-! a set of texts -/
def tx (e : Int × Value) : Str := match e.2 with
  | .str x _ => x
  | _ => Str.empty
def GoodT (w : World) (e : Int × Value) : Prop := ∃ x t, e.2 = Value.str x t ∧ e.1 = hashStr w x
structure SetT (w : World) (es : Array (Int × Value)) (t : SetTable) (S : Str → Bool) (n : Nat) : Prop where
  good : ∀ e ∈ es.toList, GoodT w e
  nd : (es.toList.map tx).Nodup
  mem : ∀ k, S k = true ↔ k ∈ es.toList.map tx
  few : es.size < scanBound
  fit : t.fits es.size = true
  num : es.size = n
  ris : Ris t.place.toList
  led : w.params.followText "set-order" = true ∨ t.led = true
def SetS (w : World) (h : Heap) (a : Addr) (S : Str → Bool) (n : Nat) : Prop :=
  ∃ o es ep t, h.get? a = some o ∧ o.ExactSet ∧ o.data = .set es ep t ∧ SetT w es t S n
section
variable {P : Program} {w : World} {A : Around} {E : Value → Shared → Prop} {s : Shared} {a : Addr} {S : Str → Bool} {n : Nat}
theorem kis (x : Str) (t : Tok) : (PySem.strKind P w).is x (.str x t) = true := by
  show Value.isStrOf x (.str x t) = true
  simp [Value.isStrOf]
theorem goodElems {l : List (Int × Value)} (g : ∀ e ∈ l, GoodT w e) : ElemsOf (PySem.strKind P w) l := fun e he => by
  obtain ⟨x, t, h1, h2⟩ := g e he
  refine ⟨⟨x, ?_, h2⟩, ?_⟩
  · rw [h1]
    exact kis x t
  · rw [h1] <;> rfl
theorem goodMem {l : List (Int × Value)} (g : ∀ e ∈ l, GoodT w e) (k : Str) : k ∈ l.map tx ↔ ∃ e ∈ l, (PySem.strKind P w).is k e.2 = true := by
  have one : ∀ e ∈ l, ((PySem.strKind P w).is k e.2 = true ↔ tx e = k) := fun e he => by
    obtain ⟨x, t, h1, _⟩ := g e he
    unfold tx
    rw [h1]
    constructor
    · intro z
      obtain ⟨u, hu⟩ := Value.isStrOf_shape (show Value.isStrOf k (.str x t) = true from z)
      injection hu
    · intro z
      show (PySem.strKind P w).is k (.str x t) = true
      have z' : x = k := z
      rw [z']
      exact kis k t
  rw [List.mem_map]
  exact ⟨fun ⟨e, he, q⟩ => ⟨e, he, (one e he).2 q⟩, fun ⟨e, he, q⟩ => ⟨e, he, (one e he).1 q⟩⟩
theorem typ (R : SetS w s.heap a S n) : s.TypeIs (.ref a) "set" := by
  obtain ⟨o, es, ep, t, ho, hx, _⟩ := R
  exact ⟨o, ho, hx.1⟩
theorem after {h : Heap} {o : Obj} {es es' : Array (Int × Value)} {ep : Nat} {t t' : SetTable} (ho : h.get? a = some o) (hd : o.data = .set es ep t) :
    (h.update a (Obj.putSet es' t')).get? a = some { o with data := .set es' (ep + 1) t' } := by
  have q := Heap.get?_update_self (Obj.putSet es' t') ho (by rw [putSet_of es' t' hd]; rfl)
  rw [putSet_of es' t' hd] at q
  exact q
theorem tail {g : Bool → Sem Unit} (hg : ∀ (b : Bool) (s₁ : Shared) (Q' : Unit → Shared → Prop), Q' () s₁ → wpAny (model P w) A (g b) Q' E s₁)
    {o : Obj} {es : Array (Int × Value)} {ep : Nat} {t : SetTable} (ho : s.heap.get? a = some o) (hex : o.ExactSet) (hd : o.data = .set es ep t)
    {fs : Array (Int × Value)} {u : SetTable} {S' : Str → Bool} (T : SetT w fs u S' fs.size) {wd : Bool} {R : Option Bool → Shared → Prop}
    (hR : ∀ h', Heap.SameBut a s.heap h' → SetS w h' a S' fs.size → R (some true) { s with heap := h' }) :
    wpAny (model P w) A (do
        storeSet a fs u
        if (!wd && u.tooFull) = true then do
            g (relayAll u fs (SetTable.grown fs.size)).2.2
            storeSet a (relayAll u fs (SetTable.grown fs.size)).1 (relayAll u fs (SetTable.grown fs.size)).2.1
            pure (some true)
          else pure (some true)) R E s := by
  refine wpAny_bind (wpAny_storeSet_of ho hd ?_ (fits_of_scanBound T.few))
  have o1 := after (es' := fs) (t' := u) ho hd
  have sb := Heap.SameBut.update s.heap a (Obj.putSet fs u)
  split
  · have pm := relayAll_perm u fs (SetTable.grown fs.size)
    have f3 := relayAll_fits u fs (SetTable.grown fs.size)
    have r3 := relayAll_ris u fs (SetTable.grown fs.size)
    have l3 := relayAll_led u fs (SetTable.grown fs.size)
    generalize relayAll u fs (SetTable.grown fs.size) = Z at pm f3 r3 l3 ⊢
    obtain ⟨gs, v, gave⟩ := Z
    dsimp only at pm f3 r3 l3 ⊢
    have e : gs.size = fs.size := by
      rw [← Array.length_toList, pm.length_eq, Array.length_toList]
    have few : gs.size < scanBound := by
      rw [e]
      exact T.few
    refine wpAny_bind (hg _ _ _ ?_)
    refine wpAny_bind (wpAny_storeSet_of o1 rfl ?_ (fits_of_scanBound few))
    have o2 := after (es' := gs) (t' := v) o1 rfl
    refine wpAny_pure (hR _ (sb.trans (Heap.SameBut.update _ a _)) ⟨_, gs, _, v, o2, hex, rfl, ?_⟩)
    exact ⟨fun x hx => T.good x (pm.mem_iff.mp hx), (pm.map tx).nodup_iff.mpr T.nd, fun k => (T.mem k).trans (pm.map tx).mem_iff.symm, few, f3, e, r3, T.led.imp id fun z => by rw [l3]; exact z⟩
  · exact wpAny_pure (hR _ sb ⟨_, fs, _, u, o1, hex, rfl, T⟩)
theorem addHashed {k : Str} {tk : Tok} {Q : Bool → Shared → Prop} (R : SetS w s.heap a S n) (room : n + 1 < scanBound)
    (hQ : ∀ h', Heap.SameBut a s.heap h' → SetS w h' a (fun j => S j || decide (j = k)) (if S k = true then n else n + 1) → Q (!S k) { s with heap := h' }) :
    wpAny (model P w) A (setAddHashed a (.str k tk) ((PySem.strKind P w).hash k)) Q E s := by
  obtain ⟨o, es, ep, t, ho, hex, hd, T⟩ := R
  have key := kis (P := P) (w := w) k tk
  have sc : (Value.str k tk).scannable = true := rfl
  have el : ElemsOf (PySem.strKind P w) es.toList := goodElems T.good
  unfold setAddHashed setAddHashedIn
  refine wpAny_holding (wpAny_bind (wpAny_setState_of ho hd T.fit ?_))
  dsimp only
  rw [byScan_of sc T.few el]
  simp only [↓reduceIte]
  unfold setAddByScan
  refine wpAny_bind ?_
  refine wpAny_bind (wpAny_rule ?_)
  refine wpAny_bind (wpAny_setScan_of key ho hd T.fit el ?_)
  cases fi : List.findIdx? (fun e => (PySem.strKind P w).is k e.2) es.toList with
  | some j =>
    dsimp only
    obtain ⟨hj, pj, _⟩ := List.findIdx?_eq_some_iff_getElem.mp fi
    have yes : S k = true := (T.mem k).2 ((goodMem (P := P) T.good k).2 ⟨es.toList[j], List.getElem_mem hj, pj⟩)
    refine wpAny_pure (wpAny_pure ?_)
    have q := hQ s.heap (Heap.SameBut.refl a s.heap) ⟨o, es, ep, t, ho, hex, hd, T.good, T.nd, fun i => by
      rw [Bool.or_eq_true, decide_eq_true_eq, ← T.mem i]
      exact ⟨fun z => z.elim id (fun e => e ▸ yes), .inl⟩, T.few, T.fit, by rw [if_pos yes]; exact T.num, T.ris, T.led⟩
    rw [yes] at q
    exact q
  | none =>
    dsimp only
    have out : k ∉ es.toList.map tx := fun z => by
      obtain ⟨e, he, q⟩ := (goodMem (P := P) T.good k).1 z
      have c := List.findIdx?_eq_none_iff.mp fi e he
      rw [q] at c
      cases c
    have no : S k = false := by
      cases q : S k with
      | false => rfl
      | true => exact absurd ((T.mem k).1 q) out
    have gw : ∀ (b : Bool) {s₁ : Shared} {Q' : Unit → Shared → Prop}, Q' () s₁ → wpAny (model P w) A (match b with
        | true => rule "set.scan.the-table-gave-way"
        | false => pure ()) Q' E s₁ := fun b s₁ Q' q => by
      cases b
      · exact wpAny_pure q
      · exact wpAny_rule q
    have pm := layNew_perm t es ((PySem.strKind P w).hash k) (.str k tk)
    have f1 := layNew_fits t es ((PySem.strKind P w).hash k) (.str k tk)
    have r1 := layNew_ris t es ((PySem.strKind P w).hash k) (.str k tk) T.ris
    have l1 := layNew_led t es ((PySem.strKind P w).hash k) (.str k tk)
    generalize layNew t es ((PySem.strKind P w).hash k) (.str k tk) = Z at pm f1 r1 l1 ⊢
    obtain ⟨fs, u, wd, gave⟩ := Z
    dsimp only at pm f1 r1 l1 ⊢
    rw [Array.toList_push] at pm
    have pc : fs.toList.Perm (((PySem.strKind P w).hash k, Value.str k tk) :: es.toList) := pm.trans (List.perm_append_singleton _ _)
    have pk : (fs.toList.map tx).Perm (k :: es.toList.map tx) := pc.map tx
    have e1 : fs.size = n + 1 := by
      rw [← Array.length_toList, pc.length_eq, List.length_cons, Array.length_toList, T.num]
    have T1 : SetT w fs u (fun j => S j || decide (j = k)) fs.size := by
      refine ⟨fun e he => ?_, pk.nodup_iff.mpr (List.nodup_cons.mpr ⟨out, T.nd⟩), fun i => ?_, by rw [e1]; exact room, f1, rfl, r1, T.led.imp id fun z => by rw [l1]; exact z⟩
      · rcases List.mem_cons.mp (pc.mem_iff.mp he) with z | z
        · rw [z]
          exact ⟨k, tk, rfl, rfl⟩
        · exact T.good e z
      · rw [Bool.or_eq_true, decide_eq_true_eq, T.mem i, pk.mem_iff, List.mem_cons]
        exact Or.comm
    have fin : ∀ h', Heap.SameBut a s.heap h' → SetS w h' a (fun j => S j || decide (j = k)) fs.size → Q true { s with heap := h' } := fun h' sb r => by
      have q := hQ h' sb
      rw [no] at q
      rw [e1] at r
      exact q r
    refine wpAny_bind (gw _ ?_)
    split
    · refine wpAny_bind ?_
      rw [hashByValue_scannable 8 sc]
      refine wpAny_pure ?_
      have T2 : SetT w fs (if plainKind (.str k tk) = true then u else { u with plain := false }) (fun j => S j || decide (j = k)) fs.size := by
        split
        · exact T1
        · exact { T1 with fit := SetTable.fits_plain_off T1.fit, ris := T1.ris, led := T1.led }
      refine tail (S' := fun j => S j || decide (j = k)) ?_ ho hex hd T2 ?_
      · intro b s₁ Q' q
        exact gw b q
      · intro h' sb r
        dsimp only
        exact wpAny_pure (fin h' sb r)
    · refine wpAny_bind (wpAny_pure ?_)
      simp only [↓reduceIte]
      refine tail (S' := fun j => S j || decide (j = k)) ?_ ho hex hd T1 ?_
      · intro b s₁ Q' q
        exact gw b q
      · intro h' sb r
        dsimp only
        exact wpAny_pure (fin h' sb r)
/-- set.add of a text -/
theorem addCall {k : Str} {tk : Tok} {Q : Value → Shared → Prop} (R : SetS w s.heap a S n) (room : n + 1 < scanBound)
    (hQ : ∀ h', Heap.SameBut a s.heap h' → SetS w h' a (fun j => S j || decide (j = k)) (if S k = true then n else n + 1) → Q .none { s with heap := h', toks := s.toks + 1 }) :
    wpAny (model P w) A (call (.builtin "set.add") [.ref a, .str k tk]) Q E s := by
  refine wpAny_call_entry F.slot_set_add (typ R) F.entry_set_add ?_ (F.args_set_add_2 _ _)
  unfold Builtin.«set.add» Builtin.Frozenset.oneOther
  simp only [List.isEmpty_nil, bind_assoc]
  unfold Builtin.Frozenset.addrOf setAdd
  refine wpAny_bind (wpAny_pure ?_)
  try dsimp only
  refine wpAny_bind (wpAny_pure ?_)
  try dsimp only
  refine wpAny_bind ?_
  refine wpAny_holding ?_
  refine wpAny_bind ((PySem.strKind P w).pyHash (kis k tk) ?_)
  refine addHashed (s := { s with toks := s.toks + 1 }) R room (fun h' sb r => ?_)
  show wpAny _ _ (ret Value.none) _ _ _
  exact wpAny_pure ⟨_, rfl, hQ h' sb r⟩
theorem fresh {h : Heap} (w : World) : SetS w (h.push { cls := .type "set", dict := none, data := .set #[] 0 (.fresh 0 0 (!w.params.followText "set-order")) }) h.objs.size (fun _ => false) 0 := by
  refine ⟨_, #[], 0, _, Heap.get?_push_size _ rfl, ⟨rfl, rfl, rfl⟩, rfl, ⟨fun e he => ?_, ?_, fun k => ?_, ?_, ?_, rfl, List.Pairwise.nil, ?_⟩⟩
  · simp at he
  · simp
  · simp
  · decide
  · rfl
  · show _ ∨ (!w.params.followText "set-order") = true
    cases w.params.followText "set-order"
    · exact .inr rfl
    · exact .inl rfl
end
/-- the set of texts at a, as a tracked thing -/
def SetH (w : World) (a : Addr) (S : Str → Bool) (n : Nat) : HO := .ext fun h => SetS w h a S n
theorem setH_new {w : World} {P : Program} {H : Hp} {h : Heap} {a : Addr} {S : Str → Bool} {n : Nat} (R : SetS w h a S n) : ObjOk P w H h a (SetH w a S n) := by
  have ⟨o, es, ep, t, ho, r⟩ := R
  refine ⟨R, ⟨o, ho⟩, fun h1 h2 p k => ?_⟩
  obtain ⟨o, es, ep, t, ho, r⟩ := p
  exact ⟨o, es, ep, t, k o ho, r⟩
section
variable {X : Cx} {pins : List (Addr × Obj)} {σ : L2.St} {H : Hp} {s : Shared}
theorem setH_get {a : Addr} {S : Str → Bool} {n : Nat} (I : Inv X pins σ H s) (ha : H a = some (SetH X.w a S n)) : SetS X.w s.heap a S n := (I.hok a _ ha).1
theorem addIn {E : Value → Shared → Prop} {D : Addr} {S : Str → Bool} {n : Nat} {y : Str} {tk : Tok} {Q : Value → Shared → Prop} (I : Inv X pins σ H s) (hD : H D = some (SetH X.w D S n)) (room : n + 1 < scanBound)
    (h : ∀ s', Inv X pins σ (upd H D (SetH X.w D (fun j => S j || decide (j = y)) (if S y = true then n else n + 1))) s' → Q .none s') : wpAny (model X.prog X.w) X.A (call (.builtin "set.add") [.ref D, .str y tk]) Q E s := by
  refine addCall (setH_get I hD) room fun h' sb new => h _ ?_
  have he : ∃ u, h'.get? D = some u := let ⟨o, _, _, _, ho, _⟩ := new; ⟨o, ho⟩
  exact I.write (e := D) (t' := s.toks + 1) (by rw [hD]; trivial) (.inl rfl) (fun b u hb hu => (sb.2 b hb).trans hu) he (setH_new new)
end
end Ks

namespace Ks
open PySem PySem.Spec PyProof.Rows L2
section
variable {P : Program} {w : World} {A : Around} {E : Value → Shared → Prop} {s : Shared} {a : Addr} {S : Str → Bool} {n : Nat}
theorem strsOf {l : List Value} (h : ∀ v ∈ l, ∃ x t, v = Value.str x t) : ∃ xs, StrsAre l xs := by
  induction l with
  | nil => exact ⟨[], .nil⟩
  | cons v l ih =>
    obtain ⟨x, t, rfl⟩ := h v List.mem_cons_self
    obtain ⟨xs, hx⟩ := ih fun u hu => h u (List.mem_cons_of_mem _ hu)
    exact ⟨x :: xs, .cons x t hx⟩
def txv (v : Value) : Str := match v with
  | .str x _ => x
  | _ => Str.empty
theorem strs_eq {l : List Value} {xs : List Str} (h : StrsAre l xs) : xs = l.map txv := by
  induction h with
  | nil => rfl
  | cons x t _ ih =>
    rw [List.map_cons, ← ih]
    rfl
/-- sorted(a set of texts) -/
theorem sortedSet {Q : Value → Shared → Prop} (R : SetS w s.heap a S n) (hh : A.handled = none) (h64 : n < 64)
    (hQ : ∀ (s' : Shared) (p : Addr) (out : Array Value) (c : Nat) (ys : List Str), (∀ b o, s.heap.get? b = some o → s'.heap.get? b = some o) → s'.gens = s.gens → s'.os = s.os → s.heap.objs.size ≤ p →
      s'.heap.get? p = some (seqObj "list" out c) → StrsAre out.toList ys → sortedS ys = true → ys.Nodup → (∀ k, k ∈ ys ↔ S k = true) → ys.length = n → Q (.ref p) s') :
    wpAny (model P w) A (call (.builtin "sorted") [.ref a]) Q E s := by
  obtain ⟨o, es, ep, t, ho, hex, hd, T⟩ := R
  refine Calls.call_function_entry kind_sorted plain_sorted entry_sorted (args_sorted1 _) ?_
  unfold Builtin.«sorted»
  refine wpAny_bind (m := checkCount "sorted" 1 1 _) (wpAny_pure ?_)
  refine wpAny_bind (collect_set (A := A.in1) hh ⟨o, ho, hex.1, hd⟩ T.fit T.few T.ris T.led fun s1 vs k1 z1 g1 o1 pm => ?_)
  have len : vs.length = n := by
    rw [pm.length_eq, List.length_map, Array.length_toList]
    exact T.num
  obtain ⟨xs, hx⟩ := strsOf (l := vs) fun v hv => by
    obtain ⟨e, he, q⟩ := List.mem_map.mp (pm.mem_iff.mp hv)
    obtain ⟨x, t, h1, _⟩ := T.good e he
    exact ⟨x, t, by rw [← q]; exact h1⟩
  have px : xs.Perm (es.toList.map tx) := by
    have q := pm.map txv
    rw [List.map_map] at q
    rw [strs_eq hx]
    exact q
  refine wpAny_bind (wpAny_newList ?_ (by rw [len, sizeLine_eq]; omega))
  have oL : (s1.heap.push (seqObj "list" vs.toArray 0)).get? s1.heap.objs.size = some (seqObj "list" vs.toArray 0) := Heap.get?_push_size _ rfl
  refine wpAny_bind (wpAny_holding (wpAny_call_entry slot_list_sort ⟨_, oL, rfl⟩ entry_list_sort (list_sort_treeK strKind_oneLt oL hx.keysOf
    (fun v₁ v₂ rest e => keyKind_strs (by rw [← e]; exact hx)) (by rw [len]; exact h64) fun st' hp hs => ⟨_, rfl, ?_⟩) (args_list_sort _)))
  obtain ⟨ys, a1, a2, a3⟩ := sorted_out_str hx hp hs
  obtain ⟨c, hc⟩ := sortedHeap_at (vs := vs) (out := (arrOf st').map (·.2)) oL
  have py : ys.Perm (es.toList.map tx) := a2.trans px
  refine wpAny_pure ⟨_, rfl, hQ _ s1.heap.objs.size _ c ys (fun b u e => ?_) g1 o1 z1 hc a1 a3 (py.nodup_iff.mpr T.nd) (fun k => by rw [py.mem_iff, ← T.mem k]) ?_⟩
  · have q := k1 b u e
    have lt := Heap.lt_size q
    show (sortedHeap (s1.heap.push (seqObj "list" vs.toArray 0)) s1.heap.objs.size vs _).get? b = some u
    rw [sortedHeap_old (Nat.ne_of_lt lt) (by rw [size_push']; exact Nat.lt_succ_of_lt lt)]
    exact Heap.get?_push_of_some _ q
  · rw [py.length_eq, List.length_map, Array.length_toList]
    exact T.num
end
section
variable {X : Cx}
def rSortT (w : World) : List V → Hp → VK → Prop := fun vs H Q => ∃ (a : Addr) (S : Str → Bool) (n : Nat), vs = [V.ref a] ∧ H a = some (SetH w a S n) ∧ n < 64 ∧
  ∀ (ys : List Str) (p : Addr), sortedS ys = true → ys.Nodup → (∀ k : Str, k ∈ ys ↔ S k = true) → ys.length = n → H p = none → Q (.ref p) (upd H p (.lst (ys.map V.str)))
theorem cr_sortT (hc : X.calm = true) : CallR X (.builtin "sorted") (rSortT X.w) := by
  intro pins s σ H vs us Q I r h
  obtain ⟨a, S, n, rfl, ha, h64, q⟩ := h
  rw [Vals.ref1 r]
  refine sortedSet (setH_get I ha) (I.ok.hd hc) h64 fun s' p out c ys k g o hp hg hi hs hd hm hl => ?_
  have len : (ys.map V.str).length ≤ sizeLine := by
    rw [List.length_map, hl, sizeLine_eq]
    omega
  have hn : H p = none := I.hok.fresh hp
  have e : s' = { s with heap := s'.heap, gens := s'.gens, drawn := s'.drawn, toks := s'.toks } := by
    cases s'
    cases s
    cases o
    rfl
  have J : Inv X pins σ (upd H p (.lst (ys.map V.str))) { s with heap := s'.heap, gens := s'.gens, drawn := s'.drawn, toks := s'.toks } :=
    I.call (ch := []) (Un.laid k hp hn) (I.hok.laid k hp ⟨len, out.toList, c, vals_of_strs hi, hg⟩) (by rw [g]; exact I.bare) (fun _ z => nomatch z)
  rw [e]
  exact ⟨.ref p, _, J, rfl, q ys p hs hd hm hl hn⟩
end
end Ks

namespace Ks
open PySem PySem.Spec PyProof.Rows L2
def inL (l : List Str) : Str → Bool := fun k => decide (k ∈ l)
section
variable {P : Program} {w : World} {A : Around} {E : Value → Shared → Prop} {s : Shared}
theorem SetS.keep {h h' : Heap} {a : Addr} {S : Str → Bool} {n : Nat} (R : SetS w h a S n) (k : ∀ o, h.get? a = some o → h'.get? a = some o) : SetS w h' a S n := by
  obtain ⟨o, es, ep, t, ho, r⟩ := R
  exact ⟨o, es, ep, t, k o ho, r⟩
theorem SetS.as {h : Heap} {a : Addr} {S S' : Str → Bool} {n : Nat} (R : SetS w h a S n) (e : ∀ k, S' k = S k) : SetS w h a S' n := by
  have q : S' = S := funext e
  rw [q]
  exact R
theorem strGet {l : List Value} {xs : List Str} (h : StrsAre l xs) : ∀ (i : Nat) (v : Value), l[i]? = some v → ∃ x t, xs[i]? = some x ∧ v = .str x t := by
  induction h with
  | nil =>
    intro i v z
    simp at z
  | cons x t _ ih =>
    intro i v z
    cases i with
    | zero => exact ⟨x, t, rfl, (Option.some.inj z).symm⟩
    | succ i => exact ih i v z
/-- the loop of set.update over texts -/
theorem updLoop {I : Addr} {fp wr : List Addr} {G : Array GenState → Array GenState → Prop} {n : Nat} {Pv : Nat → Value → Prop} {St : Nat → Shared → Prop} {R : Result → Shared → Prop}
    (W : WalksS P w A.in1 I fp wr G n Pv St) (D : Addr) (hDf : D ∉ fp) (xs : List Str) (hn : n = xs.length) (few : n + 1 < scanBound) (hval : ∀ i v, Pv i v → ∃ x t, xs[i]? = some x ∧ v = .str x t) :
    ∀ (k i : Nat) (s : Shared), n - i = k → i ≤ n → St i s → (∃ m, m ≤ i ∧ SetS w s.heap D (inL (xs.take i)) m) →
      (∀ s' m, m ≤ n → Moved (D :: wr) G s s' → SetS w s'.heap D (inL xs) m → R (.ok (.ret .none)) s') → codeAny (model P w) A (.builtin "set.update.loop" ⟨[.ref D, .ref I], []⟩) R s := by
  have hDw : D ∉ wr := fun z => hDf (W.sub _ z)
  have sub : ∀ b ∈ wr, b ∈ D :: wr := fun b hb => List.mem_cons_of_mem _ hb
  intro k
  induction k with
  | zero =>
    intro i s hk hi st ⟨m, hm, hS⟩ hR
    have e : i = n := by omega
    refine codeAny_builtin F.entry_set_update_loop ?_
    rw [Around.under_plainId F.plain_set_update_loop _]
    show wpAny _ A.in1 (pyNext (.ref I) >>= _) _ _ s
    rw [e] at st
    refine wpAny_bind (W.done s _ _ st fun s' mv => ?_)
    show wpAny _ A.in1 (ret Value.none) _ _ s'
    refine wpAny_pure (hR s' m (by omega) (mv.mono sub) ?_)
    rw [e, hn, List.take_length] at hS
    exact hS.keep fun o z => mv.heap D o hDw z
  | succ k ih =>
    intro i s hk hi st ⟨m, hm, hS⟩ hR
    have lt : i < n := by omega
    refine codeAny_builtin F.entry_set_update_loop ?_
    rw [Around.under_plainId F.plain_set_update_loop _]
    show wpAny _ A.in1 (pyNext (.ref I) >>= _) _ _ s
    refine wpAny_bind (W.item i s _ _ lt st fun v s' hP st' mv => ?_)
    obtain ⟨x, t, hx, rfl⟩ := hval i v hP
    have hS' : SetS w s'.heap D (inL (xs.take i)) m := hS.keep fun o z => mv.heap D o hDw z
    show wpAny _ A.in1 (holding [Value.str x t] (setAdd D (.str x t)) >>= _) _ _ s'
    refine wpAny_bind (wpAny_holding ?_)
    unfold setAdd
    refine wpAny_holding ?_
    refine wpAny_bind ((PySem.strKind P w).pyHash (kis x t) ?_)
    refine addHashed (s := { s' with toks := s'.toks + 1 }) hS' (by omega) (fun h' sb S2 => ?_)
    have grow : xs.take (i + 1) = xs.take i ++ [x] := by rw [List.take_add_one, hx]; rfl
    have S3 : ∃ q, q ≤ i + 1 ∧ SetS w h' D (inL (xs.take (i + 1))) q := by
      refine ⟨_, ?_, S2.as fun j => ?_⟩
      · split <;> omega
      · unfold inL
        rw [grow, ← Bool.decide_or]
        exact decide_eq_decide.mpr (by rw [List.mem_append, List.mem_singleton])
    refine wpAny_pure ⟨plainId_quiet F.plain_set_update_loop _, ih (i + 1) _ (by omega) lt (W.frame _ s' _ _ st' (Nat.le_succ _) fun b hb o z => ?_) S3 (fun s'' q hq mv' S4 => ?_)⟩
    · rw [sb.2 b (fun y : b = D => hDf (by rw [← y]; exact hb))]
      exact z
    · refine hR s'' q hq (Moved.trans W.gtrans ((mv.mono sub).then_heap (Nat.le_succ _) fun b o hb z => ?_) mv') S4
      rw [sb.2 b (fun y : b = D => hb (by rw [y]; exact List.mem_cons_self))]
      exact z
abbrev set0 (w : World) : Obj := { cls := .type "set", dict := none, data := .set #[] 0 (.fresh 0 0 (!w.params.followText "set-order")) }
/-- set(a list of texts) -/
theorem callSet {l : Addr} {items : Array Value} (xs : List Str) {Q : Value → Shared → Prop} (hh : A.handled = none) (hl : s.heap.IsList l items) (hit : StrsAre items.toList xs) (few : xs.length + 1 < scanBound)
    (h : ∀ (h' : Heap) (tk m : Nat), m ≤ xs.length → SetS w h' s.heap.objs.size (inL xs) m → (∀ b o, s.heap.get? b = some o → h'.get? b = some o) → Q (.ref s.heap.objs.size) { s with heap := h', toks := tk }) :
    wpAny (model P w) A (call (.type "set") [.ref l]) Q E s := by
  have hsz : items.size = xs.length := by
    rw [← Array.length_toList]
    exact StrsAre.len_eq hit
  obtain ⟨c, tl, hmro⟩ := F.called_set.mro
  have hmade := F.called_set.made
  have hsub := F.called_set.sub
  refine wpAny_call (codeAny_of_tree ?_)
  show wpAny _ _ (callAny (.type "set") _) _ _ _
  refine wpAny_pure ⟨Code.quiet_builtin _ (by decide +kernel), codeAny_builtin F.entry_type_call ?_⟩
  rw [Around.under_plain (weight_type_call_type "set" [.ref l] []) rfl]
  have h1 := F.called_set.notType
  have h2 := F.called_set.canCreate
  have h3 := F.typeCall_set_1 (.ref l)
  repeat (any_goals (first | assumption | wp_step))
  refine codeAny_mono (code_set_led1 (.ref l) (E := E) (Q₁ := fun obj s₁ => obj = .ref s.heap.objs.size ∧ s₁ = { s with heap := s.heap.push (set0 w) }) ⟨rfl, rfl⟩) (fun r s₁ hr => ?_)
  cases r with
  | error e => exact hr
  | ok fl =>
    cases fl with
    | ret obj =>
      obtain ⟨rfl, rfl⟩ := hr
      have hS : (s.heap.push (set0 w)).get? s.heap.objs.size = some (set0 w) := Heap.get?_push_size _ rfl
      have hT : Shared.TypeIs { s with heap := s.heap.push (set0 w) } (.ref s.heap.objs.size) "set" := ⟨_, hS, rfl⟩
      have hli := F.called_set.init.lookup
      have hbi := F.called_set.init.bind (.ref s.heap.objs.size)
      repeat (any_goals (first | assumption | wp_step))
      refine codeAny_mono (codeAny_call_builtin (R := wants (fun r s₂ => r = .none ∧ ∃ h' tk m, m ≤ xs.length ∧ s₂ = { s with heap := h', toks := tk } ∧ SetS w h' s.heap.objs.size (inL xs) m ∧
          (∀ b o, s.heap.get? b = some o → h'.get? b = some o)) E) F.called_set.init.plain F.entry_set_init (check_set_init_1 hT ?_)) (fun r₂ s₂ hr₂ => ?_)
      · obtain ⟨ol, hol, hcl, nl, hdl⟩ := hl
        obtain ⟨ocls, odict, odata, oslots⟩ := ol
        simp only at hcl hdl
        subst hcl
        subst hdl
        have hol' : (s.heap.push (set0 w)).get? l = some { cls := .type "list", dict := odict, data := .seq items nl, slots := oslots } := Heap.get?_push_of_some _ hol
        have hsls := F.sub_list_set
        have hslf := F.sub_list_frozenset
        have hne : (Value.type "list" == Value.type "dict") = false := by decide
        have hl1 : (s.heap.push (set0 w)).IsList l items := ⟨_, hol', rfl, nl, rfl⟩
        unfold Builtin.«set.__init__» noKeywords Builtin.Frozenset.updateFrom
        generalize hPI : pyIter = PI
        wp_walk
        subst hPI
        refine wpAny_pyIter_list hl1 ?_
        refine wpAny_bind (wpAny_runValue ?_)
        have ll : l < s.heap.objs.size := Heap.lt_size hol
        have hh3 : A.in1.in1.in1.handled = none := by simp [hh]
        have zz : (s.heap.push (set0 w)).objs.size = s.heap.objs.size + 1 := Heap.size_push ..
        have nI : l ≠ (s.heap.push (set0 w)).objs.size := by
          rw [zz]
          exact Nat.ne_of_lt (Nat.lt_succ_of_lt ll)
        have out : s.heap.objs.size ∉ [(s.heap.push (set0 w)).objs.size, l] := by
          rw [zz]
          intro z
          rcases List.mem_cons.mp z with z | z
          · exact Nat.lt_irrefl _ (Nat.lt_of_lt_of_eq (Nat.lt_succ_self _) z.symm)
          · exact Nat.lt_irrefl _ (Nat.lt_of_lt_of_eq ll (List.mem_singleton.mp z))
        have hval : ∀ (i : Nat) (v : Value), items[i]? = some v → ∃ x t, xs[i]? = some x ∧ v = .str x t := fun i v hv => by
          exact strGet hit i v (by rw [Array.getElem?_toList]; exact hv)
        refine updLoop ((Walks.list hh3 _ l nI items).toS) s.heap.objs.size out xs hsz (by omega) hval (items.size - 0) 0 _ (by omega) (Nat.zero_le _)
          ⟨⟨_, Heap.get?_push_size _ rfl, rfl, rfl⟩, (hl1.push _)⟩ ⟨0, Nat.le_refl _, ?_⟩ (fun s' m hm mv S4 => ?_)
        · refine ((fresh w).keep fun o z => Heap.get?_push_of_some _ z).as fun k => ?_
          unfold inL
          exact decide_eq_false (by rw [List.take_zero]; exact List.not_mem_nil)
        · obtain ⟨h', g2, d', tk', os'⟩ := s'
          have eg : g2 = s.gens := mv.gens
          have ed : d' = s.drawn := mv.drawn
          have eo : os' = s.os := mv.os
          subst eg
          subst ed
          subst eo
          show wpAny _ _ _ _ _ _
          refine wpAny_pure ?_
          show wpAny _ _ (ret Value.none) _ _ _
          refine wpAny_pure ⟨rfl, h', tk', m, by omega, rfl, S4, fun b o z => mv.heap b o (fun y => ?_) (Heap.get?_push_of_some _ (Heap.get?_push_of_some _ z))⟩
          have lb := Heap.lt_size z
          rcases List.mem_cons.mp y with y | y
          · rw [y] at lb
            exact Nat.lt_irrefl _ lb
          · rw [List.mem_singleton.mp y, zz] at lb
            exact Nat.lt_irrefl _ (Nat.lt_of_succ_lt lb)
      · cases r₂ with
        | error e => exact hr₂
        | ok fl₂ =>
          cases fl₂ with
          | ret r =>
            obtain ⟨rfl, h', tk, m, hm, rfl, S4, kp⟩ := hr₂
            repeat (any_goals (first | assumption | wp_step))
            exact h _ _ _ hm S4 kp
          | _ => exact hr₂.elim
    | _ => exact hr.elim
end
section
variable {X : Cx}
def rSetT (K : PySem.W.Frag) (w : World) : List V → Hp → VK → Prop := fun vs H Q => ∃ (l : Addr) (xs : List Str), vs = [V.ref l] ∧ SqL K H l (xs.map V.str) ∧ xs.length + 1 < scanBound ∧
  ∀ (p : Addr) (m : Nat), m ≤ xs.length → H p = none → Q (.ref p) (upd H p (SetH w p (inL xs) m))
theorem cr_setT (hc : X.calm = true) : CallR X (.type "set") (rSetT X.K X.w) := by
  intro pins s σ H vs us Q I r h
  obtain ⟨l, xs, rfl, hq, few, q⟩ := h
  rw [Vals.ref1 r]
  obtain ⟨its, rv, pl, hz⟩ := I.list hq
  refine callSet xs (I.ok.hd hc) pl.isList (by rw [List.toList_toArray]; exact rv.strs) few fun h' tk m hm S kp => ?_
  have hn : H s.heap.objs.size = none := I.hok.fresh (Nat.le_refl _)
  exact ⟨.ref _, _, I.laid (t' := tk) kp (Nat.le_refl _) (setH_new S), rfl, q _ m hm hn⟩
end
end Ks

namespace Ks
open PySem PySem.Spec PyProof.Rows L2
section
variable {X : Cx}
/-- {elt for target in iter if ..}, elt a text: D the new set -/
def tScT (w : World) (wi : TI) (g : TG) (tt : TT) (te : TE) (vs : List Nat) : TE := fun σ H Q => wi σ H fun J G => ∀ D, G D = none →
  ∃ W : Nat → Nat → Hp → Prop, (∃ m, W 0 m (upd G D (SetH w D (fun _ => false) 0))) ∧ ∀ i m H, W i m H →
    (J.stop i H ∧ Q (.ref D) H) ∨ (J.go i H ∧ ∃ N : Hp → Prop, (∀ H', N H' → ∃ m', m' < m ∧ W (i + 1) m' H') ∧ ∀ x H', J.yld i H x H' →
      g x (wipe σ vs) H' fun τ H2 => wipe τ vs = wipe σ vs ∧ tt τ H2 fun b H3 => if b = true then
        te τ H3 fun y H4 => ∃ (c : Str) (S : Str → Bool) (n : Nat), y = .str c ∧ H4 D = some (SetH w D S n) ∧ n + 1 < scanBound ∧ N (upd H4 D (SetH w D (fun j => S j || decide (j = c)) (if S c = true then n else n + 1)))
      else N H3)
theorem pe_scT {elt tg iter : Expr} {ifs : List Expr} {scope : Scope} {own : List (PySem.Str × Nat)} {pos : Pos} {wi : TI} {g : TG} {tt : TT} {te : TE} (hc : X.calm = true) (hN : X.N.Nodup) (hi : PI X tg iter wi) (ok : BlkOk X.N X.env.scope scope own)
    (hg : ∀ (s : Shared) (H : Hp) (C : Addr) (cl : List (PySem.Str × Addr)) (fp : List Addr), PG (X.blk s H scope (compEnvC scope cl C X.env) fp) tg g)
    (ht : ∀ (s : Shared) (H : Hp) (C : Addr) (cl : List (PySem.Str × Addr)) (fp : List Addr), PTs (X.blk s H scope (compEnvC scope cl C X.env) fp) ifs tt)
    (he : ∀ (s : Shared) (H : Hp) (C : Addr) (cl : List (PySem.Str × Addr)) (fp : List Addr), PE (X.blk s H scope (compEnvC scope cl C X.env) fp) elt te)
    (hs : ∀ x, foldedSetIterable iter X.env x = pure x := by intro _; rfl) :
    PE X (.SetComp elt [⟨tg, iter, ifs, 0⟩] scope pos) (tScT X.w wi g tt te (own.map (·.2))) := by
  refine ⟨fun pins s σ H Q I h => ?_⟩
  rw [PpSet.eval_SetComp]
  have hfree : ∀ y ∈ scope.names, y.2 = .free → ∃ c, X.env.cells.lookup y.1 = some c := fun y hy e => (ok.free y hy e).elim (fun k => I.ok.has _ (.inl k)) fun k => I.ok.has _ (.inr k)
  refine wpAny_comprehension_free (use := none) rfl hs (closure_ok hfree) ok.kind (fun y hy e => by rw [ok.uniq y hy, e])
    (thn (hi.run pins s σ H _ I h) fun xv s1 hx => thn hx fun itv s2 h2 => ?_)
  obtain ⟨it, fp, tn, J, G, e, I2, T, st2, f2, q⟩ := h2
  subst e
  refine PpSet.newSet_ok (newEnv_comp ?_)
  generalize hD : s2.heap.objs.size = D
  have free : G D = none := I2.hok.fresh (Nat.le_of_eq hD)
  obtain ⟨W, ⟨m0, w0⟩, turn⟩ := q D free
  generalize e3 : ({ s2 with heap := s2.heap.push { cls := .type "set", dict := none, data := .set #[] 0 (.fresh 0 0 (!X.w.params.followText "set-order")) } } : Shared) = s3
  have kp : ∀ b o, s2.heap.get? b = some o → s3.heap.get? b = some o := fun b o z => by
    rw [← e3]
    exact Heap.get?_push_of_some _ z
  have I3 : Inv X pins σ (upd G D (SetH X.w D (fun _ => false) 0)) s3 := by
    rw [← e3]
    refine I2.laid (t' := s2.toks) (fun b o z => Heap.get?_push_of_some _ z) (Nat.le_of_eq hD) ?_
    rw [← hD]
    exact setH_new (fresh X.w)
  have f3 : ∀ b ∈ fp, FpOk X pins (upd G D (SetH X.w D (fun _ => false) 0)) b ∧ b < s3.heap.objs.size := fun b hb => by
    obtain ⟨o, z, _⟩ := T.obj _ _ st2 b hb
    have lt := Heap.lt_size z
    refine ⟨⟨?_, (f2 b hb).2⟩, Heap.lt_size (kp b o z)⟩
    rw [upd_ne (by rw [← hD]; exact Nat.ne_of_lt lt)]
    exact (f2 b hb).1
  have st3 : tn 0 s3.heap := T.keep _ _ _ st2 fun b _ o z => kp b o z
  have I4 := block_start I3 ok hN f3
  generalize eH : upd G D (SetH X.w D (fun _ => false) 0) = H3 at I3 I4 w0 f3
  have pg := hg s3 H3 s3.heap.objs.size (cellsFrom (s3.heap.objs.size + 1) scope.names (cloFrom X.env.cells scope.names [])) fp
  have pt := ht s3 H3 s3.heap.objs.size (cellsFrom (s3.heap.objs.size + 1) scope.names (cloFrom X.env.cells scope.names [])) fp
  have pe := he s3 H3 s3.heap.objs.size (cellsFrom (s3.heap.objs.size + 1) scope.names (cloFrom X.env.cells scope.names [])) fp
  have nfp : ∀ b ∈ fp, H3 b = none := fun b hb => (f3 b hb).1.1
  show codeAny _ _ (.compStart (.SetComp elt [⟨tg, iter, ifs, 0⟩] scope pos) 0 (.ref it) (.ref D)
      (compEnvC scope (cellsFrom (s3.heap.objs.size + 1) scope.names (cloFrom X.env.cells scope.names [])) s3.heap.objs.size X.env))
    (compPost (model X.prog X.w) X.A X.xe none (EP X pins σ Q) (.ref D) s3.heap.objs.size)
    { s3 with heap := pushCells (s3.heap.push { cls := .type "dict", data := .dict #[] }) scope.names }
  generalize ece : compEnvC scope (cellsFrom (s3.heap.objs.size + 1) scope.names (cloFrom X.env.cells scope.names [])) s3.heap.objs.size X.env = ce at I4 pg pt pe ⊢
  have cL : ce.locals = s3.heap.objs.size := by
    subst ece
    rfl
  generalize e4 : ({ s3 with heap := pushCells (s3.heap.push { cls := .type "dict", data := .dict #[] }) scope.names } : Shared) = s4 at I4 ⊢
  have st4 : tn 0 s4.heap := T.keep _ _ _ st3 fun b _ o z => by
    rw [← e4]
    exact pushCells_keeps _ _ _ _ (Heap.get?_push_of_some _ z)
  have sta : ∀ {τ : L2.St} {F : Hp} {s' : Shared}, Inv (X.blk s3 H3 scope ce fp) [] τ F s' → (∀ b ∈ fp, F b = none) → ∀ b ∈ fp, FpOk (X.blk s3 H3 scope ce fp) [] F b := fun {τ F s'} K hn b hb =>
    ⟨hn b hb, (K.ok.exf b hb).1, K.ok.exfs b hb, .inl hb, fun x c z => (K.ok.exf b hb).2 x c z, fun p hp => absurd (show p ∈ ([] : List (Addr × Obj)) ++ [] from hp) (by simp)⟩
  have done : ∀ (s' : Shared) (m : Str → Option Value) (F : Hp), Inv X pins σ F s' → Q (.ref D) F → s'.heap.Ns s3.heap.objs.size m → FpOk X pins F s3.heap.objs.size →
      compPost (model X.prog X.w) X.A X.xe none (EP X pins σ Q) (.ref D) s3.heap.objs.size (.ok .next) s' := fun s' m F K k hn f => ⟨m, hn, fun h'' sb => by
    obtain ⟨f0, f1, f2, f3, f4, f5⟩ := f
    exact ⟨.ref D, F, K.turned (t' := s'.toks) (fun b o hb z => (sb.2 b hb).trans z) f0 f1 f3 f4 f5, rfl, k⟩⟩
  have loop : codeAny (model X.prog X.w) X.A (.compLoop (.SetComp elt [⟨tg, iter, ifs, 0⟩] scope pos) 0 (.ref it) (.ref D) ce) (compPost (model X.prog X.w) X.A X.xe none (EP X pins σ Q) (.ref D) s3.heap.objs.size) s4 := by
    refine PpSet.compLoopS_any (fun n s' => ∃ i F, Inv (X.blk s3 H3 scope ce fp) [] (wipe σ (own.map (·.2))) F s' ∧ tn i s'.heap ∧ (∀ b ∈ fp, F b = none) ∧ W i n F) ?_ m0 ⟨0, H3, I4, st4, nfp, w0⟩
    rintro n s5 ⟨i, H5, I5, st5, n5, w5⟩
    rcases turn i n H5 w5 with ⟨stop, qq⟩ | ⟨go, N, hNx, step⟩
    · have td := T.done (X.blk s3 H3 scope ce fp) rfl rfl rfl hc i [] s5 _ H5 (fun _ _ => False) I5 (sta I5 n5) st5 stop
      refine thnF td fun r s6 ⟨hr, I6⟩ => ?_
      subst hr
      have I7 : Inv X pins σ H5 s6 := I3.call' (ch := fp) I6.os I6.base I6.hok I6.bare fun b hb =>
        let z := (f3 b hb).1
        ⟨z.2.2.2.1, z.2.1, z.2.2.2.2.1, z.2.2.2.2.2⟩
      have nC : H5 s3.heap.objs.size = none := by
        rw [← cL]
        exact I6.free
      obtain ⟨m, hn, _⟩ := I6.loc
      have hn : s6.heap.Ns ce.locals m := hn
      rw [cL] at hn
      exact done s6 m H5 I7 qq hn (I3.fpOk (Nat.le_refl _) nC)
    · have ti := T.item (X.blk s3 H3 scope ce fp) rfl rfl rfl hc i [] s5 _ H5 (fun _ _ => False) I5 (sta I5 n5) st5 go
      refine thnF ti fun r s6 ⟨u, hr, h6⟩ => ?_
      subst hr
      refine thnF h6 fun _ s7 ⟨x, H7, I7, r7, y7, st7, n7⟩ => ?_
      have J7 := I7.pinned (sta I7 n7) (T.obj _ _ st7)
      refine thnF (pg.run _ s7 _ H7 x u _ J7 r7 (step x H7 y7)) fun _ s8 ⟨τ, H8, I8, hw, q8⟩ => ?_
      refine thnF (pt.run _ s8 τ H8 _ I8 q8) fun b s9 ⟨H9, I9, q9⟩ => ?_
      have fin : ∀ {s' : Shared} {F : Hp}, Inv (X.blk s3 H3 scope ce fp) ([] ++ pinsAt fp s7.heap) τ F s' → N F →
          ∃ m, m < n ∧ ∃ i F, Inv (X.blk s3 H3 scope ce fp) [] (wipe σ (own.map (·.2))) F s' ∧ tn i s'.heap ∧ (∀ b ∈ fp, F b = none) ∧ W i m F := fun {s' F} K nx => by
        obtain ⟨m', hm, w'⟩ := hNx F nx
        have pin : ∀ b ∈ fp, ∀ o, s7.heap.get? b = some o → s'.heap.get? b = some o ∧ F b = none := fun b hb o z =>
          let y := K.pin (b, o) (List.mem_append_right _ (List.mem_append_right _ (mem_pinsAt hb z)))
          ⟨y.1, y.2.1⟩
        have hl : (wipe σ (own.map (·.2))).length = τ.length := by
          rw [← hw, wipe_length]
        refine ⟨m', hm, i + 1, F, (K.unpinned (pins := [])).weak hl (fun j v z => ?_), T.keep _ _ _ st7 fun b hb o z => (pin b hb o z).1, fun b hb => ?_, w'⟩
        · rw [← hw] at z
          exact (wipe_some z).1
        · obtain ⟨o, z, _⟩ := T.obj _ _ st7 b hb
          exact (pin b hb o z).2
      cases b with
      | false =>
        simp only [Bool.false_eq_true, if_false] at q9 ⊢
        exact fin I9 q9
      | true =>
        simp only [if_true] at q9 ⊢
        refine thnF (pe.run _ s9 τ H9 _ I9 q9) fun z s10 ⟨yv, H10, I10, r10, cb, S0, n0, ey, hD10, hz10, nx⟩ => ?_
        subst ey
        obtain ⟨tk, rfl⟩ := r10
        exact addIn (X := X.blk s3 H3 scope ce fp) I10 hD10 hz10 fun s11 I11 => fin I11 nx
  exact PpSet.codeAny_compStart_set loop (T.self X.A 0 _ _ _ st4 loop)
end
end Ks

/-! d.get(k) of a dict of the module; statements and expressions that are never reached -/
namespace Kk
open PySem PySem.Spec PyProof.Rows L2
theorem ps_no {X : Cx} {st : Stmt} : PS X st (fun _ _ _ => False) := ⟨fun _ _ _ _ _ _ h => h.elim⟩
theorem pss_no {X : Cx} {b : List Stmt} : PSs X b (fun _ _ _ => False) := ⟨fun _ _ _ _ _ _ h => h.elim⟩
theorem pe_no {X : Cx} {e : Expr} : PE X e (fun _ _ _ => False) := ⟨fun _ _ _ _ _ _ h => h.elim⟩
section
variable {X : Cx} {d : Addr} {es : Array DictEntry} {n : Nat}
def tKGet (K : PySem.W.Frag) (d : Addr) (to ty : TE) : TE := fun σ H Q => to σ H fun x H1 => x = .ref d ∧ ty σ H1 fun y H2 => ∃ (z : Str) (r : Option Value) (v : V), y = .str z ∧ PySem.W.nsIn K d z = some r ∧ RelV v (r.getD .none) ∧ Q v H2
theorem pe_kget {o e : Expr} {apos cpos : Pos} {to ty : TE} (D : KDict X.K X.w d es n) (ho : PE X o to) (he : PE X e ty) (m : M1 X o "get" apos e cpos) : PE X (.Call (.Attribute o "get" apos) [e] [] cpos) (tKGet X.K d to ty) := by
  refine ⟨fun pins s σ H Q I h => ?_⟩
  refine wpAny_Call_method m.base m.few m.line PySem.F.plainAttrs_dict PySem.F.slot_dict_get PySem.F.type_dict_get (thn (ho.run pins s σ H _ I h) fun u s1 ⟨x, H1, I1, rx, ex, q1⟩ => ?_)
  subst ex
  obtain rfl : u = Value.ref d := rx
  have M := PySem.W.mapOf_K (prog := X.prog) (w := X.w) I1.kIn D.at_ D.lit
  refine ⟨M.typeIs, M.noDict, ?_⟩
  rw [m.trees]
  refine Calls.callWith_builtin rfl (Calls.evalArgs_plain (Calls.spliced_cons (thn (he.run pins s1 σ H1 _ I1 q1) fun iv s2 ⟨y, H2, I2, ry, z, r, v, ey, e, rv, q2⟩ => Calls.spliced_nil ?_)))
  subst ey
  obtain ⟨t, rfl⟩ := (show ∃ t, iv = Value.str z t from ry)
  have M2 := PySem.W.mapOf_K (prog := X.prog) (w := X.w) I2.kIn D.at_ D.lit
  refine call_meetsIn PySem.F.slot_dict_get M2.typeIs PySem.F.entry_dict_get (PySem.F.args_dict_get_2 _ _) (meets_dict_get _ d (PySem.strKind_is X.prog X.w z t) D.low) ⟨_, M2, ?_⟩
  rw [PySem.W.find_K D.at_ e]
  exact ⟨v, H2, I2.tok _, rv, q2⟩
end
end Kk

/-! things of anything: how great each part by itself is -/
namespace Kv
open PySem PySem.Spec PyProof.Rows L2 Kf
/-- signs below 128, no more than so many -/
structure Asc (L : Nat) (x : Str) : Prop where
  lo : ∀ c ∈ x.cps.toList, c < 128
  len : x.length ≤ L
mutual
def Dt.loc (L B : Nat) : Dt → Prop
  | .int i => i.natAbs < B
  | .str x => Asc L x
  | .tup xs => xs.length ≤ L ∧ Dt.locs L B xs
  | .lst xs => xs.length ≤ L ∧ Dt.locs L B xs
  | .dct kvs => kvs.length ≤ 1 ∧ ∀ p ∈ kvs, Asc L p.1 ∧ p.2.natAbs < B
  | _ => True
def Dt.locs (L B : Nat) : List Dt → Prop
  | [] => True
  | x :: xs => x.loc L B ∧ Dt.locs L B xs
end
theorem locs_iff {L B : Nat} : ∀ {xs : List Dt}, Dt.locs L B xs ↔ ∀ x ∈ xs, x.loc L B
  | [] => ⟨fun _ _ h => (nomatch h), fun _ => by simp only [Dt.locs]⟩
  | x :: xs => by
    simp only [Dt.locs]
    rw [locs_iff (xs := xs)]
    exact ⟨fun h y hy => by
      rcases List.mem_cons.mp hy with rfl | hy
      · exact h.1
      · exact h.2 y hy, fun h => ⟨h x List.mem_cons_self, fun y hy => h y (List.mem_cons_of_mem _ hy)⟩⟩
theorem Asc.up {L M : Nat} {x : Str} (h : Asc L x) (l : L ≤ M) : Asc M x := ⟨h.lo, Nat.le_trans h.len l⟩
mutual
theorem Dt.loc_up {L M B C : Nat} (l : L ≤ M) (b : B ≤ C) : ∀ {x : Dt}, x.loc L B → x.loc M C
  | .non, _ => by simp only [Dt.loc]
  | .bl _, _ => by simp only [Dt.loc]
  | .int i, h => by
    simp only [Dt.loc] at h ⊢
    omega
  | .str x, h => by
    simp only [Dt.loc] at h ⊢
    exact h.up l
  | .tup xs, h => by
    simp only [Dt.loc] at h ⊢
    exact ⟨Nat.le_trans h.1 l, Dt.locs_up l b h.2⟩
  | .lst xs, h => by
    simp only [Dt.loc] at h ⊢
    exact ⟨Nat.le_trans h.1 l, Dt.locs_up l b h.2⟩
  | .dct kvs, h => by
    simp only [Dt.loc] at h ⊢
    exact ⟨h.1, fun p hp => ⟨(h.2 p hp).1.up l, Nat.lt_of_lt_of_le (h.2 p hp).2 b⟩⟩
theorem Dt.locs_up {L M B C : Nat} (l : L ≤ M) (b : B ≤ C) : ∀ {xs : List Dt}, Dt.locs L B xs → Dt.locs M C xs
  | [], _ => by simp only [Dt.locs]
  | x :: xs, h => by
    simp only [Dt.locs] at h ⊢
    exact ⟨Dt.loc_up l b h.1, Dt.locs_up l b h.2⟩
end
mutual
theorem Dt.loc_wt {L B : Nat} : ∀ {x : Dt}, x.loc L B → x.wt + 2 ≤ (10 * L + 70) * x.sz
  | .non, _ => by simp only [Dt.wt, Dt.sz]; omega
  | .bl _, _ => by simp only [Dt.wt, Dt.sz]; omega
  | .int i, _ => by simp only [Dt.wt, Dt.sz]; omega
  | .str x, h => by
    simp only [Dt.loc] at h
    have := h.len
    simp only [Dt.wt, Dt.sz]
    omega
  | .tup xs, h => by
    simp only [Dt.loc] at h
    have := Dt.locs_wt h.2
    simp only [Dt.wt, Dt.sz]
    rw [Nat.mul_add]
    omega
  | .lst xs, h => by
    simp only [Dt.loc] at h
    have := Dt.locs_wt h.2
    simp only [Dt.wt, Dt.sz]
    rw [Nat.mul_add]
    omega
  | .dct [], _ => by simp only [Dt.wt, Dt.sz, kwt, List.length_nil]; omega
  | .dct [p], h => by
    simp only [Dt.loc] at h
    have := (h.2 p List.mem_cons_self).1.len
    simp only [Dt.wt, Dt.sz, kwt, List.length_cons, List.length_nil]
    omega
  | .dct (p :: q :: r), h => by
    simp only [Dt.loc, List.length_cons] at h
    omega
theorem Dt.locs_wt {L B : Nat} : ∀ {xs : List Dt}, Dt.locs L B xs → Dt.wts xs ≤ (10 * L + 70) * Dt.szs xs
  | [], _ => by simp only [Dt.wts, Dt.szs]; omega
  | x :: xs, h => by
    simp only [Dt.locs] at h
    have h1 := Dt.loc_wt h.1
    have h2 := Dt.locs_wt h.2
    simp only [Dt.wts, Dt.szs]
    rw [Nat.mul_add]
    omega
end
mutual
theorem Dt.loc_fine {L B : Nat} : ∀ {x : Dt}, x.loc L B → x.fine B
  | .non, _ => by simp only [Dt.fine]
  | .bl _, _ => by simp only [Dt.fine]
  | .int i, h => by
    simp only [Dt.loc] at h
    simp only [Dt.fine]
    exact h
  | .str x, h => by
    simp only [Dt.loc] at h
    simp only [Dt.fine]
    exact fun c hc => Nat.lt_of_lt_of_le (h.lo c hc) (by decide)
  | .tup xs, h => by
    simp only [Dt.loc] at h
    simp only [Dt.fine]
    exact Dt.locs_fine h.2
  | .lst xs, h => by
    simp only [Dt.loc] at h
    simp only [Dt.fine]
    exact Dt.locs_fine h.2
  | .dct kvs, h => by
    simp only [Dt.loc] at h
    simp only [Dt.fine]
    exact fun p hp => ⟨fun c hc => Nat.lt_of_lt_of_le ((h.2 p hp).1.lo c hc) (by decide), (h.2 p hp).2⟩
theorem Dt.locs_fine {L B : Nat} : ∀ {xs : List Dt}, Dt.locs L B xs → Dt.fines B xs
  | [], _ => by simp only [Dt.fines]
  | x :: xs, h => by
    simp only [Dt.locs] at h
    simp only [Dt.fines]
    exact ⟨Dt.loc_fine h.1, Dt.locs_fine h.2⟩
end
theorem dps_mem' : ∀ {xs : List Dt} {x : Dt}, x ∈ xs → x.dp ≤ Dt.dps xs
  | y :: ys, x, h => by
    simp only [Dt.dps]
    rcases List.mem_cons.mp h with rfl | h
    · omega
    · have := dps_mem' h
      omega
theorem dps_le' {n : Nat} : ∀ {xs : List Dt}, (∀ x ∈ xs, x.dp ≤ n) → Dt.dps xs ≤ n
  | [], _ => by simp only [Dt.dps]; omega
  | x :: xs, h => by
    have h1 := h x List.mem_cons_self
    have h2 := dps_le' (xs := xs) fun y hy => h y (List.mem_cons_of_mem _ hy)
    simp only [Dt.dps]
    omega
theorem dp_tup (xs : List Dt) : (Dt.tup xs).dp = Dt.dps xs + 1 := by simp only [Dt.dp]
theorem dp_lst (xs : List Dt) : (Dt.lst xs).dp = Dt.dps xs + 1 := by simp only [Dt.dp]
theorem dp_str (x : Str) : (Dt.str x).dp = 0 := by simp only [Dt.dp]
theorem loc_tup {L B : Nat} {xs : List Dt} : (Dt.tup xs).loc L B ↔ xs.length ≤ L ∧ ∀ x ∈ xs, x.loc L B := by
  simp only [Dt.loc, locs_iff]
theorem loc_lst {L B : Nat} {xs : List Dt} : (Dt.lst xs).loc L B ↔ xs.length ≤ L ∧ ∀ x ∈ xs, x.loc L B := by
  simp only [Dt.loc, locs_iff]
theorem loc_str {L B : Nat} {x : Str} : (Dt.str x).loc L B ↔ Asc L x := by
  simp only [Dt.loc]
theorem loc_int {L B : Nat} {i : Int} : (Dt.int i).loc L B ↔ i.natAbs < B := by
  simp only [Dt.loc]
theorem ascLit {L : Nat} {x : Str} (h : (x.cps.toList.all fun c => decide (c < 128)) = true) (l : x.length ≤ L) : Asc L x := ⟨fun c hc => of_decide_eq_true (List.all_eq_true.mp h c hc), l⟩
theorem asc_app {L M : Nat} {x y : Str} (h : Asc L x) (k : Asc M y) : Asc (L + M) (x ++ y) := by
  refine ⟨fun c hc => ?_, ?_⟩
  · have e : (x ++ y).cps.toList = x.cps.toList ++ y.cps.toList := by
      show (x.cps ++ y.cps).toList = _
      rw [Array.toList_append]
    rw [e] at hc
    rcases List.mem_append.mp hc with z | z
    · exact h.lo c z
    · exact k.lo c z
  · have h1 := h.len
    have h2 := k.len
    have : (x ++ y).length = x.length + y.length := by
      show (x.cps ++ y.cps).size = _
      rw [Array.size_append]
      rfl
    omega
theorem asc_upper {L : Nat} {x : Str} (h : Asc L x) : Asc L (Txt.upper x) := by
  rw [upper_ascii h.lo]
  refine ⟨fun c hc => ?_, ?_⟩
  · have hc : c ∈ (x.cps.map up1).toList := hc
    rw [Array.toList_map, List.mem_map] at hc
    obtain ⟨d, hd, rfl⟩ := hc
    have := h.lo d hd
    unfold up1
    split <;> omega
  · have e : (Str.mk (x.cps.map up1)).length = x.length := by
      show (x.cps.map up1).size = x.cps.size
      exact Array.size_map
    rw [e]
    exact h.len
theorem dch (n : Nat) : (Nat.digitChar n).toNat < 128 := by
  by_cases h : n < 16
  · have z : ∀ i : Fin 16, (Nat.digitChar i.val).toNat < 128 := by decide
    exact z ⟨n, h⟩
  · have e : Nat.digitChar n = '*' := by
      unfold Nat.digitChar
      repeat rw [if_neg (by omega)]
    rw [e]
    decide
theorem core_asc : ∀ (fuel n : Nat) (ds : List Char), (∀ c ∈ ds, c.toNat < 128) → ∀ c ∈ Nat.toDigitsCore 10 fuel n ds, c.toNat < 128
  | 0, n, ds, h, c, hc => h c (by simpa [Nat.toDigitsCore] using hc)
  | fuel + 1, n, ds, h, c, hc => by
    have h2 : ∀ c ∈ (Nat.digitChar (n % 10) :: ds), c.toNat < 128 := fun c hc => by
      rcases List.mem_cons.mp hc with rfl | hc
      · exact dch _
      · exact h c hc
    unfold Nat.toDigitsCore at hc
    dsimp only at hc
    split at hc
    · exact h2 c hc
    · exact core_asc fuel _ _ h2 c hc
theorem int_asc (i : Int) : ∀ c ∈ (Str.ofString (toString i)).cps.toList, c < 128 := by
  intro c hc
  rw [Str.ofString_eq_toList] at hc
  have hc : c ∈ (toString i).toList.map Char.toNat := by simpa using hc
  obtain ⟨ch, hch, rfl⟩ := List.mem_map.mp hc
  have dig : ∀ n : Nat, ∀ ch ∈ (Nat.repr n).toList, ch.toNat < 128 := fun n ch h => by
    have h : ch ∈ Nat.toDigits 10 n := by simpa [Nat.repr] using h
    exact core_asc _ _ [] (fun c z => absurd z List.not_mem_nil) ch h
  cases i with
  | ofNat n => exact dig n ch hch
  | negSucc n =>
    have e : (toString (Int.negSucc n)).toList = '-' :: (Nat.repr (n + 1)).toList := by
      show ("-" ++ Nat.repr (n + 1)).toList = _
      rw [String.toList_append]
      rfl
    rw [e] at hch
    rcases List.mem_cons.mp hch with rfl | h
    · decide
    · exact dig _ ch h
/-- str(number), a truth too: few signs -/
theorem call_strA {X : Cx} : CallR X (.type "str") (fun xs H Q => ∃ x i, xs = [x] ∧ nu x = some i ∧ i.natAbs < 10 ^ 45 ∧ ∀ z : Str, Asc 50 z → Q (.str z) H) := by
  intro pins s σ H xs us Q I r h
  obtain ⟨x, i, rfl, hx, hi, q⟩ := h
  obtain ⟨u, rfl, rx⟩ := vals1 r
  cases x with
  | int a =>
    obtain ⟨t, rfl⟩ := rx
    cases hx
    have hl : i.natAbs.log2 < 1920 := by
      by_cases z : i.natAbs = 0
      · rw [z]
        decide
      · have : i.natAbs.log2 < 150 := (Nat.log2_lt z).mpr (Nat.lt_of_lt_of_le hi (by decide))
        omega
    refine PySem.P.str_of_int hl ⟨.str _, H, I.tok _, ⟨_, rfl⟩, q _ ⟨?_, ?_⟩⟩
    · exact int_asc i
    · have z := int_text_length_le10 (a := i) (k := 45) (by decide) hi
      have e : (Str.ofString (toString i)).length = (toString i).length := PySem.ofString_length _
      show (Str.ofString (toString i)).length ≤ 50
      rw [e]
      omega
  | bl b =>
    cases rx
    refine PySem.P.str_of_bool ⟨.str _, H, I.tok _, ⟨_, rfl⟩, q _ ⟨?_, ?_⟩⟩
    · cases b <;> decide +kernel
    · cases b <;> decide +kernel
  | _ => cases hx
end Kv

namespace Kq
open PySem PySem.Spec PyProof.Rows L2
def tp (i : Nat) : Stmt := PySem.Challenge.pw_kindalone_k73_worths_mapped.main.body.getD i (.Pass ⟨0, 0, 0, 0⟩)
theorem newS {H : Hp} {p : Addr} {o : HO} (h : H p = none) : Same H (upd H p o) := fun b u e => by
  rw [upd_ne (ne_of_none e h)]
  exact e
/-- but for d and c all that stood stands -/
def Kp (d c : Addr) (H G : Hp) : Prop := ∀ b o, b ≠ d → b ≠ c → H b = some o → G b = some o
theorem Kp.rfl {d c : Addr} {H : Hp} : Kp d c H H := fun _ _ _ _ e => e
theorem Kp.trans {d c : Addr} {H G F : Hp} (a : Kp d c H G) (b : Kp d c G F) : Kp d c H F := fun x o h1 h2 e => b x o h1 h2 (a x o h1 h2 e)
theorem Kp.of {d c : Addr} {H G : Hp} (a : Same H G) : Kp d c H G := fun x o _ _ e => a x o e
theorem Kp.at1 {d c : Addr} {H : Hp} {o : HO} : Kp d c H (upd H d o) := fun x u h1 _ e => by rw [upd_ne h1]; exact e
theorem Kp.at2 {d c : Addr} {H : Hp} {o : HO} : Kp d c H (upd H c o) := fun x u _ h2 e => by rw [upd_ne h2]; exact e
/-- the deck of drawn cells -/
structure Dk (H : Hp) (d c : Addr) : Prop where
  ne : d ≠ c
  dd : ∃ seed k : Int, H d = some (.lst [.ref c, .int seed, .int k])
  cc : ∃ ns : List Int, H c = some (.lst (ns.map V.int)) ∧ ns.length ≤ 63
theorem Dk.same {H G : Hp} {d c : Addr} (x : Dk H d c) (s : Same H G) : Dk G d c := by
  obtain ⟨n, ⟨a, b, e⟩, ⟨ns, f, l⟩⟩ := x
  exact ⟨n, ⟨a, b, s _ _ e⟩, ⟨ns, s _ _ f, l⟩⟩
theorem sz {n : Nat} (h : n ≤ 1000) : n ≤ sizeLine := Nat.le_of_lt (small1000 h)
theorem Kp.mk {d c p : Addr} {H G : Hp} {o : HO} (a : Kp d c H G) (h : H p = none) : Kp d c H (upd G p o) := fun b u h1 h2 e => by
  rw [upd_ne (ne_of_none e h)]
  exact a b u h1 h2 e
theorem Dk.put {G : Hp} {d c p : Addr} {o : HO} (x : Dk G d c) (h : p ≠ d) (h' : p ≠ c) : Dk (upd G p o) d c := by
  obtain ⟨n, ⟨a, b, e⟩, ⟨ns, f, l⟩⟩ := x
  exact ⟨n, ⟨a, b, by rw [upd_ne h.symm]; exact e⟩, ⟨ns, by rw [upd_ne h'.symm]; exact f, l⟩⟩
theorem Dk.off {H : Hp} {d c p : Addr} (x : Dk H d c) (h : H p = none) : p ≠ d ∧ p ≠ c := by
  obtain ⟨n, ⟨a, b, e⟩, ⟨ns, f, l⟩⟩ := x
  exact ⟨(ne_of_none e h).symm, (ne_of_none f h).symm⟩
def lets : Str := "abcdefghijklmnopqrstuvwxyz"
def sg (i : Nat) : Str := ⟨#[97 + i]⟩
theorem lets_at : ∀ i : Fin 26, lets.cps.toList[i.val]? = some (97 + i.val) := by decide +kernel
structure Nm (x : Str) : Prop where
  low : ∀ c ∈ x.cps.toList, 97 ≤ c ∧ c < 123
  few : x.cps.toList.length ≤ 8
  one : 1 ≤ x.cps.toList.length
theorem app_cps (x y : Str) : (x ++ y).cps.toList = x.cps.toList ++ y.cps.toList := by
  show (x.cps ++ y.cps).toList = _
  rw [Array.toList_append]
theorem join_low : ∀ ks : List Nat, (∀ k ∈ ks, k < 26) → (∀ c ∈ (Txt.join (Str.ofString "") (ks.map sg)).cps.toList, 97 ≤ c ∧ c < 123) ∧ (Txt.join (Str.ofString "") (ks.map sg)).cps.toList.length = ks.length := by
  intro ks h
  rw [show ∀ a b, Txt.join a b = Str.join a b from TL.join_eq]
  induction ks with
  | nil => exact ⟨fun c z => absurd z (by simp [Str.join, Str.empty]), by simp [Str.join, Str.empty]⟩
  | cons k ks ih =>
    have hk := h k List.mem_cons_self
    have ih := ih fun j hj => h j (List.mem_cons_of_mem _ hj)
    cases ks with
    | nil =>
      refine ⟨fun c z => ?_, rfl⟩
      have e : c = 97 + k := by simpa [Str.join, sg] using z
      omega
    | cons j r =>
      have e : Str.join (Str.ofString "") ((k :: j :: r).map sg) = sg k ++ Str.ofString "" ++ Str.join (Str.ofString "") ((j :: r).map sg) := rfl
      rw [e, app_cps, app_cps]
      have e0 : (Str.ofString "").cps.toList = [] := by decide
      rw [e0, List.append_nil]
      refine ⟨fun c z => ?_, ?_⟩
      · rcases List.mem_append.mp z with z | z
        · have e : c = 97 + k := by simpa [sg] using z
          omega
        · exact ih.1 c z
      · rw [List.length_append, ih.2]
        show 1 + _ = _
        simp only [List.length_cons]
        omega
theorem join_nm {ks : List Nat} (h : ∀ k ∈ ks, k < 26) (h1 : 1 ≤ ks.length) (h8 : ks.length ≤ 8) : Nm (Txt.join (Str.ofString "") (ks.map sg)) := by
  obtain ⟨a, b⟩ := join_low ks h
  exact ⟨a, by omega, by omega⟩
theorem Kp.free {d c p : Addr} {H G : Hp} (a : Kp d c H G) (k : Dk G d c) (h : G p = none) : H p = none := by
  obtain ⟨h1, h2⟩ := k.off h
  cases e : H p with
  | none => rfl
  | some o =>
    rw [a p o h1 h2 e] at h
    cases h
theorem sg_len (ks : List Nat) : ((ks.map sg).map (·.length)).sum = ks.length := by
  induction ks with
  | nil => rfl
  | cons k ks ih =>
    rw [List.map_cons, List.map_cons, List.sum_cons, ih, List.length_cons]
    show 1 + ks.length = _
    omega
theorem lets_get {r : Int} (h0 : 0 ≤ r) (h1 : r < 26) : atI lets.cps.toList r = some (97 + r.toNat) := by
  have e : r = ((r.toNat : Nat) : Int) := by omega
  have q := atI_nat (lets_at ⟨r.toNat, by omega⟩)
  rw [← show r = (((⟨r.toNat, by omega⟩ : Fin 26).val : Nat) : Int) from e] at q
  exact q
theorem lets_len : lets.length ≤ sizeLine := by decide
def rJn (K : PySem.W.Frag) : V → List V → Hp → VK → Prop := fun x xs H Q => ∃ a p, ∃ ys : List Str, x = .str a ∧ xs = [.ref p] ∧ (SqL K H p (ys.map V.str) ∨ SqT K H p (ys.map V.str)) ∧ (ys.map (·.length)).sum + ys.length * a.length ≤ 16777216 ∧ Q (.str (Txt.join a ys)) H
theorem pe_joinK {X : Cx} (K : PySem.W.Frag) (h : X.K = K) {o e : Expr} {apos pos : Pos} {to te : TE} (ho : PE X o to) (he : PE X e te) (hbase : attributeBase o "join" X.env (eval o X.env) = eval o X.env := by rfl) (hline : (apos.endLine == pos.line) = true := by rfl)
    (hs : starEach [e] X.env = [(false, eval e X.env)] := by rfl) : PE X (.Call (.Attribute o "join" apos) [e] [] pos) (tM1 (rJn K) to te) := by
  subst h
  exact pe_join ho he hs hbase hline
theorem dpInts (K : PySem.W.Frag) (H : Hp) : ∀ ns : List Int, DpAll K H (ns.map V.int) (ns.map PyData.int)
  | [] => .nil
  | n :: ns => .cons (.int n) (dpInts K H ns)
theorem ixNat {n j : Nat} (hj : j < n) : ixN n (j : Int) = some j := by
  have h1 : (0 : Int) ≤ (j : Int) := by omega
  have h2 : (j : Int) < (n : Int) := by omega
  simp [ixN, h1, h2]
theorem join_cps : ∀ ks : List Nat, (Txt.join (Str.ofString "") (ks.map sg)).cps.toList = ks.map (97 + ·) := by
  intro ks
  rw [show ∀ a b, Txt.join a b = Str.join a b from TL.join_eq]
  induction ks with
  | nil => rfl
  | cons k ks ih =>
    cases ks with
    | nil => rfl
    | cons j r =>
      have e : Str.join (Str.ofString "") ((k :: j :: r).map sg) = sg k ++ Str.ofString "" ++ Str.join (Str.ofString "") ((j :: r).map sg) := rfl
      rw [e, app_cps, app_cps, ih]
      rfl
theorem nodupR {f : Nat → Str} : ∀ n, (∀ i j, i < n → j < n → f i = f j → i = j) → ((List.range n).map f).Nodup
  | 0, _ => List.nodup_nil
  | n + 1, h => by
    rw [List.range_succ, List.map_append]
    refine List.nodup_append.mpr ⟨nodupR n fun i j hi hj e => h i j (by omega) (by omega) e, (by simp), fun x hx y hy e => ?_⟩
    obtain ⟨i, hi, rfl⟩ := List.mem_map.mp hx
    have ey : y = f n := List.mem_singleton.mp hy
    rw [ey] at e
    have hi := List.mem_range.mp hi
    have := h i n (by omega) (by omega) e
    omega
abbrev tDeck : Stmt := tp 8
abbrev tDraw : Stmt := tp 9
section
variable {P : Program} {w : World} {K : PySem.W.Frag} {mg : Str → Option Value} {base : Heap}
theorem scDraw : FnScope ["_law_deck_here", "_law_most", "_law_cell", "_law_number"] ["_law_deck_here", "_law_most"] (defScope tDraw) := ⟨rfl, rfl, rfl, by decide +kernel, rfl, by decide +kernel, by decide +kernel⟩
def spDraw : Sp := fun vs H Q _ => ∃ (d c : Addr) (m : Int), vs = [.ref d, .int m] ∧ Dk H d c ∧ 0 < m ∧ m < 1298074214633706907132624082305024 ∧ ∀ (r : Int) (G : Hp), 0 ≤ r → r < m → Kp d c H G → Dk G d c → Q (.int r) G
theorem okDraw {f : Addr} {fd : FuncData} {k : Nat} (F : Fun K "_law_draw" "_law_draw" tDraw f fd) : FnOk P w K mg base CX0 (k + 1) f fd ["_law_deck_here", "_law_most"] spDraw := by
  refine F.ok scDraw (fun vs H Q E h => ?_) (fun cdv A outer s H vs Q E hr h => ?_)
  · obtain ⟨d, c, m, rfl, _⟩ := h
    rfl
  obtain ⟨d, c, m, rfl, ⟨ndc, ⟨seed, k0, hd⟩, ⟨ns, hc, hl⟩⟩, m0, m1, q⟩ := h
  refine ⟨_, pss_cons (ps_asg (pe_op op_add (pe_ix ix_list (pv 0) pe_int (fun _ _ => rfl)) pe_int) (pg_sub (pv 0) pe_int set_list))
    (C8.pss_cut (ps_set (i := 2) scDraw.nd rfl (.inl rfl) (pe_ifExp (pt_cmpR (op_eqD hr.units) (pe_ix ix_list (pv 0) pe_int (fun _ _ => rfl)) (pe_lst pa_nil) (nomark _)) (pe_ix ix_list (pv 0) pe_int (fun _ _ => rfl)) (pe_bm0 PySem.F.plainAttrs_list PySem.F.slot_list_pop PySem.F.type_list_pop mt_pop (pe_ix ix_list (pv 0) pe_int (fun _ _ => rfl)))))
    (pss_cons (ps_if (pt_cmpR op_ge (pv 2) (pe_op op_pow pe_int pe_int) (nomark _))
      (pss_cons (ps_expr (pe_bm PySem.F.plainAttrs_list PySem.F.slot_list_append PySem.F.type_list_append mt_append (pe_ix ix_list (pv 0) pe_int (fun _ _ => rfl)) (pa_cons (pe_op op_fdivW (pv 2) (pv 1)) pa_nil)))
      (pss_one (ps_ret (pe_op op_mod (pv 2) (pv 1))))) pss_nil)
    (pss_cons (ps_set (i := 3) scDraw.nd rfl (.inl rfl) (pe_op op_mod (pe_op op_mul (pe_op op_add (pe_op op_add (pe_op op_mod (pv 2) pe_int) (pe_op op_mul pe_int (pe_ix ix_list (pv 0) pe_int (fun _ _ => rfl)))) pe_int) pe_int) pe_int))
    (pss_cons (ps_set (i := 3) scDraw.nd rfl (.inl rfl) (pe_op op_mod (pe_op op_add (pe_op op_add (pe_op op_mul (pv 3) (pv 3)) (pe_op op_mul pe_int (pe_ix ix_list (pv 0) pe_int (fun _ _ => rfl)))) pe_int) pe_int))
    (pss_one (ps_ret (pe_op op_mod (pe_op op_fdiv (pe_op op_mod (pe_op op_mul (pv 3) (pe_op op_add (pe_op op_fdiv (pv 3) pe_int) pe_int)) pe_int) pe_int) (pv 1)))))))), ?_⟩
  refine ⟨_, rfl, d, _, _, _, rfl, rfl, SqL.of hd, atI_nat (j := 2) rfl, _, _, rfl, rfl, _, rfl, d, _, _, 2, rfl, rfl, hd, rfl, ?_⟩
  generalize hH1 : upd H d _ = H1
  have d1 : H1 d = some (.lst [.ref c, .int seed, .int (k0 + 1)]) := by rw [← hH1, upd_same]; rfl
  have c1 : H1 c = some (.lst (ns.map V.int)) := by rw [← hH1, upd_ne ndc.symm]; exact hc
  have p1 : Kp d c H H1 := by rw [← hH1]; exact Kp.at1
  clear hH1
  refine ⟨fun σ G => ∃ (cell : Int) (ms : List Int), σ = [some (.ref d), some (.int m), some (.int cell), none] ∧ Kp d c H G ∧ G d = some (.lst [.ref c, .int seed, .int (k0 + 1)]) ∧ G c = some (.lst (ms.map V.int)) ∧ ms.length ≤ 62, ?_, ?b2⟩
  · refine ⟨_, rfl, d, _, _, _, rfl, rfl, SqL.of d1, atI_nat (j := 0) rfl, Nat.zero_le _, fun p np => ?_⟩
    have sp : Same H1 (upd H1 p (.lst [])) := newS np
    have d2 := sp _ _ d1
    have c2 := sp _ _ c1
    have p2 : Kp d c H (upd H1 p (.lst [])) := p1.trans (.of sp)
    refine ⟨.list (ns.map PyData.int), .list [], .lst (SqL.of c2) (dpInts K _ ns), .lst (SqL.of upd_same) .nil, PySem.W.ke_shaped_ints ns, rfl, _, rfl, ?_⟩
    generalize upd H1 p (.lst []) = H2 at d2 c2 p2
    refine ite2 (fun he => ?_) (fun hne => ?_)
    · have n0 : ns = [] := by
        cases ns with
        | nil => rfl
        | cons a b => simp [PyData.eqv, PyData.eqvAll] at he
      subst n0
      exact ⟨_, rfl, d, _, _, _, rfl, rfl, SqL.of d2, atI_nat (j := 1) rfl, seed, [], rfl, p2, d2, c2, Nat.zero_le _⟩
    · have nn : ns ≠ [] := fun z => hne (by rw [z]; rfl)
      obtain ⟨n, hn⟩ : ∃ n, (ns.map V.int)[(ns.map V.int).length - 1]? = some (.int n) := by
        have h0 : 0 < ns.length := List.length_pos_iff.mpr nn
        rw [List.length_map, List.getElem?_map, List.getElem?_eq_getElem (by omega)]
        exact ⟨_, rfl⟩
      have ed : (ns.map V.int).dropLast = ns.dropLast.map V.int := by rw [List.map_dropLast]
      refine ⟨_, rfl, d, _, _, _, rfl, rfl, SqL.of d2, atI_nat (j := 0) rfl, .inl ⟨rfl, _, SqL.of c2⟩, c, _, _, rfl, rfl, c2, hn, ?_⟩
      rw [ed]
      refine ⟨n, ns.dropLast, rfl, p2.trans Kp.at2, by rw [upd_ne ndc]; exact d2, upd_same, ?_⟩
      rw [List.length_dropLast]
      omega
  case b2 =>
    rintro σ G ⟨cell, ms, rfl, kp, gd, gc, lm⟩
    refine ⟨_, rfl, _, _, rfl, rfl, ⟨by decide, by decide, by decide⟩, _, _, rfl, rfl, _, rfl, ite2 (fun _ => ?_) (fun _ => ?_)⟩
    · refine ⟨_, rfl, d, _, _, _, rfl, rfl, SqL.of gd, atI_nat (j := 0) rfl, .inl ⟨rfl, _, SqL.of gc⟩, _, rfl, _, rfl, _, _, rfl, rfl, wide_div m0 (b := 120) (by show m.natAbs < 1329227995784915872903807060280344576; omega) (by decide) (by decide), c, _, _, rfl, rfl, gc, (by rw [List.length_map]; exact small1000 (by omega)), ?_⟩
      refine ⟨_, rfl, _, rfl, _, _, rfl, rfl, m0, q _ _ (Int.emod_nonneg _ (by omega)) (Int.emod_lt_of_pos _ m0) (kp.trans Kp.at2) ⟨ndc, ⟨seed, k0 + 1, (by rw [upd_ne ndc]; exact gd)⟩, ⟨ms ++ [cell / m], ?_, ?_⟩⟩⟩
      · rw [upd_same, List.map_append]
        rfl
      · rw [List.length_append]
        show _ + 1 ≤ 63
        omega
    · refine ⟨_, rfl, _, _, rfl, rfl, (by show (0 : Int) < 2147483629; decide), _, rfl, d, _, _, _, rfl, rfl, SqL.of gd, atI_nat (j := 2) rfl, _, _, rfl, rfl, .inl ⟨by decide, by decide⟩, _, _, rfl, rfl, _, _, rfl, rfl, _, _, rfl, rfl, .inr ⟨by decide, by decide⟩, _, _, rfl, rfl, (by show (0 : Int) < 2147483647; decide), ?_⟩
      generalize hx : (cell % 2147483629 + 104729 * (k0 + 1) + 1) * 48271 % 2147483647 = x
      have x0 : 0 ≤ x := by rw [← hx]; exact Int.emod_nonneg _ (by decide)
      have x1 : x < 2147483647 := by rw [← hx]; exact Int.emod_lt_of_pos _ (by decide)
      refine ⟨_, rfl, _, rfl, _, _, rfl, rfl, .inl ⟨by omega, by omega⟩, _, rfl, d, _, _, _, rfl, rfl, SqL.of gd, atI_nat (j := 2) rfl, _, _, rfl, rfl, .inl ⟨by decide, by decide⟩, _, _, rfl, rfl, _, _, rfl, rfl, _, _, rfl, rfl, (by show (0 : Int) < 2147483587; decide), ?_⟩
      generalize hy : (x * x + 69621 * (k0 + 1) + 7) % 2147483587 = y
      have y0 : 0 ≤ y := by rw [← hy]; exact Int.emod_nonneg _ (by decide)
      have y1 : y < 2147483587 := by rw [← hy]; exact Int.emod_lt_of_pos _ (by decide)
      refine ⟨_, rfl, _, rfl, _, _, rfl, rfl, ⟨by decide, by decide⟩, _, _, rfl, rfl, _, _, rfl, rfl, .inl ⟨by omega, by omega⟩, _, _, rfl, rfl, (by show (0 : Int) < 2305843009213693951; decide), _, _, rfl, rfl, ⟨by decide, by decide⟩, _, rfl, _, _, rfl, rfl, m0, ?_⟩
      exact q _ _ (Int.emod_nonneg _ (by omega)) (Int.emod_lt_of_pos _ m0) kp ⟨ndc, ⟨_, _, gd⟩, ⟨ms, gc, by omega⟩⟩
theorem scDeck : FnScope ["_law_script", "_law_cells"] ["_law_script"] (defScope tDeck) := ⟨rfl, rfl, rfl, by decide +kernel, rfl, by decide +kernel, by decide +kernel⟩
def spDeck (K : PySem.W.Frag) : Sp := fun vs H Q _ => ∃ (a : Addr) (ns : List Int), vs = [.ref a] ∧ SqL K H a (ns.map V.int) ∧ ns.length ≤ 63 ∧ ∀ (d c : Addr) (G : Hp), Same H G → H d = none → H c = none → Dk G d c → Q (.ref d) G
theorem okDeck {f : Addr} {fd : FuncData} {k : Nat} (F : Fun K "_law_deck" "_law_deck" tDeck f fd) (ml : mg "list" = none) (mr : mg "reversed" = none) (ms : mg "sum" = none) (mn : mg "len" = none) : FnOk P w K mg base CX0 (k + 1) f fd ["_law_script"] (spDeck K) := by
  refine F.ok scDeck (fun vs H Q E h => ?_) (fun cdv A outer s H vs Q E hr h => ?_)
  · obtain ⟨a, ns, rfl, _⟩ := h
    rfl
  obtain ⟨a, ns, rfl, hS, hl, q⟩ := h
  refine ⟨_, pss_cons (ps_set (i := 1) scDeck.nd rfl (.inl rfl) (Kr.pe_listRev rfl (by rfl) ml (by rfl) mr (pe_slice sl_list (pv 0) po_none (po_some pe_int))))
    (pss_one (ps_ret (pe_lst (pa_cons (pv 1) (pa_cons (pe_op op_add (pe_op op_mod (pe_callB (cr_sum rfl) (by rfl) ms PyProof.Rows.boot_sum (pa_cons (pv 1) pa_nil)) pe_int) (pe_op op_mul pe_int (pe_callB call_len_seq (by rfl) mn PySem.boot_len (pa_cons (pv 1) pa_nil)))) (pa_cons pe_int pa_nil)))))), ?_⟩
  refine ⟨_, rfl, 63, rfl, a, _, rfl, hS, fun p np => ?_⟩
  refine ⟨p, _, rfl, SqL.of upd_same, fun c nc => ?_⟩
  have e0 : cutV (ns.map V.int) none (some 63) = (ns.take 63).map V.int := by
    rw [List.take_of_length_le hl]
    unfold cutV
    rw [HT.sIx_none, show HT.sIx (ns.map V.int).length (ns.map V.int).length (some 63) = min 63 (ns.map V.int).length from HT.sIx_nat _ _ 63, List.drop_zero, List.take_of_length_le]
    rw [List.length_map]
    omega
  rw [e0, ← List.map_reverse]
  generalize hm : (ns.take 63).reverse = ms'
  have lm : ms'.length ≤ 63 := by rw [← hm, List.length_reverse, List.length_take]; omega
  generalize hG : upd (upd H p _) c (.lst (ms'.map V.int)) = G
  have gc : G c = some (.lst (ms'.map V.int)) := by rw [← hG, upd_same]
  have hc : H c = none := (newS np).free nc
  have hcp : c ≠ p := fun z => by
    rw [z, upd_same] at nc
    cases nc
  have sG : Same H G := by
    rw [← hG]
    exact (newS np).trans (newS (by rw [upd_ne hcp]; exact hc))
  refine ⟨_, rfl, _, rfl, c, _, rfl, SqL.of gc, _, _, rfl, rfl, (by show (0 : Int) < 2147483629; decide), _, rfl, c, _, rfl, .inl (SqL.of gc), _, _, rfl, rfl, .inl ⟨by decide, by decide⟩, _, _, rfl, rfl, (by show 3 ≤ sizeLine; decide), fun d nd => q d c _ (sG.trans (newS nd)) (sG.free nd) hc ⟨(ne_of_none gc nd).symm, ⟨_, _, upd_same⟩, ⟨ms', ?_, lm⟩⟩⟩
  rw [upd_ne (ne_of_none gc nd)]
  exact gc
end
end Kq
namespace Kq
open PySem PySem.Spec PyProof.Rows L2
/-- the tuples stay -/
def Tk (H G : Hp) : Prop := ∀ b xs, H b = some (.tup xs) → G b = some (.tup xs)
theorem Tk.of {H G : Hp} (s : Same H G) : Tk H G := fun b xs e => s b _ e
theorem Tk.trans {H G F : Hp} (a : Tk H G) (b : Tk G F) : Tk H F := fun x o e => b x o (a x o e)
theorem Tk.kp {H G : Hp} {d c : Addr} (a : Kp d c H G) (k : Dk H d c) : Tk H G := fun b xs e => by
  obtain ⟨n, ⟨s, k0, hd⟩, ⟨ns, hc, _⟩⟩ := k
  refine a b _ (fun z => ?_) (fun z => ?_) e
  · rw [z, hd] at e
    cases e
  · rw [z, hc] at e
    cases e
theorem Tk.put {H G : Hp} {p : Addr} {o : HO} (a : Tk H G) (h : ∀ xs, H p ≠ some (.tup xs)) : Tk H (upd G p o) := fun b xs e => by
  rw [upd_ne (fun z => h xs (by rw [← z]; exact e))]
  exact a b xs e
theorem smk {H G : Hp} {p : Addr} {o : HO} (a : Same H G) (h : H p = none) : Same H (upd G p o) := fun b u e => by
  rw [upd_ne (ne_of_none e h)]
  exact a b u e
theorem Nm.ok {x : Str} (h : Nm x) : PyData.strOk x = true := by
  unfold PyData.strOk
  rw [← Array.all_toList, List.all_eq_true]
  intro c hc
  have := (h.low c hc).2
  exact decide_eq_true (by omega)
end Kq
namespace Kq
open PySem PySem.Spec PyProof.Rows L2
inductive Kd where
  | opn (x : Str)
  | num
  | tru
  | pair (a b : Kd)
  | eith (a b : Kd)
  | lst (a : Kd)
  | fn (a b : Kd)
  deriving DecidableEq
namespace Kd
def isFn : Kd → Bool
  | fn _ _ => true
  | _ => false
def isOp : Kd → Bool
  | opn _ => true
  | _ => false
def nodes : Kd → List Kd
  | opn x => [opn x]
  | num => [num]
  | tru => [tru]
  | pair a b => pair a b :: (nodes a ++ nodes b)
  | eith a b => eith a b :: (nodes a ++ nodes b)
  | lst a => lst a :: nodes a
  | fn a b => fn a b :: (nodes a ++ nodes b)
def size (t : Kd) : Nat := t.nodes.length
def dp : Kd → Nat
  | pair a b => max a.dp b.dp + 1
  | eith a b => max a.dp b.dp + 1
  | lst a => a.dp + 1
  | fn a b => max a.dp b.dp + 1
  | _ => 0
def opens : Kd → List Str
  | opn x => [x]
  | num => []
  | tru => []
  | pair a b => opens a ++ opens b
  | eith a b => opens a ++ opens b
  | lst a => opens a
  | fn a b => opens a ++ opens b
end Kd
/-- a tuple, or one of the written part -/
def Sq (K : PySem.W.Frag) (H : Hp) (a : Addr) (xs : List V) : Prop := H a = some (.tup xs) ∨ ∀ G : Hp, SqT K G a xs
theorem Sq.tk {K : PySem.W.Frag} {H G : Hp} {a : Addr} {xs : List V} (h : Sq K H a xs) (k : Tk H G) : Sq K G a xs := by
  rcases h with h | h
  · exact .inl (k _ _ h)
  · exact .inr h
/-- the tree stands at v -/
def Rp (K : PySem.W.Frag) (H : Hp) : Kd → V → Prop
  | .opn x, v => ∃ a, v = .ref a ∧ Sq K H a [.str "open", .str x]
  | .num, v => ∃ a, v = .ref a ∧ Sq K H a [.str "num"]
  | .tru, v => ∃ a, v = .ref a ∧ Sq K H a [.str "truth"]
  | .pair s t, v => ∃ a x y, v = .ref a ∧ Sq K H a [.str "pair", x, y] ∧ Rp K H s x ∧ Rp K H t y
  | .eith s t, v => ∃ a x y, v = .ref a ∧ Sq K H a [.str "either", x, y] ∧ Rp K H s x ∧ Rp K H t y
  | .lst s, v => ∃ a x, v = .ref a ∧ Sq K H a [.str "list", x] ∧ Rp K H s x
  | .fn s t, v => ∃ a x y, v = .ref a ∧ Sq K H a [.str "fun", x, y] ∧ Rp K H s x ∧ Rp K H t y
def RpL (K : PySem.W.Frag) (H : Hp) : List Kd → List V → Prop
  | [], [] => True
  | t :: ts, v :: vs => Rp K H t v ∧ RpL K H ts vs
  | _, _ => False
theorem Rp.tk {K : PySem.W.Frag} {H G : Hp} (k : Tk H G) : ∀ {t : Kd} {v : V}, Rp K H t v → Rp K G t v := by
  intro t
  induction t with
  | opn x => exact fun ⟨a, e, h⟩ => ⟨a, e, h.tk k⟩
  | num => exact fun ⟨a, e, h⟩ => ⟨a, e, h.tk k⟩
  | tru => exact fun ⟨a, e, h⟩ => ⟨a, e, h.tk k⟩
  | pair s t i j => exact fun ⟨a, x, y, e, h, p, q⟩ => ⟨a, x, y, e, h.tk k, i p, j q⟩
  | eith s t i j => exact fun ⟨a, x, y, e, h, p, q⟩ => ⟨a, x, y, e, h.tk k, i p, j q⟩
  | lst s i => exact fun ⟨a, x, e, h, p⟩ => ⟨a, x, e, h.tk k, i p⟩
  | fn s t i j => exact fun ⟨a, x, y, e, h, p, q⟩ => ⟨a, x, y, e, h.tk k, i p, j q⟩
theorem RpL.tk {K : PySem.W.Frag} {H G : Hp} (k : Tk H G) : ∀ {ts : List Kd} {vs : List V}, RpL K H ts vs → RpL K G ts vs
  | [], [], _ => trivial
  | _ :: _, _ :: _, h => ⟨h.1.tk k, RpL.tk k h.2⟩
  | [], _ :: _, h => h.elim
  | _ :: _, [], h => h.elim
end Kq
namespace Kq
open PySem PySem.Spec PyProof.Rows L2 Kf Kg Kv Kk
abbrev tNames : Stmt := tp 11
abbrev tPick : Stmt := tp 10
abbrev nNames : List Str := ["_law_deck_here", "_law_many", "_law_letters", "_law_k", "_law_word", "_law_at", "_law_found", "_law_sign"]
def nmAt (ks : List Nat) (a j : Nat) : Str := Txt.join (Str.ofString "") ((ks.set a ((ks.getD a 0 + j + 1) % 26)).map sg)
theorem nmAt_inj {ks : List Nat} {a i j : Nat} (ha : a < ks.length) (hi : i < 26) (hj : j < 26) (h : nmAt ks a i = nmAt ks a j) : i = j := by
  have e : (ks.set a ((ks.getD a 0 + i + 1) % 26)).map (97 + ·) = (ks.set a ((ks.getD a 0 + j + 1) % 26)).map (97 + ·) := by
    rw [← join_cps, ← join_cps]
    exact congrArg (fun s : Str => s.cps.toList) h
  have e2 := congrArg (fun l => l[a]?) e
  simp only [List.getElem?_map, List.getElem?_set_self ha, Option.map_some] at e2
  have e3 := Option.some.inj e2
  omega
section
variable {P : Program} {w : World} {K : PySem.W.Frag} {mg : Str → Option Value} {base : Heap}
theorem scNames : FnScope nNames ["_law_deck_here", "_law_many"] (defScope tNames) := ⟨rfl, rfl, rfl, by decide +kernel, rfl, by decide +kernel, by decide +kernel⟩
def spNames : Sp := fun vs H Q _ => ∃ (d c : Addr) (m : Int), vs = [.ref d, .int m] ∧ Dk H d c ∧ 0 ≤ m ∧ m ≤ 26 ∧
  ∀ (l : Addr) (xs : List Str) (G : Hp), Kp d c H G → Dk G d c → H l = none → G l = some (.lst (xs.map V.str)) → xs.length = m.toNat → (∀ x ∈ xs, Nm x) → xs.Nodup → (∃ n, ∀ x ∈ xs, x.cps.toList.length = n) → Q (.ref l) G
theorem okNames {f fD : Addr} {fd fdD : FuncData} {k : Nat} (F : Fun K "_law_names" "_law_names" tNames f fd) (GD : FnOk P w K mg base CX0 (k + 1) fD fdD ["_law_deck_here", "_law_most"] spDraw) (bD : Binds K fdD ["_law_deck_here", "_law_most"] []) (gD : mg "_law_draw" = some (.ref fD)) (kD : PySem.W.keepIn K (.ref fD) = true)
    (mn : mg "len" = none) (mr : mg "range" = none) : FnOk P w K mg base CX0 (k + 2) f fd ["_law_deck_here", "_law_many"] spNames := by
  refine F.ok scNames (fun vs H Q E h => ?_) (fun cdv A outer s H vs Q E hr h => ?_)
  · obtain ⟨d, c, m, rfl, _⟩ := h
    rfl
  obtain ⟨d, c, m, rfl, dk, m0, m1, q⟩ := h
  refine ⟨_, pss_cons (ps_set (i := 2) scNames.nd rfl (.inr rfl) pe_str)
    (pss_cons (ps_setLc (i := 4) (own := [("_law_k", 3)]) (g := gName 3) (by rfl) scNames.nd rfl rfl (sw_true rfl rfl rfl (by decide +kernel)) (pi_range1 (by rfl) mr (pa_cons (pe_op op_add pe_int (pe_call GD hr (by rfl) gD kD bD .nil pass0 (pa_cons (pv 0) (pa_cons pe_int pa_nil)))) pa_nil)) (blkOk_by (own := [("_law_k", 3)]) (N := nNames) (sc := defScope tNames) (by decide +kernel))
        (fun _ _ _ _ _ => pg_name (i := 3) scNames.nd rfl (.inl rfl)) (fun _ _ _ _ _ => pts_nil)
        (fun _ _ _ _ _ => pe_call GD hr (by rfl) gD kD bD .nil pass0 (pa_cons (pv 0) (pa_cons pe_int pa_nil))))
    (pss_cons (ps_set (i := 5) scNames.nd rfl (.inl rfl) (pe_call GD hr (by rfl) gD kD bD .nil pass0 (pa_cons (pv 0) (pa_cons (pe_callB call_len_seq (by rfl) mn PySem.boot_len (pa_cons (pv 4) pa_nil)) pa_nil))))
    (pss_cons (ps_set (i := 6) scNames.nd rfl (.inl rfl) (pe_lst pa_nil))
    (pss_cons (ps_for PassesOwn.never rfl (pi_range1 (by rfl) mr (pa_cons (pv 1) pa_nil)) (pg_name (i := 3) scNames.nd rfl (.inl rfl))
      (pss_cons (ps_asg (pe_op op_mod (pe_op op_add (pe_ix ix_list (pv 4) (pv 5) (fun _ _ => rfl)) pe_int) pe_int) (pg_sub (pv 4) (pv 5) set_list))
      (pss_one (ps_expr (pe_bm PySem.F.plainAttrs_list PySem.F.slot_list_append PySem.F.type_list_append mt_append (pv 6) (pa_cons (pe_joinK K rfl pe_str
        (pe_lc (own := [("_law_sign", 7)]) (g := gName 7) (by rfl) scNames.nd (pi_list (pv 4)) (blkOk_by (own := [("_law_sign", 7)]) (N := nNames) (sc := defScope tNames) (by decide +kernel))
          (fun _ _ _ _ _ => pg_name (i := 7) scNames.nd rfl (.inl rfl)) (fun _ _ _ _ _ => pts_nil) (fun _ _ _ _ _ => pe_ix ix_str (pv 2) (pv 7) (fun _ _ => rfl)))) pa_nil))))))
    (pss_one (ps_ret (pv 6))))))), ?_⟩
  refine ⟨_, rfl, d, c, 8, rfl, dk, by decide, by decide, fun mm G1 mm0 mm1 kp1 dk1 => ⟨_, _, rfl, rfl, ?_⟩⟩
  refine ⟨1 + mm, rfl, by omega, by omega, fun D nD => ?_⟩
  have offD := dk1.off nD
  have hD : H D = none := kp1.free dk1 nD
  refine lc_range (lo := 0) (n := (1 + mm).toNat) (fun i G => Kp d c H G ∧ Dk G d c ∧ ∃ ks : List Nat, ks.length = i ∧ (∀ k ∈ ks, k < 26) ∧ G D = some (.lst (ks.map fun k : Nat => V.int (k : Int)))) ?_ (fun i G hi z => ?_) (fun G z => ?_)
  · exact ⟨kp1.mk hD, dk1.put offD.1 offD.2, [], rfl, fun k z => (nomatch z), upd_same⟩
  · obtain ⟨kpi, dki, ks, lk, hk, gD'⟩ := z
    refine ⟨rfl, _, rfl, d, c, 26, rfl, dki, by decide, by decide, fun r G2 r0 r1 kp2 dk2 => ?_⟩
    have er : r = ((r.toNat : Nat) : Int) := by omega
    refine ⟨_, kp2 D _ offD.1 offD.2 gD', ?_, (kpi.trans kp2).mk hD, dk2.put offD.1 offD.2, ks ++ [r.toNat], ?_, fun k hk' => ?_, ?_⟩
    · rw [List.length_map, lk]
      exact small1000 (by omega)
    · rw [List.length_append, lk]
      rfl
    · rcases List.mem_append.mp hk' with z | z
      · exact hk k z
      · rw [List.mem_singleton.mp z]
        omega
    · rw [upd_same, List.map_append]
      show _ = some (HO.lst (_ ++ [V.int ((r.toNat : Nat) : Int)]))
      rw [← er]
  obtain ⟨kpi, dki, ks, lk, hk, gD'⟩ := z
  refine ⟨_, rfl, _, rfl, D, _, rfl, .inl (SqL.of gD'), d, c, _, rfl, dki, by rw [List.length_map]; omega, by rw [List.length_map]; omega, fun r G2 r0 r1 kp2 dk2 => ?_⟩
  rw [List.length_map] at r1
  have gD2 := kp2 D _ offD.1 offD.2 gD'
  refine ⟨Nat.zero_le _, fun L nL => ?_⟩
  have offL := dk2.off nL
  have LD : L ≠ D := (ne_of_none gD2 nL).symm
  have kpa := kpi.trans kp2
  have hL : H L = none := kpa.free dk2 nL
  have er : r = ((r.toNat : Nat) : Int) := by omega
  have lr : r.toNat < ks.length := by omega
  have l8 : ks.length ≤ 8 := by omega
  refine ⟨_, rfl, m, rfl, by omega, by omega, ?_⟩
  refine for_range (lo := 0) (n := m.toNat) (fun i σ G => (∃ y3, σ = [some (.ref d), some (.int m), some (.str lets), y3, some (.ref D), some (.int r), some (.ref L), none]) ∧ Kp d c H G ∧ Dk G d c ∧
      G D = some (.lst ((ks.set r.toNat ((ks.getD r.toNat 0 + i) % 26)).map fun k : Nat => V.int (k : Int))) ∧ G L = some (.lst (((List.range i).map (nmAt ks r.toNat)).map V.str))) ?_ (fun i σ G hi z => ?_) (fun σ G z => ?_)
  · refine ⟨⟨none, rfl⟩, kpa.mk hL, dk2.put offL.1 offL.2, ?_, upd_same⟩
    rw [upd_ne LD.symm, gD2]
    have h26 : (ks.getD r.toNat 0 + 0) % 26 = ks[r.toNat] := by
      have e1 : ks.getD r.toNat 0 = ks[r.toNat] := by simp [List.getD, List.getElem?_eq_getElem lr]
      have := hk _ (List.getElem_mem lr)
      rw [e1]
      omega
    rw [h26, List.set_getElem_self]
  · obtain ⟨⟨y3, rfl⟩, kpG, dkG, gDG, gLG⟩ := z
    generalize hks : ks.set r.toNat ((ks.getD r.toNat 0 + i) % 26) = ki at gDG
    have lki : ki.length = ks.length := by rw [← hks, List.length_set]
    have kat : ki[r.toNat]? = some ((ks.getD r.toNat 0 + i) % 26) := by rw [← hks, List.getElem?_set_self lr]
    have gat : atI (ki.map fun k : Nat => V.int (k : Int)) r = some (V.int (((ks.getD r.toNat 0 + i) % 26 : Nat) : Int)) := by
      have z := atI_nat (xs := ki.map fun k : Nat => V.int (k : Int)) (j := r.toNat) (v := V.int (((ks.getD r.toNat 0 + i) % 26 : Nat) : Int)) (by rw [List.getElem?_map, kat]; rfl)
      rw [← er] at z
      exact z
    have ix : ixN (ki.map fun k : Nat => V.int (k : Int)).length r = some r.toNat := by
      have z := ixNat (n := (ki.map fun k : Nat => V.int (k : Int)).length) (j := r.toNat) (by rw [List.length_map, lki]; exact lr)
      rw [← er] at z
      exact z
    refine ⟨_, rfl, _, rfl, D, _, _, _, rfl, rfl, SqL.of gDG, gat, _, _, rfl, rfl, _, _, rfl, rfl, (by show (0 : Int) < 26; decide), _, rfl, _, rfl, D, _, _, r.toNat, rfl, rfl, gDG, ix, ?_⟩
    have ev : (V.int ((((ks.getD r.toNat 0 + i) % 26 : Nat) : Int) + 1) = V.int ((((ks.getD r.toNat 0 + i) % 26 : Nat) : Int) + 1)) := rfl
    have en : ((((ks.getD r.toNat 0 + i) % 26 : Nat) : Int) + 1) % 26 = (((ks.getD r.toNat 0 + i + 1) % 26 : Nat) : Int) := by omega
    have eset : (ki.map fun k : Nat => V.int (k : Int)).set r.toNat (V.int (((((ks.getD r.toNat 0 + i) % 26 : Nat) : Int) + 1) % 26)) = (ks.set r.toNat ((ks.getD r.toNat 0 + i + 1) % 26)).map fun k : Nat => V.int (k : Int) := by
      rw [en, ← hks, ← List.map_set (f := fun k : Nat => V.int (k : Int)), List.set_set]
    rw [eset]
    generalize hk2 : ks.set r.toNat ((ks.getD r.toNat 0 + i + 1) % 26) = k2
    have lk2 : k2.length = ks.length := by rw [← hk2, List.length_set]
    have hk26 : ∀ k ∈ k2, k < 26 := fun k hk' => by
      rw [← hk2] at hk'
      rcases List.mem_or_eq_of_mem_set hk' with z | z
      · exact hk k z
      · rw [z]
        exact Nat.mod_lt _ (by decide)
    have gL2 : (upd G D (.lst (k2.map fun k : Nat => V.int (k : Int)))) L = some (.lst (((List.range i).map (nmAt ks r.toNat)).map V.str)) := by rw [upd_ne LD]; exact gLG
    have gDn : (upd G D (.lst (k2.map fun k : Nat => V.int (k : Int)))) D = some (.lst (k2.map fun k : Nat => V.int (k : Int))) := upd_same
    have kp3 : Kp d c H (upd G D (.lst (k2.map fun k : Nat => V.int (k : Int)))) := kpG.mk hD
    have dk3 := dkG.put (o := .lst (k2.map fun k : Nat => V.int (k : Int))) offD.1 offD.2
    generalize upd G D (.lst (k2.map fun k : Nat => V.int (k : Int))) = G3 at gL2 gDn kp3 dk3
    refine ⟨_, rfl, .inl ⟨rfl, _, SqL.of gL2⟩, ⟨_, rfl⟩, _, rfl, D, rfl, ⟨_, SqL.of gDn⟩, fun J nJ => ?_⟩
    have JD : D ≠ J := ne_of_none gDn nJ
    have JL : L ≠ J := ne_of_none gL2 nJ
    have offJ := dk3.off nJ
    have hJ : H J = none := kp3.free dk3 nJ
    refine lc_list (xs := k2.map fun k : Nat => V.int (k : Int)) (fun i G => Same G3 G ∧ G J = some (.lst (((k2.take i).map sg).map V.str))) ⟨newS nJ, upd_same⟩ (fun i G _ z => SqL.of (z.1 _ _ gDn)) (fun i' x G hx z => ?_) (fun G z => ?_)
    · obtain ⟨sG, gJ⟩ := z
      rw [List.getElem?_map] at hx
      cases hu : k2[i']? with
      | none => rw [hu] at hx; cases hx
      | some kk =>
        rw [hu] at hx
        have ex : V.int (kk : Int) = x := Option.some.inj hx
        subst ex
        have hkk := hk26 kk (List.mem_of_getElem? hu)
        have li : i' < k2.length := (List.getElem?_eq_some_iff.mp hu).1
        have tk : k2.take (i' + 1) = k2.take i' ++ [kk] := by rw [List.take_add_one, hu]; rfl
        have lg := lets_get (r := ((kk : Nat) : Int)) (by omega) (by omega)
        rw [Int.toNat_natCast] at lg
        refine ⟨rfl, _, rfl, _, rfl, lets, _, _, rfl, rfl, lets_len, lg, _, gJ, ?_, smk sG nJ, ?_⟩
        · rw [List.length_map, List.length_map, List.length_take]
          exact small1000 (by omega)
        · rw [upd_same, tk, List.map_append, List.map_append]
          rfl
    · obtain ⟨sG, gJ⟩ := z
      rw [List.length_map, List.take_length] at gJ
      refine ⟨_, J, k2.map sg, rfl, rfl, .inl (SqL.of gJ), ?_, L, _, _, rfl, rfl, sG _ _ gL2, ?_, ?_⟩
      · rw [sg_len, List.length_map]
        show k2.length + k2.length * 0 ≤ _
        omega
      · rw [List.length_map, List.length_map, List.length_range]
        exact small1000 (by omega)
      · refine ⟨⟨_, rfl⟩, (kp3.trans (Kp.of sG)).mk hL, (dk3.same sG).put offL.1 offL.2, ?_, ?_⟩
        · rw [upd_ne LD.symm]
          exact sG _ _ gDn
        · rw [upd_same, List.range_succ, List.map_append, List.map_append]
          show _ = some (HO.lst (_ ++ [V.str (Txt.join (Str.ofString "") ((ks.set r.toNat ((ks.getD r.toNat 0 + i + 1) % 26)).map sg))]))
          rw [hk2]
  · obtain ⟨⟨y3, rfl⟩, kpG, dkG, gDG, gLG⟩ := z
    refine ⟨_, rfl, q L _ G kpG dkG hL gLG (by rw [List.length_map, List.length_range]) (fun x hx => ?_) (nodupR _ fun i j hi hj e => nmAt_inj lr (by omega) (by omega) e) ⟨ks.length, fun x hx => ?_⟩⟩
    rotate_left
    · obtain ⟨j, _, rfl⟩ := List.mem_map.mp hx
      unfold nmAt
      rw [join_cps, List.length_map, List.length_set]
    obtain ⟨j, _, rfl⟩ := List.mem_map.mp hx
    refine join_nm (fun k hk' => ?_) (by rw [List.length_set]; omega) (by rw [List.length_set]; omega)
    rcases List.mem_or_eq_of_mem_set hk' with z | z
    · exact hk k z
    · rw [z]
      exact Nat.mod_lt _ (by decide)
theorem scPick : FnScope ["_law_deck_here", "_law_some"] ["_law_deck_here", "_law_some"] (defScope tPick) := ⟨rfl, rfl, rfl, by decide +kernel, rfl, by decide +kernel, by decide +kernel⟩
abbrev psPick : List Str := ["_law_deck_here", "_law_some"]
def spPick : Sp := fun vs H Q _ => ∃ (d c a : Addr) (us : List V), vs = [.ref d, .ref a] ∧ Dk H d c ∧ H a = some (.lst us) ∧ a ≠ d ∧ a ≠ c ∧ 1 ≤ us.length ∧ us.length ≤ 100 ∧ ∀ (v : V) (G : Hp), Kp d c H G → Dk G d c → v ∈ us → Q v G
theorem okPick {f fD : Addr} {fd fdD : FuncData} {k : Nat} (F : Fun K "_law_pick" "_law_pick" tPick f fd) (GD : FnOk P w K mg base CX0 (k + 1) fD fdD ["_law_deck_here", "_law_most"] spDraw) (bD : Binds K fdD ["_law_deck_here", "_law_most"] []) (gD : mg "_law_draw" = some (.ref fD)) (kD : PySem.W.keepIn K (.ref fD) = true)
    (mn : mg "len" = none) : FnOk P w K mg base CX0 (k + 2) f fd psPick spPick := by
  refine F.ok scPick (fun vs H Q E h => ?_) (fun cdv A outer s H vs Q E hr h => ?_)
  · obtain ⟨d, c, a, us, rfl, _⟩ := h
    rfl
  obtain ⟨d, c, a, us, rfl, dk, ha, ad, ac, l1, l2, q⟩ := h
  refine ⟨_, pss_one (ps_ret (pe_ix ix_list (pv 1) (pe_call GD hr (by rfl) gD kD bD .nil pass0 (pa_cons (pv 0) (pa_cons (pe_callB call_len_seq (by rfl) mn PySem.boot_len (pa_cons (pv 1) pa_nil)) pa_nil))) (fun _ _ => rfl))), ?_⟩
  refine ⟨_, rfl, _, rfl, _, rfl, a, _, rfl, .inl (SqL.of ha), d, c, _, rfl, dk, by omega, by omega, fun r G r0 r1 kp dk2 => ?_⟩
  have lr : r.toNat < us.length := by omega
  have er : r = ((r.toNat : Nat) : Int) := by omega
  have gat : atI us r = some us[r.toNat] := by
    have z := atI_nat (xs := us) (j := r.toNat) (List.getElem?_eq_getElem lr)
    rw [← er] at z
    exact z
  exact ⟨a, _, _, _, rfl, rfl, SqL.of (kp a _ ad ac ha), gat, q _ G kp dk2 (List.getElem_mem lr)⟩
end
end Kq
namespace Kq
open PySem PySem.Spec PyProof.Rows L2 Kf Kg Kv Kk
namespace Kd
def res : Kd → Kd
  | fn _ b => b.res
  | t => t
theorem size_fn (a b : Kd) : (fn a b).size = a.size + b.size + 1 := by
  show (a.nodes ++ b.nodes).length + 1 = _
  rw [List.length_append]
  rfl
end Kd
end Kq
namespace Kq
open PySem PySem.Spec PyProof.Rows L2 Kf Kg Kv Kk GxR
namespace Kd
/-- a maker's argument -/
def mk (t : Kd) : Bool := t.isFn && t.res.isOp
end Kd
end Kq
namespace Kq
open PySem PySem.Spec PyProof.Rows L2 Kf Kg Kv Kk GxR
section
variable {P : Program} {w : World} {K : PySem.W.Frag} {mg : Str → Option Value} {base : Heap}
/-- the name that a maker makes -/
theorem Rp.op {H : Hp} {t : Kd} {v : V} (r : Rp K H t v) (e : t.isOp = true) : ∃ a x, v = .ref a ∧ t = .opn x ∧ Sq K H a [.str "open", .str x] := by
  cases t with
  | opn x =>
    obtain ⟨a, e, g⟩ := r
    exact ⟨a, x, e, rfl, g⟩
  | _ => cases e
end
end Kq
namespace Kq
open PySem PySem.Spec PyProof.Rows L2 Kf Kg Kv Kk
def Rp0 (H : Hp) : Kd → V → Prop
  | .opn x, v => ∃ a, v = .ref a ∧ H a = some (.tup [.str "open", .str x])
  | .num, v => ∃ a, v = .ref a ∧ H a = some (.tup [.str "num"])
  | .tru, v => ∃ a, v = .ref a ∧ H a = some (.tup [.str "truth"])
  | .pair s t, v => ∃ a x y, v = .ref a ∧ H a = some (.tup [.str "pair", x, y]) ∧ Rp0 H s x ∧ Rp0 H t y
  | .eith s t, v => ∃ a x y, v = .ref a ∧ H a = some (.tup [.str "either", x, y]) ∧ Rp0 H s x ∧ Rp0 H t y
  | .lst s, v => ∃ a x, v = .ref a ∧ H a = some (.tup [.str "list", x]) ∧ Rp0 H s x
  | .fn s t, v => ∃ a x y, v = .ref a ∧ H a = some (.tup [.str "fun", x, y]) ∧ Rp0 H s x ∧ Rp0 H t y
def RpL0 (H : Hp) : List Kd → List V → Prop
  | [], [] => True
  | t :: ts, v :: vs => Rp0 H t v ∧ RpL0 H ts vs
  | _, _ => False
theorem Rp0.tk {H G : Hp} (k : Tk H G) : ∀ {t : Kd} {v : V}, Rp0 H t v → Rp0 G t v := by
  intro t
  induction t with
  | opn x => exact fun ⟨a, e, h⟩ => ⟨a, e, k _ _ h⟩
  | num => exact fun ⟨a, e, h⟩ => ⟨a, e, k _ _ h⟩
  | tru => exact fun ⟨a, e, h⟩ => ⟨a, e, k _ _ h⟩
  | pair s t i j => exact fun ⟨a, x, y, e, h, p, q⟩ => ⟨a, x, y, e, k _ _ h, i p, j q⟩
  | eith s t i j => exact fun ⟨a, x, y, e, h, p, q⟩ => ⟨a, x, y, e, k _ _ h, i p, j q⟩
  | lst s i => exact fun ⟨a, x, e, h, p⟩ => ⟨a, x, e, k _ _ h, i p⟩
  | fn s t i j => exact fun ⟨a, x, y, e, h, p, q⟩ => ⟨a, x, y, e, k _ _ h, i p, j q⟩
theorem RpL0.tk {H G : Hp} (k : Tk H G) : ∀ {ts : List Kd} {vs : List V}, RpL0 H ts vs → RpL0 G ts vs
  | [], [], _ => trivial
  | _ :: _, _ :: _, h => ⟨h.1.tk k, RpL0.tk k h.2⟩
  | [], _ :: _, h => h.elim
  | _ :: _, [], h => h.elim
def sb : Nat → Nat
  | 0 => 1
  | n + 1 => 2 * sb n + 1
theorem sb_pos (n : Nat) : 1 ≤ sb n := by
  cases n with
  | zero => exact Nat.le_refl _
  | succ n =>
    show 1 ≤ 2 * sb n + 1
    omega
def Kd.isDat : Kd → Bool
  | fn _ _ => false
  | pair a b => a.isDat && b.isDat
  | eith a b => a.isDat && b.isDat
  | lst a => a.isDat
  | _ => true
theorem dpStrs (K : PySem.W.Frag) (H : Hp) : ∀ xs : List Str, DpAll K H (xs.map V.str) (xs.map PyData.str)
  | [] => .nil
  | x :: xs => .cons (.str x) (dpStrs K H xs)
theorem layStrs : ∀ xs : List Str, (∀ x ∈ xs, Nm x) → PyData.canLayAll0 (xs.map PyData.str) = true ∧ PyData.depthAll (xs.map PyData.str) = 0
  | [], _ => ⟨by simp [PyData.canLayAll0], by simp [PyData.depthAll]⟩
  | x :: xs, h => by
    obtain ⟨a, b⟩ := layStrs xs fun y hy => h y (List.mem_cons_of_mem _ hy)
    have c := (h x List.mem_cons_self).ok
    exact ⟨by simp [PyData.canLayAll0, PyData.canLay0, a, c], by simp [PyData.depthAll, PyData.depth, b]⟩
theorem shStrs {xs : List Str} (h : ∀ x ∈ xs, Nm x) : SeqAt.shaped (.list (xs.map PyData.str)) = true := by
  obtain ⟨a, b⟩ := layStrs xs h
  simp [SeqAt.shaped, PyData.canLay0, PyData.depth, a, b]
theorem eqvNil (xs : List Str) : PyData.eqv (.list (xs.map PyData.str)) (.list []) = xs.isEmpty := by
  cases xs <;> simp [PyData.eqv, PyData.eqvAll]
structure Dta (g : Nat) (xs : List Str) (t : Kd) : Prop where
  da : t.isDat = true
  dp : t.dp ≤ g
  sz : t.size ≤ sb g
  op : ∀ x ∈ t.opens, x ∈ xs
abbrev tLData : Stmt := tp 12
abbrev psLData : List Str := ["_law_deck_here", "_law_opens", "_law_deep", "_law_small"]
abbrev nLData : List Str := ["_law_deck_here", "_law_opens", "_law_deep", "_law_small", "_law_way", "_law_first"]
namespace Kd
theorem size2 (a b : Kd) : (pair a b).size = a.size + b.size + 1 ∧ (eith a b).size = a.size + b.size + 1 ∧ (lst a).size = a.size + 1 := by
  refine ⟨?_, ?_, rfl⟩
  · show (a.nodes ++ b.nodes).length + 1 = _
    rw [List.length_append]
    rfl
  · show (a.nodes ++ b.nodes).length + 1 = _
    rw [List.length_append]
    rfl
end Kd
section
variable {P : Program} {w : World} {K : PySem.W.Frag} {mg : Str → Option Value} {base : Heap}
theorem noFn {f : Addr} {fd : FuncData} {ps : List Str} {sp : Sp} {k : Nat} (no : ∀ vs H Q E, ¬ sp vs H Q E) : FnOk P w K mg base CX0 k f fd ps sp :=
  ⟨fun vs H Q E h => absurd h (no vs H Q E), fun A outer s H args us vs Q E _ _ _ _ h => absurd h (no vs H Q E)⟩
theorem scLData : FnScope nLData psLData (defScope tLData) := ⟨rfl, rfl, rfl, by decide +kernel, rfl, by decide +kernel, by decide +kernel⟩
def spLData (n : Nat) : Sp := fun vs H Q _ => ∃ (d c o : Addr) (xs : List Str) (g : Nat) (b : Bool), vs = [.ref d, .ref o, .int (g : Int), .bl b] ∧ g + 1 ≤ n ∧ Dk H d c ∧ H o = some (.lst (xs.map V.str)) ∧ o ≠ d ∧ o ≠ c ∧ xs.length ≤ 26 ∧ (∀ x ∈ xs, Nm x) ∧
  ∀ (v : V) (t : Kd) (G : Hp), Kp d c H G → Dk G d c → Rp0 G t v → Dta g xs t → Q v G
theorem okLData1 {f fD fP : Addr} {fd fdD fdP : FuncData} {n : Nat} (F : Fun K "_law_data" "_law_data" tLData f fd) (bF : Binds K fd psLData []) (gF : mg "_law_data" = some (.ref f))
    (GD : FnOk P w K mg base CX0 (n + 2) fD fdD ["_law_deck_here", "_law_most"] spDraw) (bD : Binds K fdD ["_law_deck_here", "_law_most"] []) (gD : mg "_law_draw" = some (.ref fD)) (kD : PySem.W.keepIn K (.ref fD) = true)
    (GP : FnOk P w K mg base CX0 (n + 2) fP fdP psPick spPick) (bP : Binds K fdP psPick []) (gP : mg "_law_pick" = some (.ref fP)) (kP : PySem.W.keepIn K (.ref fP) = true) (mi : mg "int" = none)
    (GI : FnOk P w K mg base CX0 (n + 2) f fd psLData (spLData n)) : FnOk P w K mg base CX0 (n + 3) f fd psLData (spLData (n + 1)) := by
  refine F.ok scLData (fun vs H Q E h => ?_) (fun cdv A outer s H vs Q E hr h => ?_)
  · obtain ⟨d, c, o, xs, g, b, rfl, _⟩ := h
    rfl
  obtain ⟨d, c, o, xs, g, b, rfl, hg, dk, ho, od, oc, lx, hx, q⟩ := h
  refine ⟨_, pss_cons (ps_set (i := 4) scLData.nd rfl (.inl rfl) (pe_call GD hr (by rfl) gD kD bD .nil pass0 (pa_cons (pv 0) (pa_cons (pe_ix ix_list (pe_lst (pa_cons pe_int (pa_cons pe_int pa_nil))) (pe_callTy call_int1 (by rfl) mi (by decide +kernel) (pa_cons (pv 3) pa_nil)) (fun _ _ => rfl)) pa_nil))))
    (C8.pss_cut (ps_if (PW.pt (pw_and (pt_cmpR op_lt (pv 4) pe_int (nomark _)) (pw_and1 (pt_cmpR (op_neD hr.units) (pv 1) (pe_lst pa_nil) (nomark _)))))
      (pss_one (ps_ret (pe_tup (pa_cons pe_str (pa_cons (pe_call GP hr (by rfl) gP kP bP .nil pass0 (pa_cons (pv 0) (pa_cons (pv 1) pa_nil))) pa_nil))))) pss_nil)
    (pss_cons (ps_if (PW.pt (pw_or (pt_cmpR op_eq (pv 2) pe_int (nomark _)) (pw_or1 (pt_cmpR op_lt (pv 4) pe_int (nomark _)))))
      (pss_one (ps_ret (pe_call GP hr (by rfl) gP kP bP .nil pass0 (pa_cons (pv 0) (pa_cons (pe_lst (pa_cons (pe_tup (pa_cons pe_str pa_nil)) (pa_cons (pe_ix ix_list (pe_lst (pa_cons (pe_tup (pa_cons pe_str pa_nil)) (pa_cons (pe_tup (pa_cons pe_str pa_nil)) pa_nil))) (pe_callTy call_int1 (by rfl) mi (by decide +kernel) (pa_cons (pv 3) pa_nil)) (fun _ _ => rfl)) pa_nil))) pa_nil))))) pss_nil)
    (pss_cons (ps_if (pt_cmpR op_gt (pv 4) pe_int (nomark _))
      (pss_one (ps_ret (pe_tup (pa_cons pe_str (pa_cons (pe_call GI hr (by rfl) gF F.kp bF .nil pass0 (pa_cons (pv 0) (pa_cons (pv 1) (pa_cons (pe_op op_sub (pv 2) pe_int) (pa_cons (pv 3) pa_nil))))) pa_nil))))) pss_nil)
    (pss_cons (ps_set (i := 5) scLData.nd rfl (.inl rfl) (pe_call GI hr (by rfl) gF F.kp bF .nil pass0 (pa_cons (pv 0) (pa_cons (pv 1) (pa_cons (pe_op op_sub (pv 2) pe_int) (pa_cons (pv 3) pa_nil))))))
    (pss_one (ps_ret (pe_tup (pa_cons (pe_ix ix_list (pe_lst (pa_cons pe_str (pa_cons pe_str pa_nil))) (pe_op op_sub (pv 4) pe_int) (fun _ _ => rfl)) (pa_cons (pv 5) (pa_cons (pe_call GI hr (by rfl) gF F.kp bF .nil pass0 (pa_cons (pv 0) (pa_cons (pv 1) (pa_cons (pe_op op_sub (pv 2) pe_int) (pa_cons (pv 3) pa_nil))))) pa_nil)))))))))), ?_⟩
  obtain ⟨mm, em, mm0, mm1⟩ : ∃ mm : Int, atI [V.int 10, V.int 8] (if b then (1 : Int) else 0) = some (.int mm) ∧ 0 < mm ∧ mm < 1000 := by
    cases b
    · exact ⟨10, rfl, by decide, by decide⟩
    · exact ⟨8, rfl, by decide, by decide⟩
  refine ⟨_, rfl, (by show 2 ≤ sizeLine; decide), fun l0 nl0 => ⟨_, rfl, .inr ⟨b, rfl, l0, _, _, _, rfl, rfl, SqL.of upd_same, em, d, c, mm, rfl, dk.same (newS nl0), mm0, Int.lt_trans mm1 (by decide), fun way G1 w0 w1 kp1' dk1 => ?_⟩⟩⟩
  have kp1 : Kp d c H G1 := (Kp.of (newS nl0)).trans kp1'
  have ho1 := kp1 o _ od oc ho
  refine ⟨fun σ G => σ = [some (.ref d), some (.ref o), some (.int g), some (.bl b), some (.int way), none] ∧ Kp d c H G ∧ Dk G d c ∧ G o = some (.lst (xs.map V.str)), ?_, ?b2⟩
  refine ⟨_, rfl, _, _, rfl, rfl, _, rfl, ?_⟩
  refine ite2 (fun _ => ⟨_, rfl, Nat.zero_le _, fun e ne => ⟨.list (xs.map PyData.str), .list [], .lst (SqL.of (newS ne _ _ ho1)) (dpStrs K _ xs), .lst (SqL.of upd_same) .nil, shStrs hx, rfl, _, rfl, ite2 (fun c1 => ?b1) (fun _ => ⟨rfl, kp1.trans (Kp.of (newS ne)), dk1.same (newS ne), newS ne _ _ ho1⟩)⟩⟩) (fun _ => iteF ⟨rfl, kp1, dk1, ho1⟩)
  case b1 =>
    have ho2 := newS (o := .lst []) ne _ _ ho1
    have dk2 := dk1.same (newS (o := .lst []) ne)
    have kp2 : Kp d c H (upd G1 e (.lst [])) := kp1.trans (Kp.of (newS ne))
    rw [eqvNil] at c1
    have l0 : 0 < xs.length := by
      cases xs with
      | nil => cases c1
      | cons x r => exact Nat.succ_pos _
    refine ⟨_, rfl, _, rfl, d, c, o, _, rfl, dk2, ho2, od, oc, by rw [List.length_map]; omega, by rw [List.length_map]; omega, fun v G3 kp3 dk3 hv => ?_⟩
    obtain ⟨x, hxm, rfl⟩ := List.mem_map.mp hv
    refine ⟨(by show 2 ≤ sizeLine; decide), fun p np => ?_⟩
    refine q (.ref p) (.opn x) _ ((kp2.trans kp3).trans (Kp.of (newS np))) (dk3.same (newS np)) ⟨p, rfl, upd_same⟩ ⟨rfl, Nat.zero_le _, sb_pos g, fun y hy => ?_⟩
    rw [List.mem_singleton.mp hy]
    exact hxm
  case b2 =>
    rintro σ G ⟨rfl, kp, dkG, hoG⟩
    refine ⟨_, rfl, rfl, _, rfl, (fun h3 => ite2 (fun _ => iteT h3) (fun hdeep => ⟨_, rfl, _, _, rfl, rfl, _, rfl, ite2 (fun _ => h3) (fun hw6 => ?deep)⟩)) ?leaf⟩
    case leaf =>
      refine ⟨_, rfl, (by show 1 ≤ sizeLine; decide), fun p1 n1 => ⟨(by show 1 ≤ sizeLine; decide), fun p2 n2 => ⟨(by show 1 ≤ sizeLine; decide), fun p3 n3 => ⟨(by show 2 ≤ sizeLine; decide), fun l1 nl1 => ?_⟩⟩⟩⟩
      have s1 := newS (o := .tup [.str "truth"]) n1
      have s2 := newS (o := .tup [.str "num"]) n2
      have s3 := newS (o := .tup [.str "truth"]) n3
      have s4 := newS (o := .lst [V.ref p2, .ref p3]) nl1
      have s14 := s1.trans (s2.trans (s3.trans s4))
      have g1 := s4 _ _ (s3 _ _ (s2 p1 _ upd_same))
      have g2 := s4 _ _ (s3 p2 _ upd_same)
      have g3 := s4 p3 _ upd_same
      obtain ⟨v, ev, tv, rvv, dtv⟩ : ∃ v, atI [V.ref p2, V.ref p3] (if b then (1 : Int) else 0) = some v ∧ ∃ t, Rp0 (upd (upd (upd (upd G p1 (.tup [.str "truth"])) p2 (.tup [.str "num"])) p3 (.tup [.str "truth"])) l1 (.lst [V.ref p2, .ref p3])) t v ∧ (t = .num ∨ t = .tru) := by
        cases b
        · exact ⟨.ref p2, rfl, .num, ⟨p2, rfl, g2⟩, .inl rfl⟩
        · exact ⟨.ref p3, rfl, .tru, ⟨p3, rfl, g3⟩, .inr rfl⟩
      refine ⟨_, rfl, .inr ⟨b, rfl, l1, _, _, v, rfl, rfl, SqL.of upd_same, ev, (by show 2 ≤ sizeLine; decide), fun l2 nl2 => ?_⟩⟩
      have s5 := newS (o := .lst [V.ref p1, v]) nl2
      have off := (dkG.same s14).off nl2
      refine ⟨d, c, l2, _, rfl, dkG.same (s14.trans s5), upd_same, off.1, off.2, by show 1 ≤ 2; decide, by show 2 ≤ 100; decide, fun u G3 kp3 dk3 hu => ?_⟩
      have kpf := (kp.trans (Kp.of (s14.trans s5))).trans kp3
      have tk := (Tk.of s5).trans (Tk.kp kp3 (dkG.same (s14.trans s5)))
      rcases List.mem_cons.mp hu with e | hu
      · rw [e]
        exact q _ .tru _ kpf dk3 ⟨p1, rfl, tk _ _ g1⟩ ⟨rfl, Nat.zero_le _, sb_pos g, fun x z => (nomatch z)⟩
      · rw [List.mem_singleton.mp hu]
        rcases dtv with e | e
        · rw [e] at rvv
          exact q _ .num _ kpf dk3 (rvv.tk tk) ⟨rfl, Nat.zero_le _, sb_pos g, fun x z => (nomatch z)⟩
        · rw [e] at rvv
          exact q _ .tru _ kpf dk3 (rvv.tk tk) ⟨rfl, Nat.zero_le _, sb_pos g, fun x z => (nomatch z)⟩
    case deep =>
      obtain ⟨j, rfl⟩ : ∃ j, g = j + 1 := by
        cases g with
        | zero => exact absurd (decide_eq_true rfl) hdeep
        | succ j => exact ⟨j, rfl⟩
      have ej : ((j + 1 : Nat) : Int) - 1 = ((j : Nat) : Int) := by omega
      have eL : [V.ref d, V.ref o, V.int (((j + 1 : Nat) : Int) - 1), V.bl b] = [V.ref d, V.ref o, V.int ((j : Nat) : Int), V.bl b] := by rw [ej]
      have w6 : ¬ way < 6 := fun z => hw6 (decide_eq_true z)
      refine ⟨_, rfl, _, _, rfl, rfl, _, rfl, ite2 (fun _ => ?_) (fun hw7 => ?_)⟩
      · refine ⟨_, rfl, _, rfl, _, rfl, _, _, rfl, rfl, _, rfl, d, c, o, xs, j, b, eL, by omega, dkG, hoG, od, oc, lx, hx, fun va a G3 kp3 dk3 ra da => ?_⟩
        refine ⟨(by show 2 ≤ sizeLine; decide), fun p np => ?_⟩
        have s := newS (o := .tup [.str "list", va]) np
        refine q _ (.lst a) _ ((kp.trans kp3).trans (Kp.of s)) (dk3.same s) ⟨p, va, rfl, upd_same, ra.tk (Tk.of s)⟩ ⟨da.da, ?_, ?_, da.op⟩
        · have := da.dp
          show a.dp + 1 ≤ j + 1
          omega
        · have := da.sz
          rw [(Kd.size2 a a).2.2]
          show _ ≤ 2 * sb j + 1
          omega
      · have w7 : ¬ 7 < way := fun z => hw7 (decide_eq_true z)
        obtain ⟨wd, mk, ew, m0, m1, m2, m3, m4⟩ : ∃ (wd : Str) (mk : Kd → Kd → Kd), atI [V.str "pair", V.str "either"] (way - 6) = some (.str wd) ∧ (∀ a b F x y pp, F pp = some (.tup [.str wd, x, y]) → Rp0 F a x → Rp0 F b y → Rp0 F (mk a b) (.ref pp)) ∧
            (∀ a b, a.isDat = true → b.isDat = true → (mk a b).isDat = true) ∧ (∀ a b, (mk a b).dp = max a.dp b.dp + 1) ∧ (∀ a b, (mk a b).size = a.size + b.size + 1) ∧ (∀ a b, (mk a b).opens = a.opens ++ b.opens) := by
          have er : way = 6 ∨ way = 7 := by omega
          rcases er with rfl | rfl
          · exact ⟨"pair", .pair, rfl, fun a b F x y pp h1 h2 h3 => ⟨pp, x, y, rfl, h1, h2, h3⟩, fun _ _ h g => Bool.and_eq_true_iff.mpr ⟨h, g⟩, fun _ _ => rfl, fun a b => (Kd.size2 a b).1, fun _ _ => rfl⟩
          · exact ⟨"either", .eith, rfl, fun a b F x y pp h1 h2 h3 => ⟨pp, x, y, rfl, h1, h2, h3⟩, fun _ _ h g => Bool.and_eq_true_iff.mpr ⟨h, g⟩, fun _ _ => rfl, fun a b => (Kd.size2 a b).2.1, fun _ _ => rfl⟩
        refine ⟨_, rfl, _, rfl, _, rfl, _, _, rfl, rfl, _, rfl, d, c, o, xs, j, b, eL, by omega, dkG, hoG, od, oc, lx, hx, fun va a G3 kp3 dk3 ra da => ?_⟩
        refine ⟨(by show 2 ≤ sizeLine; decide), fun l nl => ⟨_, rfl, _, _, rfl, rfl, l, _, _, _, rfl, rfl, SqL.of upd_same, ew, ?_⟩⟩
        have sl := newS (o := .lst [V.str "pair", V.str "either"]) nl
        have ho3 := kp3 o _ od oc hoG
        refine ⟨_, rfl, _, rfl, _, rfl, _, rfl, _, _, rfl, rfl, _, rfl, d, c, o, xs, j, b, eL, by omega, dk3.same sl, sl _ _ ho3, od, oc, lx, hx, fun vb b' G4 kp4 dk4 rb db => ?_⟩
        refine ⟨(by show 3 ≤ sizeLine; decide), fun p np => ?_⟩
        have s := newS (o := .tup [.str wd, va, vb]) np
        refine q _ (mk a b') _ ((((kp.trans kp3).trans (Kp.of sl)).trans kp4).trans (Kp.of s)) (dk4.same s) (m0 a b' _ _ _ p upd_same (((ra.tk (Tk.of sl)).tk (Tk.kp kp4 (dk3.same sl))).tk (Tk.of s)) (rb.tk (Tk.of s))) ⟨m1 a b' da.da db.da, ?_, ?_, fun x hx' => ?_⟩
        · have := da.dp
          have := db.dp
          rw [m2]
          omega
        · have := da.sz
          have := db.sz
          rw [m3]
          show _ ≤ 2 * sb j + 1
          omega
        · rw [m4] at hx'
          rcases List.mem_append.mp hx' with z | z
          · exact da.op x z
          · exact db.op x z
theorem okLData {f fD fP : Addr} {fd fdD fdP : FuncData} (F : Fun K "_law_data" "_law_data" tLData f fd) (bF : Binds K fd psLData []) (gF : mg "_law_data" = some (.ref f))
    (FD : Fun K "_law_draw" "_law_draw" tDraw fD fdD) (bD : Binds K fdD ["_law_deck_here", "_law_most"] []) (gD : mg "_law_draw" = some (.ref fD)) (FP : Fun K "_law_pick" "_law_pick" tPick fP fdP) (bP : Binds K fdP psPick []) (gP : mg "_law_pick" = some (.ref fP)) (mi : mg "int" = none) (mn : mg "len" = none) :
    ∀ n, FnOk P w K mg base CX0 (n + 2) f fd psLData (spLData n)
  | 0 => noFn fun vs H Q E h => by
    obtain ⟨d, c, o, xs, g, b, _, hg, _⟩ := h
    omega
  | n + 1 => okLData1 F bF gF (okDraw FD) bD gD FD.kp (okPick FP (okDraw FD) bD gD FD.kp mn) bP gP FP.kp mi (okLData F bF gF FD bD gD FP bP gP mi mn n)
end
structure Bd (d z : Nat) (xs : List Str) (t : Kd) : Prop where
  dp : t.dp ≤ d
  sz : t.size ≤ z
  op : ∀ x ∈ t.opens, x ∈ xs
theorem Bd.fn {d z d' z' : Nat} {xs : List Str} {a b : Kd} (ha : Bd d' z' xs a) (hb : Bd d z xs b) (hd : d' ≤ d) : Bd (d + 1) (z + (z' + 1)) xs (.fn a b) := by
  refine ⟨?_, ?_, fun x hx => ?_⟩
  · have := ha.dp
    have := hb.dp
    show max a.dp b.dp + 1 ≤ _
    omega
  · have := ha.sz
    have := hb.sz
    rw [Kd.size_fn]
    omega
  · rcases List.mem_append.mp (show x ∈ a.opens ++ b.opens from hx) with z | z
    · exact ha.op x z
    · exact hb.op x z
end Kq

/-! a list comprehension whose element may call a def that raises: the error leaves the comprehension -/
namespace Kxc
open PySem PySem.Spec PyProof.Rows L2
theorem note_eq {e : Value} {env env' : Env} (h : env.frame = env'.frame) : noteFrame e env = noteFrame e env' := by
  unfold noteFrame PySem.frameOf
  rw [h]
theorem ffMove {base B2 h h' : Heap} : ∀ {l : List Env}, h.FunFrames base l → (∀ L ∈ frs l, ∀ o, h.get? L = some o → (∀ vs, o.data ≠ .fields vs) → h'.get? L = some o) → (∀ L ∈ frs l, B2.get? L = none) → h'.FunFrames B2 l
  | [], _, _, _ => trivial
  | env :: l, h0, k, hn => by
    obtain ⟨hk, ⟨L, o, hf, hb, ho, hd⟩, hr⟩ := h0
    have hm : L ∈ frs (env :: l) := List.mem_filterMap.mpr ⟨env, List.mem_cons_self, hf⟩
    refine ⟨hk, ⟨L, o, hf, hn L hm, k L hm o ho hd, hd⟩, ffMove hr (fun b hb => ?_) fun b hb => ?_⟩
    · obtain ⟨e, he, q⟩ := List.mem_filterMap.mp hb
      exact k b (List.mem_filterMap.mpr ⟨e, List.mem_cons_of_mem _ he, q⟩)
    · obtain ⟨e, he, q⟩ := List.mem_filterMap.mp hb
      exact hn b (List.mem_filterMap.mpr ⟨e, List.mem_cons_of_mem _ he, q⟩)
section
variable {X : Cx} {E : XK} {E₁ : Value → Shared → Prop} {ce ce' : Env} {C : Addr} {pins : List (Addr × Obj)} {σ : L2.St} {H : Hp} {s s' : Shared} {e : Value}
theorem out (hs : X.stack = X.env :: X.outer) (hf : X.env.frame = some X.env.locals) (tk : Takes X (fun cls d _ H => E cls d H)) (h1 : ce.frame = X.env.frame) (h2 : ce'.frame = X.env.frame)
    (I : Inv X pins σ H s) (hC : FpOk X pins H C) {m : Str → Option Value} (hns : s.heap.Ns C m) (c : CX X.prog X.w X.stack H s E e s') :
    wpAny (model X.prog X.w) X.A (noteFrame e ce) (fun _ s'' => ∃ m, s''.heap.Ns C m ∧ ∀ h', Heap.SameBut C s''.heap h' → wpAny (model X.prog X.w) X.A (PySem.passOn "comprehension.variables-let-go" e ce' : Sem Value) (fun _ _ => False) X.xe { s'' with heap := h' }) E₁ s' := by
  obtain ⟨a, B, H', cls, d, rfl, fl, hok, ub, na, os, ag, hE⟩ := c
  have hfr : X.A.frames = some (X.env :: X.outer) := by rw [I.ok.frames, hs]
  obtain ⟨c1, c2, c3, c4, c5, c6⟩ := hC
  have Cst : C ∉ frs X.stack := fun hm => (List.mem_cons.mp (I.stkSub C hm)).elim c2 c3
  rw [note_eq h1]
  have stk := hs
  have fl' : HandSPX.FlyingZ B (X.env :: X.outer) a (Zc cls d) s'.heap := by rw [← hs]; exact fl
  refine HandSPX.looks_onZ Zc.steady hfr hf fl' fun k1 hh up => ?_
  obtain ⟨oC, es, ep, hoC, hdC, kC, fC⟩ := hns
  have BC : B.get? C = some oC := ub.keep C oC hoC c1 Cst
  have HC : H' C = none := ub.free C oC hoC c1
  obtain ⟨st1, na1, ff1, oe, vs, T, oT, ts, he, hz, hd, h1v, hnT, hTe, hT, hdT, h3⟩ := hh
  refine ⟨m, ⟨oC, es, ep, st1 C oC BC, hdC, kC, fC⟩, fun h' sb => ?_⟩
  have aC : a ≠ C := fun z => by rw [z, BC] at na1; cases na1
  have TC : T ≠ C := fun z => by rw [z, BC] at hnT; cases hnT
  have he' : h'.get? a = some oe := (sb.2 a aC).trans he
  have hT' : h'.get? T = some oT := (sb.2 T TC).trans hT
  unfold PySem.passOn setFlight
  refine wpAny_bind (wpAny_field he' hd h1v ?_)
  rw [if_neg (show ¬ ((Value.ref T == Value.none) = true) by simp)]
  refine wpAny_bind (wpAny_bind (wpAny_field he' hd h1v ?_))
  rw [if_pos (show (Value.ref T != Value.none) = true by simp)]
  refine wpAny_setField hT' hdT (Array.getElem?_eq_some_iff.mp h3).1 (wpAny_throw (tk _ _ ?_))
  have ef : (ce'.frame.elim Value.none fun f => rawInt f) = rawInt X.env.locals := by rw [h2, hf]; rfl
  rw [ef]
  have hT2 := Heap.get?_update_self (Obj.mapFields (·.setIfInBounds 3 (rawInt X.env.locals))) hT' (Obj.isFreed_of_fields (Obj.data_mapFields hdT (·.setIfInBounds 3 (rawInt X.env.locals))))
  have dT2 := Obj.data_mapFields hdT (·.setIfInBounds 3 (rawInt X.env.locals))
  have other : ∀ b, b ≠ T → (h'.update T (Obj.mapFields (·.setIfInBounds 3 (rawInt X.env.locals)))).get? b = h'.get? b := fun b hb => Heap.get?_update_other _ _ (Ne.symm hb)
  generalize h'.update T (Obj.mapFields (·.setIfInBounds 3 (rawInt X.env.locals))) = k2 at hT2 other
  obtain ⟨B2, q1, q2⟩ := restrict B fun b => decide (b ≠ C)
  have b2 : ∀ b o, B.get? b = some o → b ≠ C → B2.get? b = some o := fun b o h n => by
    rw [q1 b (decide_eq_true n)]
    exact h
  have b2o : ∀ b o, B2.get? b = some o → B.get? b = some o ∧ b ≠ C := fun b o h => by
    by_cases n : b = C
    · rw [q2 b (by simp [n])] at h
      cases h
    · rw [q1 b (decide_eq_true n)] at h
      exact ⟨h, n⟩
  have b2n : ∀ b, B.get? b = none → B2.get? b = none := fun b h => by
    cases q : B2.get? b with
    | none => rfl
    | some o => rw [(b2o b o q).1] at h; cases h
  have to2 : ∀ b o, b ≠ T → b ≠ C → k1.get? b = some o → k2.get? b = some o := fun b o nT nC h => (other b nT).trans ((sb.2 b nC).trans h)
  have st2 : B2.StaysIn k2 := fun b o h => by
    obtain ⟨h, n⟩ := b2o b o h
    exact to2 b o (fun z => by rw [z, hnT] at h; cases h) n (st1 b o h)
  have fn : ∀ b ∈ frs X.stack, B.get? b = none := fun b hb => by
    rw [stk] at hb
    exact (ff1.mem hb).1
  have nTf : ∀ b o, k1.get? b = some o → (∀ vs, o.data ≠ .fields vs) → b ≠ T := fun b o h n z => by
    rw [z, hT] at h
    cases h
    exact n _ hdT
  have ff2 : k2.FunFrames B2 X.stack := by
    rw [stk]
    refine ffMove ff1 (fun L hL o h n => ?_) fun L hL => b2n L (fn L (by rw [stk]; exact hL))
    exact to2 L o (nTf L o h n) (fun z => Cst (by rw [stk, ← z]; exact hL)) h
  obtain ⟨G, g1, g2⟩ := restrict k2 fun b => (B2.get? b).isSome || decide (b ∈ frs X.stack)
  have gB : ∀ b o, B2.get? b = some o → G.get? b = some o := fun b o h => by
    rw [g1 b (by simp [h])]
    exact st2 b o h
  have gF : ∀ b, b ∈ frs X.stack → G.get? b = k2.get? b := fun b hb => g1 b (by simp [hb])
  have og : ∀ b o, G.get? b = some o → k2.get? b = some o ∧ ((B2.get? b).isSome = true ∨ b ∈ frs X.stack) := fun b o h => by
    cases q : ((B2.get? b).isSome || decide (b ∈ frs X.stack)) with
    | false => rw [g2 b q] at h; cases h
    | true =>
      rw [g1 b q] at h
      exact ⟨h, by simpa [Bool.or_eq_true] using q⟩
  have fslot : ∀ b o, s.heap.get? b = some o → b ∈ frs X.stack → ∃ sl, k2.get? b = some { o with slots := sl } := fun b o h hb => by
    obtain ⟨_, o₀, e₀, hnf⟩ := I.stack.mem hb
    rw [h] at e₀
    cases e₀
    obtain ⟨sl, w1⟩ := ub.slot b o h hb
    obtain ⟨sl2, w2⟩ := up b _ w1 hnf
    exact ⟨sl2, to2 b _ (nTf b _ w2 hnf) (fun z => Cst (by rw [← z]; exact hb)) w2⟩
  refine ⟨a, B2, { s with heap := G, gens := s'.gens, drawn := s'.drawn, toks := s'.toks }, pins, σ, H', cls, d, rfl, ?_, fun b o h hb => ?_, Heap.UpToSlots.of_keeps fun b o h => (og b o h).1,
    .inr (.inr ⟨st2, b2n a na1, ff2, oe, vs, T, _, _, (other a (Ne.symm hTe)).trans he', hz, hd, h1v, b2n T hnT, hTe, hT2, dT2, ?_⟩), na, os, ag, hE⟩
  · refine I.call (ch := [C]) ⟨fun b o h n hb hc => ?_, fun b o h n hb _ => ?_, fun b o h n _ => ub.free b o h n, fun b o h hc => ?_, ub.tups, ub.frzs, ub.tbls⟩ (fun b o q => ?_) ag fun b hb => ?_
    · exact gB b o (b2 b o (ub.keep b o h n hb) fun z => hc (by simp [z]))
    · obtain ⟨sl, q⟩ := fslot b o h hb
      exact ⟨sl, by rw [gF b hb]; exact q⟩
    · by_cases hb : b ∈ frs X.stack
      · obtain ⟨sl, q⟩ := fslot b o h hb
        exact ⟨_, by rw [gF b hb]; exact q⟩
      · obtain ⟨o', q⟩ := ub.there b o h hb
        exact ⟨o', gB b o' (b2 b o' q fun z => hc (by simp [z]))⟩
    · refine (hok b o q).stay (fun x u hx r => gB x u (b2 x u r fun z => ?_)) (fun _ r => r) fun _ _ r => r
      rcases hx with hx | hx
      · rw [← hx, z, HC] at q; cases q
      · rw [z, HC] at hx; cases hx
    · rw [List.mem_singleton.mp hb]
      exact ⟨c4, c2, c5, c6⟩
  · obtain ⟨w1, w2⟩ := og b o h
    rcases w2 with w2 | w2
    · obtain ⟨o', q⟩ := Option.isSome_iff_exists.mp w2
      have z := st2 b o' q
      rw [w1] at z
      cases z
      exact q
    · exact absurd w2 hb
  · have h3' := (Array.getElem?_eq_some_iff.mp h3).1
    simp [h3']
end
/-- what is asked behind the block -/
def post (M : Model) (A : Around) (Ex : Value → Shared → Prop) (Qv : Value → Shared → Prop) (acc : Value) (ce : Env) (C : Addr) : Result → Shared → Prop
  | .ok _, z => ∃ m, z.heap.Ns C m ∧ ∀ k, Heap.SameBut C z.heap k → Qv acc { z with heap := k }
  | .error x, z => ∃ m, z.heap.Ns C m ∧ ∀ k, Heap.SameBut C z.heap k → wpAny M A (PySem.passOn "comprehension.variables-let-go" x ce : Sem Value) (fun _ _ => False) Ex { z with heap := k }
section
variable {M : Model} {A : Around} {Ex : Value → Shared → Prop} {z : Shared} {env : Env}
theorem comp_x {ex : Expr} {sc : Scope} {ps : Pos} {mk it0 : Sem Value} {g0 : Comprehension} {gr : List Comprehension} {cl : List (Str × Addr)} {Qv : Value → Shared → Prop}
    (h1 : clausesOf ex = g0 :: gr) (h2 : ∀ x, foldedSetIterable g0.iter env x = pure x) (h3 : closureFor sc env = pure cl) (h4 : sc.kind = .function)
    (h5 : ∀ x ∈ sc.names, x.2 = .local → sc.names.lookup x.1 = some .local)
    (h6 : wpAny M A it0 (fun x z1 => wpAny M A (pyIter x) (fun it z2 => wpAny M A mk (fun acc z3 => wpAny M A (newFunctionEnv sc env.globals cl [] env.qual none .none (some env)) (fun ce z4 =>
        codeAny M A (.compStart ex 0 it acc { ce with scope := relabel sc env }) (post M A Ex Qv acc { ce with scope := relabel sc env } ce.locals) z4) Ex z3) Ex z2) Ex z1) Ex z) :
    wpAny M A (PySem.comprehension ex sc env ps mk false it0 none) Qv Ex z := by
  unfold PySem.comprehension
  rw [h3, h1]
  refine wpAny_bind (wpAny_mono h6 (fun x z1 k1 => wpAny_bind (wpAny_standAt (wpAny_bind (wpAny_of_eq (h2 x) (wpAny_bind (wpAny_holding (wpAny_mono k1 (fun it z2 k2 => ?_) fun _ _ w => w))))))) fun _ _ w => w)
  refine wpAny_standIf (wpAny_bind (wpAny_mono k2 (fun acc z3 k3 => wpAny_bind (wpAny_pure (wpAny_bind (wpAny_mono k3 (fun ce z4 k4 => ?_) fun _ _ w => w)))) fun _ _ w => w))
  dsimp only
  have hv : ∀ y ∈ (sc.names.filter fun x => (x.2 == .local || x.2 == .cell) && x.1 != (".0" : Str)).reverse, y.2 = .local → Env.kindOf { ce with scope := relabel sc env } y.1 = some .local := fun y hy hl =>
    lookup_relabel_local (h5 y (List.mem_filter.mp (List.mem_reverse.mp hy)).1 hl)
  refine wpAny_holding (wpAny_bind (wpAny_attempt (wpAny_holding (wpAny_run (codeAny_mono k4 fun r z5 hr => ?_)))))
  cases r with
  | ok fl =>
    obtain ⟨m, hn, hq⟩ := hr
    exact wpAny_bind (wpAny_holding (wpAny_comp_letGo (cenv := { ce with scope := relabel sc env }) h4 _ z5 m hv hn fun k _ _ sb => wpAny_pure (hq k sb)))
  | error x =>
    obtain ⟨m, hn, hq⟩ := hr
    exact wpAny_bind (wpAny_holding (wpAny_comp_letGo (cenv := { ce with scope := relabel sc env }) h4 _ z5 m hv hn fun k _ _ sb => wpAny_mono (hq k sb) (fun _ _ w => w.elim) fun _ _ w => w))
end
/-- the block's context: an error of a def that is called -/
abbrev blkX (X : Cx) (E : XK) (s : Shared) (H : Hp) (sc : Scope) (ce : Env) (fp : List Addr) : Cx :=
  { X.blk s H sc ce fp with xe := fun e s' => ∃ (pins : List (Addr × Obj)) (σ : L2.St) (H' : Hp) (s0 : Shared), Inv (X.blk s H sc ce fp) pins σ H' s0 ∧ CX X.prog X.w X.stack H' s0 E e s' }
section
variable {X : Cx} {E : XK} {s s0 : Shared} {H H' : Hp} {sc : Scope} {ce : Env} {fp : List Addr} {pins : List (Addr × Obj)} {σ : L2.St}
theorem okX (I : (X.blk s H sc ce fp).Ok) : (blkX X E s H sc ce fp).Ok :=
  ⟨I.mod, I.kind, I.glob, I.blt, I.above, I.inj, I.has, I.cab, I.hd, I.frames, I.stk, I.exf, I.bs, I.bsz, I.noex, I.exfs, I.funs, I.frf⟩
theorem okB (I : (blkX X E s H sc ce fp).Ok) : (X.blk s H sc ce fp).Ok :=
  ⟨I.mod, I.kind, I.glob, I.blt, I.above, I.inj, I.has, I.cab, I.hd, I.frames, I.stk, I.exf, I.bs, I.bsz, I.noex, I.exfs, I.funs, I.frf⟩
theorem toX (I : Inv (X.blk s H sc ce fp) pins σ H' s0) : Inv (blkX X E s H sc ce fp) pins σ H' s0 := ⟨okX I.ok, I.os, I.bare, I.base, I.loc, I.cell, I.free, I.freeC, I.pin, I.hok, I.len⟩
theorem ofX (I : Inv (blkX X E s H sc ce fp) pins σ H' s0) : Inv (X.blk s H sc ce fp) pins σ H' s0 := ⟨okB I.ok, I.os, I.bare, I.base, I.loc, I.cell, I.free, I.freeC, I.pin, I.hok, I.len⟩
theorem passX (σ : L2.St) : PassesAt (L2.CX X.prog X.w) (blkX X E s H sc ce fp) σ E := fun pins H' s0 _ _ I c => ⟨pins, σ, H', s0, ofX I, c⟩
end
section
variable {X : Cx} {E : XK}
theorem pe_lcX {elt tg iter : Expr} {ifs : List Expr} {scope : Scope} {own : List (Str × Nat)} {pos : Pos} {wi : L2.TI} {g : L2.TG} {tt : TT} {te : TE} (hs : X.stack = X.env :: X.outer) (hf : X.env.frame = some X.env.locals) (tk : Takes X (fun cls d _ H => E cls d H))
    (hc : X.calm = true) (hN : X.N.Nodup) (hi : PI X tg iter wi) (ok : BlkOk X.N X.env.scope scope own)
    (hg : ∀ (s0 : Shared) (H0 : Hp) (C0 : Addr) (cl : List (Str × Addr)) (fp : List Addr), PG (blkX X E s0 H0 scope (compEnvC scope cl C0 X.env) fp) tg g)
    (ht : ∀ (s0 : Shared) (H0 : Hp) (C0 : Addr) (cl : List (Str × Addr)) (fp : List Addr), PTs (blkX X E s0 H0 scope (compEnvC scope cl C0 X.env) fp) ifs tt)
    (he : ∀ (s0 : Shared) (H0 : Hp) (C0 : Addr) (cl : List (Str × Addr)) (fp : List Addr), PE (blkX X E s0 H0 scope (compEnvC scope cl C0 X.env) fp) elt te)
    (hfs : ∀ x, foldedSetIterable iter X.env x = pure x := by intro _; rfl) : PE X (.ListComp elt [⟨tg, iter, ifs, 0⟩] scope pos) (tLc wi g tt te (own.map (·.2))) := by
  refine ⟨fun pins s σ H Q I h => ?_⟩
  rw [eval_ListComp]
  have hfree : ∀ y ∈ scope.names, y.2 = .free → ∃ c, X.env.cells.lookup y.1 = some c := fun y hy e =>
    (ok.free y hy e).elim (fun k => I.ok.has _ (.inl k)) fun k => I.ok.has _ (.inr k)
  refine comp_x rfl hfs (closure_ok hfree) ok.kind (fun y hy e => by rw [ok.uniq y hy, e]) (thn (hi.run pins s σ H _ I h) fun xv s1 hx => thn hx fun itv s2 h2 => ?_)
  obtain ⟨it, fp, tn, J, H2, e, I2, T, st2, f2, q⟩ := h2
  subst e
  refine wpAny_newObj_type (newEnv_comp ?_) (by show 0 ≤ sizeLine; decide)
  generalize hD : s2.heap.objs.size = D
  have hDn : H2 D = none := I2.hok.fresh (Nat.le_of_eq hD)
  obtain ⟨W, ⟨m0, w0⟩, turn⟩ := q D hDn
  generalize hs3 : ({ s2 with heap := s2.heap.push { cls := .type "list", data := .seq ([] : List Value).toArray } } : Shared) = s3
  have h3 : s3.heap = s2.heap.push { cls := .type "list", data := .seq ([] : List Value).toArray } := by rw [← hs3]
  have I3 : Inv X pins σ (upd H2 D (.lst [])) s3 := by
    subst hs3
    exact I2.laid (t' := s2.toks) (fun _ _ e => Heap.get?_push_of_some _ e) (Nat.le_of_eq hD) ⟨Nat.zero_le _, [], 0, .nil, by rw [← hD]; exact Heap.get?_push_size _ rfl⟩
  have f3 : ∀ b ∈ fp, FpOk X pins (upd H2 D (.lst [])) b ∧ b < s3.heap.objs.size := fun b hb => by
    obtain ⟨o, e, _⟩ := T.obj _ _ st2 b hb
    have lt := Heap.lt_size e
    refine ⟨⟨?_, (f2 b hb).2⟩, by rw [h3, Heap.size_push]; exact Nat.lt_succ_of_lt lt⟩
    rw [upd_ne (by rw [← hD]; exact Nat.ne_of_lt lt)]
    exact (f2 b hb).1
  have st3 : tn 0 s3.heap := T.keep _ _ _ st2 fun b _ o e => by rw [h3]; exact Heap.get?_push_of_some _ e
  have nfp : ∀ b ∈ fp, (upd H2 D (.lst [])) b = none := fun b hb => (f3 b hb).1.1
  have I4 : Inv (blkX X E s3 (upd H2 D (.lst [])) scope _ fp) [] _ _ _ := toX (block_start I3 ok hN f3)
  have pg := hg s3 (upd H2 D (.lst [])) s3.heap.objs.size (cellsFrom (s3.heap.objs.size + 1) scope.names (cloFrom X.env.cells scope.names [])) fp
  have pt := ht s3 (upd H2 D (.lst [])) s3.heap.objs.size (cellsFrom (s3.heap.objs.size + 1) scope.names (cloFrom X.env.cells scope.names [])) fp
  have pe := he s3 (upd H2 D (.lst [])) s3.heap.objs.size (cellsFrom (s3.heap.objs.size + 1) scope.names (cloFrom X.env.cells scope.names [])) fp
  show codeAny _ _ (.compStart (.ListComp elt [⟨tg, iter, ifs, 0⟩] scope pos) 0 (.ref it) (.ref D) (compEnvC scope (cellsFrom (s3.heap.objs.size + 1) scope.names (cloFrom X.env.cells scope.names [])) s3.heap.objs.size X.env))
    (post (model X.prog X.w) X.A X.xe (EP X pins σ Q) (.ref D) (compEnvC scope (cellsFrom (s3.heap.objs.size + 1) scope.names (cloFrom X.env.cells scope.names [])) s3.heap.objs.size X.env) s3.heap.objs.size)
    { s3 with heap := pushCells (s3.heap.push { cls := .type "dict", data := .dict #[] }) scope.names }
  generalize hce : compEnvC scope (cellsFrom (s3.heap.objs.size + 1) scope.names (cloFrom X.env.cells scope.names [])) s3.heap.objs.size X.env = ce at I4 pg pt pe ⊢
  have cL : ce.locals = s3.heap.objs.size := by subst hce; rfl
  have cF : ce.frame = X.env.frame := by subst hce; rfl
  generalize hH3 : upd H2 D (.lst []) = H3 at I3 I4 pg pt pe w0 nfp f3
  generalize hs4 : ({ s3 with heap := pushCells (s3.heap.push { cls := .type "dict", data := .dict #[] }) scope.names } : Shared) = s4 at I4 ⊢
  have st4 : tn 0 s4.heap := T.keep _ _ _ st3 fun b _ o e => by subst hs4; exact pushCells_keeps _ _ _ _ (Heap.get?_push_of_some _ e)
  have stat : ∀ {σ1 : L2.St} {H1 : Hp} {z1 : Shared}, Inv (blkX X E s3 H3 scope ce fp) [] σ1 H1 z1 → (∀ b ∈ fp, H1 b = none) → ∀ b ∈ fp, FpOk (blkX X E s3 H3 scope ce fp) [] H1 b := fun {σ1 H1 z1} J1 hn b hb =>
    ⟨hn b hb, (J1.ok.exf b hb).1, J1.ok.exfs b hb, .inl hb, fun x c e => (J1.ok.exf b hb).2 x c e, fun p hp => absurd (show p ∈ ([] : List (Addr × Obj)) ++ [] from hp) (by simp)⟩
  -- back in the def's own context
  have back : ∀ {pn : List (Addr × Obj)} {σ1 : L2.St} {H1 : Hp} {z1 : Shared}, Inv (X.blk s3 H3 scope ce fp) pn σ1 H1 z1 → Inv X pins σ H1 z1 ∧ FpOk X pins H1 s3.heap.objs.size ∧ ∃ m, z1.heap.Ns s3.heap.objs.size m := fun {pn σ1 H1 z1} J1 => by
    have nC : H1 s3.heap.objs.size = none := by
      have z : H1 ce.locals = none := J1.free
      rwa [cL] at z
    obtain ⟨m, hn, _⟩ := J1.loc
    have hn : z1.heap.Ns ce.locals m := hn
    rw [cL] at hn
    refine ⟨I3.call' (ch := fp) J1.os J1.base J1.hok J1.bare fun b hb => ?_, I3.fpOk (Nat.le_refl _) nC, m, hn⟩
    obtain ⟨_, b1, _, b3, b4, b5⟩ := (f3 b hb).1
    exact ⟨b3, b1, b4, b5⟩
  have hE : ∀ (u : Value) (z1 : Shared), (blkX X E s3 H3 scope ce fp).xe u z1 → notedBy (model X.prog X.w) X.A ce (fun e z => post (model X.prog X.w) X.A X.xe (EP X pins σ Q) (.ref D) ce s3.heap.objs.size (.error e) z) u z1 := fun u z1 hx => by
    obtain ⟨pn, σ1, H1, z0, J1, c⟩ := hx
    obtain ⟨k1, k2, m, k3⟩ := back J1
    exact out hs hf tk cF cF k1 k2 k3 c
  have loop : codeAny (model X.prog X.w) X.A (.compLoop (.ListComp elt [⟨tg, iter, ifs, 0⟩] scope pos) 0 (.ref it) (.ref D) ce) (post (model X.prog X.w) X.A X.xe (EP X pins σ Q) (.ref D) ce s3.heap.objs.size) s4 := by
    refine compLoop_any (fun n z => ∃ i H1, Inv (blkX X E s3 H3 scope ce fp) [] (wipe σ (own.map (·.2))) H1 z ∧ tn i z.heap ∧ (∀ b ∈ fp, H1 b = none) ∧ W i n H1) ?_ m0 ⟨0, H3, I4, st4, nfp, w0⟩
    rintro n s5 ⟨i, H5, I5, st5, n5, w5⟩
    rcases turn i n H5 w5 with ⟨stop, qq⟩ | ⟨go, Nx, hNx, step⟩
    · refine thnF (T.done (blkX X E s3 H3 scope ce fp) rfl rfl rfl hc i [] s5 _ H5 (fun _ _ => False) I5 (stat I5 n5) st5 stop) fun r s6 ⟨hr, I6⟩ => ?_
      subst hr
      obtain ⟨I7, fC, m, hn⟩ := back (ofX I6)
      obtain ⟨a0, a1, a2, a3, a4, a5⟩ := fC
      exact ⟨m, hn, fun k sb => ⟨.ref D, H5, I7.turned (t' := s6.toks) (fun b o hb e => (sb.2 b hb).trans e) a0 a1 a3 a4 a5, rfl, qq⟩⟩
    · refine thnF (T.item (blkX X E s3 H3 scope ce fp) rfl rfl rfl hc i [] s5 _ H5 (fun _ _ => False) I5 (stat I5 n5) st5 go) fun r s6 ⟨u, hr, h6⟩ => ?_
      subst hr
      refine thnF h6 fun _ s7 ⟨x, H7, I7, r7, y7, st7, n7⟩ => ?_
      have I7' := I7.pinned (stat I7 n7) (T.obj _ _ st7)
      refine wpAny_mono (pg.run _ s7 _ H7 x u _ I7' r7 (step x H7 y7)) (fun _ s8 ⟨σ8, H8, I8, hw8, q8⟩ => ?_) hE
      refine wpAny_mono (pt.run _ s8 σ8 H8 _ I8 q8) (fun b s9 ⟨H9, I9, q9⟩ => ?_) hE
      have fin : ∀ {z : Shared} {H1 : Hp}, Inv (blkX X E s3 H3 scope ce fp) ([] ++ pinsAt fp s7.heap) σ8 H1 z → Nx H1 → ∃ k, k < n ∧ ∃ i H1, Inv (blkX X E s3 H3 scope ce fp) [] (wipe σ (own.map (·.2))) H1 z ∧ tn i z.heap ∧ (∀ b ∈ fp, H1 b = none) ∧ W i k H1 := fun {z H1} J1 nx => by
        obtain ⟨k, hk, w'⟩ := hNx H1 nx
        have pin' : ∀ b ∈ fp, ∀ o, s7.heap.get? b = some o → z.heap.get? b = some o ∧ H1 b = none := fun b hb o e => by
          have w := J1.pin (b, o) (List.mem_append_right _ (List.mem_append_right _ (mem_pinsAt hb e)))
          exact ⟨w.1, w.2.1⟩
        refine ⟨k, hk, i + 1, H1, (J1.unpinned (pins := [])).weak (by rw [← hw8, wipe_length]) (fun j v e => ?_), T.keep _ _ _ st7 fun b hb o e => (pin' b hb o e).1, fun b hb => ?_, w'⟩
        · rw [← hw8] at e
          exact (wipe_some e).1
        · obtain ⟨o, e, _⟩ := T.obj _ _ st7 b hb
          exact (pin' b hb o e).2
      cases b with
      | false =>
        rw [if_neg Bool.false_ne_true] at q9 ⊢
        exact fin I9 q9
      | true =>
        rw [if_pos rfl] at q9 ⊢
        refine wpAny_mono (pe.run _ s9 σ8 H9 _ I9 q9) (fun z s10 ⟨yv, H10, I10, r10, acc, hD10, hz10, nx⟩ => ?_) hE
        exact app_ok (X := blkX X E s3 H3 scope ce fp) I10 hD10 hz10 r10 fun s11 I11 => fin I11 nx
  exact codeAny_compStart_list loop (T.self X.A 0 _ _ _ st4 loop)
end
end Kxc

/-! kinds and worths as things, worths mapped -/
namespace Kq
open PySem PySem.Spec PyProof.Rows L2 Kf Kg Kv Kk
abbrev Non : Addr → Prop := fun _ => False
def Kd.dt : Kd → Dt
  | .opn x => .tup [.str "open", .str x]
  | .num => .tup [.str "num"]
  | .tru => .tup [.str "truth"]
  | .pair a b => .tup [.str "pair", a.dt, b.dt]
  | .eith a b => .tup [.str "either", a.dt, b.dt]
  | .lst a => .tup [.str "list", a.dt]
  | .fn a b => .tup [.str "fun", a.dt, b.dt]
theorem rp0_dd {H : Hp} : ∀ {k : Kd} {v : V}, Rp0 H k v → Dd Non H k.dt v := by
  intro k
  induction k with
  | opn x => intro v h; obtain ⟨a, rfl, e⟩ := h; exact .tup e (.cons (.str _) (.cons (.str _) .nil))
  | num => intro v h; obtain ⟨a, rfl, e⟩ := h; exact .tup e (.cons (.str _) .nil)
  | tru => intro v h; obtain ⟨a, rfl, e⟩ := h; exact .tup e (.cons (.str _) .nil)
  | pair a b i j => intro v h; obtain ⟨p, x, y, rfl, e, h1, h2⟩ := h; exact .tup e (.cons (.str _) (.cons (i h1) (.cons (j h2) .nil)))
  | eith a b i j => intro v h; obtain ⟨p, x, y, rfl, e, h1, h2⟩ := h; exact .tup e (.cons (.str _) (.cons (i h1) (.cons (j h2) .nil)))
  | lst a i => intro v h; obtain ⟨p, x, rfl, e, h1⟩ := h; exact .tup e (.cons (.str _) (.cons (i h1) .nil))
  | fn a b i j => intro v h; obtain ⟨p, x, y, rfl, e, h1, h2⟩ := h; exact .tup e (.cons (.str _) (.cons (i h1) (.cons (j h2) .nil)))
theorem Dd.of2 {N : Addr → Prop} {H : Hp} {x : Str} {a : Dt} {v : V} (h : Dd N H (.tup [.str x, a]) v) : ∃ p u, v = .ref p ∧ H p = some (.tup [.str x, u]) ∧ Dd N H a u := by
  cases h with
  | tup e t =>
  cases t with
  | cons t1 t =>
  cases t with
  | cons t2 t =>
  cases t
  cases t1
  exact ⟨_, _, rfl, e, t2⟩
theorem Dd.of3 {N : Addr → Prop} {H : Hp} {x : Str} {a b : Dt} {v : V} (h : Dd N H (.tup [.str x, a, b]) v) : ∃ p u u', v = .ref p ∧ H p = some (.tup [.str x, u, u']) ∧ Dd N H a u ∧ Dd N H b u' := by
  cases h with
  | tup e t =>
  cases t with
  | cons t1 t =>
  cases t with
  | cons t2 t =>
  cases t with
  | cons t3 t =>
  cases t
  cases t1
  exact ⟨_, _, _, rfl, e, t2, t3⟩
theorem Dd.of4 {N : Addr → Prop} {H : Hp} {x : Str} {a b c : Dt} {v : V} (h : Dd N H (.tup [.str x, a, b, c]) v) : ∃ p u u' u'', v = .ref p ∧ H p = some (.tup [.str x, u, u', u'']) ∧ Dd N H a u ∧ Dd N H b u' ∧ Dd N H c u'' := by
  cases h with
  | tup e t =>
  cases t with
  | cons t1 t =>
  cases t with
  | cons t2 t =>
  cases t with
  | cons t3 t =>
  cases t with
  | cons t4 t =>
  cases t
  cases t1
  exact ⟨_, _, _, _, rfl, e, t2, t3, t4⟩
theorem nm_fine {x : Str} (h : Nm x) (B : Nat) : (Dt.str x).fine B := by
  show ∀ c ∈ x.cps.toList, c < 16 ^ 8
  intro c hc
  have := (h.low c hc).2
  exact Nat.lt_trans this (by decide)
theorem wd_fine {x : Str} (h : (x.cps.toList.all fun c => decide (c < 16 ^ 8)) = true) (B : Nat) : (Dt.str x).fine B := by
  show ∀ c ∈ x.cps.toList, c < 16 ^ 8
  intro c hc
  exact of_decide_eq_true (List.all_eq_true.mp h c hc)
mutual
theorem dd_dp (K : PySem.W.Frag) {H : Hp} : ∀ {x : Dt} {v : V}, Dd Non H x v → Dp K H v x.toP
  | _, _, .non => .non
  | _, _, .bl b => .bl b
  | _, _, .int i => .int i
  | _, _, .str x => .str x
  | _, _, .tup h t => .tup (SqT.of h) (ddl_dp K t)
  | _, _, .lst n _ _ => (False.elim n)
  | _, _, .dct n _ => (False.elim n)
theorem ddl_dp (K : PySem.W.Frag) {H : Hp} : ∀ {xs : List Dt} {vs : List V}, DdL Non H xs vs → DpAll K H vs (Dt.toPs xs)
  | _, _, .nil => .nil
  | _, _, .cons a b => .cons (dd_dp K a) (ddl_dp K b)
end

/-- a thing; a worth of a data kind by sizes -/
def thgD (x : Str) (k : Nat) : Dt := .tup [.str "thing", .str x, .int (k : Nat)]
def Wt (sz : Str → Nat) : Kd → Dt → Prop
  | .opn x, d => ∃ k, k < sz x ∧ d = thgD x k
  | .num, d => ∃ n : Int, 0 ≤ n ∧ n < 10 ^ 10 ∧ d = .int n
  | .tru, d => ∃ b, d = .bl b
  | .pair a b, d => ∃ u v, d = .tup [.str "pair", u, v] ∧ Wt sz a u ∧ Wt sz b v
  | .eith a b, d => (∃ u, d = .tup [.str "left", u] ∧ Wt sz a u) ∨ ∃ u, d = .tup [.str "right", u] ∧ Wt sz b u
  | .lst a, d => ∃ us, d = .tup [.str "list", .tup us] ∧ us.length ≤ 12 ∧ ∀ u ∈ us, Wt sz a u
  | .fn _ _, _ => False
def mpL (g : Dt → Option Dt) : List Dt → Option (List Dt)
  | [] => some []
  | u :: us => (g u).bind fun u' => (mpL g us).map (u' :: ·)
/-- a worth mapped, where no fault comes -/
def mp (f : Str → Nat → Option Nat) : Kd → Dt → Option Dt
  | .opn _, .tup [_, .str x, .int k] => (f x k.toNat).map (thgD x)
  | .pair a b, .tup [w, u, v] => (mp f a u).bind fun u' => (mp f b v).map fun v' => .tup [w, u', v']
  | .eith a b, .tup [.str s, u] => if s = "left" then (mp f a u).map fun u' => .tup [.str s, u'] else (mp f b u).map fun u' => .tup [.str s, u']
  | .lst a, .tup [w, .tup us] => (mpL (mp f a) us).map fun us' => .tup [w, .tup us']
  | _, d => some d
theorem mpL_app (g : Dt → Option Dt) : ∀ us vs : List Dt, mpL g (us ++ vs) = (mpL g us).bind fun us' => (mpL g vs).map (us' ++ ·)
  | [], vs => by
    show mpL g vs = (mpL g vs).map ([] ++ ·)
    cases mpL g vs <;> rfl
  | u :: us, vs => by
    show (g u).bind (fun u' => (mpL g (us ++ vs)).map (u' :: ·)) = ((g u).bind fun u' => (mpL g us).map (u' :: ·)).bind _
    rw [mpL_app g us vs]
    cases g u with
    | none => rfl
    | some u' =>
      cases mpL g us with
      | none => rfl
      | some us' => cases mpL g vs <;> rfl
theorem mpL_len {g : Dt → Option Dt} : ∀ {us us' : List Dt}, mpL g us = some us' → us'.length = us.length
  | [], us', h => by cases h; rfl
  | u :: us, us', h => by
    simp only [mpL] at h
    cases e : g u with
    | none => rw [e] at h; cases h
    | some u' =>
      rw [e] at h
      cases e2 : mpL g us with
      | none => rw [e2] at h; cases h
      | some w =>
        rw [e2] at h
        cases h
        rw [List.length_cons, List.length_cons, mpL_len e2]
theorem mpL_mem {g : Dt → Option Dt} : ∀ {us us' : List Dt}, mpL g us = some us' → ∀ u' ∈ us', ∃ u ∈ us, g u = some u'
  | [], us', h, u', hu => by cases h; cases hu
  | u :: us, us', h, u', hu => by
    simp only [mpL] at h
    cases e : g u with
    | none => rw [e] at h; cases h
    | some w =>
      rw [e] at h
      cases e2 : mpL g us with
      | none => rw [e2] at h; cases h
      | some ws =>
        rw [e2] at h
        cases h
        rcases List.mem_cons.mp hu with rfl | hu
        · exact ⟨u, List.mem_cons_self, e⟩
        · obtain ⟨x, hx, ex⟩ := mpL_mem e2 u' hu
          exact ⟨x, List.mem_cons_of_mem _ hx, ex⟩
theorem mpL_none {g : Dt → Option Dt} : ∀ {us : List Dt}, mpL g us = none ↔ ∃ u ∈ us, g u = none
  | [] => ⟨(fun h => by cases h), (fun ⟨_, h, _⟩ => by cases h)⟩
  | u :: us => by
    simp only [mpL]
    cases e : g u with
    | none => exact ⟨fun _ => ⟨u, List.mem_cons_self, e⟩, fun _ => rfl⟩
    | some w =>
      have ih := mpL_none (g := g) (us := us)
      constructor
      · intro h
        cases e2 : mpL g us with
        | none =>
          obtain ⟨x, hx, ex⟩ := ih.mp e2
          exact ⟨x, List.mem_cons_of_mem _ hx, ex⟩
        | some ws => rw [e2] at h; cases h
      · rintro ⟨x, hx, ex⟩
        rcases List.mem_cons.mp hx with rfl | hx
        · rw [e] at ex; cases ex
        · rw [ih.mpr ⟨x, hx, ex⟩]; rfl
theorem mp_wt {sz : Str → Nat} {f : Str → Nat → Option Nat} (hf : ∀ x k j, k < sz x → f x k = some j → j < sz x) : ∀ {k : Kd} {d d' : Dt}, Wt sz k d → mp f k d = some d' → Wt sz k d'
  | .opn x, d, d', h, e => by
    obtain ⟨k, hk, rfl⟩ := h
    simp only [thgD, mp, Int.toNat_natCast] at e
    cases q : f x k with
    | none => rw [q] at e; cases e
    | some j =>
      rw [q] at e
      cases e
      exact ⟨j, hf x k j hk q, rfl⟩
  | .num, d, d', h, e => by
    obtain ⟨n, h0, h1, rfl⟩ := h
    simp only [mp] at e
    cases e
    exact ⟨n, h0, h1, rfl⟩
  | .tru, d, d', h, e => by
    obtain ⟨b, rfl⟩ := h
    simp only [mp] at e
    cases e
    exact ⟨b, rfl⟩
  | .pair a b, d, d', h, e => by
    obtain ⟨u, v, rfl, hu, hv⟩ := h
    simp only [mp] at e
    cases q : mp f a u with
    | none => rw [q] at e; cases e
    | some u' =>
      cases r : mp f b v with
      | none => rw [q, r] at e; cases e
      | some v' =>
        rw [q, r] at e
        cases e
        exact ⟨u', v', rfl, mp_wt hf hu q, mp_wt hf hv r⟩
  | .eith a b, d, d', h, e => by
    rcases h with ⟨u, rfl, hu⟩ | ⟨u, rfl, hu⟩
    · simp only [mp, if_true] at e
      cases q : mp f a u with
      | none => rw [q] at e; cases e
      | some u' =>
        rw [q] at e
        cases e
        exact .inl ⟨u', rfl, mp_wt hf hu q⟩
    · simp only [mp, if_neg (show ¬ (("right" : Str) = "left") by decide +kernel)] at e
      cases q : mp f b u with
      | none => rw [q] at e; cases e
      | some u' =>
        rw [q] at e
        cases e
        exact .inr ⟨u', rfl, mp_wt hf hu q⟩
  | .lst a, d, d', h, e => by
    obtain ⟨us, rfl, l12, hu⟩ := h
    simp only [mp] at e
    cases q : mpL (mp f a) us with
    | none => rw [q] at e; cases e
    | some us' =>
      rw [q] at e
      cases e
      refine ⟨us', rfl, by rw [mpL_len q]; exact l12, fun u' hu' => ?_⟩
      obtain ⟨u, hm, eu⟩ := mpL_mem q u' hu'
      exact mp_wt hf (hu u hm) eu
  | .fn _ _, _, _, h, _ => h.elim
theorem mp_id {sz : Str → Nat} {f : Str → Nat → Option Nat} (hf : ∀ x k, k < sz x → f x k = some k) : ∀ {k : Kd} {d : Dt}, Wt sz k d → mp f k d = some d
  | .opn x, d, h => by
    obtain ⟨k, hk, rfl⟩ := h
    simp only [thgD, mp, Int.toNat_natCast, hf x k hk, Option.map_some]
  | .num, d, h => by
    obtain ⟨n, _, _, rfl⟩ := h
    simp only [mp]
  | .tru, d, h => by
    obtain ⟨b, rfl⟩ := h
    simp only [mp]
  | .pair a b, d, h => by
    obtain ⟨u, v, rfl, hu, hv⟩ := h
    simp only [mp, mp_id hf hu, mp_id hf hv, Option.bind_some, Option.map_some]
  | .eith a b, d, h => by
    rcases h with ⟨u, rfl, hu⟩ | ⟨u, rfl, hu⟩
    · simp only [mp, if_true, mp_id hf hu, Option.map_some]
    · simp only [mp, if_neg (show ¬ (("right" : Str) = "left") by decide +kernel), mp_id hf hu, Option.map_some]
  | .lst a, d, h => by
    obtain ⟨us, rfl, l12, hu⟩ := h
    have : mpL (mp f a) us = some us := by
      clear l12
      induction us with
      | nil => rfl
      | cons u us ih => simp only [mpL, mp_id hf (hu u List.mem_cons_self), ih fun x hx => hu x (List.mem_cons_of_mem _ hx), Option.bind_some, Option.map_some]
    simp only [mp, this, Option.map_some]
  | .fn _ _, _, h => h.elim
def wB : Nat → Nat
  | 0 => 300
  | n + 1 => 12 * (wB n + 2) + 100
theorem wB_mono {a b : Nat} (h : a ≤ b) : wB a ≤ wB b := by
  induction h with
  | refl => exact Nat.le_refl _
  | step _ ih => exact Nat.le_trans ih (by show _ ≤ 12 * (_ + 2) + 100; omega)
theorem wB_300 (n : Nat) : 300 ≤ wB n := wB_mono (Nat.zero_le n)
theorem dps_le {n : Nat} : ∀ {xs : List Dt}, (∀ x ∈ xs, x.dp ≤ n) → Dt.dps xs ≤ n
  | [], _ => Nat.zero_le _
  | x :: xs, h => by
    have h1 := h x List.mem_cons_self
    have h2 := dps_le (n := n) fun y hy => h y (List.mem_cons_of_mem _ hy)
    show max x.dp (Dt.dps xs) ≤ n
    omega
theorem wts_le {n : Nat} : ∀ {xs : List Dt}, (∀ x ∈ xs, x.wt ≤ n) → Dt.wts xs ≤ xs.length * (n + 2)
  | [], _ => Nat.zero_le _
  | x :: xs, h => by
    have h1 := h x List.mem_cons_self
    have h2 := wts_le (n := n) fun y hy => h y (List.mem_cons_of_mem _ hy)
    show x.wt + 2 + Dt.wts xs ≤ (xs.length + 1) * (n + 2)
    rw [Nat.add_mul]
    omega
theorem fines_of {B : Nat} : ∀ {xs : List Dt}, (∀ x ∈ xs, x.fine B) → Dt.fines B xs
  | [], _ => trivial
  | x :: xs, h => ⟨h x List.mem_cons_self, fines_of fun y hy => h y (List.mem_cons_of_mem _ hy)⟩
theorem lays_of : ∀ {xs : List Dt}, (∀ x ∈ xs, x.toP.canLay0 = true) → PyData.canLayAll0 (Dt.toPs xs) = true
  | [], _ => by simp [Dt.toPs, PyData.canLayAll0]
  | x :: xs, h => by
    simp only [Dt.toPs, PyData.canLayAll0, h x List.mem_cons_self, lays_of fun y hy => h y (List.mem_cons_of_mem _ hy), Bool.and_self]
/-- what is asked of a thing that is shown and held against others -/
structure Ok1 (n W : Nat) (d : Dt) : Prop where
  fi : d.fine (10 ^ 45)
  la : d.toP.canLay0 = true
  dp : d.dp ≤ n
  wt : d.wt ≤ W
theorem Ok1.tup {n W m : Nat} {xs : List Dt} (h : ∀ x ∈ xs, Ok1 n W x) (hm : xs.length ≤ m) : Ok1 (n + 1) (m * (W + 2) + 3) (.tup xs) := by
  refine ⟨fines_of fun x hx => (h x hx).fi, lays_of fun x hx => (h x hx).la, Nat.succ_le_succ (dps_le fun x hx => (h x hx).dp), ?_⟩
  have h1 := wts_le (n := W) fun x hx => (h x hx).wt
  have h2 : xs.length * (W + 2) ≤ m * (W + 2) := Nat.mul_le_mul hm (Nat.le_refl _)
  show Dt.wts xs + 3 ≤ _
  omega
theorem Ok1.up {n W n' W' : Nat} {d : Dt} (h : Ok1 n W d) (hn : n ≤ n') (hW : W ≤ W') : Ok1 n' W' d := ⟨h.fi, h.la, Nat.le_trans h.dp hn, Nat.le_trans h.wt hW⟩
theorem Ok1.wd {x : Str} (h : (x.cps.toList.all fun c => decide (c < 16 ^ 8)) = true) (h2 : PyData.strOk x = true) (h3 : x.length ≤ 8) : Ok1 0 82 (.str x) :=
  ⟨wd_fine h _, h2, Nat.le_refl _, by show 10 * x.length + 2 ≤ 82; omega⟩
theorem Ok1.nm {x : Str} (h : Nm x) : Ok1 0 82 (.str x) := ⟨nm_fine h _, h.ok, Nat.le_refl _, by
  have : x.length ≤ 8 := h.few
  show 10 * x.length + 2 ≤ 82
  omega⟩
theorem Ok1.int {i : Int} (h : i.natAbs < 10 ^ 45) : Ok1 0 82 (.int i) := ⟨h, rfl, Nat.le_refl _, by show 52 ≤ 82; decide⟩
theorem Ok1.bl {b : Bool} : Ok1 0 82 (.bl b) := ⟨trivial, rfl, Nat.le_refl _, by show 5 ≤ 82; decide⟩
theorem Ok1.lay {n W : Nat} {d : Dt} (h : Ok1 n W d) (hn : n ≤ 64) : SeqAt.shaped d.toP = true := by
  have := (Dt.shw (B := 10 ^ 45) (Nat.le_refl _) d h.fi).2.1
  have h2 := h.dp
  unfold SeqAt.shaped
  rw [h.la, this, Bool.true_and]
  exact decide_eq_true (by omega)
theorem Ok1.eqv {n W : Nat} {d : Dt} (h : Ok1 n W d) : PyData.eqv d.toP d.toP = true := SeqAt.eqv_refl _ h.la
theorem Ok1.shw {n W : Nat} {d : Dt} (h : Ok1 n W d) (hW : W ≤ sizeLine) : Shw n d := Fine.shw (B := 10 ^ 45) (W := sizeLine) ⟨h.fi, h.dp, Nat.le_trans h.wt hW⟩ (Nat.le_refl _) (Nat.le_refl _)
theorem thg_ok {x : Str} {k : Nat} (hx : Nm x) (hk : k < 1000) : Ok1 1 (wB 0) (thgD x k) := by
  refine (Ok1.tup (n := 0) (W := 82) (m := 3) (fun y hy => ?_) (Nat.le_refl _)).up (Nat.le_refl _) ?_
  · rcases List.mem_cons.mp hy with rfl | hy
    · exact Ok1.wd (by decide +kernel) (by decide +kernel) (by decide)
    rcases List.mem_cons.mp hy with rfl | hy
    · exact Ok1.nm hx
    · rw [List.mem_singleton.mp hy]; exact Ok1.int (by rw [Int.natAbs_natCast]; omega)
  · show 3 * (82 + 2) + 3 ≤ 300
    decide
theorem wt_ok {sz : Str → Nat} (hs : ∀ x, sz x ≤ 12) : ∀ {k : Kd} {d : Dt}, (∀ x ∈ k.opens, Nm x) → Wt sz k d → Ok1 (2 * k.dp + 1) (wB k.dp) d
  | .opn x, d, hn, h => by
    obtain ⟨k, hk, rfl⟩ := h
    have := hs x
    exact thg_ok (hn x (List.mem_singleton.mpr rfl)) (by omega)
  | .num, d, _, h => by
    obtain ⟨n, h0, h1, rfl⟩ := h
    exact (Ok1.int (by omega)).up (Nat.zero_le _) (by decide)
  | .tru, d, _, h => by
    obtain ⟨b, rfl⟩ := h
    exact Ok1.bl.up (Nat.zero_le _) (by decide)
  | .pair a b, d, hn, h => by
    obtain ⟨u, v, rfl, hu, hv⟩ := h
    have h1 := wt_ok hs (fun x hx => hn x (List.mem_append_left _ hx)) hu
    have h2 := wt_ok hs (fun x hx => hn x (List.mem_append_right _ hx)) hv
    have m1 := wB_mono (Nat.le_max_left a.dp b.dp)
    have m2 := wB_mono (Nat.le_max_right a.dp b.dp)
    have m3 := wB_300 (max a.dp b.dp)
    refine (Ok1.tup (n := 2 * max a.dp b.dp + 1) (W := wB (max a.dp b.dp)) (m := 3) (fun y hy => ?_) (Nat.le_refl _)).up ?_ ?_
    · rcases List.mem_cons.mp hy with rfl | hy
      · exact (Ok1.wd (by decide +kernel) (by decide +kernel) (by decide)).up (Nat.zero_le _) (by omega)
      rcases List.mem_cons.mp hy with rfl | hy
      · exact h1.up (by omega) m1
      · rw [List.mem_singleton.mp hy]; exact h2.up (by omega) m2
    · show 2 * max a.dp b.dp + 1 + 1 ≤ 2 * (max a.dp b.dp + 1) + 1
      omega
    · show 3 * (wB (max a.dp b.dp) + 2) + 3 ≤ 12 * (wB (max a.dp b.dp) + 2) + 100
      omega
  | .eith a b, d, hn, h => by
    have m1 := wB_mono (Nat.le_max_left a.dp b.dp)
    have m2 := wB_mono (Nat.le_max_right a.dp b.dp)
    have m3 := wB_300 (max a.dp b.dp)
    have fin : ∀ (w : Str) (u : Dt), Ok1 0 82 (.str w) → Ok1 (2 * max a.dp b.dp + 1) (wB (max a.dp b.dp)) u → Ok1 (2 * (Kd.eith a b).dp + 1) (wB (Kd.eith a b).dp) (.tup [.str w, u]) := fun w u hw h1 => by
      refine (Ok1.tup (n := 2 * max a.dp b.dp + 1) (W := wB (max a.dp b.dp)) (m := 2) (fun y hy => ?_) (Nat.le_refl _)).up ?_ ?_
      · rcases List.mem_cons.mp hy with rfl | hy
        · exact hw.up (Nat.zero_le _) (by omega)
        · rw [List.mem_singleton.mp hy]; exact h1
      · show 2 * max a.dp b.dp + 1 + 1 ≤ 2 * (max a.dp b.dp + 1) + 1
        omega
      · show 2 * (wB (max a.dp b.dp) + 2) + 3 ≤ 12 * (wB (max a.dp b.dp) + 2) + 100
        omega
    rcases h with ⟨u, rfl, hu⟩ | ⟨u, rfl, hu⟩
    · exact fin _ u (Ok1.wd (by decide +kernel) (by decide +kernel) (by decide)) ((wt_ok hs (fun x hx => hn x (List.mem_append_left _ hx)) hu).up (by omega) m1)
    · exact fin _ u (Ok1.wd (by decide +kernel) (by decide +kernel) (by decide)) ((wt_ok hs (fun x hx => hn x (List.mem_append_right _ hx)) hu).up (by omega) m2)
  | .lst a, d, hn, h => by
    obtain ⟨us, rfl, l12, hu⟩ := h
    have m3 := wB_300 a.dp
    have h1 : Ok1 (2 * a.dp + 2) (12 * (wB a.dp + 2) + 3) (.tup us) := Ok1.tup (fun u hm => wt_ok hs hn (hu u hm)) l12
    have h0 : Ok1 0 82 (.str "list") := Ok1.wd (by decide +kernel) (by decide +kernel) (by decide)
    refine ⟨⟨h0.fi, h1.fi, trivial⟩, lays_of fun y hy => ?_, ?_, ?_⟩
    · rcases List.mem_cons.mp hy with rfl | hy
      · exact h0.la
      · rw [List.mem_singleton.mp hy]; exact h1.la
    · have := h1.dp
      show max 0 (max (Dt.tup us).dp 0) + 1 ≤ 2 * (a.dp + 1) + 1
      omega
    · have := h1.wt
      show (Dt.str "list").wt + 2 + ((Dt.tup us).wt + 2 + 0) + 3 ≤ 12 * (wB a.dp + 2) + 100
      have e : (Dt.str "list").wt = 42 := by decide +kernel
      omega
  | .fn _ _, _, _, h => h.elim
end Kq

/-! isinstance(e, T) and isinstance(e, (A, B, ..)) of an exception that is pinned -/
namespace Ke
open PySem PySem.Spec PyProof.Rows L2
theorem clsV_eq {c : V} {u v : Value} (h : ClsV c u) (r : RelV c v) : v = u := by
  cases h <;> exact r
theorem paired_eq : ∀ {cs : List V} {us its : List Value}, PySem.Paired ClsV cs us → Vals cs its → its = us
  | [], _, _, .nil, h => by cases h; rfl
  | _ :: _, _, _, .cons p ps, h => by
    cases h with
    | cons q qs => rw [clsV_eq p q, paired_eq ps qs]
def rIsET (K : PySem.W.Frag) (D a : Addr) : List V → Hp → VK → Prop := fun xs H Q => ∃ (tp : Addr) (cs : List V) (us : List Value) (b : Bool), xs = [.ref a, .ref tp] ∧ H tp = some (.tup cs) ∧ PySem.Paired ClsV cs us ∧ PySem.W.kitAny K (.ref D) us = some b ∧ Q (.bl b) H
theorem call_isET {X : Cx} {a D : Addr} {oe : Obj} (C : ExcC X.K D) (hm : (a, oe) ∈ X.pn) (hz : Zc (.ref D) none oe) (hf : ∃ vs, oe.data = .fields vs) : CallR X (.builtin "isinstance") (rIsET X.K D a) := by
  intro pins s σ H xs us Q hI hv hr
  obtain ⟨tp, cs, cu, b, rfl, ht, hp, hk, hQ⟩ := hr
  obtain ⟨vs, hf⟩ := hf
  have hg : s.heap.get? a = some oe := (hI.pin _ (List.mem_append_left _ hm)).1
  cases hv with
  | cons h1 h2 =>
    cases h2 with
    | cons h3 h4 =>
      cases h4
      cases h1
      cases h3
      obtain ⟨its, hvs, ⟨⟨cc, dd, dt, sl⟩, hT, rfl, n, rfl⟩, -⟩ := hI.tuple (show SqT X.K H tp cs from .inl (.inl ht))
      have := paired_eq hp hvs
      subst this
      refine PySem.W.kia_tup (PySem.W.handS_kitx_exc (ox := oe) C.hg C.hk C.hs C.hd C.ha C.hn C.ht C.hm) hI.kIn ?_ hT hk (fun h => by cases h) fun tk => ⟨.bl b, _, hI.tok tk, rfl, hQ⟩
      exact ⟨hg, hz.1, by unfold PySem.W.notCls; rw [hf], by rw [hz.2]; trivial⟩
def rIsE1 (K : PySem.W.Frag) (D a : Addr) : List V → Hp → VK → Prop := fun xs H Q => ∃ (c : V) (cv : Value) (b : Bool), xs = [.ref a, c] ∧ (∀ u, RelV c u → u = cv) ∧ PySem.W.kitOne K (.ref D) cv = some b ∧ Q (.bl b) H
theorem call_isE1 {X : Cx} {a D : Addr} {oe : Obj} (C : ExcC X.K D) (hm : (a, oe) ∈ X.pn) (hz : Zc (.ref D) none oe) (hf : ∃ vs, oe.data = .fields vs) : CallR X (.builtin "isinstance") (rIsE1 X.K D a) := by
  intro pins s σ H xs us Q hI hv hr
  obtain ⟨c, cv, b, rfl, ht, hk, hQ⟩ := hr
  obtain ⟨vs, hf⟩ := hf
  have hg : s.heap.get? a = some oe := (hI.pin _ (List.mem_append_left _ hm)).1
  cases hv with
  | cons h1 h2 =>
    cases h2 with
    | cons h3 h4 =>
      cases h4
      cases h1
      have := ht _ h3
      subst this
      refine PySem.W.kia_one (PySem.W.handS_kitx_exc (ox := oe) C.hg C.hk C.hs C.hd C.ha C.hn C.ht C.hm) hI.kIn ?_ hk (fun h => by cases h) fun tk => ⟨.bl b, _, hI.tok tk, rfl, hQ⟩
      exact ⟨hg, hz.1, by unfold PySem.W.notCls; rw [hf], by rw [hz.2]; trivial⟩
end Ke

/-! the same, the class told by the reading, the written part named -/
namespace Ke
open PySem PySem.Spec PyProof.Rows L2
theorem call_isETK {X : Cx} {a D : Addr} {oe : Obj} {cls : Value} {d : Option Addr} (K : PySem.W.Frag) (h : X.K = K) (C : ExcC K D) (hm : (a, oe) ∈ X.pn) (hz : Zc cls d oe) (hf : ∃ vs, oe.data = .fields vs) :
    CallR X (.builtin "isinstance") (fun xs H Q => cls = .ref D ∧ d = none ∧ rIsET K D a xs H Q) := by
  subst h
  intro pins s σ H xs us Q hI hv hr
  obtain ⟨rfl, rfl, hr⟩ := hr
  exact call_isET C hm hz hf pins s σ H xs us Q hI hv hr
theorem call_isE1K {X : Cx} {a D : Addr} {oe : Obj} {cls : Value} {d : Option Addr} (K : PySem.W.Frag) (h : X.K = K) (C : ExcC K D) (hm : (a, oe) ∈ X.pn) (hz : Zc cls d oe) (hf : ∃ vs, oe.data = .fields vs) :
    CallR X (.builtin "isinstance") (fun xs H Q => cls = .ref D ∧ d = none ∧ rIsE1 K D a xs H Q) := by
  subst h
  intro pins s σ H xs us Q hI hv hr
  obtain ⟨rfl, rfl, hr⟩ := hr
  exact call_isE1 C hm hz hf pins s σ H xs us Q hI hv hr
end Ke

/-! told_of, led_on, mapped -/
namespace Kq
open PySem PySem.Spec PyProof.Rows L2 Kf Kg Kv Kk
/-- the class of faults -/
structure FM (K : PySem.W.Frag) (mg : Str → Option Value) (cF oF : Addr) : Prop where
  gP : mg "Faulted" = some (.ref cF)
  xP : PySem.W.excIn K cF [.type "Exception", .type "BaseException", .type "object"] "Exception.__new__" = true
  kP : PySem.W.keepIn K (.ref cF) = true
  bP : PySem.W.subIn K (.ref cF) (.type "BaseException") = some true
  tP : PySem.W.typeIn K (.ref cF) = some (.type "type")
  eP : PySem.W.exmOne K (.ref cF) (.ref cF) = some true
  gF : mg "FAULT" = some (.ref oF)
  sF : ∀ H : Hp, SqT K H oF [.str "fault"]
def fltD : Dt := .tup [.str "fault"]
def tolD (x : Str) : Option Nat → Dt
  | none => fltD
  | some j => thgD x j
def rowsD (x : Str) (l : List (Option Nat)) : List Dt := l.zipIdx.map fun p => .tup [thgD x p.2, tolD x p.1]
def tblD (x : Str) (l : List (Option Nat)) : Dt := .tup [.str "table", .tup (rowsD x l)]
theorem rowsD_len (x : Str) (l : List (Option Nat)) : (rowsD x l).length = l.length := by simp [rowsD]
theorem rowsD_at {x : Str} {l : List (Option Nat)} {i : Nat} {d : Dt} (h : (rowsD x l)[i]? = some d) : ∃ o, l[i]? = some o ∧ d = .tup [thgD x i, tolD x o] := by
  unfold rowsD at h
  rw [List.getElem?_map, List.getElem?_zipIdx] at h
  cases e : l[i]? with
  | none => rw [e] at h; cases h
  | some o =>
    rw [e] at h
    have h := Option.some.inj h
    exact ⟨o, rfl, by rw [← h, Nat.zero_add]⟩
theorem thg_eqv (x : Str) (i k : Nat) : PyData.eqv (thgD x i).toP (thgD x k).toP = decide (i = k) := by
  simp only [thgD, Dt.toP, Dt.toPs, PyData.eqv, PyData.eqvAll, beq_self_eq_true, Bool.true_and, Bool.and_true]
  apply Bool.eq_iff_iff.mpr
  rw [beq_iff_eq, decide_eq_true_eq]
  omega
theorem tol_eqv (x : Str) : ∀ o : Option Nat, PyData.eqv (tolD x o).toP fltD.toP = o.isNone
  | none => rfl
  | some j => by
    simp only [tolD, thgD, fltD, Dt.toP, Dt.toPs, PyData.eqv, PyData.eqvAll, Bool.and_false, Option.isNone_some]
theorem tol_ok {x : Str} (hx : Nm x) {o : Option Nat} (h : ∀ j, o = some j → j < 1000) : Ok1 1 (wB 0) (tolD x o) := by
  cases o with
  | some j => exact thg_ok hx (h j rfl)
  | none =>
    refine (Ok1.tup (n := 0) (W := 82) (m := 1) (fun y hy => ?_) (Nat.le_refl _)).up (Nat.le_refl _) (by decide)
    rw [List.mem_singleton.mp hy]
    exact Ok1.wd (by decide +kernel) (by decide +kernel) (by decide)
/-- an object in a tuple of two -/
theorem Dd.of1 {N : Addr → Prop} {H : Hp} {a b : Dt} {v : V} (h : Dd N H (.tup [a, b]) v) : ∃ p u u', v = .ref p ∧ H p = some (.tup [u, u']) ∧ Dd N H a u ∧ Dd N H b u' := by
  cases h with
  | tup e t =>
  cases t with
  | cons t1 t =>
  cases t with
  | cons t2 t =>
  cases t
  exact ⟨_, _, _, rfl, e, t1, t2⟩
theorem Dd.ofT {N : Addr → Prop} {H : Hp} {ds : List Dt} {v : V} (h : Dd N H (.tup ds) v) : ∃ p us, v = .ref p ∧ H p = some (.tup us) ∧ DdL N H ds us := by
  cases h with
  | tup e t => exact ⟨_, _, rfl, e, t⟩
/-- a table of tables, by names -/
def Tbl (H : Hp) (dT : Addr) (xs : List Str) (ts : Str → List (Option Nat)) : Prop := ∃ kvs, H dT = some (.dK kvs) ∧ ∀ x ∈ xs, ∃ t, valV kvs (.inr x) = some t ∧ Dd Non H (tblD x (ts x)) t
theorem Tbl.same {H G : Hp} {dT : Addr} {xs : List Str} {ts : Str → List (Option Nat)} (h : Tbl H dT xs ts) (s : Same H G) : Tbl G dT xs ts := by
  obtain ⟨kvs, h1, h2⟩ := h
  exact ⟨kvs, s _ _ h1, fun x hx => let ⟨t, e, d⟩ := h2 x hx; ⟨t, e, d.same s⟩⟩
/-- the tables: how long, what they tell -/
structure TsOk (xs : List Str) (ts : Str → List (Option Nat)) : Prop where
  nm : ∀ x ∈ xs, Nm x
  l12 : ∀ x, (ts x).length ≤ 12
  lt : ∀ (x : Str) (k j : Nat), (ts x)[k]? = some (some j) → j < (ts x).length
def fT (ts : Str → List (Option Nat)) (x : Str) (k : Nat) : Option Nat := ((ts x)[k]?).join
section
variable {P : Program} {w : World} {K : PySem.W.Frag} {mg : Str → Option Value} {base : Heap} {cF oF : Addr}
def Okd (P : Program) (w : World) (K : PySem.W.Frag) (mg : Str → Option Value) (base : Heap) (CX : CXT) (k : Nat) (nm : Str) (ps : List Str) (sp : Sp) : Prop :=
  ∃ (f : Addr) (fd : FuncData), FnOk P w K mg base CX k f fd ps sp ∧ Binds K fd ps [] ∧ mg nm = some (.ref f) ∧ PySem.W.keepIn K (.ref f) = true
theorem Okd.up {CX : CXT} {j k : Nat} {nm : Str} {ps : List Str} {sp : Sp} (h : Okd P w K mg base CX j nm ps sp) (l : j ≤ k) : Okd P w K mg base CX k nm ps sp := by
  obtain ⟨f, fd, a, b, c, d⟩ := h
  exact ⟨f, fd, a.mono l, b, c, d⟩
abbrev tToldOf : Stmt := tp 6
abbrev nToldOf : List Str := ["tables", "thing", "asked", "told"]
abbrev psToldOf : List Str := ["tables", "thing"]
theorem scToldOf : FnScope nToldOf psToldOf (defScope tToldOf) := ⟨rfl, rfl, rfl, by decide +kernel, rfl, by decide +kernel, by decide +kernel⟩
def spToldOf (cF : Addr) : Sp := fun vs H Q E => ∃ (dT : Addr) (v : V) (x : Str) (k : Nat) (xs : List Str) (ts : Str → List (Option Nat)), vs = [.ref dT, v] ∧ Dd Non H (thgD x k) v ∧ x ∈ xs ∧ k < 1000 ∧ Tbl H dT xs ts ∧ TsOk xs ts ∧
  (∀ j, fT ts x k = some j → ∀ u, Dd Non H (thgD x j) u → Q u H) ∧ (fT ts x k = none → E (.ref cF) none H)
theorem okToldOf {f : Addr} {fd : FuncData} {k : Nat} (F : Fun K "told_of" "told_of" tToldOf f fd) (M : FM K mg cF oF) : FnOk P w K mg base (L2.CX P w) (k + 1) f fd psToldOf (spToldOf cF) := by
  refine F.okX scToldOf (fun vs H Q E h => ?_) (fun cdv A outer s H vs Q E hr h => ?_)
  · obtain ⟨dT, v, x, k, xs, ts, rfl, _⟩ := h
    rfl
  obtain ⟨dT, v, x, k, xs, ts, rfl, dv, hx, hk, tb, ok, q1, q2⟩ := h
  refine ⟨_, pss_cons (ps_if (pt_cmp (pc_din (hu_of hr) (pe_ix ix_tup (pv 1) pe_int (fun _ _ => rfl)) (pv 0))) (pss_one (ps_for (passes_of rfl) rfl (pi_tup (pe_ix ix_tup (pe_dget (hu_of hr) (pv 0) (pe_ix ix_tup (pv 1) pe_int (fun _ _ => rfl)) (fun _ _ => rfl)) pe_int (fun _ _ => rfl))) (pg_tup rfl (pgs_cons (pg_name (i := 2) scToldOf.nd rfl (.inl rfl)) (pgs_cons (pg_name (i := 3) scToldOf.nd rfl (.inl rfl)) pgs_nil)))
      (pss_one (ps_if (PW.pt (pw_and (pt_cmpR (op_eqD hr.units) (pv 2) (pv 1) (nomark _)) (pw_and1 (pt_cmpR (op_neD hr.units) (pv 3) (pe_glob (v := .ref oF) (by rfl) M.gF rfl) (nomark _))))) (pss_one (ps_ret (pv 3))) pss_nil)))) pss_nil)
    (pss_one (ps_raise rfl (takes_of rfl rfl rfl rfl) (SkE.pmk_own1 PySem.F.excBase_Exception M.xP M.gP M.kP (raises_own M.bP M.tP) rfl pe_str))), ?_⟩
  obtain ⟨p, u1, u2, rfl, hp, d1, d2⟩ := Dd.of3 (show Dd Non H (.tup [.str "thing", .str x, .int (k : Nat)]) v from dv)
  cases d1
  obtain ⟨kvs, hT, tb⟩ := tb
  obtain ⟨t, ev, dt⟩ := tb x hx
  refine ⟨_, rfl, p, _, _, _, rfl, rfl, SqT.of hp, atI_nat (j := 1) rfl, _, rfl, dT, _, rfl, DGet.k (k := Sum.inr x) hT, ?_⟩
  rw [ev]
  obtain ⟨tp, tv, rfl, htp, dr⟩ := Dd.of2 dt
  obtain ⟨rp, rs, rfl, hrp, drs⟩ := Dd.ofT dr
  have okx := ok.nm x hx
  refine ⟨_, rfl, iteT ?_⟩
  refine ⟨_, rfl, _, rfl, p, _, _, _, rfl, rfl, SqT.of hp, atI_nat (j := 1) rfl, _, _, rfl, ev ▸ DGet.k (k := Sum.inr x) hT, tp, _, _, _, rfl, rfl, SqT.of htp, atI_nat (j := 1) rfl, ?_⟩
  have lrs : rs.length = (ts x).length := by rw [← drs.len, rowsD_len]
  have l12 := ok.l12 x
  refine ⟨rp, rfl, ⟨_, SqT.of hrp⟩, for_tup (K := K) (a := rp) (xs := rs) (fun i σ G => G = H ∧ (∃ y2 y3, σ = [some (.ref dT), some (.ref p), y2, y3]) ∧ (k < i → fT ts x k = none)) ⟨rfl, ⟨_, _, rfl⟩, fun h => absurd h (Nat.not_lt_zero _)⟩ (fun i σ G _ z => by rw [z.1]; exact SqT.of hrp) (fun i r σ G hr' z => ?_) (fun σ G z => ?_)⟩
  · obtain ⟨rfl, ⟨y2, y3, rfl⟩, hlt⟩ := z
    obtain ⟨d, hd, dr'⟩ := drs.get hr'
    obtain ⟨o, ho, rfl⟩ := rowsD_at hd
    obtain ⟨rp', u, u', rfl, hrp', du, du'⟩ := Dd.of1 dr'
    have li := (List.getElem?_eq_some_iff.mp ho).1
    have oko : ∀ j, o = some j → j < 1000 := fun j e => by
      have := ok.lt x i j (by rw [ho, e])
      omega
    have k1 := thg_ok okx (k := i) (by omega)
    have k2 := thg_ok okx (k := k) hk
    have k3 := tol_ok okx oko
    refine ⟨rp', _, rfl, SqT.of hrp', rfl, _, _, rfl, _, _, rfl, rfl, ?_⟩
    refine ⟨_, rfl, _, rfl, (thgD x i).toP, (thgD x k).toP, dd_dp K du, dd_dp K dv, k1.lay (by decide), k2.lay (by decide), _, rfl, ?_⟩
    rw [thg_eqv]
    refine ite2 (fun e => ?_) (fun e => ?_)
    · have e := of_decide_eq_true e
      subst e
      refine ⟨_, rfl, (tolD x o).toP, fltD.toP, dd_dp K du', .tup (M.sF _) (.cons (.str _) .nil), k3.lay (by decide), by decide +kernel, _, rfl, ?_⟩
      rw [tol_eqv]
      cases o with
      | none => exact iteF ⟨rfl, ⟨_, _, rfl⟩, fun _ => by unfold fT; rw [ho]; rfl⟩
      | some j => exact iteT ⟨_, rfl, q1 j (by unfold fT; rw [ho]; rfl) _ du'⟩
    · have e := of_decide_eq_false (Bool.eq_false_iff.mpr e)
      exact iteF ⟨rfl, ⟨_, _, rfl⟩, fun h => hlt (by omega)⟩
  · obtain ⟨rfl, ⟨y2, y3, rfl⟩, hlt⟩ := z
    refine q2 ?_
    by_cases h : k < rs.length
    · exact hlt h
    · unfold fT
      rw [List.getElem?_eq_none (by omega)]
      rfl
end
end Kq

/-! led_on, mapped -/
namespace Kq
open PySem PySem.Spec PyProof.Rows L2 Kf Kg Kv Kk
theorem sPutS {H G : Hp} {p : Addr} {o : HO} (s : Same H G) (h : H p = none) : Same H (upd G p o) := fun b u e => by
  rw [upd_ne (ne_of_none e h)]
  exact s b u e
@[elab_as_elim] theorem objG {H : Hp} {p : Addr} {u : HO} {motive : Hp → Prop} (np : H p = none) (q : ∀ G, Same H G → G p = some u → motive G) : motive (upd H p u) := q _ (newS np) upd_same
theorem kxT {X : Cx} (K : PySem.W.Frag) (h : X.K = K) : IxR X (rIxT K) := by
  subst h
  exact ix_tup
theorem ddPut {H : Hp} {p : Addr} {xs ys : List V} (h : H p = some (.lst xs)) : Kn Non H (upd H p (.lst ys)) := Kn.rfl.put (fun z => z) fun zs z => by rw [h] at z; cases z
section
variable {P : Program} {w : World} {K : PySem.W.Frag} {mg : Str → Option Value} {base : Heap} {cF oF : Addr}
abbrev tLedOn : Stmt := tp 5
abbrev nLedOn : List Str := ["kind", "tables", "worth", "word", "side", "item"]
abbrev psLedOn : List Str := ["kind", "tables", "worth"]
theorem scLedOn : FnScope nLedOn psLedOn (defScope tLedOn) := ⟨rfl, rfl, rfl, by decide +kernel, rfl, by decide +kernel, by decide +kernel⟩
def spLedOn (cF : Addr) (n : Nat) : Sp := fun vs H Q E => ∃ (dT : Addr) (kv wv : V) (k : Kd) (d : Dt) (xs : List Str) (ts : Str → List (Option Nat)), vs = [kv, .ref dT, wv] ∧ Dd Non H k.dt kv ∧ Dd Non H d wv ∧ Wt (fun x => (ts x).length) k d ∧ k.dp + 1 ≤ n ∧ (∀ x ∈ k.opens, x ∈ xs) ∧ Tbl H dT xs ts ∧ TsOk xs ts ∧
  (∀ d', mp (fT ts) k d = some d' → ∀ u G, Same H G → Dd Non G d' u → Q u G) ∧ (mp (fT ts) k d = none → ∀ G, Same H G → E (.ref cF) none G)
theorem okLedOn1 {f : Addr} {fd : FuncData} {n k : Nat} (F : Fun K "led_on" "led_on" tLedOn f fd)
    (DX : Okd P w K mg base (L2.CX P w) (k) "led_on" ["kind", "tables", "worth"] (spLedOn cF n))
    (DZ : Okd P w K mg base (L2.CX P w) (k) "told_of" ["tables", "thing"] (spToldOf cF))
    (m_tuple : mg "tuple" = none) : FnOk P w K mg base (L2.CX P w) (k + 1) f fd psLedOn (spLedOn cF (n + 1)) := by
  obtain ⟨fX, fdX, GX, bX, gX, kX⟩ := DX
  obtain ⟨fZ, fdZ, GZ, bZ, gZ, kZ⟩ := DZ
  refine F.okX scLedOn (fun vs H Q E h => ?_) (fun cdv A outer s H vs Q E hr h => ?_)
  · obtain ⟨dT, kv, wv, k, d, xs, ts, rfl, _⟩ := h
    rfl
  obtain ⟨dT, kv, wv, k, d, xs, ts, rfl, dk, dw, wt, hn, hx, tb, ok, q1, q2⟩ := h
  refine ⟨_, pss_cons (ps_set (i := 3) scLedOn.nd rfl (.inl rfl) (pe_ix ix_tup (pv 0) pe_int (fun _ _ => rfl)))
    (pss_cons (ps_if (pt_cmpR op_eq (pv 3) pe_str (nomark _)) (pss_one (ps_ret (pe_callS GZ hr (by rfl) gZ kZ bZ (fun σ => passAt (takes_of rfl rfl rfl rfl) σ) (pa_cons (pv 1) (pa_cons (pv 2) pa_nil))))) pss_nil)
    (pss_cons (ps_if (pt_cmpR op_eq (pv 3) pe_str (nomark _)) (pss_one (ps_ret (pe_tup (pa_cons pe_str (pa_cons (pe_callS GX hr (by rfl) gX kX bX (fun σ => passAt (takes_of rfl rfl rfl rfl) σ) (pa_cons (pe_ix ix_tup (pv 0) pe_int (fun _ _ => rfl)) (pa_cons (pv 1) (pa_cons (pe_ix ix_tup (pv 2) pe_int (fun _ _ => rfl)) pa_nil)))) (pa_cons (pe_callS GX hr (by rfl) gX kX bX (fun σ => passAt (takes_of rfl rfl rfl rfl) σ) (pa_cons (pe_ix ix_tup (pv 0) pe_int (fun _ _ => rfl)) (pa_cons (pv 1) (pa_cons (pe_ix ix_tup (pv 2) pe_int (fun _ _ => rfl)) pa_nil)))) pa_nil)))))) pss_nil)
    (pss_cons (ps_if (pt_cmpR op_eq (pv 3) pe_str (nomark _)) (pss_cons (ps_set (i := 4) scLedOn.nd rfl (.inl rfl) (pe_ifExp (pt_cmpR op_eq (pe_ix ix_tup (pv 2) pe_int (fun _ _ => rfl)) pe_str (nomark _)) (pe_ix ix_tup (pv 0) pe_int (fun _ _ => rfl)) (pe_ix ix_tup (pv 0) pe_int (fun _ _ => rfl))))
    (pss_one (ps_ret (pe_tup (pa_cons (pe_ix ix_tup (pv 2) pe_int (fun _ _ => rfl)) (pa_cons (pe_callS GX hr (by rfl) gX kX bX (fun σ => passAt (takes_of rfl rfl rfl rfl) σ) (pa_cons (pv 4) (pa_cons (pv 1) (pa_cons (pe_ix ix_tup (pv 2) pe_int (fun _ _ => rfl)) pa_nil)))) pa_nil)))))) pss_nil)
    (pss_cons (ps_if (pt_cmpR op_eq (pv 3) pe_str (nomark _)) (pss_one (ps_ret (pe_tup (pa_cons pe_str (pa_cons (pe_callTy call_tuple_of (by rfl) m_tuple PyProof.Rows.boot_tuple (pa_cons (Kxc.pe_lcX (own := [("item", 5)]) (g := gName 5) rfl rfl (takes_of rfl rfl rfl rfl) (by rfl) scLedOn.nd (pi_tup (pe_ix ix_tup (pv 2) pe_int (fun _ _ => rfl))) (blkOk_by (own := [("item", 5)]) (N := nLedOn) (sc := defScope tLedOn) (by decide +kernel)) (fun _ _ _ _ _ => pg_name (i := 5) scLedOn.nd rfl (.inl rfl)) (fun _ _ _ _ _ => pts_nil) (fun _ _ _ _ _ => pe_callS GX hr (by rfl) gX kX bX (fun σ => Kxc.passX σ) (pa_cons (pe_ix (kxT K rfl) (pv 0) pe_int (fun _ _ => rfl)) (pa_cons (pv 1) (pa_cons (pv 5) pa_nil))))) pa_nil)) pa_nil))))) pss_nil)
    (pss_one (ps_ret (pv 2))))))), ?_⟩
  cases k with
  | opn x =>
    obtain ⟨kp, ku, rfl, hkp, dku⟩ := Dd.of2 (show Dd Non H (.tup [.str "open", .str x]) kv from dk)
    refine ⟨_, rfl, kp, _, _, _, rfl, rfl, SqT.of hkp, atI_nat (j := 0) rfl, ?_⟩
    refine ⟨_, rfl, rfl, _, rfl, ite2 (fun _ => ?_) fun c => absurd (by decide +kernel) c⟩
    obtain ⟨j, hj, rfl⟩ := wt
    have l12 := ok.l12 x
    refine ⟨_, rfl, _, rfl, dT, wv, x, j, xs, ts, rfl, dw, hx x (List.mem_singleton.mpr rfl), by have hj : j < (ts x).length := hj; omega, tb, ok, fun i e u du => q1 _ ?_ u H (Same.refl _) du, fun e => q2 ?_ H (Same.refl _)⟩
    · simp only [thgD, mp, Int.toNat_natCast, e, Option.map_some]
    · simp only [thgD, mp, Int.toNat_natCast, e, Option.map_none]
  | num =>
    obtain ⟨kp, _, rfl, hkp, dku⟩ := Dd.ofT (show Dd Non H (.tup [.str "num"]) kv from dk)
    cases dku with
    | cons d1 _ =>
    cases d1
    obtain ⟨n, h0, h1, rfl⟩ := wt
    refine ⟨_, rfl, kp, _, _, _, rfl, rfl, SqT.of hkp, atI_nat (j := 0) rfl, ?_⟩
    refine ⟨_, rfl, rfl, _, rfl, ite2 (fun c => absurd c (by decide +kernel)) fun _ => ?_⟩
    refine ⟨_, rfl, rfl, _, rfl, ite2 (fun c => absurd c (by decide +kernel)) fun _ => ?_⟩
    refine ⟨_, rfl, rfl, _, rfl, ite2 (fun c => absurd c (by decide +kernel)) fun _ => ?_⟩
    refine ⟨_, rfl, rfl, _, rfl, ite2 (fun c => absurd c (by decide +kernel)) fun _ => ?_⟩
    exact ⟨_, rfl, q1 _ (by simp only [mp]) wv H (Same.refl _) dw⟩
  | tru =>
    obtain ⟨kp, _, rfl, hkp, dku⟩ := Dd.ofT (show Dd Non H (.tup [.str "truth"]) kv from dk)
    cases dku with
    | cons d1 _ =>
    cases d1
    obtain ⟨b, rfl⟩ := wt
    refine ⟨_, rfl, kp, _, _, _, rfl, rfl, SqT.of hkp, atI_nat (j := 0) rfl, ?_⟩
    refine ⟨_, rfl, rfl, _, rfl, ite2 (fun c => absurd c (by decide +kernel)) fun _ => ?_⟩
    refine ⟨_, rfl, rfl, _, rfl, ite2 (fun c => absurd c (by decide +kernel)) fun _ => ?_⟩
    refine ⟨_, rfl, rfl, _, rfl, ite2 (fun c => absurd c (by decide +kernel)) fun _ => ?_⟩
    refine ⟨_, rfl, rfl, _, rfl, ite2 (fun c => absurd c (by decide +kernel)) fun _ => ?_⟩
    exact ⟨_, rfl, q1 _ (by simp only [mp]) wv H (Same.refl _) dw⟩
  | pair a b =>
    obtain ⟨kp, ka, kb, rfl, hkp, dka, dkb⟩ := Dd.of3 (show Dd Non H (.tup [.str "pair", a.dt, b.dt]) kv from dk)
    refine ⟨_, rfl, kp, _, _, _, rfl, rfl, SqT.of hkp, atI_nat (j := 0) rfl, ?_⟩
    refine ⟨_, rfl, rfl, _, rfl, ite2 (fun c => absurd c (by decide +kernel)) fun _ => ?_⟩
    refine ⟨_, rfl, rfl, _, rfl, ite2 (fun _ => ?_) fun c => absurd (by decide +kernel) c⟩
    obtain ⟨u, v, rfl, hu, hv⟩ := wt
    obtain ⟨wp, wu, wv2, rfl, hwp, du, dv⟩ := Dd.of3 dw
    have hd1 : a.dp + 1 ≤ n := by have : max a.dp b.dp + 1 + 1 ≤ n + 1 := hn; omega
    have hd2 : b.dp + 1 ≤ n := by have : max a.dp b.dp + 1 + 1 ≤ n + 1 := hn; omega
    refine ⟨_, rfl, kp, _, _, _, rfl, rfl, SqT.of hkp, atI_nat (j := 1) rfl, _, rfl, _, rfl, wp, _, _, _, rfl, rfl, SqT.of hwp, atI_nat (j := 1) rfl, dT, ka, wu, a, u, xs, ts, rfl, dka, du, hu, hd1, fun x h => hx x (List.mem_append_left _ h), tb, ok, fun u' e1 u1 G1 s1 d1 => ?_, fun e1 G1 s1 => q2 ?_ G1 s1⟩
    · have hkp := s1 _ _ hkp
      have hwp := s1 _ _ hwp
      refine ⟨_, rfl, kp, _, _, _, rfl, rfl, SqT.of hkp, atI_nat (j := 2) rfl, _, rfl, _, rfl, wp, _, _, _, rfl, rfl, SqT.of hwp, atI_nat (j := 2) rfl, dT, kb, wv2, b, v, xs, ts, rfl, dkb.same s1, dv.same s1, hv, hd2, fun x h => hx x (List.mem_append_right _ h), tb.same s1, ok, fun v' e2 u2 G2 s2 d2 => ?_, fun e2 G2 s2 => q2 ?_ G2 (s1.trans s2)⟩
      · refine ⟨(by show 3 ≤ sizeLine; decide), fun p np => objG np fun G3 s3 g3 => q1 _ ?_ _ G3 ((s1.trans s2).trans s3) (.tup g3 (.cons (.str _) (.cons ((d1.same s2).same s3) (.cons (d2.same s3) .nil))))⟩
        simp only [mp, e1, e2, Option.bind_some, Option.map_some]
      · simp only [mp, e1, e2, Option.bind_some, Option.map_none]
    · simp only [mp, e1, Option.bind_none]
  | eith a b =>
    obtain ⟨kp, ka, kb, rfl, hkp, dka, dkb⟩ := Dd.of3 (show Dd Non H (.tup [.str "either", a.dt, b.dt]) kv from dk)
    refine ⟨_, rfl, kp, _, _, _, rfl, rfl, SqT.of hkp, atI_nat (j := 0) rfl, ?_⟩
    refine ⟨_, rfl, rfl, _, rfl, ite2 (fun c => absurd c (by decide +kernel)) fun _ => ?_⟩
    refine ⟨_, rfl, rfl, _, rfl, ite2 (fun c => absurd c (by decide +kernel)) fun _ => ?_⟩
    refine ⟨_, rfl, rfl, _, rfl, ite2 (fun _ => ?_) fun c => absurd (by decide +kernel) c⟩
    have hd1 : a.dp + 1 ≤ n := by have : max a.dp b.dp + 1 + 1 ≤ n + 1 := hn; omega
    have hd2 : b.dp + 1 ≤ n := by have : max a.dp b.dp + 1 + 1 ≤ n + 1 := hn; omega
    rcases wt with ⟨u, rfl, hu⟩ | ⟨u, rfl, hu⟩
    · obtain ⟨wp, wu, rfl, hwp, du⟩ := Dd.of2 dw
      refine ⟨_, rfl, wp, _, _, _, rfl, rfl, SqT.of hwp, atI_nat (j := 0) rfl, rfl, _, rfl, ite2 (fun _ => ?_) fun c => absurd (by decide +kernel) c⟩
      refine ⟨_, rfl, kp, _, _, _, rfl, rfl, SqT.of hkp, atI_nat (j := 1) rfl, _, rfl, wp, _, _, _, rfl, rfl, SqT.of hwp, atI_nat (j := 0) rfl, _, rfl, _, rfl, _, rfl, wp, _, _, _, rfl, rfl, SqT.of hwp, atI_nat (j := 1) rfl, dT, ka, wu, a, u, xs, ts, rfl, dka, du, hu, hd1, fun x h => hx x (List.mem_append_left _ h), tb, ok, fun u' e1 u1 G1 s1 d1 => ?_, fun e1 G1 s1 => q2 ?_ G1 s1⟩
      · refine ⟨(by show 2 ≤ sizeLine; decide), fun p np => objG np fun G3 s3 g3 => q1 _ ?_ _ G3 (s1.trans s3) (.tup g3 (.cons (.str _) (.cons (d1.same s3) .nil)))⟩
        simp only [mp, if_true, e1, Option.map_some]
      · simp only [mp, if_true, e1, Option.map_none]
    · obtain ⟨wp, wu, rfl, hwp, du⟩ := Dd.of2 dw
      have nl : ¬ (("right" : Str) = "left") := by decide +kernel
      refine ⟨_, rfl, wp, _, _, _, rfl, rfl, SqT.of hwp, atI_nat (j := 0) rfl, rfl, _, rfl, ite2 (fun c => absurd c (by decide +kernel)) fun _ => ?_⟩
      refine ⟨_, rfl, kp, _, _, _, rfl, rfl, SqT.of hkp, atI_nat (j := 2) rfl, _, rfl, wp, _, _, _, rfl, rfl, SqT.of hwp, atI_nat (j := 0) rfl, _, rfl, _, rfl, _, rfl, wp, _, _, _, rfl, rfl, SqT.of hwp, atI_nat (j := 1) rfl, dT, kb, wu, b, u, xs, ts, rfl, dkb, du, hu, hd2, fun x h => hx x (List.mem_append_right _ h), tb, ok, fun u' e1 u1 G1 s1 d1 => ?_, fun e1 G1 s1 => q2 ?_ G1 s1⟩
      · refine ⟨(by show 2 ≤ sizeLine; decide), fun p np => objG np fun G3 s3 g3 => q1 _ ?_ _ G3 (s1.trans s3) (.tup g3 (.cons (.str _) (.cons (d1.same s3) .nil)))⟩
        simp only [mp, if_neg nl, e1, Option.map_some]
      · simp only [mp, if_neg nl, e1, Option.map_none]
  | lst a =>
    obtain ⟨kp, ka, rfl, hkp, dka⟩ := Dd.of2 (show Dd Non H (.tup [.str "list", a.dt]) kv from dk)
    refine ⟨_, rfl, kp, _, _, _, rfl, rfl, SqT.of hkp, atI_nat (j := 0) rfl, ?_⟩
    refine ⟨_, rfl, rfl, _, rfl, ite2 (fun c => absurd c (by decide +kernel)) fun _ => ?_⟩
    refine ⟨_, rfl, rfl, _, rfl, ite2 (fun c => absurd c (by decide +kernel)) fun _ => ?_⟩
    refine ⟨_, rfl, rfl, _, rfl, ite2 (fun c => absurd c (by decide +kernel)) fun _ => ?_⟩
    refine ⟨_, rfl, rfl, _, rfl, ite2 (fun _ => ?_) fun c => absurd (by decide +kernel) c⟩
    obtain ⟨us, rfl, l12, hu⟩ := wt
    obtain ⟨wp, wu, rfl, hwp, du⟩ := Dd.of2 dw
    obtain ⟨ip, vs, rfl, hip, dvs⟩ := Dd.ofT du
    have hd1 : a.dp + 1 ≤ n := by have : a.dp + 1 + 1 ≤ n + 1 := hn; omega
    refine ⟨_, rfl, wp, _, _, _, rfl, rfl, SqT.of hwp, atI_nat (j := 1) rfl, ip, rfl, ⟨_, SqT.of hip⟩, fun D nD => ?_⟩
    refine lc_tup (K := K) (a := ip) (xs := vs) (fun i G => Same H G ∧ ∃ ds ws, mpL (mp (fT ts) a) (us.take i) = some ds ∧ G D = some (.lst ws) ∧ DdL Non G ds ws ∧ ws.length ≤ i) ⟨newS nD, [], [], rfl, upd_same, .nil, Nat.le_refl _⟩ (fun i G _ z => SqT.of (z.1 _ _ hip)) (fun i x G hxi z => ?_) (fun G z => ?_)
    · obtain ⟨sG, ds, ws, em, gD, dl, lw⟩ := z
      obtain ⟨u, hui, dux⟩ := dvs.get hxi
      have hkp := sG _ _ hkp
      have tk : us.take (i + 1) = us.take i ++ [u] := by rw [List.take_add_one, hui]; rfl
      have li := (List.getElem?_eq_some_iff.mp hui).1
      refine ⟨rfl, _, rfl, kp, _, _, _, rfl, rfl, SqT.of hkp, atI_nat (j := 1) rfl, _, rfl, _, rfl, dT, ka, x, a, u, xs, ts, rfl, dka.same sG, dux.same sG, hu u (List.mem_of_getElem? hui), hd1, hx, tb.same sG, ok, fun u' e1 u1 G1 s1 d1 => ?_, fun e1 G1 s1 => q2 ?_ G1 (sG.trans s1)⟩
      · have gD1 := s1 _ _ gD
        refine ⟨ws, gD1, small1000 (by omega), sPutS (sG.trans s1) nD, ds ++ [u'], ws ++ [u1], ?_, upd_same, ?_, by rw [List.length_append]; show ws.length + 1 ≤ _; omega⟩
        · rw [tk, mpL_app, em]
          show ((mpL (mp (fT ts) a) [u]).map (ds ++ ·)) = _
          simp only [mpL, e1, Option.bind_some, Option.map_some]
        · exact ((dl.same s1).app (.cons d1 .nil)).kn (ddPut gD1)
      · simp only [mp]
        rw [mpL_none.mpr ⟨u, List.mem_of_getElem? hui, e1⟩]
        rfl
    · obtain ⟨sG, ds, ws, em, gD, dl, lw⟩ := z
      rw [show vs.length = us.length from dvs.len.symm, List.take_length] at em
      refine ⟨D, _, rfl, .inl ⟨SqL.of gD, fun t nt => objG nt fun G2 s2 g2 => ?_⟩⟩
      refine ⟨(by show 2 ≤ sizeLine; decide), fun p np => objG np fun G3 s3 g3 => q1 _ ?_ _ G3 ((sG.trans s2).trans s3) (.tup g3 (.cons (.str _) (.cons (.tup (s3 _ _ g2) ((dl.same s2).same s3)) .nil)))⟩
      simp only [mp, em, Option.map_some]
  | fn a b => exact (show False from wt).elim
end
end Kq

/-! name = {k: v for ..}, the name a local -/
namespace Kxc
open PySem PySem.Spec PyProof.Rows L2
section
variable {X : Cx}
theorem sw_dict {kx vx : Expr} {gs : List Comprehension} {sc : Scope} {pos py : Pos} {y : Str} {l : Nat} {env : Env} (h1 : env.scope.kind = .function) (h2 : env.scope.names.lookup y = some .local) (h3 : (py.line == pos.line) = true)
    (h4 : (sc.names.any fun (n, k) => n == y && (k == .local || k == .cell)) = false) : swapsWith (.DictComp kx vx gs sc pos) (some (.Name y py)) l env = pure true := by
  have e1 : env.kindOf y = some .local := h2
  have e2 : env.blockKind = .function := by
    unfold Env.blockKind
    rw [h1]
    rfl
  unfold swapsWith
  simp only [e1, e2, h4, Expr.pos, h3]
  rfl
theorem ps_setDc {i : Nat} {y : Str} {py : Pos} {kx vx tg iter : Expr} {ifs : List Expr} {scope : Scope} {own : List (Str × Nat)} {pos spos : Pos} {wi : L2.TI} {g : L2.TG} {tt : TT} {tk tv : TE} (hc : X.calm = true) (hN : X.N.Nodup) (hy : X.N[i]? = some y)
    (hyl : X.env.scope.names.lookup y = some .local) (hsw : swapsWith (.DictComp kx vx [⟨tg, iter, ifs, 0⟩] scope pos) (some (.Name y py)) spos.line X.env = pure true) (hi : PI X tg iter wi) (ok : BlkOk X.N X.env.scope scope own)
    (hg : ∀ (s0 : Shared) (H0 : Hp) (C0 : Addr) (cl : List (Str × Addr)) (fp : List Addr), PG (X.blk s0 H0 scope (compEnvC scope cl C0 X.env) fp) tg g)
    (ht : ∀ (s0 : Shared) (H0 : Hp) (C0 : Addr) (cl : List (Str × Addr)) (fp : List Addr), PTs (X.blk s0 H0 scope (compEnvC scope cl C0 X.env) fp) ifs tt)
    (hk : ∀ (s0 : Shared) (H0 : Hp) (C0 : Addr) (cl : List (Str × Addr)) (fp : List Addr), PE (X.blk s0 H0 scope (compEnvC scope cl C0 X.env) fp) kx tk)
    (he : ∀ (s0 : Shared) (H0 : Hp) (C0 : Addr) (cl : List (Str × Addr)) (fp : List Addr), PE (X.blk s0 H0 scope (compEnvC scope cl C0 X.env) fp) vx tv) (hs : ∀ x, foldedSetIterable iter X.env x = pure x := by intro _; rfl) :
    PS X (.Assign [.Name y py] (.DictComp kx vx [⟨tg, iter, ifs, 0⟩] scope pos) spos) (tAsg (tDc wi g tt tk tv (own.map (·.2))) (gName i)) := by
  refine ⟨fun pins s σ H D I h => ?_⟩
  rw [exec_Assign_Name_used _ _ _ _ hsw]
  refine wpAny_bind (wpAny_standAt (wpAny_bind ?_))
  have h : tDc wi g tt tk tv (own.map (·.2)) σ H (fun x H1 => gName i x σ H1 D.nx) := h
  show wpAny _ X.A (do let _ ← PySem.comprehension (.DictComp kx vx [⟨tg, iter, ifs, 0⟩] scope pos) scope X.env _ newDict false (eval iter X.env) (some (PySem.assign (.Name y py) X.env))) _ _ s
  refine wpAny_bind (thn (dc_core (Qf := fun _ z => SP X pins D .next z) hc hN I hi ok hg ht hk he hs h fun B C z m H1 J q hn fo => ?_) fun _ z hq => wpAny_pure (wpAny_pure hq))
  obtain ⟨a0, a1, a2, a3, a4, a5⟩ := fo
  show wpAny _ _ (PySem.assign (.Name y py) X.env (.ref B)) _ _ _
  refine wpAny_assign_Name (store_ok2 (v := V.ref B) J hN hy (.inl hyl) rfl (fun z2 J2 ⟨a, sb, ha⟩ => ?_) (.inr hyl))
  have Ca : C ≠ a := ha.elim (fun w => by rw [w]; exact a1) fun w e => a4 y a w e.symm
  exact ⟨m, hn.sameBut sb Ca, fun k sb2 => ⟨_, H1, J2.turned (t' := z2.toks) (fun b o hb e => (sb2.2 b hb).trans e) a0 a1 a3 a4 a5, q⟩⟩
end
end Kxc

/-! d.update(e), two dicts of numbers and texts -/
namespace Kc
open PySem PySem.Spec PyProof.Rows L2
theorem mergeK_le : ∀ (more kvs : List (Key × V)), (mergeK kvs more).length ≤ kvs.length + more.length
  | [], kvs => Nat.le_refl _
  | kv :: r, kvs => by
    show (mergeK (putK kvs kv.1 kv.2) r).length ≤ _
    have h1 := mergeK_le r (putK kvs kv.1 kv.2)
    have h2 := length_putK kvs kv.1 kv.2
    rw [List.length_cons]
    omega
section
variable {X : Cx}
def rUpd : V → List V → Hp → VK → Prop := fun x vs H Q => ∃ d o kvs more, x = .ref d ∧ vs = [.ref o] ∧ d ≠ o ∧ H d = some (.dK kvs) ∧ H o = some (.dK more) ∧ kvs.length + more.length ≤ sizeLine ∧ Q .non (upd H d (.dK (mergeK kvs more)))
theorem mt_update : MtR X "dict.update" rUpd := by
  intro pins s σ H x xs v us Q I rx rxs h
  obtain ⟨d, o, kvs, more, rfl, rfl, hne, hd, ho, hz, q⟩ := h
  cases rx
  obtain ⟨u, rfl, ru⟩ := rxs.one
  cases ru
  obtain ⟨z1, n1, vs1, r1, dd1⟩ := dk_of I.hok hd
  obtain ⟨z2, n2, vs2, r2, dd2⟩ := dk_of I.hok ho
  refine call_meetsIn PySem.F.slot_dict_update dd1.typeIs PySem.F.entry_dict_update (PySem.F.args_dict_update_2 _ _) (meets_dict_update (mixKind X.prog X.w) d o hne n2)
    ⟨vs1, vs2, dd1, dd2, by rw [← Paired.length r1, ← Paired.length r2]; exact hz, fun h' hm _ hs => ?_⟩
  have hm' := hm
  obtain ⟨ob, es, ep, hq, _⟩ := hm'
  have I2 : Inv X pins σ (upd H d (.dK (mergeK kvs more))) { s with heap := h' } :=
    d_write (t' := s.toks) I (by rw [hd]; exact True.intro) hs ⟨ob, hq⟩ ⟨Nat.le_trans (mergeK_le _ _) hz, n1, _, KV.merge r2 r1, hm⟩
  exact ⟨.non, _, I2, rfl, q⟩
end
end Kc

/-! mapped -/
namespace Kq
open PySem PySem.Spec PyProof.Rows L2 Kf Kg Kv Kk
theorem tupGK {X : Cx} (K : PySem.W.Frag) (h : X.K = K) {es : List Expr} {k : Nat} {t : TGs} {n : Nat} {pos : Pos} (hc : X.calm = true) (hp : PGs X es t)
    (hn : (assignEach es X.env).length = n := by rfl) (hst : (assignEach es X.env).findIdx? (·.1) = none := by rfl) : PG X (.Tuple es k pos) (gTup K n t) := by
  subst h
  exact pg_tup hc hp hn hst
/-- maps, by names: a tuple whose object is known -/
structure Mps (H : Hp) (m : Addr) (xs : List Str) (ts : Str → List (Option Nat)) : Prop where
  ex : ∃ (o : Obj) (qs : List Addr), H m = some (.frz o (.tup (qs.map V.ref))) ∧ o.dict = none ∧ o.cls = .type "tuple" ∧ qs.length = xs.length ∧ ∀ (i : Nat) (x : Str), xs[i]? = some x → ∃ (q : Addr) (t : V), qs[i]? = some q ∧ H q = some (.tup [.str x, t]) ∧ Dd Non H (tblD x (ts x)) t
  nd : xs.Nodup
  l9 : xs.length ≤ 9
theorem Mps.same {H G : Hp} {m : Addr} {xs : List Str} {ts : Str → List (Option Nat)} (h : Mps H m xs ts) (s : Same H G) : Mps G m xs ts := by
  obtain ⟨⟨o, qs, h1, h2, h3, h4, h5⟩, nd, l9⟩ := h
  exact ⟨⟨o, qs, s _ _ h1, h2, h3, h4, fun i x hx => let ⟨q, t, e1, e2, d⟩ := h5 i x hx; ⟨q, t, e1, s _ _ e2, d.same s⟩⟩, nd, l9⟩
def outD : Option Dt → Dt
  | none => fltD
  | some d => .tup [.str "worth", d]
section
variable {P : Program} {w : World} {K : PySem.W.Frag} {mg : Str → Option Value} {base : Heap} {cF oF : Addr}
def Dfn (K : PySem.W.Frag) (mg : Str → Option Value) (nm : Str) (st : Stmt) (ps : List Str) : Prop := ∃ f fd, Fun K nm nm st f fd ∧ Binds K fd ps [] ∧ mg nm = some (.ref f)
theorem led_all (D : Dfn K mg "led_on" tLedOn psLedOn) (DZ : Okd P w K mg base (L2.CX P w) 1 "told_of" ["tables", "thing"] (spToldOf cF)) (m_tuple : mg "tuple" = none) : ∀ n, Okd P w K mg base (L2.CX P w) (n + 1) "led_on" psLedOn (spLedOn cF n)
  | 0 => by
    obtain ⟨f, fd, F, b, g⟩ := D
    refine ⟨f, fd, ⟨fun vs H Q E h => ?_, fun A outer s H c us vs Q E hr I b r h => ?_⟩, b, g, F.kp⟩
    all_goals
      obtain ⟨_, _, _, _, _, _, _, _, _, _, _, hn, _⟩ := h
      omega
  | n + 1 => by
    have ih := led_all D DZ m_tuple n
    obtain ⟨f, fd, F, b, g⟩ := id D
    exact ⟨f, fd, okLedOn1 F ih (DZ.up (by omega)) m_tuple, b, g, F.kp⟩
abbrev tMapped : Stmt := tp 4
abbrev nMapped : List Str := ["kind", "maps", "worth", "name", "table", "tables"]
abbrev psMapped : List Str := ["kind", "maps", "worth"]
theorem scMapped : FnScope nMapped psMapped (defScope tMapped) := ⟨rfl, rfl, rfl, by decide +kernel, rfl, by decide +kernel, by decide +kernel⟩
def spMapped (K : PySem.W.Frag) : Sp := fun vs H Q _ => ∃ (m : Addr) (kv wv : V) (k : Kd) (d : Dt) (xs : List Str) (ts : Str → List (Option Nat)), vs = [kv, .ref m, wv] ∧ Dd Non H k.dt kv ∧ Dd Non H d wv ∧ Wt (fun x => (ts x).length) k d ∧ k.dp ≤ 3 ∧ (∀ x ∈ k.opens, x ∈ xs) ∧ Mps H m xs ts ∧ TsOk xs ts ∧
  ∀ (a : Addr) (G : Hp), Same H G → Dp K G (.ref a) (outD (mp (fT ts) k d)).toP → TyX K G (.ref a) (.type "tuple") → Q (.ref a) G
theorem okMapped {f : Addr} {fd : FuncData} {k : Nat} (F : Fun K "mapped" "mapped" tMapped f fd) (M : FM K mg cF oF) (kF : ∃ o, K.lookup oF = some o ∧ o.cls = .type "tuple")
    (DX : Okd P w K mg base (L2.CX P w) (k) "led_on" ["kind", "tables", "worth"] (spLedOn cF 4)) : FnOk P w K mg base CX0 (k + 1) f fd psMapped (spMapped K) := by
  obtain ⟨fX, fdX, GX, bX, gX, kX⟩ := DX
  refine F.ok scMapped (fun vs H Q E h => ?_) (fun cdv A outer s H vs Q E hr h => ?_)
  · obtain ⟨m, kv, wv, k, d, xs, ts, rfl, _⟩ := h
    rfl
  obtain ⟨m, kv, wv, k, d, xs, ts, rfl, dk, dw, wt, hd, hx, mps, ok, q⟩ := h
  refine ⟨_, pss_cons (Kxc.ps_setDc (i := 5) (own := [("name", 3), ("table", 4)]) (g := gTup K 2 (gCons (gName 3) (gCons (gName 4) gNil))) (by rfl) scMapped.nd rfl rfl (Kxc.sw_dict rfl rfl rfl (by decide +kernel)) (pi_tup (pv 1)) (blkOk_by (own := [("name", 3), ("table", 4)]) (N := nMapped) (sc := defScope tMapped) (by decide +kernel)) (fun _ _ _ _ _ => tupGK K rfl rfl (pgs_cons (pg_name (i := 3) scMapped.nd rfl (.inl rfl)) (pgs_cons (pg_name (i := 4) scMapped.nd rfl (.inl rfl)) pgs_nil))) (fun _ _ _ _ _ => pts_nil) (fun _ _ _ _ _ => pv 3) (fun _ _ _ _ _ => pv 4))
    (pss_one (ps_try_only (c := .ref cF) rfl rfl ⟨rfl, by decide, .inl M.gP⟩ takes0 (fun W pn xe tk _ => pss_one (ps_ret (pe_tup (pa_cons pe_str (pa_cons (pe_callS GX hr (by rfl) gX kX bX (fun σ => passAt tk σ) (pa_cons (pv 0) (pa_cons (pv 5) (pa_cons (pv 2) pa_nil)))) pa_nil))))) (fun a oe cls d pn hz hf => pss_one (ps_ret (pe_glob (v := .ref oF) (by rfl) M.gF rfl))))), ?_⟩
  obtain ⟨⟨o, qs, hm, ho1, ho2, lq, hq⟩, nd, l9⟩ := id mps
  have l9' : qs.length ≤ 9 := by omega
  refine ⟨_, rfl, m, rfl, ⟨_, .inl (.inr ⟨o, hm⟩)⟩, fun D nD => ?_⟩
  refine dc_tup (K := K) (a := m) (xs := qs.map V.ref) (fun i G => Same H G ∧ ∃ kvs, G D = some (.dK kvs) ∧ kvs.length ≤ i ∧ ∀ (j : Nat) (x : Str), j < i → xs[j]? = some x → ∃ t, valV kvs (.inr x) = some t ∧ Dd Non G (tblD x (ts x)) t) ⟨newS nD, [], upd_same, Nat.le_refl _, fun j x h => absurd h (Nat.not_lt_zero _)⟩ (fun i G _ z => .inl (.inr ⟨o, z.1 _ _ hm⟩)) (fun i v G hv z => ?_) (fun G z => ?_)
  · obtain ⟨sG, kvs, gD, lk, hk⟩ := z
    rw [List.getElem?_map] at hv
    obtain ⟨q0, hq0, rfl⟩ := Option.map_eq_some_iff.mp hv
    have li := (List.getElem?_eq_some_iff.mp hq0).1
    have li2 : i < xs.length := by omega
    obtain ⟨q1, t, e1, e2, dt⟩ := hq i xs[i] (List.getElem?_eq_getElem li2)
    rw [hq0] at e1
    cases e1
    refine ⟨q0, _, rfl, SqT.of (sG _ _ e2), rfl, _, _, rfl, _, _, rfl, rfl, rfl, ?_⟩
    refine ⟨_, rfl, _, rfl, kvs, .inr xs[i], rfl, gD, small1000 (by omega), sPutS sG nD, _, upd_same, ?_, fun j x hj hx => ?_⟩
    · exact Nat.le_trans (length_putK kvs _ _) (by omega)
    · have kn : Kn Non G (upd G D (.dK (putK kvs (.inr xs[i]) t))) := Kn.rfl.put (fun z => z) fun zs z => by rw [gD] at z; cases z
      rw [valV_put]
      by_cases ex : x = xs[i]
      · rw [if_pos (by rw [ex]), ex]
        exact ⟨t, rfl, (dt.same sG).kn kn⟩
      · rw [if_neg (fun z => ex (Sum.inr.inj z))]
        have hji : j < i := by
          rcases Nat.lt_or_ge j i with h | h
          · exact h
          · have e : j = i := by omega
            rw [e, List.getElem?_eq_getElem li2] at hx
            exact absurd (Option.some.inj hx).symm ex
        obtain ⟨t2, e3, d3⟩ := hk j x hji hx
        exact ⟨t2, e3, d3.kn kn⟩
  · obtain ⟨sG, kvs, gD, lk, hk⟩ := z
    have tb : Tbl G D xs ts := ⟨kvs, gD, fun x hx => by
      obtain ⟨j, hj⟩ := List.mem_iff_getElem?.mp hx
      have := (List.getElem?_eq_some_iff.mp hj).1
      exact hk j x (by rw [List.length_map]; omega) hj⟩
    refine ⟨_, rfl, _, rfl, _, rfl, D, kv, wv, k, d, xs, ts, rfl, dk.same sG, dw.same sG, wt, by omega, hx, tb, ok, fun d' e u G2 s2 du => ⟨(by show 2 ≤ sizeLine; decide), fun p np => objG np fun G3 s3 g3 => ?_⟩, fun e G2 s2 => ⟨true, M.eP, fun _ a ha => ?_, fun z => nomatch z⟩⟩
    · refine q oF G2 (sG.trans s2) ?_ ?_
      · rw [e]
        exact .tup (M.sF _) (.cons (.str _) .nil)
      · obtain ⟨o2, h1, h2⟩ := kF
        exact .kTuple h1 h2
    · refine q p G3 ((sG.trans s2).trans s3) ?_ (.base (.tup g3))
      rw [e]
      exact dd_dp K (.tup g3 (.cons (.str _) (.cons (du.same s3) .nil)))
end
end Kq

/-! _law_worth -/
namespace Kq
open PySem PySem.Spec PyProof.Rows L2 Kf Kg Kv Kk
theorem _root_.Kv.Kn.tk {H G : Hp} (k : Tk H G) : Kn Non H G := ⟨k, fun _ _ n => (show False from n).elim, fun _ _ n => (show False from n).elim⟩
theorem _root_.Kv.Dd.kp {d c : Addr} {H G : Hp} {x : Dt} {v : V} (h : Dd Non H x v) (k : Kp d c H G) (e : Dk H d c) : Dd Non G x v := h.kn (Kn.tk (Tk.kp k e))
/-- how many things the names have -/
structure Szs (H : Hp) (dS : Addr) (xs : List Str) (sz : Str → Nat) : Prop where
  ex : ∃ kvs, H dS = some (.dK kvs) ∧ kvs.map (·.1) = xs.map Sum.inr ∧ ∀ x ∈ xs, valV kvs (.inr x) = some (.int ((sz x : Nat) : Int))
  b1 : ∀ x ∈ xs, 1 ≤ sz x
  b2 : ∀ x, sz x ≤ 12
theorem Szs.kp {d c : Addr} {H G : Hp} {dS : Addr} {xs : List Str} {sz : Str → Nat} (h : Szs H dS xs sz) (k : Kp d c H G) (e : Dk H d c) : Szs G dS xs sz := by
  obtain ⟨⟨kvs, h1, h2, h3⟩, b1, b2⟩ := h
  refine ⟨⟨kvs, k dS _ (fun z => ?_) (fun z => ?_) h1, h2, h3⟩, b1, b2⟩
  · obtain ⟨_, _, q⟩ := e.dd
    rw [z, q] at h1; cases h1
  · obtain ⟨_, q, _⟩ := e.cc
    rw [z, q] at h1; cases h1
theorem Szs.same {H G : Hp} {dS : Addr} {xs : List Str} {sz : Str → Nat} (h : Szs H dS xs sz) (s : Same H G) : Szs G dS xs sz := by
  obtain ⟨⟨kvs, h1, h2, h3⟩, b1, b2⟩ := h
  exact ⟨⟨kvs, s _ _ h1, h2, h3⟩, b1, b2⟩
section
variable {P : Program} {w : World} {K : PySem.W.Frag} {mg : Str → Option Value} {base : Heap} {cF oF : Addr}
abbrev tLWorth : Stmt := tp 13
abbrev nLWorth : List Str := ["_law_deck_here", "_law_kind", "_law_sizes", "_law_most", "_law_many", "_law_k", "_law_some", "_law_at", "_law_first"]
abbrev psLWorth : List Str := ["_law_deck_here", "_law_kind", "_law_sizes", "_law_most"]
theorem scLWorth : FnScope nLWorth psLWorth (defScope tLWorth) := ⟨rfl, rfl, rfl, by decide +kernel, rfl, by decide +kernel, by decide +kernel⟩
def spLWorth (n : Nat) : Sp := fun vs H Q _ => ∃ (d c dS : Addr) (kv : V) (k : Kd) (xs : List Str) (sz : Str → Nat) (most : Int), vs = [.ref d, kv, .ref dS, .int most] ∧ Dk H d c ∧ Dd Non H k.dt kv ∧ Szs H dS xs sz ∧ k.isDat = true ∧ (∀ x ∈ k.opens, x ∈ xs) ∧ 0 ≤ most ∧ most < 13 ∧ k.dp + 1 ≤ n ∧
  ∀ (v : V) (w : Dt) (G : Hp), Kp d c H G → Dk G d c → Dd Non G w v → Wt sz k w → Q v G
theorem okLWorth1 {f : Addr} {fd : FuncData} {n k : Nat} (F : Fun K "_law_worth" "_law_worth" tLWorth f fd)
    (DX : Okd P w K mg base CX0 (k) "_law_worth" ["_law_deck_here", "_law_kind", "_law_sizes", "_law_most"] (spLWorth n))
    (DD : Okd P w K mg base CX0 (k) "_law_draw" ["_law_deck_here", "_law_most"] spDraw)
    (DP : Okd P w K mg base CX0 (k) "_law_pick" ["_law_deck_here", "_law_some"] spPick)
    (m_range : mg "range" = none)
    (m_tuple : mg "tuple" = none) : FnOk P w K mg base CX0 (k + 1) f fd psLWorth (spLWorth (n + 1)) := by
  obtain ⟨fX, fdX, GX, bX, gX, kX⟩ := DX
  obtain ⟨fD, fdD, GD, bD, gD, kD⟩ := DD
  obtain ⟨fP, fdP, GP, bP, gP, kP⟩ := DP
  refine F.ok scLWorth (fun vs H Q E h => ?_) (fun cdv A outer s H vs Q E hr h => ?_)
  · obtain ⟨d, c, dS, kv, k, xs, sz, most, rfl, _⟩ := h
    rfl
  obtain ⟨d, c, dS, kv, k, xs, sz, most, rfl, dk, dd, zs, dat, hx, m0, m1, hn, q⟩ := h
  refine ⟨_, pss_cons (ps_if (pt_cmpR op_eq (pe_ix ix_tup (pv 1) pe_int (fun _ _ => rfl)) pe_str (nomark _)) (pss_one (ps_ret (pe_tup (pa_cons pe_str (pa_cons (pe_ix ix_tup (pv 1) pe_int (fun _ _ => rfl)) (pa_cons (pe_call GD hr (by rfl) gD kD bD .nil pass0 (pa_cons (pv 0) (pa_cons (pe_dget (hu_of hr) (pv 2) (pe_ix ix_tup (pv 1) pe_int (fun _ _ => rfl)) (fun _ _ => rfl)) pa_nil))) pa_nil)))))) pss_nil)
    (pss_cons (ps_if (pt_cmpR op_eq (pe_ix ix_tup (pv 1) pe_int (fun _ _ => rfl)) pe_str (nomark _)) (pss_one (ps_ret (pe_call GP hr (by rfl) gP kP bP .nil pass0 (pa_cons (pv 0) (pa_cons (pe_lst (pa_cons pe_int (pa_cons pe_int (pa_cons pe_int (pa_cons pe_int (pa_cons (pe_call GD hr (by rfl) gD kD bD .nil pass0 (pa_cons (pv 0) (pa_cons (pe_op op_add (pe_op op_pow pe_int pe_int) pe_int) pa_nil))) pa_nil)))))) pa_nil))))) pss_nil)
    (pss_cons (ps_if (pt_cmpR op_eq (pe_ix ix_tup (pv 1) pe_int (fun _ _ => rfl)) pe_str (nomark _)) (pss_one (ps_ret (pe_cmpR op_eq (pe_call GD hr (by rfl) gD kD bD .nil pass0 (pa_cons (pv 0) (pa_cons pe_int pa_nil))) pe_int (nomark _)))) pss_nil)
    (pss_cons (ps_if (pt_cmpR op_eq (pe_ix ix_tup (pv 1) pe_int (fun _ _ => rfl)) pe_str (nomark _)) (pss_cons (ps_set (i := 4) scLWorth.nd rfl (.inl rfl) (pe_call GD hr (by rfl) gD kD bD .nil pass0 (pa_cons (pv 0) (pa_cons (pe_op op_add (pv 3) pe_int) pa_nil))))
    (pss_cons (ps_setLc (i := 6) (own := [("_law_k", 5)]) (g := gName 5) (by rfl) scLWorth.nd rfl rfl (sw_true rfl rfl rfl (by decide +kernel)) (pi_range1 (by rfl) m_range (pa_cons (pv 4) pa_nil)) (blkOk_by (own := [("_law_k", 5)]) (N := nLWorth) (sc := defScope tLWorth) (by decide +kernel)) (fun _ _ _ _ _ => (pg_name (i := 5) scLWorth.nd rfl (.inl rfl))) (fun _ _ _ _ _ => pts_nil) (fun _ _ _ _ _ => (pe_call GX hr (by rfl) gX kX bX .nil pass0 (pa_cons (pv 0) (pa_cons (pe_ix (kxT K rfl) (pv 1) pe_int (fun _ _ => rfl)) (pa_cons (pv 2) (pa_cons (pv 3) pa_nil)))))))
    (pss_one (ps_ret (pe_tup (pa_cons pe_str (pa_cons (pe_callTy call_tuple_of (by rfl) m_tuple PyProof.Rows.boot_tuple (pa_cons (pv 6) pa_nil)) pa_nil))))))) pss_nil)
    (pss_cons (ps_if (pt_cmpR op_eq (pe_ix ix_tup (pv 1) pe_int (fun _ _ => rfl)) pe_str (nomark _)) (pss_cons (ps_set (i := 7) scLWorth.nd rfl (.inl rfl) (pe_call GD hr (by rfl) gD kD bD .nil pass0 (pa_cons (pv 0) (pa_cons pe_int pa_nil))))
    (pss_one (ps_ret (pe_tup (pa_cons (pe_ix ix_list (pe_lst (pa_cons pe_str (pa_cons pe_str pa_nil))) (pv 7) (fun _ _ => rfl)) (pa_cons (pe_call GX hr (by rfl) gX kX bX .nil pass0 (pa_cons (pv 0) (pa_cons (pe_ix ix_tup (pv 1) (pe_op op_add pe_int (pv 7)) (fun _ _ => rfl)) (pa_cons (pv 2) (pa_cons (pv 3) pa_nil))))) pa_nil)))))) pss_nil)
    (pss_cons (ps_set (i := 8) scLWorth.nd rfl (.inl rfl) (pe_call GX hr (by rfl) gX kX bX .nil pass0 (pa_cons (pv 0) (pa_cons (pe_ix ix_tup (pv 1) pe_int (fun _ _ => rfl)) (pa_cons (pv 2) (pa_cons (pv 3) pa_nil))))))
    (pss_one (ps_ret (pe_tup (pa_cons pe_str (pa_cons (pv 8) (pa_cons (pe_call GX hr (by rfl) gX kX bX .nil pass0 (pa_cons (pv 0) (pa_cons (pe_ix ix_tup (pv 1) pe_int (fun _ _ => rfl)) (pa_cons (pv 2) (pa_cons (pv 3) pa_nil))))) pa_nil))))))))))), ?_⟩
  cases k with
  | opn x =>
    obtain ⟨kp, ku, rfl, hkp, dku⟩ := Dd.of2 (show Dd Non H (.tup [.str "open", .str x]) kv from dd)
    cases dku
    refine ⟨_, rfl, kp, _, _, _, rfl, rfl, SqT.of hkp, atI_nat (j := 0) rfl, rfl, _, rfl, ite2 (fun _ => ?_) fun c => absurd (by decide +kernel) c⟩
    obtain ⟨⟨kvs, hS, _, hv⟩, b1, b2⟩ := id zs
    have xm := hx x (List.mem_singleton.mpr rfl)
    have z1 := b1 x xm
    have z2 := b2 x
    refine ⟨_, rfl, kp, _, _, _, rfl, rfl, SqT.of hkp, atI_nat (j := 1) rfl, _, rfl, _, rfl, _, rfl, kp, _, _, _, rfl, rfl, SqT.of hkp, atI_nat (j := 1) rfl, dS, _, rfl, hv x xm ▸ DGet.k (k := Sum.inr x) hS, ?_⟩
    refine ⟨d, c, _, rfl, dk, by omega, by omega, fun r G1 r0 r1 kp1 dk1 => ?_⟩
    refine ⟨(by show 3 ≤ sizeLine; decide), fun p np => objG np fun G2 s2 g2 => ?_⟩
    have er : r = ((r.toNat : Nat) : Int) := by omega
    refine q _ (thgD x r.toNat) G2 (kp1.trans (.of s2)) (dk1.same s2) (.tup g2 (.cons (.str _) (.cons (.str _) (.cons ?_ .nil)))) ⟨_, by omega, rfl⟩
    rw [er]
    exact .int _
  | num =>
    obtain ⟨kp, _, rfl, hkp, dku⟩ := Dd.ofT (show Dd Non H (.tup [.str "num"]) kv from dd)
    cases dku with
    | cons d1 _ =>
    cases d1
    refine ⟨_, rfl, kp, _, _, _, rfl, rfl, SqT.of hkp, atI_nat (j := 0) rfl, rfl, _, rfl, ite2 (fun c => absurd c (by decide +kernel)) fun _ => ?_⟩
    refine ⟨_, rfl, kp, _, _, _, rfl, rfl, SqT.of hkp, atI_nat (j := 0) rfl, rfl, _, rfl, ite2 (fun _ => ?_) fun c => absurd (by decide +kernel) c⟩
    refine ⟨_, rfl, _, rfl, _, _, rfl, rfl, ⟨by decide, by decide, by decide⟩, _, _, rfl, rfl, d, c, _, rfl, dk, by decide, by decide, fun r G1 r0 r1 kp1 dk1 => ?_⟩
    have r1 : r < 10 ^ 9 + 1 := r1
    refine ⟨(by show 5 ≤ sizeLine; decide), fun pl npl => ?_⟩
    have ol := dk1.off npl
    refine objG npl fun G2 s2 g2 => ?_
    refine ⟨d, c, pl, _, rfl, dk1.same s2, g2, ol.1, ol.2, by show 1 ≤ 5; decide, by show 5 ≤ 100; decide, fun v G3 kp3 dk3 hv => ?_⟩
    obtain ⟨m, rfl, h0, h1⟩ : ∃ m : Int, v = .int m ∧ 0 ≤ m ∧ m < 10 ^ 10 := by
      simp only [List.mem_cons, List.not_mem_nil, or_false] at hv
      rcases hv with h | h | h | h | h
      · exact ⟨0, h, by decide, by decide⟩
      · exact ⟨1, h, by decide, by decide⟩
      · exact ⟨2, h, by decide, by decide⟩
      · exact ⟨3, h, by decide, by decide⟩
      · exact ⟨r, h, r0, Int.lt_trans r1 (by decide)⟩
    exact q _ (.int m) G3 ((kp1.trans (.of s2)).trans kp3) dk3 (.int _) ⟨m, h0, h1, rfl⟩
  | tru =>
    obtain ⟨kp, _, rfl, hkp, dku⟩ := Dd.ofT (show Dd Non H (.tup [.str "truth"]) kv from dd)
    cases dku with
    | cons d1 _ =>
    cases d1
    refine ⟨_, rfl, kp, _, _, _, rfl, rfl, SqT.of hkp, atI_nat (j := 0) rfl, rfl, _, rfl, ite2 (fun c => absurd c (by decide +kernel)) fun _ => ?_⟩
    refine ⟨_, rfl, kp, _, _, _, rfl, rfl, SqT.of hkp, atI_nat (j := 0) rfl, rfl, _, rfl, ite2 (fun c => absurd c (by decide +kernel)) fun _ => ?_⟩
    refine ⟨_, rfl, kp, _, _, _, rfl, rfl, SqT.of hkp, atI_nat (j := 0) rfl, rfl, _, rfl, ite2 (fun _ => ?_) fun c => absurd (by decide +kernel) c⟩
    refine ⟨_, rfl, d, c, 2, rfl, dk, by decide, by decide, fun r G1 r0 r1 kp1 dk1 => ⟨rfl, ?_⟩⟩
    exact q _ (.bl _) G1 kp1 dk1 (.bl _) ⟨_, rfl⟩
  | pair a b =>
    obtain ⟨kp, ka, kb, rfl, hkp, dka, dkb⟩ := Dd.of3 (show Dd Non H (.tup [.str "pair", a.dt, b.dt]) kv from dd)
    obtain ⟨da, db⟩ := Bool.and_eq_true_iff.mp (show (a.isDat && b.isDat) = true from dat)
    have h1 : a.dp + 1 ≤ n := by have : max a.dp b.dp + 1 + 1 ≤ n + 1 := hn; omega
    have h2 : b.dp + 1 ≤ n := by have : max a.dp b.dp + 1 + 1 ≤ n + 1 := hn; omega
    refine ⟨_, rfl, kp, _, _, _, rfl, rfl, SqT.of hkp, atI_nat (j := 0) rfl, rfl, _, rfl, ite2 (fun c => absurd c (by decide +kernel)) fun _ => ?_⟩
    refine ⟨_, rfl, kp, _, _, _, rfl, rfl, SqT.of hkp, atI_nat (j := 0) rfl, rfl, _, rfl, ite2 (fun c => absurd c (by decide +kernel)) fun _ => ?_⟩
    refine ⟨_, rfl, kp, _, _, _, rfl, rfl, SqT.of hkp, atI_nat (j := 0) rfl, rfl, _, rfl, ite2 (fun c => absurd c (by decide +kernel)) fun _ => ?_⟩
    refine ⟨_, rfl, kp, _, _, _, rfl, rfl, SqT.of hkp, atI_nat (j := 0) rfl, rfl, _, rfl, ite2 (fun c => absurd c (by decide +kernel)) fun _ => ?_⟩
    refine ⟨_, rfl, kp, _, _, _, rfl, rfl, SqT.of hkp, atI_nat (j := 0) rfl, rfl, _, rfl, ite2 (fun c => absurd c (by decide +kernel)) fun _ => ?_⟩
    refine ⟨_, rfl, _, rfl, kp, _, _, _, rfl, rfl, SqT.of hkp, atI_nat (j := 1) rfl, _, rfl, _, rfl, d, c, dS, ka, a, xs, sz, most, rfl, dk, dka, zs, da, fun x h => hx x (List.mem_append_left _ h), m0, m1, h1, fun v1 w1 G1 kp1 dk1 d1 t1 => ?_⟩
    have hkp := Tk.kp kp1 dk _ _ hkp
    refine ⟨_, rfl, _, rfl, _, rfl, kp, _, _, _, rfl, rfl, SqT.of hkp, atI_nat (j := 2) rfl, _, rfl, _, rfl, d, c, dS, kb, b, xs, sz, most, rfl, dk1, dkb.kp kp1 dk, zs.kp kp1 dk, db, fun x h => hx x (List.mem_append_right _ h), m0, m1, h2, fun v2 w2 G2 kp2 dk2 d2 t2 => ?_⟩
    refine ⟨(by show 3 ≤ sizeLine; decide), fun p np => objG np fun G3 s3 g3 => ?_⟩
    exact q _ _ G3 ((kp1.trans kp2).trans (.of s3)) (dk2.same s3) (.tup g3 (.cons (.str _) (.cons ((d1.kp kp2 dk1).same s3) (.cons (d2.same s3) .nil)))) ⟨w1, w2, rfl, t1, t2⟩
  | eith a b =>
    obtain ⟨kp, ka, kb, rfl, hkp, dka, dkb⟩ := Dd.of3 (show Dd Non H (.tup [.str "either", a.dt, b.dt]) kv from dd)
    obtain ⟨da, db⟩ := Bool.and_eq_true_iff.mp (show (a.isDat && b.isDat) = true from dat)
    have h1 : a.dp + 1 ≤ n := by have : max a.dp b.dp + 1 + 1 ≤ n + 1 := hn; omega
    have h2 : b.dp + 1 ≤ n := by have : max a.dp b.dp + 1 + 1 ≤ n + 1 := hn; omega
    refine ⟨_, rfl, kp, _, _, _, rfl, rfl, SqT.of hkp, atI_nat (j := 0) rfl, rfl, _, rfl, ite2 (fun c => absurd c (by decide +kernel)) fun _ => ?_⟩
    refine ⟨_, rfl, kp, _, _, _, rfl, rfl, SqT.of hkp, atI_nat (j := 0) rfl, rfl, _, rfl, ite2 (fun c => absurd c (by decide +kernel)) fun _ => ?_⟩
    refine ⟨_, rfl, kp, _, _, _, rfl, rfl, SqT.of hkp, atI_nat (j := 0) rfl, rfl, _, rfl, ite2 (fun c => absurd c (by decide +kernel)) fun _ => ?_⟩
    refine ⟨_, rfl, kp, _, _, _, rfl, rfl, SqT.of hkp, atI_nat (j := 0) rfl, rfl, _, rfl, ite2 (fun c => absurd c (by decide +kernel)) fun _ => ?_⟩
    refine ⟨_, rfl, kp, _, _, _, rfl, rfl, SqT.of hkp, atI_nat (j := 0) rfl, rfl, _, rfl, ite2 (fun _ => ?_) fun c => absurd (by decide +kernel) c⟩
    refine ⟨_, rfl, d, c, 2, rfl, dk, by decide, by decide, fun r G1 r0 r1 kp1 dk1 => ?_⟩
    have hkp := Tk.kp kp1 dk _ _ hkp
    refine ⟨(by show 2 ≤ sizeLine; decide), fun pl npl => ?_⟩
    have ol := dk1.off npl
    refine objG npl fun G2 s2 g2 => ?_
    have hkp := s2 _ _ hkp
    have er : r = 0 ∨ r = 1 := by omega
    rcases er with rfl | rfl
    · refine ⟨_, rfl, pl, _, _, _, rfl, rfl, SqL.of g2, atI_nat (j := 0) rfl, ?_⟩
      refine ⟨_, rfl, _, rfl, _, rfl, _, _, rfl, rfl, kp, _, _, _, rfl, rfl, SqT.of hkp, atI_nat (j := 1) rfl, _, rfl, _, rfl, d, c, dS, ka, a, xs, sz, most, rfl, dk1.same s2, (dka.kp kp1 dk).same s2, (zs.kp kp1 dk).same s2, da, fun x h => hx x (List.mem_append_left _ h), m0, m1, h1, fun v1 w1 G3 kp3 dk3 d1 t1 => ?_⟩
      refine ⟨(by show 2 ≤ sizeLine; decide), fun p np => objG np fun G4 s4 g4 => ?_⟩
      exact q _ _ G4 (((kp1.trans (.of s2)).trans kp3).trans (.of s4)) (dk3.same s4) (.tup g4 (.cons (.str _) (.cons (d1.same s4) .nil))) (.inl ⟨w1, rfl, t1⟩)
    · refine ⟨_, rfl, pl, _, _, _, rfl, rfl, SqL.of g2, atI_nat (j := 1) rfl, ?_⟩
      refine ⟨_, rfl, _, rfl, _, rfl, _, _, rfl, rfl, kp, _, _, _, rfl, rfl, SqT.of hkp, atI_nat (j := 2) rfl, _, rfl, _, rfl, d, c, dS, kb, b, xs, sz, most, rfl, dk1.same s2, (dkb.kp kp1 dk).same s2, (zs.kp kp1 dk).same s2, db, fun x h => hx x (List.mem_append_right _ h), m0, m1, h2, fun v1 w1 G3 kp3 dk3 d1 t1 => ?_⟩
      refine ⟨(by show 2 ≤ sizeLine; decide), fun p np => objG np fun G4 s4 g4 => ?_⟩
      exact q _ _ G4 (((kp1.trans (.of s2)).trans kp3).trans (.of s4)) (dk3.same s4) (.tup g4 (.cons (.str _) (.cons (d1.same s4) .nil))) (.inr ⟨w1, rfl, t1⟩)
  | lst a =>
    obtain ⟨kp, ka, rfl, hkp, dka⟩ := Dd.of2 (show Dd Non H (.tup [.str "list", a.dt]) kv from dd)
    have h1 : a.dp + 1 ≤ n := by have : a.dp + 1 + 1 ≤ n + 1 := hn; omega
    refine ⟨_, rfl, kp, _, _, _, rfl, rfl, SqT.of hkp, atI_nat (j := 0) rfl, rfl, _, rfl, ite2 (fun c => absurd c (by decide +kernel)) fun _ => ?_⟩
    refine ⟨_, rfl, kp, _, _, _, rfl, rfl, SqT.of hkp, atI_nat (j := 0) rfl, rfl, _, rfl, ite2 (fun c => absurd c (by decide +kernel)) fun _ => ?_⟩
    refine ⟨_, rfl, kp, _, _, _, rfl, rfl, SqT.of hkp, atI_nat (j := 0) rfl, rfl, _, rfl, ite2 (fun c => absurd c (by decide +kernel)) fun _ => ?_⟩
    refine ⟨_, rfl, kp, _, _, _, rfl, rfl, SqT.of hkp, atI_nat (j := 0) rfl, rfl, _, rfl, ite2 (fun _ => ?_) fun c => absurd (by decide +kernel) c⟩
    refine ⟨_, rfl, _, rfl, _, _, rfl, rfl, d, c, most + 1, rfl, dk, by omega, by omega, fun r G1 r0 r1 kp1 dk1 => ?_⟩
    refine ⟨_, rfl, r, rfl, by omega, by omega, fun D nD => ?_⟩
    have oD := dk1.off nD
    have nDH := kp1.free dk1 nD
    refine lc_range (lo := 0) (n := r.toNat) (fun i G => Kp d c H G ∧ Dk G d c ∧ ∃ ws vs, G D = some (.lst vs) ∧ DdL Non G ws vs ∧ vs.length = i ∧ ∀ u ∈ ws, Wt sz a u) ⟨kp1.mk nDH, dk1.put oD.1 oD.2, [], [], upd_same, .nil, rfl, fun _ z => nomatch z⟩ (fun i G hi z => ?_) (fun G z => ?_)
    · obtain ⟨kG, eG, ws, vs, gD, dl, lv, hw⟩ := z
      have hkp := Tk.kp kG dk _ _ hkp
      refine ⟨rfl, _, rfl, _, rfl, kp, _, _, _, rfl, rfl, SqT.of hkp, atI_nat (j := 1) rfl, _, rfl, _, rfl, d, c, dS, ka, a, xs, sz, most, rfl, eG, dka.kp kG dk, zs.kp kG dk, dat, hx, m0, m1, h1, fun v1 w1 G2 kp2 dk2 d1 t1 => ?_⟩
      have gD2 := kp2 _ _ oD.1 oD.2 gD
      refine ⟨vs, gD2, small1000 (by omega), (kG.trans kp2).mk nDH, dk2.put oD.1 oD.2, ws ++ [w1], vs ++ [v1], upd_same, ?_, by rw [List.length_append, lv]; rfl, fun u hu => ?_⟩
      · exact ((dl.kn (Kn.tk (Tk.kp kp2 eG))).app (.cons d1 .nil)).kn (ddPut gD2)
      · rcases List.mem_append.mp hu with h | h
        · exact hw u h
        · rw [List.mem_singleton.mp h]; exact t1
    · obtain ⟨kG, eG, ws, vs, gD, dl, lv, hw⟩ := z
      refine ⟨_, rfl, D, _, rfl, .inl ⟨SqL.of gD, fun t nt => objG nt fun G2 s2 g2 => ?_⟩⟩
      refine ⟨(by show 2 ≤ sizeLine; decide), fun p np => objG np fun G3 s3 g3 => ?_⟩
      refine q _ _ G3 ((kG.trans (.of s2)).trans (.of s3)) ((eG.same s2).same s3) (.tup g3 (.cons (.str _) (.cons (.tup (s3 _ _ g2) ((dl.same s2).same s3)) .nil))) ⟨ws, rfl, ?_, hw⟩
      rw [dl.len, lv]
      omega
  | fn a b => cases dat
end
end Kq

/-! _law_maps -/
namespace Kq
open PySem PySem.Spec PyProof.Rows L2 Kf Kg Kv Kk
section
variable {X : Cx} {e : Expr} {t : TE}
def eCut (t : TE) : TE := fun σ H Q => ∃ Mid : V → Hp → Prop, t σ H Mid ∧ ∀ v H', Mid v H' → Q v H'
theorem pe_cut (h : PE X e t) : PE X e (eCut t) := by
  refine ⟨fun pins s σ H Q I z => ?_⟩
  obtain ⟨Mid, h1, h2⟩ := z
  exact thn (h.run pins s σ H Mid I h1) fun v s1 ⟨x, H1, I1, r, q⟩ => ⟨x, H1, I1, r, h2 _ _ q⟩
end
theorem rowsD_app (x : Str) (l : List (Option Nat)) (o : Option Nat) : rowsD x (l ++ [o]) = rowsD x l ++ [.tup [thgD x l.length, tolD x o]] := by
  unfold rowsD
  rw [List.zipIdx_append, List.map_append]
  simp
/-- the numbers of what is left -/
def ntV (ns : List Nat) : List V := ns.map fun j => V.int ((j : Nat) : Int)
theorem ntV_len (ns : List Nat) : (ntV ns).length = ns.length := by rw [ntV, List.length_map]
theorem rgV_nt (n : Nat) : rgV 0 ((n : Nat) : Int) = ntV (List.range n) := by
  unfold rgV ntV
  rw [show (((n : Nat) : Int) - 0).toNat = n by omega]
  apply List.map_congr_left
  intro i _
  rw [Int.zero_add]
theorem ntV_erase (ns : List Nat) (k : Nat) : (ntV ns).eraseIdx k = ntV (ns.eraseIdx k) := by
  unfold ntV
  induction ns generalizing k with
  | nil => rfl
  | cons n ns ih =>
    cases k with
    | zero => rfl
    | succ k => rw [List.map_cons, List.eraseIdx_cons_succ, List.eraseIdx_cons_succ, List.map_cons, ih]
/-- what is found so far -/
def Fnd (G : Hp) (F : Addr) (ys : List Str) (ts : Str → List (Option Nat)) (i : Nat) : Prop := ∃ qs : List Addr, G F = some (.lst (qs.map V.ref)) ∧ qs.length = i ∧ ∀ (j : Nat) (x : Str), j < i → ys[j]? = some x → ∃ (q : Addr) (t : V), qs[j]? = some q ∧ G q = some (.tup [.str x, t]) ∧ Dd Non G (tblD x (ts x)) t
theorem Wt.congr {sz sz' : Str → Nat} : ∀ {k : Kd} {d : Dt}, (∀ x ∈ k.opens, sz x = sz' x) → Wt sz k d → Wt sz' k d
  | .opn x, d, h, w => by
    obtain ⟨k, hk, e⟩ := w
    exact ⟨k, by rw [← h x (List.mem_singleton.mpr rfl)]; exact hk, e⟩
  | .num, _, _, w => w
  | .tru, _, _, w => w
  | .pair a b, d, h, w => by
    obtain ⟨u, v, e, hu, hv⟩ := w
    exact ⟨u, v, e, Wt.congr (fun x hx => h x (List.mem_append_left _ hx)) hu, Wt.congr (fun x hx => h x (List.mem_append_right _ hx)) hv⟩
  | .eith a b, d, h, w => by
    rcases w with ⟨u, e, hu⟩ | ⟨u, e, hu⟩
    · exact .inl ⟨u, e, Wt.congr (fun x hx => h x (List.mem_append_left _ hx)) hu⟩
    · exact .inr ⟨u, e, Wt.congr (fun x hx => h x (List.mem_append_right _ hx)) hu⟩
  | .lst a, d, h, w => by
    obtain ⟨us, e, l, hu⟩ := w
    exact ⟨us, e, l, fun u m => Wt.congr h (hu u m)⟩
  | .fn _ _, _, _, w => w.elim
section
variable {P : Program} {w : World} {K : PySem.W.Frag} {mg : Str → Option Value} {base : Heap} {cF oF : Addr}
abbrev tLMaps : Stmt := tp 14
abbrev nLMaps : List Str := ["_law_deck_here", "_law_sizes", "_law_faults", "_law_found", "_law_name", "_law_way", "_law_left", "_law_rows", "_law_k", "_law_to", "_law_fault"]
abbrev psLMaps : List Str := ["_law_deck_here", "_law_sizes", "_law_faults"]
theorem scLMaps : FnScope nLMaps psLMaps (defScope tLMaps) := ⟨rfl, rfl, rfl, by decide +kernel, rfl, by decide +kernel, by decide +kernel⟩
def spLMaps : Sp := fun vs H Q _ => ∃ (d c dS : Addr) (xs : List Str) (sz : Str → Nat) (fl : Int), vs = [.ref d, .ref dS, .int fl] ∧ Dk H d c ∧ Szs H dS xs sz ∧ xs.Nodup ∧ xs.length ≤ 9 ∧ (∀ x ∈ xs, Nm x) ∧
  ∀ (m : Addr) (ys : List Str) (ts : Str → List (Option Nat)) (G : Hp), Kp d c H G → Dk G d c → Mps G m ys ts → ys.Perm xs → TsOk ys ts → (∀ x ∈ xs, (ts x).length = sz x) → Q (.ref m) G
theorem okLMaps {f : Addr} {fd : FuncData} {k : Nat} (F : Fun K "_law_maps" "_law_maps" tLMaps f fd)
    (DD : Okd P w K mg base CX0 (k) "_law_draw" ["_law_deck_here", "_law_most"] spDraw)
    (m_int : mg "int" = none)
    (m_len : mg "len" = none)
    (m_list : mg "list" = none)
    (m_range : mg "range" = none)
    (m_sorted : mg "sorted" = none)
    (m_tuple : mg "tuple" = none) : FnOk P w K mg base CX0 (k + 1) f fd psLMaps spLMaps := by
  obtain ⟨fD, fdD, GD, bD, gD, kD⟩ := DD
  refine F.ok scLMaps (fun vs H Q E h => ?_) (fun cdv A outer s H vs Q E hr h => ?_)
  · obtain ⟨d, c, dS, xs, sz, fl, rfl, _⟩ := h
    rfl
  obtain ⟨d, c, dS, xs, sz, fl, rfl, dk, zs, nd, l9, hnm, q⟩ := h
  refine ⟨_, pss_cons (ps_set (i := 3) scLMaps.nd rfl (.inl rfl) (pe_lst pa_nil))
    (pss_cons (ps_for PassesOwn.never rfl (pi_list (pe_callB (call_sortedD rfl) (by rfl) m_sorted (by decide +kernel) (pa_cons (pv 1) pa_nil))) (pg_name (i := 4) scLMaps.nd rfl (.inl rfl))
      (pss_cons (ps_set (i := 5) scLMaps.nd rfl (.inl rfl) (pe_call GD hr (by rfl) gD kD bD .nil pass0 (pa_cons (pv 0) (pa_cons pe_int pa_nil))))
    (pss_cons (ps_set (i := 6) scLMaps.nd rfl (.inl rfl) (pe_listRg rfl (by rfl) m_list (prg_1 (by rfl) m_range (pe_dget (hu_of hr) (pv 1) (pv 4) (fun _ _ => rfl)))))
    (pss_cons (ps_set (i := 7) scLMaps.nd rfl (.inl rfl) (pe_lst pa_nil))
    (pss_cons (ps_for PassesOwn.never rfl (pi_range1 (by rfl) m_range (pa_cons (pe_dget (hu_of hr) (pv 1) (pv 4) (fun _ _ => rfl)) pa_nil)) (pg_name (i := 8) scLMaps.nd rfl (.inl rfl))
      (pss_cons (ps_set (i := 9) scLMaps.nd rfl (.inl rfl) (pe_ix ix_list (pe_lst (pa_cons (pe_call GD hr (by rfl) gD kD bD .nil pass0 (pa_cons (pv 0) (pa_cons (pe_dget (hu_of hr) (pv 1) (pv 4) (fun _ _ => rfl)) pa_nil))) (pa_cons pe_int pa_nil))) (pe_callTy call_int1 (by rfl) m_int PyProof.Rows.boot_int (pa_cons (pe_cmpR op_eq (pv 5) pe_int (nomark _)) pa_nil)) (fun _ _ => rfl)))
    (C8.pss_cut (ps_if (pt_cmpR op_eq (pv 5) pe_int (nomark _)) (pss_one (ps_set (i := 9) scLMaps.nd rfl (.inl rfl) (pe_bm PySem.F.plainAttrs_list PySem.F.slot_list_pop PySem.F.type_list_pop mt_popAt (pv 6) (pa_cons (pe_call GD hr (by rfl) gD kD bD .nil pass0 (pa_cons (pv 0) (pa_cons (pe_callB call_len_seq (by rfl) m_len PySem.boot_len (pa_cons (pv 6) pa_nil)) pa_nil))) pa_nil)))) pss_nil)
    (pss_cons (ps_set (i := 10) scLMaps.nd rfl (.inl rfl) (pe_cut (pe_and (pe_cmpR op_eq (pv 2) pe_int (nomark _)) (pe_one (pe_cmpR op_eq (pe_call GD hr (by rfl) gD kD bD .nil pass0 (pa_cons (pv 0) (pa_cons pe_int pa_nil))) pe_int (nomark _))))))
    (pss_one (ps_expr (pe_bm PySem.F.plainAttrs_list PySem.F.slot_list_append PySem.F.type_list_append mt_append (pv 7) (pa_cons (pe_tup (pa_cons (pe_tup (pa_cons pe_str (pa_cons (pv 4) (pa_cons (pv 8) pa_nil)))) (pa_cons (pe_cut (pe_ifExp (pt_val (pv 10)) (pe_tup (pa_cons pe_str pa_nil)) (pe_tup (pa_cons pe_str (pa_cons (pv 4) (pa_cons (pv 9) pa_nil)))))) pa_nil))) pa_nil))))))))
    (pss_one (ps_expr (pe_bm PySem.F.plainAttrs_list PySem.F.slot_list_append PySem.F.type_list_append mt_append (pv 3) (pa_cons (pe_tup (pa_cons (pv 4) (pa_cons (pe_tup (pa_cons pe_str (pa_cons (pe_callTy call_tuple_of (by rfl) m_tuple PyProof.Rows.boot_tuple (pa_cons (pv 7) pa_nil)) pa_nil))) pa_nil))) pa_nil)))))))))
    (pss_one (ps_ret (pe_callTy Kt.call_tupleF (by rfl) m_tuple PyProof.Rows.boot_tuple (pa_cons (pv 3) pa_nil))))), ?_⟩
  refine ⟨Nat.zero_le _, fun F nF => ?_⟩
  have oF' := dk.off nF
  refine objG nF fun H1 s1 gF => ?_
  have zs1 := zs.same s1
  obtain ⟨⟨kvs, hS, hks, hv⟩, b1, b2⟩ := id zs1
  refine ⟨_, rfl, dS, kvs, xs, rfl, .inl hS, hks, by omega, fun ys S pm _ nS => ?_⟩
  have dk1 := dk.same s1
  have oS := dk1.off nS
  have SF : S ≠ F := fun z => by rw [z, gF] at nS; cases nS
  refine objG nS fun H2 s2 gS => ?_
  have lys : ys.length = xs.length := pm.length_eq
  have nFH : H F = none := nF
  have ynd : ys.Nodup := pm.nodup_iff.mpr nd
  refine ⟨S, rfl, ⟨_, SqL.of gS⟩, for_list (K := K) (a := S) (xs := ys.map V.str) (fun i σ G => (∃ y4 y5 y6 y7 y8 y9 y10, σ = [some (.ref d), some (.ref dS), some (.int fl), some (.ref F), y4, y5, y6, y7, y8, y9, y10]) ∧ Kp d c H G ∧ Dk G d c ∧ G S = some (.lst (ys.map V.str)) ∧ ∃ ts, Fnd G F ys ts i ∧ TsOk xs ts ∧ ∀ (j : Nat) (x : Str), ys[j]? = some x → (j < i → (ts x).length = sz x)) ⟨⟨_, _, _, _, _, _, _, rfl⟩, (Kp.of s1).trans (.of s2), dk1.same s2, gS, fun _ => [], ⟨[], s2 _ _ gF, rfl, fun j x h => absurd h (Nat.not_lt_zero _)⟩, ⟨hnm, fun _ => Nat.zero_le _, fun x k j h => by simp at h⟩, fun j x _ h => absurd h (Nat.not_lt_zero _)⟩ (fun i σ G _ z => SqL.of z.2.2.2.1) (fun i v σ G hv' z => ?_) (fun σ G z => ?_)⟩
  · obtain ⟨⟨y4, y5, y6, y7, y8, y9, y10, rfl⟩, kG, eG, gS, ts, fnd, tok, hts⟩ := z
    rw [List.getElem?_map] at hv'
    obtain ⟨x, hyx, rfl⟩ := Option.map_eq_some_iff.mp hv'
    have xm : x ∈ xs := pm.mem_iff.mp (List.mem_of_getElem? hyx)
    have z1 := b1 x xm
    have z2 := b2 x
    refine ⟨_, rfl, d, c, 4, rfl, eG, by decide, by decide, fun way G1 w0 w1 k1 e1 => ?_⟩
    have kG1 := kG.trans k1
    have zG : Szs G1 dS xs sz := zs.kp kG1 dk
    obtain ⟨⟨kv1, hS1, _, hv1⟩, _, _⟩ := id zG
    have dget : ∀ {F' : Hp}, Kp d c G1 F' → DGet F' dS (.str x) (some (.int ((sz x : Nat) : Int))) := fun {F'} kk => by
      obtain ⟨⟨kv2, hS2, _, hv2⟩, _, _⟩ := zG.kp kk e1
      exact hv2 x xm ▸ DGet.k (k := Sum.inr x) hS2
    refine ⟨_, rfl, _, rfl, dS, _, rfl, dget Kp.rfl, _, rfl, RgOk.of_le (by decide) (by omega) (by decide) (by omega), fun Lf nLf => ?_⟩
    have oL := e1.off nLf
    rw [rgV_nt]
    refine objG nLf fun G2 s2 gL => ?_
    have e2 := e1.same s2
    refine ⟨Nat.zero_le _, fun R nR => ?_⟩
    have oR := e2.off nR
    have RL : R ≠ Lf := fun z => by rw [z, gL] at nR; cases nR
    have nR1 : G1 R = none := by
      cases q : G1 R with
      | none => rfl
      | some u => rw [s2 _ _ q] at nR; cases nR
    refine objG nR fun G3 s3 gR => ?_
    refine ⟨_, rfl, _, rfl, dS, _, rfl, dget (.of (s2.trans s3)), _, rfl, by omega, by omega, ?_⟩
    refine for_range (lo := 0) (n := ((sz x : Nat) : Int).toNat) (fun i2 σ F2 => (∃ y8 y9 y10, σ = [some (.ref d), some (.ref dS), some (.int fl), some (.ref F), some (.str x), some (.int way), some (.ref Lf), some (.ref R), y8, y9, y10]) ∧ Kp d c G1 F2 ∧ Dk F2 d c ∧ (∃ ls : List Nat, F2 Lf = some (.lst (ntV ls)) ∧ (∀ j ∈ ls, j < sz x) ∧ sz x ≤ ls.length + i2 ∧ ls.length ≤ 12) ∧ ∃ l vs, F2 R = some (.lst vs) ∧ DdL Non F2 (rowsD x l) vs ∧ l.length = i2 ∧ ∀ (k j : Nat), l[k]? = some (some j) → j < sz x) ⟨⟨_, _, _, rfl⟩, .of (s2.trans s3), e2.same s3, ⟨_, s3 _ _ gL, fun j hj => List.mem_range.mp hj, by rw [List.length_range]; omega, by rw [List.length_range]; omega⟩, [], [], gR, .nil, rfl, fun k j h => by simp at h⟩ (fun i2 σ F2 hi2 z => ?_) (fun σ F2 z => ?_)
    · obtain ⟨⟨y8, y9, y10, rfl⟩, kF, eF, ⟨ls, gLf, hls, hll, hl12⟩, l, vs, gRf, dl, ll, hlt⟩ := z
      have hi3 : i2 < sz x := by omega
      refine ⟨_, rfl, _, rfl, _, rfl, dS, _, rfl, dget kF, d, c, _, rfl, eF, by omega, by omega, fun r F3 r0 r1 k3 e3 => ?_⟩
      refine ⟨(by show 2 ≤ sizeLine; decide), fun pl npl => ?_⟩
      refine objG npl fun F4 s4 gpl => ?_
      have kF4 := (kF.trans k3).trans (.of s4)
      have e4 := e3.same s4
      obtain ⟨to, hto, eto⟩ : ∃ to : Nat, atI [V.int r, V.int 0] (if decide (V.int way = V.int 2) then (1 : Int) else 0) = some (.int ((to : Nat) : Int)) ∧ to < sz x := by
        cases decide (V.int way = V.int 2)
        · exact ⟨r.toNat, by rw [Int.toNat_of_nonneg r0]; rfl, by omega⟩
        · exact ⟨0, rfl, by omega⟩
      refine ⟨_, rfl, rfl, .inr ⟨_, rfl, pl, _, _, _, rfl, rfl, SqL.of gpl, hto, ?_⟩⟩
      have gLf4 := s4 _ _ (k3 _ _ oL.1 oL.2 gLf)
      have gRf4 := s4 _ _ (k3 _ _ oR.1 oR.2 gRf)
      have dl4 := (dl.kn (Kn.tk (Tk.kp k3 eF))).same s4
      refine ⟨fun σ F5 => ∃ z10, ∃ to : Nat, σ = [some (.ref d), some (.ref dS), some (.int fl), some (.ref F), some (.str x), some (.int way), some (.ref Lf), some (.ref R), some (.int (0 + (i2 : Int))), some (.int ((to : Nat) : Int)), z10] ∧ to < sz x ∧ Kp d c G1 F5 ∧ Dk F5 d c ∧ (∃ ls : List Nat, F5 Lf = some (.lst (ntV ls)) ∧ (∀ j ∈ ls, j < sz x) ∧ sz x ≤ ls.length + (i2 + 1) ∧ ls.length ≤ 12) ∧ F5 R = some (.lst vs) ∧ DdL Non F5 (rowsD x l) vs, ?_, fun σ F5 z => ?_⟩
      · refine ⟨_, rfl, rfl, _, rfl, ite2 (fun _ => ?_) (fun _ => ⟨_, to, rfl, eto, kF4, e4, ⟨ls, gLf4, hls, by omega, hl12⟩, gRf4, dl4⟩)⟩
        refine ⟨_, rfl, .inl ⟨rfl, _, .inl (.inl gLf4)⟩, _, rfl, _, rfl, Lf, _, rfl, .inl (SqL.of gLf4), d, c, _, rfl, e4, by rw [ntV_len]; omega, by rw [ntV_len]; omega, fun r5 F5 a0 a1 k5 e5 => ?_⟩
        rw [ntV_len] at a1
        have gLf5 := k5 _ _ oL.1 oL.2 gLf4
        have gRf5 := k5 _ _ oR.1 oR.2 gRf4
        have lt5 : r5.toNat < ls.length := by omega
        have hk5 : (ntV ls)[r5.toNat]? = some (.int ((ls[r5.toNat] : Nat) : Int)) := by rw [ntV, List.getElem?_map, List.getElem?_eq_getElem lt5]; rfl
        refine ⟨Lf, _, r5, r5.toNat, _, rfl, rfl, gLf5, by omega, by omega, ?_, hk5, ?_⟩
        · rw [ntV_len]
          exact seqIndex_of a0 a1
        · rw [ntV_erase]
          refine ⟨_, _, rfl, hls _ (List.getElem_mem lt5), (kF4.trans k5).mk nLf, e5.put oL.1 oL.2, ⟨_, upd_same, fun j hj => hls j (List.mem_of_mem_eraseIdx hj), ?_, ?_⟩, by rw [upd_ne RL]; exact gRf5, (dl4.kn (Kn.tk (Tk.kp k5 e4))).kn (ddPut gLf5)⟩
          · rw [List.length_eraseIdx_of_lt lt5]
            omega
          · rw [List.length_eraseIdx_of_lt lt5]
            omega
      · obtain ⟨z10, to, rfl, eto, k5, e5, ⟨ls, gLf, hls, hll, hl12⟩, gRf, dl⟩ := z
        refine ⟨fun v F6 => ∃ b : Bool, v = .bl b ∧ Kp d c F5 F6 ∧ Dk F6 d c, ?_, fun v F6 z => ?_⟩
        · refine ⟨_, rfl, rfl, _, rfl, ite2 (fun _ => ?_) (fun _ => ⟨_, rfl, Kp.rfl, e5⟩)⟩
          exact ⟨_, rfl, d, c, 6, rfl, e5, by decide, by decide, fun r F6 _ _ k6 e6 => ⟨rfl, _, rfl, k6, e6⟩⟩
        obtain ⟨b, rfl, k6, e6⟩ := z
        replace gLf := k6 _ _ oL.1 oL.2 gLf
        replace gRf := k6 _ _ oR.1 oR.2 gRf
        replace dl := dl.kn (Kn.tk (Tk.kp k6 e5))
        replace k6 := k5.trans k6
        refine ⟨_, rfl, .inl ⟨rfl, _, .inl (.inl gRf)⟩, _, rfl, _, rfl, (by show 3 ≤ sizeLine; decide), fun p1 np1 => objG np1 fun F7 s7 g7 => ?_⟩
        refine ⟨fun v F8 => ∃ o : Option Nat, (∀ j, o = some j → j < sz x) ∧ Same F7 F8 ∧ Dd Non F8 (tolD x o) v, ?_, fun v F8 z => ?_⟩
        · refine ⟨_, rfl, b, rfl, ite2 (fun _ => ?_) (fun _ => ?_)⟩
          · exact ⟨(by show 1 ≤ sizeLine; decide), fun p np => objG np fun F8 s8 g8 => ⟨none, (fun j z => nomatch z), s8, .tup g8 (.cons (.str _) .nil)⟩⟩
          · exact ⟨_, rfl, _, rfl, (by show 3 ≤ sizeLine; decide), fun p np => objG np fun F8 s8 g8 => ⟨some to, (fun j z => by cases z; exact eto), s8, .tup g8 (.cons (.str _) (.cons (.str _) (.cons (.int _) .nil)))⟩⟩
        obtain ⟨o, ho, s8, do8⟩ := z
        refine ⟨(by show 2 ≤ sizeLine; decide), fun p2 np2 => objG np2 fun F9 s9 g9 => ?_⟩
        have s79 := (s7.trans s8).trans s9
        have gR9 := s79 _ _ gRf
        have kn9 : Kn Non F9 (upd F9 R (.lst (vs ++ [.ref p2]))) := ddPut gR9
        have lv := dl.len
        rw [rowsD_len] at lv
        refine ⟨R, _, _, rfl, rfl, gR9, small1000 (by omega), ⟨_, _, _, rfl⟩, (k6.trans (.of s79)).mk nR1, (e6.same s79).put oR.1 oR.2, ⟨ls, by rw [upd_ne (Ne.symm RL)]; exact s79 _ _ gLf, hls, hll, hl12⟩, l ++ [o], _, upd_same, ?_, by rw [List.length_append, ll]; rfl, fun k j e => ?_⟩
        · rw [rowsD_app]
          refine ((dl.same s79).app (.cons (.tup g9 (.cons ?_ (.cons (do8.same s9) .nil))) .nil)).kn kn9
          have e7 : Dd Non F9 (thgD x i2) (.ref p1) := .tup ((s8.trans s9) _ _ g7) (.cons (.str _) (.cons (.str _) (.cons (by rw [show (0 : Int) + (i2 : Int) = ((i2 : Nat) : Int) by omega]; exact .int _) .nil)))
          rw [ll]
          exact e7
        · rcases Nat.lt_or_ge k l.length with h | h
          · rw [List.getElem?_append_left h] at e
            exact hlt k j e
          · rw [List.getElem?_append_right h] at e
            rcases Nat.eq_zero_or_pos (k - l.length) with h0 | h0
            · rw [h0] at e
              exact ho j (Option.some.inj e)
            · rw [List.getElem?_eq_none (by simp; omega)] at e
              cases e
    · obtain ⟨⟨y8, y9, y10, rfl⟩, kF, eF, ⟨ls, gLf, hls, hll, hl12⟩, l, vs, gRf, dl, ll, hlt⟩ := z
      obtain ⟨qs, gFd, lq, hq⟩ := fnd
      have gFd1 := kF _ _ oF'.1 oF'.2 (k1 _ _ oF'.1 oF'.2 gFd)
      have tk : Tk G F2 := (Tk.kp k1 eG).trans (Tk.kp kF e1)
      refine ⟨_, rfl, .inl ⟨rfl, _, .inl (.inl gFd1)⟩, _, rfl, _, rfl, R, _, rfl, .inl ⟨SqL.of gRf, fun t1 nt1 => objG nt1 fun F3 s3 g3 => ?_⟩⟩
      refine ⟨(by show 2 ≤ sizeLine; decide), fun t2 nt2 => objG nt2 fun F4 s4 g4 => ⟨(by show 2 ≤ sizeLine; decide), fun t3 nt3 => objG nt3 fun F5 s5 g5 => ?_⟩⟩
      have s35 := (s3.trans s4).trans s5
      have gFd5 := s35 _ _ gFd1
      have kn5 : Kn Non F5 (upd F5 F (.lst (qs.map V.ref ++ [.ref t3]))) := ddPut gFd5
      have li := (List.getElem?_eq_some_iff.mp hyx).1
      have ex : (qs.map V.ref ++ [V.ref t3]) = (qs ++ [t3]).map V.ref := by rw [List.map_append]; rfl
      have inj : ∀ (j : Nat), ys[j]? = some x → j = i := fun j e => by
        obtain ⟨h1, h2⟩ := List.getElem?_eq_some_iff.mp e
        obtain ⟨h3, h4⟩ := List.getElem?_eq_some_iff.mp hyx
        exact (List.getElem_inj ynd).mp (h2.trans h4.symm)
      refine ⟨F, _, _, rfl, rfl, gFd5, small1000 (by rw [List.length_map]; omega), ⟨_, _, _, _, _, _, _, rfl⟩, ((kG1.trans kF).trans (.of s35)).mk nFH, (eF.same s35).put oF'.1 oF'.2, by rw [upd_ne SF]; exact s35 _ _ (kF _ _ oS.1 oS.2 (k1 _ _ oS.1 oS.2 gS)), fun y => if y = x then l else ts y, ⟨qs ++ [t3], by rw [upd_same, ex], by rw [List.length_append, lq]; rfl, fun j y hj hy => ?_⟩, ⟨hnm, fun y => ?_, fun y k j e => ?_⟩, fun j y hy hj => ?_⟩
      · rcases Nat.lt_or_ge j i with h | h
        · obtain ⟨q1, t, e1', e2', d'⟩ := hq j y h hy
          have ne : y ≠ x := fun z => by
            rw [z] at hy
            have := inj j hy
            omega
          refine ⟨q1, t, by rw [List.getElem?_append_left (by omega)]; exact e1', kn5.tup _ _ (s35 _ _ (tk _ _ e2')), ?_⟩
          show Dd Non _ (tblD y (if y = x then l else ts y)) t
          rw [if_neg ne]
          exact ((d'.kn (Kn.tk tk)).same s35).kn kn5
        · have ji : j = i := by omega
          subst ji
          have yx : y = x := Option.some.inj (hy.symm.trans hyx)
          subst yx
          refine ⟨t3, .ref t2, by rw [List.getElem?_append_right (by omega), show j - qs.length = 0 by omega]; rfl, kn5.tup _ _ g5, ?_⟩
          show Dd Non _ (tblD y (if y = y then l else ts y)) _
          rw [if_pos rfl]
          exact (Dd.tup (s5 _ _ g4) (.cons (.str _) (.cons (.tup ((s4.trans s5) _ _ g3) (dl.same s35)) .nil))).kn kn5
      · show (if y = x then l else ts y).length ≤ 12
        by_cases h : y = x
        · rw [if_pos h]; omega
        · rw [if_neg h]; exact tok.l12 y
      · replace e : (if y = x then l else ts y)[k]? = some (some j) := e
        show j < (if y = x then l else ts y).length
        by_cases h : y = x
        · rw [if_pos h] at e ⊢
          have := hlt k j e
          omega
        · rw [if_neg h] at e ⊢
          exact tok.lt y k j e
      · show (if y = x then l else ts y).length = sz y
        by_cases h : y = x
        · rw [if_pos h, h]; omega
        · rw [if_neg h]
          refine hts j y hy ?_
          rcases Nat.lt_or_ge j i with h1 | h1
          · exact h1
          · have ji : j = i := by omega
            rw [ji, hyx] at hy
            exact absurd (Option.some.inj hy).symm h
  · obtain ⟨⟨y4, y5, y6, y7, y8, y9, y10, rfl⟩, kG, eG, gS, ts, ⟨qs, gFd, lq, hq⟩, tok, hts⟩ := z
    rw [List.length_map] at lq hq hts
    refine ⟨_, rfl, F, _, rfl, SqL.of gFd, fun m ob nm ho1 ho2 => ?_⟩
    have sm := newS (o := .frz ob (.tup (qs.map V.ref))) nm
    refine q m ys ts _ (kG.trans (.of sm)) (eG.same sm) ⟨⟨ob, qs, upd_same, ho1, ho2, lq, fun i x hx => ?_⟩, ynd, by omega⟩ pm ⟨fun x hx => hnm x (pm.mem_iff.mp hx), tok.l12, tok.lt⟩ fun x hx => ?_
    · obtain ⟨q1, t, e1, e2, d1⟩ := hq i x (List.getElem?_eq_some_iff.mp hx).1 hx
      exact ⟨q1, t, e1, sm _ _ e2, d1.same sm⟩
    · obtain ⟨j, hj⟩ := List.mem_iff_getElem?.mp (pm.mem_iff.mpr hx)
      exact hts j x hj (List.getElem?_eq_some_iff.mp hj).1
end
end Kq

/-! _law_mapped -/
namespace Kq
open PySem PySem.Spec PyProof.Rows L2 Kf Kg Kv Kk
theorem merge_app : ∀ {more kvs : List (Key × V)}, ((kvs ++ more).map (·.1)).Nodup → mergeK kvs more = kvs ++ more
  | [], kvs, _ => by rw [List.append_nil]; rfl
  | kv :: r, kvs, h => by
    show mergeK (putK kvs kv.1 kv.2) r = _
    have hn : valV kvs kv.1 = none := by
      cases e : valV kvs kv.1 with
      | none => rfl
      | some v =>
        exfalso
        have z : (kvs.any fun p => decide (p.1 = kv.1)) = true := by rw [valV_any, e]; rfl
        obtain ⟨p, hp, e⟩ := List.any_eq_true.mp z
        rw [List.map_append] at h
        exact (List.nodup_append.mp h).2.2 p.1 (List.mem_map.mpr ⟨p, hp, rfl⟩) kv.1 (by simp) (of_decide_eq_true e)
    rw [putK_new _ hn, merge_app (by rw [List.append_assoc]; exact h), List.append_assoc]
    rfl
theorem cutFrom1 (x : V) (vs : List V) : cutV (x :: vs) (some 1) none = vs := by
  unfold cutV
  rw [show HT.sIx (x :: vs).length 0 (some 1) = min 1 (x :: vs).length from HT.sIx_nat _ _ 1, HT.sIx_none, List.length_cons, Nat.min_eq_left (by omega)]
  show (vs.take (vs.length + 1 - 1)) = vs
  rw [Nat.add_sub_cancel, List.take_length]
theorem notWhole (x : V) (vs : List V) : ¬ (HT.sIx (x :: vs).length 0 (some 1) = 0 ∧ HT.sIx (x :: vs).length (x :: vs).length none = (x :: vs).length) := by
  rw [show HT.sIx (x :: vs).length 0 (some 1) = min 1 (x :: vs).length from HT.sIx_nat _ _ 1, List.length_cons, Nat.min_eq_left (by omega)]
  rintro ⟨h, _⟩
  cases h
theorem szBig {n : Nat} (h : n ≤ 1000) : n ≤ sizeLine := Nat.le_of_lt (small1000 h)
theorem isiK {X : Cx} (K : PySem.W.Frag) (h : X.K = K) : CallR X (.builtin "isinstance") (rIsi K) := by
  subst h
  exact call_isi
def odt : Option Dt → Dt
  | none => .non
  | some d => d
def sq : List (Option Dt) → Option (List Dt)
  | [] => some []
  | none :: _ => none
  | some d :: r => (sq r).map (d :: ·)
theorem sq_none : ∀ {os : List (Option Dt)}, none ∈ os → sq os = none
  | none :: _, _ => rfl
  | some d :: r, h => by
    rcases List.mem_cons.mp h with h | h
    · cases h
    · show (sq r).map _ = none
      rw [sq_none h]
      rfl
theorem sq_some : ∀ {os : List (Option Dt)}, none ∉ os → ∃ ds, sq os = some ds ∧ os.map odt = ds
  | [], _ => ⟨[], rfl, rfl⟩
  | none :: _, h => absurd List.mem_cons_self h
  | some d :: r, h => by
    obtain ⟨ds, h1, h2⟩ := sq_some (os := r) fun z => h (List.mem_cons_of_mem _ z)
    exact ⟨d :: ds, by show (sq r).map _ = _; rw [h1]; rfl, by rw [List.map_cons, h2]; rfl⟩
theorem sq_mpL (g : Dt → Option Dt) : ∀ us : List Dt, mpL g us = sq (us.map g)
  | [] => rfl
  | u :: us => by
    rw [List.map_cons]
    show (g u).bind _ = _
    rw [sq_mpL g us]
    cases g u <;> rfl
theorem mp_pair (f : Str → Nat → Option Nat) (a b : Kd) (w u v : Dt) : mp f (.pair a b) (.tup [w, u, v]) = (sq [mp f a u, mp f b v]).map fun ds => .tup (w :: ds) := by
  simp only [mp]
  cases mp f a u with
  | none => rfl
  | some u' => cases mp f b v <;> rfl
theorem mp_left (f : Str → Nat → Option Nat) (a b : Kd) (u : Dt) : mp f (.eith a b) (.tup [.str "left", u]) = (sq [mp f a u]).map fun ds => .tup (.str "left" :: ds) := by
  simp only [mp, if_true]
  cases mp f a u <;> rfl
theorem mp_right (f : Str → Nat → Option Nat) (a b : Kd) (u : Dt) : mp f (.eith a b) (.tup [.str "right", u]) = (sq [mp f b u]).map fun ds => .tup (.str "right" :: ds) := by
  simp only [mp, if_neg (show ¬ (("right" : Str) = "left") by decide +kernel)]
  cases mp f b u <;> rfl
theorem mp_lst (f : Str → Nat → Option Nat) (a : Kd) (w : Dt) (us : List Dt) : mp f (.lst a) (.tup [w, .tup us]) = (sq (us.map (mp f a))).map fun ds => .tup [w, .tup ds] := by
  simp only [mp]
  rw [sq_mpL]
theorem any_non (os : List (Option Dt)) (h : ∀ d, some d ∈ os → PyData.eqv d.toP .none = false) : ((Dt.toPs (os.map odt)).any fun z => PyData.eqv z .none) = os.any Option.isNone := by
  induction os with
  | nil => rfl
  | cons o r ih =>
    rw [List.map_cons]
    show (PyData.eqv (odt o).toP .none || (Dt.toPs (r.map odt)).any fun z => PyData.eqv z .none) = _
    rw [ih fun d hd => h d (List.mem_cons_of_mem _ hd)]
    cases o with
    | none => rfl
    | some d =>
      have e := h d List.mem_cons_self
      show (PyData.eqv d.toP .none || _) = (false || _)
      rw [e]
theorem wt_non {sz : Str → Nat} : ∀ {k : Kd} {d : Dt}, Wt sz k d → PyData.eqv d.toP .none = false
  | .opn x, d, h => by obtain ⟨k, _, rfl⟩ := h; rfl
  | .num, d, h => by obtain ⟨k, _, _, rfl⟩ := h; rfl
  | .tru, d, h => by obtain ⟨b, rfl⟩ := h; rfl
  | .pair a b, d, h => by obtain ⟨u, v, rfl, _, _⟩ := h; rfl
  | .eith a b, d, h => by rcases h with ⟨u, rfl, _⟩ | ⟨u, rfl, _⟩ <;> rfl
  | .lst a, d, h => by obtain ⟨u, rfl, _⟩ := h; rfl
  | .fn _ _, _, h => h.elim
/-- the pairs of the maps -/
theorem mps_kvs {H : Hp} {qs : List Addr} {xs : List Str} {ts : Str → List (Option Nat)} (l : qs.length = xs.length) (h : ∀ (i : Nat) (x : Str), xs[i]? = some x → ∃ (q : Addr) (t : V), qs[i]? = some q ∧ H q = some (.tup [.str x, t]) ∧ Dd Non H (tblD x (ts x)) t) (K : PySem.W.Frag) :
    ∃ kvs : List (Key × V), Paired (fun p kv => SqT K H p [kV kv.1, kv.2]) qs kvs ∧ kvs.map (·.1) = xs.map Sum.inr ∧ ∀ x ∈ xs, ∃ t, valV kvs (.inr x) = some t ∧ Dd Non H (tblD x (ts x)) t := by
  induction xs generalizing qs with
  | nil =>
    cases qs with
    | nil => exact ⟨[], .nil, rfl, fun x hx => by cases hx⟩
    | cons _ _ => cases l
  | cons x xs ih =>
    cases qs with
    | nil => cases l
    | cons q qs =>
      obtain ⟨q1, t, e1, e2, d⟩ := h 0 x rfl
      have e1 : q = q1 := Option.some.inj e1
      subst e1
      obtain ⟨kvs, p, ek, hv⟩ := ih (by simpa using l) fun i y hy => by
        obtain ⟨q2, t2, f1, f2, f3⟩ := h (i + 1) y hy
        exact ⟨q2, t2, f1, f2, f3⟩
      refine ⟨(.inr x, t) :: kvs, .cons (SqT.of e2) p, by rw [List.map_cons, List.map_cons, ek], fun y hy => ?_⟩
      unfold valV
      rw [List.find?_cons]
      by_cases c : x = y
      · subst c
        rw [show decide ((Sum.inr x : Key) = .inr x) = true from decide_eq_true rfl]
        exact ⟨t, rfl, d⟩
      · rw [show decide ((Sum.inr x : Key) = .inr y) = false from decide_eq_false fun z => c (Sum.inr.inj z)]
        rcases List.mem_cons.mp hy with e | hy
        · exact absurd e.symm c
        · exact hv y hy
section
variable {P : Program} {w : World} {K : PySem.W.Frag} {mg : Str → Option Value} {base : Heap} {cF oF : Addr}
theorem mp_flat {sz : Str → Nat} {f : Str → Nat → Option Nat} : ∀ {k : Kd} {d : Dt}, Wt sz k d → d.isTup = false → mp f k d = some d
  | .opn x, d, h, e => by obtain ⟨k, _, rfl⟩ := h; cases e
  | .num, d, h, _ => by simp only [mp]
  | .tru, d, h, _ => by simp only [mp]
  | .pair a b, d, h, e => by obtain ⟨u, v, rfl, _, _⟩ := h; cases e
  | .eith a b, d, h, e => by rcases h with ⟨u, rfl, _⟩ | ⟨u, rfl, _⟩ <;> cases e
  | .lst a, d, h, e => by obtain ⟨u, rfl, _⟩ := h; cases e
  | .fn _ _, _, h, _ => h.elim
/-- a worth of parts -/
structure Cmp (sz : Str → Nat) (f : Str → Nat → Option Nat) (xs : List Str) (n : Nat) (k : Kd) (d : Dt) (w : Str) (ps : List (Kd × Dt)) : Prop where
  dd : d = if w = "list" then .tup [.str w, .tup (ps.map (·.2))] else .tup (.str w :: ps.map (·.2))
  ne : w ≠ "list" → ps ≠ []
  nt : w ≠ "thing"
  wt : ∀ p ∈ ps, Wt sz p.1 p.2
  dp : ∀ p ∈ ps, p.1.dp + 1 ≤ n
  d3 : ∀ p ∈ ps, p.1.dp ≤ 3
  op : ∀ p ∈ ps, ∀ x ∈ p.1.opens, x ∈ xs
  l12 : ps.length ≤ 12
  e : mp f k d = (sq (ps.map fun p => mp f p.1 p.2)).map fun ds => if w = "list" then .tup [.str w, .tup ds] else .tup (.str w :: ds)
theorem cmp_of {sz : Str → Nat} {f : Str → Nat → Option Nat} {xs : List Str} {n : Nat} : ∀ {k : Kd} {d : Dt}, Wt sz k d → k.dp + 1 ≤ n + 1 → k.dp ≤ 3 → (∀ x ∈ k.opens, x ∈ xs) → d.isTup = true → k.isOp = false → ∃ w ps, Cmp sz f xs n k d w ps
  | .opn x, d, h, _, _, _, _, e => by cases e
  | .num, d, h, _, _, _, e, _ => by obtain ⟨k, _, _, rfl⟩ := h; cases e
  | .tru, d, h, _, _, _, e, _ => by obtain ⟨b, rfl⟩ := h; cases e
  | .pair a b, d, h, hn, h3, hx, _, _ => by
    obtain ⟨u, v, rfl, hu, hv⟩ := h
    have h1 : max a.dp b.dp + 1 + 1 ≤ n + 1 := hn
    have h2 : max a.dp b.dp + 1 ≤ 3 := h3
    have nl : ¬ (("pair" : Str) = "list") := by decide +kernel
    refine ⟨"pair", [(a, u), (b, v)], by rw [if_neg nl]; rfl, (fun _ z => nomatch z), by decide +kernel, fun p hp => ?_, fun p hp => ?_, fun p hp => ?_, fun p hp => ?_, by show 2 ≤ 12; decide, by rw [mp_pair]; simp only [if_neg nl]; rfl⟩
    all_goals rcases List.mem_cons.mp hp with rfl | hp
    all_goals try rw [List.mem_singleton.mp hp]
    · exact hu
    · exact hv
    · show a.dp + 1 ≤ n; omega
    · show b.dp + 1 ≤ n; omega
    · show a.dp ≤ 3; omega
    · show b.dp ≤ 3; omega
    · exact fun x h => hx x (List.mem_append_left _ h)
    · exact fun x h => hx x (List.mem_append_right _ h)
  | .eith a b, d, h, hn, h3, hx, _, _ => by
    have h1 : max a.dp b.dp + 1 + 1 ≤ n + 1 := hn
    have h2 : max a.dp b.dp + 1 ≤ 3 := h3
    rcases h with ⟨u, rfl, hu⟩ | ⟨u, rfl, hu⟩
    · have nl : ¬ (("left" : Str) = "list") := by decide +kernel
      refine ⟨"left", [(a, u)], by rw [if_neg nl]; rfl, (fun _ z => nomatch z), by decide +kernel, fun p hp => ?_, fun p hp => ?_, fun p hp => ?_, fun p hp => ?_, by show 1 ≤ 12; decide, by rw [mp_left]; simp only [if_neg nl]; rfl⟩
      all_goals rw [List.mem_singleton.mp hp]
      · exact hu
      · show a.dp + 1 ≤ n; omega
      · show a.dp ≤ 3; omega
      · exact fun x h => hx x (List.mem_append_left _ h)
    · have nl : ¬ (("right" : Str) = "list") := by decide +kernel
      refine ⟨"right", [(b, u)], by rw [if_neg nl]; rfl, (fun _ z => nomatch z), by decide +kernel, fun p hp => ?_, fun p hp => ?_, fun p hp => ?_, fun p hp => ?_, by show 1 ≤ 12; decide, by rw [mp_right]; simp only [if_neg nl]; rfl⟩
      all_goals rw [List.mem_singleton.mp hp]
      · exact hu
      · show b.dp + 1 ≤ n; omega
      · show b.dp ≤ 3; omega
      · exact fun x h => hx x (List.mem_append_right _ h)
  | .lst a, d, h, hn, h3, hx, _, _ => by
    obtain ⟨us, rfl, l12, hu⟩ := h
    have h1 : a.dp + 1 + 1 ≤ n + 1 := hn
    have h2 : a.dp + 1 ≤ 3 := h3
    have em : (us.map fun u => (a, u)).map (·.2) = us := by rw [List.map_map]; exact List.map_id us
    refine ⟨"list", us.map fun u => (a, u), by rw [if_pos rfl, em], fun z => absurd rfl z, by decide +kernel, fun p hp => ?_, fun p hp => ?_, fun p hp => ?_, fun p hp => ?_, by rw [List.length_map]; exact l12, by rw [mp_lst]; simp only [if_true, List.map_map]; rfl⟩
    all_goals obtain ⟨u, hm, rfl⟩ := List.mem_map.mp hp
    · exact hu u hm
    · show a.dp + 1 ≤ n; omega
    · show a.dp ≤ 3; omega
    · exact hx
  | .fn _ _, _, h, _, _, _, _, _ => h.elim
abbrev tLMapped : Stmt := tp 15
abbrev nLMapped : List Str := ["_law_maps_here", "_law_worth_here", "_law_told", "_law_parts", "_law_one", "_law_inner"]
abbrev psLMapped : List Str := ["_law_maps_here", "_law_worth_here"]
theorem scLMapped : FnScope nLMapped psLMapped (defScope tLMapped) := ⟨rfl, rfl, rfl, by decide +kernel, rfl, by decide +kernel, by decide +kernel⟩
def spLMapped (n : Nat) : Sp := fun vs H Q _ => ∃ (m : Addr) (wv : V) (k : Kd) (d : Dt) (xs : List Str) (ts : Str → List (Option Nat)), vs = [.ref m, wv] ∧ Dd Non H d wv ∧ Wt (fun x => (ts x).length) k d ∧ (∀ x ∈ k.opens, x ∈ xs) ∧ Mps H m xs ts ∧ TsOk xs ts ∧ k.dp ≤ 3 ∧ k.dp + 1 ≤ n ∧
  ∀ (v : V) (G : Hp), Same H G → Dd Non G (odt (mp (fT ts) k d)) v → Q v G
theorem okLMapped1 {f : Addr} {fd : FuncData} {n k : Nat} (F : Fun K "_law_mapped" "_law_mapped" tLMapped f fd)
    (DX : Okd P w K mg base CX0 (k) "_law_mapped" ["_law_maps_here", "_law_worth_here"] (spLMapped n))
    (m_dict : mg "dict" = none)
    (m_isinstance : mg "isinstance" = none)
    (m_tuple : mg "tuple" = none) : FnOk P w K mg base CX0 (k + 1) f fd psLMapped (spLMapped (n + 1)) := by
  obtain ⟨fX, fdX, GX, bX, gX, kX⟩ := DX
  refine F.ok scLMapped (fun vs H Q E h => ?_) (fun cdv A outer s H vs Q E hr h => ?_)
  · obtain ⟨m, wv, k, d, xs, ts, rfl, _⟩ := h
    rfl
  obtain ⟨m, wv, k, d, xs, ts, rfl, dw, wt, hx, mps, ok, d3, hn, q⟩ := h
  have hu65 : (cxOf CX0 P w K mg base nLMapped "_law_mapped" (defScope tLMapped) f cdv A outer s H E).nox.A.units + 65 < cLine := by
    have := hr.un
    show (A.deeper _).units + 65 < cLine
    omega
  refine ⟨_, C8.pss_cut (ps_if (pt_not (pt_val (pe_callB (isiK K rfl) (by rfl) m_isinstance PyProof.Rows.boot_isinstance (pa_cons (pv 1) (pa_cons (pe_bltn (v := .ty "tuple") (by rfl) m_tuple PyProof.Rows.boot_tuple rfl) pa_nil))))) (pss_one (ps_ret (pv 1))) pss_nil)
    (C8.pss_cut (ps_if (pt_cmpR op_eq (pe_ix ix_tup (pv 1) pe_int (fun _ _ => rfl)) pe_str (nomark _)) (pss_cons (ps_set (i := 2) scLMapped.nd rfl (.inl rfl) (pe_ix ix_tup (pe_ix ix_tup (pe_ix ix_tup (pe_dget (hu_of hr) (pe_callTy (Kt.call_dictF rfl) (by rfl) m_dict PyProof.Rows.boot_dict (pa_cons (pv 0) pa_nil)) (pe_ix ix_tup (pv 1) pe_int (fun _ _ => rfl)) (fun _ _ => rfl)) pe_int (fun _ _ => rfl)) (pe_ix ix_tup (pv 1) pe_int (fun _ _ => rfl)) (fun _ _ => rfl)) pe_int (fun _ _ => rfl)))
    (pss_one (ps_ret (pe_cut (pe_ifExp (pt_cmpR (op_eqD hr.units) (pv 2) (pe_tup (pa_cons pe_str pa_nil)) (nomark _)) pe_non (pv 2)))))) pss_nil)
    (C8.pss_cut (ps_set (i := 3) scLMapped.nd rfl (.inl rfl) (pe_cut (pe_ifExp (pt_cmpR op_eq (pe_ix ix_tup (pv 1) pe_int (fun _ _ => rfl)) pe_str (nomark _)) (pe_ix ix_tup (pv 1) pe_int (fun _ _ => rfl)) (pe_slice sl_tup (pv 1) (po_some pe_int) po_none))))
    (pss_cons (ps_setLc (i := 5) (own := [("_law_one", 4)]) (g := gName 4) (by rfl) scLMapped.nd rfl rfl (sw_true rfl rfl rfl (by decide +kernel)) (pi_tup (pv 3)) (blkOk_by (own := [("_law_one", 4)]) (N := nLMapped) (sc := defScope tLMapped) (by decide +kernel)) (fun _ _ _ _ _ => (pg_name (i := 4) scLMapped.nd rfl (.inl rfl))) (fun _ _ _ _ _ => pts_nil) (fun _ _ _ _ _ => (pe_call GX hr (by rfl) gX kX bX .nil pass0 (pa_cons (pv 0) (pa_cons (pv 4) pa_nil)))))
    (pss_cons (ps_if (pt_cmpR (op_inD hu65) pe_non (pv 5) rfl) (pss_one (ps_ret pe_non)) pss_nil)
    (pss_one (ps_ret (pe_cut (pe_ifExp (pt_cmpR op_eq (pe_ix ix_tup (pv 1) pe_int (fun _ _ => rfl)) pe_str (nomark _)) (pe_tup (pa_cons pe_str (pa_cons (pe_callTy call_tuple_of (by rfl) m_tuple PyProof.Rows.boot_tuple (pa_cons (pv 5) pa_nil)) pa_nil))) (pe_op op_catT (pe_tup (pa_cons (pe_ix ix_tup (pv 1) pe_int (fun _ _ => rfl)) pa_nil)) (pe_callTy call_tuple_of (by rfl) m_tuple PyProof.Rows.boot_tuple (pa_cons (pv 5) pa_nil))))))))))), ?_⟩
  have hwt := wt
  refine ⟨fun σ G => σ = [some (.ref m), some wv, none, none, none, none] ∧ G = H ∧ d.isTup = true, ?_, fun σ G z => ?_⟩
  · refine ⟨_, rfl, _, _, _, _, d.isTup, rfl, .ty "tuple", dw.ty, kTup K d, _, rfl, ?_⟩
    cases ht : d.isTup with
    | false =>
      refine iteT ⟨_, rfl, q wv H (Same.refl _) ?_⟩
      rw [mp_flat wt ht]
      exact dw
    | true => exact iteF ⟨rfl, rfl, rfl⟩
  obtain ⟨rfl, rfl, ht⟩ := z
  refine ⟨fun σ F => σ = [some (.ref m), some wv, none, none, none, none] ∧ G = F ∧ k.isOp = false, ?_, fun σ F z => ?_⟩
  · cases hk : k.isOp with
    | true =>
      cases k with
      | opn x =>
        obtain ⟨j, hj, rfl⟩ := wt
        have hj : j < (ts x).length := hj
        have l12 := ok.l12 x
        obtain ⟨wp, u1, u2, rfl, hwp, dx, dn⟩ := Dd.of3 (show Dd Non G (.tup [.str "thing", .str x, .int (j : Nat)]) wv from dw)
        cases dx
        cases dn
        refine ⟨_, rfl, wp, _, _, _, rfl, rfl, SqT.of hwp, atI_nat (j := 0) rfl, rfl, _, rfl, ite2 (fun _ => ?_) fun c => absurd (by decide +kernel) c⟩
        obtain ⟨⟨o, qs, hm, ho1, ho2, lq, hq⟩, nd, l9⟩ := id mps
        obtain ⟨kvs, pp, ek, hv⟩ := mps_kvs lq hq K
        have xm := hx x (List.mem_singleton.mpr rfl)
        obtain ⟨t, ev, dt⟩ := hv x xm
        refine ⟨_, rfl, m, o, qs, kvs, rfl, hm, ho1, ho2, pp, fun dD nD => ?_⟩
        rw [merge_app (more := kvs) (kvs := []) (by rw [List.nil_append, ek]; exact List.Pairwise.map Sum.inr (fun a b h z => h (Sum.inr.inj z)) nd)]
        refine objG nD fun G1 s1 gD => ?_
        obtain ⟨tp, tv, rfl, htp, dr⟩ := Dd.of2 (dt.same s1)
        obtain ⟨rp, rs, rfl, hrp, drs⟩ := Dd.ofT dr
        have hwp1 := s1 _ _ hwp
        obtain ⟨r, hr, dr1⟩ := drs.get' (i := j) (x := .tup [thgD x j, tolD x ((ts x)[j]'hj)]) (by
          unfold rowsD
          rw [List.getElem?_map, List.getElem?_zipIdx, List.getElem?_eq_getElem hj]
          show some (Dt.tup [thgD x (0 + j), _]) = _
          rw [Nat.zero_add])
        obtain ⟨r1, u, u', rfl, hr1, _, dto⟩ := Dd.of1 dr1
        refine ⟨_, rfl, wp, _, _, _, rfl, rfl, SqT.of hwp1, atI_nat (j := 1) rfl, _, _, rfl, ev ▸ DGet.k (k := Sum.inr x) gD, tp, _, _, _, rfl, rfl, SqT.of htp, atI_nat (j := 1) rfl, ?_⟩
        refine ⟨_, rfl, wp, _, _, _, rfl, rfl, SqT.of hwp1, atI_nat (j := 2) rfl, rp, _, _, _, rfl, rfl, SqT.of hrp, atI_nat hr, r1, _, _, _, rfl, rfl, SqT.of hr1, atI_nat (j := 1) rfl, ?_⟩
        have em : mp (fT ts) (.opn x) (thgD x j) = ((ts x)[j]'hj).map (thgD x) := by
          simp only [thgD, mp, Int.toNat_natCast, fT, List.getElem?_eq_getElem hj]
          rfl
        have okt := tol_ok (ok.nm x xm) (o := (ts x)[j]'hj) fun i e => by
          have := ok.lt x j i (by rw [List.getElem?_eq_getElem hj, e])
          omega
        refine ⟨fun v F => Same G1 F ∧ Dd Non F (odt (mp (fT ts) (.opn x) (thgD x j))) v, ?_, fun v F z => q v F (s1.trans z.1) z.2⟩
        refine ⟨_, rfl, (by show 1 ≤ sizeLine; decide), fun fp nfp => objG nfp fun G2 s2 g2 => ?_⟩
        refine ⟨(tolD x ((ts x)[j]'hj)).toP, fltD.toP, dd_dp K (dto.same s2), .tup (SqT.of g2) (.cons (.str _) .nil), okt.lay (by decide), by decide +kernel, _, rfl, ?_⟩
        rw [tol_eqv, em]
        cases hto : (ts x)[j]'hj with
        | none => exact iteT ⟨s2, .non⟩
        | some i =>
          refine iteF ⟨_, rfl, s2, ?_⟩
          rw [hto] at dto
          exact dto.same s2
      | _ => cases hk
    | false =>
      obtain ⟨w, ps, cm⟩ := cmp_of (f := fT ts) wt hn d3 hx ht hk
      obtain ⟨wp, us, rfl, hwp, dus⟩ : ∃ wp us, wv = .ref wp ∧ G wp = some (.tup (.str w :: us)) ∧ True := by
        have dw' := dw
        rw [cm.dd] at dw'
        by_cases h : w = "list"
        · rw [if_pos h] at dw'
          obtain ⟨wp, u, e, g, _⟩ := Dd.of2 dw'
          exact ⟨wp, [u], e, g, trivial⟩
        · rw [if_neg h] at dw'
          obtain ⟨wp, us, e, g, dl⟩ := Dd.ofT dw'
          cases dl with
          | cons d1 dl => cases d1; exact ⟨wp, _, e, g, trivial⟩
      refine ⟨_, rfl, wp, _, _, _, rfl, rfl, SqT.of hwp, atI_nat (j := 0) rfl, rfl, _, rfl, ite2 (fun c => absurd (V.str.inj (of_decide_eq_true c)) cm.nt) fun _ => ⟨rfl, rfl, rfl⟩⟩
  obtain ⟨rfl, rfl, hk⟩ := z
  obtain ⟨w, ps, cm⟩ := cmp_of (f := fT ts) wt hn d3 hx ht hk
  obtain ⟨wp, us, rfl, hwp, hus⟩ : ∃ wp us, wv = .ref wp ∧ G wp = some (.tup (.str w :: us)) ∧ ((w = "list" ∧ ∃ u, us = [u] ∧ Dd Non G (.tup (ps.map (·.2))) u) ∨ (w ≠ "list" ∧ DdL Non G (ps.map (·.2)) us)) := by
    have dw' := dw
    rw [cm.dd] at dw'
    by_cases h : w = "list"
    · rw [if_pos h] at dw'
      obtain ⟨wp, u, e, g, du⟩ := Dd.of2 dw'
      exact ⟨wp, [u], e, g, .inl ⟨h, u, rfl, du⟩⟩
    · rw [if_neg h] at dw'
      obtain ⟨wp, us, e, g, dl⟩ := Dd.ofT dw'
      cases dl with
      | cons d1 dl => cases d1; exact ⟨wp, _, e, g, .inr ⟨h, dl⟩⟩
  have isl : ∀ x : Bool, decide (V.str w = V.str "list") = decide (w = "list") := fun _ => decide_eq_decide.mpr ⟨fun z => V.str.inj z, fun z => by rw [z]⟩
  refine ⟨fun σ F => ∃ pa vs, σ = [some (.ref m), some (.ref wp), none, some (.ref pa), none, none] ∧ Same G F ∧ F pa = some (.tup vs) ∧ DdL Non F (ps.map (·.2)) vs, ?_, fun σ F z => ?_⟩
  · refine ⟨fun v F => ∃ pa vs, v = .ref pa ∧ Same G F ∧ F pa = some (.tup vs) ∧ DdL Non F (ps.map (·.2)) vs, ?_, fun v F z => by obtain ⟨pa, vs, rfl, z⟩ := z; exact ⟨pa, vs, rfl, z⟩⟩
    refine ⟨_, rfl, wp, _, _, _, rfl, rfl, SqT.of hwp, atI_nat (j := 0) rfl, rfl, _, rfl, ?_⟩
    rcases hus with ⟨h, u, rfl, du⟩ | ⟨h, dl⟩
    · refine ite2 (fun _ => ?_) fun c => absurd (decide_eq_true (by rw [h])) c
      obtain ⟨up, vs, rfl, hup, dl⟩ := Dd.ofT du
      exact ⟨_, rfl, wp, _, _, _, rfl, rfl, SqT.of hwp, atI_nat (j := 1) rfl, up, vs, rfl, Same.refl _, hup, dl⟩
    · refine ite2 (fun c => absurd (V.str.inj (of_decide_eq_true c)) h) fun _ => ?_
      refine ⟨_, rfl, _, rfl, wp, _, rfl, SqT.of hwp, notWhole _ _, fun p np => ?_⟩
      rw [cutFrom1]
      exact objG np fun F s g => ⟨p, us, rfl, s, g, dl.same s⟩
  obtain ⟨pa, vs, rfl, sF, hpa, dl⟩ := z
  have lps : vs.length = ps.length := by rw [← dl.len, List.length_map]
  have l12 := cm.l12
  refine ⟨_, rfl, pa, rfl, ⟨_, SqT.of hpa⟩, fun D nD => ?_⟩
  refine lc_tup (K := K) (a := pa) (xs := vs) (fun i F2 => Same F F2 ∧ ∃ ws, F2 D = some (.lst ws) ∧ DdL Non F2 (((ps.take i).map fun p => mp (fT ts) p.1 p.2).map odt) ws ∧ ws.length ≤ i) ⟨newS nD, [], upd_same, .nil, Nat.le_refl _⟩ (fun i F2 _ z => SqT.of (z.1 _ _ hpa)) (fun i x F2 hxi z => ?_) (fun F2 z => ?_)
  · obtain ⟨s2, ws, gD, dws, lw⟩ := z
    obtain ⟨u, hui, du⟩ := dl.get hxi
    rw [List.getElem?_map] at hui
    obtain ⟨p, hp, rfl⟩ := Option.map_eq_some_iff.mp hui
    have pm := List.mem_of_getElem? hp
    have li := (List.getElem?_eq_some_iff.mp hp).1
    refine ⟨rfl, _, rfl, _, rfl, m, x, p.1, p.2, xs, ts, rfl, du.same s2, cm.wt p pm, cm.op p pm, mps.same (sF.trans s2), ok, cm.d3 p pm, cm.dp p pm, fun v F3 s3 dv => ?_⟩
    have gD3 := s3 _ _ gD
    refine ⟨ws, gD3, small1000 (by omega), sPutS (s2.trans s3) nD, _, upd_same, ?_, by rw [List.length_append]; show ws.length + 1 ≤ _; omega⟩
    rw [List.take_add_one, hp, List.map_append, List.map_append]
    exact ((dws.same s3).app (.cons dv .nil)).kn (ddPut gD3)
  obtain ⟨s2, ws, gD, dws, lw⟩ := z
  rw [lps, List.take_length] at dws
  have hwp2 := (sF.trans s2) _ _ hwp
  generalize hos : ps.map (fun p => mp (fT ts) p.1 p.2) = os at dws
  have owt : ∀ e, some e ∈ os → ∃ p ∈ ps, Wt (fun x => (ts x).length) p.1 e := fun e he => by
    rw [← hos] at he
    obtain ⟨p, pm, ep⟩ := List.mem_map.mp he
    exact ⟨p, pm, mp_wt (fun x k j hk hj => by
      unfold fT at hj
      cases q2 : (ts x)[k]? with
      | none => rw [q2] at hj; cases hj
      | some o2 => rw [q2] at hj; exact ok.lt x k j (by rw [q2]; exact congrArg some hj)) (cm.wt p pm) ep⟩
  have eok : ∀ o ∈ os, Ok1 7 (wB 3) (odt o) := fun o ho => by
    cases o with
    | none => exact ⟨trivial, rfl, Nat.zero_le _, by show 4 ≤ wB 3; exact Nat.le_trans (by decide) (wB_300 3)⟩
    | some e =>
      obtain ⟨p, pm, w2⟩ := owt e ho
      have h3 := cm.d3 p pm
      exact (wt_ok (fun x => ok.l12 x) (fun x hx' => ok.nm x (cm.op p pm x hx')) w2).up (by omega) (wB_mono h3)
  have lish : SeqAt.shaped (.list (Dt.toPs (os.map odt))) = true := by
    have h1 : Ok1 8 (12 * (wB 3 + 2) + 3) (.tup (os.map odt)) := Ok1.tup (fun x hx' => by
      obtain ⟨o, ho, rfl⟩ := List.mem_map.mp hx'
      exact eok o ho) (by rw [List.length_map, ← hos, List.length_map]; exact l12)
    exact h1.lay (by decide)
  refine ⟨_, rfl, .none, Dt.toPs (os.map odt), .non, .lst (SqL.of gD) (ddl_dp K dws), by decide +kernel, lish, ?_⟩
  rw [any_non os fun e he => by obtain ⟨p, pm, w2⟩ := owt e he; exact wt_non w2]
  refine ⟨_, rfl, ?_⟩
  have sGF := sF.trans s2
  cases ha : os.any Option.isNone with
  | true =>
    have nm : none ∈ os := by
      obtain ⟨o, ho, e⟩ := List.any_eq_true.mp ha
      cases o with
      | none => exact ho
      | some _ => cases e
    refine iteT (q .non F2 sGF ?_)
    rw [cm.e, hos, sq_none nm]
    exact .non
  | false =>
    have nn : none ∉ os := fun h => by
      have := List.any_eq_true.mpr (⟨none, h, rfl⟩ : ∃ x, x ∈ os ∧ Option.isNone x = true)
      rw [ha] at this
      cases this
    obtain ⟨ds, e1, e2⟩ := sq_some nn
    rw [e2] at dws
    refine iteF ⟨fun v F3 => Same F2 F3 ∧ Dd Non F3 (if w = "list" then .tup [.str w, .tup ds] else .tup (.str w :: ds)) v, ?_, fun v F3 z => q v F3 (sGF.trans z.1) ?_⟩
    · refine ⟨_, rfl, wp, _, _, _, rfl, rfl, SqT.of hwp2, atI_nat (j := 0) rfl, rfl, _, rfl, ?_⟩
      rcases hus with ⟨h, _⟩ | ⟨h, _⟩
      · refine ite2 (fun _ => ?_) fun c => absurd (decide_eq_true (by rw [h])) c
        refine ⟨_, rfl, D, _, rfl, .inl ⟨SqL.of gD, fun t nt => objG nt fun F3 s3 g3 => ⟨(by show 2 ≤ sizeLine; decide), fun p np => objG np fun F4 s4 g4 => ⟨s3.trans s4, ?_⟩⟩⟩⟩
        rw [if_pos h, h]
        exact .tup g4 (.cons (.str _) (.cons (.tup (s4 _ _ g3) ((dws.same s3).same s4)) .nil))
      · refine ite2 (fun c => absurd (V.str.inj (of_decide_eq_true c)) h) fun _ => ?_
        refine ⟨_, rfl, wp, _, _, _, rfl, rfl, SqT.of hwp2, atI_nat (j := 0) rfl, (by show 1 ≤ sizeLine; decide), fun p1 np1 => objG np1 fun F3 s3 g3 => ?_⟩
        refine ⟨_, rfl, D, _, rfl, .inl ⟨SqL.of (s3 _ _ gD), fun t nt => objG nt fun F4 s4 g4 => ?_⟩⟩
        refine ⟨p1, t, _, _, rfl, rfl, SqT.of (s4 _ _ g3), SqT.of g4, (fun z => nomatch z), szBig (by show 1 + ws.length ≤ _; omega), fun e => ?_, fun _ p np => objG np fun F5 s5 g5 => ⟨(s3.trans s4).trans s5, ?_⟩⟩
        · exfalso
          have e0 := dws.len
          rw [e] at e0
          have e3 : os.length = ps.length := by rw [← hos, List.length_map]
          have e4 : ds.length = os.length := by rw [← e2, List.length_map]
          have := cm.ne h
          cases ps with
          | nil => exact this rfl
          | cons a r =>
            have e5 : (a :: r).length = r.length + 1 := rfl
            have e6 : ([] : List V).length = 0 := rfl
            omega
        · rw [if_neg h]
          exact .tup g5 (.cons (.str _) ((dws.same (s3.trans s4)).same s5))
    · rw [cm.e, hos, e1]
      exact z.2
end
end Kq

/-! _law_bare, _law_right -/
namespace Kq
open PySem PySem.Spec PyProof.Rows L2 Kf Kg Kv Kk
theorem Mps.nn {sz : Str → Nat} : ∀ {k : Kd} {d : Dt}, Wt sz k d → d ≠ .non
  | .opn x, d, h => by obtain ⟨k, _, rfl⟩ := h; exact fun z => nomatch z
  | .num, d, h => by obtain ⟨k, _, _, rfl⟩ := h; exact fun z => nomatch z
  | .tru, d, h => by obtain ⟨b, rfl⟩ := h; exact fun z => nomatch z
  | .pair a b, d, h => by obtain ⟨u, v, rfl, _, _⟩ := h; exact fun z => nomatch z
  | .eith a b, d, h => by rcases h with ⟨u, rfl, _⟩ | ⟨u, rfl, _⟩ <;> exact fun z => nomatch z
  | .lst a, d, h => by obtain ⟨u, rfl, _⟩ := h; exact fun z => nomatch z
  | .fn _ _, _, h => h.elim
theorem dd_isN {H : Hp} {o : Option Dt} {v : V} (h : Dd Non H (odt o) v) (hn : ∀ d, o = some d → d ≠ .non) : decide (v = .non) = o.isNone := by
  cases o with
  | none => cases h; rfl
  | some d =>
    have := hn d rfl
    cases d with
    | non => exact absurd rfl this
    | _ => cases h <;> rfl
theorem ok_shows {n W : Nat} {d : Dt} (h : Ok1 n W d) (hW : W ≤ sizeLine) : Shows n d.toP := by
  have s := h.shw hW
  exact ⟨s.ok, PyData.hasDict_of_canLay _ h.la, s.dp, s.sz⟩
theorem fT_lt {xs : List Str} {ts : Str → List (Option Nat)} (ok : TsOk xs ts) : ∀ x k j, k < (ts x).length → fT ts x k = some j → j < (ts x).length := fun x k j hk hj => by
  unfold fT at hj
  cases q2 : (ts x)[k]? with
  | none => rw [q2] at hj; cases hj
  | some o2 => rw [q2] at hj; exact ok.lt x k j (by rw [q2]; exact congrArg some hj)
theorem out_ok {xs : List Str} {ts : Str → List (Option Nat)} {k : Kd} {d : Dt} (ok : TsOk xs ts) (w : Wt (fun x => (ts x).length) k d) (h3 : k.dp ≤ 3) (hx : ∀ x ∈ k.opens, x ∈ xs) : Ok1 8 (12 * (wB 3 + 2) + 100) (outD (mp (fT ts) k d)) := by
  cases e : mp (fT ts) k d with
  | none =>
    have : Ok1 1 (1 * (82 + 2) + 3) fltD := Ok1.tup (n := 0) (fun y hy => by rw [List.mem_singleton.mp hy]; exact Ok1.wd (by decide +kernel) (by decide +kernel) (by decide)) (Nat.le_refl _)
    exact this.up (by decide) (by have := wB_300 3; omega)
  | some d' =>
    have w2 := mp_wt (fT_lt ok) w e
    have h1 := (wt_ok (fun x => ok.l12 x) (fun x hx' => ok.nm x (hx x hx')) w2).up (n' := 7) (W' := wB 3) (by omega) (wB_mono h3)
    have h2 := wB_300 3
    refine (Ok1.tup (n := 7) (W := wB 3) (m := 2) (fun y hy => ?_) (Nat.le_refl _)).up (by decide) (by omega)
    rcases List.mem_cons.mp hy with rfl | hy
    · exact (Ok1.wd (by decide +kernel) (by decide +kernel) (by decide)).up (by decide) (by omega)
    · rw [List.mem_singleton.mp hy]; exact h1
section
variable {P : Program} {w : World} {K : PySem.W.Frag} {mg : Str → Option Value} {base : Heap} {cF oF : Addr}
abbrev tLBare : Stmt := tp 16
abbrev nLBare : List Str := ["_law_worth_here"]
abbrev psLBare : List Str := ["_law_worth_here"]
theorem scLBare : FnScope nLBare psLBare (defScope tLBare) := ⟨rfl, rfl, rfl, by decide +kernel, rfl, by decide +kernel, by decide +kernel⟩
def spLBare : Sp := fun vs H Q _ => ∃ (v : V) (o : Option Dt), vs = [v] ∧ Dd Non H (odt o) v ∧ (∀ d, o = some d → d ≠ .non) ∧ ∀ (p : Addr) (G : Hp), Same H G → Dd Non G (outD o) (.ref p) → Q (.ref p) G
theorem okLBare {f : Addr} {fd : FuncData} {k : Nat} (F : Fun K "_law_bare" "_law_bare" tLBare f fd) : FnOk P w K mg base CX0 (k + 1) f fd psLBare spLBare := by
  refine F.ok scLBare (fun vs H Q E h => ?_) (fun cdv A outer s H vs Q E hr h => ?_)
  · obtain ⟨v, o, rfl, _⟩ := h
    rfl
  obtain ⟨v, o, rfl, dv, hn, q⟩ := h
  refine ⟨_, pss_one (ps_ret (pe_cut (pe_ifExp (pt_cmpR op_isN (pv 0) pe_non (nomark _)) (pe_tup (pa_cons pe_str pa_nil)) (pe_tup (pa_cons pe_str (pa_cons (pv 0) pa_nil)))))), ?_⟩
  refine ⟨fun x F => ∃ p, x = .ref p ∧ Same H F ∧ Dd Non F (outD o) (.ref p), ?_, fun x F z => by obtain ⟨p, rfl, s, d⟩ := z; exact q p F s d⟩
  refine ⟨_, rfl, rfl, _, rfl, ?_⟩
  rw [dd_isN dv hn]
  cases o with
  | none => exact iteT ⟨(by show 1 ≤ sizeLine; decide), fun p np => objG np fun F s g => ⟨p, rfl, s, .tup g (.cons (.str _) .nil)⟩⟩
  | some d => exact iteF ⟨_, rfl, (by show 2 ≤ sizeLine; decide), fun p np => objG np fun F s g => ⟨p, rfl, s, .tup g (.cons (.str _) (.cons (dv.same s) .nil))⟩⟩
abbrev tLRight : Stmt := tp 17
abbrev nLRight : List Str := ["_law_kind", "_law_maps_here", "_law_worth_here", "_law_due", "_law_turn", "_law_found"]
abbrev psLRight : List Str := ["_law_kind", "_law_maps_here", "_law_worth_here"]
theorem scLRight : FnScope nLRight psLRight (defScope tLRight) := ⟨rfl, rfl, rfl, by decide +kernel, rfl, by decide +kernel, by decide +kernel⟩
def spLRight : Sp := fun vs H Q _ => ∃ (m : Addr) (kv wv : V) (k : Kd) (d : Dt) (xs : List Str) (ts : Str → List (Option Nat)), vs = [kv, .ref m, wv] ∧ Dd Non H k.dt kv ∧ Dd Non H d wv ∧ Wt (fun x => (ts x).length) k d ∧ k.dp ≤ 3 ∧ (∀ x ∈ k.opens, x ∈ xs) ∧ Mps H m xs ts ∧ TsOk xs ts ∧
  ∀ G : Hp, Same H G → Q (.bl true) G
theorem okLRight {f : Addr} {fd : FuncData} {k : Nat} (F : Fun K "_law_right" "_law_right" tLRight f fd)
    (DP : Okd P w K mg base CX0 (k) "mapped" ["kind", "maps", "worth"] (spMapped K))
    (DB : Okd P w K mg base CX0 (k) "_law_bare" ["_law_worth_here"] spLBare)
    (DM : Okd P w K mg base CX0 (k) "_law_mapped" ["_law_maps_here", "_law_worth_here"] (spLMapped 4))
    (m_isinstance : mg "isinstance" = none)
    (m_range : mg "range" = none)
    (m_repr : mg "repr" = none)
    (m_tuple : mg "tuple" = none) : FnG P w K mg base CX0 (k + 1) f fd psLRight spLRight := by
  obtain ⟨fP, fdP, GP, bP, gP, kP⟩ := DP
  obtain ⟨fB, fdB, GB, bB, gB, kB⟩ := DB
  obtain ⟨fM, fdM, GM, bM, gM, kM⟩ := DM
  refine okG F scLRight (fun vs H Q E h => ?_) (fun cdv A outer s H vs Q E still hr h => ?_)
  · obtain ⟨m, kv, wv, k, d, xs, ts, rfl, _⟩ := h
    rfl
  obtain ⟨m, kv, wv, k, d, xs, ts, rfl, dk, dw, wt, hd, hx, mps, ok, q⟩ := h
  have hu : (cxOf CX0 P w K mg base nLRight "_law_right" (defScope tLRight) f cdv A outer s H E).nox.A.units + (8 + 1) < cLine := by
    have := hr.un
    show (A.deeper _).units + (8 + 1) < cLine
    omega
  refine ⟨_, pss_cons (ps_set (i := 3) scLRight.nd rfl (.inl rfl) (pe_call GB hr (by rfl) gB kB bB .nil pass0 (pa_cons (pe_call GM hr (by rfl) gM kM bM .nil pass0 (pa_cons (pv 1) (pa_cons (pv 2) pa_nil))) pa_nil)))
    (pss_cons (ps_for PassesOwn.never rfl (pi_range1 (by rfl) m_range (pa_cons pe_int pa_nil)) (pg_name (i := 4) scLRight.nd rfl (.inl rfl))
      (pss_cons (ps_set (i := 5) scLRight.nd rfl (.inl rfl) (pe_call GP hr (by rfl) gP kP bP .nil pass0 (pa_cons (pv 0) (pa_cons (pv 1) (pa_cons (pv 2) pa_nil)))))
    (pss_one (ps_if (PW.pt (pw_or (pt_not (pt_val (pe_callB (isiK K rfl) (by rfl) m_isinstance PyProof.Rows.boot_isinstance (pa_cons (pv 5) (pa_cons (pe_bltn (v := .ty "tuple") (by rfl) m_tuple PyProof.Rows.boot_tuple rfl) pa_nil))))) (pw_or (pt_cmpR (op_neD hr.units) (pv 5) (pv 3) (nomark _)) (pw_or1 (pt_cmpR op_ne (pe_callB (call_show (n := 8) still hu) (by rfl) m_repr PyProof.Rows.boot_repr (pa_cons (pv 5) pa_nil)) (pe_callB (call_show (n := 8) still hu) (by rfl) m_repr PyProof.Rows.boot_repr (pa_cons (pv 3) pa_nil)) (nomark _)))))) (pss_one (ps_ret pe_bl)) pss_nil))))
    (pss_one (ps_ret pe_bl))), ?_⟩
  have ook := out_ok ok wt hd hx
  have wsz : 12 * (wB 3 + 2) + 100 ≤ sizeLine := by decide +kernel
  refine ⟨_, rfl, _, rfl, m, wv, k, d, xs, ts, rfl, dw, wt, hx, mps, ok, hd, by omega, fun v G1 s1 dv => ?_⟩
  refine ⟨v, mp (fT ts) k d, rfl, dv, fun d' e => Mps.nn (mp_wt (fT_lt ok) wt e), fun p G2 s2 dp => ?_⟩
  have s12 := s1.trans s2
  refine ⟨2, rfl, by decide, by decide, for_range (lo := 0) (n := 2) (fun i σ F => ∃ y4 y5, σ = [some kv, some (.ref m), some wv, some (.ref p), y4, y5] ∧ Same G2 F) ⟨_, _, rfl, Same.refl _⟩ (fun i σ F hi z => ?_) (fun σ F z => ?_)⟩
  · obtain ⟨y4, y5, rfl, sF⟩ := z
    have s3 := s12.trans sF
    refine ⟨_, rfl, _, rfl, _, rfl, m, kv, wv, k, d, xs, ts, rfl, dk.same s3, dw.same s3, wt, hd, hx, mps.same s3, ok, fun a G3 s4 da ty => ?_⟩
    have dp3 := dp.same (sF.trans s4)
    refine ⟨_, rfl, _, _, _, _, true, rfl, .ty "tuple", ty, kTup K (.tup []), _, rfl, ?_⟩
    refine iteF ⟨_, rfl, _, rfl, _, _, da, dd_dp K dp3, ook.lay (by decide), ook.lay (by decide), _, rfl, ?_⟩
    rw [ook.eqv]
    refine iteF ⟨_, rfl, a, _, rfl, da, ok_shows ook wsz, _, rfl, p, _, rfl, dd_dp K dp3, ok_shows ook wsz, rfl, _, rfl, ite2 (fun c => ?_) (fun _ => ⟨_, _, rfl, sF.trans s4⟩)⟩
    simp at c
  · obtain ⟨y4, y5, rfl, sF⟩ := z
    exact q F (s12.trans sF)
end
end Kq

/-! list(zip(a, b)) -/
namespace Kz
open PySem PySem.Spec PyProof.Rows L2
section
variable {prog : Program} {w : World} {A : Around} {E : Value → Shared → Prop} {s : Shared} {z TI TO i1 i2 T : Addr} {fp1 fp2 : List Addr} {n1 n2 i : Nat} {P1 P2 : Nat → Value → Prop} {St1 St2 : Nat → Heap → Prop} {f : Bool} {oT : Obj}
/-- a turn of the zip while its tuple T is out -/
theorem outItem {Q : Value → Shared → Prop} (S : ZipSep2 z TI TO i1 i2 fp1 fp2) (D1 : Draws prog w A i1 fp1 n1 P1 St1) (D2 : Draws prog w A i2 fp2 n2 P2 St2)
    (hz : IsZipHeld s.heap z TI TO T f) (hT : s.heap.get? T = some oT) (hTI : IsTupOf2 s.heap TI (.ref i1) (.ref i2)) (st1 : St1 i s.heap) (st2 : St2 i s.heap) (l1 : i < n1) (l2 : i < n2)
    (q : ∀ x1 x2 h' tk, P1 i x1 → P2 i x2 → IsZipHeld h' z TI TO T true → St1 (i + 1) h' → St2 (i + 1) h' → IsTupOf2 h' s.heap.objs.size x1 x2 → h'.objs.size = s.heap.objs.size + 1 →
      (∀ c o, c ≠ z → c ≠ i1 → c ≠ i2 → s.heap.get? c = some o → h'.get? c = some o) → Q (.ref s.heap.objs.size) { s with heap := h', toks := tk }) :
    wpAny (model prog w) A (Builtin.«zip.__next__» ⟨[.ref z], []⟩) (fun fin s' => ∃ v, fin = .done (.ret v) ∧ Q v s') E s := by
  obtain ⟨hp, g, d, tk0, os⟩ := s
  show wpAny _ _ (field (.ref z) 2 >>= _) _ _ _
  refine wpAny_bind (wpAny_field hz rfl (x := .bool false) rfl ?_)
  show wpAny _ _ (field (.ref z) 3 >>= _) _ _ _
  refine wpAny_bind (wpAny_field hz rfl (x := .ref TI) rfl ?_)
  refine wpAny_bind (wpAny_seqItems hTI rfl ?_)
  show wpAny _ _ (Builtin.SmallTypes.ownedTupleIsFree (.ref z) >>= _) _ _ _
  refine wpAny_bind (wpAny_tupleHeld_zip hz hT fun ha za sa => ?_)
  replace sa : Heap.SameBut z hp ha := sa
  simp only [Bool.false_eq_true, if_false]
  refine wpAny_bind ?_
  rw [← Array.forIn_toList]
  simp only [List.forIn_cons, List.forIn_nil]
  refine wpAny_bind (wpAny_bind (wpAny_holding ?_))
  show wpAny _ _ (Builtin.SmallTypes.nextOf (.ref i1) >>= _) _ _ ⟨ha, g, d, tk0, os⟩
  refine wpAny_bind (D1.item i ⟨ha, g, d, tk0, os⟩ _ _ l1 (D1.over st1 sa S.zf1) fun x1 hb tkb px1 tb sb => wpAny_pure ?_)
  replace sb : Heap.SameBut i1 ha hb := sb
  refine wpAny_pure ?_
  refine wpAny_bind (wpAny_bind (wpAny_holding ?_))
  show wpAny _ _ (Builtin.SmallTypes.nextOf (.ref i2) >>= _) _ _ ⟨hb, g, d, tkb, os⟩
  refine wpAny_bind (D2.item i ⟨hb, g, d, tkb, os⟩ _ _ l2 (D2.over (D2.over st2 sa S.zf2) sb S.sep1_2) fun x2 hc tkc px2 tc sc => wpAny_pure ?_)
  replace sc : Heap.SameBut i2 hb hc := sc
  refine wpAny_pure (wpAny_pure ?_)
  show wpAny _ _ (newTuple [x1, x2] >>= _) _ _ ⟨hc, g, d, tkc, os⟩
  refine wpAny_bind (wpAny_newTuple ?_)
  have sz : hc.objs.size = hp.objs.size := by rw [sc.1, sb.1, sa.1]
  have zc : IsZipHeld hc z TI TO T true := sc.extBut _ _ S.zi2 (sb.extBut _ _ S.zi1 za)
  have kc : ∀ c o, c ≠ z → c ≠ i1 → c ≠ i2 → hp.get? c = some o → hc.get? c = some o := fun c o c1 c2 c3 e => sc.extBut _ _ c3 (sb.extBut _ _ c2 (sa.extBut _ _ c1 e))
  have ub : ∀ b o, hc.get? b = some o → (hc.push { cls := .type "tuple", data := .seq #[x1, x2] }).get? b = some o := fun b o e => Heap.get?_push_of_some _ e
  refine wpAny_pure ⟨_, rfl, ?_⟩
  show Q (.ref hc.objs.size) _
  have pp : IsTupOf2 (hc.push { cls := .type "tuple", data := .seq #[x1, x2] }) hc.objs.size x1 x2 := Heap.get?_push_size _ rfl
  have ps : (hc.push { cls := .type "tuple", data := .seq #[x1, x2] }).objs.size = hc.objs.size + 1 := Heap.size_push ..
  rw [sz] at pp ps ⊢
  exact q x1 x2 _ tkc px1 px2 (ub _ _ zc) (D1.frame _ _ _ (D1.over tb sc S.sep2_1) fun b _ o e => ub b o e) (D2.frame _ _ _ tc fun b _ o e => ub b o e) pp ps fun c o c1 c2 c3 e => ub _ _ (kc c o c1 c2 c3 e)
theorem outEnd {Q : Fin → Shared → Prop} (S : ZipSep2 z TI TO i1 i2 fp1 fp2) (D1 : Draws prog w A i1 fp1 n1 P1 St1) (D2 : Draws prog w A i2 fp2 n2 P2 St2)
    (hz : IsZipHeld s.heap z TI TO T f) (hT : s.heap.get? T = some oT) (hTI : IsTupOf2 s.heap TI (.ref i1) (.ref i2)) (st1 : St1 i s.heap) (st2 : St2 i s.heap) (l1 : i ≤ n1) (l2 : i ≤ n2) (last : i = n1 ∨ i = n2)
    (q : ∀ h' tk e, (∀ c o, c ≠ z → c ≠ i1 → c ≠ i2 → s.heap.get? c = some o → h'.get? c = some o) → (∃ o, h'.get? e = some o ∧ o.cls = .type "StopIteration") → E (.ref e) { s with heap := h', toks := tk }) :
    wpAny (model prog w) A (Builtin.«zip.__next__» ⟨[.ref z], []⟩) Q E s := by
  obtain ⟨hp, g, d, tk0, os⟩ := s
  show wpAny _ _ (field (.ref z) 2 >>= _) _ _ _
  refine wpAny_bind (wpAny_field hz rfl (x := .bool false) rfl ?_)
  show wpAny _ _ (field (.ref z) 3 >>= _) _ _ _
  refine wpAny_bind (wpAny_field hz rfl (x := .ref TI) rfl ?_)
  refine wpAny_bind (wpAny_seqItems hTI rfl ?_)
  show wpAny _ _ (Builtin.SmallTypes.ownedTupleIsFree (.ref z) >>= _) _ _ _
  refine wpAny_bind (wpAny_tupleHeld_zip hz hT fun ha za sa => ?_)
  replace sa : Heap.SameBut z hp ha := sa
  simp only [Bool.false_eq_true, if_false]
  refine wpAny_bind ?_
  rw [← Array.forIn_toList]
  simp only [List.forIn_cons, List.forIn_nil]
  refine wpAny_bind (wpAny_bind (wpAny_holding ?_))
  show wpAny _ _ (Builtin.SmallTypes.nextOf (.ref i1) >>= _) _ _ ⟨ha, g, d, tk0, os⟩
  by_cases lt : i < n1
  · refine wpAny_bind (D1.item i ⟨ha, g, d, tk0, os⟩ _ _ lt (D1.over st1 sa S.zf1) fun x1 hb tkb px1 tb sb => wpAny_pure ?_)
    replace sb : Heap.SameBut i1 ha hb := sb
    refine wpAny_pure ?_
    refine wpAny_bind (wpAny_bind (wpAny_holding ?_))
    show wpAny _ _ (Builtin.SmallTypes.nextOf (.ref i2) >>= _) _ _ ⟨hb, g, d, tkb, os⟩
    have e2 : i = n2 := by omega
    refine wpAny_bind (D2.done ⟨hb, g, d, tkb, os⟩ _ _ (by rw [← e2]; exact D2.over (D2.over st2 sa S.zf2) sb S.sep1_2) fun hc e sc he => ?_)
    replace sc : Heap.ExtBut i2 hb hc := sc
    exact q hc tkb e (fun c o c1 c2 c3 u => sc _ _ c3 (sb.extBut _ _ c2 (sa.extBut _ _ c1 u))) he
  · have e1 : i = n1 := by omega
    refine wpAny_bind (D1.done ⟨ha, g, d, tk0, os⟩ _ _ (by rw [← e1]; exact D1.over st1 sa S.zf1) fun hb e sb he => ?_)
    replace sb : Heap.ExtBut i1 ha hb := sb
    exact q hb tk0 e (fun c o c1 c2 c3 u => sb _ _ c2 (sa.extBut _ _ c1 u)) he
/-- the zip before its turn i: nothing is out yet, or a tuple is -/
def Zs (z TI TO : Addr) (h : Heap) : Prop := (∃ o, h.get? TO = some o) ∧ ((IsZip h z TI TO .none ∧ ∃ a b, IsTupOf2 h TO a b) ∨ ∃ T f oT, IsZipHeld h z TI TO T f ∧ h.get? T = some oT ∧ T ≠ z ∧ oT.cls = .type "tuple")
theorem zNext {Q : Option Value → Shared → Prop} (S : ZipSep2 z TI TO i1 i2 fp1 fp2) (D1 : Draws prog w A.in1 i1 fp1 n1 P1 St1) (D2 : Draws prog w A.in1 i2 fp2 n2 P2 St2)
    (hz : Zs z TI TO s.heap) (hTI : IsTupOf2 s.heap TI (.ref i1) (.ref i2)) (hi : ∀ T, s.heap.get? T = none → T ≠ i1 ∧ T ≠ i2) (ho : ∀ T f oT, IsZipHeld s.heap z TI TO T f → s.heap.get? T = some oT → T ≠ i1 ∧ T ≠ i2) (st1 : St1 i s.heap) (st2 : St2 i s.heap) (l1 : i < n1) (l2 : i < n2)
    (q : ∀ x1 x2 h' tk, P1 i x1 → P2 i x2 → Zs z TI TO h' → IsTupOf2 h' TI (.ref i1) (.ref i2) → (∀ T f oT, IsZipHeld h' z TI TO T f → h'.get? T = some oT → T ≠ i1 ∧ T ≠ i2) → St1 (i + 1) h' → St2 (i + 1) h' → IsTupOf2 h' s.heap.objs.size x1 x2 → h'.objs.size = s.heap.objs.size + 1 →
      (∀ c o, c ≠ z → c ≠ TO → c ≠ i1 → c ≠ i2 → s.heap.get? c = some o → h'.get? c = some o) → Q (some (.ref s.heap.objs.size)) { s with heap := h', toks := tk }) :
    wpAny (model prog w) A (pyNext (.ref z)) Q E s := by
  obtain ⟨⟨oO, eO⟩, hz⟩ := hz
  rcases hz with ⟨hz, a, b, hTO⟩ | ⟨T, f, oT, hz, hT, hne, hcl⟩
  · refine wpAny_pyNext_zipD2_item S D1 D2 hz hTI hTO st1 st2 l1 l2 fun x1 x2 h' tk p1 p2 z' TO' t1 t2 nw sz kp => ?_
    have lt : z < s.heap.objs.size := Heap.lt_size hz
    have nf : s.heap.get? s.heap.objs.size = none := by
      cases e : s.heap.get? s.heap.objs.size with
      | none => rfl
      | some o => exact absurd (Heap.lt_size e) (Nat.lt_irrefl _)
    refine q x1 x2 h' tk p1 p2 ⟨⟨_, TO'⟩, .inr ⟨s.heap.objs.size, false, _, z', nw, Nat.ne_of_gt lt, rfl⟩⟩ (kp _ _ S.TIz S.TITO S.TIi1 S.TIi2 hTI) (fun T f oT hz2 hT2 => ?_) t1 t2 nw sz kp
    have e := z'.symm.trans hz2
    have e2 : T = s.heap.objs.size := by
      injection e with e
      injection e with _ _ e _
      injection e with e
      have q0 := congrArg (fun (t : Array Value) => t[0]?) e
      have q1 : some (rawInt (s.heap.objs.size : Int)) = some (rawInt (T : Int)) := q0
      injection q1 with q1
      injection q1 with q1
      exact (Int.ofNat.inj q1).symm
    rw [e2]
    exact hi _ nf
  · have ty : s.TypeIs (.ref z) "zip" := ⟨_, hz, rfl⟩
    unfold pyNext
    refine wpAny_bind (wpAny_attempt (wpAny_callSpecial?_slot (name := Str.ofString "__next__") ty F.slot_zip_next (wpAny_call_entry F.slot_zip_next ty F.entry_zip_next
      (outItem S D1 D2 hz hT hTI st1 st2 l1 l2 fun x1 x2 h' tk p1 p2 z' t1 t2 nw sz kp => wpAny_pure ?_) (F.args_zip_next_1 _))))
    obtain ⟨n1, n2⟩ := ho T f oT hz hT
    have hT' := kp _ _ hne n1 n2 hT
    refine q x1 x2 h' tk p1 p2 ⟨⟨_, kp _ _ S.TOz S.Ti1 S.Ti2 eO⟩, .inr ⟨T, true, oT, z', hT', hne, hcl⟩⟩ (kp _ _ S.TIz S.TIi1 S.TIi2 hTI) (fun T2 f2 o2 hz2 hT2 => ?_) t1 t2 nw sz fun c o c1 _ c3 c4 e => kp c o c1 c3 c4 e
    have e := z'.symm.trans hz2
    have e2 : T2 = T := by
      injection e with e
      injection e with _ _ e _
      injection e with e
      have q0 := congrArg (fun (t : Array Value) => t[0]?) e
      have q1 : some (rawInt (T : Int)) = some (rawInt (T2 : Int)) := q0
      injection q1 with q1
      injection q1 with q1
      exact (Int.ofNat.inj q1).symm
    rw [e2]
    exact ⟨n1, n2⟩
theorem zDone {Q : Option Value → Shared → Prop} (S : ZipSep2 z TI TO i1 i2 fp1 fp2) (D1 : Draws prog w A.in1 i1 fp1 n1 P1 St1) (D2 : Draws prog w A.in1 i2 fp2 n2 P2 St2)
    (hz : Zs z TI TO s.heap) (hTI : IsTupOf2 s.heap TI (.ref i1) (.ref i2)) (st1 : St1 i s.heap) (st2 : St2 i s.heap) (l1 : i ≤ n1) (l2 : i ≤ n2) (last : i = n1 ∨ i = n2)
    (q : ∀ h' tk, (∀ c o, c ≠ z → c ≠ TO → c ≠ i1 → c ≠ i2 → s.heap.get? c = some o → h'.get? c = some o) → Q none { s with heap := h', toks := tk }) :
    wpAny (model prog w) A (pyNext (.ref z)) Q E s := by
  obtain ⟨⟨oO, eO⟩, hz⟩ := hz
  rcases hz with ⟨hz, a, b, hTO⟩ | ⟨T, f, oT, hz, hT, hne, hcl⟩
  · exact wpAny_pyNext_zipD2_end S D1 D2 hz hTI hTO st1 st2 l1 l2 last q
  · have ty : s.TypeIs (.ref z) "zip" := ⟨_, hz, rfl⟩
    unfold pyNext
    refine wpAny_bind (wpAny_attempt (wpAny_callSpecial?_slot (name := Str.ofString "__next__") ty F.slot_zip_next (wpAny_call_entry F.slot_zip_next ty F.entry_zip_next
      (outEnd S D1 D2 hz hT hTI st1 st2 l1 l2 last fun h' tk e kp he => ?_) (F.args_zip_next_1 _))))
    obtain ⟨o, ho, hc⟩ := he
    refine wpAny_bind (wpAny_isInstance (T := "StopIteration") (b := true) ⟨o, ho, hc⟩ isSubtype_stop ?_)
    exact wpAny_pure (q _ _ fun c o c1 _ c3 c4 e => kp c o c1 c3 c4 e)
end
theorem nolen_zip : typeLookup (.type "zip") "__len__" = pure none := by rw [typeLookup_type, builtinLookup_eq_fast]; kernel_rfl
theorem nohint_zip : typeLookup (.type "zip") "__length_hint__" = pure none := by rw [typeLookup_type, builtinLookup_eq_fast]; kernel_rfl
/-- the pairs stand -/
def Prs (G : Hp) (ts : List Addr) (xs ys : List V) : Prop := ∀ (j : Nat) (t : Addr) (x y : V), ts[j]? = some t → xs[j]? = some x → ys[j]? = some y → G t = some (.tup [x, y])
section
variable {A : Around} {X : Cx} {pins : List (Addr × Obj)} {σ : L2.St} {z TI TO i1 i2 D : Addr} {fp1 fp2 : List Addr} {n1 n2 n : Nat} {P1 P2 : Nat → Value → Prop} {St1 St2 : Nat → Heap → Prop} {R : Result → Shared → Prop} {res : Value} {xs ys : List V} {H : Hp}
theorem zLoop (S : ZipSep2 z TI TO i1 i2 fp1 fp2) (D1 : Draws X.prog X.w A.in1.in1 i1 fp1 n1 P1 St1) (D2 : Draws X.prog X.w A.in1.in1 i2 fp2 n2 P2 St2) (hn : n = min n1 n2) (hz : n ≤ sizeLine)
    (r1 : ∀ i v, P1 i v → ∃ x, xs[i]? = some x ∧ RelV x v) (r2 : ∀ i v, P2 i v → ∃ y, ys[i]? = some y ∧ RelV y v) (nD1 : D ∉ fp1) (nD2 : D ∉ fp2) (hD : H D = none)
    (q : ∀ (s' : Shared) (G' : Hp) (ts : List Addr), Inv X pins σ G' s' → Same H G' → G' D = some (.lst (ts.map V.ref)) → ts.length = n → Prs G' ts xs ys → (∀ t ∈ ts, H t = none) → R (.ok (.ret res)) s') :
    ∀ (k i : Nat) (s : Shared) (G : Hp) (ts : List Addr), n - i = k → i ≤ n → Inv X pins σ G s → (∀ b ∈ [z, TI, TO, i1, i2], FpOk X pins G b) → Zs z TI TO s.heap → IsTupOf2 s.heap TI (.ref i1) (.ref i2) →
      (∀ T f oT, IsZipHeld s.heap z TI TO T f → s.heap.get? T = some oT → T ≠ i1 ∧ T ≠ i2) → St1 i s.heap → St2 i s.heap → Same H G → G D = some (.lst (ts.map V.ref)) → ts.length = i → Prs G ts xs ys → (∀ t ∈ ts, H t = none) →
      codeAny (model X.prog X.w) A (.builtin "list.extend.loop" ⟨[.ref D, .ref z, res], []⟩) R s := by
  intro k
  induction k with
  | zero =>
    intro i s G ts hk hi I hf hzs hTI ho t1 t2 sm gD lt pr nw
    have ei : i = n := by omega
    refine codeAny_builtin F.entry_extend_loop ?_
    rw [Around.under_plainId F.plain_extend_loop _]
    show wpAny _ A.in1 (pyNext (.ref z) >>= _) _ _ s
    refine wpAny_bind (zDone S D1 D2 hzs hTI t1 t2 (by omega) (by omega) (by omega) fun h' tk kp => ?_)
    refine wpAny_pure (q _ G ts (I.turnedL (ch := [z, TI, TO, i1, i2]) (fun c o hb e => kp c o (fun u => hb (by simp [u])) (fun u => hb (by simp [u])) (fun u => hb (by simp [u])) (fun u => hb (by simp [u])) e) hf) sm gD (by omega) pr nw)
  | succ k ih =>
    intro i s G ts hk hi I hf hzs hTI ho t1 t2 sm gD lt pr nw
    have hlt : i < n := by omega
    have live : ∀ b ∈ [z, TI, TO, i1, i2], b < s.heap.objs.size := fun b hb => by
      have hzl : z < s.heap.objs.size := by
        rcases hzs.2 with ⟨e, _⟩ | ⟨_, _, _, e, _⟩
        · exact Heap.lt_size e
        · exact Heap.lt_size e
      have hb : b = z ∨ b = TI ∨ b = TO ∨ b = i1 ∨ b = i2 := by simpa using hb
      rcases hb with e | e | e | e | e
      · rw [e]; exact hzl
      · rw [e]; exact Heap.lt_size hTI
      · rw [e]; obtain ⟨_, e⟩ := hzs.1; exact Heap.lt_size e
      · rw [e]; obtain ⟨_, e⟩ := D1.live _ _ t1; exact Heap.lt_size e
      · rw [e]; obtain ⟨_, e⟩ := D2.live _ _ t2; exact Heap.lt_size e
    have nDc : ∀ b ∈ [z, TI, TO, i1, i2], D ≠ b := fun b hb e => by
      have h0 := (hf b hb).1
      rw [← e, gD] at h0
      cases h0
    refine codeAny_builtin F.entry_extend_loop ?_
    rw [Around.under_plainId F.plain_extend_loop _]
    show wpAny _ A.in1 (pyNext (.ref z) >>= _) _ _ s
    refine wpAny_bind (zNext S D1 D2 hzs hTI (fun T e => ?_) ho t1 t2 (by omega) (by omega) fun x1 x2 h' tk p1 p2 zs' ti' ho' u1 u2 nt sz kp => ?_)
    · obtain ⟨_, e1⟩ := D1.live _ _ t1
      obtain ⟨_, e2⟩ := D2.live _ _ t2
      exact ⟨fun w => (by rw [w, e1] at e; cases e), fun w => (by rw [w, e2] at e; cases e)⟩
    obtain ⟨x, hx, rx⟩ := r1 i x1 p1
    obtain ⟨y, hy, ry⟩ := r2 i x2 p2
    have gT : G s.heap.objs.size = none := I.hok.fresh (Nat.le_refl _)
    have new : ObjOk X.prog X.w (upd G s.heap.objs.size (.tup [x, y])) h' s.heap.objs.size (.tup [x, y]) := ⟨by show 2 ≤ sizeLine; decide, [x1, x2], .cons rx (.cons ry .nil), ⟨_, nt, rfl, _, rfl⟩⟩
    have I1 : Inv X pins σ (upd G s.heap.objs.size (.tup [x, y])) { s with heap := h', toks := tk } :=
      I.turnedNew (ch := [z, TI, TO, i1, i2]) (fun c o hb e => kp c o (fun u => hb (by simp [u])) (fun u => hb (by simp [u])) (fun u => hb (by simp [u])) (fun u => hb (by simp [u])) e) hf (Nat.le_refl _) new
    have DT : D ≠ s.heap.objs.size := ne_of_none gD gT
    have gD1 : upd G s.heap.objs.size (.tup [x, y]) D = some (.lst (ts.map V.ref)) := by rw [upd_ne DT]; exact gD
    obtain ⟨_, its, c0, rv, _, raw⟩ := I1.lstM gD1
    have ln := rv.length
    rw [List.length_map] at ln
    show wpAny _ A.in1 (updateSeq D (·.push (.ref s.heap.objs.size)) >>= _) _ _ _
    refine wpAny_bind ?_
    refine wpAny_updateSeq raw rfl ?_ (by rw [List.size_toArray]; omega) (by rw [Array.size_push, List.size_toArray]; omega)
    have I2 := I1.lset (ys := (ts ++ [s.heap.objs.size]).map V.ref) (its' := its ++ [Value.ref s.heap.objs.size]) (t' := tk) gD1 raw (f := (·.push (Value.ref s.heap.objs.size))) (by simp) (by rw [List.map_append]; exact rv.append (.cons rfl .nil)) (by rw [List.length_map, List.length_append]; simp only [List.length_cons, List.length_nil]; omega)
    have oth : ∀ b o, b ≠ D → h'.get? b = some o → (h'.update D (Obj.mapSeq (·.push (Value.ref s.heap.objs.size)))).get? b = some o := fun b o hb e => (Heap.get?_update_other _ _ (Ne.symm hb)).trans e
    have smT : ∀ t o, G t = some o → t ≠ D → upd (upd G s.heap.objs.size (.tup [x, y])) D (.lst ((ts ++ [s.heap.objs.size]).map V.ref)) t = some o := fun t o e hd => by
      rw [upd_ne hd, upd_ne (ne_of_none e gT)]
      exact e
    refine wpAny_pure ⟨plainId_quiet F.plain_extend_loop _, ih (i + 1) _ _ (ts ++ [s.heap.objs.size]) (by omega) hlt I2 (fun b hb => ?_) ?_ (oth _ _ (Ne.symm (nDc TI (by simp))) ti') (fun T f oT e1 e2 => ?_) (D1.frame _ _ _ u1 fun b hb o e => oth b o (fun w => nD1 (w ▸ hb)) e) (D2.frame _ _ _ u2 fun b hb o e => oth b o (fun w => nD2 (w ▸ hb)) e)
      ?sm upd_same (by rw [List.length_append]; simp only [List.length_cons, List.length_nil]; omega) ?pr (fun t ht => ?_)⟩
    · refine ⟨?_, (hf b hb).2⟩
      rw [upd_ne (Ne.symm (nDc b hb)), upd_ne (Nat.ne_of_lt (live b hb))]
      exact (hf b hb).1
    · obtain ⟨⟨oO, eO⟩, zz⟩ := zs'
      refine ⟨⟨oO, oth _ _ (Ne.symm (nDc TO (by simp))) eO⟩, ?_⟩
      rcases zz with ⟨hz, a, b, hTO⟩ | ⟨T, f, oT, hz, hT, hne, hcl⟩
      · exact .inl ⟨oth _ _ (Ne.symm (nDc z (by simp))) hz, a, b, oth _ _ (Ne.symm (nDc TO (by simp))) hTO⟩
      · refine .inr ⟨T, f, oT, oth _ _ (Ne.symm (nDc z (by simp))) hz, oth _ _ (fun w => ?_) hT, hne, hcl⟩
        rw [w] at hT
        have q0 := raw.symm.trans hT
        injection q0 with q0
        rw [← q0] at hcl
        injection hcl with hcl
        exact absurd hcl (by decide)
    · have e1 : IsZipHeld h' z TI TO T f := (Heap.get?_update_other _ _ (nDc z (by simp))).symm.trans e1
      by_cases w : D = T
      · exact ⟨fun u => nDc i1 (by simp) (w.trans u), fun u => nDc i2 (by simp) (w.trans u)⟩
      · exact ho' T f oT e1 ((Heap.get?_update_other _ _ w).symm.trans e2)
    case sm => exact fun t o e => smT t o (sm t o e) (fun w => by rw [w, hD] at e; cases e)
    case pr =>
      intro j t a b e1 e2 e3
      by_cases hj : j < ts.length
      · rw [List.getElem?_append_left hj] at e1
        have g := pr j t a b e1 e2 e3
        exact smT t _ g fun w => by rw [w, gD] at g; cases g
      · have hj2 : j < (ts ++ [s.heap.objs.size]).length := (List.getElem?_eq_some_iff.mp e1).1
        rw [List.length_append] at hj2
        simp only [List.length_cons, List.length_nil] at hj2
        have ej : j = i := by omega
        subst ej
        rw [List.getElem?_append_right (by omega), show j - ts.length = 0 by omega] at e1
        cases e1
        rw [hx] at e2
        rw [hy] at e3
        cases e2
        cases e3
        rw [upd_ne (Ne.symm DT)]
        exact upd_same
    · rcases List.mem_append.mp ht with h | h
      · exact nw t h
      · rw [List.mem_singleton.mp h]
        cases e : H s.heap.objs.size with
        | none => rfl
        | some o => rw [sm _ _ e] at gT; cases gT
/-- listExtendWith of a zip -/
theorem zGrow {s : Shared} (T : s.TypeIs (.ref z) "zip") (hz : IsZip s.heap z TI TO .none) (hne : D ≠ z) (eD : s.heap.get? D = some { cls := .type "list", data := .seq #[] })
    (k : ∀ h', (∀ b o, b ≠ D → s.heap.get? b = some o → h'.get? b = some o) → (∃ c0, h'.get? D = some { cls := .type "list", data := .seq #[] c0 }) → codeAny (model X.prog X.w) A (.builtin "list.extend.loop" ⟨[.ref D, .ref z, res], []⟩) R { s with heap := h' }) :
    wpAny (model X.prog X.w) A.in1 (Builtin.List.listExtendWith (.ref D) (.ref z) res)
      (fun fin s' => match fin with
        | .done f => R (.ok f) s'
        | .again c' => c'.quiet = true ∧ codeAny (model X.prog X.w) A c' R s') (fun e s' => R (.error e) s') s := by
  unfold Builtin.List.listExtendWith
  refine wpAny_bind (wpAny_typeOf T ?_)
  have no : Builtin.List.listSameRef (.ref D) (.ref z) = false := by simp [Builtin.List.listSameRef, hne]
  rw [if_neg (by rw [no]; decide)]
  refine wpAny_bind (wpAny_pyIter_zip hz ?_)
  refine wpAny_bind (wpAny_holding ?_)
  unfold Builtin.List.listLengthHint
  refine wpAny_bind (wpAny_specialOf T nolen_zip ?_)
  show wpAny _ A.in1 (specialOf (.ref z) (Str.ofString "__length_hint__") >>= _) _ _ _
  refine wpAny_bind (wpAny_specialOf T nohint_zip ?_)
  refine wpAny_pure ?_
  show wpAny _ A.in1 (rule "list.extend.makes-room" >>= fun _ => Builtin.List.listTouch (.ref D) >>= fun _ => again (.builtin "list.extend.loop" ⟨[.ref D, .ref z, res], []⟩)) _ _ _
  refine wpAny_bind (wpAny_rule (wpAny_bind ?_))
  show wpAny _ A.in1 (updateSeq D (·.push .none) >>= fun _ => updateSeq D (·.pop)) _ _ _
  refine wpAny_bind (wpAny_updateSeq eD rfl ?_)
  have e2 := Heap.get?_update_self (Obj.mapSeq (·.push Value.none)) eD rfl
  refine wpAny_updateSeq e2 rfl ?_
  have e3 := Heap.get?_update_self (Obj.mapSeq (·.pop)) e2 rfl
  exact wpAny_pure ⟨plainId_quiet F.plain_extend_loop _, k _ (fun b o hb e => (Heap.get?_update_other _ _ (Ne.symm hb)).trans ((Heap.get?_update_other _ _ (Ne.symm hb)).trans e)) ⟨_, e3⟩⟩
theorem neN (a b : Nat) (h : a < b ∨ b < a) : a ≠ b := by omega
theorem nin2 (D B l : Nat) (h1 : D < B ∨ B < D) (h2 : D < l ∨ l < D) : D ∉ [B, l] := by
  simp only [List.mem_cons, List.not_mem_nil, or_false]
  omega
theorem sepN (B l1 l2 : Nat) (h1 : l1 < B) (h2 : l2 < B) : ZipSep2 (B + 4) (B + 2) (B + 3) B (B + 1) [B, l1] [B + 1, l2] :=
  ⟨neN _ _ (by omega), neN _ _ (by omega), neN _ _ (by omega), neN _ _ (by omega), List.mem_cons_self, nin2 _ _ _ (by omega) (by omega), nin2 _ _ _ (by omega) (by omega), neN _ _ (by omega), List.mem_cons_self,
    nin2 _ _ _ (by omega) (by omega), nin2 _ _ _ (by omega) (by omega), nin2 _ _ _ (by omega) (by omega), nin2 _ _ _ (by omega) (by omega)⟩
theorem ninN (D B l : Nat) (h : B < D) (hl : l < D) : D ∉ [B, l] := by
  simp only [List.mem_cons, List.not_mem_nil, or_false]
  omega
theorem inN (B b : Nat) (h : b = B + 4 ∨ b = B + 2 ∨ b = B + 3 ∨ b = B ∨ b = B + 1) : B ≤ b ∧ b < B + 5 := by omega
theorem vback {xs : List V} {its : List Value} {i : Nat} {v : Value} (r : Vals xs its) (e : its[i]? = some v) : ∃ x, xs[i]? = some x ∧ RelV x v := by
  have h := (List.getElem?_eq_some_iff.mp e).1
  rw [← r.length] at h
  obtain ⟨u, hu, ru⟩ := r.get (List.getElem?_eq_getElem h)
  rw [e] at hu
  cases hu
  exact ⟨_, List.getElem?_eq_getElem h, ru⟩
/-- what list(zip(a, b)) asks -/
def tZipL (K : PySem.W.Frag) (ta : TA) : TE := fun σ H Q => ta σ H fun vs G => ∃ (a b : Addr) (xs ys : List V), vs = [.ref a, .ref b] ∧ ((SqL K G a xs ∧ SqL K G b ys) ∨ (SqT K G a xs ∧ SqT K G b ys)) ∧
  ∀ (q : Addr) (ts : List Addr) (F : Hp), Same G F → G q = none → F q = some (.lst (ts.map V.ref)) → ts.length = min xs.length ys.length → Prs F ts xs ys → (∀ t ∈ ts, G t = none) → Q (.ref q) F
theorem zList {Q0 Q : Value → Shared → Prop} {E : Value → Shared → Prop} {s1 : Shared} {o1 o2 : Obj} {v1 v2 : Value} {H1 H2 : Heap → Prop} {l1 l2 : Addr} (hh : A.handled = none) (I : Inv X pins σ H s1) (B1 : Begins v1 o1 H1) (B2 : Begins v2 o2 H2) (h1 : H1 s1.heap) (h2 : H2 s1.heap)
    (L1 : l1 < s1.heap.objs.size) (L2 : l2 < s1.heap.objs.size)
    (D1 : ∀ A' : Around, A'.handled = none → Draws X.prog X.w A' s1.heap.objs.size [s1.heap.objs.size, l1] n1 P1 St1) (D2 : ∀ A' : Around, A'.handled = none → Draws X.prog X.w A' (s1.heap.objs.size + 1) [s1.heap.objs.size + 1, l2] n2 P2 St2)
    (hn : n = min n1 n2) (hz : n ≤ sizeLine) (r1 : ∀ i v, P1 i v → ∃ x, xs[i]? = some x ∧ RelV x v) (r2 : ∀ i v, P2 i v → ∃ y, ys[i]? = some y ∧ RelV y v)
    (b1 : ∀ h', h'.get? s1.heap.objs.size = some o1 → (∀ c o, s1.heap.get? c = some o → h'.get? c = some o) → St1 0 h') (b2 : ∀ h', h'.get? (s1.heap.objs.size + 1) = some o2 → (∀ c o, s1.heap.get? c = some o → h'.get? c = some o) → St2 0 h')
    (q : ∀ (s' : Shared) (G' : Hp) (ts : List Addr) (D : Addr), Inv X pins σ G' s' → Same H G' → H D = none → G' D = some (.lst (ts.map V.ref)) → ts.length = n → Prs G' ts xs ys → (∀ t ∈ ts, H t = none) → Q (.ref D) s')
    (q0 : ∀ v s2, wpAny (model X.prog X.w) A (call (.type "list") [v]) Q E s2 → Q0 v s2) : wpAny (model X.prog X.w) A (call (.type "zip") [v1, v2]) Q0 E s1 := by
  refine zip_begins2 B1 B2 h1 h2 fun h' hz0 hTI hTO e1 e2 sz kp => q0 _ _ ?_
  generalize hB : s1.heap.objs.size = B at *
  have dz : h'.objs.size ≠ B + 4 := by omega
  refine callType_codes (Q₁ := fun obj s₁ => obj = .ref h'.objs.size ∧ s₁ = { s1 with heap := h'.push { cls := .type "list", data := .seq #[] } })
    F.called_list (F.typeCall_list_1 _) F.entry_list_init (code_list_new _ ⟨rfl, rfl⟩) (fun obj s₁ h₁ => ?_)
  obtain ⟨rfl, rfl⟩ := h₁
  have eD : (h'.push { cls := .type "list", data := .seq #[] }).get? h'.objs.size = some { cls := .type "list", data := .seq #[] } := Heap.get?_push_size _ rfl
  refine ⟨⟨_, eD, rfl⟩, F.args_list_init_2 _ _, ?_⟩
  show wpAny _ _ (do
    let old ← Builtin.List.listItems (.ref h'.objs.size)
    Builtin.List.listUpdate (.ref h'.objs.size) (fun _ => #[])
    letGo old.toList.reverse
    Builtin.List.listExtendWith (.ref h'.objs.size) (.ref (B + 4)) .none) _ _ _
  refine wpAny_bind ?_
  unfold Builtin.List.listItems
  refine wpAny_bind (wpAny_seqItems eD rfl (wpAny_pure ?_))
  show wpAny _ _ (do
    updateSeq h'.objs.size (fun _ => #[])
    letGo (#[] : Array Value).toList.reverse
    Builtin.List.listExtendWith (.ref h'.objs.size) (.ref (B + 4)) .none) _ _ _
  refine wpAny_bind (wpAny_updateSeq eD rfl ?_)
  have eD2 := Heap.get?_update_self (Obj.mapSeq fun _ => (#[] : Array Value)) eD rfl
  refine wpAny_bind (wpAny_letGo ?_)
  generalize hh2 : (h'.push { cls := .type "list", data := .seq #[] }).update h'.objs.size (Obj.mapSeq fun _ => (#[] : Array Value)) = g2 at eD2 ⊢
  have k2 : ∀ b o, h'.get? b = some o → g2.get? b = some o := fun b o e => by
    rw [← hh2, Heap.get?_update_other _ _ (Nat.ne_of_gt (Heap.lt_size e))]
    exact Heap.get?_push_of_some _ e
  refine zGrow (X := X) (s := { s1 with heap := g2 }) ⟨_, k2 _ _ hz0, rfl⟩ (k2 _ _ hz0) dz eD2 fun g3 k3 e3 => ?_
  obtain ⟨c0, e3⟩ := e3
  have k23 : ∀ b o, h'.get? b = some o → g3.get? b = some o := fun b o e => k3 b o (Nat.ne_of_lt (Heap.lt_size e)) (k2 b o e)
  have kall : ∀ b o, s1.heap.get? b = some o → g3.get? b = some o := fun b o e => k23 b o (kp b o e)
  have hle : s1.heap.objs.size ≤ h'.objs.size := by omega
  have hD : H h'.objs.size = none := I.hok.fresh hle
  have I3 : Inv X pins σ (upd H h'.objs.size (.lst [])) { s1 with heap := g3 } := I.laid (t' := s1.toks) kall hle (show ObjOk X.prog X.w _ _ _ (.lst []) from ⟨Nat.zero_le _, [], c0, .nil, e3⟩)
  have S := sepN B l1 l2 L1 L2
  refine zLoop (A := A.in1) S (D1 _ hh) (D2 _ hh) hn hz r1 r2 (D := h'.objs.size) (xs := xs) (ys := ys) ?_ ?_ hD (fun s' G' ts I' sm gD lt pr nw => ⟨rfl, q s' G' ts _ I' sm hD gD lt pr nw⟩) n 0 _ (upd H h'.objs.size (.lst [])) [] (by omega) (Nat.zero_le _) I3 (fun b hb => ?_) ⟨⟨_, k23 _ _ hTO⟩, .inl ⟨k23 _ _ hz0, _, _, k23 _ _ hTO⟩⟩ (k23 _ _ hTI) (fun T f oT e1 e2 => ?_) (b1 _ (k23 _ _ e1) kall) (b2 _ (k23 _ _ e2) kall)
    (fun t o e => by rw [upd_ne (ne_of_none e hD)]; exact e) upd_same rfl (fun j t x y e => by simp at e) (fun t h => absurd h List.not_mem_nil)
  · exact ninN _ _ _ (by omega) (Nat.lt_of_lt_of_le L1 (by omega))
  · exact ninN _ _ _ (by omega) (Nat.lt_of_lt_of_le L2 (by omega))
  · have hb : b = B + 4 ∨ b = B + 2 ∨ b = B + 3 ∨ b = B ∨ b = B + 1 := by simpa using hb
    have l0 := inN B b hb
    have lb : s1.heap.objs.size ≤ b ∧ b ≠ h'.objs.size := ⟨by rw [hB]; exact l0.1, Nat.ne_of_lt (by omega)⟩
    refine I.fpOk lb.1 ?_
    rw [upd_ne lb.2]
    exact I.hok.fresh lb.1
  · have e := (k23 _ _ hz0).symm.trans e1
    injection e with e
    injection e with _ _ e _
    injection e with e
    have q0 := congrArg (fun (t : Array Value) => t[0]?) e
    have q1 : some Value.none = some (rawInt (T : Int)) := q0
    injection q1 with q1
    cases q1
end
section
variable {X : Cx}
theorem pe_listZip {e e2 : Expr} {ta : TA} {p p2 pos pos2 : Pos} (hc : X.calm = true) (hg : Gl X "list") (hm : X.mg "list" = none) (hg2 : Gl X "zip") (hm2 : X.mg "zip" = none) (ha : PA X [e, e2] ta)
    (hs : starEach [e, e2] X.env = (false, eval e X.env) :: starEach [e2] X.env := by rfl) (hpl : (backTo pos2 (starEach [e2] X.env)).any (·.1) = false := by rfl)
    (hs2 : starEach [.Call (.Name "zip" p2) [e, e2] [] pos2] X.env = (false, eval (.Call (.Name "zip" p2) [e, e2] [] pos2) X.env) :: starEach [] X.env := by rfl) :
    PE X (.Call (.Name "list" p) [.Call (.Name "zip" p2) [e, e2] [] pos2] [] pos) (tZipL X.K ta) := by
  refine ⟨fun pins s σ H Q I h => ?_⟩
  refine Call_ (ld_blt I hg hm boot_list (PyProof.Rows.callWith_type1 (args_cons (Call_ (ld_blt I hg2 hm2 PyProof.Rows.boot_zip (PyProof.Rows.callWith_type1 (thn (ha.run pos2 pins s σ H _ I h) fun us s1 ⟨vs, G, I1, rr, a, b, xs, ys, ev, sq, q⟩ => ?_) hs hpl))) hs2) hs2 rfl))
  subst ev
  cases rr with
  | cons ra rr =>
    cases rr with
    | cons rb rr =>
      cases rr
      cases ra
      cases rb
      have hd : X.A.handled = none := I1.ok.hd hc
      have fin : ∀ (s' : Shared) (G' : Hp) (ts : List Addr) (D : Addr), Inv X pins σ G' s' → Same G G' → G D = none → G' D = some (.lst (ts.map V.ref)) → ts.length = min xs.length ys.length → Prs G' ts xs ys → (∀ t ∈ ts, G t = none) → EP X pins σ Q (.ref D) s' :=
        fun s' G' ts D I' sm hD gD lt pr nw => ⟨.ref D, G', I', rfl, q D ts G' sm hD gD lt pr nw⟩
      rcases sq with ⟨sx, sy⟩ | ⟨sx, sy⟩
      · obtain ⟨its, rv, p1, z1⟩ := I1.list sx
        obtain ⟨jts, rw, p2, z2⟩ := I1.list sy
        have n1 := rv.length
        have n2 := rw.length
        refine zList (n := min its.toArray.size jts.toArray.size) hd I1 (begins_list a its.toArray) (begins_list b jts.toArray) p1.isList p2.isList p1.lt p2.lt (fun A' h' => .list h' _ a (Nat.ne_of_lt p1.lt) its.toArray) (fun A' h' => .list h' _ b (Nat.ne_of_lt (Nat.lt_succ_of_lt p2.lt)) jts.toArray) rfl ?_
          (fun i v e => ?_) (fun i v e => ?_) (fun h' e k => ⟨⟨_, e, rfl, rfl⟩, ?_⟩) (fun h' e k => ⟨⟨_, e, rfl, rfl⟩, ?_⟩) (fun s' G' ts D I' sm hD gD lt pr nw => fin s' G' ts D I' sm hD gD (by rw [lt, List.size_toArray, List.size_toArray, n1, n2]) pr nw) (fun v s2 hv => args_nil hv)
        · rw [List.size_toArray]
          omega
        · exact vback rv (by simpa using e)
        · exact vback rw (by simpa using e)
        · exact p1.isList.at fun o u => k _ _ u
        · exact p2.isList.at fun o u => k _ _ u
      · obtain ⟨its, rv, p1, z1⟩ := I1.tuple sx
        obtain ⟨jts, rw, p2, z2⟩ := I1.tuple sy
        have l1 : a < s1.heap.objs.size := let ⟨_, e, _⟩ := p1; Heap.lt_size e
        have l2 : b < s1.heap.objs.size := let ⟨_, e, _⟩ := p2; Heap.lt_size e
        have p1 : s1.heap.IsTuple a its.toArray := p1
        have p2 : s1.heap.IsTuple b jts.toArray := p2
        have n1 := rv.length
        have n2 := rw.length
        refine zList (n := min its.toArray.size jts.toArray.size) hd I1 (begins_tuple a its.toArray) (begins_tuple b jts.toArray) p1 p2 l1 l2 (fun A' h' => .tuple h' _ a (Nat.ne_of_lt l1) its.toArray) (fun A' h' => .tuple h' _ b (Nat.ne_of_lt (Nat.lt_succ_of_lt l2)) jts.toArray) rfl ?_
          (fun i v e => ?_) (fun i v e => ?_) (fun h' e k => ⟨⟨_, e, rfl, rfl⟩, ?_⟩) (fun h' e k => ⟨⟨_, e, rfl, rfl⟩, ?_⟩) (fun s' G' ts D I' sm hD gD lt pr nw => fin s' G' ts D I' sm hD gD (by rw [lt, List.size_toArray, List.size_toArray, n1, n2]) pr nw) (fun v s2 hv => args_nil hv)
        · rw [List.size_toArray]
          omega
        · exact vback rv (by simpa using e)
        · exact vback rw (by simpa using e)
        · exact p1.at fun o u => k _ _ u
        · exact p2.at fun o u => k _ _ u
end
end Kz

/-! a turn of a zip whose tuple is no more there; zip over tuples and texts for any target of one name or of several -/
namespace Kz
open PySem PySem.Spec PyProof.Rows L2
section
variable {prog : Program} {w : World} {A : Around} {E : Value → Shared → Prop} {s : Shared} {z TI TO i1 i2 T : Addr} {fp1 fp2 : List Addr} {n1 n2 i : Nat} {P1 P2 : Nat → Value → Prop} {St1 St2 : Nat → Heap → Prop} {f : Bool} {c1 c2 : Value}
theorem gone {a : Addr} {Q : Option Obj → Shared → Prop} (e : s.heap.get? a = none) (q : Q none s) : wpAny (model prog w) A (loadIfAlive a) Q E s := by
  have q' : Q (s.heap.get? a) s := by rw [e]; exact q
  exact fun _ _ _ => q'
theorem free_gone {Q : Bool → Shared → Prop} (hz : IsZipHeld s.heap z TI TO T f) (hT : s.heap.get? T = none) (q : Q true s) : wpAny (model prog w) A (Builtin.SmallTypes.ownedTupleIsFree (.ref z)) Q E s := by
  unfold Builtin.SmallTypes.ownedTupleIsFree
  refine wpAny_bind (wpAny_field hz rfl (x := rawInt T) rfl ?_)
  show wpAny _ _ (loadIfAlive ((T : Int).toNat) >>= _) _ _ _
  rw [Int.toNat_natCast]
  refine wpAny_bind (gone hT ?_)
  simp only [Option.isNone_none, if_true]
  exact wpAny_pure q
theorem goneItem {Q : Value → Shared → Prop} (S : ZipSep2 z TI TO i1 i2 fp1 fp2) (D1 : Draws prog w A i1 fp1 n1 P1 St1) (D2 : Draws prog w A i2 fp2 n2 P2 St2)
    (hz : IsZipHeld s.heap z TI TO T f) (hT : s.heap.get? T = none) (hTI : IsTupOf2 s.heap TI (.ref i1) (.ref i2)) (hTO : IsTupOf2 s.heap TO c1 c2) (st1 : St1 i s.heap) (st2 : St2 i s.heap) (l1 : i < n1) (l2 : i < n2)
    (q : ∀ x1 x2 h' tk, P1 i x1 → P2 i x2 → IsZip h' z TI TO (rawInt s.heap.objs.size) → IsTupOf2 h' TO x1 x2 → St1 (i + 1) h' → St2 (i + 1) h' → IsTupOf2 h' s.heap.objs.size x1 x2 → h'.objs.size = s.heap.objs.size + 1 →
      (∀ c o, c ≠ z → c ≠ TO → c ≠ i1 → c ≠ i2 → s.heap.get? c = some o → h'.get? c = some o) → Q (.ref s.heap.objs.size) { s with heap := h', toks := tk }) :
    wpAny (model prog w) A (Builtin.«zip.__next__» ⟨[.ref z], []⟩) (fun fin s' => ∃ v, fin = .done (.ret v) ∧ Q v s') E s := by
  obtain ⟨hp, ge, dr, tk0, os⟩ := s
  show wpAny _ _ (field (.ref z) 2 >>= _) _ _ _
  refine wpAny_bind (wpAny_field hz rfl (x := .bool false) rfl ?_)
  show wpAny _ _ (field (.ref z) 3 >>= _) _ _ _
  refine wpAny_bind (wpAny_field hz rfl (x := .ref TI) rfl ?_)
  refine wpAny_bind (wpAny_seqItems hTI rfl ?_)
  show wpAny _ _ (Builtin.SmallTypes.ownedTupleIsFree (.ref z) >>= _) _ _ _
  refine wpAny_bind (free_gone hz hT ?_)
  simp only [if_true]
  refine wpAny_bind (wpAny_rule ?_)
  refine wpAny_bind (wpAny_field hz rfl (x := .ref TO) rfl ?_)
  refine wpAny_bind (wpAny_setField_rec hz (by simp) fun k0 zk0 sk0 => ?_)
  replace zk0 : k0.get? z = some { cls := .type "zip", dict := none, data := .fields #[.ellipsis, .bool f, .bool false, .ref TI, .ref TO], slots := #[] } := zk0
  replace sk0 : Heap.SameBut z hp k0 := sk0
  refine wpAny_bind ?_
  simp only [List.zipIdx_cons, List.zipIdx_nil, List.forIn_cons, List.forIn_nil]
  refine wpAny_bind (wpAny_bind (wpAny_onRaise ?_))
  show wpAny _ _ (Builtin.SmallTypes.nextOf (.ref i1) >>= _) _ _ ⟨k0, ge, dr, tk0, os⟩
  refine wpAny_bind (D1.item i _ _ _ l1 (D1.over st1 sk0 S.zf1) fun x1 k1 t1 px1 n1' sk1 => wpAny_pure ?_)
  replace sk1 : Heap.SameBut i1 k0 k1 := sk1
  have u1 : IsTupOf2 k1 TO c1 c2 := sk1.extBut _ _ S.Ti1 (sk0.extBut _ _ S.TOz hTO)
  refine wpAny_bind (wpAny_seqItems (s := ⟨k1, ge, dr, t1, os⟩) u1 rfl ?_)
  refine wpAny_bind (updateSeq_IsTupOf2 (s := ⟨k1, ge, dr, t1, os⟩) u1 fun k2 v2 sk2 => ?_)
  replace v2 : IsTupOf2 k2 TO x1 c2 := v2
  replace sk2 : Heap.SameBut TO k1 k2 := sk2
  refine wpAny_bind (wpAny_letGo (wpAny_pure ?_))
  refine wpAny_bind (wpAny_bind (wpAny_onRaise ?_))
  show wpAny _ _ (Builtin.SmallTypes.nextOf (.ref i2) >>= _) _ _ ⟨k2, ge, dr, t1, os⟩
  refine wpAny_bind (D2.item i _ _ _ l2 (D2.over (D2.over (D2.over st2 sk0 S.zf2) sk1 S.sep1_2) sk2 S.Tf2) fun x2 k3 t2 px2 n2' sk3 => wpAny_pure ?_)
  replace sk3 : Heap.SameBut i2 k2 k3 := sk3
  have u2 : IsTupOf2 k3 TO x1 c2 := sk3.extBut _ _ S.Ti2 v2
  refine wpAny_bind (wpAny_seqItems (s := ⟨k3, ge, dr, t2, os⟩) u2 rfl ?_)
  refine wpAny_bind (updateSeq_IsTupOf2 (s := ⟨k3, ge, dr, t2, os⟩) u2 fun k4 v4 sk4 => ?_)
  replace v4 : IsTupOf2 k4 TO x1 x2 := v4
  replace sk4 : Heap.SameBut TO k3 k4 := sk4
  refine wpAny_bind (wpAny_letGo (wpAny_pure (wpAny_pure ?_)))
  refine wpAny_bind (wpAny_seqItems (s := ⟨k4, ge, dr, t2, os⟩) v4 rfl ?_)
  refine wpAny_bind (wpAny_newTuple ?_)
  have esz : k4.objs.size = hp.objs.size := by rw [sk4.1, sk3.1, sk2.1, sk1.1, sk0.1]
  have zk4 := sk4.extBut _ _ S.TOz.symm (sk3.extBut _ _ S.zi2 (sk2.extBut _ _ S.TOz.symm (sk1.extBut _ _ S.zi1 zk0)))
  have kk : ∀ c o, c ≠ z → c ≠ TO → c ≠ i1 → c ≠ i2 → hp.get? c = some o → k4.get? c = some o := fun c o d1 d2 d3 d4 e =>
    sk4.extBut _ _ d2 (sk3.extBut _ _ d4 (sk2.extBut _ _ d2 (sk1.extBut _ _ d3 (sk0.extBut _ _ d1 e))))
  have j1 : St1 (i + 1) k4 := D1.over (D1.over (D1.over n1' sk2 S.Tf1) sk3 S.sep2_1) sk4 S.Tf1
  have j2 : St2 (i + 1) k4 := D2.over n2' sk4 S.Tf2
  have zlt : z < k4.objs.size := Heap.lt_size zk4
  show wpAny _ _ (Builtin.SmallTypes.ownedTupleHandOut (.ref z) (.ref k4.objs.size) >>= _) _ _ ⟨k4.push { cls := .type "tuple", data := .seq #[x1, x2] }, ge, dr, t2, os⟩
  refine wpAny_bind ?_
  unfold Builtin.SmallTypes.ownedTupleHandOut
  refine wpAny_bind (wpAny_setField_rec (Heap.get?_push_of_some _ zk4) (by simp) fun k5 zk5 sk5 => ?_)
  replace sk5 : Heap.SameBut z (k4.push { cls := .type "tuple", data := .seq #[x1, x2] }) k5 := sk5
  refine wpAny_setField_rec (s := ⟨k5, ge, dr, t2, os⟩) zk5 (by simp) fun k6 zk6 sk6 => ?_
  replace zk6 : IsZip k6 z TI TO (rawInt k4.objs.size) := zk6
  replace sk6 : Heap.SameBut z k5 k6 := sk6
  have up : ∀ c o, c ≠ z → k4.get? c = some o → k6.get? c = some o := fun c o d e => sk6.extBut _ _ d (sk5.extBut _ _ d (Heap.get?_push_of_some _ e))
  have nt : IsTupOf2 k6 k4.objs.size x1 x2 := sk6.extBut _ _ (Nat.ne_of_gt zlt) (sk5.extBut _ _ (Nat.ne_of_gt zlt) (Heap.get?_push_size _ rfl))
  have sz6 : k6.objs.size = k4.objs.size + 1 := by rw [sk6.1, sk5.1, Heap.size_push]
  rw [esz] at zk6 nt sz6
  refine wpAny_pure ⟨_, rfl, ?_⟩
  show Q (.ref k4.objs.size) ⟨k6, ge, dr, t2, os⟩
  rw [esz]
  exact q x1 x2 k6 t2 px1 px2 zk6 (up _ _ S.TOz v4) (D1.frame _ _ _ j1 fun b hb o e => up b o (fun y => S.zf1 (y ▸ hb)) e) (D2.frame _ _ _ j2 fun b hb o e => up b o (fun y => S.zf2 (y ▸ hb)) e) nt sz6 fun c o d1 d2 d3 d4 e => up c o d1 (kk c o d1 d2 d3 d4 e)
theorem goneEnd {Q : Fin → Shared → Prop} (S : ZipSep2 z TI TO i1 i2 fp1 fp2) (D1 : Draws prog w A i1 fp1 n1 P1 St1) (D2 : Draws prog w A i2 fp2 n2 P2 St2)
    (hz : IsZipHeld s.heap z TI TO T f) (hT : s.heap.get? T = none) (hTI : IsTupOf2 s.heap TI (.ref i1) (.ref i2)) (hTO : IsTupOf2 s.heap TO c1 c2) (st1 : St1 i s.heap) (st2 : St2 i s.heap) (l1 : i ≤ n1) (l2 : i ≤ n2) (last : i = n1 ∨ i = n2)
    (q : ∀ h' tk e, (∀ c o, c ≠ z → c ≠ TO → c ≠ i1 → c ≠ i2 → s.heap.get? c = some o → h'.get? c = some o) → (∃ o, h'.get? e = some o ∧ o.cls = .type "StopIteration") → E (.ref e) { s with heap := h', toks := tk }) :
    wpAny (model prog w) A (Builtin.«zip.__next__» ⟨[.ref z], []⟩) Q E s := by
  obtain ⟨hp, ge, dr, tk0, os⟩ := s
  show wpAny _ _ (field (.ref z) 2 >>= _) _ _ _
  refine wpAny_bind (wpAny_field hz rfl (x := .bool false) rfl ?_)
  show wpAny _ _ (field (.ref z) 3 >>= _) _ _ _
  refine wpAny_bind (wpAny_field hz rfl (x := .ref TI) rfl ?_)
  refine wpAny_bind (wpAny_seqItems hTI rfl ?_)
  show wpAny _ _ (Builtin.SmallTypes.ownedTupleIsFree (.ref z) >>= _) _ _ _
  refine wpAny_bind (free_gone hz hT ?_)
  simp only [if_true]
  refine wpAny_bind (wpAny_rule ?_)
  refine wpAny_bind (wpAny_field hz rfl (x := .ref TO) rfl ?_)
  refine wpAny_bind (wpAny_setField_rec hz (by simp) fun k0 zk0 sk0 => ?_)
  replace zk0 : k0.get? z = some { cls := .type "zip", dict := none, data := .fields #[.ellipsis, .bool f, .bool false, .ref TI, .ref TO], slots := #[] } := zk0
  replace sk0 : Heap.SameBut z hp k0 := sk0
  refine wpAny_bind ?_
  simp only [List.zipIdx_cons, List.zipIdx_nil, List.forIn_cons, List.forIn_nil]
  refine wpAny_bind (wpAny_bind (wpAny_onRaise ?_))
  show wpAny _ _ (Builtin.SmallTypes.nextOf (.ref i1) >>= _) _ _ ⟨k0, ge, dr, tk0, os⟩
  have fin : ∀ (k : Heap) (tk : Nat) (e : Addr), k.get? z = some { cls := .type "zip", dict := none, data := .fields #[.ellipsis, .bool f, .bool false, .ref TI, .ref TO], slots := #[] } → (∃ o, k.get? e = some o ∧ o.cls = .type "StopIteration") → (∀ c o, c ≠ z → c ≠ TO → c ≠ i1 → c ≠ i2 → hp.get? c = some o → k.get? c = some o) →
      wpAny (model prog w) A (setField (.ref z) 0 .none) (fun _ s' => E (.ref e) s') E ⟨k, ge, dr, tk, os⟩ := fun k tk e zk ⟨oe, eo, ec⟩ kk => by
    have ne : e ≠ z := fun y => by
      rw [y, zk] at eo
      cases eo
      exact absurd (show Value.type "zip" = Value.type "StopIteration" from ec) (by decide)
    refine wpAny_setField_rec (s := ⟨k, ge, dr, tk, os⟩) zk (by simp) fun k' _ sk' => ?_
    replace sk' : Heap.SameBut z k k' := sk'
    exact q k' tk e (fun c o d1 d2 d3 d4 y => sk'.extBut _ _ d1 (kk c o d1 d2 d3 d4 y)) ⟨oe, sk'.extBut _ _ ne eo, ec⟩
  by_cases lt : i < n1
  · refine wpAny_bind (D1.item i _ _ _ lt (D1.over st1 sk0 S.zf1) fun x1 k1 t1 px1 n1' sk1 => wpAny_pure ?_)
    replace sk1 : Heap.SameBut i1 k0 k1 := sk1
    have u1 : IsTupOf2 k1 TO c1 c2 := sk1.extBut _ _ S.Ti1 (sk0.extBut _ _ S.TOz hTO)
    refine wpAny_bind (wpAny_seqItems (s := ⟨k1, ge, dr, t1, os⟩) u1 rfl ?_)
    refine wpAny_bind (updateSeq_IsTupOf2 (s := ⟨k1, ge, dr, t1, os⟩) u1 fun k2 v2 sk2 => ?_)
    replace sk2 : Heap.SameBut TO k1 k2 := sk2
    refine wpAny_bind (wpAny_letGo (wpAny_pure ?_))
    have e2 : i = n2 := by omega
    refine wpAny_bind (wpAny_bind (wpAny_onRaise ?_))
    show wpAny _ _ (Builtin.SmallTypes.nextOf (.ref i2) >>= _) _ _ ⟨k2, ge, dr, t1, os⟩
    refine wpAny_bind (D2.done ⟨k2, ge, dr, t1, os⟩ _ _ (by rw [← e2]; exact D2.over (D2.over (D2.over st2 sk0 S.zf2) sk1 S.sep1_2) sk2 S.Tf2) fun k3 e sk3 he => ?_)
    replace sk3 : Heap.ExtBut i2 k2 k3 := sk3
    exact fin k3 t1 e (sk3 _ _ S.zi2 (sk2.extBut _ _ S.TOz.symm (sk1.extBut _ _ S.zi1 zk0))) he fun c o d1 d2 d3 d4 y => sk3 _ _ d4 (sk2.extBut _ _ d2 (sk1.extBut _ _ d3 (sk0.extBut _ _ d1 y)))
  · have e1 : i = n1 := by omega
    refine wpAny_bind (D1.done ⟨k0, ge, dr, tk0, os⟩ _ _ (by rw [← e1]; exact D1.over st1 sk0 S.zf1) fun k3 e sk3 he => ?_)
    replace sk3 : Heap.ExtBut i1 k0 k3 := sk3
    exact fin k3 tk0 e (sk3 _ _ S.zi1 zk0) he fun c o d1 d2 d3 d4 y => sk3 _ _ d3 (sk0.extBut _ _ d1 y)
/-- the zip before a turn: nothing is out, or a tuple was given out, there or no more -/
def Zg (z TI TO : Addr) (h : Heap) : Prop := (∃ a b, IsTupOf2 h TO a b) ∧ (IsZip h z TI TO .none ∨ ∃ T f, IsZipHeld h z TI TO T f)
theorem gNext {Q : Option Value → Shared → Prop} (S : ZipSep2 z TI TO i1 i2 fp1 fp2) (D1 : Draws prog w A.in1 i1 fp1 n1 P1 St1) (D2 : Draws prog w A.in1 i2 fp2 n2 P2 St2)
    (hz : Zg z TI TO s.heap) (hTI : IsTupOf2 s.heap TI (.ref i1) (.ref i2)) (st1 : St1 i s.heap) (st2 : St2 i s.heap) (l1 : i < n1) (l2 : i < n2)
    (q : ∀ x1 x2 h' tk, P1 i x1 → P2 i x2 → ((∃ a b, IsTupOf2 h' TO a b) ∧ ∃ T f, IsZipHeld h' z TI TO T f ∧ (IsZip s.heap z TI TO .none → T = s.heap.objs.size ∧ f = false)) → IsTupOf2 h' TI (.ref i1) (.ref i2) → St1 (i + 1) h' → St2 (i + 1) h' → IsTupOf2 h' s.heap.objs.size x1 x2 → h'.objs.size = s.heap.objs.size + 1 →
      (∀ c o, c ≠ z → c ≠ TO → c ≠ i1 → c ≠ i2 → s.heap.get? c = some o → h'.get? c = some o) → Q (some (.ref s.heap.objs.size)) { s with heap := h', toks := tk }) :
    wpAny (model prog w) A (pyNext (.ref z)) Q E s := by
  obtain ⟨⟨a, b, hTO⟩, hz⟩ := hz
  rcases hz with hz | ⟨T, f, hz⟩
  · refine wpAny_pyNext_zipD2_item S D1 D2 hz hTI hTO st1 st2 l1 l2 fun x1 x2 h' tk p1 p2 z' t' u1 u2 nt sz kp => ?_
    exact q x1 x2 h' tk p1 p2 ⟨⟨_, _, t'⟩, s.heap.objs.size, false, z', fun _ => ⟨rfl, rfl⟩⟩ (kp _ _ S.TIz S.TITO S.TIi1 S.TIi2 hTI) u1 u2 nt sz kp
  · have no : ¬ IsZip s.heap z TI TO .none := fun e => by
      have e := e.symm.trans hz
      injection e with e
      injection e with _ _ e _
      injection e with e
      have q0 := congrArg (fun (t : Array Value) => t[0]?) e
      have q1 : some Value.none = some (rawInt (T : Int)) := q0
      injection q1 with q1
      cases q1
    have ty : s.TypeIs (.ref z) "zip" := ⟨_, hz, rfl⟩
    unfold pyNext
    cases hT : s.heap.get? T with
    | none =>
      refine wpAny_bind (wpAny_attempt (wpAny_callSpecial?_slot (name := Str.ofString "__next__") ty F.slot_zip_next (wpAny_call_entry F.slot_zip_next ty F.entry_zip_next
        (goneItem S D1 D2 hz hT hTI hTO st1 st2 l1 l2 fun x1 x2 h' tk p1 p2 z' t' u1 u2 nt sz kp => wpAny_pure ?_) (F.args_zip_next_1 _))))
      exact q x1 x2 h' tk p1 p2 ⟨⟨_, _, t'⟩, s.heap.objs.size, false, z', fun e => absurd e no⟩ (kp _ _ S.TIz S.TITO S.TIi1 S.TIi2 hTI) u1 u2 nt sz kp
    | some oT =>
      refine wpAny_bind (wpAny_attempt (wpAny_callSpecial?_slot (name := Str.ofString "__next__") ty F.slot_zip_next (wpAny_call_entry F.slot_zip_next ty F.entry_zip_next
        (outItem S D1 D2 hz hT hTI st1 st2 l1 l2 fun x1 x2 h' tk p1 p2 z' t1 t2 nw sz kp => wpAny_pure ?_) (F.args_zip_next_1 _))))
      exact q x1 x2 h' tk p1 p2 ⟨⟨a, b, kp _ _ S.TOz S.Ti1 S.Ti2 hTO⟩, T, true, z', fun e => absurd e no⟩ (kp _ _ S.TIz S.TIi1 S.TIi2 hTI) t1 t2 nw sz fun c o d1 _ d3 d4 e => kp c o d1 d3 d4 e
theorem gDone {Q : Option Value → Shared → Prop} (S : ZipSep2 z TI TO i1 i2 fp1 fp2) (D1 : Draws prog w A.in1 i1 fp1 n1 P1 St1) (D2 : Draws prog w A.in1 i2 fp2 n2 P2 St2)
    (hz : Zg z TI TO s.heap) (hTI : IsTupOf2 s.heap TI (.ref i1) (.ref i2)) (st1 : St1 i s.heap) (st2 : St2 i s.heap) (l1 : i ≤ n1) (l2 : i ≤ n2) (last : i = n1 ∨ i = n2)
    (q : ∀ h' tk, (∀ c o, c ≠ z → c ≠ TO → c ≠ i1 → c ≠ i2 → s.heap.get? c = some o → h'.get? c = some o) → Q none { s with heap := h', toks := tk }) :
    wpAny (model prog w) A (pyNext (.ref z)) Q E s := by
  obtain ⟨⟨a, b, hTO⟩, hz⟩ := hz
  rcases hz with hz | ⟨T, f, hz⟩
  · exact wpAny_pyNext_zipD2_end S D1 D2 hz hTI hTO st1 st2 l1 l2 last q
  · have ty : s.TypeIs (.ref z) "zip" := ⟨_, hz, rfl⟩
    unfold pyNext
    have fin : ∀ (h' : Heap) (tk : Nat) (e : Addr), (∀ c o, c ≠ z → c ≠ TO → c ≠ i1 → c ≠ i2 → s.heap.get? c = some o → h'.get? c = some o) → (∃ o, h'.get? e = some o ∧ o.cls = .type "StopIteration") → wpAny (model prog w) A (isInstance (.ref e) (.type "StopIteration")) (fun b s' => wpAny (model prog w) A (if b = true then pure none else throw (.ref e)) Q E s') E { s with heap := h', toks := tk } := fun h' tk e kp ⟨o, ho, hc⟩ =>
      wpAny_isInstance (T := "StopIteration") (b := true) ⟨o, ho, hc⟩ isSubtype_stop (wpAny_pure (q _ _ kp))
    cases hT : s.heap.get? T with
    | none =>
      refine wpAny_bind (wpAny_attempt (wpAny_callSpecial?_slot (name := Str.ofString "__next__") ty F.slot_zip_next (wpAny_call_entry F.slot_zip_next ty F.entry_zip_next
        (goneEnd S D1 D2 hz hT hTI hTO st1 st2 l1 l2 last fun h' tk e kp he => ?_) (F.args_zip_next_1 _))))
      exact wpAny_bind (fin h' tk e kp he)
    | some oT =>
      refine wpAny_bind (wpAny_attempt (wpAny_callSpecial?_slot (name := Str.ofString "__next__") ty F.slot_zip_next (wpAny_call_entry F.slot_zip_next ty F.entry_zip_next
        (outEnd S D1 D2 hz hT hTI st1 st2 l1 l2 last fun h' tk e kp he => ?_) (F.args_zip_next_1 _))))
      exact wpAny_bind (fin h' tk e (fun c o d1 _ d3 d4 y => kp c o d1 d3 d4 y) he)
end
end Kz

/-! zip over tuples and texts, for a target of one name or of several -/
namespace Kz
open PySem PySem.Spec PyProof.Rows L2
/-- what a zip draws from: a tuple that stands, or a text -/
inductive Sr where
  | tup (a : Addr) (xs : List V)
  | txt (x : Str)
def Sr.vs : Sr → List V
  | .tup _ xs => xs
  | .txt x => x.cps.toList.map fun c => V.str ⟨#[c]⟩
def Sr.v : Sr → V
  | .tup a _ => .ref a
  | .txt x => .str x
def Sr.at (K : PySem.W.Frag) (H : Hp) : Sr → Prop
  | .tup a xs => SqT K H a xs
  | .txt _ => True
def Sr.cell (h : Heap) (it : Addr) (i : Nat) : Sr → Prop
  | .tup a _ => h.IsTupleIter it a i
  | .txt x => ∃ t, h.IsStrIter it (strIterType x) x t i
theorem Sr.cell_obj {h : Heap} {it : Addr} {i : Nat} : ∀ {r : Sr}, r.cell h it i → ∃ o, h.get? it = some o ∧ ∀ v, o.data ≠ .cell v
  | .tup _ _, ⟨o, e, _, d⟩ => ⟨o, e, fun v q => by rw [d] at q; cases q⟩
  | .txt _, ⟨_, o, e, _, d⟩ => ⟨o, e, fun v q => by rw [d] at q; cases q⟩
theorem Sr.cell_keep {h h' : Heap} {it : Addr} {i : Nat} (k : ∀ o, h.get? it = some o → h'.get? it = some o) : ∀ {r : Sr}, r.cell h it i → r.cell h' it i
  | .tup _ _, ⟨o, e, c⟩ => ⟨o, k o e, c⟩
  | .txt _, ⟨t, o, e, c⟩ => ⟨t, o, k o e, c⟩
/-- below -/
def Sr.low (B : Nat) : Sr → Prop
  | .tup a _ => @LT.lt Nat _ a B
  | .txt _ => True
theorem Sr.draws {X : Cx} {pins : List (Addr × Obj)} {σ : L2.St} {H : Hp} {s : Shared} {it : Addr} {i B : Nat} (I : Inv X pins σ H s) (hB : @LE.le Nat _ B it) : ∀ {r : Sr}, r.at X.K H → r.cell s.heap it i → r.low B →
    ∃ fp P St, (∀ A' : Around, A'.handled = none → Draws X.prog X.w A' it fp r.vs.length P St) ∧ (∀ j v, P j v → ∃ x, r.vs[j]? = some x ∧ RelV x v) ∧ St i s.heap ∧ (∀ j h, St j h → r.cell h it j) ∧ it ∈ fp ∧ ∀ b ∈ fp, b = it ∨ @LT.lt Nat _ b B
  | .tup a xs, hq, c, lo => by
    obtain ⟨its, rv, p, _⟩ := I.tuple hq
    have lo : @LT.lt Nat _ a B := lo
    have ne : a ≠ it := Nat.ne_of_lt (Nat.lt_of_lt_of_le lo hB)
    have e : its.toArray.size = xs.length := by rw [List.size_toArray]; exact rv.length.symm
    refine ⟨[it, a], fun i v => its.toArray[i]? = some v, fun i h => h.IsTupleIter it a i ∧ h.IsTuple a its.toArray, fun A' hA => ?_, fun j v z => ?_, ⟨c, p⟩, fun j h z => z.1, List.mem_cons_self, fun b hb => ?_⟩
    · have D := Draws.tuple (prog := X.prog) (w := X.w) hA it a ne its.toArray
      rw [e] at D
      exact D
    · exact vback rv (by simpa using z)
    · rcases List.mem_cons.mp hb with rfl | hb
      · exact .inl rfl
      · rw [List.mem_singleton.mp hb]
        exact .inr lo
  | .txt x, _, ⟨t, c⟩, _ => by
    have e : x.cps.size = (Sr.txt x).vs.length := by
      show _ = (x.cps.toList.map _).length
      rw [List.length_map, Array.length_toList]
    refine ⟨[it], fun i v => ∃ c u, x.cps[i]? = some c ∧ v = .str ⟨#[c]⟩ u, fun i h => h.IsStrIter it (strIterType x) x t i, fun A' hA => ?_, fun j v z => ?_, c, fun j h z => ⟨t, z⟩, List.mem_cons_self, fun b hb => .inl (List.mem_singleton.mp hb)⟩
    · have D := Draws.text (prog := X.prog) (w := X.w) hA it x t
      rw [e] at D
      exact D
    · obtain ⟨cc, u, h1, rfl⟩ := z
      refine ⟨.str ⟨#[cc]⟩, ?_, u, rfl⟩
      show (x.cps.toList.map fun c => V.str ⟨#[c]⟩)[j]? = _
      rw [List.getElem?_map, Array.getElem?_toList, h1]
      rfl
theorem sepG (B : Nat) (fp1 fp2 : List Addr) (m1 : B ∈ fp1) (a1 : ∀ b ∈ fp1, b = B ∨ @LT.lt Nat _ b B) (m2 : B + 1 ∈ fp2) (a2 : ∀ b ∈ fp2, b = B + 1 ∨ @LT.lt Nat _ b B) : ZipSep2 (B + 4) (B + 2) (B + 3) B (B + 1) fp1 fp2 := by
  have n1 : ∀ k : Nat, k ≠ 0 → (B + k) ∉ fp1 := fun k hk h => by
    rcases a1 _ h with z | z
    · have z : B + k = B := z
      omega
    · omega
  have n2 : ∀ k : Nat, k ≠ 1 → (B + k) ∉ fp2 := fun k hk h => by
    rcases a2 _ h with z | z
    · have z : B + k = B + 1 := z
      omega
    · omega
  exact ⟨neN _ _ (by omega), neN _ _ (by omega), neN _ _ (by omega), neN _ _ (by omega), m1, n1 4 (by omega), n1 3 (by omega), neN _ _ (by omega), m2, n2 4 (by omega), n2 3 (by omega), n2 0 (by omega), n1 1 (by omega)⟩
/-- the pairs, new ones -/
def Jg (K : PySem.W.Frag) (p q : Sr) : It :=
  ⟨fun i H => p.at K H ∧ q.at K H ∧ i < p.vs.length ∧ i < q.vs.length,
    fun i H v H' => ∃ T x y, v = .ref T ∧ H T = none ∧ H' = upd H T (.tup [x, y]) ∧ p.vs[i]? = some x ∧ q.vs[i]? = some y,
    fun i H => p.at K H ∧ q.at K H ∧ i ≤ p.vs.length ∧ i ≤ q.vs.length ∧ (i = p.vs.length ∨ i = q.vs.length)⟩
theorem turn_zipG {P : Program} {w : World} {K : PySem.W.Frag} {tg : Expr} {p q : Sr} {B : Nat} {Z : Heap → Prop} (lp : p.low B) (lq : q.low B) (hZ : ∀ h, Z h → Zg (B + 4) (B + 2) (B + 3) h) (kZ : ∀ h h', Z h → (∀ o, h.get? (B + 4) = some o → h'.get? (B + 4) = some o) → (∀ o, h.get? (B + 3) = some o → h'.get? (B + 3) = some o) → Z h')
    (go : ∀ (A : Around) (E : Value → Shared → Prop) (s : Shared) (h0 : Heap) (T T' : Addr) (f : Bool) (Q : Unit → Shared → Prop), Z h0 → (IsZip h0 (B + 4) (B + 2) (B + 3) .none → T = T' ∧ f = false) → (∃ a b, IsTupOf2 s.heap (B + 3) a b) → IsZipHeld s.heap (B + 4) (B + 2) (B + 3) T f →
      (∀ h', Z h' → Heap.SameBut (B + 4) s.heap h' → Q () { s with heap := h' }) → wpAny (model P w) A (letOwnedTupleGo tg (.ref (B + 4)) (.ref T')) Q E s) :
    Turn P w K tg (Jg K p q) [B + 4, B + 2, B + 3, B, B + 1] (B + 4) (fun i h => Z h ∧ IsTupOf2 h (B + 2) (.ref B) (.ref (B + 1)) ∧ p.cell h B i ∧ q.cell h (B + 1) i) where
  mem := by simp
  obj := fun i h st c hc => by
    obtain ⟨zz, hTI, h1, h2⟩ := st
    obtain ⟨⟨a, b, hTO⟩, hz⟩ := hZ h zz
    have e' : c = B + 4 ∨ c = B + 2 ∨ c = B + 3 ∨ c = B ∨ c = B + 1 := by simpa using hc
    rcases e' with y | y | y | y | y
    · rw [y]
      rcases hz with hz | ⟨T, f, hz⟩
      · exact ⟨_, hz, fun v q => nomatch q⟩
      · exact ⟨_, hz, fun v q => nomatch q⟩
    · rw [y]; exact ⟨_, hTI, fun v q => nomatch q⟩
    · rw [y]; exact ⟨_, hTO, fun v q => nomatch q⟩
    · rw [y]; exact Sr.cell_obj (r := p) h1
    · rw [y]; exact Sr.cell_obj (r := q) h2
  keep := fun i h h' st k => by
    obtain ⟨zz, hTI, h1, h2⟩ := st
    exact ⟨kZ h h' zz (k _ (by simp)) (k _ (by simp)), k (B + 2) (by simp) _ hTI, Sr.cell_keep (r := p) (k B (by simp)) h1, Sr.cell_keep (r := q) (k (B + 1) (by simp)) h2⟩
  item := by
    intro X hP hw hK hc i pins s σ H E I hf st hg
    subst hP hw hK
    obtain ⟨zz, hTI, h1, h2⟩ := st
    obtain ⟨hp, hq, lt1, lt2⟩ := hg
    obtain ⟨fp1, P1, St1, D1, r1, s1, b1, m1, f1⟩ := Sr.draws I (Nat.le_refl B) hp h1 lp
    obtain ⟨fp2, P2, St2, D2, r2, s2, b2, m2, f2⟩ := Sr.draws I (show B ≤ B + 1 from Nat.le_succ B) hq h2 lq
    have S := sepG B fp1 fp2 m1 f1 m2 f2
    have hh : X.A.handled = none := I.ok.hd hc
    have hzl : ∃ o, s.heap.get? (B + 4) = some o := by
      rcases (hZ _ zz).2 with z | ⟨_, _, z⟩
      · exact ⟨_, z⟩
      · exact ⟨_, z⟩
    obtain ⟨oz, ez⟩ := hzl
    have hzl : B + 4 < s.heap.objs.size := Heap.lt_size ez
    refine gNext S (D1 _ hh) (D2 _ hh) (hZ _ zz) hTI s1 s2 lt1 lt2 fun x1 x2 h' tk p1 p2 ⟨nTO, T, f, nz, cond⟩ nTI u1 u2 nt sz kp => ?_
    obtain ⟨x, hx, rx⟩ := r1 _ _ p1
    obtain ⟨y, hy, ry⟩ := r2 _ _ p2
    refine ⟨_, rfl, go X.A E { s with heap := h', toks := tk } s.heap T s.heap.objs.size f _ zz cond nTO nz fun h'' z'' sb => ?_⟩
    replace sb : Heap.SameBut (B + 4) h' h'' := sb
    have nt2 : h''.get? s.heap.objs.size = some { cls := .type "tuple", data := .seq #[x1, x2] } := (sb.2 _ (Nat.ne_of_gt hzl)).trans nt
    have new : ObjOk X.prog X.w (upd H s.heap.objs.size (.tup [x, y])) h'' s.heap.objs.size (.tup [x, y]) :=
      ⟨by show 2 ≤ sizeLine; decide, [x1, x2], .cons rx (.cons ry .nil), ⟨_, nt2, rfl, _, rfl⟩⟩
    have I1 : Inv X pins σ (upd H s.heap.objs.size (.tup [x, y])) { s with heap := h'', toks := tk } :=
      I.turnedNew (ch := [B + 4, B + 2, B + 3, B, B + 1]) (fun c o hb e => (sb.2 c (fun q' => hb (by simp [q']))).trans (kp c o (fun q' => hb (by simp [q'])) (fun q' => hb (by simp [q'])) (fun q' => hb (by simp [q'])) (fun q' => hb (by simp [q'])) e)) hf (Nat.le_refl _) new
    have kc : ∀ c, c ≠ B + 4 → ∀ o, h'.get? c = some o → h''.get? c = some o := fun c hc o e => (sb.2 c hc).trans e
    refine ⟨.ref s.heap.objs.size, _, I1, rfl, ⟨_, x, y, rfl, I.hok.fresh (Nat.le_refl _), rfl, hx, hy⟩, ⟨z'', kc _ (neN _ _ (by omega)) _ nTI, Sr.cell_keep (r := p) (kc _ (neN _ _ (by omega))) (b1 _ _ u1), Sr.cell_keep (r := q) (kc _ (neN _ _ (by omega))) (b2 _ _ u2)⟩, fun c hcm => ?_⟩
    have hlt : c < s.heap.objs.size := by
      have e' : c = B + 4 ∨ c = B + 2 ∨ c = B + 3 ∨ c = B ∨ c = B + 1 := by simpa using hcm
      rcases e' with y | y | y | y | y
      · rw [y]; exact hzl
      · rw [y]; exact Nat.lt_trans (by omega) hzl
      · rw [y]; exact Nat.lt_trans (by omega) hzl
      · rw [y]; exact Nat.lt_trans (by omega) hzl
      · rw [y]; exact Nat.lt_trans (by omega) hzl
    rw [upd_ne (Nat.ne_of_lt hlt)]
    exact (hf c hcm).1
  done := by
    intro X hP hw hK hc i pins s σ H E I hf st hg
    subst hP hw hK
    obtain ⟨zz, hTI, h1, h2⟩ := st
    obtain ⟨hp, hq, le1, le2, last⟩ := hg
    obtain ⟨fp1, P1, St1, D1, r1, s1, b1, m1, f1⟩ := Sr.draws I (Nat.le_refl B) hp h1 lp
    obtain ⟨fp2, P2, St2, D2, r2, s2, b2, m2, f2⟩ := Sr.draws I (show B ≤ B + 1 from Nat.le_succ B) hq h2 lq
    have S := sepG B fp1 fp2 m1 f1 m2 f2
    have hh : X.A.handled = none := I.ok.hd hc
    exact gDone S (D1 _ hh) (D2 _ hh) (hZ _ zz) hTI s1 s2 le1 le2 last fun h' tk kp => ⟨rfl, I.turnedL (ch := [B + 4, B + 2, B + 3, B, B + 1]) (fun c o hb e =>
      kp c o (fun q' => hb (by simp [q'])) (fun q' => hb (by simp [q'])) (fun q' => hb (by simp [q'])) (fun q' => hb (by simp [q'])) e) hf⟩
  self := fun A i s Q E st h => by
    rcases (hZ _ st.1).2 with z | ⟨_, _, z⟩
    · exact wpAny_pyIter_zip z h
    · exact iter_held z h
where
  iter_held {A : Around} {s : Shared} {z TI TO T : Addr} {f : Bool} {Q : Value → Shared → Prop} {E : Value → Shared → Prop} (hz : IsZipHeld s.heap z TI TO T f) (h : Q (.ref z) s) : wpAny (model P w) A (pyIter (.ref z)) Q E s := by
    have ty : s.TypeIs (.ref z) "zip" := ⟨_, hz, rfl⟩
    refine wpAny_pyIter_slot ty F.slot_zip_iter (wpAny_call_entry F.slot_zip_iter ty F.entry_zip_iter ?_ (F.args_zip_iter_1 _))
    show wpAny _ _ (ret (.ref z)) _ _ s
    exact wpAny_pure ⟨_, rfl, "zip", _, ty, F.slot_zip_next.lookup, h⟩
end Kz

/-! zip(a, b) over tuples and texts, as what a loop or a comprehension goes through -/
namespace Kz
open PySem PySem.Spec PyProof.Rows L2
theorem Sr.begins {X : Cx} {pins : List (Addr × Obj)} {σ : L2.St} {H : Hp} {s : Shared} {u : Value} (I : Inv X pins σ H s) : ∀ {r : Sr}, r.at X.K H → RelV r.v u → ∃ o Hh, Begins u o Hh ∧ Hh s.heap ∧ (∀ (h : Heap) (it : Addr), h.get? it = some o → r.cell h it 0) ∧ r.low s.heap.objs.size
  | .tup a xs, hq, rv => by
    obtain ⟨its, _, p, _⟩ := I.tuple hq
    have e : u = Value.ref a := rv
    subst e
    obtain ⟨o, ho, _⟩ := id p
    exact ⟨_, _, begins_tuple a its.toArray, p, fun h it e => ⟨_, e, rfl, rfl⟩, Heap.lt_size ho⟩
  | .txt x, _, rv => by
    obtain ⟨t, rfl⟩ := (show ∃ t, u = .str x t from rv)
    exact ⟨_, _, begins_text x t, trivial, fun h it e => ⟨t, _, e, rfl, rfl⟩, trivial⟩
def iZipG (K : PySem.W.Frag) (ta : TA) : TI := fun σ H R => ta σ H fun vs H1 => ∃ p q : Sr, vs = [p.v, q.v] ∧ p.at K H1 ∧ q.at K H1 ∧ R (Jg K p q) H1
section
variable {X : Cx} {e e2 : Expr} {ta : TA} {p pos tpos : Pos} {tg : Expr}
theorem pi_zip_of {Z : Nat → Heap → Prop} (hg : Gl X "zip") (hm : X.mg "zip" = none) (ha : PA X [e, e2] ta)
    (hZ : ∀ B h, Z B h → Zg (B + 4) (B + 2) (B + 3) h) (kZ : ∀ B h h', Z B h → (∀ o, h.get? (B + 4) = some o → h'.get? (B + 4) = some o) → (∀ o, h.get? (B + 3) = some o → h'.get? (B + 3) = some o) → Z B h')
    (bZ : ∀ B h, (∃ a b, IsTupOf2 h (B + 3) a b) → IsZip h (B + 4) (B + 2) (B + 3) .none → Z B h)
    (go : ∀ (B : Nat) (A : Around) (E : Value → Shared → Prop) (s : Shared) (h0 : Heap) (T T' : Addr) (f : Bool) (Q : Unit → Shared → Prop), Z B h0 → (IsZip h0 (B + 4) (B + 2) (B + 3) .none → T = T' ∧ f = false) → (∃ a b, IsTupOf2 s.heap (B + 3) a b) → IsZipHeld s.heap (B + 4) (B + 2) (B + 3) T f →
      (∀ h', Z B h' → Heap.SameBut (B + 4) s.heap h' → Q () { s with heap := h' }) → wpAny (model X.prog X.w) A (letOwnedTupleGo tg (.ref (B + 4)) (.ref T')) Q E s)
    (hs : starEach [e, e2] X.env = (false, eval e X.env) :: starEach [e2] X.env := by rfl) (hpl : (backTo pos (starEach [e2] X.env)).any (·.1) = false := by rfl) :
    PI X tg (.Call (.Name "zip" p) [e, e2] [] pos) (iZipG X.K ta) := by
  refine ⟨fun pins s σ H R I h => ?_⟩
  refine Call_ (ld_blt I hg hm PyProof.Rows.boot_zip (PyProof.Rows.callWith_type1 (thn (ha.run pos pins s σ H _ I h) fun us s1 ⟨vs, H1, I1, r1, a, b, ev, qa, qb, q⟩ => ?_) hs hpl))
  subst ev
  cases r1 with
  | cons ra rr =>
    cases rr with
    | cons rb rr =>
      cases rr
      rename_i u1 u2
      obtain ⟨o1, H1', B1, h1, c1, l1⟩ := Sr.begins I1 qa ra
      obtain ⟨o2, H2', B2, h2, c2, l2⟩ := Sr.begins I1 qb rb
      refine zip_begins2 B1 B2 h1 h2 fun h' hz hTI hTO e1 e2 sz kp => wpAny_pyIter_zip hz ?_
      have I2 : Inv X pins σ H1 { s1 with heap := h' } := I1.kept (t' := s1.toks) kp
      refine ⟨s1.heap.objs.size + 4, [s1.heap.objs.size + 4, s1.heap.objs.size + 2, s1.heap.objs.size + 3, s1.heap.objs.size, s1.heap.objs.size + 1], _, _, H1, rfl, I2, turn_zipG (Z := Z s1.heap.objs.size) l1 l2 (hZ _) (kZ _) (go _), ⟨bZ _ _ ⟨_, _, hTO⟩ hz, hTI, c1 _ _ e1, c2 _ _ e2⟩, fun c hc => ?_, q⟩
      have e' : c = s1.heap.objs.size + 4 ∨ c = s1.heap.objs.size + 2 ∨ c = s1.heap.objs.size + 3 ∨ c = s1.heap.objs.size ∨ c = s1.heap.objs.size + 1 := by simpa using hc
      have hle : s1.heap.objs.size ≤ c := (inN _ _ e').1
      exact I1.fpOk hle (I1.hok.fresh hle)
/-- for x in zip(a, b) -/
theorem pi_zipN {nm : Str} (hg : Gl X "zip") (hm : X.mg "zip" = none) (ha : PA X [e, e2] ta)
    (hs : starEach [e, e2] X.env = (false, eval e X.env) :: starEach [e2] X.env := by rfl) (hpl : (backTo pos (starEach [e2] X.env)).any (·.1) = false := by rfl) :
    PI X (.Name nm tpos) (.Call (.Name "zip" p) [e, e2] [] pos) (iZipG X.K ta) := by
  refine pi_zip_of (Z := fun B h => Zg (B + 4) (B + 2) (B + 3) h) hg hm ha (fun _ _ z => z) (fun B h h' z k4 k3 => ?_) (fun B h a z => ⟨a, .inl z⟩) (fun B A E s h0 T T' f Q _ _ nTO nz q => ?_) hs hpl
  · obtain ⟨⟨a, b, hTO⟩, hz⟩ := z
    refine ⟨⟨a, b, k3 _ hTO⟩, ?_⟩
    rcases hz with hz | ⟨T, f, hz⟩
    · exact .inl (k4 _ hz)
    · exact .inr ⟨T, f, k4 _ hz⟩
  · exact wpAny_of_eq (show letOwnedTupleGo (.Name nm tpos) (.ref (B + 4)) (.ref T') = pure () from rfl) (q s.heap ⟨nTO, .inr ⟨T, f, nz⟩⟩ (Heap.SameBut.refl _ _))
/-- for x, y in zip(a, b) -/
theorem pi_zipM {elts : List Expr} {kk : Nat} (hg : Gl X "zip") (hm : X.mg "zip" = none) (ha : PA X [e, e2] ta)
    (hs : starEach [e, e2] X.env = (false, eval e X.env) :: starEach [e2] X.env := by rfl) (hpl : (backTo pos (starEach [e2] X.env)).any (·.1) = false := by rfl) :
    PI X (.Tuple elts kk tpos) (.Call (.Name "zip" p) [e, e2] [] pos) (iZipG X.K ta) := by
  refine pi_zip_of (Z := fun B h => (∃ a b, IsTupOf2 h (B + 3) a b) ∧ IsZip h (B + 4) (B + 2) (B + 3) .none) hg hm ha (fun _ _ z => ⟨z.1, .inl z.2⟩) (fun B h h' z k4 k3 => ?_) (fun B h a z => ⟨a, z⟩) (fun B A E s h0 T T' f Q hz0 cond nTO nz q => ?_) hs hpl
  · obtain ⟨⟨a, b, hTO⟩, hz⟩ := z
    exact ⟨⟨a, b, k3 _ hTO⟩, k4 _ hz⟩
  · obtain ⟨rfl, rfl⟩ := cond hz0.2
    refine wpAny_letOwnedTupleGo_zip (s := s) nz fun h' z' sb => q h' ⟨?_, z'⟩ sb
    obtain ⟨a, b, t⟩ := nTO
    exact ⟨a, b, sb.extBut _ _ (neN _ _ (by omega)) t⟩
/-- the same, the written part named -/
theorem pi_zipNK {nm : Str} (K : PySem.W.Frag) (hK : X.K = K) (hg : Gl X "zip") (hm : X.mg "zip" = none) (ha : PA X [e, e2] ta)
    (hs : starEach [e, e2] X.env = (false, eval e X.env) :: starEach [e2] X.env := by rfl) (hpl : (backTo pos (starEach [e2] X.env)).any (·.1) = false := by rfl) :
    PI X (.Name nm tpos) (.Call (.Name "zip" p) [e, e2] [] pos) (iZipG K ta) := by
  subst hK
  exact pi_zipN hg hm ha hs hpl
theorem pi_zipMK {elts : List Expr} {kk : Nat} (K : PySem.W.Frag) (hK : X.K = K) (hg : Gl X "zip") (hm : X.mg "zip" = none) (ha : PA X [e, e2] ta)
    (hs : starEach [e, e2] X.env = (false, eval e X.env) :: starEach [e2] X.env := by rfl) (hpl : (backTo pos (starEach [e2] X.env)).any (·.1) = false := by rfl) :
    PI X (.Tuple elts kk tpos) (.Call (.Name "zip" p) [e, e2] [] pos) (iZipG K ta) := by
  subst hK
  exact pi_zipM hg hm ha hs hpl
end
/-! loops -/
section
variable {K : PySem.W.Frag} {p q : Sr}
theorem for_zipG {g : TG} {tb : TS} {D : Ends} {σ : L2.St} {H : Hp} (Pv : Nat → L2.St → Hp → Prop) (hl : p.vs.length = q.vs.length) (h0 : Pv 0 σ H) (hq : ∀ i σ H, Pv i σ H → p.at K H ∧ q.at K H)
    (hs : ∀ (i : Nat) (x y : V) (T : Addr) (σ : L2.St) (H : Hp), p.vs[i]? = some x → q.vs[i]? = some y → Pv i σ H → H T = none → g (.ref T) σ (upd H T (.tup [x, y])) fun σ2 H2 => tb { D with nx := Pv (i + 1), ct := Pv (i + 1), bk := D.nx } σ2 H2) (hd : ∀ σ H, Pv p.vs.length σ H → D.nx σ H) :
    ∃ W : Nat → Nat → L2.St → Hp → Prop, (∃ m, W 0 m σ H) ∧ ∀ i m σ H, W i m σ H →
      ((Jg K p q).stop i H ∧ D.nx σ H) ∨ ((Jg K p q).go i H ∧ ∃ N : L2.St → Hp → Prop, (∀ σ' H', N σ' H' → ∃ m', m' < m ∧ W (i + 1) m' σ' H') ∧ ∀ v H', (Jg K p q).yld i H v H' → g v σ H' fun σ2 H2 => tb { D with nx := N, ct := N, bk := D.nx } σ2 H2) := by
  refine ⟨fun i m σ H => m = p.vs.length - i ∧ i ≤ p.vs.length ∧ Pv i σ H, ⟨_, rfl, Nat.zero_le _, h0⟩, fun i m σ H z => ?_⟩
  obtain ⟨rfl, hi, pv⟩ := z
  obtain ⟨q1, q2⟩ := hq i σ H pv
  by_cases lt : i < p.vs.length
  · refine .inr ⟨⟨q1, q2, lt, by omega⟩, Pv (i + 1), fun σ' H' p' => ⟨p.vs.length - (i + 1), by omega, rfl, lt, p'⟩, fun v H' y => ?_⟩
    obtain ⟨T, x, y, rfl, hT, rfl, e1, e2⟩ := y
    exact hs i x y T σ H e1 e2 pv hT
  · have e : i = p.vs.length := by omega
    subst e
    exact .inl ⟨⟨q1, q2, Nat.le_refl _, by omega, .inl rfl⟩, hd σ H pv⟩
end
end Kz

/-! tuple * number, none and one too -/
namespace Kz
open PySem PySem.Spec PyProof.Rows L2
theorem mul_one_same (l : Addr) (items : Array Value) (n : Nat) (dd : Option Addr) (sl : Array (Option Value)) (u : Tok) :
    Meets (Builtin.«tuple.__mul__» ⟨[.ref l, .int 1 u], []⟩) (fun _ R s => s.heap.get? l = some { cls := .type "tuple", dict := dd, data := .seq items n, slots := sl } ∧ R (.ok (.ret (Value.ref l))) s) :=
  .of_wp fun prog w A R s h => by
    obtain ⟨hp, g, d, tk, os⟩ := s
    obtain ⟨hl, h⟩ := h
    have f1 := AutoSeq1.idx_int
    have hT : Shared.TypeIs ⟨hp, g, d, tk, os⟩ (.ref l) "tuple" := ⟨_, hl, rfl⟩
    wp_walk using wpAny_loadPart' hl, wpAny_typeOf hT
    repeat (first
      | (refine wpAny_ite_false (by decide) ?_; wp_walk using wpAny_loadPart' hl, wpAny_typeOf hT)
      | (refine wpAny_ite_true (by simp) ?_; wp_walk using wpAny_loadPart' hl, wpAny_typeOf hT))
    all_goals first | exact ⟨_, rfl, h⟩ | skip
theorem mul_none (l : Addr) (items : Array Value) (n : Nat) (dd : Option Addr) (sl : Array (Option Value)) (u : Tok) (ne : items.isEmpty = false) :
    Meets (Builtin.«tuple.__mul__» ⟨[.ref l, .int 0 u], []⟩) (fun _ R s => s.heap.get? l = some { cls := .type "tuple", dict := dd, data := .seq items n, slots := sl } ∧
      R (.ok (.ret (Value.ref s.heap.objs.size))) { s with heap := s.heap.push { cls := Value.type "tuple", data := Data.seq #[] }, toks := s.toks }) :=
  .of_wp fun prog w A R s h => by
    obtain ⟨hp, g, d, tk, os⟩ := s
    obtain ⟨hl, h⟩ := h
    have f1 := AutoSeq1.idx_int
    have c1 : (items.isEmpty || (0 : Int) == 1) = false := by rw [ne]; rfl
    wp_walk using wpAny_loadPart' hl
    repeat (first
      | (refine wpAny_ite_false (by decide) ?_; wp_walk using wpAny_loadPart' hl)
      | (refine wpAny_ite_false (decide_eq_false (by rw [c1]; exact Bool.false_ne_true)) ?_; wp_walk using wpAny_loadPart' hl)
      | (refine wpAny_ite_true (by simp) ?_; wp_walk using wpAny_loadPart' hl))
    all_goals first | exact ⟨_, rfl, h⟩ | skip
def rRepA (K : PySem.W.Frag) : R2 := fun x y H Q => ∃ l k xs, x = .ref l ∧ y = .int k ∧ SqT K H l xs ∧ xs ≠ [] ∧ 0 ≤ k ∧ k ≤ 1000 ∧ xs.length ≤ 1000 ∧ ∀ t G, Same H G → SqT K G t (List.replicate k.toNat xs).flatten → Q (.ref t) G
theorem newSm {H : Hp} {p : Addr} {o : HO} (h : H p = none) : Same H (upd H p o) := fun b u e => by
  rw [upd_ne (ne_of_none e h)]
  exact e
section
variable {X : Cx}
theorem op_repA : OpR X (binaryOp .Mult) (rRepA X.K) := by
  intro pins s σ H x y v u Q I rx ry h
  obtain ⟨l, k, xs, rfl, rfl, hT, hne, h1, h2, hz, q⟩ := h
  by_cases h3 : 2 ≤ k
  · exact op_repT pins s σ H _ _ v u Q I rx ry ⟨l, k, xs, rfl, rfl, hT, hne, h3, h2, hz, fun p hp => q p _ (newSm hp) (SqT.of upd_same)⟩
  cases rx
  obtain ⟨t, rfl⟩ := ry
  obtain ⟨its, r, ⟨⟨cls, dd, data, sl⟩, ho, hc, n, hd⟩, hs⟩ := I.tuple hT
  simp only at hc hd
  subst hc hd
  have hn : its.toArray.isEmpty = false := by
    cases its with
    | nil =>
      have := r.length
      exact absurd (List.eq_nil_of_length_eq_zero this) hne
    | cons a b => rfl
  have k01 : k = 0 ∨ k = 1 := by omega
  rcases k01 with rfl | rfl
  · refine wpAny_binaryOp_repeat_ref (T := "tuple") (U := "int") (by decide) ⟨_, ho, rfl⟩ (fun s' => typeIs_int s' 0 t) noFill_tuple_mul F.fills_int_mul F.slot_int_rmul repeat_tuple F.slot_int_index.lookup
      (call_meets F.slot_int_rmul (typeIs_int s 0 t) F.entry_int_rmul (F.args_int_rmul_2 _ _) (int_rmul_tuple 0 t l its.toArray n dd sl)
        ⟨ho, rfl, ⟨_, ho, rfl⟩, call_meets F.slot_tuple_mul ⟨_, ho, rfl⟩ F.entry_tuple_mul (F.args_tuple_mul_2 _ _) (mul_none l its.toArray n dd sl t hn) ⟨ho, ?_⟩⟩)
    have hn := I.hok.fresh (Nat.le_refl s.heap.objs.size)
    refine ⟨.ref s.heap.objs.size, _, I.laid (t' := s.toks) (o := .tup []) (fun b ob q => Heap.get?_push_of_some _ q) (Nat.le_refl _) ?_, rfl, q _ _ (newSm hn) (SqT.of upd_same)⟩
    exact ⟨Nat.zero_le _, [], .nil, IsTup.new _ _⟩
  · refine wpAny_binaryOp_repeat_ref (T := "tuple") (U := "int") (by decide) ⟨_, ho, rfl⟩ (fun s' => typeIs_int s' 1 t) noFill_tuple_mul F.fills_int_mul F.slot_int_rmul repeat_tuple F.slot_int_index.lookup
      (call_meets F.slot_int_rmul (typeIs_int s 1 t) F.entry_int_rmul (F.args_int_rmul_2 _ _) (int_rmul_tuple 1 t l its.toArray n dd sl)
        ⟨ho, rfl, ⟨_, ho, rfl⟩, call_meets F.slot_tuple_mul ⟨_, ho, rfl⟩ F.entry_tuple_mul (F.args_tuple_mul_2 _ _) (mul_one_same l its.toArray n dd sl t) ⟨ho, ?_⟩⟩)
    refine ⟨.ref l, H, I, rfl, q l H (fun _ _ e => e) ?_⟩
    have e : (List.replicate (1 : Int).toNat xs).flatten = xs := by simp
    rw [e]
    exact hT
end
end Kz

/-! int(text) and str(int) to 4,300 figures, where the program leaves the limit alone -/
namespace Ki
open PySem PySem.Spec PyProof.Rows L2 PySem.Calls PySem.NumText PySem.W
theorem nodig_in {K : PySem.W.Frag} {h : Heap} (X : K.In h) (e : nsOkIn K cStatics = true) (q : nsIn K cStatics "sys.int_max_str_digits" = some none) : h.NoDigits :=
  ⟨_, .of_isNs (isNs_of_in X e), nsMap_none_of_in X e q⟩
theorem maxDig {M : Model} {A : Around} {E : Value → Shared → Prop} {s : Shared} {Q : Nat → Shared → Prop} (hn : s.heap.NoDigits) (h : Q 4300 s) : wpAny M A Builtin.intMaxStrDigits Q E s := by
  obtain ⟨mc, hns, hnone⟩ := hn
  unfold Builtin.intMaxStrDigits
  refine wpAny_bind (wpAny_nsGet hns ?_)
  rw [hnone]
  exact wpAny_pure h
theorem wp_textA {M : Model} {A : Around} {E : Value → Shared → Prop} {s : Shared} {Q : Value → Shared → Prop} {v : Value} {text : List Nat} {n : Int} (hn : s.heap.NoDigits)
    (hs : ¬ (text.takeWhile (· != 0)).length ≤ 640) (hr : (int_private% "readNumeral") 4300 10 (text.takeWhile (· != 0)) = (int_private% "Numeral.value") n)
    (ha : ((text.takeWhile (· != 0)).length == text.length) = true) (h : Q (.int n s.toks) { s with toks := s.toks + 1 }) :
    wpAny M A ((int_private% "intFromText") v text 10) Q E s := by
  wp_step
  rw [if_neg hs]
  refine wpAny_bind (maxDig hn ?_)
  dsimp only
  rw [hr]
  dsimp only
  rw [if_pos ha]
  obtain ⟨hp, g, d, tk, os⟩ := s
  repeat (any_goals (first
    | assumption
    | wp_step))
theorem meets_textA {x : PySem.Str} {u : Tok} {n : Int} (hl : x.length ≤ 4300) (hn : PySem.intText? x = some n) :
    Meets (Builtin.«int.__new__» ⟨[.type "int", .str x u], []⟩) (fun _ R s => s.heap.NoDigits ∧ R (.ok (.ret (.int n s.toks))) { s with toks := s.toks + 1 }) := by
  intro prog w A R s hq
  refine wpAny_mono (Q := fun fin s' => ∃ v, fin = .done (.ret v) ∧ R (.ok (.ret v)) s') ?_ (fun fin s' h' => by obtain ⟨v, rfl, hv⟩ := h'; exact hv) fun _ _ x => x
  have hd := hq.1
  have h := hq.2
  clear hq
  generalize hM : model prog w = M
  generalize A.in1 = A'
  clear hM
  have f1 := F.conv_sub_int
  have f2 := F.madeHere_int
  have f3 := KIN.str_int
  have f4 := KIN.str_idx
  have f5 := KIN.str_trunc
  have f6 : typeOf (.str x u) = pure (.type "str") := rfl
  by_cases h6 : (numSeenOf x).length ≤ 640
  · have hr : (int_private% "readNumeral") 0 10 (numSeenOf x) = (int_private% "Numeral.value") n ∧ ((numSeenOf x).length == (numTextOf x).length) = true := by
      rcases read0 x h6 with ⟨m, h1, h2, h3⟩ | ⟨h1, _⟩
      · rw [hn] at h1
        injection h1 with h1
        subst h1
        exact ⟨h3, h2⟩
      · rw [hn] at h1
        cases h1
    have hk := KIN.Hid.mk (And.intro h6 hr)
    clear h6 hr hl hn hd
    obtain ⟨hp, g, d, tk, os⟩ := s
    repeat (any_goals (first
      | assumption
      | ((with_reducible show wpAny _ _ ((int_private% "intFromText") _ _ _) _ _ _); refine KIN.wp_text hk.out.1 hk.out.2.1 hk.out.2.2 ?_)
      | wp_step))
    all_goals first | exact ⟨_, rfl, h⟩ | skip
  · have hr : (int_private% "readNumeral") 4300 10 (numSeenOf x) = (int_private% "Numeral.value") n ∧ ((numSeenOf x).length == (numTextOf x).length) = true := by
      rcases read4300 x (Nat.le_trans hl (by decide)) with ⟨m, h1, h2, h3⟩ | ⟨h1, _⟩
      · rw [hn] at h1
        injection h1 with h1
        subst h1
        exact ⟨h3, h2⟩
      · rw [hn] at h1
        cases h1
    have hk := KIN.Hid.mk (And.intro (And.intro h6 hd) hr)
    clear h6 hr hl hn hd
    obtain ⟨hp, g, d, tk, os⟩ := s
    repeat (any_goals (first
      | assumption
      | ((with_reducible show wpAny _ _ ((int_private% "intFromText") _ _ _) _ _ _); refine wp_textA hk.out.1.2 hk.out.1.1 hk.out.2.1 hk.out.2.2 ?_)
      | wp_step))
    all_goals first | exact ⟨_, rfl, h⟩ | skip
section
variable {X : Cx}
/-- int(text) -/
theorem call_int_strA (e : nsOkIn X.K cStatics = true) (q : nsIn X.K cStatics "sys.int_max_str_digits" = some none) : CallR X (.type "int") (fun xs H Q => ∃ a n, xs = [.str a] ∧ PySem.intText? a = some n ∧ a.length ≤ 4300 ∧ Q (.int n) H) := by
  intro pins s σ H xs us Q I rs h
  obtain ⟨a, n, rfl, hn, hl, h⟩ := h
  cases rs with
  | cons r1 rs =>
    cases rs
    obtain ⟨t, rfl⟩ := r1
    exact call_int_1 (meets_textA hl hn) ⟨nodig_in I.kIn e q, ⟨rfl, ⟨.int n, H, I.tok _, ⟨_, rfl⟩, h⟩⟩⟩
/-- str(int) -/
theorem call_str_intA (hc : X.A.handled = none) (e : nsOkIn X.K cStatics = true) (q : nsIn X.K cStatics "sys.int_max_str_digits" = some none) : CallR X (.type "str") (fun xs H Q => ∃ a : Int, xs = [.int a] ∧ a.natAbs < 10 ^ 4300 ∧ Q (.str (toString a)) H) := by
  intro pins s σ H xs us Q I rs h
  obtain ⟨a, rfl, hl, h⟩ := h
  cases rs with
  | cons r1 rs =>
    cases rs
    obtain ⟨t, rfl⟩ := r1
    exact str_of_int_or hc (nodig_in I.kIn e q) (fun _ => ⟨.str (toString a), H, I.tok _, ⟨_, rfl⟩, h⟩) fun h2 => absurd hl (Nat.not_lt.mpr h2)
end
end Ki

/-! comprehensions of two loops: a tuple, within it a zip; str of a text or of a number from nought on -/
namespace Kz
open PySem PySem.Spec PyProof.Rows L2
/-- the inner loop of a comprehension of two -/
def inn (J1 : It) (g1 : TG) (tt1 : TT) (te : TE) (vs1 : List Nat) (D : Addr) (Nx : Hp → Prop) (σ2 : L2.St) (H4 : Hp) : Prop :=
  ∃ W1 : Nat → Nat → Hp → Prop, (∃ m, W1 0 m H4) ∧ ∀ j k H, W1 j k H →
      (J1.stop j H ∧ Nx H) ∨ (J1.go j H ∧ ∃ Nx1 : Hp → Prop, (∀ H', Nx1 H' → ∃ k', k' < k ∧ W1 (j + 1) k' H') ∧ ∀ x H', J1.yld j H x H' → g1 x (wipe σ2 vs1) H' fun σ3 H5 => wipe σ3 vs1 = wipe σ2 vs1 ∧ tt1 σ3 H5 fun b H6 =>
        if b = true then te σ3 H6 fun y H7 => ∃ acc, H7 D = some (.lst acc) ∧ acc.length < sizeLine ∧ Nx1 (upd H7 D (.lst (acc ++ [y]))) else Nx1 H6)
theorem lc2_tup {K : PySem.W.Frag} {a : Addr} {xs : List V} {g g1 : TG} {tt tt1 : TT} {te : TE} {wi1 : TI} {vs vs1 : List Nat} {σ : L2.St} {H1 : Hp} {D : Addr} {Qd : Hp → Prop} (Pv : Nat → Hp → Prop) (h0 : Pv 0 (upd H1 D (.lst []))) (hl : ∀ i H, i ≤ xs.length → Pv i H → SqT K H a xs)
    (hs : ∀ i x H, xs[i]? = some x → Pv i H → g x (wipe σ vs) H fun σ2 H2 => wipe σ2 vs = wipe σ vs ∧ tt σ2 H2 fun b H3 => if b = true then wi1 σ2 H3 fun J1 H4 => inn J1 g1 tt1 te vs1 D (Pv (i + 1)) σ2 H4 else Pv (i + 1) H3) (hd : ∀ H, Pv xs.length H → Qd H) :
    ∃ W : Nat → Nat → Hp → Prop, (∃ m, W 0 m (upd H1 D (.lst []))) ∧ ∀ i m H, W i m H →
      ((Itt K a).stop i H ∧ Qd H) ∨ ((Itt K a).go i H ∧ ∃ Nx : Hp → Prop, (∀ H', Nx H' → ∃ m', m' < m ∧ W (i + 1) m' H') ∧ ∀ x H', (Itt K a).yld i H x H' → g x (wipe σ vs) H' fun σ2 H2 => wipe σ2 vs = wipe σ vs ∧ tt σ2 H2 fun b H3 =>
        if b = true then wi1 σ2 H3 fun J1 H4 => inn J1 g1 tt1 te vs1 D Nx σ2 H4 else Nx H3) := by
  refine ⟨fun i m H => m = xs.length - i ∧ i ≤ xs.length ∧ Pv i H, ⟨_, rfl, Nat.zero_le _, h0⟩, fun i m H z => ?_⟩
  obtain ⟨rfl, hi, p⟩ := z
  have q := hl i H hi p
  by_cases lt : i < xs.length
  · refine .inr ⟨⟨xs, xs[i], q, by simp [lt]⟩, Pv (i + 1), fun H' p' => ⟨xs.length - (i + 1), by omega, rfl, lt, p'⟩, fun x H' y => ?_⟩
    obtain ⟨e, y⟩ := y
    subst e
    exact hs i x _ (y xs q) p
  · have e : i = xs.length := by omega
    subst e
    exact .inl ⟨⟨xs, q, by simp⟩, hd H p⟩
theorem inn_zip {K : PySem.W.Frag} {p q : Sr} {g1 : TG} {tt1 : TT} {te : TE} {vs1 : List Nat} {D : Addr} {Nx : Hp → Prop} {σ2 : L2.St} {H4 : Hp} (Pw : Nat → Hp → Prop) (hl : p.vs.length = q.vs.length) (h0 : Pw 0 H4) (hq : ∀ i H, Pw i H → p.at K H ∧ q.at K H)
    (hs : ∀ i x y T H, p.vs[i]? = some x → q.vs[i]? = some y → Pw i H → H T = none → g1 (.ref T) (wipe σ2 vs1) (upd H T (.tup [x, y])) fun σ3 H5 => wipe σ3 vs1 = wipe σ2 vs1 ∧ tt1 σ3 H5 fun b H6 =>
        if b = true then te σ3 H6 fun y H7 => ∃ acc, H7 D = some (.lst acc) ∧ acc.length < sizeLine ∧ Pw (i + 1) (upd H7 D (.lst (acc ++ [y]))) else Pw (i + 1) H6) (hd : ∀ H, Pw p.vs.length H → Nx H) : inn (Jg K p q) g1 tt1 te vs1 D Nx σ2 H4 := by
  refine ⟨fun i m H => m = p.vs.length - i ∧ i ≤ p.vs.length ∧ Pw i H, ⟨_, rfl, Nat.zero_le _, h0⟩, fun i m H z => ?_⟩
  obtain ⟨rfl, hi, pw⟩ := z
  obtain ⟨q1, q2⟩ := hq i H pw
  by_cases lt : i < p.vs.length
  · refine .inr ⟨⟨q1, q2, lt, by omega⟩, Pw (i + 1), fun H' p' => ⟨p.vs.length - (i + 1), by omega, rfl, lt, p'⟩, fun v H' y => ?_⟩
    obtain ⟨T, x, y, rfl, hT, rfl, e1, e2⟩ := y
    exact hs i x y T H e1 e2 pw hT
  · have e : i = p.vs.length := by omega
    subst e
    exact .inl ⟨⟨q1, q2, Nat.le_refl _, by omega, .inl rfl⟩, hd H pw⟩
/-- str of a text, of a number from nought on -/
theorem call_strB {X : Cx} (hc : X.A.handled = none) (e : PySem.W.nsOkIn X.K cStatics = true) (q : PySem.W.nsIn X.K cStatics "sys.int_max_str_digits" = some none) : CallR X (.type "str") (fun xs H Q => (∃ a : Str, xs = [.str a] ∧ Q (.str a) H) ∨ ∃ n : Nat, xs = [.int n] ∧ n < 10 ^ 4300 ∧ Q (.str (Str.ofString (toString ((n : Nat) : Int)))) H) := by
  intro pins s σ H xs us Q I r h
  rcases h with ⟨a, rfl, h⟩ | ⟨n, rfl, hn, h⟩
  · exact SkE.call_str_str pins s σ H _ us Q I r ⟨a, rfl, h⟩
  · exact Ki.call_str_intA hc e q pins s σ H _ us Q I r ⟨(n : Int), rfl, by rw [Int.natAbs_natCast]; exact hn, h⟩
end Kz

/-! comprehensions of two loops: a list, within it a tuple -/
namespace Kz
open PySem PySem.Spec PyProof.Rows L2
theorem pi_tupK {X : Cx} (K : PySem.W.Frag) (h : X.K = K) {tg l : Expr} {tl : TE} (hl : PE X l tl) : PI X tg l (iTup K tl) := by
  subst h
  exact pi_tup hl
theorem pi_listK {X : Cx} (K : PySem.W.Frag) (h : X.K = K) {tg l : Expr} {tl : TE} (hl : PE X l tl) : PI X tg l (iList K tl) := by
  subst h
  exact pi_list hl
theorem pa_starK {X : Cx} (K : PySem.W.Frag) (h : X.K = K) {e : Expr} {es : List Expr} {te : TE} {t : TA} {p : Pos} (he : PE X e te) (hr : PA X es t) (hs : starEach (.Starred e p :: es) X.env = (true, eval e X.env) :: starEach es X.env := by rfl) : PA X (.Starred e p :: es) (StX.tStar K te t) := by
  subst h
  exact StX.pa_star he hr hs
theorem lc2_list {K : PySem.W.Frag} {a : Addr} {xs : List V} {g g1 : TG} {tt tt1 : TT} {te : TE} {wi1 : TI} {vs vs1 : List Nat} {σ : L2.St} {H1 : Hp} {D : Addr} {Qd : Hp → Prop} (Pv : Nat → Hp → Prop) (h0 : Pv 0 (upd H1 D (.lst []))) (hl : ∀ i H, i ≤ xs.length → Pv i H → SqL K H a xs)
    (hs : ∀ i x H, xs[i]? = some x → Pv i H → g x (wipe σ vs) H fun σ2 H2 => wipe σ2 vs = wipe σ vs ∧ tt σ2 H2 fun b H3 => if b = true then wi1 σ2 H3 fun J1 H4 => inn J1 g1 tt1 te vs1 D (Pv (i + 1)) σ2 H4 else Pv (i + 1) H3) (hd : ∀ H, Pv xs.length H → Qd H) :
    ∃ W : Nat → Nat → Hp → Prop, (∃ m, W 0 m (upd H1 D (.lst []))) ∧ ∀ i m H, W i m H →
      ((Itl K a).stop i H ∧ Qd H) ∨ ((Itl K a).go i H ∧ ∃ Nx : Hp → Prop, (∀ H', Nx H' → ∃ m', m' < m ∧ W (i + 1) m' H') ∧ ∀ x H', (Itl K a).yld i H x H' → g x (wipe σ vs) H' fun σ2 H2 => wipe σ2 vs = wipe σ vs ∧ tt σ2 H2 fun b H3 =>
        if b = true then wi1 σ2 H3 fun J1 H4 => inn J1 g1 tt1 te vs1 D Nx σ2 H4 else Nx H3) := by
  refine ⟨fun i m H => m = xs.length - i ∧ i ≤ xs.length ∧ Pv i H, ⟨_, rfl, Nat.zero_le _, h0⟩, fun i m H z => ?_⟩
  obtain ⟨rfl, hi, p⟩ := z
  have q := hl i H hi p
  by_cases lt : i < xs.length
  · refine .inr ⟨⟨xs, xs[i], q, by simp [lt]⟩, Pv (i + 1), fun H' p' => ⟨xs.length - (i + 1), by omega, rfl, lt, p'⟩, fun x H' y => ?_⟩
    obtain ⟨e, y⟩ := y
    subst e
    exact hs i x _ (y xs q) p
  · have e : i = xs.length := by omega
    subst e
    exact .inl ⟨⟨xs, q, by simp⟩, hd H p⟩
theorem inn_tup {K : PySem.W.Frag} {a : Addr} {xs : List V} {g1 : TG} {tt1 : TT} {te : TE} {vs1 : List Nat} {D : Addr} {Nx : Hp → Prop} {σ2 : L2.St} {H4 : Hp} (Pw : Nat → Hp → Prop) (h0 : Pw 0 H4) (hl : ∀ i H, i ≤ xs.length → Pw i H → SqT K H a xs)
    (hs : ∀ i x H, xs[i]? = some x → Pw i H → g1 x (wipe σ2 vs1) H fun σ3 H5 => wipe σ3 vs1 = wipe σ2 vs1 ∧ tt1 σ3 H5 fun b H6 =>
        if b = true then te σ3 H6 fun y H7 => ∃ acc, H7 D = some (.lst acc) ∧ acc.length < sizeLine ∧ Pw (i + 1) (upd H7 D (.lst (acc ++ [y]))) else Pw (i + 1) H6) (hd : ∀ H, Pw xs.length H → Nx H) : inn (Itt K a) g1 tt1 te vs1 D Nx σ2 H4 := by
  refine ⟨fun i m H => m = xs.length - i ∧ i ≤ xs.length ∧ Pw i H, ⟨_, rfl, Nat.zero_le _, h0⟩, fun i m H z => ?_⟩
  obtain ⟨rfl, hi, p⟩ := z
  have q := hl i H hi p
  by_cases lt : i < xs.length
  · refine .inr ⟨⟨xs, xs[i], q, by simp [lt]⟩, Pw (i + 1), fun H' p' => ⟨xs.length - (i + 1), by omega, rfl, lt, p'⟩, fun x H' y => ?_⟩
    obtain ⟨e, y⟩ := y
    subst e
    exact hs i x _ (y xs q) p
  · have e : i = xs.length := by omega
    subst e
    exact .inl ⟨⟨xs, q, by simp⟩, hd H p⟩
end Kz

/-! law -/
namespace Kq
open PySem PySem.Spec PyProof.Rows L2 Kf Kg Kv Kk
theorem _root_.L2.Same.kp {H G F : Hp} {d c : Addr} (s : Same H G) (k : Kp d c G F) (nd : H d = none) (nc : H c = none) : Same H F := fun b u e => k b u (fun w => by rw [w, nd] at e; cases e) (fun w => by rw [w, nc] at e; cases e) (s b u e)
theorem noneB {H G : Hp} {b : Addr} (s : Same H G) (n : G b = none) : H b = none := by
  cases h : H b with
  | none => rfl
  | some u => rw [s _ _ h] at n; cases n
theorem cutI (ns : List Int) (lo hi : Option Int) : ∃ ms : List Int, cutV (ns.map V.int) lo hi = ms.map V.int ∧ ms.length = min (HT.sIx ns.length ns.length hi - HT.sIx ns.length 0 lo) (ns.length - HT.sIx ns.length 0 lo) := by
  refine ⟨(ns.drop (HT.sIx ns.length 0 lo)).take (HT.sIx ns.length ns.length hi - HT.sIx ns.length 0 lo), ?_, by rw [List.length_take, List.length_drop]⟩
  unfold cutV
  rw [List.length_map, List.map_take, List.map_drop]
theorem keys_in {kvs : List (Key × V)} {k : Key} (v : V) (h : k ∈ kvs.map (·.1)) : (putK kvs k v).map (·.1) = kvs.map (·.1) := by
  have ha : (kvs.any fun kv => decide (kv.1 = k)) = true := by
    obtain ⟨p, hp, e⟩ := List.mem_map.mp h
    exact List.any_eq_true.mpr ⟨p, hp, decide_eq_true e⟩
  unfold putK
  rw [if_pos ha, List.map_map]
  refine List.map_congr_left fun p _ => ?_
  show (if p.1 = k then (p.1, v) else p).1 = p.1
  by_cases e : p.1 = k
  · rw [if_pos e]
  · rw [if_neg e]
@[elab_as_elim] theorem lstG {H : Hp} {p : Addr} {vs : List V} {motive : Hp → Prop} (np : H p = none) (q : ∀ G, Same H G → G p = some (.lst vs) → motive G) : motive (upd H p (.lst vs)) := q _ (newS np) upd_same
theorem tupOfK {X : Cx} (K : PySem.W.Frag) (h : X.K = K) : CallR X (.type "tuple") (fun xs H Q => ∃ p ys, xs = [.ref p] ∧ ((SqL K H p ys ∧ ∀ l, H l = none → Q (.ref l) (upd H l (.tup ys))) ∨ (SqT K H p ys ∧ Q (.ref p) H))) := by
  subst h
  exact call_tuple_of
theorem prs_kvs {H : Hp} {R : Str → V → Prop} {qs : List Addr} {xs : List Str} (l : qs.length = xs.length) (h : ∀ (i : Nat) (x : Str), xs[i]? = some x → ∃ (q : Addr) (t : V), qs[i]? = some q ∧ H q = some (.tup [.str x, t]) ∧ R x t) (K : PySem.W.Frag) :
    ∃ kvs : List (Key × V), Paired (fun p kv => SqT K H p [kV kv.1, kv.2]) qs kvs ∧ kvs.map (·.1) = xs.map Sum.inr ∧ ∀ x ∈ xs, ∃ t, valV kvs (.inr x) = some t ∧ R x t := by
  induction xs generalizing qs with
  | nil =>
    cases qs with
    | nil => exact ⟨[], .nil, rfl, fun x hx => by cases hx⟩
    | cons _ _ => cases l
  | cons x xs ih =>
    cases qs with
    | nil => cases l
    | cons q qs =>
      obtain ⟨q1, t, e1, e2, d⟩ := h 0 x rfl
      have e1 : q = q1 := Option.some.inj e1
      subst e1
      obtain ⟨kvs, p, ek, hv⟩ := ih (by simpa using l) fun i y hy => by
        obtain ⟨q2, t2, f1, f2, f3⟩ := h (i + 1) y hy
        exact ⟨q2, t2, f1, f2, f3⟩
      refine ⟨(.inr x, t) :: kvs, .cons (SqT.of e2) p, by rw [List.map_cons, List.map_cons, ek], fun y hy => ?_⟩
      unfold valV
      rw [List.find?_cons]
      by_cases c : x = y
      · subst c
        rw [show decide ((Sum.inr x : Key) = .inr x) = true from decide_eq_true rfl]
        exact ⟨t, rfl, d⟩
      · rw [show decide ((Sum.inr x : Key) = .inr y) = false from decide_eq_false fun z => c (Sum.inr.inj z)]
        rcases List.mem_cons.mp hy with e | hy
        · exact absurd e.symm c
        · exact hv y hy
/-- sizes as a dict tells them -/
def szOf (xs : List Str) (kvs : List (Key × V)) (x : Str) : Nat := if x ∈ xs then (match valV kvs (.inr x) with | some (.int n) => n.toNat | _ => 0) else 0
theorem szs_of {H : Hp} {dS : Addr} {xs : List Str} {kvs : List (Key × V)} (h : H dS = some (.dK kvs)) (hk : kvs.map (·.1) = xs.map Sum.inr) (hv : ∀ x ∈ xs, ∃ n : Nat, valV kvs (.inr x) = some (.int ((n : Nat) : Int)) ∧ 1 ≤ n ∧ n ≤ 12) : Szs H dS xs (szOf xs kvs) := by
  have e : ∀ x ∈ xs, ∀ n : Nat, valV kvs (.inr x) = some (.int ((n : Nat) : Int)) → szOf xs kvs x = n := fun x hx n h => by
    unfold szOf
    rw [if_pos hx, h]
    show ((n : Nat) : Int).toNat = n
    omega
  refine ⟨⟨kvs, h, hk, fun x hx => ?_⟩, fun x hx => ?_, fun x => ?_⟩
  · obtain ⟨n, h1, _, _⟩ := hv x hx
    rw [e x hx n h1, h1]
  · obtain ⟨n, h1, h2, _⟩ := hv x hx
    rw [e x hx n h1]
    exact h2
  · by_cases hx : x ∈ xs
    · obtain ⟨n, h1, _, h3⟩ := hv x hx
      rw [e x hx n h1]
      exact h3
    · unfold szOf
      rw [if_neg hx]
      exact Nat.zero_le _
theorem Mps.kp {d c : Addr} {H G : Hp} {m : Addr} {xs : List Str} {ts : Str → List (Option Nat)} (h : Mps H m xs ts) (k : Kp d c H G) (e : Dk H d c) : Mps G m xs ts := by
  obtain ⟨⟨o, qs, h1, h2, h3, h4, h5⟩, nd, l9⟩ := h
  refine ⟨⟨o, qs, k m _ (fun z => ?_) (fun z => ?_) h1, h2, h3, h4, fun i x hx => let ⟨q, t, e1, e2, d1⟩ := h5 i x hx; ⟨q, t, e1, Tk.kp k e _ _ e2, d1.kp k e⟩⟩, nd, l9⟩
  · obtain ⟨_, _, q⟩ := e.dd
    rw [z, q] at h1; cases h1
  · obtain ⟨_, q, _⟩ := e.cc
    rw [z, q] at h1; cases h1
/-- maps that leave all as it is -/
def idl (n : Nat) : List (Option Nat) := (List.range n).map some
theorem idl_at {n k : Nat} {o : Option Nat} (h : (idl n)[k]? = some o) : o = some k ∧ k < n := by
  unfold idl at h
  rw [List.getElem?_map] at h
  obtain ⟨j, hj, rfl⟩ := Option.map_eq_some_iff.mp h
  obtain ⟨h1, h2⟩ := List.getElem?_eq_some_iff.mp hj
  rw [List.length_range] at h1
  rw [List.getElem_range] at h2
  exact ⟨by rw [h2], h1⟩
theorem idl_succ (n : Nat) : idl (n + 1) = idl n ++ [some n] := by
  unfold idl
  rw [List.range_succ, List.map_append]
  rfl
theorem idl_len (n : Nat) : (idl n).length = n := by unfold idl; rw [List.length_map, List.length_range]
theorem fT_id {ts : Str → List (Option Nat)} (x : Str) (k : Nat) (h : k < (idl (ts x).length).length) : fT (fun x => idl (ts x).length) x k = some k := by
  unfold fT
  rw [List.getElem?_eq_getElem h]
  have e := (idl_at (List.getElem?_eq_getElem h)).1
  show Option.join (some _) = _
  rw [e]
  rfl
theorem kd_ok : ∀ {k : Kd}, k.isDat = true → (∀ x ∈ k.opens, Nm x) → Ok1 (k.dp + 1) (wB k.dp) k.dt
  | .opn x, _, hn => by
    refine (Ok1.tup (n := 0) (W := 82) (m := 2) (fun y hy => ?_) (Nat.le_refl _)).up (Nat.le_refl _) (by show 2 * (82 + 2) + 3 ≤ 300; decide)
    rcases List.mem_cons.mp hy with rfl | hy
    · exact Ok1.wd (by decide +kernel) (by decide +kernel) (by decide)
    · rw [List.mem_singleton.mp hy]; exact Ok1.nm (hn x (List.mem_singleton.mpr rfl))
  | .num, _, _ => (Ok1.tup (n := 0) (W := 82) (m := 1) (fun y hy => by rw [List.mem_singleton.mp hy]; exact Ok1.wd (by decide +kernel) (by decide +kernel) (by decide)) (Nat.le_refl _)).up (Nat.le_refl _) (by decide)
  | .tru, _, _ => (Ok1.tup (n := 0) (W := 82) (m := 1) (fun y hy => by rw [List.mem_singleton.mp hy]; exact Ok1.wd (by decide +kernel) (by decide +kernel) (by decide)) (Nat.le_refl _)).up (Nat.le_refl _) (by decide)
  | .pair a b, h, hn => by
    obtain ⟨ha, hb⟩ := Bool.and_eq_true_iff.mp (show (a.isDat && b.isDat) = true from h)
    have h1 := kd_ok ha fun x hx => hn x (List.mem_append_left _ hx)
    have h2 := kd_ok hb fun x hx => hn x (List.mem_append_right _ hx)
    have m1 := wB_mono (Nat.le_max_left a.dp b.dp)
    have m2 := wB_mono (Nat.le_max_right a.dp b.dp)
    have m3 := wB_300 (max a.dp b.dp)
    refine (Ok1.tup (n := max a.dp b.dp + 1) (W := wB (max a.dp b.dp)) (m := 3) (fun y hy => ?_) (Nat.le_refl _)).up (Nat.le_refl _) (by show 3 * (wB (max a.dp b.dp) + 2) + 3 ≤ 12 * (wB (max a.dp b.dp) + 2) + 100; omega)
    rcases List.mem_cons.mp hy with rfl | hy
    · exact (Ok1.wd (by decide +kernel) (by decide +kernel) (by decide)).up (Nat.zero_le _) (by omega)
    rcases List.mem_cons.mp hy with rfl | hy
    · exact h1.up (by omega) m1
    · rw [List.mem_singleton.mp hy]; exact h2.up (by omega) m2
  | .eith a b, h, hn => by
    obtain ⟨ha, hb⟩ := Bool.and_eq_true_iff.mp (show (a.isDat && b.isDat) = true from h)
    have h1 := kd_ok ha fun x hx => hn x (List.mem_append_left _ hx)
    have h2 := kd_ok hb fun x hx => hn x (List.mem_append_right _ hx)
    have m1 := wB_mono (Nat.le_max_left a.dp b.dp)
    have m2 := wB_mono (Nat.le_max_right a.dp b.dp)
    have m3 := wB_300 (max a.dp b.dp)
    refine (Ok1.tup (n := max a.dp b.dp + 1) (W := wB (max a.dp b.dp)) (m := 3) (fun y hy => ?_) (Nat.le_refl _)).up (Nat.le_refl _) (by show 3 * (wB (max a.dp b.dp) + 2) + 3 ≤ 12 * (wB (max a.dp b.dp) + 2) + 100; omega)
    rcases List.mem_cons.mp hy with rfl | hy
    · exact (Ok1.wd (by decide +kernel) (by decide +kernel) (by decide)).up (Nat.zero_le _) (by omega)
    rcases List.mem_cons.mp hy with rfl | hy
    · exact h1.up (by omega) m1
    · rw [List.mem_singleton.mp hy]; exact h2.up (by omega) m2
  | .lst a, h, hn => by
    have h1 := kd_ok (k := a) h hn
    have m3 := wB_300 a.dp
    refine (Ok1.tup (n := a.dp + 1) (W := wB a.dp) (m := 2) (fun y hy => ?_) (Nat.le_refl _)).up (Nat.le_refl _) (by show 2 * (wB a.dp + 2) + 3 ≤ 12 * (wB a.dp + 2) + 100; omega)
    rcases List.mem_cons.mp hy with rfl | hy
    · exact (Ok1.wd (by decide +kernel) (by decide +kernel) (by decide)).up (Nat.zero_le _) (by omega)
    · rw [List.mem_singleton.mp hy]; exact h1
theorem Ok1.tail {n W : Nat} {x : Dt} {xs : List Dt} (h : Ok1 n W (.tup (x :: xs))) : Ok1 n W (.tup xs) := by
  obtain ⟨h1, h2, h3, h4⟩ := h
  refine ⟨h1.2, ?_, ?_, ?_⟩
  · have : (x.toP.canLay0 && PyData.canLayAll0 (Dt.toPs xs)) = true := h2
    exact (Bool.and_eq_true_iff.mp this).2
  · have : max x.dp (Dt.dps xs) + 1 ≤ n := h3
    show Dt.dps xs + 1 ≤ n
    omega
  · have : x.wt + 2 + Dt.wts xs + 3 ≤ W := h4
    show Dt.wts xs + 3 ≤ W
    omega
mutual
theorem dp_same {K : PySem.W.Frag} {H G : Hp} (s : Same H G) : ∀ {v : V} {d : PyData}, Dp K H v d → Dp K G v d
  | _, _, .non => .non
  | _, _, .bl b => .bl b
  | _, _, .int i => .int i
  | _, _, .str x => .str x
  | _, _, .lst h t => .lst (h.imp (fun r => r.imp (s _ _) fun ⟨o, e⟩ => ⟨o, s _ _ e⟩) id) (dps_same s t)
  | _, _, .tup h t => .tup (h.imp (fun r => r.imp (s _ _) fun ⟨o, e⟩ => ⟨o, s _ _ e⟩) id) (dps_same s t)
theorem dps_same {K : PySem.W.Frag} {H G : Hp} (s : Same H G) : ∀ {vs : List V} {ds : List PyData}, DpAll K H vs ds → DpAll K G vs ds
  | _, _, .nil => .nil
  | _, _, .cons a b => .cons (dp_same s a) (dps_same s b)
end
def scOut : Scope := { kind := .function, names := [((".0" : Str), NameKind.local), (("_law_name" : Str), NameKind.local), (("_law_table" : Str), NameKind.local), (("tuple" : Str), NameKind.globalImplicit)], isGenerator := false, isCoroutine := false, more := [] }
theorem rel_free {env : Env} {x : Str} : ∀ {names : List (Str × NameKind)}, names.lookup x = some .free →
    (names.map fun (n, k) => if (k == NameKind.free && env.scope.kind == .function && env.kindOf n == some .cell) then (n, NameKind.cell) else (n, k)).lookup x = some .cell ∨
    (names.map fun (n, k) => if (k == NameKind.free && env.scope.kind == .function && env.kindOf n == some .cell) then (n, NameKind.cell) else (n, k)).lookup x = some .free
  | [], h => by simp at h
  | (n, k) :: r, h => by
    have ih := @rel_free env x r
    rw [List.map_cons, List.lookup_cons] at *
    cases hx : x == n with
    | true =>
      rw [hx] at h
      have hk : k = .free := Option.some.inj h
      subst hk
      dsimp only
      by_cases c : (NameKind.free == NameKind.free && env.scope.kind == .function && env.kindOf n == some .cell) = true
      · rw [if_pos c]
        dsimp only
        rw [hx]
        exact .inl rfl
      · rw [if_neg c]
        dsimp only
        rw [hx]
        exact .inr rfl
    | false =>
      rw [hx] at h
      dsimp only
      by_cases c : (k == NameKind.free && env.scope.kind == .function && env.kindOf n == some .cell) = true
      · rw [if_pos c]
        dsimp only
        rw [hx]
        exact ih h
      · rw [if_neg c]
        dsimp only
        rw [hx]
        exact ih h
theorem blk_in {N : List Str} {scope scope' : Scope} {own : List (Str × Nat)} {cl : List (Str × Addr)} {C : Addr} {env : Env} (h : BlkOk N scope scope' own) (hf : ∀ y ∈ scope'.names, y.2 = .free → scope.names.lookup y.1 = some .free) : BlkOk N (compEnvC scope cl C env).scope scope' own :=
  ⟨h.kind, h.uniq, h.ix, fun y hy e => rel_free (hf y hy e), h.own⟩
section
variable {P : Program} {w : World} {K : PySem.W.Frag} {mg : Str → Option Value} {base : Heap} {cF oF : Addr}
def OkdG (P : Program) (w : World) (K : PySem.W.Frag) (mg : Str → Option Value) (base : Heap) (CX : CXT) (k : Nat) (nm : Str) (ps : List Str) (sp : Sp) : Prop :=
  ∃ (f : Addr) (fd : FuncData), FnG P w K mg base CX k f fd ps sp ∧ Binds K fd ps [] ∧ mg nm = some (.ref f) ∧ PySem.W.keepIn K (.ref f) = true
abbrev tLaw : Stmt := tp 18
abbrev nLaw : List Str := ["_law_script", "_law_k", "_law_deck_here", "_law_far", "_law_faults", "_law_opens", "_law_name", "_law_sizes", "_law_maps_here", "_law_row", "_law_table", "_law_same", "_law_turn", "_law_kind", "_law_worth_here"]
abbrev psLaw : List Str := ["_law_script"]
theorem scLaw : FnScope nLaw psLaw (defScope tLaw) := ⟨rfl, rfl, rfl, by decide +kernel, rfl, by decide +kernel, by decide +kernel⟩
def spLaw (K : PySem.W.Frag) : Sp := fun vs H Q _ => ∃ (a : Addr) (ns : List Int), vs = [.ref a] ∧ SqL K H a (ns.map V.int) ∧ ns.length ≤ 63 ∧ ∀ G : Hp, Q (.bl true) G
theorem okLaw {f : Addr} {fd : FuncData} {k : Nat} (F : Fun K "law" "law" tLaw f fd)
    (DR : OkdG P w K mg base CX0 (k) "_law_right" psLRight spLRight)
    (DD : Okd P w K mg base CX0 (k) "_law_draw" ["_law_deck_here", "_law_most"] spDraw)
    (DP : Okd P w K mg base CX0 (k) "mapped" ["kind", "maps", "worth"] (spMapped K))
    (DW : Okd P w K mg base CX0 (k) "_law_worth" ["_law_deck_here", "_law_kind", "_law_sizes", "_law_most"] (spLWorth 4))
    (DA : Okd P w K mg base CX0 (k) "_law_data" ["_law_deck_here", "_law_opens", "_law_deep", "_law_small"] (spLData 4))
    (DM : Okd P w K mg base CX0 (k) "_law_maps" ["_law_deck_here", "_law_sizes", "_law_faults"] spLMaps)
    (DN : Okd P w K mg base CX0 (k) "_law_names" ["_law_deck_here", "_law_many"] spNames)
    (DK : Okd P w K mg base CX0 (k) "_law_deck" ["_law_script"] (spDeck K))
    (m_dict : mg "dict" = none)
    (m_int : mg "int" = none)
    (m_len : mg "len" = none)
    (m_max : mg "max" = none)
    (m_min : mg "min" = none)
    (m_range : mg "range" = none)
    (m_repr : mg "repr" = none)
    (m_tuple : mg "tuple" = none) : FnG P w K mg base CX0 (k + 1) f fd psLaw (spLaw K) := by
  obtain ⟨fR, fdR, GR, bR, gR, kR⟩ := DR
  obtain ⟨fD, fdD, GD, bD, gD, kD⟩ := DD
  obtain ⟨fP, fdP, GP, bP, gP, kP⟩ := DP
  obtain ⟨fW, fdW, GW, bW, gW, kW⟩ := DW
  obtain ⟨fA, fdA, GA, bA, gA, kA⟩ := DA
  obtain ⟨fM, fdM, GM, bM, gM, kM⟩ := DM
  obtain ⟨fN, fdN, GN, bN, gN, kN⟩ := DN
  obtain ⟨fK, fdK, GK, bK, gK, kK⟩ := DK
  refine okG F scLaw (fun vs H Q E h => ?_) (fun cdv A outer s H vs Q E still hr h => ?_)
  · obtain ⟨a, ns, rfl, _⟩ := h
    rfl
  obtain ⟨a, ns, rfl, hS, hl, q⟩ := h
  have hu : (cxOf CX0 P w K mg base nLaw "law" (defScope tLaw) f cdv A outer s H E).nox.A.units + (8 + 1) < cLine := by
    have := hr.un
    show (A.deeper _).units + (8 + 1) < cLine
    omega
  refine ⟨_, pss_cons (ps_for PassesOwn.never rfl (pi_range1 (by rfl) m_range (pa_cons (pe_callB (call_max2 rfl) (by rfl) m_max PyProof.Rows.boot_max (pa_cons pe_int (pa_cons (pe_callB (call_min2 rfl) (by rfl) m_min PyProof.Rows.boot_min (pa_cons (pe_callB call_len_seq (by rfl) m_len PySem.boot_len (pa_cons (pv 0) pa_nil)) (pa_cons pe_int pa_nil))) pa_nil))) pa_nil)) (pg_name (i := 1) scLaw.nd rfl (.inl rfl))
      (C8.pss_cut (ps_set (i := 2) scLaw.nd rfl (.inr rfl) (pe_call GK hr (by rfl) gK kK bK .nil pass0 (pa_cons (pe_op op_cat (pe_op op_cat (pe_slice sl_list (pv 0) (po_some (pv 1)) (po_some (pe_op op_add (pv 1) pe_int))) (pe_slice sl_list (pv 0) po_none (po_some (pv 1)))) (pe_slice sl_list (pv 0) (po_some (pe_op op_add (pv 1) pe_int)) po_none)) pa_nil)))
    (pss_cons (ps_set (i := 3) scLaw.nd rfl (.inl rfl) (pe_cmpR op_eq (pe_call GD hr (by rfl) gD kD bD .nil pass0 (pa_cons (pv 2) (pa_cons pe_int pa_nil))) pe_int (nomark _)))
    (pss_cons (ps_set (i := 4) scLaw.nd rfl (.inl rfl) (pe_call GD hr (by rfl) gD kD bD .nil pass0 (pa_cons (pv 2) (pa_cons pe_int pa_nil))))
    (pss_cons (ps_set (i := 5) scLaw.nd rfl (.inl rfl) (pe_call GN hr (by rfl) gN kN bN .nil pass0 (pa_cons (pv 2) (pa_cons (pe_op op_add pe_int (pe_call GD hr (by rfl) gD kD bD .nil pass0 (pa_cons (pv 2) (pa_cons pe_int pa_nil)))) pa_nil))))
    (C8.pss_cut (ps_set (i := 7) scLaw.nd rfl (.inl rfl) (pe_callTy (call_dictP rfl) (by rfl) m_dict PyProof.Rows.boot_dict (pa_cons (pe_lc (own := [("_law_name", 6)]) (g := gName 6) (by rfl) scLaw.nd (pi_list (pv 5)) (blkOk_by (own := [("_law_name", 6)]) (N := nLaw) (sc := defScope tLaw) (by decide +kernel)) (fun _ _ _ _ _ => (pg_name (i := 6) scLaw.nd rfl (.inl rfl))) (fun _ _ _ _ _ => pts_nil) (fun _ _ _ _ _ => (pe_tup (pa_cons (pv 6) (pa_cons (pe_op op_add pe_int (pe_call GD hr (by rfl) gD kD bD .nil pass0 (pa_cons (pv 2) (pa_cons pe_int pa_nil)))) pa_nil))))) pa_nil)))
    (C8.pss_cut (ps_if (pt_val (pv 3)) (pss_one (ps_dput (hu_of hr) (pv 7) (pe_ix ix_list (pv 5) pe_int (fun _ _ => rfl)) pe_int rfl)) pss_nil)
    (pss_cons (ps_set (i := 8) scLaw.nd rfl (.inl rfl) (pe_call GM hr (by rfl) gM kM bM .nil pass0 (pa_cons (pv 2) (pa_cons (pv 7) (pa_cons (pv 4) pa_nil)))))
    (C8.pss_cut (ps_set (i := 11) scLaw.nd rfl (.inl rfl) (pe_callTy Kt.call_tupleF (by rfl) m_tuple PyProof.Rows.boot_tuple (pa_cons (pe_lc (own := [("_law_name", 6), ("_law_table", 10)]) (g := gTup K 2 (gCons (gName 6) (gCons (gName 10) gNil))) (by rfl) scLaw.nd (pi_tup (pv 8)) (blkOk_by (own := [("_law_name", 6), ("_law_table", 10)]) (N := nLaw) (sc := defScope tLaw) (by decide +kernel)) (fun _ _ _ _ _ => (tupGK K rfl rfl (pgs_cons (pg_name (i := 6) scLaw.nd rfl (.inl rfl)) (pgs_cons (pg_name (i := 10) scLaw.nd rfl (.inl rfl)) pgs_nil)))) (fun _ _ _ _ _ => pts_nil) (fun _ _ _ _ _ => (pe_tup (pa_cons (pv 6) (pa_cons (pe_tup (pa_cons pe_str (pa_cons (pe_callTy (tupOfK K rfl) (by rfl) m_tuple PyProof.Rows.boot_tuple (pa_cons (pe_lc (own := [("_law_row", 9)]) (g := gName 9) (by rfl) scLaw.nd (Kz.pi_tupK K rfl (pe_ix (kxT K rfl) (pv 10) pe_int (fun _ _ => rfl))) (blk_in (scope := scOut) (blkOk_by (own := [("_law_row", 9)]) (N := nLaw) (sc := scOut) (by decide +kernel)) (by decide +kernel)) (fun _ _ _ _ _ => pg_name (i := 9) scLaw.nd rfl (.inl rfl)) (fun _ _ _ _ _ => pts_nil) (fun _ _ _ _ _ => pe_tup (pa_cons (pe_ix (kxT K rfl) (pv 9) pe_int (fun _ _ => rfl)) (pa_cons (pe_ix (kxT K rfl) (pv 9) pe_int (fun _ _ => rfl)) pa_nil)))) pa_nil)) pa_nil))) pa_nil))))) pa_nil)))
    (pss_one (ps_for PassesOwn.never rfl (pi_range1 (by rfl) m_range (pa_cons pe_int pa_nil)) (pg_name (i := 12) scLaw.nd rfl (.inl rfl))
      (pss_cons (ps_set (i := 13) scLaw.nd rfl (.inl rfl) (pe_call GA hr (by rfl) gA kA bA .nil pass0 (pa_cons (pv 2) (pa_cons (pv 5) (pa_cons (pe_op op_add pe_int (pe_call GD hr (by rfl) gD kD bD .nil pass0 (pa_cons (pv 2) (pa_cons pe_int pa_nil)))) (pa_cons pe_bl pa_nil))))))
    (C8.pss_cut (ps_set (i := 14) scLaw.nd rfl (.inl rfl) (pe_call GW hr (by rfl) gW kW bW .nil pass0 (pa_cons (pv 2) (pa_cons (pv 13) (pa_cons (pv 7) (pa_cons (pe_ix ix_list (pe_lst (pa_cons pe_int (pa_cons pe_int pa_nil))) (pe_callTy call_int1 (by rfl) m_int PyProof.Rows.boot_int (pa_cons (pe_cut (pe_and (pe_cmpR op_eq (pv 12) pe_int (nomark _)) (pe_one (pe_cmpR op_notIn_str pe_str (pe_callB (call_showU (n := 8) still hu) (by rfl) m_repr PyProof.Rows.boot_repr (pa_cons (pe_slice sl_tup (pv 13) (po_some pe_int) po_none) pa_nil)) rfl)))) pa_nil)) (fun _ _ => rfl)) pa_nil))))))
    (pss_cons (ps_if (pt_not (pt_val (pe_callG GR still hr (by rfl) gR kR bR .nil pass0 (pa_cons (pv 13) (pa_cons (pv 8) (pa_cons (pv 14) pa_nil)))))) (pss_one (ps_ret pe_bl)) pss_nil)
    (pss_cons (ps_if (pt_not (pt_val (pe_callG GR still hr (by rfl) gR kR bR .nil pass0 (pa_cons (pv 13) (pa_cons (pv 11) (pa_cons (pv 14) pa_nil)))))) (pss_one (ps_ret pe_bl)) pss_nil)
    (pss_one (ps_if (pt_cmpR (op_neD hr.units) (pe_call GP hr (by rfl) gP kP bP .nil pass0 (pa_cons (pv 13) (pa_cons (pv 11) (pa_cons (pv 14) pa_nil)))) (pe_tup (pa_cons pe_str (pa_cons (pv 14) pa_nil))) (nomark _)) (pss_one (ps_ret pe_bl)) pss_nil)))))))))))))))))
    (pss_one (ps_ret pe_bl)), ?_⟩
  refine ⟨_, rfl, a, _, rfl, .inl hS, _, _, rfl, _, _, rfl, _, rfl, (by (repeat' split) <;> omega), (by (repeat' split) <;> omega), ?_⟩
  refine for_range (lo := 0) (fun i σ F => ∃ y1 y2 y3 y4 y5 y6 y7 y8 y9 y10 y11 y12 y13 y14, σ = [some (.ref a), y1, y2, y3, y4, y5, y6, y7, y8, y9, y10, y11, y12, y13, y14] ∧ Same H F) ⟨_, _, _, _, _, _, _, _, _, _, _, _, _, _, rfl, Same.refl _⟩ (fun i σ F hi z => ?_) (fun σ F z => q F)
  obtain ⟨y1, y2, y3, y4, y5, y6, y7, y8, y9, y10, y11, y12, y13, y14, rfl, sF⟩ := z
  refine ⟨fun σ G => ∃ (d c : Addr), σ = [some (.ref a), some (.int (0 + (i : Int))), some (.ref d), y3, y4, y5, y6, y7, y8, y9, y10, y11, y12, y13, y14] ∧ Same H G ∧ Dk G d c ∧ H d = none ∧ H c = none, ?_, fun σ G z => ?_⟩
  · have hS2 := hS.ext sF
    obtain ⟨m1, e1, l1⟩ := cutI ns (some (0 + (i : Int))) (some (0 + (i : Int) + 1))
    obtain ⟨m2, e2, l2⟩ := cutI ns none (some (0 + (i : Int)))
    obtain ⟨m3, e3, l3⟩ := cutI ns (some (0 + (i : Int) + 1)) none
    have k0 : 0 + (i : Int) = ((i : Nat) : Int) := by omega
    have k1 : 0 + (i : Int) + 1 = ((i + 1 : Nat) : Int) := by omega
    rw [k1, k0, HT.sIx_nat, HT.sIx_nat] at l1
    rw [k0, HT.sIx_none, HT.sIx_nat] at l2
    rw [k1, HT.sIx_none, HT.sIx_nat] at l3
    refine ⟨_, rfl, _, rfl, 0 + (i : Int), rfl, _, rfl, _, _, rfl, rfl, 0 + (i : Int) + 1, rfl, a, _, rfl, hS2, fun p1 np1 => ?_⟩
    rw [e1]
    refine lstG np1 fun F1 t1 g1 => ?_
    refine ⟨_, rfl, _, rfl, 0 + (i : Int), rfl, a, _, rfl, hS2.ext t1, fun p2 np2 => ?_⟩
    rw [e2]
    refine lstG np2 fun F2 t2 g2 => ?_
    refine ⟨p1, p2, _, _, rfl, rfl, t2 _ _ g1, g2, szBig (by rw [List.length_map, List.length_map]; omega), fun p3 np3 => lstG np3 fun F3 t3 g3 => ?_⟩
    refine ⟨_, rfl, _, rfl, _, _, rfl, rfl, 0 + (i : Int) + 1, rfl, a, _, rfl, ((hS2.ext t1).ext t2).ext t3, fun p4 np4 => ?_⟩
    rw [e3]
    refine lstG np4 fun F4 t4 g4 => ?_
    refine ⟨p3, p4, _, _, rfl, rfl, t4 _ _ g3, g4, szBig (by rw [List.length_append, List.length_map, List.length_map, List.length_map]; omega), fun p5 np5 => lstG np5 fun F5 t5 g5 => ?_⟩
    have g5 : F5 p5 = some (.lst ((m1 ++ m2 ++ m3).map V.int)) := by rw [List.map_append, List.map_append]; exact g5
    have s5 := ((((sF.trans t1).trans t2).trans t3).trans t4).trans t5
    exact ⟨p5, m1 ++ m2 ++ m3, rfl, SqL.of g5, by rw [List.length_append, List.length_append]; omega, fun d c G sG nd nc dk => ⟨d, c, rfl, s5.trans sG, dk, noneB s5 nd, noneB s5 nc⟩⟩
  obtain ⟨d, c, rfl, sG, dk, nd, nc⟩ := z
  refine ⟨_, rfl, d, c, 8, rfl, dk, by decide, by decide, fun r0 Ga ra rb ka ea => ⟨rfl, ?_⟩⟩
  generalize decide (V.int r0 = V.int 5) = far
  replace sG := sG.kp ka nd nc
  refine ⟨_, rfl, d, c, 2, rfl, ea, by decide, by decide, fun fl Gb f0 f1 kb eb => ?_⟩
  replace sG := sG.kp kb nd nc
  refine ⟨_, rfl, _, rfl, d, c, 4, rfl, eb, by decide, by decide, fun r1 Gc c0 c1 kc ec => ⟨_, _, rfl, rfl, d, c, 1 + r1, rfl, ec, by omega, by omega, fun l xs Gd kd ed nl gl hlen hnm hnd hL => ?_⟩⟩
  have ol := ec.off nl
  have l4 : xs.length ≤ 4 := by omega
  have l1 : 1 ≤ xs.length := by omega
  replace sG := (sG.kp kc nd nc).kp kd nd nc
  refine ⟨fun σ G => ∃ (dS : Addr) (sz : Str → Nat), σ = [some (.ref a), some (.int (0 + (i : Int))), some (.ref d), some (.bl far), some (.int fl), some (.ref l), y6, some (.ref dS), y8, y9, y10, y11, y12, y13, y14] ∧ Same H G ∧ Dk G d c ∧ G l = some (.lst (xs.map V.str)) ∧ Szs G dS xs sz ∧ H dS = none, ?_, fun σ G z => ?_⟩
  · refine ⟨_, rfl, l, rfl, ⟨_, SqL.of gl⟩, fun D nD => ?_⟩
    have oD := ed.off nD
    have nDd := nD
    refine lc_list (xs := xs.map V.str) (fun i G => Kp d c Gd G ∧ Dk G d c ∧ ∃ ps : List Addr, G D = some (.lst (ps.map V.ref)) ∧ ps.length = i ∧ ∀ (j : Nat) (x : Str), j < i → xs[j]? = some x → ∃ (p : Addr) (n : Nat), ps[j]? = some p ∧ G p = some (.tup [.str x, .int ((n : Nat) : Int)]) ∧ 1 ≤ n ∧ n ≤ 3) ⟨Kp.of (newS nD), ed.same (newS nD), [], upd_same, rfl, fun j x h => absurd h (Nat.not_lt_zero _)⟩ (fun i G _ z => SqL.of (z.1 _ _ ol.1 ol.2 gl)) (fun i x G hxi z => ?_) (fun G z => ?_)
    · obtain ⟨kG, eG, ps, gD, lp, hp⟩ := z
      rw [List.getElem?_map] at hxi
      obtain ⟨x, hx, rfl⟩ := Option.map_eq_some_iff.mp hxi
      have li := (List.getElem?_eq_some_iff.mp hx).1
      refine ⟨rfl, _, rfl, _, rfl, d, c, 3, rfl, eG, by decide, by decide, fun r G2 h0 h1 k2 e2 => ⟨_, _, rfl, rfl, (by show 2 ≤ sizeLine; decide), fun p np => objG np fun G3 s3 g3 => ?_⟩⟩
      have gD3 := s3 _ _ (k2 _ _ oD.1 oD.2 gD)
      have tk : Tk G (upd G3 D (.lst (ps.map V.ref ++ [.ref p]))) := ((Tk.kp k2 eG).trans (Tk.of s3)).trans (Tk.put (fun _ _ e => e) fun _ z => by rw [gD3] at z; cases z)
      have tk3 : Tk G3 (upd G3 D (.lst (ps.map V.ref ++ [.ref p]))) := Tk.put (fun _ _ e => e) fun _ z => by rw [gD3] at z; cases z
      refine ⟨_, gD3, small1000 (by rw [List.length_map]; omega), ((kG.trans k2).trans (.of s3)).mk nD, (e2.same s3).put oD.1 oD.2, ps ++ [p], by rw [upd_same, List.map_append]; rfl, by rw [List.length_append, lp]; rfl, fun j y hj hy => ?_⟩
      rcases Nat.lt_or_ge j i with h | h
      · obtain ⟨p2, n, e1, e2', b1, b2⟩ := hp j y h hy
        exact ⟨p2, n, by rw [List.getElem?_append_left (by omega)]; exact e1, tk _ _ e2', b1, b2⟩
      · have ji : j = i := by omega
        subst ji
        have yx : y = x := Option.some.inj (hy.symm.trans hx)
        subst yx
        refine ⟨p, 1 + r.toNat, by rw [List.getElem?_append_right (by omega), show j - ps.length = 0 by omega]; rfl, ?_, by omega, by omega⟩
        rw [show ((1 + r.toNat : Nat) : Int) = 1 + r by omega]
        exact tk3 _ _ g3
    · obtain ⟨kG, eG, ps, gD, lp, hp⟩ := z
      rw [List.length_map] at lp
      obtain ⟨kvs, pp, ek, hv⟩ := prs_kvs (H := G) (R := fun _ t => ∃ n : Nat, t = .int ((n : Nat) : Int) ∧ 1 ≤ n ∧ n ≤ 3) lp (fun i x hx => by
        obtain ⟨p, n, e1, e2, b1, b2⟩ := hp i x (by rw [List.length_map]; exact (List.getElem?_eq_some_iff.mp hx).1) hx
        exact ⟨p, _, e1, e2, n, rfl, b1, b2⟩) K
      refine ⟨D, ps, kvs, rfl, SqL.of gD, pp, fun dS nS => ?_⟩
      rw [merge_app (more := kvs) (kvs := []) (by rw [List.nil_append, ek]; exact List.Pairwise.map Sum.inr (fun a b h z => h (Sum.inr.inj z)) hnd)]
      refine objG nS fun G2 s2 g2 => ?_
      have sG2 := (sG.kp kG nd nc)
      exact ⟨dS, szOf xs kvs, rfl, sG2.trans s2, eG.same s2, s2 _ _ (kG _ _ ol.1 ol.2 gl), szs_of g2 ek fun x hx => by
        obtain ⟨t, e1, n, rfl, b1, b2⟩ := hv x hx
        exact ⟨n, e1, b1, by omega⟩, noneB sG2 nS⟩
  obtain ⟨dS, sz, rfl, sG, dk, gl, zs, nS⟩ := z
  refine ⟨fun σ G => ∃ (sz : Str → Nat), σ = [some (.ref a), some (.int (0 + (i : Int))), some (.ref d), some (.bl far), some (.int fl), some (.ref l), y6, some (.ref dS), y8, y9, y10, y11, y12, y13, y14] ∧ Same H G ∧ Dk G d c ∧ G l = some (.lst (xs.map V.str)) ∧ Szs G dS xs sz, ?_, fun σ G z => ?_⟩
  · refine ⟨_, rfl, far, rfl, ite2 (fun _ => ?_) (fun _ => ⟨sz, rfl, sG, dk, gl, zs⟩)⟩
    obtain ⟨⟨kvs, hS, hks, hv⟩, b1, b2⟩ := zs
    have lt0 : 0 < xs.length := by omega
    have h0 : xs[0]? = some (xs[0]'lt0) := List.getElem?_eq_getElem _
    have mem0 : (Sum.inr (xs[0]'lt0) : Key) ∈ kvs.map (·.1) := by rw [hks]; exact List.mem_map.mpr ⟨_, List.getElem_mem _, rfl⟩
    have lkv : kvs.length = xs.length := by have := congrArg List.length hks; simpa using this
    refine ⟨_, rfl, _, rfl, l, _, _, _, rfl, rfl, SqL.of gl, atI_nat (j := 0) (v := .str (xs[0]'lt0)) (by rw [List.getElem?_map, h0] <;> rfl), dS, _, rfl, DPut.k (k := Sum.inr (xs[0]'lt0)) hS (small1000 (by omega)), ?_⟩
    have nSd : dS ≠ d ∧ dS ≠ c := by
      constructor
      · intro z
        obtain ⟨_, _, w⟩ := dk.dd
        rw [z, w] at hS; cases hS
      · intro z
        obtain ⟨_, w, _⟩ := dk.cc
        rw [z, w] at hS; cases hS
    have ldS : l ≠ dS := fun z => by rw [z, hS] at gl; cases gl
    refine ⟨_, rfl, smk sG nS, dk.put nSd.1 nSd.2, by rw [upd_ne ldS]; exact gl, szs_of upd_same (by rw [keys_in _ mem0]; exact hks) fun x hx => ?_⟩
    rw [valV_put]
    by_cases e : x = xs[0]'lt0
    · rw [if_pos (by rw [e])]
      exact ⟨12, rfl, by decide, by decide⟩
    · rw [if_neg (fun z => e (Sum.inr.inj z)), hv x hx]
      exact ⟨sz x, rfl, b1 x hx, b2 x⟩
  obtain ⟨sz, rfl, sG, dk, gl, zs⟩ := z
  refine ⟨_, rfl, _, rfl, _, rfl, d, c, dS, xs, sz, fl, rfl, dk, zs, hnd, by omega, hnm, fun m ys ts G1 k1 e1 mps pm tok hts => ?_⟩
  replace sG := sG.kp k1 nd nc
  replace gl := k1 _ _ ol.1 ol.2 gl
  replace zs := zs.kp k1 dk
  refine ⟨fun σ G => ∃ (ms : Addr), σ = [some (.ref a), some (.int (0 + (i : Int))), some (.ref d), some (.bl far), some (.int fl), some (.ref l), y6, some (.ref dS), some (.ref m), y9, y10, some (.ref ms), y12, y13, y14] ∧ Same H G ∧ Dk G d c ∧ G l = some (.lst (xs.map V.str)) ∧ Szs G dS xs sz ∧ Mps G m ys ts ∧ Mps G ms ys (fun x => idl (ts x).length), ?_, fun σ G z => ?_⟩
  · obtain ⟨⟨ob, qs, hm, ho1, ho2, lq, hq⟩, ynd, l9⟩ := id mps
    refine ⟨_, rfl, m, rfl, ⟨_, .inl (.inr ⟨ob, hm⟩)⟩, fun D nD => ?_⟩
    refine lc_tup (K := K) (a := m) (xs := qs.map V.ref) (fun i G => Same G1 G ∧ ∃ rs : List Addr, G D = some (.lst (rs.map V.ref)) ∧ rs.length = i ∧ ∀ (j : Nat) (x : Str), j < i → ys[j]? = some x → ∃ (q : Addr) (t : V), rs[j]? = some q ∧ G q = some (.tup [.str x, t]) ∧ Dd Non G (tblD x (idl (ts x).length)) t) ⟨newS nD, [], upd_same, rfl, fun j x h => absurd h (Nat.not_lt_zero _)⟩ (fun i G _ z => .inl (.inr ⟨ob, z.1 _ _ hm⟩)) (fun i v G hvi z => ?_) (fun G z => ?_)
    · obtain ⟨s1, rs, gD, lr, hr'⟩ := z
      rw [List.getElem?_map] at hvi
      obtain ⟨q0, hq0, rfl⟩ := Option.map_eq_some_iff.mp hvi
      have li := (List.getElem?_eq_some_iff.mp hq0).1
      have li2 : i < ys.length := by omega
      have hyx : ys[i]? = some (ys[i]'li2) := List.getElem?_eq_getElem li2
      generalize ys[i]'li2 = x at hyx
      obtain ⟨q1, t, e1', e2, dt⟩ := hq i x hyx
      rw [hq0] at e1'
      cases e1'
      have dt1 := dt.same s1
      obtain ⟨tp, tv, rfl, htp, dr⟩ := Dd.of2 dt1
      obtain ⟨rp, ws0, rfl, hrp, drs⟩ := Dd.ofT dr
      have l12 := tok.l12 x
      have lws : ws0.length = (ts x).length := by rw [← drs.len, rowsD_len]
      refine ⟨q0, _, rfl, SqT.of (s1 _ _ e2), rfl, _, _, rfl, _, _, rfl, rfl, rfl, ?_⟩
      refine ⟨_, rfl, _, rfl, tp, _, _, _, rfl, rfl, SqT.of htp, atI_nat (j := 1) rfl, rp, rfl, ⟨_, SqT.of hrp⟩, fun D2 nD2 => ?_⟩
      have DD2 : D ≠ D2 := ne_of_none gD nD2
      refine lc_tup (K := K) (a := rp) (xs := ws0) (fun i2 F => Same G F ∧ ∃ us, F D2 = some (.lst us) ∧ DdL Non F (rowsD x (idl i2)) us ∧ us.length = i2) ⟨newS nD2, [], upd_same, .nil, rfl⟩ (fun i2 F _ z => SqT.of (z.1 _ _ hrp)) (fun i2 w F hwi z => ?_) (fun F z => ?_)
      · obtain ⟨sF2, us, gD2, dus, lu⟩ := z
        obtain ⟨dd, hdd, dw⟩ := drs.get hwi
        obtain ⟨o, ho, rfl⟩ := rowsD_at hdd
        obtain ⟨r1, u, u', rfl, hr1, du, _⟩ := Dd.of1 dw
        have hr1' := sF2 _ _ hr1
        have lt2 := (List.getElem?_eq_some_iff.mp ho).1
        refine ⟨rfl, _, rfl, r1, _, _, _, rfl, rfl, SqT.of hr1', atI_nat (j := 0) rfl, _, rfl, r1, _, _, _, rfl, rfl, SqT.of hr1', atI_nat (j := 0) rfl, (by show 2 ≤ sizeLine; decide), fun p np => objG np fun F3 s3 g3 => ?_⟩
        have gD3 := s3 _ _ gD2
        refine ⟨us, gD3, small1000 (by omega), sPutS (sF2.trans s3) nD2, _, upd_same, ?_, by rw [List.length_append, lu]; rfl⟩
        rw [idl_succ, rowsD_app, idl_len]
        exact ((dus.same s3).app (.cons (.tup g3 (.cons (du.same (sF2.trans s3)) (.cons (du.same (sF2.trans s3)) .nil))) .nil)).kn (ddPut gD3)
      · obtain ⟨sF2, us, gD2, dus, lu⟩ := z
        rw [lws] at dus
        refine ⟨D2, _, rfl, .inl ⟨SqL.of gD2, fun t1 nt1 => objG nt1 fun F3 s3 g3 => ⟨(by show 2 ≤ sizeLine; decide), fun t2 nt2 => objG nt2 fun F4 s4 g4 => ⟨(by show 2 ≤ sizeLine; decide), fun t3 nt3 => objG nt3 fun F5 s5 g5 => ?_⟩⟩⟩⟩
        have s35 := ((sF2.trans s3).trans s4).trans s5
        have gD5 := s35 _ _ gD
        have kn5 : Kn Non F5 (upd F5 D (.lst (rs.map V.ref ++ [.ref t3]))) := ddPut gD5
        refine ⟨_, gD5, small1000 (by rw [List.length_map]; omega), sPutS (s1.trans s35) nD, rs ++ [t3], by rw [upd_same, List.map_append]; rfl, by rw [List.length_append, lr]; rfl, fun j y hj hy => ?_⟩
        rcases Nat.lt_or_ge j i with h | h
        · obtain ⟨q2, t', f1, f2, f3⟩ := hr' j y h hy
          exact ⟨q2, t', by rw [List.getElem?_append_left (by omega)]; exact f1, kn5.tup _ _ (s35 _ _ f2), (f3.same s35).kn kn5⟩
        · have ji : j = i := by omega
          subst ji
          have yx : y = x := Option.some.inj (hy.symm.trans hyx)
          subst yx
          exact ⟨t3, .ref t2, by rw [List.getElem?_append_right (by omega), show j - rs.length = 0 by omega]; rfl, kn5.tup _ _ g5, (Dd.tup (s5 _ _ g4) (.cons (.str _) (.cons (.tup ((s4.trans s5) _ _ g3) (dus.same ((s3.trans s4).trans s5))) .nil))).kn kn5⟩
    · obtain ⟨s1, rs, gD, lr, hr'⟩ := z
      rw [List.length_map, lq] at lr
      refine ⟨D, _, rfl, SqL.of gD, fun ms ob2 nms h1 h2 => ?_⟩
      have sm := newS (o := .frz ob2 (.tup (rs.map V.ref))) nms
      refine ⟨ms, rfl, (sG.trans s1).trans sm, (e1.same s1).same sm, (s1.trans sm) _ _ gl, (zs.same s1).same sm, mps.same (s1.trans sm), ⟨ob2, rs, upd_same, h1, h2, lr, fun i x hx => ?_⟩, ynd, l9⟩
      obtain ⟨q1, t, f1, f2, f3⟩ := hr' i x (by rw [List.length_map, lq]; exact (List.getElem?_eq_some_iff.mp hx).1) hx
      exact ⟨q1, t, f1, sm _ _ f2, f3.same sm⟩
  obtain ⟨ms, rfl, sG, dk, gl, zs, mps, mss⟩ := z
  have tok2 : TsOk ys (fun x => idl (ts x).length) := ⟨tok.nm, fun x => by rw [idl_len]; exact tok.l12 x, fun x k j e => by
    obtain ⟨h1, h2⟩ := idl_at e
    rw [idl_len]
    have := Option.some.inj h1
    omega⟩
  refine ⟨6, rfl, by decide, by decide, for_range (lo := 0) (n := 6) (fun i3 σ G => ∃ z6 z9 z10 z12 z13 z14, σ = [some (.ref a), some (.int (0 + (i : Int))), some (.ref d), some (.bl far), some (.int fl), some (.ref l), z6, some (.ref dS), some (.ref m), z9, z10, some (.ref ms), z12, z13, z14] ∧ Same H G ∧ Dk G d c ∧ G l = some (.lst (xs.map V.str)) ∧ Szs G dS xs sz ∧ Mps G m ys ts ∧ Mps G ms ys (fun x => idl (ts x).length)) ⟨_, _, _, _, _, _, rfl, sG, dk, gl, zs, mps, mss⟩ (fun i3 σ G hi3 z => ?_) (fun σ G z => ?_)⟩
  · obtain ⟨z6, z9, z10, z12, z13, z14, rfl, sG, dk, gl, zs, mps, mss⟩ := z
    refine ⟨_, rfl, _, rfl, _, rfl, d, c, 3, rfl, dk, by decide, by decide, fun r G1 g0 g1 k1 e1 => ⟨_, _, rfl, rfl, ?_⟩⟩
    have eL : [V.ref d, V.ref l, V.int (1 + r), V.bl false] = [V.ref d, V.ref l, V.int ((1 + r.toNat : Nat) : Int), V.bl false] := by
      rw [show ((1 + r.toNat : Nat) : Int) = 1 + r by omega]
    refine ⟨d, c, l, xs, 1 + r.toNat, false, eL, by omega, e1, k1 _ _ ol.1 ol.2 gl, ol.1, ol.2, by omega, hnm, fun kv t G2 k2 e2 rt dt => ?_⟩
    have kk := k1.trans k2
    replace sG := (sG.kp k1 nd nc).kp k2 nd nc
    replace gl := k2 _ _ ol.1 ol.2 (k1 _ _ ol.1 ol.2 gl)
    replace zs := (zs.kp k1 dk).kp k2 e1
    replace mps := mps.kp kk dk
    replace mss := mss.kp kk dk
    have dkt := rp0_dd rt
    have hd3 : t.dp ≤ 3 := by have := dt.dp; omega
    have hxy : ∀ x ∈ t.opens, x ∈ ys := fun x hx => pm.mem_iff.mpr (dt.op x hx)
    have okt := kd_ok dt.da fun x hx => hnm x (dt.op x hx)
    refine ⟨fun σ G => ∃ (wv : V) (w : Dt), σ = [some (.ref a), some (.int (0 + (i : Int))), some (.ref d), some (.bl far), some (.int fl), some (.ref l), z6, some (.ref dS), some (.ref m), z9, z10, some (.ref ms), some (.int (0 + (i3 : Int))), some kv, some wv] ∧ Same H G ∧ Dk G d c ∧ G l = some (.lst (xs.map V.str)) ∧ Szs G dS xs sz ∧ Mps G m ys ts ∧ Mps G ms ys (fun x => idl (ts x).length) ∧ Dd Non G t.dt kv ∧ Dd Non G w wv ∧ Wt sz t w, ?_, fun σ G z => ?_⟩
    · refine ⟨_, rfl, _, rfl, _, rfl, (by show 2 ≤ sizeLine; decide), fun pl npl => objG npl fun G3 s3 g3 => ?_⟩
      refine ⟨fun v F => ∃ b : Bool, v = .bl b ∧ Same G3 F, ?_, fun v F z => ?_⟩
      · refine ⟨_, rfl, rfl, _, rfl, ite2 (fun _ => ?_) (fun _ => ⟨_, rfl, Same.refl _⟩)⟩
        obtain ⟨w0, ds, ek⟩ : ∃ w0 ds, t.dt = .tup (.str w0 :: ds) := by cases t <;> exact ⟨_, _, rfl⟩
        have dk3 := dkt.same s3
        rw [ek] at dk3 okt
        obtain ⟨kp, us, rfl, hkp, dus⟩ := Dd.ofT dk3
        cases dus with
        | cons da dus =>
        refine ⟨_, rfl, _, rfl, kp, _, rfl, SqT.of hkp, notWhole _ _, fun p np => ?_⟩
        rw [cutFrom1]
        refine objG np fun F4 s4 g4 => ?_
        exact ⟨_, .tup ds, rfl, (Dd.tup g4 (dus.same s4)).any, (okt.tail.up (n' := 8) (W' := wB 3) (by omega) (wB_mono hd3)).shw (by decide +kernel), _, _, rfl, rfl, _, rfl, s4⟩
      obtain ⟨b, rfl, s4⟩ := z
      have s34 := s3.trans s4
      obtain ⟨most, emo, m0, m1⟩ : ∃ most : Int, atI [V.int 3, V.int 12] (if b then (1 : Int) else 0) = some (.int most) ∧ 0 ≤ most ∧ most < 13 := by
        cases b
        · exact ⟨3, rfl, by decide, by decide⟩
        · exact ⟨12, rfl, by decide, by decide⟩
      refine .inr ⟨b, rfl, pl, _, _, _, rfl, rfl, SqL.of (s4 _ _ g3), emo, ?_⟩
      have e4 := e2.same s34
      refine ⟨d, c, dS, kv, t, xs, sz, most, rfl, e4, dkt.same s34, zs.same s34, dt.da, dt.op, m0, m1, by omega, fun wv w G5 k5 e5 dw tw => ?_⟩
      exact ⟨wv, w, rfl, (sG.trans s34).kp k5 nd nc, e5, k5 _ _ ol.1 ol.2 (s34 _ _ gl), (zs.same s34).kp k5 e4, (mps.same s34).kp k5 e4, (mss.same s34).kp k5 e4, (dkt.same s34).kp k5 e4, dw, tw⟩
    obtain ⟨wv, w, rfl, sG, dk, gl, zs, mps, mss, dkt, dw, tw⟩ := z
    have tw1 : Wt (fun x => (ts x).length) t w := tw.congr fun x hx => (hts x (dt.op x hx)).symm
    have tw2 : Wt (fun x => (idl (ts x).length).length) t w := tw.congr fun x hx => by rw [idl_len]; exact (hts x (dt.op x hx)).symm
    refine ⟨_, rfl, _, rfl, _, rfl, m, kv, wv, t, w, ys, ts, rfl, dkt, dw, tw1, hd3, hxy, mps, tok, fun F1 s1 => ⟨_, rfl, iteF ?_⟩⟩
    refine ⟨_, rfl, _, rfl, _, rfl, ms, kv, wv, t, w, ys, _, rfl, dkt.same s1, dw.same s1, tw2, hd3, hxy, mss.same s1, tok2, fun F2 s2 => ⟨_, rfl, iteF ?_⟩⟩
    have s12 := s1.trans s2
    refine ⟨_, rfl, _, rfl, _, rfl, ms, kv, wv, t, w, ys, _, rfl, dkt.same s12, dw.same s12, tw2, hd3, hxy, mss.same s12, tok2, fun a F3 s3 da _ => ?_⟩
    have ook := out_ok tok2 tw2 hd3 hxy
    have em : mp (fT fun x => idl (ts x).length) t w = some w := mp_id (f := fT fun x => idl (ts x).length) (fun x k hk => fT_id (ts := ts) x k hk) tw2
    rw [em] at da ook
    have s123 := s12.trans s3
    refine ⟨_, rfl, (by show 2 ≤ sizeLine; decide), fun p np => objG np fun F4 s4 g4 => ?_⟩
    refine ⟨(outD (some w)).toP, (outD (some w)).toP, dp_same s4 da, dd_dp K (.tup g4 (.cons (.str _) (.cons ((dw.same s123).same s4) .nil))), ook.lay (by decide), ook.lay (by decide), _, rfl, ?_⟩
    rw [ook.eqv]
    refine iteF ⟨_, _, _, _, _, _, rfl, ?_⟩
    have s5 := s123.trans s4
    exact ⟨sG.trans s5, dk.same s5, s5 _ _ gl, zs.same s5, mps.same s5, mss.same s5⟩
  · obtain ⟨z6, z9, z10, z12, z13, z14, rfl, sG, _⟩ := z
    exact ⟨_, _, _, _, _, _, _, _, _, _, _, _, _, _, rfl, sG⟩
end
end Kq

/-! the end where some of the defs hold generator expressions -/
namespace Kg
open PySem PySem.Spec PyProof.Rows L2 LamX
/-- the def's code object, its table: empty -/
def TabOf (mg : Str → Option Value) (h : Heap) (x : Str) : Prop := ∃ (a : Addr) (o : Obj) (fd : FuncData) (c p : Addr), mg x = some (.ref a) ∧ h.get? a = some o ∧ o.data = .func fd ∧ fd.code = .ref c ∧ h.IsCode c p #[] ∧ h.TableAt c p #[]
theorem walk_ofNs {l : PySem.W.OpenLaw} {n k : Nat} {q : Program} {loose : List Str} {XP : (Str → Option Value) → Heap → Prop} {YP : World → Heap → Prop} {d : DefRec} {K : Params → PySem.W.Frag} {CX : World → CXT} {x : Str} (names : List Str)
    (hn : l.most = some n) (hn2 : n ≤ sizeLine) (hdf : d.params.defaults = []) (hr : Room k callerA) (hrec : (names.all fun y => (recsOf q).any fun e => e.name == y) = true) (hY : ∀ (w : World) (h : Heap), YP w h → (K w.params).In h)
    (F : ∀ (w : World) (mg : Str → Option Value) (fa : Addr) (h : Heap), YP w h → (K w.params).In h → h.Ns mainGlobals mg → mg d.name = some (.ref fa) → (∀ y ∈ names, TabOf mg h y) → LawAtS l w (K w.params) (CX w) k n x mg fa h)
    (hCX : ∀ (w : World) (H : Hp) (s : Shared) (e : Value) (s' : Shared), CX w [] H s (fun _ _ _ => False) e s' → False) :
    PySem.W.WalkO q loose XP YP l.row.toRowW d [] (fun f vs => PySem.call f vs) := by
  refine Att.attach_callB hn hdf fun w s₀ s₁ mg mb fa o pm cd doc a vs ns G Y ho hd hcd hmg hobj hints hlen hbits hg => ?_
  have KX := hY w _ Y
  have own : ∀ y ∈ names, TabOf mg s₁.heap y := fun y hy => by
    obtain ⟨dL, hm, hn1⟩ := List.any_eq_true.mp (List.all_eq_true.mp hrec y hy)
    have hn2 : dL.name = y := beq_iff_eq.mp hn1
    obtain ⟨a', o', fd', c', P', h1, h2, h3, h4, h5, h6⟩ := G.T.tab dL hm
    exact ⟨a', o', fd', c', P', by rw [← hn2]; exact h1, h2, h3, h4, h5, h6⟩
  obtain ⟨fd, cs, sp, hT, nT, C, hb, hsp, hF⟩ := F w mg fa _ Y KX G.T.g hmg own
  exact law_callTs KX G.T.g G.T.b G.T.builtins G.T.nolimit hg hT nT C G.T.bmain hobj hints (Nat.le_trans hlen hn2) hr hF hb (fun H hH hS => hsp H a ns hlen hbits hH hS) fun H e s' => hCX w H s₁ e s'
/-- such a def by what is written of it -/
theorem tabOf_at {K : PySem.W.Frag} {mg : Str → Option Value} {h : Heap} {x name qual : Str} {f c p : Addr} {params : Arguments} {body : List Stmt} {scope : Scope} {oc dV kV doc pm ct e : Value} {od an dd : Option Addr} {sl sl' : Array (Option Value)} {vs : Array Value} (X : K.In h) (T : TabOf mg h x) (g : mg x = some (.ref f))
    (l : K.lookup f = some ⟨oc, od, .func (PySem.W.fnOf name qual params body scope dV kV doc pm an (.ref c) ct), sl⟩) (t : K.lookup c = some ⟨e, dd, .fields vs, sl'⟩) (v : vs[11]? = some (.ref p)) :
    h.get? p = some { cls := .none, data := .fields #[] } ∧ PySem.W.CodeHd h c p := by
  obtain ⟨a', o', fd', c', P', h1, h2, h3, h4, h5, h6⟩ := T
  rw [g] at h1
  cases h1
  rw [X _ _ l] at h2
  cases h2
  cases h3
  cases h4
  obtain ⟨⟨oc', vc, e1, e2, e3, e4⟩, hP⟩ := id h6
  rw [X _ _ t] at e1
  cases e1
  cases e3
  rw [v] at e4
  cases e4
  exact ⟨hP, .of h5 h6⟩
end Kg

namespace Kq
open PySem PySem.Spec PyProof.Rows L2 Kf Kg Kv Kk
theorem upOk {P : Program} {w : World} {K : PySem.W.Frag} {mg : Str → Option Value} {base : Heap} {CX : CXT} {j k : Nat} {f : Addr} {fd : FuncData} {ps : List Str} {sp : Sp} (F : FnOk P w K mg base CX j f fd ps sp) (h : j ≤ k) : FnOk P w K mg base CX k f fd ps sp := F.mono h
section
variable {K : PySem.W.Frag} {t : Value} {n C : Addr} {b : Bool}
theorem kit_cl (iC : PySem.W.isClsIn K C = true) (tC : PySem.W.typeIn K (.ref C) = some (.type "type")) (s : PySem.W.subIn K t (.ref C) = some b) : PySem.W.kitCls K t (.ref C) = some b := by
  unfold PySem.W.isClsIn at iC
  show (if ((PySem.W.clsIn K C).isSome && PySem.W.typeIn K (.ref C) == some (.type "type")) = true then PySem.W.subIn K t (.ref C) else none) = _
  rw [if_pos (by rw [iC, tC]; simp)]
  exact s
theorem exm_yes {c : Value} (sB : PySem.W.subIn K (.ref C) (.type "BaseException") = some true) (iC : PySem.W.isClsIn K C = true) (tC : PySem.W.typeIn K (.ref C) = some (.type "type")) (s : PySem.W.subIn K c (.ref C) = some true) : PySem.W.exmOne K c (.ref C) = some true := by
  unfold PySem.W.exmOne
  rw [if_pos (by rw [sB]; simp)]
  exact kit_cl iC tC s
end
section
variable {P : Program} {w : World} {K : PySem.W.Frag} {mg : Str → Option Value} {base : Heap}
theorem worth_all (D : Dfn K mg "_law_worth" tLWorth psLWorth) (DD : Okd P w K mg base CX0 1 "_law_draw" ["_law_deck_here", "_law_most"] spDraw) (DP : Okd P w K mg base CX0 2 "_law_pick" ["_law_deck_here", "_law_some"] spPick) (m_range : mg "range" = none) (m_tuple : mg "tuple" = none) : ∀ n, Okd P w K mg base CX0 (n + 2) "_law_worth" psLWorth (spLWorth n)
  | 0 => by
    obtain ⟨f, fd, F, b, g⟩ := D
    refine ⟨f, fd, ⟨fun vs H Q E h => ?_, fun A outer s H c us vs Q E hr I b r h => ?_⟩, b, g, F.kp⟩
    all_goals
      obtain ⟨_, _, _, _, _, _, _, _, _, _, _, _, _, _, _, _, hn, _⟩ := h
      omega
  | n + 1 => by
    have ih := worth_all D DD DP m_range m_tuple n
    obtain ⟨f, fd, F, b, g⟩ := id D
    exact ⟨f, fd, okLWorth1 F (DX := ih) (DD := DD.up (by omega)) (DP := DP.up (by omega)) (m_range := m_range) (m_tuple := m_tuple), b, g, F.kp⟩
theorem lmapped_all (D : Dfn K mg "_law_mapped" tLMapped psLMapped) (m_dict : mg "dict" = none) (m_isinstance : mg "isinstance" = none) (m_tuple : mg "tuple" = none) : ∀ n, Okd P w K mg base CX0 (n + 1) "_law_mapped" psLMapped (spLMapped n)
  | 0 => by
    obtain ⟨f, fd, F, b, g⟩ := D
    refine ⟨f, fd, ⟨fun vs H Q E h => ?_, fun A outer s H c us vs Q E hr I b r h => ?_⟩, b, g, F.kp⟩
    all_goals
      obtain ⟨_, _, _, _, _, _, _, _, _, _, _, _, _, hn, _⟩ := h
      omega
  | n + 1 => by
    have ih := lmapped_all D m_dict m_isinstance m_tuple n
    obtain ⟨f, fd, F, b, g⟩ := id D
    exact ⟨f, fd, okLMapped1 F ih m_dict m_isinstance m_tuple, b, g, F.kp⟩
end

theorem all_mk {l : PySem.W.OpenLaw} {w : World} {K : PySem.W.Frag} {h : Heap} {mg : Str → Option Value} {fa cF oF f1 f2 f3 f4 f5 f6 f7 f8 f9 f10 f11 f12 f13 f14  : Addr} (X : K.In h) (G : h.Ns mainGlobals mg) (hfa : mg "law" = some (.ref fa))
    {od1 an1 od2 an2 od3 an3 od4 an4 od5 an5 od6 an6 od7 an7 od8 an8 od9 an9 od10 an10 od11 an11 od12 an12 od13 an13 od14 an14  : Option Addr} {sl1 sl2 sl3 sl4 sl5 sl6 sl7 sl8 sl9 sl10 sl11 sl12 sl13 sl14  : Array (Option Value)} {oc1 kV1 dc1 pm1 ct1 oc2 kV2 dc2 pm2 ct2 oc3 kV3 dc3 pm3 ct3 oc4 kV4 dc4 pm4 ct4 oc5 kV5 dc5 pm5 ct5 oc6 kV6 dc6 pm6 ct6 oc7 kV7 dc7 pm7 ct7 oc8 kV8 dc8 pm8 ct8 oc9 kV9 dc9 pm9 ct9 oc10 kV10 dc10 pm10 ct10 oc11 kV11 dc11 pm11 ct11 oc12 kV12 dc12 pm12 ct12 oc13 kV13 dc13 pm13 ct13 oc14 kV14 dc14 pm14 ct14 cd1 cd2 cd3 cd4 cd5 cd6 cd7 cd8 cd9 cd10 cd11 cd12 cd13 cd14  : Value}
    {dQ : Option Addr} {iQ : Array Value} {nQ : Nat} {sQ : Array (Option Value)}
    (a1 : PySem.W.nsIn K mainGlobals "mapped" = some (some (.ref f1)))
    (l1 : K.lookup f1 = some ⟨oc1, od1, .func (PySem.W.fnOf "mapped" "mapped" (defArgs tMapped) (defBody tMapped) (defScope tMapped) .none kV1 dc1 pm1 an1 cd1 ct1), sl1⟩)
    (q1 : PySem.W.codeIn K cd1 "mapped" = true)
    (k1 : PySem.W.keepIn K (.ref f1) = true)
    (a2 : PySem.W.nsIn K mainGlobals "led_on" = some (some (.ref f2)))
    (l2 : K.lookup f2 = some ⟨oc2, od2, .func (PySem.W.fnOf "led_on" "led_on" (defArgs tLedOn) (defBody tLedOn) (defScope tLedOn) .none kV2 dc2 pm2 an2 cd2 ct2), sl2⟩)
    (q2 : PySem.W.codeIn K cd2 "led_on" = true)
    (k2 : PySem.W.keepIn K (.ref f2) = true)
    (a3 : PySem.W.nsIn K mainGlobals "told_of" = some (some (.ref f3)))
    (l3 : K.lookup f3 = some ⟨oc3, od3, .func (PySem.W.fnOf "told_of" "told_of" (defArgs tToldOf) (defBody tToldOf) (defScope tToldOf) .none kV3 dc3 pm3 an3 cd3 ct3), sl3⟩)
    (q3 : PySem.W.codeIn K cd3 "told_of" = true)
    (k3 : PySem.W.keepIn K (.ref f3) = true)
    (a4 : PySem.W.nsIn K mainGlobals "_law_deck" = some (some (.ref f4)))
    (l4 : K.lookup f4 = some ⟨oc4, od4, .func (PySem.W.fnOf "_law_deck" "_law_deck" (defArgs tDeck) (defBody tDeck) (defScope tDeck) .none kV4 dc4 pm4 an4 cd4 ct4), sl4⟩)
    (q4 : PySem.W.codeIn K cd4 "_law_deck" = true)
    (k4 : PySem.W.keepIn K (.ref f4) = true)
    (a5 : PySem.W.nsIn K mainGlobals "_law_draw" = some (some (.ref f5)))
    (l5 : K.lookup f5 = some ⟨oc5, od5, .func (PySem.W.fnOf "_law_draw" "_law_draw" (defArgs tDraw) (defBody tDraw) (defScope tDraw) .none kV5 dc5 pm5 an5 cd5 ct5), sl5⟩)
    (q5 : PySem.W.codeIn K cd5 "_law_draw" = true)
    (k5 : PySem.W.keepIn K (.ref f5) = true)
    (a6 : PySem.W.nsIn K mainGlobals "_law_pick" = some (some (.ref f6)))
    (l6 : K.lookup f6 = some ⟨oc6, od6, .func (PySem.W.fnOf "_law_pick" "_law_pick" (defArgs tPick) (defBody tPick) (defScope tPick) .none kV6 dc6 pm6 an6 cd6 ct6), sl6⟩)
    (q6 : PySem.W.codeIn K cd6 "_law_pick" = true)
    (k6 : PySem.W.keepIn K (.ref f6) = true)
    (a7 : PySem.W.nsIn K mainGlobals "_law_names" = some (some (.ref f7)))
    (l7 : K.lookup f7 = some ⟨oc7, od7, .func (PySem.W.fnOf "_law_names" "_law_names" (defArgs tNames) (defBody tNames) (defScope tNames) .none kV7 dc7 pm7 an7 cd7 ct7), sl7⟩)
    (q7 : PySem.W.codeIn K cd7 "_law_names" = true)
    (k7 : PySem.W.keepIn K (.ref f7) = true)
    (a8 : PySem.W.nsIn K mainGlobals "_law_data" = some (some (.ref f8)))
    (l8 : K.lookup f8 = some ⟨oc8, od8, .func (PySem.W.fnOf "_law_data" "_law_data" (defArgs tLData) (defBody tLData) (defScope tLData) .none kV8 dc8 pm8 an8 cd8 ct8), sl8⟩)
    (q8 : PySem.W.codeIn K cd8 "_law_data" = true)
    (k8 : PySem.W.keepIn K (.ref f8) = true)
    (a9 : PySem.W.nsIn K mainGlobals "_law_worth" = some (some (.ref f9)))
    (l9 : K.lookup f9 = some ⟨oc9, od9, .func (PySem.W.fnOf "_law_worth" "_law_worth" (defArgs tLWorth) (defBody tLWorth) (defScope tLWorth) .none kV9 dc9 pm9 an9 cd9 ct9), sl9⟩)
    (q9 : PySem.W.codeIn K cd9 "_law_worth" = true)
    (k9 : PySem.W.keepIn K (.ref f9) = true)
    (a10 : PySem.W.nsIn K mainGlobals "_law_maps" = some (some (.ref f10)))
    (l10 : K.lookup f10 = some ⟨oc10, od10, .func (PySem.W.fnOf "_law_maps" "_law_maps" (defArgs tLMaps) (defBody tLMaps) (defScope tLMaps) .none kV10 dc10 pm10 an10 cd10 ct10), sl10⟩)
    (q10 : PySem.W.codeIn K cd10 "_law_maps" = true)
    (k10 : PySem.W.keepIn K (.ref f10) = true)
    (a11 : PySem.W.nsIn K mainGlobals "_law_mapped" = some (some (.ref f11)))
    (l11 : K.lookup f11 = some ⟨oc11, od11, .func (PySem.W.fnOf "_law_mapped" "_law_mapped" (defArgs tLMapped) (defBody tLMapped) (defScope tLMapped) .none kV11 dc11 pm11 an11 cd11 ct11), sl11⟩)
    (q11 : PySem.W.codeIn K cd11 "_law_mapped" = true)
    (k11 : PySem.W.keepIn K (.ref f11) = true)
    (a12 : PySem.W.nsIn K mainGlobals "_law_bare" = some (some (.ref f12)))
    (l12 : K.lookup f12 = some ⟨oc12, od12, .func (PySem.W.fnOf "_law_bare" "_law_bare" (defArgs tLBare) (defBody tLBare) (defScope tLBare) .none kV12 dc12 pm12 an12 cd12 ct12), sl12⟩)
    (q12 : PySem.W.codeIn K cd12 "_law_bare" = true)
    (k12 : PySem.W.keepIn K (.ref f12) = true)
    (a13 : PySem.W.nsIn K mainGlobals "_law_right" = some (some (.ref f13)))
    (l13 : K.lookup f13 = some ⟨oc13, od13, .func (PySem.W.fnOf "_law_right" "_law_right" (defArgs tLRight) (defBody tLRight) (defScope tLRight) .none kV13 dc13 pm13 an13 cd13 ct13), sl13⟩)
    (q13 : PySem.W.codeIn K cd13 "_law_right" = true)
    (k13 : PySem.W.keepIn K (.ref f13) = true)
    (a14 : PySem.W.nsIn K mainGlobals "law" = some (some (.ref f14)))
    (l14 : K.lookup f14 = some ⟨oc14, od14, .func (PySem.W.fnOf "law" "law" (defArgs tLaw) (defBody tLaw) (defScope tLaw) .none kV14 dc14 pm14 an14 cd14 ct14), sl14⟩)
    (q14 : PySem.W.codeIn K cd14 "law" = true)
    (k14 : PySem.W.keepIn K (.ref f14) = true)
    (z1 : PySem.W.nsIn K mainGlobals "len" = some none)
    (z2 : PySem.W.nsIn K mainGlobals "list" = some none)
    (z3 : PySem.W.nsIn K mainGlobals "range" = some none)
    (z4 : PySem.W.nsIn K mainGlobals "reversed" = some none)
    (z5 : PySem.W.nsIn K mainGlobals "sum" = some none)
    (z6 : PySem.W.nsIn K mainGlobals "int" = some none)
    (z7 : PySem.W.nsIn K mainGlobals "repr" = some none)
    (z8 : PySem.W.nsIn K mainGlobals "isinstance" = some none)
    (z9 : PySem.W.nsIn K mainGlobals "tuple" = some none)
    (z10 : PySem.W.nsIn K mainGlobals "max" = some none)
    (z11 : PySem.W.nsIn K mainGlobals "min" = some none)
    (z12 : PySem.W.nsIn K mainGlobals "sorted" = some none)
    (z13 : PySem.W.nsIn K mainGlobals "dict" = some none)
    (aXF : PySem.W.nsIn K mainGlobals "Faulted" = some (some (.ref cF)))
    (xPF : PySem.W.excIn K cF [.type "Exception", .type "BaseException", .type "object"] "Exception.__new__" = true)
    (kXF : PySem.W.keepIn K (.ref cF) = true)
    (bXF : PySem.W.subIn K (.ref cF) (.type "BaseException") = some true)
    (tXF : PySem.W.typeIn K (.ref cF) = some (.type "type"))
    (iXF : PySem.W.isClsIn K cF = true)
    (sXF : PySem.W.subIn K (.ref cF) (.ref cF) = some true)
    (aQ : PySem.W.nsIn K mainGlobals "FAULT" = some (some (.ref oF)))
    (lQ : K.lookup oF = some ⟨.type "tuple", dQ, .seq iQ nQ, sQ⟩)
    (vQ : iQ.size ≤ sizeLine ∧ Vals [V.str "fault"] iQ.toList) :
    LawG l w K CX0 8 63 "_law_script" mg fa h := by
  have e := hfa.symm.trans (PySem.W.mg_of X G a14)
  cases e
  have F1 := fun_mk (st := tMapped) l1 q1 k1
  have b1 := F1.binds (ps := psMapped) fun _ _ _ _ _ _ us hl => match us, hl with | [_, _, _], _ => rfl
  have g_1 := PySem.W.mg_of X G a1
  have F2 := fun_mk (st := tLedOn) l2 q2 k2
  have b2 := F2.binds (ps := psLedOn) fun _ _ _ _ _ _ us hl => match us, hl with | [_, _, _], _ => rfl
  have g_2 := PySem.W.mg_of X G a2
  have F3 := fun_mk (st := tToldOf) l3 q3 k3
  have b3 := F3.binds (ps := psToldOf) fun _ _ _ _ _ _ us hl => match us, hl with | [_, _], _ => rfl
  have g_3 := PySem.W.mg_of X G a3
  have F4 := fun_mk (st := tDeck) l4 q4 k4
  have b4 := F4.binds (ps := ["_law_script"]) fun _ _ _ _ _ _ us hl => match us, hl with | [_], _ => rfl
  have g_4 := PySem.W.mg_of X G a4
  have F5 := fun_mk (st := tDraw) l5 q5 k5
  have b5 := F5.binds (ps := ["_law_deck_here", "_law_most"]) fun _ _ _ _ _ _ us hl => match us, hl with | [_, _], _ => rfl
  have g_5 := PySem.W.mg_of X G a5
  have F6 := fun_mk (st := tPick) l6 q6 k6
  have b6 := F6.binds (ps := psPick) fun _ _ _ _ _ _ us hl => match us, hl with | [_, _], _ => rfl
  have g_6 := PySem.W.mg_of X G a6
  have F7 := fun_mk (st := tNames) l7 q7 k7
  have b7 := F7.binds (ps := ["_law_deck_here", "_law_many"]) fun _ _ _ _ _ _ us hl => match us, hl with | [_, _], _ => rfl
  have g_7 := PySem.W.mg_of X G a7
  have F8 := fun_mk (st := tLData) l8 q8 k8
  have b8 := F8.binds (ps := psLData) fun _ _ _ _ _ _ us hl => match us, hl with | [_, _, _, _], _ => rfl
  have g_8 := PySem.W.mg_of X G a8
  have F9 := fun_mk (st := tLWorth) l9 q9 k9
  have b9 := F9.binds (ps := psLWorth) fun _ _ _ _ _ _ us hl => match us, hl with | [_, _, _, _], _ => rfl
  have g_9 := PySem.W.mg_of X G a9
  have F10 := fun_mk (st := tLMaps) l10 q10 k10
  have b10 := F10.binds (ps := psLMaps) fun _ _ _ _ _ _ us hl => match us, hl with | [_, _, _], _ => rfl
  have g_10 := PySem.W.mg_of X G a10
  have F11 := fun_mk (st := tLMapped) l11 q11 k11
  have b11 := F11.binds (ps := psLMapped) fun _ _ _ _ _ _ us hl => match us, hl with | [_, _], _ => rfl
  have g_11 := PySem.W.mg_of X G a11
  have F12 := fun_mk (st := tLBare) l12 q12 k12
  have b12 := F12.binds (ps := psLBare) fun _ _ _ _ _ _ us hl => match us, hl with | [_], _ => rfl
  have g_12 := PySem.W.mg_of X G a12
  have F13 := fun_mk (st := tLRight) l13 q13 k13
  have b13 := F13.binds (ps := psLRight) fun _ _ _ _ _ _ us hl => match us, hl with | [_, _, _], _ => rfl
  have g_13 := PySem.W.mg_of X G a13
  have F14 := fun_mk (st := tLaw) l14 q14 k14
  have m_len := PySem.W.mg_none_of X G z1
  have m_list := PySem.W.mg_none_of X G z2
  have m_range := PySem.W.mg_none_of X G z3
  have m_reversed := PySem.W.mg_none_of X G z4
  have m_sum := PySem.W.mg_none_of X G z5
  have m_int := PySem.W.mg_none_of X G z6
  have m_repr := PySem.W.mg_none_of X G z7
  have m_isinstance := PySem.W.mg_none_of X G z8
  have m_tuple := PySem.W.mg_none_of X G z9
  have m_max := PySem.W.mg_none_of X G z10
  have m_min := PySem.W.mg_none_of X G z11
  have m_sorted := PySem.W.mg_none_of X G z12
  have m_dict := PySem.W.mg_none_of X G z13
  refine ⟨PySem.W.fnOf "law" "law" (defArgs tLaw) (defBody tLaw) (defScope tLaw) .none kV14 dc14 pm14 an14 cd14 ct14, [], spLaw K, (fun p hp => by cases hp), fun s v => .of_eq rfl, fun H a ns hl _ hH hS => ⟨a, ns, rfl, hS, hl, fun _ => rfl⟩, fun base _ _ TB => ?_⟩
  have M : FM K mg cF oF := ⟨PySem.W.mg_of X G aXF, xPF, kXF, bXF, tXF, exm_yes bXF iXF tXF sXF, PySem.W.mg_of X G aQ, fun H => .inr ⟨_, iQ, nQ, lQ, rfl, rfl, vQ.1, vQ.2⟩⟩
  have D0 : Okd l.prog w K mg base CX0 1 "_law_draw" ["_law_deck_here", "_law_most"] spDraw := ⟨_, _, okDraw (k := 0) F5, b5, g_5, F5.kp⟩
  have P0 : Okd l.prog w K mg base CX0 2 "_law_pick" psPick spPick := ⟨_, _, okPick (k := 0) F6 (okDraw (k := 0) F5) b5 g_5 F5.kp m_len, b6, g_6, F6.kp⟩
  have N0 : Okd l.prog w K mg base CX0 2 "_law_names" ["_law_deck_here", "_law_many"] spNames := ⟨_, _, okNames (k := 0) F7 (okDraw (k := 0) F5) b5 g_5 F5.kp m_len m_range, b7, g_7, F7.kp⟩
  have K0 : Okd l.prog w K mg base CX0 1 "_law_deck" ["_law_script"] (spDeck K) := ⟨_, _, okDeck (k := 0) F4 m_list m_reversed m_sum m_len, b4, g_4, F4.kp⟩
  have A0 : Okd l.prog w K mg base CX0 6 "_law_data" psLData (spLData 4) := ⟨_, _, okLData (P := l.prog) (w := w) (base := base) F8 b8 g_8 F5 b5 g_5 F6 b6 g_6 m_int m_len 4, b8, g_8, F8.kp⟩
  have Z0 : Okd l.prog w K mg base (L2.CX l.prog w) 1 "told_of" ["tables", "thing"] (spToldOf cF) := ⟨_, _, okToldOf (k := 0) F3 M, b3, g_3, F3.kp⟩
  have L0 := led_all (P := l.prog) (w := w) (base := base) ⟨_, _, F2, b2, g_2⟩ Z0 m_tuple 4
  have MP : Okd l.prog w K mg base CX0 6 "mapped" psMapped (spMapped K) := ⟨_, _, okMapped (k := 5) F1 M ⟨_, lQ, rfl⟩ L0, b1, g_1, F1.kp⟩
  have W0 := worth_all (P := l.prog) (w := w) (base := base) ⟨_, _, F9, b9, g_9⟩ D0 P0 m_range m_tuple 4
  have ME := lmapped_all (P := l.prog) (w := w) (base := base) ⟨_, _, F11, b11, g_11⟩ m_dict m_isinstance m_tuple 4
  have MA : Okd l.prog w K mg base CX0 2 "_law_maps" psLMaps spLMaps := ⟨_, _, okLMaps (k := 1) F10 (DD := D0) (m_int := m_int) (m_len := m_len) (m_list := m_list) (m_range := m_range) (m_sorted := m_sorted) (m_tuple := m_tuple), b10, g_10, F10.kp⟩
  have B0 : Okd l.prog w K mg base CX0 1 "_law_bare" psLBare spLBare := ⟨_, _, okLBare (k := 0) F12, b12, g_12, F12.kp⟩
  have RI := okLRight (P := l.prog) (w := w) (base := base) (k := 6) F13 (DB := B0.up (by decide)) (DM := ME.up (by decide)) (DP := MP.up (by decide)) (m_isinstance := m_isinstance) (m_range := m_range) (m_repr := m_repr) (m_tuple := m_tuple)
  exact okLaw (k := 7) F14 (DR := ⟨_, _, RI, b13, g_13, F13.kp⟩) (DK := K0.up (by decide)) (DD := D0.up (by decide)) (DN := N0.up (by decide)) (DM := MA.up (by decide)) (DA := A0.up (by decide)) (DW := W0.up (by decide)) (DP := MP.up (by decide)) (m_dict := m_dict) (m_int := m_int) (m_len := m_len) (m_max := m_max) (m_min := m_min) (m_range := m_range) (m_repr := m_repr) (m_tuple := m_tuple)
end Kq
open PySem PySem.W PyProof.Rows
set_option maxRecDepth 100000 in
set_option maxHeartbeats 0 in
theorem PySem.Challenge.cw_kindalone_k73_worths_mapped_holds : PySem.Challenge.rw_kindalone_k73_worths_mapped.Holds := by
  w_on; o_law; k_head; (case hw => w_witness2)
  k_fill
  refine Kf.walk_ofG (l := PySem.Challenge.rw_kindalone_k73_worths_mapped) (n := 63) (k := 8) (x := "_law_script") (CX := fun _ => L2.CX0) rfl (by decide) rfl ⟨rfl, by decide, by decide⟩ (fun w h Y => PySem.W.kIn_of Y) ?F (fun _ _ _ _ _ h => h)
  case F =>
    intro w mg fa h Y KX G hmg tabs
    refine' Kq.all_mk KX G hmg  ?a1 ?l1 ?q1 ?k1 ?a2 ?l2 ?q2 ?k2 ?a3 ?l3 ?q3 ?k3 ?a4 ?l4 ?q4 ?k4 ?a5 ?l5 ?q5 ?k5 ?a6 ?l6 ?q6 ?k6 ?a7 ?l7 ?q7 ?k7 ?a8 ?l8 ?q8 ?k8 ?a9 ?l9 ?q9 ?k9 ?a10 ?l10 ?q10 ?k10 ?a11 ?l11 ?q11 ?k11 ?a12 ?l12 ?q12 ?k12 ?a13 ?l13 ?q13 ?k13 ?a14 ?l14 ?q14 ?k14 ?z1 ?z2 ?z3 ?z4 ?z5 ?z6 ?z7 ?z8 ?z9 ?z10 ?z11 ?z12 ?z13 ?aXF ?xPF ?kXF ?bXF ?tXF ?iXF ?sXF ?aQ ?lQ ?vQ
    (case a1 => k_is)
    (case l1 => k_is)
    (case q1 => k_is)
    (case k1 => k_is)
    (case a2 => k_is)
    (case l2 => k_is)
    (case q2 => k_is)
    (case k2 => k_is)
    (case a3 => k_is)
    (case l3 => k_is)
    (case q3 => k_is)
    (case k3 => k_is)
    (case a4 => k_is)
    (case l4 => k_is)
    (case q4 => k_is)
    (case k4 => k_is)
    (case a5 => k_is)
    (case l5 => k_is)
    (case q5 => k_is)
    (case k5 => k_is)
    (case a6 => k_is)
    (case l6 => k_is)
    (case q6 => k_is)
    (case k6 => k_is)
    (case a7 => k_is)
    (case l7 => k_is)
    (case q7 => k_is)
    (case k7 => k_is)
    (case a8 => k_is)
    (case l8 => k_is)
    (case q8 => k_is)
    (case k8 => k_is)
    (case a9 => k_is)
    (case l9 => k_is)
    (case q9 => k_is)
    (case k9 => k_is)
    (case a10 => k_is)
    (case l10 => k_is)
    (case q10 => k_is)
    (case k10 => k_is)
    (case a11 => k_is)
    (case l11 => k_is)
    (case q11 => k_is)
    (case k11 => k_is)
    (case a12 => k_is)
    (case l12 => k_is)
    (case q12 => k_is)
    (case k12 => k_is)
    (case a13 => k_is)
    (case l13 => k_is)
    (case q13 => k_is)
    (case k13 => k_is)
    (case a14 => k_is)
    (case l14 => k_is)
    (case q14 => k_is)
    (case k14 => k_is)
    (case z1 => k_is)
    (case z2 => k_is)
    (case z3 => k_is)
    (case z4 => k_is)
    (case z5 => k_is)
    (case z6 => k_is)
    (case z7 => k_is)
    (case z8 => k_is)
    (case z9 => k_is)
    (case z10 => k_is)
    (case z11 => k_is)
    (case z12 => k_is)
    (case z13 => k_is)
    (case aXF => k_is)
    (case xPF => k_exc)
    (case kXF => k_is)
    (case bXF => k_is)
    (case tXF => k_is)
    (case iXF => k_is)
    (case sXF => k_is)
    (case aQ => k_is)
    (case lQ => k_is)
    (case vQ => exact ⟨by decide, (.cons ⟨_, rfl⟩ .nil)⟩)
