import PyProof.Rows.All
import Wide.All
import OpenK.AllK
import Wide.FinOn
import HandS.ForMost
import HandS.Rev
import HandS.GenList
import HandS.AnyAll
import HandS.EndOwn
import HandS.ExcOwn
import HandS.IsInst
import PyProof.ReprRoads
import HandS.Walk
import HandS.Dict
import HandS.TupAny
import HandS.Style
import KE.KDictPairs
import KE.GoesMore
import HandS.Iter
import KE.KRevSl
import PyProof.Draws
import PyProof.EnumMake
import PyProof.EqKinds
import HandS.More
import PyProof.Rows.IntBool
import PyProof.CallStr
import PyProof.IsRules
import PyProof.ReprLen
import PyProof.FitsInt
import PyProof.StrLawsRepr
import HandS.FStrTup
import PyProof.Rows.RegReprOcc
import HandS.Set
import HandS.SetBool
import HandS.TupSets
import HandS.SetFor
import PyProof.Rows.StrCase
import HandS.StrMore
import HandS.Replace
import HandS.Codes
import HandS.Wide
import HandS.Zip
import HandS.DeepEq
import HandS.RaiseMore
import HandS.TryOnly
import HandS.ForExc
import HandS.FStr
import HandS.IterVal
import HandS.Defaults
import KE.KDictZip
import KE.GoesZip
import HandS.TupMul
import HandS.Flow
import HandS.Text
import KE.KIntText
import PyProof.Rows.Digits
import PyProof.Rows.StrOr
import HandS.Comp
import HandS.Star
import KE.KExcSuper
import HandS.Base
import HandS.Call
import HandS.Exc
import HandS.ExcInit
import HandS.ExcSuper
import HandS.Nested
import KE.DataMinMax
import HandS.SortKw
import HandS.List
import HandS.ExcIs
import KE.KExcIs
import KE.KIsAll
import HandS.HotCalls
import HandS.ExcField
import HandS.TupLe
import HandS.OwnEq
import KE.RegKSuper
import PySem.Challenge.RW_kindalone_k44_tries_with_an_end
set_option Elab.async false
set_option linter.all false
set_option maxRecDepth 100000
set_option maxHeartbeats 4000000
namespace Kr
open PySem PySem.Spec PyProof.Rows L2 RT
section
variable {prog : Program} {w : World} {A : Around} {E : Value → Shared → Prop} {s : Shared}
/-- a list grows by what a walk from behind over another list gives -/
theorem growRev {R : Result → Shared → Prop} {it l S : Addr} {its : Array Value} {res : Value} {c0 : Nat} (hh : A.handled = none) (hit : s.heap.IsRevIter it l ((its.size : Int) - 1))
    (hl : s.heap.IsList l its) (hne : l ≠ it) (hn : its.size ≤ sizeLine) (hS : s.heap.get? S = some { cls := .type "list", data := .seq #[] c0 }) (hSi : S ≠ it) (hSl : S ≠ l)
    (hR : ∀ (h' : Heap) (tk : Nat) (acc : Array Value) (c : Nat), (∀ b o, b ≠ it → b ≠ S → s.heap.get? b = some o → h'.get? b = some o) →
      h'.get? S = some { cls := .type "list", dict := none, data := .seq acc c, slots := #[] } → ItemsOf (fun i v => its[its.size - 1 - i]? = some v) acc its.size → R (.ok (.ret res)) { s with heap := h', toks := tk }) :
    wpAny (model prog w) A.in1 (Builtin.List.listExtendWith (.ref S) (.ref it) res)
      (fun fin s' => match fin with
        | .done f => R (.ok f) s'
        | .again c' => c'.quiet = true ∧ codeAny (model prog w) A c' R s') (fun e s' => R (.error e) s') s := by
  have W := (Walks.listRev (prog := prog) (w := w) (A := A.in1) hh it l hne its).toS
  have out : S ∉ [it, l] := by
    intro z
    rcases List.mem_cons.mp z with z | z
    · exact hSi z
    · exact hSl (List.mem_singleton.mp z)
  have ty : s.TypeIs (.ref it) "list_reverseiterator" := hit.typeIs
  have no : Builtin.List.listSameRef (.ref S) (.ref it) = false := by
    simp [Builtin.List.listSameRef, hSi]
  unfold Builtin.List.listExtendWith
  refine wpAny_bind (wpAny_typeOf ty ?_)
  rw [if_neg (by rw [no]; decide)]
  refine wpAny_bind (wpAny_pyIter_revIter hit ?_)
  refine wpAny_bind (wpAny_holding ?_)
  unfold Builtin.List.listLengthHint
  refine wpAny_bind (wpAny_specialOf ty RT.nolen_lri ?_)
  show wpAny _ A.in1 (specialOf (.ref it) (Str.ofString "__length_hint__") >>= _) _ _ _
  refine wpAny_bind (wpAny_specialOf ty RT.hint_lri ?_)
  generalize hid : ("list_reverseiterator.__length_hint__" : String) = nm
  wp_delta
  have sp : splitId nm = some ("list_reverseiterator", "__length_hint__") := by
    subst hid
    decide +kernel
  rw [sp]
  subst hid
  refine wpAny_bind (wpAny_isInstance (b := true) ty (by rw [isSubtype_type]; kernel_rfl) ?_)
  refine wpAny_pure ?_
  rw [if_neg (by decide)]
  have z0 : ((its.size : Nat) : Int) - 1 - ((0 : Nat) : Int) = (its.size : Int) - 1 := by omega
  have st0 : s.heap.IsRevIter it l ((its.size : Int) - 1 - ((0 : Nat) : Int)) := by rw [z0]; exact hit
  refine wpAny_pure ⟨plainId_quiet F.plain_extend_loop _, ?_⟩
  refine codeAny_extend_loopS W hn S out res its.size 0 _ _ _ rfl (Nat.zero_le _) ⟨Nat.zero_le _, st0, hl⟩ hS (ItemsOf.nil _) (fun s' acc' c' mv hS' hacc => ?_)
  rw [Moved.eq_with mv]
  refine hR s'.heap s'.toks acc' c' (fun b o h1 h2 e => mv.heap b o (fun z => ?_) e) hS' hacc
  rcases List.mem_cons.mp z with z | z
  · exact h2 z
  · exact h1 (List.mem_singleton.mp z)
theorem call_list_rev {Q : Value → Shared → Prop} {it l : Addr} {its : Array Value} (hh : A.handled = none) (hit : s.heap.IsRevIter it l ((its.size : Int) - 1)) (hl : s.heap.IsList l its) (hne : l ≠ it) (hn : its.size ≤ sizeLine)
    (hQ : ∀ (h' : Heap) (tk : Nat) (acc : Array Value) (c : Nat), (∀ b o, b ≠ it → s.heap.get? b = some o → h'.get? b = some o) →
      h'.get? s.heap.objs.size = some { cls := .type "list", dict := none, data := .seq acc c, slots := #[] } → ItemsOf (fun i v => its[its.size - 1 - i]? = some v) acc its.size → Q (.ref s.heap.objs.size) { s with heap := h', toks := tk }) :
    wpAny (model prog w) A (call (.type "list") [.ref it]) Q E s := by
  obtain ⟨oi, hoi, _⟩ := id hit
  obtain ⟨ol, hol, _⟩ := id hl
  have n1 : s.heap.objs.size ≠ it := Nat.ne_of_gt (Heap.lt_size hoi)
  have n2 : s.heap.objs.size ≠ l := Nat.ne_of_gt (Heap.lt_size hol)
  refine callType_codes (Q₁ := fun obj s₁ => obj = .ref s.heap.objs.size ∧ s₁ = { s with heap := s.heap.push { cls := .type "list", data := .seq #[] } })
    F.called_list (F.typeCall_list_1 _) F.entry_list_init (code_list_new _ ⟨rfl, rfl⟩) (fun obj s₁ h₁ => ?_)
  obtain ⟨rfl, rfl⟩ := h₁
  have hS : (s.heap.push { cls := .type "list", data := .seq #[] }).get? s.heap.objs.size
      = some { cls := .type "list", data := .seq #[] } := Heap.get?_push_size _ rfl
  refine ⟨⟨_, hS, rfl⟩, F.args_list_init_2 _ _, ?_⟩
  show wpAny _ _ (do
    let old ← Builtin.List.listItems (.ref s.heap.objs.size)
    Builtin.List.listUpdate (.ref s.heap.objs.size) (fun _ => #[])
    letGo old.toList.reverse
    Builtin.List.listExtendWith (.ref s.heap.objs.size) (.ref it) .none) _ _ _
  refine wpAny_bind ?_
  unfold Builtin.List.listItems
  refine wpAny_bind (wpAny_seqItems hS rfl (wpAny_pure ?_))
  show wpAny _ _ (do
    updateSeq s.heap.objs.size (fun _ => #[])
    letGo (#[] : Array Value).toList.reverse
    Builtin.List.listExtendWith (.ref s.heap.objs.size) (.ref it) .none) _ _ _
  refine wpAny_bind (wpAny_updateSeq hS rfl ?_)
  have hS2 := Heap.get?_update_self (Obj.mapSeq fun _ => (#[] : Array Value)) hS rfl
  refine wpAny_bind (wpAny_letGo ?_)
  generalize hh2 : (s.heap.push { cls := .type "list", data := .seq #[] }).update s.heap.objs.size (Obj.mapSeq fun _ => (#[] : Array Value)) = h2 at hS2 ⊢
  have kp : ∀ b o, s.heap.get? b = some o → h2.get? b = some o := fun b o e => by
    rw [← hh2, Heap.get?_update_other _ _ (Nat.ne_of_gt (Heap.lt_size e))]
    exact Heap.get?_push_of_some _ e
  have hl2 : h2.IsList l its := by
    obtain ⟨o, e, r⟩ := id hl
    exact ⟨o, kp _ _ e, r⟩
  refine growRev (A := A.in1) (s := { s with heap := h2 }) hh (hit.at fun o e => kp _ _ e) hl2 hne hn hS2 n1 n2 (fun h' tk acc c k e i => ?_)
  exact ⟨rfl, hQ h' tk acc c (fun b o hb hbo => k b o hb (Nat.ne_of_lt (Heap.lt_size hbo)) (kp b o hbo)) e i⟩
end
/-- list(reversed(x)), x a list -/
def tListRev (K : PySem.W.Frag) (te : TE) : TE := fun σ H Q => te σ H fun v G => ∃ (a : Addr) (xs : List V), v = .ref a ∧ SqL K G a xs ∧ ∀ q, G q = none → Q (.ref q) (upd G q (.lst xs.reverse))
theorem pe_listRev {X : Cx} {e : Expr} {te : TE} {p p2 pos pos2 : Pos} (hc : X.calm = true) (hg : Gl X "list") (hm : X.mg "list" = none) (hg2 : Gl X "reversed") (hm2 : X.mg "reversed" = none) (he : PE X e te)
    (hs : starEach [e] X.env = (false, eval e X.env) :: starEach [] X.env := by rfl)
    (hs2 : starEach [.Call (.Name "reversed" p2) [e] [] pos2] X.env = (false, eval (.Call (.Name "reversed" p2) [e] [] pos2) X.env) :: starEach [] X.env := by rfl) :
    PE X (.Call (.Name "list" p) [.Call (.Name "reversed" p2) [e] [] pos2] [] pos) (tListRev X.K te) := by
  refine ⟨fun pins s σ H Q I h => ?_⟩
  have inner := fun (Q' : Value → Shared → Prop) (k : ∀ (a : Addr) (xs : List V) (its : List Value) (s1 : Shared) (G : Hp), Inv X pins σ G s1 → SqL X.K G a xs → Vals xs its → PlainL s1.heap a its.toArray → xs.length ≤ sizeLine →
      (∀ q, G q = none → Q (.ref q) (upd G q (.lst xs.reverse))) → Q' (.ref s1.heap.objs.size) { s1 with heap := s1.heap.push (revObj a ((its.toArray.size : Int) - 1)) }) =>
    show wpAny (model X.prog X.w) X.A (eval (.Call (.Name "reversed" p2) [e] [] pos2) X.env) Q' X.xe s from
      Call_ (ld_blt I hg2 hm2 PyProof.Rows.boot_reversed (PyProof.Rows.callWith_type1 (args_cons (thn (he.run pins s σ H _ I h) fun u s1 ⟨v, G, I1, r1, a, xs, ev, hq, q⟩ => args_nil (by
        subst ev
        obtain rfl : u = Value.ref a := r1
        obtain ⟨its, rv, pl, hz⟩ := I1.list hq
        exact call_reversed_list pl.isList (k a xs its s1 G I1 hq rv pl hz q))) hs) hs rfl))
  refine Call_ (ld_blt I hg hm boot_list (PyProof.Rows.callWith_type1 (args_cons (inner _ fun a xs its s1 G I1 hq rv pl hz q => args_nil ?_) hs2) hs2 rfl))
  have k0 : ∀ b o, s1.heap.get? b = some o → (s1.heap.push (revObj a ((its.toArray.size : Int) - 1))).get? b = some o := fun b o z => Heap.get?_push_of_some _ z
  obtain ⟨ol, hol, _⟩ := id pl.isList
  have hne : a ≠ s1.heap.objs.size := Nat.ne_of_lt (Heap.lt_size hol)
  have hn : its.toArray.size ≤ sizeLine := by rw [List.size_toArray, ← rv.length]; exact hz
  generalize hh3 : s1.heap.push (revObj a ((its.toArray.size : Int) - 1)) = h3 at k0 ⊢
  have it3 : h3.IsRevIter s1.heap.objs.size a ((its.toArray.size : Int) - 1) := by
    rw [← hh3]
    exact ⟨_, Heap.get?_push_size _ rfl, rfl, rfl⟩
  have l3 : h3.IsList a its.toArray := by
    rw [← hh3]
    exact pl.isList.push _
  have lt3 : s1.heap.objs.size < h3.objs.size := by
    obtain ⟨o, e, _⟩ := id it3
    exact Heap.lt_size e
  refine call_list_rev (s := { s1 with heap := h3 }) (I1.ok.hd hc) it3 l3 hne hn fun h' tk acc c hk hS hi => ?_
  have hgo : G h3.objs.size = none := I1.hok.fresh (Nat.le_of_lt lt3)
  refine ⟨.ref h3.objs.size, upd G h3.objs.size (.lst xs.reverse), I1.laid (t' := tk) (fun b o z => hk b o (Nat.ne_of_lt (Heap.lt_size z)) (k0 b o z)) (Nat.le_of_lt lt3)
    (show ObjOk X.prog X.w _ _ _ (.lst xs.reverse) from ⟨by rw [List.length_reverse]; exact hz, acc.toList, c, vals_rev rv hi, by rw [Array.toArray_toList]; exact hS⟩), rfl, q _ hgo⟩
/-- xs.extend(t), t a tuple -/
def rExtT (K : PySem.W.Frag) : V → List V → Hp → VK → Prop := fun x vs H Q => ∃ l b xs zs, x = .ref l ∧ vs = [.ref b] ∧ H l = some (.lst xs) ∧ SqT K H b zs ∧ xs.length + zs.length ≤ sizeLine ∧ Q .non (upd H l (.lst (xs ++ zs)))
theorem mt_extT {X : Cx} : MtM X "list.extend" (rExtT X.K) := by
  intro pins s σ H x vs v us Q I rx rv h
  obtain ⟨l, b, xs, zs, rfl, rfl, hl, hb, hz, q⟩ := h
  cases rx
  obtain ⟨u, rfl, ru⟩ := rv.one
  cases ru
  obtain ⟨z1, its, n, r1, _, e1⟩ := I.lstM hl
  obtain ⟨jts, r2, ⟨o, eo, oc, m, od⟩, z2⟩ := I.tuple hb
  have n1 := r1.length
  have n2 := r2.length
  have sm : its.toArray.size + jts.toArray.size ≤ sizeLine := by
    rw [List.size_toArray, List.size_toArray]
    omega
  have ty : s.TypeIs (.ref b) "tuple" := ⟨o, eo, oc⟩
  refine wpAny_call_entry F.slot_list_extend ⟨_, e1, rfl⟩ F.entry_list_extend ?_ (F.args_list_extend_2 _ _)
  show wpAny _ _ (Builtin.List.listExtendWith (.ref l) (.ref b) .none) _ _ _
  unfold Builtin.List.listExtendWith
  refine wpAny_bind (wpAny_typeOf ty ?_)
  have yes : (Builtin.List.listSameRef (.ref l) (.ref b) || Value.type "tuple" == Value.type "list" || Value.type "tuple" == Value.type "tuple") = true := by simp
  rw [if_pos yes]
  refine wpAny_bind ?_
  unfold Builtin.List.listItems
  refine wpAny_bind (wpAny_seqItems eo od (wpAny_pure ?_))
  refine wpAny_bind ?_
  refine wpAny_bind (wpAny_seqItems e1 rfl (wpAny_pure ?_))
  have long : (!its.toArray.isEmpty && Builtin.List.listTooLong (its.toArray.size + jts.toArray.size)) = false := by
    rw [notLongL sm, Bool.and_false]
  rw [if_neg (by rw [long]; exact Bool.false_ne_true)]
  refine wpAny_bind ?_
  show wpAny _ _ (updateSeq l (· ++ jts.toArray)) _ _ _
  refine wpAny_updateSeq e1 rfl ?_ (by rw [List.size_toArray]; omega) (by rw [Array.size_append]; omega)
  refine wpAny_pure ⟨_, rfl, ?_⟩
  refine ⟨.non, _, I.lset (its' := its ++ jts) hl e1 (by simp) (r1.append r2) ?_, rfl, q⟩
  rw [List.length_append]
  exact hz
end Kr

/-! all(..) of a generator expression whose element may call defs -/
namespace Kg
open PySem PySem.Spec PyProof.Rows L2 GenW GxR
open Sem (wp)
theorem over_startC {A : Around} {elt t it : Expr} {ifs : List Expr} {scope : Scope} {pos : Pos} {iv acc : Value} {env : Env} : A.over (.compStart (.GeneratorExp elt [⟨t, it, ifs, 0⟩] scope pos) 0 iv acc env) [] = A.deeper env := by
  first
    | rfl
    | (obtain ⟨hd, d, fr, gs, u⟩ := A; simp [Around.over, Around.deeper, marksOver, frameCount, unitsOf, envsOf, guardsOf, pushEnvs, pushGuards, Code.envs, Code.env?, Code.isFrame, Code.guards, Code.isGuard, Code.weight, Code.frames, Code.isCreation, Code.isCaller, Code.cUnits])
theorem over_loopC {A : Around} {elt t it : Expr} {ifs : List Expr} {scope : Scope} {pos : Pos} {iv acc : Value} {env : Env} : A.over (.compLoop (.GeneratorExp elt [⟨t, it, ifs, 0⟩] scope pos) 0 iv acc env) [] = A.deeper env := by
  first
    | rfl
    | (obtain ⟨hd, d, fr, gs, u⟩ := A; simp [Around.over, Around.deeper, marksOver, frameCount, unitsOf, envsOf, guardsOf, pushEnvs, pushGuards, Code.envs, Code.env?, Code.isFrame, Code.guards, Code.isGuard, Code.weight, Code.frames, Code.isCreation, Code.isCaller, Code.cUnits])
/-- the scope of a generator expression within a def: its own names, those that it captures (with their places in N) -/
structure GxS (N : List Str) (sc scope : Scope) (own : List Str) (caps : List (Str × Nat)) : Prop where
  kind : scope.kind = .function
  co : scope.isCoroutine = false
  cell : ∀ y ∈ scope.names, y.2 ≠ .cell
  dot : scope.names.lookup (".0" : Str) = some NameKind.local
  nd : (own ++ caps.map (·.1)).Nodup
  caps : ∀ p ∈ caps, N[p.2]? = some p.1 ∧ scope.names.lookup p.1 = some .free
  free : ∀ y ∈ scope.names, y.2 = .free → sc.names.lookup y.1 = some .cell ∨ sc.names.lookup y.1 = some .free
  uniq : ∀ y ∈ scope.names, scope.names.lookup y.1 = some y.2
abbrev gxN (own : List Str) (caps : List (Str × Nat)) : List Str := own ++ caps.map (·.1)
abbrev gxSt (own : List Str) (caps : List (Str × Nat)) (σ : L2.St) : L2.St := own.map (fun _ => none) ++ caps.map (fun p => (σ[p.2]?).join)
abbrev gxEnv (X : Cx) (scope : Scope) (C : Addr) (code : Value) : Env := genEnv scope (cloFrom X.env.cells scope.names []) C code builtinsNs X.env
/-- the context of its frame -/
abbrev gcx (X : Cx) (A : Around) (N : List Str) (s : Shared) (H : Hp) (cenv : Env) (fp : List Addr) : Cx :=
  { X with A := A.deeper cenv, N := N, s_0 := s, H_0 := H, env := cenv, outer := X.stack, stack := cenv :: X.stack, ex := fp, fn := fun _ => false, calm := true, pn := [], xe := fun _ _ => False }
section
variable {X : Cx} {pins : List (Addr × Obj)} {σ : L2.St} {H : Hp} {s : Shared}
theorem gx_start {A : Around} {scope : Scope} {own : List Str} {caps : List (Str × Nat)} {fp : List Addr} {code : Value} {m0 : Str → Option Value} {s1 : Shared} (I : Inv X pins σ H s) (S : GxS X.N X.env.scope scope own caps) (hh : A.handled = none) (hfr : A.frames = some X.stack)
    (hfp : ∀ b ∈ fp, FpOk X pins H b ∧ b < s.heap.objs.size) (hns : s1.heap.Ns s.heap.objs.size m0) (kp : ∀ b o, s.heap.get? b = some o → s1.heap.get? b = some o) (hos : s1.os = s.os) (hb : AllBare s1.gens) :
    Inv (gcx X A (gxN own caps) s H (gxEnv X scope s.heap.objs.size code) fp) [] (gxSt own caps σ) H s1 := by
  have hfree : ∀ y ∈ scope.names, y.2 = .free → ∃ c, X.env.cells.lookup y.1 = some c := fun y hy e => by
    rcases S.free y hy e with k | k
    · exact I.ok.has _ (.inl k)
    · exact I.ok.has _ (.inr k)
  have cm : ∀ {y c}, (y, c) ∈ cloFrom X.env.cells scope.names [] → X.env.cells.lookup y = some c ∧ c < s.heap.objs.size := fun {y c} hm => by
    rcases cloFrom_mem hm with hm | ⟨h1, rfl⟩
    · cases hm
    · obtain ⟨c, hc⟩ := hfree _ h1 rfl
      rw [hc]
      obtain ⟨w, z⟩ := I.cell _ _ hc
      exact ⟨rfl, z.lt⟩
  have mem : ∀ {y c}, (cloFrom X.env.cells scope.names []).lookup y = some c → X.env.cells.lookup y = some c ∧ c < s.heap.objs.size := fun {y c} e => cm (PySem.mem_of_lookup e)
  have look : ∀ {y}, scope.names.lookup y = some .free → ∃ c, (cloFrom X.env.cells scope.names []).lookup y = some c := fun {y} hl => by
    have hy : (y, NameKind.free) ∈ scope.names := PySem.mem_of_lookup hl
    exact mem_lookup (cloFrom_has (cells := X.env.cells) (acc := []) hy)
  have nfs : ∀ b o, X.base.get? b = some o → b ∉ frs X.stack := fun b o e z => by
    rcases List.mem_cons.mp (I.stkSub b z) with z | z
    · have h1 := Heap.lt_size e
      have h2 := Nat.le_trans I.ok.bsz I.ok.above
      rw [z] at h1
      exact absurd (Nat.lt_of_lt_of_le h1 h2) (Nat.lt_irrefl _)
    · exact I.ok.nofr e z
  have okB : (gcx X A (gxN own caps) s H (gxEnv X scope s.heap.objs.size code) fp).Ok := by
    refine ⟨I.ok.mod, S.kind, I.ok.glob, rfl, Nat.le_refl _, fun y z c e1 e2 => I.ok.inj y z c (mem e1).1 (mem e2).1, fun y hy => ?_, fun y c z e => ?_, fun _ => hh, ?_, .inr ⟨rfl, rfl⟩, fun b hb => ⟨Nat.ne_of_lt (hfp b hb).2, fun y c e z => (hfp b hb).1.2.2.2.2.1 y c (mem e).1 z⟩,
      I.bs, Nat.le_trans I.ok.bsz I.sz, fun b o e hb => ?_, fun b hb z => ?_, I.stack, I.stkFree⟩
    · have hy : scope.names.lookup y = some .cell ∨ scope.names.lookup y = some .free := hy
      rcases hy with hy | hy
      · exact absurd rfl (S.cell _ (PySem.mem_of_lookup hy))
      · exact look hy
    · cases z
    · exact Around.frames_deeper hfr
    · rcases (hfp b hb).1.2.2.2.1 with z | z
      · exact I.ok.noex b o e z
      · exact absurd (Nat.lt_of_lt_of_le (Heap.lt_size e) (Nat.le_trans I.ok.bsz z)) (Nat.lt_irrefl _)
    · rcases List.mem_cons.mp (I.stkSub b z) with z | z
      · exact (hfp b hb).1.2.1 z
      · exact (hfp b hb).1.2.2.1 z
  refine ⟨okB, hos, hb, Un.kept kp, ⟨m0, hns, fun i y av e1 e2 e3 => ?_⟩, fun y c e => ?_, I.hok.fresh (Nat.le_refl _), fun y c e => ?_, fun p hp => ?_, I.hok.kept kp, ?_⟩
  · have e1 : (own ++ caps.map (·.1))[i]? = some y := e1
    have e2 : (own.map (fun _ => (none : Option V)) ++ caps.map (fun p => (σ[p.2]?).join))[i]? = some (some av) := e2
    by_cases hi : i < own.length
    · rw [List.getElem?_append_left (by rw [List.length_map]; exact hi), List.getElem?_map, List.getElem?_eq_getElem hi] at e2
      cases e2
    · rw [List.getElem?_append_right (by rw [List.length_map]; omega), List.length_map, List.getElem?_map] at e2
      rw [List.getElem?_append_right (by omega), List.getElem?_map] at e1
      cases hc : caps[i - own.length]? with
      | none => rw [hc] at e1; cases e1
      | some p =>
        rw [hc] at e1 e2
        have e1 : p.1 = y := Option.some.inj e1
        have e2 : (σ[p.2]?).join = some av := Option.some.inj e2
        obtain ⟨hN, hf⟩ := S.caps p (List.mem_of_getElem? hc)
        have hσ : σ[p.2]? = some (some av) := by
          cases q : σ[p.2]? with
          | none => rw [q] at e2; cases e2
          | some o => rw [q] at e2; exact congrArg some e2
        have hv : X.env.scope.names.lookup p.1 = some .cell ∨ X.env.scope.names.lookup p.1 = some .free := S.free (p.1, .free) (PySem.mem_of_lookup hf) rfl
        obtain ⟨m, hm, hl⟩ := I.loc
        obtain ⟨u, ru, lk⟩ := hl p.2 p.1 av hN hσ (.inr hv)
        subst e1
        refine ⟨u, ru, .inr ⟨.inr hf, ?_⟩⟩
        obtain ⟨c, hc'⟩ := look hf
        refine ⟨c, hc', ?_⟩
        rcases lk with ⟨h1, _⟩ | ⟨_, c2, h2, h3⟩
        · have h1 : X.env.scope.names.lookup p.1 = some .local := h1
          rcases hv with hv | hv
          · rw [hv] at h1; cases h1
          · rw [hv] at h1; cases h1
        · rw [(mem hc').1] at h2
          cases h2
          obtain ⟨o, ho, hd⟩ := h3
          exact ⟨o, kp _ _ ho, hd⟩
  · obtain ⟨v, o, ho, hd⟩ := I.cell y c (mem e).1
    exact ⟨v, o, kp _ _ ho, hd⟩
  · exact I.freeC y c (mem e).1
  · exact absurd (show p ∈ ([] : List (Addr × Obj)) ++ [] from hp) (by simp)
  · show (own.map (fun _ => (none : Option V)) ++ caps.map (fun p => (σ[p.2]?).join)).length = (own ++ caps.map (·.1)).length
    simp
end
/-! the protocol -/
/-- behind the whole: only the table of generators has turned, things may be new -/
def Done (Qf : Value → Shared → Prop) (b : Bool) (s : Shared) : Prop := ∀ s' : Shared, (∀ x o, s.heap.get? x = some o → s'.heap.get? x = some o) → s'.os = s.os → AllBare s'.gens → Qf (.bool b) s'
def GEndA (Qf : Value → Shared → Prop) : Nat → Shared → Shared → Prop := fun _ _ s => AllBare s.gens ∧ Done Qf true s
def GProto (Qf : Value → Shared → Prop) (a : Addr) (g : Nat) : Protocol := fun _ _ v s kap =>
  ∃ b : Bool, v = .bool b ∧ s.heap.IsGen a g ∧ s.heap.NoLimit ∧ AllBare s.gens ∧ (b = true → ∀ s' : Shared, s'.heap = s.heap → s'.os = s.os → AllBare s'.gens → kap (.send .none) s') ∧ (b = false → Done Qf false s)
section
variable {P : Program} {w : World} {A : Around} {Qf : Value → Shared → Prop} {a : Addr} {g : Nat}
/-- all's own loop -/
theorem all_drain (hh : A.handled = none) (hd : A.depth < recursionLimit) : ∀ (n : Nat) (s : Shared), s.heap.IsGen a g → s.heap.NoLimit →
    (∃ gs, s.gens[g]? = some gs ∧ gs.Goes (model P w) A.in1.in1 (fun n s₀ r s₁ => r = .ok .next ∧ GEndA Qf n s₀ s₁) (GProto Qf a g) n (.send .none) (s.setGen g .running)) →
    codeAny (model P w) A (.builtin "all.loop" ⟨[.ref a], []⟩) (fun r s' => ∃ b : Bool, r = .ok (.ret (.bool b)) ∧ Qf (.bool b) s') s := by
  intro n
  induction n with
  | zero =>
    intro s hg hl ⟨gs, hgs, hgo⟩
    refine codeAny_builtin F.entry_all_loop ?_
    rw [Around.under_plainId F.plain_all_loop _]
    show wpAny _ A.in1 (pyNext (.ref a) >>= _) _ _ s
    refine wpAny_bind (wpAny_pyNext_genexpQ (A := A.in1) (P := GEndA Qf) hh hl hd hg hgs hgo (fun v s₁ gs' hbare hv => ?_) (fun s₁ hp h' hk => ?_))
    · obtain ⟨b, rfl, hg1, hl1, hb1, ht, hf⟩ := hv
      cases b with
      | true => exact False.elim (ht rfl s₁ rfl rfl hb1)
      | false =>
        refine wpAny_bind (wpAny_holding (wpAny_truthy_bool ?_))
        refine wpAny_bind (wpAny_letGo ?_)
        simp only [Bool.false_eq_true, if_false]
        refine wpAny_bind (wpAny_rule (wpAny_pure ⟨false, rfl, hf rfl _ (fun x o e => e) rfl (allBare_setGen hb1 hbare)⟩))
    · refine wpAny_bind (wpAny_rule (wpAny_pure ⟨true, rfl, hp.2 _ hk rfl (allBare_setGen hp.1 rfl)⟩))
  | succ n ih =>
    intro s hg hl ⟨gs, hgs, hgo⟩
    have hgl : g < s.gens.size := (Array.getElem?_eq_some_iff.mp hgs).1
    refine codeAny_builtin F.entry_all_loop ?_
    rw [Around.under_plainId F.plain_all_loop _]
    show wpAny _ A.in1 (pyNext (.ref a) >>= _) _ _ s
    refine wpAny_bind (wpAny_gsz (n := g + 1) hgl (wpAny_pyNext_genexpQ (A := A.in1) (P := GEndA Qf) hh hl hd hg hgs hgo (fun v s₁ gs' hbare hv => ?_) (fun s₁ hp h' hk => ?_)))
    · intro hsz
      have hsz1 : g < s₁.gens.size := by
        have q : (s₁.setGen g gs').gens.size = s₁.gens.size := setGen_size _ _ _
        have hsz' : g + 1 ≤ (s₁.setGen g gs').gens.size := hsz
        omega
      obtain ⟨b, rfl, hg1, hl1, hb1, ht, hf⟩ := hv
      refine wpAny_bind (wpAny_holding (wpAny_truthy_bool ?_))
      refine wpAny_bind (wpAny_letGo ?_)
      cases b with
      | true =>
        simp only [if_true]
        refine wpAny_pure ⟨plainId_quiet F.plain_all_loop _, ih _ hg1 hl1 ⟨gs', setGen_at hsz1, ?_⟩⟩
        exact ht rfl _ rfl rfl (allBare_setGen (s := s₁.setGen g gs') (allBare_setGen hb1 hbare) rfl)
      | false =>
        simp only [Bool.false_eq_true, if_false]
        refine wpAny_bind (wpAny_rule (wpAny_pure ⟨false, rfl, hf rfl _ (fun x o e => e) rfl (allBare_setGen hb1 hbare)⟩))
    · intro hsz
      refine wpAny_bind (wpAny_rule (wpAny_pure ⟨true, rfl, hp.2 _ hk rfl (allBare_setGen hp.1 rfl)⟩))
theorem call_all_gen {E : Value → Shared → Prop} {n : Nat} {s : Shared} (hh : A.handled = none) (hd : A.depth < recursionLimit) (hg : s.heap.IsGen a g) (hl : s.heap.NoLimit)
    (hgo : ∃ gs, s.gens[g]? = some gs ∧ gs.Goes (model P w) A.in1.in1 (fun n s₀ r s₁ => r = .ok .next ∧ GEndA Qf n s₀ s₁) (GProto Qf a g) n (.send .none) (s.setGen g .running)) : wpAny (model P w) A (call (.builtin "all") [.ref a]) Qf E s := by
  refine call_function_tree F.kind_all F.plain_all F.entry_all (F.args_all1 _) ?_
  unfold Builtin.«all»
  refine wpAny_bind (m := oneArg "all" _) (wpAny_pure ?_)
  refine wpAny_bind (wpAny_pyIter_gen hg ?_)
  refine wpAny_pure ⟨plainId_quiet F.plain_all_loop _, codeAny_mono (all_drain hh hd n s hg hl hgo) fun r s' h => ?_⟩
  obtain ⟨b, rfl, q⟩ := h
  exact q
end
end Kg

namespace Kg
open PySem PySem.Spec PyProof.Rows L2 GenW GxR
open Sem (wp)
theorem inv_same {G : Cx} {pins : List (Addr × Obj)} {σ : L2.St} {H : Hp} {s s' : Shared} (I : Inv G pins σ H s) (hk : ∀ x o, s.heap.get? x = some o → s'.heap.get? x = some o) (ho : s'.os = s.os) (hb : AllBare s'.gens) : Inv G pins σ H s' :=
  I.call' (ch := []) ho (Un.kept hk) (I.hok.kept hk) hb fun b z => by simp at z
/-- a turn's wish -/
def Turns (J : It) (σ0 : L2.St) (vs : List Nat) (g : TG) (te : TE) (Qe : Bool → Hp → Prop) (W : Nat → Nat → Hp → Prop) : Prop :=
  ∀ i m H, W i m H → (J.stop i H ∧ Qe true H) ∨ (J.go i H ∧ ∃ Nx : Hp → Prop, (∀ H', Nx H' → ∃ m', m' < m ∧ W (i + 1) m' H') ∧ ∀ x H', J.yld i H x H' → g x σ0 H' fun σ2 H2 => wipe σ2 vs = σ0 ∧ te σ2 H2 fun y H4 => ∃ b, y = .bl b ∧ if b = true then Nx H4 else Qe false H4)
section
variable {X : Cx} {A : Around} {N : List Str} {s4 : Shared} {H0 : Hp} {cenv : Env} {fp : List Addr} {tg elt iter : Expr} {scope : Scope} {pos : Pos} {it a : Addr} {gi : Nat} {go : Obj} {J : It} {tn : Nat → Heap → Prop} {σ0 : L2.St} {vs : List Nat} {g : TG} {te : TE} {Qe : Bool → Hp → Prop} {W : Nat → Nat → Hp → Prop} {Qf : Value → Shared → Prop}
theorem gx_loop (hh : A.handled = none) (hco : cenv.scope.isCoroutine = false) (T : Turn X.prog X.w X.K tg J fp it tn) (haf : a ∉ fp) (hgen : ∀ h : Heap, h.get? a = some go → h.IsGen a gi)
    (pg : PG (gcx X A N s4 H0 cenv fp) tg g) (pe : PE (gcx X A N s4 H0 cenv fp) elt te) (turn : Turns J σ0 vs g te Qe W)
    (hfin : ∀ b s H', Inv (gcx X A N s4 H0 cenv fp) [(a, go)] σ0 H' s → Qe b H' → Done Qf b s) :
    ∀ (m n i : Nat) (H : Hp) (s₀ s : Shared), m < n → W i m H → Inv (gcx X A N s4 H0 cenv fp) [(a, go)] σ0 H s → tn i s.heap → (∀ b ∈ fp, H b = none) →
      Seg (model X.prog X.w) A (fun n s₀ r s₁ => r = .ok .next ∧ GEndA Qf n s₀ s₁) (GProto Qf a gi) n s₀ (.compLoop (.GeneratorExp elt [⟨tg, iter, [], 0⟩] scope pos) 0 (.ref it) .none cenv)
        ((model X.prog X.w).den (.compLoop (.GeneratorExp elt [⟨tg, iter, [], 0⟩] scope pos) 0 (.ref it) .none cenv)) [] s := by
  have stat : ∀ {σ' : L2.St} {H' : Hp} {s' : Shared}, Inv (gcx X A N s4 H0 cenv fp) [(a, go)] σ' H' s' → (∀ b ∈ fp, H' b = none) → ∀ b ∈ fp, FpOk (gcx X A N s4 H0 cenv fp) [(a, go)] H' b := fun {σ' H' s'} I' hn b hb =>
    ⟨hn b hb, (I'.ok.exf b hb).1, I'.ok.exfs b hb, .inl hb, fun x c e => (I'.ok.exf b hb).2 x c e, fun p hp z => by
      have hp : p ∈ [(a, go)] := hp
      rw [List.mem_singleton.mp hp] at z
      have z : a = b := z
      exact haf (by rw [z]; exact hb)⟩
  have hy : ∀ v, yieldOut cenv v = yieldValue v := fun v => by simp only [yieldOut, hco, Bool.false_eq_true, if_false]
  intro m
  induction m using Nat.strongRecOn with
  | ind m ih =>
    intro n i H s₀ s hmn hW I hst hn
    obtain ⟨n, rfl⟩ : ∃ k, n = k + 1 := ⟨n - 1, by omega⟩
    show Seg _ A _ _ _ s₀ _ ((compTurn (.GeneratorExp elt [⟨tg, iter, [], 0⟩] scope pos) 0 (.ref it) .none cenv).onRaise (leaving cenv)) [] s
    rw [compTurn_gen, Sem.onRaise_eq_wrap]
    refine seg_bind_wrap (wpAny_standAt ?_)
    rcases turn i m H hW with ⟨stop, qq⟩ | ⟨hgo, Nx, hNx, step⟩
    · refine seg_bind_wrap ?_
      rw [over_loopC]
      refine thn (T.done (gcx X A N s4 H0 cenv fp) rfl rfl rfl rfl i [(a, go)] s _ H _ I (stat I hn) hst stop) fun r s6 ⟨hr, I6⟩ => ?_
      subst hr
      exact seg_end (.ok .next) ⟨rfl, I6.bare, hfin true s6 H I6 qq⟩
    · refine seg_bind_wrap ?_
      rw [over_loopC]
      refine thn (T.item (gcx X A N s4 H0 cenv fp) rfl rfl rfl rfl i [(a, go)] s _ H _ I (stat I hn) hst hgo) fun r s6 ⟨u, hr, h6⟩ => ?_
      subst hr
      refine seg_bind_wrap ?_
      rw [over_loopC]
      refine thn h6 fun _ s7 ⟨x, H7, I7, r7, y7, st7, n7⟩ => ?_
      have I7' := I7.pinned (stat I7 n7) (T.obj _ _ st7)
      refine seg_bind_wrap ?_
      rw [over_loopC]
      refine wpAny_mono (pg.run _ s7 _ H7 x u _ I7' r7 (step x H7 y7)) (fun _ s8 ⟨σ8, H8, I8, hw8, q8⟩ => ?_) fun _ _ e => e.elim
      have fin : ∀ {s' : Shared} {H' : Hp}, Inv (gcx X A N s4 H0 cenv fp) ([(a, go)] ++ pinsAt fp s7.heap) σ8 H' s' → Inv (gcx X A N s4 H0 cenv fp) [(a, go)] σ0 H' s' ∧ tn (i + 1) s'.heap ∧ ∀ b ∈ fp, H' b = none := fun {s' H'} I' => by
        have pin' : ∀ b ∈ fp, ∀ o, s7.heap.get? b = some o → s'.heap.get? b = some o ∧ H' b = none := fun b hb o e =>
          let z := I'.pin (b, o) (List.mem_append_right _ (List.mem_append_right _ (mem_pinsAt hb e)))
          ⟨z.1, z.2.1⟩
        have hl : σ0.length = σ8.length := by rw [← hw8, wipe_length]
        refine ⟨(I'.unpinned (pins := [(a, go)])).weak hl (fun j v e => ?_), T.keep _ _ _ st7 fun b hb o e => (pin' b hb o e).1, fun b hb => ?_⟩
        · rw [← hw8] at e
          exact (wipe_some e).1
        · obtain ⟨o, e, _⟩ := T.obj _ _ st7 b hb
          exact (pin' b hb o e).2
      simp only [List.forIn_nil]
      refine seg_bind_wrap (wpAny_pure ?_)
      simp only [if_true]
      simp only [hy]
      rw [Sem.bind_eq_wrap', Sem.bind_eq_wrap', Sem.wrap_wrap, Sem.wrap_wrap]
      refine seg_wrap ?_
      rw [over_loopC]
      refine wpAny_mono (pe.run _ s8 σ8 H8 _ I8 q8) (fun v s10 ⟨y, H10, I10, r10, b, hyb, q10⟩ => ?_) fun _ _ e => e.elim
      subst hyb
      obtain rfl : v = Value.bool b := r10
      obtain ⟨J1, J2, J3⟩ := fin I10
      have hga : s10.heap.IsGen a gi := hgen _ (J1.pin (a, go) (List.mem_append_right _ (List.mem_singleton.mpr rfl))).1
      refine seg_at (seg_yield rfl rfl rfl ⟨b, rfl, hga, J1.nolimit, J1.bare, fun hb s'' e1 e2 e3 => ?_, fun hb => ?_⟩)
      · subst hb
        rw [if_pos rfl] at q10
        obtain ⟨m', hm', w'⟩ := hNx H10 q10
        refine seg_again rfl (ih m' hm' n (i + 1) H10 s'' s'' (by omega) w' (inv_same J1 (fun x o e => by rw [e1]; exact e) e2 e3) (by rw [e1]; exact J2) J3)
      · subst hb
        rw [if_neg Bool.false_ne_true] at q10
        exact hfin false s10 H10 J1 q10
theorem gx_begin (hh : A.handled = none) (hco : cenv.scope.isCoroutine = false) (T : Turn X.prog X.w X.K tg J fp it tn) (haf : a ∉ fp) (hgen : ∀ h : Heap, h.get? a = some go → h.IsGen a gi)
    (pg : PG (gcx X A N s4 H0 cenv fp) tg g) (pe : PE (gcx X A N s4 H0 cenv fp) elt te) (turn : Turns J σ0 vs g te Qe W)
    (hfin : ∀ b s H', Inv (gcx X A N s4 H0 cenv fp) [(a, go)] σ0 H' s → Qe b H' → Done Qf b s) {m : Nat} {H : Hp} {s : Shared} (w0 : W 0 m H) (I : Inv (gcx X A N s4 H0 cenv fp) [(a, go)] σ0 H s) (hst : tn 0 s.heap) (hn : ∀ b ∈ fp, H b = none) :
    Seg (model X.prog X.w) A (fun n s₀ r s₁ => r = .ok .next ∧ GEndA Qf n s₀ s₁) (GProto Qf a gi) (m + 1) s (.compStart (.GeneratorExp elt [⟨tg, iter, [], 0⟩] scope pos) 0 (.ref it) .none cenv)
      ((model X.prog X.w).den (.compStart (.GeneratorExp elt [⟨tg, iter, [], 0⟩] scope pos) 0 (.ref it) .none cenv)) [] s := by
  have loop := gx_loop (iter := iter) (scope := scope) (pos := pos) hh hco T haf hgen pg pe turn hfin m (m + 1) 0 H s s (Nat.lt_succ_self _) w0 I hst hn
  show Seg _ A _ _ _ s _ ((compStart (.GeneratorExp elt [⟨tg, iter, [], 0⟩] scope pos) 0 (.ref it) .none cenv).onRaise (leaving cenv)) [] s
  unfold compStart
  rw [Sem.onRaise_eq_wrap]
  show Seg _ A _ _ _ s _ ((ask >>= _).wrap _ _ _ _) [] s
  refine seg_bind_wrap (wpAny_askSetting ?_)
  split
  · exact seg_again rfl loop
  · first
      | exact seg_bind_wrap (wpAny_rule (seg_bind_wrap (wpAny_standAt (seg_bind_wrap (T.self _ 0 s _ _ hst (seg_again rfl loop))))))
      | (refine seg_bind_wrap (wpAny_rule ?_); show Seg _ A _ _ _ s _ ((standAt iter.pos >>= _).wrap _ _ _ _) [] s; exact seg_bind_wrap (wpAny_standAt (seg_bind_wrap (T.self _ 0 s _ _ hst (seg_again rfl loop)))))
end
/-! the rule -/
section
variable {X : Cx}
/-- all(elt for tg in iter) -/
def tAllG (P : Addr) (wi : TI) (own : List Str) (caps : List (Str × Nat)) (vs : List Nat) (g : TG) (te : TE) : TE := fun σ H Q => wi σ H fun J H1 => TabG H1 P ∧ ∀ H2, Tabbed P H1 H2 → ∃ W : Nat → Nat → Hp → Prop, (∃ m, W 0 m H2) ∧ Turns J (gxSt own caps σ) vs g te (fun b H' => Q (.bl b) H') W
theorem pe_allG {c P : Addr} {elt tg iter : Expr} {p pos gpos : Pos} {scope : Scope} {own : List Str} {caps : List (Str × Nat)} {vs : List Nat} {wi : TI} {g : TG} {te : TE} {k : Nat}
    (hr : Room k X.A) (hg : Gl X "all") (hm : X.mg "all" = none) (TB : TabB X.base X.mg c P) (hcode : X.env.code = .ref c) (S : GxS X.N X.env.scope scope own caps) (hi : PI X tg iter wi)
    (pg : ∀ (s : Shared) (H : Hp) (C : Addr) (cd : Value) (fp : List Addr), PG (gcx X X.A.in1.in1 (gxN own caps) s H (gxEnv X scope C cd) fp) tg g)
    (pe : ∀ (s : Shared) (H : Hp) (C : Addr) (cd : Value) (fp : List Addr), PE (gcx X X.A.in1.in1 (gxN own caps) s H (gxEnv X scope C cd) fp) elt te)
    (hs : ∀ v, genFold iter X.env v = pure v := by intro _; rfl)
    (he : starEach [.GeneratorExp elt [⟨tg, iter, [], 0⟩] scope gpos] X.env = (false, eval (.GeneratorExp elt [⟨tg, iter, [], 0⟩] scope gpos) X.env) :: starEach [] X.env := by rfl) :
    PE X (.Call (.Name "all" p) [.GeneratorExp elt [⟨tg, iter, [], 0⟩] scope gpos] [] pos) (tAllG P wi own caps vs g te) := by
  refine ⟨fun pins s σ H Q I h => ?_⟩
  have hfree : ∀ y ∈ scope.names, y.2 = .free → ∃ c, X.env.cells.lookup y.1 = some c := fun y hy e => by
    rcases S.free y hy e with k | k
    · exact I.ok.has _ (.inl k)
    · exact I.ok.has _ (.inr k)
  refine wpAny_Call_Name_kw (ld_blt I hg hm PyProof.Rows.boot_all ?_)
  refine PyProof.Rows.callWith_builtin1 ?_ he (by rfl)
  rw [he]
  show wpAny _ _ (spliced ((false, eval (.GeneratorExp elt [⟨tg, iter, [], 0⟩] scope gpos) X.env) :: backTo pos (starEach [] X.env))) _ _ s
  refine Calls.spliced_cons ?_
  refine wpAny_GeneratorExp_make S.co (closure_ok hfree) S.cell S.dot S.kind (by have := hr.dp; omega) ?_ hs
  refine thn (hi.run pins s σ H _ I h) fun xv s1 hx => thn hx fun itv s2 h2 => ?_
  obtain ⟨it, fp, tn, J, H1, rfl, I2, T, st2, f2, ⟨ps, hP, ht⟩, q⟩ := h2
  refine ⟨I2.nolimit, ?_⟩
  have hPs : s2.heap.get? P = some { cls := .none, data := .fields ps } := I2.hok P _ hP
  have cd : PySem.W.CodeHd s2.heap c P := TB.code.keeps I2.bk
  have sz2 : ∀ b ∈ fp, b < s2.heap.objs.size := fun b hb => by
    obtain ⟨o, e, _⟩ := T.obj _ _ st2 b hb
    exact Heap.lt_size e
  have cont : ∀ (code : Value) (h3 : Heap) (tk : Nat) (ps' more : Array Value), Heap.ExtBut P s2.heap h3 → s2.heap.objs.size ≤ h3.objs.size → h3.get? P = some { cls := .none, data := .fields ps' } → ps' = ps ++ more → TriplesOk ps'.toList →
      wpAny (model X.prog X.w) X.A (builtinsFor X.env.globals X.env.builtins) (fun bi s₄ =>
        ∀ h', h'.Ns s₄.heap.objs.size (fun y => if y = ".0" then some (.ref it) else none) → Heap.SameBut s₄.heap.objs.size (s₄.heap.push { cls := .type "frame", data := .dict #[] }) h' →
          wpAny (model X.prog X.w) X.A (spliced (backTo pos (starEach [] X.env))) (fun us s' => wpAny (model X.prog X.w) X.A (call (.builtin "all") (.ref h'.objs.size :: us)) (EP X pins σ Q) X.xe s') X.xe { s₄ with
            gens := s₄.gens.push (.fresh (.compStart (.GeneratorExp elt [⟨tg, iter, [], 0⟩] scope gpos) 0 (.ref it) .none (genEnv scope (cloFrom X.env.cells scope.names []) s₄.heap.objs.size code bi X.env))),
            toks := s₄.toks + 1 + 1 + 1,
            heap := h'.push { cls := .type "generator", data := .fields #[.int s₄.gens.size 0, .str "<genexpr>" (s₄.toks + 1), .str (X.env.qual ++ "<genexpr>") (s₄.toks + 1 + 1)] } }) X.xe { s2 with heap := h3, toks := tk } := by
    intro code h3 tk ps' more hx hsz hP3 hmore ht3
    obtain ⟨bm, ob, e1, e2, e3, e4, e5, e6, e7, e8⟩ := TB.bm
    have keep3 : ∀ b u, b ≠ P → s2.heap.get? b = some u → h3.get? b = some u := fun b u hb e => hx b u hb e
    refine wpAny_builtinsFor (m := X.mg) (by rw [I2.ok.glob]; exact (I2.mod.glob.keeps I2.bk).extBut hx TB.gP) e1 e2 (keep3 _ _ e4 (I2.bk _ _ e5)) e6 e7 e8 ?_
    intro h' hns hsb
    have I3 : Inv X pins σ (upd H1 P (.tbl (ps ++ more))) { s2 with heap := h3, toks := tk } := inv_tab (more := more) (g' := s2.gens) (d' := s2.drawn) (t' := tk) I2 hP keep3 (by rw [← hmore]; exact hP3) I2.bare
    have hT : Tabbed P H1 (upd H1 P (.tbl (ps ++ more))) := ⟨⟨ps ++ more, upd_same, by rw [← hmore]; exact ht3⟩, fun b hb => upd_ne hb⟩
    obtain ⟨W, ⟨m, w0⟩, turn⟩ := q _ hT
    have nP : ∀ b ∈ fp, b ≠ P := fun b hb z => by
      have := (f2 b hb).1
      rw [z, hP] at this
      cases this
    have f3 : ∀ b ∈ fp, FpOk X pins (upd H1 P (.tbl (ps ++ more))) b ∧ b < h3.objs.size := fun b hb => ⟨⟨by rw [upd_ne (nP b hb)]; exact (f2 b hb).1, (f2 b hb).2⟩, Nat.lt_of_lt_of_le (sz2 b hb) hsz⟩
    generalize upd H1 P (.tbl (ps ++ more)) = H3 at I3 w0 f3
    have hsz' : h'.objs.size = h3.objs.size + 1 := by rw [hsb.1, Heap.size_push]
    have keep' : ∀ b o, h3.get? b = some o → h'.get? b = some o := fun b o e => hsb.extBut b o (Nat.ne_of_lt (Heap.lt_size e)) (Heap.get?_push_of_some _ e)
    refine Calls.spliced_nil ?_
    generalize hgo : ({ cls := .type "generator", data := .fields #[.int s2.gens.size 0, .str "<genexpr>" (tk + 1), .str (X.env.qual ++ "<genexpr>") (tk + 1 + 1)] } : Obj) = go
    have hgen : ∀ hp : Heap, hp.get? h'.objs.size = some go → hp.IsGen h'.objs.size s2.gens.size := fun hp e => ⟨go, _, _, e, by rw [← hgo], by rw [← hgo], by rw [← hgo]⟩
    have hput : (h'.push go).get? h'.objs.size = some go := Heap.get?_push_size _ (by rw [← hgo]; rfl)
    have hgd : ∀ v, go.data ≠ .cell v := fun v z => by rw [← hgo] at z; cases z
    show wpAny _ _ (call (.builtin "all") [.ref h'.objs.size]) _ _ { s2 with gens := s2.gens.push (.fresh (.compStart (.GeneratorExp elt [⟨tg, iter, [], 0⟩] scope gpos) 0 (.ref it) .none (gxEnv X scope h3.objs.size code))), toks := tk + 1 + 1 + 1, heap := h'.push go }
    have keep5 : ∀ b o, h3.get? b = some o → (h'.push go).get? b = some o := fun b o e => Heap.get?_push_of_some _ (keep' b o e)
    have hb5 : AllBare (s2.gens.push (.fresh (.compStart (.GeneratorExp elt [⟨tg, iter, [], 0⟩] scope gpos) 0 (.ref it) .none (gxEnv X scope h3.objs.size code)))) := I2.bare.push rfl
    have hrun : AllBare (({ s2 with gens := s2.gens.push (.fresh (.compStart (.GeneratorExp elt [⟨tg, iter, [], 0⟩] scope gpos) 0 (.ref it) .none (gxEnv X scope h3.objs.size code))), toks := tk + 1 + 1 + 1, heap := h'.push go } : Shared).setGen s2.gens.size .running).gens := allBare_setGen hb5 rfl
    have G0 : Inv (gcx X X.A.in1.in1 (gxN own caps) { s2 with heap := h3, toks := tk } H3 (gxEnv X scope h3.objs.size code) fp) [] (gxSt own caps σ) H3 (({ s2 with gens := s2.gens.push (.fresh (.compStart (.GeneratorExp elt [⟨tg, iter, [], 0⟩] scope gpos) 0 (.ref it) .none (gxEnv X scope h3.objs.size code))), toks := tk + 1 + 1 + 1, heap := h'.push go } : Shared).setGen s2.gens.size .running) :=
      gx_start (s := { s2 with heap := h3, toks := tk }) I3 S hr.hd I3.ok.frames f3 (hns.push go) keep5 rfl hrun
    have hna : H3 h'.objs.size = none := I3.hok.fresh (by show h3.objs.size ≤ h'.objs.size; omega)
    have G1 : Inv (gcx X X.A.in1.in1 (gxN own caps) { s2 with heap := h3, toks := tk } H3 (gxEnv X scope h3.objs.size code) fp) [(h'.objs.size, go)] (gxSt own caps σ) H3 (({ s2 with gens := s2.gens.push (.fresh (.compStart (.GeneratorExp elt [⟨tg, iter, [], 0⟩] scope gpos) 0 (.ref it) .none (gxEnv X scope h3.objs.size code))), toks := tk + 1 + 1 + 1, heap := h'.push go } : Shared).setGen s2.gens.size .running) :=
      G0.pins_of fun p hp => by
        rw [List.mem_singleton.mp hp]
        refine ⟨hput, hna, ?_, fun z => ?_, hgd⟩
        · show h'.objs.size ≠ h3.objs.size
          omega
        · have z : h'.objs.size ∈ frs X.stack := z
          rcases List.mem_cons.mp (I3.stkSub _ z) with z | z
          · have h1 := I3.lt
            rw [← z] at h1
            have h1 : h'.objs.size < h3.objs.size := h1
            omega
          · exact I3.nofs (show h3.objs.size ≤ h'.objs.size by omega) z
    have st5 : tn 0 (h'.push go) := T.keep _ _ _ st2 fun b hb o e => keep5 b o (keep3 b o (nP b hb) e)
    refine call_all_gen (n := m + 1) hr.hd (by have := hr.dp; omega) (hgen _ hput) (I3.nolimit.keeps keep5) ⟨_, Array.getElem?_push_size .., rfl, ?_⟩
    refine gx_begin (A := X.A.in1.in1) (N := gxN own caps) (σ0 := gxSt own caps σ) (vs := vs) (g := g) (te := te) (Qe := fun b H' => Q (.bl b) H') (W := W) hr.hd S.co T (fun z => ?_) hgen (pg _ _ _ _ _) (pe _ _ _ _ _) turn (fun b s6 H6 J6 q6 s7 k7 o7 b7 => ?_) w0 G1 st5 (fun b hb => (f3 b hb).1.1)
    · have z2 : h'.objs.size < h3.objs.size := (f3 _ z).2
      rw [hsz'] at z2
      exact absurd z2 (by omega)
    · have I6 : Inv X pins σ H6 s6 := I3.call' (ch := fp) J6.os J6.base J6.hok J6.bare fun b hb => ⟨(f3 b hb).1.2.2.2.1, (f3 b hb).1.2.1, (f3 b hb).1.2.2.2.2.1, (f3 b hb).1.2.2.2.2.2⟩
      exact ⟨.bl b, H6, inv_same I6 k7 o7 b7, rfl, q6⟩
  cases hf : codeAmong gpos ps.toList with
  | none =>
    refine wpAny_genexprCodeX hcode (cd.code hPs ht) (cd.tab hPs) hf fun c' h' tk hx hge hlt hco' _ htab' _ => ?_
    obtain ⟨o1, vs, f1, tf, fl, tg, inF, tx, tt, op, _, _, _, _, _, _, _, _, _, htr, _⟩ := hco'
    exact cont _ h' tk _ _ hx (Nat.le_trans hge (Nat.le_of_lt hlt)) htab'.2 rfl htr
  | some cv =>
    refine wpAny_genexprCode_hit hcode (cd.code hPs ht) hf ?_
    exact cont cv s2.heap s2.toks ps #[] (Heap.ExtBut.refl _ _) (Nat.le_refl _) hPs (by simp) ht
end
end Kg

/-! defs that are called where no repr is under way -/
namespace Kf
open PySem PySem.Spec PyProof.Rows L2 LamX
/-- no repr is under way -/
abbrev Still (A : Around) : Prop := A.guards = some []
/-- a def's promise, called where no repr is under way -/
structure FnG (P : Program) (w : World) (K : PySem.W.Frag) (mg : Str → Option Value) (base : Heap) (CX : CXT) (k : Nat) (f : Addr) (fd : FuncData) (ps : List Str) (sp : Sp) : Prop where
  cnt : ∀ vs H Q E, sp vs H Q E → vs.length = ps.length
  go : ∀ (A : Around) (o : List Env) (s : Shared) (H : Hp) (r : Args) (us : List Value) (vs : List V) (Q : VK) (E : XK), Still A → Room k A → Env0 P w K mg base A o s H → BindsTo s fd r (ps.zip us) → Vals vs us → sp vs H Q E →
    codeAny (model P w) A (.call (.ref f) r) (CR CX o P w H s Q E) s
section
variable {P : Program} {w : World} {K : PySem.W.Frag} {mg : Str → Option Value} {base : Heap} {CX : CXT}
theorem FnG.of {k : Nat} {f : Addr} {fd : FuncData} {ps : List Str} {sp : Sp} (F : FnOk P w K mg base CX k f fd ps sp) : FnG P w K mg base CX k f fd ps sp :=
  ⟨F.len, fun A o s H r us vs Q E _ => F.run A o s H r us vs Q E⟩
theorem FnG.up {j k : Nat} {f : Addr} {fd : FuncData} {ps : List Str} {sp : Sp} (F : FnG P w K mg base CX j f fd ps sp) (h : j ≤ k) : FnG P w K mg base CX k f fd ps sp :=
  ⟨F.cnt, fun A o s H r us vs Q E g hr => F.go A o s H r us vs Q E g (hr.mono h)⟩
/-- a def by its body -/
theorem fnG_of {k : Nat} {f : Addr} {nm ql : Str} {prm : Arguments} {bd : List Stmt} {sco : Scope} {dV kV doc pm cdv ct oc : Value} {an od : Option Addr} {sl : Array (Option Value)} {N ps : List Str} {sp : Sp}
    (at' : K.lookup f = some ⟨oc, od, .func (PySem.W.fnOf nm ql prm bd sco dV kV doc pm an cdv ct), sl⟩) (hc : PySem.W.codeIn K cdv ql = true) (S : FnScope N ps sco) (cnt : ∀ vs H Q E, sp vs H Q E → vs.length = ps.length)
    (body : ∀ (A : Around) (o : List Env) (s : Shared) (H : Hp) (vs : List V) (Q : VK) (E : XK), Still A → Room k (A.deeper (envOfC ql sco s.heap.objs.size f cdv)) → sp vs H Q E →
      ∃ t, PSs (cxOf CX P w K mg base N ql sco f cdv A o s H E) bd t ∧ t { nx := fun _ G => Q .non G, rt := Q } (start N vs) H) : FnG P w K mg base CX (k + 1) f (PySem.W.fnOf nm ql prm bd sco dV kV doc pm an cdv ct) ps sp where
  cnt := cnt
  go := by
    intro A o s H r us vs Q E still room e0 binds vals hsp
    have hold := fun b u (z : base.get? b = some u) => (e0.bs b u z).1
    have kx := e0.mod.kin.keeps hold
    have par : ∀ z ∈ ps.zip us, sco.names.lookup z.1 = some .local ∨ (sco.names.lookup z.1 = some .cell ∧ ((cellsFrom (s.heap.objs.size + 1) sco.names []).lookup z.1).isSome = true) := by
      intro z hz
      have hm : z.1 ∈ ps := (List.of_mem_zip (a := z.1) (b := z.2) hz).1
      exact (S.par z.1 hm).imp id fun q => ⟨q, PySem.W.cellsFrom_some _ _ _ (.inl q)⟩
    refine codeAny_call_function room.depth (kx _ _ at') rfl S.co S.gen rfl (PySem.W.codeRec_of kx hc) (binds _ _ _ _ (wpAny_newFunctionEnv_cells S.kind par ?_))
    rintro env rfl s1 x
    refine ⟨(e0.mod.nolimit.keeps hold).keeps x.toInCall.keep, codeAny_func ?_⟩
    obtain ⟨t, ht, hq⟩ := body A o s H vs Q E still (room.deeper _) hsp
    refine wpAny_mono (ht.run [] s1 (start N vs) H _ (inv_start S room.hd e0 (cnt _ _ _ _ hsp) vals x) hq) ?_ (fun _ _ z => z)
    intro fl s2 z
    match fl, z with
    | .ret u, ⟨v, _, G, J, rv, q⟩ => exact ⟨v, G, J.os, J.bare, J.base, J.hok, rv, q⟩
    | .next, ⟨_, G, J, q⟩ => exact ⟨V.non, G, J.os, J.bare, J.base, J.hok, rfl, q⟩
    | .brk, ⟨_, _, _, q⟩ => exact q.elim
    | .cont, ⟨_, _, _, q⟩ => exact q.elim
/-- a def of the text that lets nothing out -/
theorem okG {x ql : Str} {st : Stmt} {f : Addr} {fd : FuncData} {N ps : List Str} {k : Nat} {sp : Sp} (F : Fun K x ql st f fd) (S : FnScope N ps (defScope st)) (cnt : ∀ vs H Q E, sp vs H Q E → vs.length = ps.length)
    (body : ∀ (cdv : Value) (A : Around) (o : List Env) (s : Shared) (H : Hp) (vs : List V) (Q : VK) (E : XK), Still A → Room k (A.deeper (envOfC ql (defScope st) s.heap.objs.size f cdv)) → sp vs H Q E →
      ∃ t, PSs (cxOf CX0 P w K mg base N ql (defScope st) f cdv A o s H E).nox (defBody st) t ∧ t { nx := fun _ G => Q .non G, rt := Q } (start N vs) H) : FnG P w K mg base CX0 (k + 1) f fd ps sp := by
  obtain ⟨oc, od, kV, doc, pm, an, cdv, ct, sl, rfl, hl, hc⟩ := F.ex
  exact fnG_of hl hc S cnt fun A o s H vs Q E g hr h => (body cdv A o s H vs Q E g hr h).imp fun t z => ⟨z.1.nox, z.2⟩
end
section
variable {X : Cx} {CX : CXT} {k : Nat} {f : Addr} {fd : FuncData} {ps : List Str} {sp : Sp} {dvs : List V} {ds : List Value} {E : XK} {x : Str} {p pos : Pos} {e : Expr} {es : List Expr} {t : TA}
theorem goG {pins : List (Addr × Obj)} {σ : L2.St} {H : Hp} {s : Shared} {Q : VK} {us : List Value} {vs : List V} (F : FnG X.prog X.w X.K X.mg X.base CX k f fd ps sp) (g : Still X.A) (hr : Room k X.A) (hb : Binds X.K fd ps ds) (hd : Vals dvs ds) (hx : Passes CX X E) (I : Inv X pins σ H s) (rv : Vals vs us)
    (h : sp (vs ++ dvs) H Q E) : wpAny (model X.prog X.w) X.A (call (.ref f) us) (EP X pins σ Q) X.xe s := by
  have both := rv.append hd
  have n : (us ++ ds).length = ps.length := both.length.symm.trans (F.cnt _ _ _ _ h)
  refine wpAny_call (codeAny_mono (F.go X.A X.stack s H ⟨us, []⟩ _ _ Q E g hr I.env0 (hb s us I.kIn n) both h) ?_)
  intro r s2 z
  match r, z with
  | .error u, z => exact hx pins σ H s u s2 I z
  | .ok (.ret u), z => exact I.after z
  | .ok .next, z => exact z.elim
  | .ok .brk, z => exact z.elim
  | .ok .cont, z => exact z.elim
/-- f(e, ..) -/
theorem pe_callG (F : FnG X.prog X.w X.K X.mg X.base CX k f fd ps sp) (g : Still X.A) (hr : Room k X.A) (hg : Gl X x) (hm : X.mg x = some (.ref f)) (hk : PySem.W.keepIn X.K (.ref f) = true) (hb : Binds X.K fd ps ds) (hd : Vals dvs ds) (hx : Passes CX X E) (ha : PA X (e :: es) t)
    (hn : (x == ("__debug__" : Str)) = false := by decide) (h1 : starEach (e :: es) X.env = (false, eval e X.env) :: starEach es X.env := by rfl) (h2 : (backTo pos (starEach es X.env)).any (·.1) = false := by rfl) : PE X (.Call (.Name x p) (e :: es) [] pos) (tCall sp dvs E t) := by
  constructor
  intro pins s σ H Q I h
  refine wpAny_Call_Name_kw (ld_glob I hg hm (PySem.W.callWith_K (h₀ := X.base) I.ok.mod.kin hk (thn (ha.run pos pins s σ H _ I h) ?_) h1 h2) hn)
  rintro us s2 ⟨vs, G, J, rv, q⟩
  exact ⟨J.kIn, goG F g hr hb hd hx J rv q⟩
end
end Kf

/-! repr of data -/
namespace Kf
open PySem PySem.Spec PyProof.Rows L2
/-- data that shows as it is, of at most so many in one another -/
structure Shows (n : Nat) (d : PyData) : Prop where
  ok : d.showable = true
  nd : d.hasDict = false
  dp : d.depth ≤ n
  sz : d.shown.length ≤ sizeLine
def rShow (K : PySem.W.Frag) (n : Nat) : List V → Hp → VK → Prop := fun xs H Q => ∃ (a : Addr) (d : PyData), xs = [.ref a] ∧ Dp K H (.ref a) d ∧ Shows n d ∧ Q (.str d.shown) H
theorem call_show {X : Cx} {n : Nat} (g : Still X.A) (hu : X.A.units + (n + 1) < cLine) : CallR X (.builtin "repr") (rShow X.K n) := by
  intro pins s σ H xs us Q I r h
  obtain ⟨a, d, rfl, hd, sh, q⟩ := h
  rw [Vals.ref1 r]
  obtain ⟨as, rd⟩ := Dp.reads I d _ (.ref a) hd rfl
  exact repr_of_reads' rd sh.ok (PyData.noDict_hsm sh.nd) g (by have := sh.dp; omega) (fun _ _ e => e) (fun h' u tk hk => ⟨.str d.shown, H, I.kept hk, ⟨u, rfl⟩, q⟩) sh.sz
end Kf

/-! things of anything: none, truths, numbers, texts, tuples, lists, the empty dict -/
namespace Kv
open PySem PySem.Spec PyProof.Rows L2 Kf
inductive Dt where
  | non
  | bl (b : Bool)
  | int (i : Int)
  | str (x : Str)
  | tup (xs : List Dt)
  | lst (xs : List Dt)
  | dct (kvs : List (Str × Int))
/-- a dict of texts with numbers -/
def dkv (kvs : List (Str × Int)) : List (Key × V) := kvs.map fun p => (.inr p.1, .int p.2)
def dkp (kvs : List (Str × Int)) : List (PyData × PyData) := kvs.map fun p => (.str p.1, .int p.2)
mutual
/-- the thing stands at v; its lists and dicts at places N -/
inductive Dd (N : Addr → Prop) (H : Hp) : Dt → V → Prop
  | non : Dd N H .non .non
  | bl (b : Bool) : Dd N H (.bl b) (.bl b)
  | int (i : Int) : Dd N H (.int i) (.int i)
  | str (x : Str) : Dd N H (.str x) (.str x)
  | tup {a : Addr} {xs : List Dt} {vs : List V} : H a = some (.tup vs) → DdL N H xs vs → Dd N H (.tup xs) (.ref a)
  | lst {a : Addr} {xs : List Dt} {vs : List V} : N a → H a = some (.lst vs) → DdL N H xs vs → Dd N H (.lst xs) (.ref a)
  | dct {a : Addr} {kvs : List (Str × Int)} : N a → H a = some (.dK (dkv kvs)) → Dd N H (.dct kvs) (.ref a)
inductive DdL (N : Addr → Prop) (H : Hp) : List Dt → List V → Prop
  | nil : DdL N H [] []
  | cons {x : Dt} {xs : List Dt} {v : V} {vs : List V} : Dd N H x v → DdL N H xs vs → DdL N H (x :: xs) (v :: vs)
end
/-- what stood of tuples, and of lists and dicts at N, stands -/
structure Kn (N : Addr → Prop) (H G : Hp) : Prop where
  tup : ∀ b xs, H b = some (.tup xs) → G b = some (.tup xs)
  lst : ∀ b xs, N b → H b = some (.lst xs) → G b = some (.lst xs)
  dic : ∀ b xs, N b → H b = some (.dK xs) → G b = some (.dK xs)
theorem Kn.of {N : Addr → Prop} {H G : Hp} (s : Same H G) : Kn N H G := ⟨fun b _ e => s b _ e, fun b _ _ e => s b _ e, fun b _ _ e => s b _ e⟩
theorem Kn.trans {N : Addr → Prop} {H G F : Hp} (a : Kn N H G) (b : Kn N G F) : Kn N H F := ⟨fun x _ e => b.tup x _ (a.tup x _ e), fun x _ n e => b.lst x _ n (a.lst x _ n e), fun x _ n e => b.dic x _ n (a.dic x _ n e)⟩
theorem Kn.rfl {N : Addr → Prop} {H : Hp} : Kn N H H := ⟨fun _ _ e => e, fun _ _ _ e => e, fun _ _ _ e => e⟩
theorem Kn.sub {N M : Addr → Prop} {H G : Hp} (k : Kn N H G) (h : ∀ b, M b → N b) : Kn M H G := ⟨k.tup, fun b xs n e => k.lst b xs (h b n) e, fun b xs n e => k.dic b xs (h b n) e⟩
/-- another list, dict or the like is put at p -/
theorem Kn.put {N : Addr → Prop} {H G : Hp} {p : Addr} {o : HO} (k : Kn N H G) (n : ¬ N p) (h : ∀ xs, H p ≠ some (.tup xs)) : Kn N H (upd G p o) := by
  refine ⟨fun b xs e => ?_, fun b u hb e => ?_, fun b u hb e => ?_⟩
  · rw [upd_ne (fun z => h xs (by rw [← z]; exact e))]
    exact k.tup b xs e
  · rw [upd_ne (fun z => n (by rw [← z]; exact hb))]
    exact k.lst b u hb e
  · rw [upd_ne (fun z => n (by rw [← z]; exact hb))]
    exact k.dic b u hb e
/-- what was free is put at p -/
theorem Kn.new {N : Addr → Prop} {H G : Hp} {p : Addr} {o : HO} (k : Kn N H G) (h : H p = none) : Kn N H (upd G p o) := by
  refine ⟨fun b xs e => ?_, fun b u hb e => ?_, fun b u hb e => ?_⟩
  · rw [upd_ne (ne_of_none e h)]
    exact k.tup b xs e
  · rw [upd_ne (ne_of_none e h)]
    exact k.lst b u hb e
  · rw [upd_ne (ne_of_none e h)]
    exact k.dic b u hb e
mutual
theorem Dd.kn {N : Addr → Prop} {H G : Hp} (k : Kn N H G) : ∀ {x : Dt} {v : V}, Dd N H x v → Dd N G x v
  | _, _, .non => .non
  | _, _, .bl b => .bl b
  | _, _, .int i => .int i
  | _, _, .str x => .str x
  | _, _, .tup h t => .tup (k.tup _ _ h) (t.kn k)
  | _, _, .lst n h t => .lst n (k.lst _ _ n h) (t.kn k)
  | _, _, .dct n h => .dct n (k.dic _ _ n h)
theorem DdL.kn {N : Addr → Prop} {H G : Hp} (k : Kn N H G) : ∀ {xs : List Dt} {vs : List V}, DdL N H xs vs → DdL N G xs vs
  | _, _, .nil => .nil
  | _, _, .cons h t => .cons (h.kn k) (t.kn k)
end
mutual
/-- at fewer, or other places, where the heap has nothing elsewhere -/
theorem Dd.at {N M : Addr → Prop} {H : Hp} (k : ∀ b u, N b → H b = some u → M b) : ∀ {x : Dt} {v : V}, Dd N H x v → Dd M H x v
  | _, _, .non => .non
  | _, _, .bl b => .bl b
  | _, _, .int i => .int i
  | _, _, .str x => .str x
  | _, _, .tup h t => .tup h (t.at k)
  | _, _, .lst n h t => .lst (k _ _ n h) h (t.at k)
  | _, _, .dct n h => .dct (k _ _ n h) h
theorem DdL.at {N M : Addr → Prop} {H : Hp} (k : ∀ b u, N b → H b = some u → M b) : ∀ {xs : List Dt} {vs : List V}, DdL N H xs vs → DdL M H xs vs
  | _, _, .nil => .nil
  | _, _, .cons h t => .cons (h.at k) (t.at k)
end
/-- at any places -/
abbrev Any : Addr → Prop := fun _ => True
theorem Dd.any {N : Addr → Prop} {H : Hp} {x : Dt} {v : V} (h : Dd N H x v) : Dd Any H x v := h.at fun _ _ _ _ => trivial
theorem DdL.any {N : Addr → Prop} {H : Hp} {x : List Dt} {v : List V} (h : DdL N H x v) : DdL Any H x v := h.at fun _ _ _ _ => trivial
theorem Dd.same {N : Addr → Prop} {H G : Hp} {x : Dt} {v : V} (h : Dd N H x v) (s : Same H G) : Dd N G x v := h.kn (.of s)
theorem DdL.same {N : Addr → Prop} {H G : Hp} {x : List Dt} {v : List V} (h : DdL N H x v) (s : Same H G) : DdL N G x v := h.kn (.of s)
section
variable {N : Addr → Prop} {H : Hp}
theorem DdL.len : ∀ {xs : List Dt} {vs : List V}, DdL N H xs vs → xs.length = vs.length
  | _, _, .nil => rfl
  | _, _, .cons _ t => congrArg (· + 1) t.len
theorem DdL.app : ∀ {xs ys : List Dt} {vs ws : List V}, DdL N H xs vs → DdL N H ys ws → DdL N H (xs ++ ys) (vs ++ ws)
  | _, _, _, _, .nil, h => h
  | _, _, _, _, .cons h t, k => .cons h (t.app k)
theorem DdL.get : ∀ {xs : List Dt} {vs : List V} {i : Nat} {v : V}, DdL N H xs vs → vs[i]? = some v → ∃ x, xs[i]? = some x ∧ Dd N H x v
  | _, _, i, v, .nil, e => by simp at e
  | _, _, 0, v, .cons (x := x) (v := w) h t, e => ⟨x, rfl, by rw [← show w = v from Option.some.inj e]; exact h⟩
  | _, _, i + 1, v, .cons h t, e => DdL.get (i := i) t e
theorem DdL.get' : ∀ {xs : List Dt} {vs : List V} {i : Nat} {x : Dt}, DdL N H xs vs → xs[i]? = some x → ∃ v, vs[i]? = some v ∧ Dd N H x v
  | _, _, i, v, .nil, e => by simp at e
  | _, _, 0, v, .cons (x := w) (v := y) h t, e => ⟨y, rfl, by rw [← show w = v from Option.some.inj e]; exact h⟩
  | _, _, i + 1, v, .cons h t, e => DdL.get' (i := i) t e
theorem DdL.drop : ∀ {xs : List Dt} {vs : List V} (n : Nat), DdL N H xs vs → DdL N H (xs.drop n) (vs.drop n)
  | _, _, 0, h => h
  | _, _, n + 1, .nil => .nil
  | _, _, n + 1, .cons _ t => t.drop n
theorem DdL.take : ∀ {xs : List Dt} {vs : List V} (n : Nat), DdL N H xs vs → DdL N H (xs.take n) (vs.take n)
  | _, _, 0, h => .nil
  | _, _, n + 1, .nil => .nil
  | _, _, n + 1, .cons h t => .cons h (t.take n)
theorem DdL.rev : ∀ {xs : List Dt} {vs : List V}, DdL N H xs vs → DdL N H xs.reverse vs.reverse
  | _, _, .nil => .nil
  | _, _, .cons (x := x) (xs := xs) (v := v) (vs := vs) h t => by
    rw [List.reverse_cons, List.reverse_cons]
    exact t.rev.app (.cons h .nil)
theorem DdL.last : ∀ {xs : List Dt} {vs : List V}, DdL N H xs vs → vs ≠ [] → ∃ ys y ws w, xs = ys ++ [y] ∧ vs = ws ++ [w] ∧ DdL N H ys ws ∧ Dd N H y w
  | _, _, .nil, n => absurd rfl n
  | _, _, .cons (x := x) (v := v) h .nil, _ => ⟨[], x, [], v, rfl, rfl, .nil, h⟩
  | _, _, .cons (x := x) (v := v) h (.cons h' t'), _ => by
    obtain ⟨ys, y, ws, w, e1, e2, k, r⟩ := DdL.last (.cons h' t') (by simp)
    exact ⟨x :: ys, y, v :: ws, w, by rw [e1]; rfl, by rw [e2]; rfl, .cons h k, r⟩
theorem DdL.strs : ∀ (xs : List Str), DdL N H (xs.map Dt.str) (xs.map V.str)
  | [] => .nil
  | x :: xs => .cons (.str x) (DdL.strs xs)
theorem DdL.ints : ∀ (xs : List Int), DdL N H (xs.map Dt.int) (xs.map V.int)
  | [] => .nil
  | x :: xs => .cons (.int x) (DdL.ints xs)
end
/-! their classes -/
def Dt.cls : Dt → String
  | .non => "NoneType"
  | .bl _ => "bool"
  | .int _ => "int"
  | .str _ => "str"
  | .tup _ => "tuple"
  | .lst _ => "list"
  | .dct _ => "dict"
theorem Dd.ty {K : PySem.W.Frag} {N : Addr → Prop} {H : Hp} {x : Dt} {v : V} (h : Dd N H x v) : TyX K H v (.type x.cls) := by
  cases h with
  | non => exact .base .non
  | bl b => exact .base (.bl b)
  | int i => exact .base (.int i)
  | str x => exact .base (.str x)
  | tup h _ => exact .base (.tup h)
  | lst _ h _ => exact .base (.lst h)
  | dct _ h => exact .base (.dK h)
def Dt.isTup : Dt → Bool
  | .tup _ => true
  | _ => false
def Dt.isStr : Dt → Bool
  | .str _ => true
  | _ => false
def Dt.isBl : Dt → Bool
  | .bl _ => true
  | _ => false
def Dt.isInt : Dt → Bool
  | .bl _ => true
  | .int _ => true
  | _ => false
def Dt.isLst : Dt → Bool
  | .lst _ => true
  | _ => false
/-- isinstance of such a thing: the answers -/
theorem kTup (K : PySem.W.Frag) : ∀ x : Dt, PySem.W.kitOne K (.type x.cls) (.type "tuple") = some x.isTup := by
  intro x
  cases x <;> (refine kit_ty ?_; simp only [Dt.cls, Dt.isTup]; decide +kernel)
theorem kStr (K : PySem.W.Frag) : ∀ x : Dt, PySem.W.kitOne K (.type x.cls) (.type "str") = some x.isStr := by
  intro x
  cases x <;> (refine kit_ty ?_; simp only [Dt.cls, Dt.isStr]; decide +kernel)
theorem kBl (K : PySem.W.Frag) : ∀ x : Dt, PySem.W.kitOne K (.type x.cls) (.type "bool") = some x.isBl := by
  intro x
  cases x <;> (refine kit_ty ?_; simp only [Dt.cls, Dt.isBl]; decide +kernel)
theorem kInt (K : PySem.W.Frag) : ∀ x : Dt, PySem.W.kitOne K (.type x.cls) (.type "int") = some x.isInt := by
  intro x
  cases x <;> (refine kit_ty ?_; simp only [Dt.cls, Dt.isInt]; decide +kernel)
theorem kLst (K : PySem.W.Frag) : ∀ x : Dt, PySem.W.kitOne K (.type x.cls) (.type "list") = some x.isLst := by
  intro x
  cases x <;> (refine kit_ty ?_; simp only [Dt.cls, Dt.isLst]; decide +kernel)
/-! as data, shown -/
mutual
def Dt.toP : Dt → PyData
  | .non => .none
  | .bl b => .bool b
  | .int i => .int i
  | .str x => .str x
  | .tup xs => .tuple (Dt.toPs xs)
  | .lst xs => .list (Dt.toPs xs)
  | .dct kvs => .dict (dkp kvs)
def Dt.toPs : List Dt → List PyData
  | [] => []
  | x :: xs => x.toP :: Dt.toPs xs
end
section
variable {X : Cx} {pins : List (Addr × Obj)} {σ : L2.St} {H : Hp} {s : Shared} {N : Addr → Prop}
theorem reads_pairs {P : Program} {w : World} {h : Heap} : ∀ {kvs : List (Str × Int)} {vs : List (Key × Value)} {es : List DictEntry}, KV (dkv kvs) vs → Pairs (mixKind P w) es vs → ReadsAll h (es.map (·.key)) ((dkp kvs).map (·.1)) [] ∧ ReadsAll h (es.map (·.val)) ((dkp kvs).map (·.2)) []
  | [], _, _, r, p => by
    unfold KV at r
    cases r
    cases p
    exact ⟨.nil, .nil⟩
  | (x, i) :: kvs, _, _, r, p => by
    unfold KV at r
    cases r with
    | cons hh t =>
      cases p with
      | cons h1 h2 t2 =>
        rename_i q qs e es
        obtain ⟨a, b⟩ := reads_pairs (P := P) (w := w) (h := h) (kvs := kvs) (by unfold KV; exact t) t2
        obtain ⟨g1, tk, g2⟩ := hh
        have h1 : keyIs q.1 e.key = true := h1
        rw [← g1] at h1
        rcases keyIs_shape h1 with ⟨j, u, z, _⟩ | ⟨y, u, z, ek⟩
        · cases z
        cases z
        obtain ⟨k0, v0⟩ := e
        cases ek
        have ev := h2.trans g2
        dsimp only at ev
        subst ev
        exact ⟨.cons (.str _ u) a, .cons (as := []) (.int _ tk) b⟩
/-- a dict, as an object -/
theorem dct_obj (I : Inv X pins σ H s) {a : Addr} {kvs : List (Str × Int)} (h : H a = some (.dK (dkv kvs))) : ∃ o es n, s.heap.get? a = some o ∧ o.cls = .type "dict" ∧ o.data = .dict es n ∧ (a == sysModules) = false ∧ ReadsAll s.heap (es.toList.map (·.key)) ((dkp kvs).map (·.1)) [] ∧ ReadsAll s.heap (es.toList.map (·.val)) ((dkp kvs).map (·.2)) [] := by
  obtain ⟨_, low, vs, kv, o, es, ep, ho, hx, hd, _, pr, _⟩ := dk_of I.hok h
  obtain ⟨r1, r2⟩ := reads_pairs (h := s.heap) kv pr
  exact ⟨o, es, ep, ho, hx.1, hd, low, r1, r2⟩
mutual
theorem Dd.reads (I : Inv X pins σ H s) : ∀ {x : Dt} {v : V}, Dd N H x v → ∀ {u : Value}, RelV v u → ∃ as, Reads s.heap u x.toP as
  | _, _, .non, _, r => by
    cases r
    exact ⟨_, .none⟩
  | _, _, .bl b, _, r => by
    cases r
    exact ⟨_, .bool b⟩
  | _, _, .int i, _, r => by
    obtain ⟨t, rfl⟩ := r
    exact ⟨_, .int i t⟩
  | _, _, .str x, _, r => by
    obtain ⟨t, rfl⟩ := r
    exact ⟨_, .str x t⟩
  | _, _, .tup h t, _, r => by
    cases r
    obtain ⟨its, rv, ⟨o, ho, hc, n, hd⟩, _⟩ := I.tuple (SqT.of h)
    obtain ⟨as, ra⟩ := t.reads I rv
    exact ⟨_, .tuple ho hc hd ra⟩
  | _, _, .lst _ h t, _, r => by
    cases r
    obtain ⟨its, rv, ⟨o, n, ho, hc, _, hd⟩, _⟩ := I.list (SqL.of h)
    obtain ⟨as, ra⟩ := t.reads I rv
    exact ⟨_, .list ho hc hd ra⟩
  | _, _, .dct _ h, _, r => by
    cases r
    obtain ⟨o, es, n, ho, hc, hd, _, h4, h5⟩ := dct_obj I h
    exact ⟨_, .dict ho hc hd h4 h5⟩
theorem DdL.reads (I : Inv X pins σ H s) : ∀ {xs : List Dt} {vs : List V}, DdL N H xs vs → ∀ {us : List Value}, Vals vs us → ∃ as, ReadsAll s.heap us (Dt.toPs xs) as
  | _, _, .nil, _, r => by
    cases r
    exact ⟨_, .nil⟩
  | _, _, .cons h t, _, r => by
    cases r with
    | cons r1 r2 =>
      obtain ⟨as, ra⟩ := h.reads I r1
      obtain ⟨bs, rb⟩ := t.reads I r2
      exact ⟨_, .cons ra rb⟩
end
theorem shownAll_le {xs : List PyData} {n : Nat} (h : ∀ t ∈ PyData.shownAll xs, t.length ≤ n) : ∀ t ∈ PyData.shownAll xs, t.length ≤ n := h
mutual
theorem Dd.reprK (I : Inv X pins σ H s) : ∀ {x : Dt} {v : V}, Dd N H x v → ∀ {u : Value}, RelV v u → x.toP.showable = true → x.toP.shown.length ≤ sizeLine → ∃ bs, ReadAtMost s.heap x.toP.depth bs ∧ ReprK X.prog X.w bs s.heap x.toP.depth u x.toP.shown
  | _, _, .non, _, r, _, _ => by
    cases r
    exact ⟨[], (fun _ h => nomatch h), by simp only [Dt.toP, PyData.shown]; exact .of_is ReprIs.none _ _ _⟩
  | _, _, .bl b, _, r, _, _ => by
    cases r
    exact ⟨[], (fun _ h => nomatch h), by simp only [Dt.toP, PyData.shown]; exact .of_is (ReprIs.bool b) _ _ _⟩
  | _, _, .int i, _, r, hs, _ => by
    obtain ⟨t, rfl⟩ := r
    exact ⟨[], (fun _ h => nomatch h), by simp only [Dt.toP, PyData.shown]; exact .of_is (ReprIs.int t (by simpa [Dt.toP, PyData.showable] using hs)) _ _ _⟩
  | _, _, .str x, _, r, _, hz => by
    obtain ⟨t, rfl⟩ := r
    exact ⟨[], (fun _ h => nomatch h), by simp only [Dt.toP, PyData.shown]; exact .of_is (ReprIs.str x t (by simpa only [Dt.toP, PyData.shown] using hz)) _ _ _⟩
  | _, _, .tup (a := a) (xs := xs) h t, _, r, hs, hz => by
    cases r
    obtain ⟨its, rv, ⟨o, ho, hc, n, hd⟩, _⟩ := I.tuple (SqT.of h)
    have hz' : (tupleText (PyData.shownAll (Dt.toPs xs))).length ≤ sizeLine := by simpa only [Dt.toP, PyData.shown] using hz
    obtain ⟨as, ra⟩ := t.reads I rv
    obtain ⟨bs, hb, hk⟩ := t.reprK I rv (by simpa [Dt.toP, PyData.showable] using hs) (fun t ht => Nat.le_trans (tupleText_mem_le ht) hz')
    have rd : Reads s.heap (.ref a) (.tuple (Dt.toPs xs)) _ := .tuple ho hc hd ra
    have na : a ∉ bs := not_mem_of_deeper rd (by simp only [PyData.depth]; omega) hb
    have le : PyData.depthAll (Dt.toPs xs) ≤ (PyData.tuple (Dt.toPs xs)).depth := by simp only [PyData.depth]; omega
    exact ⟨a :: bs, ReadAtMost.cons rd le hb, by simp only [Dt.toP, PyData.depth, PyData.shown]; exact ReprK.tuple ho hc hd na hk⟩
  | _, _, .lst (a := a) (xs := xs) (vs := vs) _ h t, _, r, hs, hz => by
    cases r
    obtain ⟨its, rv, ⟨o, n, ho, hc, _, hd⟩, _⟩ := I.list (SqL.of h)
    have hz' : (listText (PyData.shownAll (Dt.toPs xs))).length ≤ sizeLine := by simpa only [Dt.toP, PyData.shown] using hz
    obtain ⟨as, ra⟩ := t.reads I rv
    obtain ⟨bs, hb, hk⟩ := t.reprK I rv (by simpa [Dt.toP, PyData.showable] using hs) (fun t ht => Nat.le_trans (listText_mem_le ht) hz')
    have rd : Reads s.heap (.ref a) (.list (Dt.toPs xs)) _ := .list ho hc hd ra
    have na : a ∉ bs := not_mem_of_deeper rd (by simp only [PyData.depth]; omega) hb
    have le : PyData.depthAll (Dt.toPs xs) ≤ (PyData.list (Dt.toPs xs)).depth := by simp only [PyData.depth]; omega
    refine ⟨a :: bs, ReadAtMost.cons rd le hb, ?_⟩
    simp only [Dt.toP, PyData.depth, PyData.shown]
    cases its with
    | nil =>
      cases rv
      cases t
      simp only [Dt.toPs, PyData.shownAll, listText_nil]
      exact ReprK.listEmpty ho hc hd
    | cons y l => exact ReprK.list ho hc hd na (by simpa using hk.length_eq) (fun i y e => hk.item i y (by simpa using e))
  | _, _, .dct (a := a) (kvs := kvs) _ h, _, r, hs, hz => by
    cases r
    obtain ⟨o, es, n, ho, hc, hd, low, h4, h5⟩ := dct_obj I h
    have rd : Reads s.heap (.ref a) (.dict (dkp kvs)) _ := .dict ho hc hd h4 h5
    have hz' : (dictText (PyData.shownKv (dkp kvs))).length ≤ sizeLine := by simpa only [Dt.toP, PyData.shown] using hz
    obtain ⟨hs1, hs2⟩ := PyData.showableKv_split (dkp kvs) (by simpa [Dt.toP, PyData.showable] using hs)
    obtain ⟨b1, hb1, k1⟩ := ReprAllK.of_readsAll (prog := X.prog) (w := X.w) h4 hs1 (fun _ hm => nomatch hm) (fun t ht => let ⟨p, hp, hl⟩ := PyData.shownKv_key_le _ t ht; Nat.le_trans hl (Nat.le_trans (dictText_mem_le hp) hz'))
    obtain ⟨b2, hb2, k2⟩ := ReprAllK.of_readsAll (prog := X.prog) (w := X.w) h5 hs2 (fun _ hm => nomatch hm) (fun t ht => let ⟨p, hp, hl⟩ := PyData.shownKv_val_le _ t ht; Nat.le_trans hl (Nat.le_trans (dictText_mem_le hp) hz'))
    have hb : ReadAtMost s.heap (PyData.depthKv (dkp kvs)) (b1 ++ b2) := (hb1.mono (PyData.depthAll_keys_le _)).append (hb2.mono (PyData.depthAll_vals_le _))
    have le : PyData.depthKv (dkp kvs) ≤ (PyData.dict (dkp kvs)).depth := by simp only [PyData.depth]; omega
    have hna : a ∉ b1 ++ b2 := not_mem_of_deeper rd (by simp only [PyData.depth]; omega) hb
    refine ⟨a :: (b1 ++ b2), ReadAtMost.cons rd le hb, ?_⟩
    simp only [Dt.toP, PyData.depth, PyData.shown, PyData.shownKv_eq]
    exact ReprK.dict ho hc hd low hna (ReprEntriesK.of_two es.toList _ _ (k1.more_le (fun b hb => List.mem_append_left _ hb) (PyData.depthAll_keys_le _)) (k2.more_le (fun b hb => List.mem_append_right _ hb) (PyData.depthAll_vals_le _)))
theorem DdL.reprK (I : Inv X pins σ H s) : ∀ {xs : List Dt} {vs : List V}, DdL N H xs vs → ∀ {us : List Value}, Vals vs us → PyData.showableAll (Dt.toPs xs) = true → (∀ t ∈ PyData.shownAll (Dt.toPs xs), t.length ≤ sizeLine) →
    ∃ bs, ReadAtMost s.heap (PyData.depthAll (Dt.toPs xs)) bs ∧ ReprAllK X.prog X.w bs s.heap (PyData.depthAll (Dt.toPs xs)) us (PyData.shownAll (Dt.toPs xs))
  | _, _, .nil, _, r, _, _ => by
    cases r
    exact ⟨[], (fun _ h => nomatch h), .nil⟩
  | _, _, .cons (x := x) (xs := xs) h t, _, r, hs, hz => by
    cases r with
    | cons r1 r2 =>
      have hs' : x.toP.showable = true ∧ PyData.showableAll (Dt.toPs xs) = true := by simpa [Dt.toPs, PyData.showableAll] using hs
      obtain ⟨as, ha, ka⟩ := h.reprK I r1 hs'.1 (hz _ (by simp [Dt.toPs, PyData.shownAll]))
      obtain ⟨bs, hb, kb⟩ := t.reprK I r2 hs'.2 (fun t ht => hz _ (by simp [Dt.toPs, PyData.shownAll, ht]))
      have m1 : x.toP.depth ≤ PyData.depthAll (Dt.toPs (x :: xs)) := by simp only [Dt.toPs, PyData.depthAll]; omega
      have m2 : PyData.depthAll (Dt.toPs xs) ≤ PyData.depthAll (Dt.toPs (x :: xs)) := by simp only [Dt.toPs, PyData.depthAll]; omega
      refine ⟨as ++ bs, (ha.mono m1).append (hb.mono m2), ?_⟩
      simp only [Dt.toPs, PyData.shownAll]
      exact .cons ((ka.more fun b hb => List.mem_append_left _ hb).level_le m1) (kb.more_le (fun b hb => List.mem_append_right _ hb) m2)
end
/-- it is shown: within the bounds -/
structure Shw (n : Nat) (x : Dt) : Prop where
  ok : x.toP.showable = true
  dp : x.toP.depth ≤ n
  sz : x.toP.shown.length ≤ sizeLine
def rShowU (n : Nat) : List V → Hp → VK → Prop := fun xs H Q => ∃ (v : V) (x : Dt), xs = [v] ∧ Dd Any H x v ∧ Shw n x ∧ Q (.str x.toP.shown) H
theorem call_showU {n : Nat} (g : Still X.A) (hu : X.A.units + (n + 1) < cLine) : CallR X (.builtin "repr") (rShowU n) := by
  intro pins s σ H xs us Q I r h
  obtain ⟨v, x, rfl, hd, sh, q⟩ := h
  cases r with
  | cons r1 r2 =>
    cases r2
    have done : ∀ (h' : Heap) (u tk : Tok), (∀ b o, s.heap.get? b = some o → h'.get? b = some o) → EP X pins σ Q (.str x.toP.shown u) { s with heap := h', toks := tk } := fun h' u tk hk => ⟨.str _, H, I.kept hk, ⟨u, rfl⟩, q⟩
    have dpx := sh.dp
    cases hd with
    | non =>
      cases r1
      exact PySem.P.repr_of_none (done s.heap _ _ fun _ _ e => e)
    | bl b =>
      cases r1
      exact PySem.P.repr_of_bool (by simpa only [Dt.toP, PyData.shown] using done s.heap _ _ fun _ _ e => e)
    | int i =>
      obtain ⟨t, rfl⟩ := r1
      exact PySem.P.repr_of_int (by simpa [Dt.toP, PyData.showable] using sh.ok) (by simpa only [Dt.toP, PyData.shown] using done s.heap _ _ fun _ _ e => e)
    | str y =>
      obtain ⟨t, rfl⟩ := r1
      exact PySem.P.repr_of_str (by simpa only [Dt.toP, PyData.shown] using done s.heap _ _ fun _ _ e => e) (by simpa only [Dt.toP, PyData.shown] using sh.sz)
    | tup h t =>
      rename_i a ys ws
      cases r1
      obtain ⟨its, rv, ⟨o, ho, hc, m, hd⟩, _⟩ := I.tuple (SqT.of h)
      have hz' : (tupleText (PyData.shownAll (Dt.toPs ys))).length ≤ sizeLine := by simpa only [Dt.toP, PyData.shown] using sh.sz
      obtain ⟨as, ra⟩ := t.reads I rv
      obtain ⟨bs, hb, hk⟩ := t.reprK I rv (by simpa [Dt.toP, PyData.showable] using sh.ok) (fun t ht => Nat.le_trans (tupleText_mem_le ht) hz')
      have rd : Reads s.heap (.ref a) (.tuple (Dt.toPs ys)) _ := .tuple ho hc hd ra
      have na : a ∉ bs := not_mem_of_deeper rd (by simp only [PyData.depth]; omega) hb
      have dp : PyData.depthAll (Dt.toPs ys) + 1 ≤ n := by simpa only [Dt.toP, PyData.depth, Nat.add_comm] using dpx
      exact call_repr_slot (by omega) ⟨o, ho, hc⟩ PySem.F.slot_tuple_repr (call_tuple_reprK ho hc hd na hk (A := X.A.in1) g (fun b _ => Clear.nil b) (by show X.A.units + 1 + _ < cLine; omega) (fun _ _ e => e) (fun h' u tk hk' => ⟨_, _, rfl, by simpa only [Dt.toP, PyData.shown] using done h' u tk hk'⟩) hz')
    | lst _ h t =>
      rename_i a ys ws _
      cases r1
      obtain ⟨its, rv, ⟨o, m, ho, hc, _, hd⟩, _⟩ := I.list (SqL.of h)
      have hz' : (listText (PyData.shownAll (Dt.toPs ys))).length ≤ sizeLine := by simpa only [Dt.toP, PyData.shown] using sh.sz
      obtain ⟨as, ra⟩ := t.reads I rv
      obtain ⟨bs, hb, hk⟩ := t.reprK I rv (by simpa [Dt.toP, PyData.showable] using sh.ok) (fun t ht => Nat.le_trans (listText_mem_le ht) hz')
      have rd : Reads s.heap (.ref a) (.list (Dt.toPs ys)) _ := .list ho hc hd ra
      have na : a ∉ bs := not_mem_of_deeper rd (by simp only [PyData.depth]; omega) hb
      have dp : PyData.depthAll (Dt.toPs ys) + 1 ≤ n := by simpa only [Dt.toP, PyData.depth, Nat.add_comm] using dpx
      cases its with
      | nil =>
        cases rv
        cases t
        exact call_repr_slot (by omega) ⟨o, ho, hc⟩ PySem.F.slot_list_repr.toG (call_list_repr_empty ⟨o, ho, hc⟩ ho hd ⟨_, _, rfl, by
          have z := done s.heap s.toks (s.toks + 1) fun _ _ e => e
          simp only [Dt.toP, Dt.toPs, PyData.shown, PyData.shownAll, listText_nil] at z
          exact z⟩)
      | cons y l =>
        exact call_repr_slot (by omega) ⟨o, ho, hc⟩ PySem.F.slot_list_repr.toG (call_list_reprK ho hc hd na (by simpa using hk.length_eq) (fun i y e => hk.item i y (by simpa using e)) (A := X.A.in1) g (fun b _ => Clear.nil b) (by show X.A.units + 1 + _ < cLine; omega) (fun _ _ e => e) (fun h' u tk hk' => ⟨_, _, rfl, by simpa only [Dt.toP, PyData.shown] using done h' u tk hk'⟩) hz')
    | dct _ h =>
      rename_i a kvs _
      cases r1
      obtain ⟨o, es, m, ho, hc, hd, low, h4, h5⟩ := dct_obj I h
      have rd : Reads s.heap (.ref a) (.dict (dkp kvs)) _ := .dict ho hc hd h4 h5
      have hz' : (dictText (PyData.shownKv (dkp kvs))).length ≤ sizeLine := by simpa only [Dt.toP, PyData.shown] using sh.sz
      obtain ⟨hs1, hs2⟩ := PyData.showableKv_split (dkp kvs) (by simpa [Dt.toP, PyData.showable] using sh.ok)
      obtain ⟨b1, hb1, k1⟩ := ReprAllK.of_readsAll (prog := X.prog) (w := X.w) h4 hs1 (fun _ hm => nomatch hm) (fun t ht => let ⟨p, hp, hl⟩ := PyData.shownKv_key_le _ t ht; Nat.le_trans hl (Nat.le_trans (dictText_mem_le hp) hz'))
      obtain ⟨b2, hb2, k2⟩ := ReprAllK.of_readsAll (prog := X.prog) (w := X.w) h5 hs2 (fun _ hm => nomatch hm) (fun t ht => let ⟨p, hp, hl⟩ := PyData.shownKv_val_le _ t ht; Nat.le_trans hl (Nat.le_trans (dictText_mem_le hp) hz'))
      have hb : ReadAtMost s.heap (PyData.depthKv (dkp kvs)) (b1 ++ b2) := (hb1.mono (PyData.depthAll_keys_le _)).append (hb2.mono (PyData.depthAll_vals_le _))
      have hna : a ∉ b1 ++ b2 := not_mem_of_deeper rd (by simp only [PyData.depth]; omega) hb
      have dp : PyData.depthKv (dkp kvs) + 1 ≤ n := by simpa only [Dt.toP, PyData.depth, Nat.add_comm] using dpx
      exact call_repr_slot (by omega) ⟨o, ho, hc⟩ PySem.F.slot_dict_repr (call_dict_reprK ho hc hd low hna (ReprEntriesK.of_two es.toList _ _ (k1.more_le (fun b hb => List.mem_append_left _ hb) (PyData.depthAll_keys_le _)) (k2.more_le (fun b hb => List.mem_append_right _ hb) (PyData.depthAll_vals_le _))) (A := X.A.in1) g (fun b _ => Clear.nil b) (by show X.A.units + 1 + _ < cLine; omega) (fun _ _ e => e) (fun h' u tk hk => ⟨_, _, rfl, by simpa only [Dt.toP, PyData.shown, PyData.shownKv_eq] using done h' u tk hk⟩) (by rw [← PyData.shownKv_eq]; exact hz'))
end
end Kv

namespace Kg
open PySem PySem.Spec PyProof.Rows L2 GxR
/-- a def whose code object is known -/
structure FunC (K : PySem.W.Frag) (x qual : Str) (st : Stmt) (f : Addr) (fd : FuncData) (c : Addr) : Prop where
  ex : ∃ (oc : Value) (od : Option Addr) (kV doc pm : Value) (an : Option Addr) (ct : Value) (osl : Array (Option Value)),
    fd = PySem.W.fnOf x qual (defArgs st) (defBody st) (defScope st) .none kV doc pm an (.ref c) ct ∧ K.lookup f = some ⟨oc, od, .func fd, osl⟩ ∧ PySem.W.codeIn K (.ref c) qual = true
section
variable {P : Program} {w : World} {K : PySem.W.Frag} {mg : Str → Option Value} {base : Heap}
theorem FunC.ok {x qual : Str} {st : Stmt} {f : Addr} {fd : FuncData} {c : Addr} {N ps : List Str} {k : Nat} {sp : Sp} (F : FunC K x qual st f fd c) (S : FnScope N ps (defScope st)) (len : ∀ vs H Q E, sp vs H Q E → vs.length = ps.length)
    (hbody : ∀ (A : Around) (outer : List Env) (s : Shared) (H : Hp) (vs : List V) (Q : VK) (E : XK), Room k (A.deeper (envOfC qual (defScope st) s.heap.objs.size f (.ref c))) → sp vs H Q E →
      ∃ t, PSs (cxOf CX0 P w K mg base N qual (defScope st) f (.ref c) A outer s H E).nox (defBody st) t ∧ t { nx := fun _ H' => Q .non H', rt := Q } (start N vs) H) : FnOk P w K mg base CX0 (k + 1) f fd ps sp := by
  obtain ⟨oc, od, kV, doc, pm, an, ct, osl, rfl, lk, hcd⟩ := F.ex
  refine fn_of lk hcd S len fun A outer s H vs Q E hr hsp => ?_
  obtain ⟨t, h, q⟩ := hbody A outer s H vs Q E hr hsp
  exact ⟨t, h.nox, q⟩
theorem funC_mk {x qual : Str} {st : Stmt} {f c : Addr} {oc : Value} {od an : Option Addr} {osl : Array (Option Value)} {kV doc pm ct : Value} (l : K.lookup f = some ⟨oc, od, .func (PySem.W.fnOf x qual (defArgs st) (defBody st) (defScope st) .none kV doc pm an (.ref c) ct), osl⟩)
    (h : PySem.W.codeIn K (.ref c) qual = true) : FunC K x qual st f (PySem.W.fnOf x qual (defArgs st) (defBody st) (defScope st) .none kV doc pm an (.ref c) ct) c := ⟨⟨oc, od, kV, doc, pm, an, ct, osl, rfl, l, h⟩⟩
end
def gxSB (N : List Str) (sc scope : Scope) (own : List Str) (caps : List (Str × Nat)) : Bool :=
  decide (scope.kind = .function) && !scope.isCoroutine && scope.names.all (fun y => !decide (y.2 = .cell)) && decide (scope.names.lookup (".0" : Str) = some NameKind.local) && decide ((own ++ caps.map (·.1)).Nodup) &&
  caps.all (fun p => decide (N[p.2]? = some p.1) && decide (scope.names.lookup p.1 = some .free)) && scope.names.all (fun y => !decide (y.2 = .free) || decide (sc.names.lookup y.1 = some .cell) || decide (sc.names.lookup y.1 = some .free)) && scope.names.all fun y => decide (scope.names.lookup y.1 = some y.2)
theorem gxS_by {N : List Str} {sc scope : Scope} {own : List Str} {caps : List (Str × Nat)} (h : gxSB N sc scope own caps = true) : GxS N sc scope own caps := by
  unfold gxSB at h
  simp only [Bool.and_eq_true, Bool.or_eq_true, Bool.not_eq_true', decide_eq_true_eq, decide_eq_false_iff_not, List.all_eq_true] at h
  obtain ⟨⟨⟨⟨⟨⟨⟨h1, h2⟩, h3⟩, h4⟩, h5⟩, h6⟩, h7⟩, h8⟩ := h
  refine ⟨h1, h2, h3, h4, h5, h6, fun y hy e => ?_, h8⟩
  rcases h7 y hy with (z | z) | z
  · exact absurd e z
  · exact .inl z
  · exact .inr z
/-! the tables of code objects -/
def TbS (T : List Addr) (H : Hp) : Prop := ∀ p ∈ T, TabG H p
/-- all but the tables stands; they are tables -/
def Sm (T : List Addr) (H G : Hp) : Prop := (∀ b u, b ∉ T → H b = some u → G b = some u) ∧ TbS T G
theorem TbS.same {T : List Addr} {H G : Hp} (t : TbS T H) (s : Same H G) : TbS T G := fun p hp => by
  obtain ⟨ps, h1, h2⟩ := t p hp
  exact ⟨ps, s _ _ h1, h2⟩
theorem Sm.refl {T : List Addr} {H : Hp} (t : TbS T H) : Sm T H H := ⟨fun _ _ _ e => e, t⟩
theorem Sm.of {T : List Addr} {H G : Hp} (s : Same H G) (t : TbS T H) : Sm T H G := ⟨fun b u _ e => s b u e, t.same s⟩
theorem Sm.trans {T : List Addr} {H G F : Hp} (a : Sm T H G) (b : Sm T G F) : Sm T H F := ⟨fun x u h e => b.1 x u h (a.1 x u h e), b.2⟩
theorem Sm.tab {T : List Addr} {H G : Hp} {p : Addr} (hp : p ∈ T) (t : TbS T H) (h : Tabbed p H G) : Sm T H G := by
  refine ⟨fun b u hb e => ?_, fun q hq => ?_⟩
  · rw [h.2 b (fun z => hb (by rw [z]; exact hp))]
    exact e
  · by_cases z : q = p
    · rw [z]
      exact h.1
    · obtain ⟨ps, h1, h2⟩ := t q hq
      exact ⟨ps, by rw [h.2 q z]; exact h1, h2⟩
theorem TbS.off {T : List Addr} {H : Hp} {b : Addr} {u : HO} (t : TbS T H) (e : H b = some u) (n : ∀ ps, u ≠ .tbl ps) : b ∉ T := fun hb => by
  obtain ⟨ps, h1, _⟩ := t b hb
  rw [e] at h1
  exact n ps (Option.some.inj h1)
theorem Sm.at {T : List Addr} {H G : Hp} (a : Sm T H G) (t : TbS T H) {b : Addr} {u : HO} (e : H b = some u) (n : ∀ ps, u ≠ .tbl ps) : G b = some u := a.1 b u (t.off e n) e
theorem Sm.free {T : List Addr} {H G : Hp} {p : Addr} (a : Sm T H G) (h : G p = none) : H p = none := by
  cases e : H p with
  | none => rfl
  | some u =>
    by_cases hp : p ∈ T
    · obtain ⟨ps, h1, _⟩ := a.2 p hp
      rw [h] at h1
      cases h1
    · rw [a.1 p u hp e] at h
      cases h
/-! all over a list, over a tuple -/
section
variable {K : PySem.W.Frag} {a : Addr} {xs : List V} {g : TG} {te : TE} {vs : List Nat} {σ0 : L2.St} {G : Hp} {Qe : Bool → Hp → Prop}
theorem all_list (Pv : Nat → Hp → Prop) (h0 : Pv 0 G) (hl : ∀ i H, i ≤ xs.length → Pv i H → SqL K H a xs)
    (hs : ∀ i x H, xs[i]? = some x → Pv i H → g x σ0 H fun σ2 H2 => wipe σ2 vs = σ0 ∧ te σ2 H2 fun y H4 => ∃ b, y = .bl b ∧ if b = true then Pv (i + 1) H4 else Qe false H4) (hd : ∀ H, Pv xs.length H → Qe true H) :
    ∃ W : Nat → Nat → Hp → Prop, (∃ m, W 0 m G) ∧ Turns (Itl K a) σ0 vs g te Qe W := by
  refine ⟨fun i m F => m = xs.length - i ∧ i ≤ xs.length ∧ Pv i F, ⟨_, rfl, Nat.zero_le _, h0⟩, fun i m F z => ?_⟩
  obtain ⟨rfl, hi, p⟩ := z
  have q := hl i F hi p
  by_cases lt : i < xs.length
  · refine .inr ⟨⟨xs, xs[i], q, List.getElem?_eq_getElem lt⟩, Pv (i + 1), fun F' p' => ⟨xs.length - (i + 1), by omega, rfl, lt, p'⟩, fun x F' y => ?_⟩
    obtain ⟨e, y⟩ := y
    subst e
    exact hs i x _ (y xs q) p
  · have e : i = xs.length := by omega
    subst e
    exact .inl ⟨⟨xs, q, Nat.le_refl _⟩, hd F p⟩
theorem all_tup (Pv : Nat → Hp → Prop) (h0 : Pv 0 G) (hl : ∀ i H, i ≤ xs.length → Pv i H → SqT K H a xs)
    (hs : ∀ i x H, xs[i]? = some x → Pv i H → g x σ0 H fun σ2 H2 => wipe σ2 vs = σ0 ∧ te σ2 H2 fun y H4 => ∃ b, y = .bl b ∧ if b = true then Pv (i + 1) H4 else Qe false H4) (hd : ∀ H, Pv xs.length H → Qe true H) :
    ∃ W : Nat → Nat → Hp → Prop, (∃ m, W 0 m G) ∧ Turns (Itt K a) σ0 vs g te Qe W := by
  refine ⟨fun i m F => m = xs.length - i ∧ i ≤ xs.length ∧ Pv i F, ⟨_, rfl, Nat.zero_le _, h0⟩, fun i m F z => ?_⟩
  obtain ⟨rfl, hi, p⟩ := z
  have q := hl i F hi p
  by_cases lt : i < xs.length
  · refine .inr ⟨⟨xs, xs[i], q, List.getElem?_eq_getElem lt⟩, Pv (i + 1), fun F' p' => ⟨xs.length - (i + 1), by omega, rfl, lt, p'⟩, fun x F' y => ?_⟩
    obtain ⟨e, y⟩ := y
    subst e
    exact hs i x _ (y xs q) p
  · have e : i = xs.length := by omega
    subst e
    exact .inl ⟨⟨xs, q, Nat.le_refl _⟩, hd F p⟩
/-- all over what walks -/
theorem all_it {J : It} {n : Nat} {I : Hp → Prop} {Y : Nat → Hp → V → Hp → Prop} (w : Walk J n I Y) (Pv : Nat → Hp → Prop) (h0 : Pv 0 G) (hl : ∀ i H, i ≤ n → Pv i H → I H)
    (hs : ∀ i x H H', i < n → Pv i H → Y i H x H' → g x σ0 H' fun σ2 H2 => wipe σ2 vs = σ0 ∧ te σ2 H2 fun y H4 => ∃ b, y = .bl b ∧ if b = true then Pv (i + 1) H4 else Qe false H4) (hd : ∀ H, Pv n H → Qe true H) :
    ∃ W : Nat → Nat → Hp → Prop, (∃ m, W 0 m G) ∧ Turns J σ0 vs g te Qe W := by
  refine ⟨fun i m F => m = n - i ∧ i ≤ n ∧ Pv i F, ⟨_, rfl, Nat.zero_le _, h0⟩, fun i m F z => ?_⟩
  obtain ⟨rfl, hi, p⟩ := z
  have q := hl i F hi p
  by_cases lt : i < n
  · exact .inr ⟨w.goes i F lt q, Pv (i + 1), fun F' p' => ⟨n - (i + 1), by omega, rfl, lt, p'⟩, fun x F' y => hs i x F F' lt p (w.yields i F x F' lt q y)⟩
  · have e : i = n := by omega
    subst e
    exact .inl ⟨w.stops F q, hd F p⟩
theorem Sm.kn {T : List Addr} {N : Addr → Prop} {H G : Hp} (a : Sm T H G) (t : TbS T H) : Kv.Kn N H G :=
  ⟨fun b xs e => a.at t e (fun ps z => by cases z), fun b xs _ e => a.at t e (fun ps z => by cases z), fun b xs _ e => a.at t e (fun ps z => by cases z)⟩
theorem Sm.new {T : List Addr} {H G : Hp} {p : Addr} {o : HO} (a : Sm T H G) (h : H p = none) (tb : TbS T H) : Sm T H (upd G p o) := by
  refine ⟨fun b u hb e => ?_, fun q hq => ?_⟩
  · rw [upd_ne (ne_of_none e h)]
    exact a.1 b u hb e
  · obtain ⟨ps, h1, h2⟩ := a.2 q hq
    obtain ⟨ps0, h10, _⟩ := tb q hq
    exact ⟨ps, by rw [upd_ne (ne_of_none h10 h)]; exact h1, h2⟩
end
end Kg

/-! dict(..) of a tuple of pairs, a tuple of two turned about -/
namespace Kt
open PySem PySem.Spec PyProof.Rows L2
section
variable {X : Cx}
/-- tuple(l): the object is known -/
theorem call_tupleF : CallR X (.type "tuple") (fun xs H Q => ∃ p ys, xs = [.ref p] ∧ SqL X.K H p ys ∧ ∀ l (o : Obj), H l = none → o.dict = none → o.cls = .type "tuple" → Q (.ref l) (upd H l (.frz o (.tup ys)))) := by
  intro pins s σ H xs us Q I r h
  obtain ⟨p, ys, rfl, hq, q⟩ := h
  obtain ⟨u, rfl, rx⟩ := vals1 r
  cases rx
  obtain ⟨its, r', pl, hz⟩ := I.list hq
  have hlen := r'.length
  refine call_tuple_list pl.isList (fun h' kp => ?_) (by simp only [List.size_toArray] <;> omega)
  have I1 : Inv X pins σ H { s with heap := h' } := I.kept (t' := s.toks) kp
  have I2 : Inv X pins σ (upd H h'.objs.size (.frz { cls := .type "tuple", data := .seq its.toArray } (.tup ys))) { s with heap := h'.push { cls := .type "tuple", data := .seq its.toArray } } :=
    I1.laid (t' := s.toks) (fun b o e => Heap.get?_push_of_some _ e) (Nat.le_refl _) (show ObjOk X.prog X.w _ _ _ (.frz _ (.tup ys)) from ⟨Heap.get?_push_size _ rfl, hz, its, r', IsTup.new _ _⟩)
  exact ⟨.ref h'.objs.size, _, I2, rfl, q _ _ (I1.hok.fresh (Nat.le_refl _)) rfl rfl⟩
/-- () -/
def tTup0 : TE := fun _ H Q => ∀ p (o : Obj), H p = none → o.dict = none → o.cls = .type "tuple" → Q (.ref p) (upd H p (.frz o (.tup [])))
theorem pe_tup0 {x1 : Nat} {pos : Pos} : PE X (.Tuple [] x1 pos) tTup0 := by
  refine ⟨fun pins s σ H Q I h => ?_⟩
  refine wpAny_Tuple_spliced (thn ((pa_nil (X := X)).run pos pins s σ H (fun xs H1 => xs = [] ∧ H1 = H) I ⟨rfl, rfl⟩) fun us s1 ⟨xs, H1, I1, r, e1, e2⟩ => ?_)
  subst e1 e2
  cases r
  refine ⟨Nat.zero_le _, ?_⟩
  refine ⟨.ref s1.heap.objs.size, _, I1.laid (t' := s1.toks) (o := .frz { cls := .type "tuple", data := .seq ([] : List Value).toArray } (.tup [])) (fun b u e => Heap.get?_push_of_some _ e) (Nat.le_refl _) ?_, rfl, h _ _ (I1.hok.fresh (Nat.le_refl _)) rfl rfl⟩
  exact ⟨Heap.get?_push_size _ rfl, Nat.zero_le _, [], .nil, IsTup.new _ _⟩
theorem raws_of {pins : List (Addr × Obj)} {σ : L2.St} {H : Hp} {s : Shared} (I : Inv X pins σ H s) : ∀ {ps : List Addr} {kvs : List (Key × V)}, Paired (fun p kv => SqT X.K H p [kV kv.1, kv.2]) ps kvs →
    ∃ (prs : List (Key × Value)) (raws : List (Value × Value)), KV kvs prs ∧ prs.length = ps.length ∧ raws.length = ps.length ∧ ∀ (j : Nat) (u v : Value), raws[j]? = some (u, v) → ∃ (b : Addr) (k : Key), ps[j]? = some b ∧ IsTup s.heap b #[u, v] ∧ prs[j]? = some (k, v) ∧ keyIs k u = true
  | _, _, .nil => ⟨[], [], .nil, rfl, rfl, fun j u v e => by simp at e⟩
  | _, _, .cons (a := p) (b := kv) h t => by
    obtain ⟨prs, raws, r, hl, hl2, hp⟩ := raws_of I t
    obtain ⟨its, rv, ht, _⟩ := I.tuple h
    obtain ⟨u, y, ei, ru, ry⟩ := vals2 rv
    subst ei
    refine ⟨(kv.1, y) :: prs, (u, y) :: raws, .cons ⟨rfl, ry⟩ r, by rw [List.length_cons, List.length_cons, hl], by rw [List.length_cons, List.length_cons, hl2], fun j u' v' e => ?_⟩
    cases j with
    | zero =>
      have e' : (u, y) = (u', v') := Option.some.inj e
      cases e'
      exact ⟨p, kv.1, rfl, ht, rfl, kV_is (P := X.prog) (w := X.w) ru⟩
    | succ j =>
      obtain ⟨b, k, e1, e2, e3, e4⟩ := hp j u' v' (by simpa using e)
      exact ⟨b, k, by simpa using e1, e2, by simpa using e3, e4⟩
/-- dict(t) of a tuple of pairs -/
theorem call_dictF (hcalm : X.calm = true) : CallR X (.type "dict") (fun xs H Q => ∃ (a : Addr) (o : Obj) (ps : List Addr) (kvs : List (Key × V)), xs = [.ref a] ∧ H a = some (.frz o (.tup (ps.map V.ref))) ∧ o.dict = none ∧ o.cls = .type "tuple" ∧ Paired (fun p kv => SqT X.K H p [kV kv.1, kv.2]) ps kvs ∧
    ∀ p, H p = none → Q (.ref p) (upd H p (.dK (mergeK [] kvs)))) := by
  intro pins s σ H xs us Q I r q
  obtain ⟨a, o, ps, kvs, ex, hq, hod, hoc, hp, q⟩ := q
  subst ex
  obtain ⟨u, eu, rx⟩ := vals1 r
  subst eu
  cases rx
  obtain ⟨ho, hz, its, rv, o2, ho2, hc2, n2, hdat⟩ := I.hok a _ hq
  rw [ho] at ho2
  cases ho2
  have ei := refs_at rv
  subst ei
  rw [List.length_map] at hz
  obtain ⟨prs, raws, rel, hl, hl2, hpr⟩ := raws_of I hp
  have PA := PairArg.tuple (prog := X.prog) (w := X.w) a (ps.map Value.ref).toArray (fun j => (ps[j]?).getD 0) raws
  refine PySem.call_dict_pairs (knd := mixKind X.prog X.w) (kvs := prs) PA (I.ok.hd hcalm) ⟨⟨o, n2, ho, hoc, hod, hdat⟩, by simp [hl2], fun j k v e => ?_⟩ ⟨by rw [hl, hl2], fun i key v e => ?_⟩ (by rw [hl2]; exact hz) fun h' tk hd' k => ?_
  · obtain ⟨b, kk, e1, e2, e3, e4⟩ := hpr j k v e
    refine ⟨by simp [e1], .inl ?_⟩
    show s.heap.IsTuple ((ps[j]?).getD 0) #[k, v]
    rw [e1]
    exact e2
  · obtain ⟨b, kk, e1, e2, e3, e4⟩ := hpr i key v e
    exact ⟨kk, e3, e4⟩
  · have hm : (s.heap.objs.size == sysModules) = false := beq_eq_false_iff_ne.mpr (Nat.ne_of_gt I.big)
    have hlen : (mergeK [] kvs).length ≤ sizeLine := by
      refine Nat.le_trans (length_mergeK kvs []) ?_
      rw [List.length_nil, Nat.zero_add, rel.length, hl]
      exact hz
    exact ⟨.ref s.heap.objs.size, upd H s.heap.objs.size (.dK (mergeK [] kvs)), I.laid (t' := tk) (fun b o e => k b o (by simp) e) (Nat.le_refl _) (show ObjOk X.prog X.w _ _ _ (.dK (mergeK [] kvs)) from ⟨hlen, hm, merged [] prs, KV.merge rel .nil, hd'⟩), rfl, q _ (I.hok.fresh (Nat.le_refl _))⟩
end
/-! t[::-1], t of two -/
section
variable {prog : Program} {w : World} {A : Around} {E : Value → Shared → Prop} {s : Shared}
theorem getItem_two {t sl : Addr} {x y vl vu vs : Value} {Q : Value → Shared → Prop} (ht : IsTup s.heap t #[x, y]) (hs : s.heap.IsSliceOf sl vl vu vs) (pl : IsPart vl none) (pu : IsPart vu none) (ps : IsPart vs (some (-1)))
    (h : Q (.ref s.heap.objs.size) { s with heap := s.heap.push { cls := .type "tuple", data := .seq #[y, x] } }) : wpAny (model prog w) A (getItem (.ref t) (.ref sl)) Q E s := by
  have htake : sizeOk (.seq #[y, x]) := by
    show 2 ≤ sizeLine
    decide
  obtain ⟨os, hos, hcs, hds⟩ := id hs
  have hTs : s.TypeIs (.ref sl) "slice" := ⟨os, hos, hcs⟩
  unfold getItem
  try with_reducible refine wpAny_holding ?_
  first | refine wpAny_bind (wpAny_pure ?_) | skip
  refine wpAny_bind (wpAny_sequenceKey ht.typeIs (by decide) ?_)
  refine wpAny_bind (wpAny_callSpecial?_slot (name := Str.ofString "__getitem__") ht.typeIs PyProof.Rows.slot_tuple_getitem
    (wpAny_call_entry PyProof.Rows.slot_tuple_getitem ht.typeIs entry_tuple_getitem ?_ (args_tuple_getitem _ _)))
  show wpAny _ _ (Builtin.Tuple.tupleItemsOf (.ref t) >>= _) _ _ s
  refine wpAny_bind (tupleItemsOf_ ht ?_)
  refine wpAny_bind (wpAny_typeOf hTs ?_)
  rw [if_pos (by decide)]
  refine wpAny_bind ?_
  unfold Builtin.Slice.sliceApplied Builtin.Slice.sliceFields
  refine wpAny_bind (wpAny_bind (wpAny_field hos hds (x := vl) rfl (wpAny_bind (wpAny_field hos hds (x := vu) rfl (wpAny_bind (wpAny_field hos hds (x := vs) rfl (wpAny_pure ?_)))))))
  refine wpAny_bind (HT.slicePart_ ps ?_)
  show wpAny _ _ (if ((-1 : Int) == 0) = true then _ else _) _ _ s
  rw [if_neg (by decide)]
  refine wpAny_bind (HT.slicePart_ pl (wpAny_bind (HT.slicePart_ pu (wpAny_bind (wpAny_pure ?_)))))
  refine wpAny_pure ?_
  show wpAny _ _ (if (((1 : Int) == 0 && (-1 : Int) == 1 && (2 : Nat) == 2) = true) then _ else _) _ _ s
  rw [if_neg (by decide)]
  generalize hA : (List.filterMap _ (List.range _)).toArray = arr
  have eA : arr = #[y, x] := by
    rw [← hA]
    first
      | rfl
      | kernel_rfl
      | with_unfolding_all rfl
  subst eA
  show wpAny _ _ (Builtin.Tuple.tupleExact #[y, x] >>= fun v => ret v) _ _ s
  have e : ((List.range 2).filterMap fun (m : Nat) => (#[x, y] : Array Value)[((1 : Int) + (m : Int) * (-1)).toNat]?).toArray = #[y, x] := rfl
  first
    | exact wpAny_bind (m := Builtin.Tuple.tupleExact _) (wpAny_newObj_type (wpAny_pure ⟨_, rfl, wpAny_pure h⟩) htake)
    | exact wpAny_bind (m := Builtin.Tuple.tupleExact _) (wpAny_newObj_type (wpAny_bind (wpAny_pure (wpAny_pure ⟨_, rfl, wpAny_pure h⟩))) htake)
    | exact wpAny_bind (wpAny_bind (m := Builtin.Tuple.tupleExact _) (wpAny_newObj_type (wpAny_pure (wpAny_pure ⟨_, rfl, wpAny_pure h⟩)) htake))
    | exact wpAny_bind (wpAny_bind (m := Builtin.Tuple.tupleExact _) (wpAny_newObj_type (wpAny_pure ⟨_, rfl, wpAny_pure h⟩) htake))
end
section
variable {X : Cx}
def tRev2 (K : PySem.W.Frag) (te : TE) : TE := fun σ H Q => te σ H fun x H1 => ∃ a y z, x = .ref a ∧ SqT K H1 a [y, z] ∧ ∀ p, H1 p = none → Q (.ref p) (upd H1 p (.tup [z, y]))
theorem pe_rev2 {e : Expr} {te : TE} {k : Nat} {p1 p2 p3 pos : Pos} (he : PE X e te) : PE X (.Subscript e (.Slice none none (some (.UnaryOp .USub (.Constant (.int 1) k p1) p2)) p3) pos) (tRev2 X.K te) := by
  refine ⟨fun pins s σ H Q I h => ?_⟩
  refine Subscript_ (thn (he.run pins s σ H _ I h) fun v s1 ⟨x, H1, I1, r1, q1⟩ => ?_)
  obtain ⟨a, y, z, ex, hx, q⟩ := q1
  subst ex
  cases r1
  have hst : PO X (some (.UnaryOp .USub (.Constant (.int 1) k p1) p2)) (tPart (tUn (rU fun i => .int (-i)) (tC (.int 1)))) := po_some (pe_un un_neg pe_int)
  refine wpAny_Slice (thn (po_none.run pins s1 σ H1 (fun o H2 => o = none ∧ H2 = H1) I1 ⟨rfl, rfl⟩) fun vl s2 ⟨l, H2, I2, pl, el, e2⟩ => ?_)
  subst el e2
  refine thn (po_none.run pins s2 σ H2 (fun o H3 => o = none ∧ H3 = H2) I2 ⟨rfl, rfl⟩) fun vu s3 ⟨u, H3, I3, pu, eu, e3⟩ => ?_
  subst eu e3
  refine thn (hst.run pins s3 σ H3 (fun o H4 => o = some (-1) ∧ H4 = H3) I3 ⟨1, rfl, -1, rfl, rfl, rfl⟩) fun vs s4 ⟨o, H4, I4, ps, eo, e4⟩ => ?_
  subst eo e4
  have I5 : Inv X pins σ H4 { s4 with heap := s4.heap.push { cls := .type "slice", data := .fields #[vl, vu, vs] } } := I4.kept (t' := s4.toks) fun b ob q => Heap.get?_push_of_some _ q
  obtain ⟨its, r, ht, hz⟩ := I5.tuple hx
  obtain ⟨yv, zv, ei, ry, rz⟩ := vals2 r
  subst ei
  show wpAny (model X.prog X.w) X.A (subscriptTail e (.Slice none none (some (.UnaryOp .USub (.Constant (.int 1) k p1) p2)) p3) (.ref a) (.ref s4.heap.objs.size)) (EP X pins σ Q) X.xe { s4 with heap := s4.heap.push { cls := .type "slice", data := .fields #[vl, vu, vs] } }
  refine tail_any (ops := [.ref a, .ref s4.heap.objs.size]) ht.typeIs (PyProof.Rows.slot_tuple_getitem.lookup) ?_ (by with_unfolding_all rfl)
  refine getItem_two ht (Heap.IsSliceOf.new _ vl vu vs) pl pu ps ?_
  refine ⟨.ref _, _, I5.laid (t' := s4.toks) (o := .tup [z, y]) (fun b ob q => Heap.get?_push_of_some _ q) (Nat.le_refl _) ?_, rfl, q _ (I5.hok.fresh (Nat.le_refl _))⟩
  exact ⟨by show 2 ≤ sizeLine; decide, [zv, yv], .cons rz (.cons ry .nil), IsTup.new _ _⟩
end
end Kt

/-! further rules: == of tuples by texts, enumerate of a tuple, a text many times, a tuple turned about -/
namespace Kv
open PySem PySem.Spec PyProof.Rows L2 Kf
theorem vals_at : ∀ {xs : List V} {us : List Value} {i : Nat} (h : i < us.length), Vals xs us → ∃ x, xs[i]? = some x ∧ RelV x us[i]
  | _, _, i, h, .nil => absurd h (Nat.not_lt_zero _)
  | _, _, 0, h, .cons r t => ⟨_, rfl, r⟩
  | _, _, i + 1, h, .cons r t => by
    obtain ⟨x, e, q⟩ := vals_at (i := i) (Nat.lt_of_succ_lt_succ h) t
    exact ⟨x, e, q⟩
/-- at places that both have stand texts -/
def BothTxt (xs ys : List V) : Prop := ∀ (i : Nat) (u v : V), xs[i]? = some u → ys[i]? = some v → ∃ a b : Str, u = .str a ∧ v = .str b
def rEqTT (K : PySem.W.Frag) : R2 := fun x y H Q => ∃ (a b : Addr) (xs ys : List V), x = .ref a ∧ y = .ref b ∧ SqT K H a xs ∧ SqT K H b ys ∧ BothTxt xs ys ∧ Q (.bl (decide (xs = ys))) H
theorem op_eqTT {X : Cx} (hu : X.A.units + 64 < cLine) : OpR X (compareOp .Eq) (rEqTT X.K) := by
  intro pins s σ H x y v u Q I rx ry h
  obtain ⟨a, b, xs, ys, rfl, rfl, ha, hb, bt, q⟩ := h
  cases rx
  cases ry
  obtain ⟨is, r1, ⟨o1, h1, c1, n1, d1⟩, _⟩ := I.tuple ha
  obtain ⟨js, r2, ⟨o2, h2, c2, n2, d2⟩, _⟩ := I.tuple hb
  have l1 := r1.length
  have l2 := r2.length
  refine PySem.SeqAt.eq_tupleAt (e := fun i => decide (xs[i]? = ys[i]?)) ⟨o1, h1, c1, n1, d1⟩ ⟨o2, h2, c2, n2, d2⟩ (by omega) (fun j j1 j2 => ?_) ?_
  · have j1' : j < is.length := by simpa using j1
    have j2' : j < js.length := by simpa using j2
    obtain ⟨p, ep, rp⟩ := vals_at j1' r1
    obtain ⟨p', ep', rp'⟩ := vals_at j2' r2
    obtain ⟨sa, sb, rfl, rfl⟩ := bt j p p' ep ep'
    obtain ⟨t1, e1⟩ := rp
    obtain ⟨t2, e2⟩ := rp'
    have z := PySem.SeqAt.EqAt.str_str (A := X.A.in1) (s := s) sa t1 sb t2
    simp only [List.getElem_toArray, e1, e2, ep, ep']
    have e : decide (some (V.str sa) = some (V.str sb)) = (sa == sb) := by
      by_cases c : sa = sb
      · subst c
        simp
      · have : ¬ some (V.str sa) = some (V.str sb) := fun z => c (V.str.inj (Option.some.inj z))
        rw [decide_eq_false this]
        exact (beq_eq_false_iff_ne.mpr c).symm
    rw [e]
    exact z
  · have e : ((List.range (min is.toArray.size js.toArray.size)).all (fun i => decide (xs[i]? = ys[i]?)) && is.toArray.size == js.toArray.size) = decide (xs = ys) := by
      rw [List.size_toArray, List.size_toArray, ← l1, ← l2]
      by_cases c : xs = ys
      · subst c
        simp
      · rw [decide_eq_false c]
        by_cases cl : xs.length = ys.length
        · rw [Bool.and_eq_false_iff]
          left
          rw [← Bool.not_eq_true, List.all_eq_true]
          intro all
          refine c (List.ext_getElem? fun i => ?_)
          by_cases hi : i < xs.length
          · exact of_decide_eq_true (all i (List.mem_range.mpr (by omega)))
          · rw [List.getElem?_eq_none (by omega), List.getElem?_eq_none (by omega)]
        · rw [Bool.and_eq_false_iff]
          right
          exact beq_eq_false_iff_ne.mpr cl
    rw [e]
    exact ⟨.bl _, H, I, rfl, q⟩
/-! a text many times -/
theorem fold_app : ∀ (l : List (Array Nat)) (acc : Array Nat), (l.foldl (· ++ ·) acc).toList = acc.toList ++ (l.map Array.toList).flatten
  | [], acc => by simp
  | x :: l, acc => by
    rw [List.foldl_cons, fold_app l]
    simp [Array.toList_append, List.append_assoc]
theorem mul_cps (z : Str) (n : Nat) : (∀ c ∈ (Txt.mul z (n : Int)).cps.toList, c ∈ z.cps.toList) ∧ (Txt.mul z (n : Int)).cps.toList.length ≤ z.cps.toList.length * n := by
  unfold Txt.mul
  by_cases h1 : (n : Int) < 1
  · rw [if_pos h1]
    exact ⟨fun c h => absurd h (by simp [Str.empty]), by simp [Str.empty]⟩
  rw [if_neg h1]
  by_cases h2 : ((n : Int) == 1 || z.length == 0) = true
  · rw [if_pos h2]
    exact ⟨fun c h => h, Nat.le_mul_of_pos_right _ (by omega)⟩
  rw [if_neg h2]
  show (∀ c ∈ ((List.replicate (n : Int).toNat z.cps).foldl (· ++ ·) #[]).toList, c ∈ z.cps.toList) ∧ ((List.replicate (n : Int).toNat z.cps).foldl (· ++ ·) #[]).toList.length ≤ _
  rw [fold_app, Int.toNat_natCast, List.map_replicate]
  refine ⟨fun c h => ?_, ?_⟩
  · have h' : c ∈ (List.replicate n z.cps.toList).flatten := by simpa using h
    obtain ⟨l, hl, hc⟩ := List.mem_flatten.mp h'
    rw [(List.mem_replicate.mp hl).2] at hc
    exact hc
  · have e : ((#[] : Array Nat).toList ++ (List.replicate n z.cps.toList).flatten).length = n * z.cps.toList.length := by simp
    rw [e, Nat.mul_comm]
    exact Nat.le_refl _
def rMulS : R2 := fun x y H Q => ∃ (z : Str) (n : Nat), x = .str z ∧ y = .int (n : Int) ∧ n ≤ 1000 ∧ z.length ≤ sizeLine ∧ z.length * n ≤ sizeLine ∧ Q (.str (Txt.mul z (n : Int))) H
theorem op_mulS {X : Cx} : OpR X (binaryOp .Mult) rMulS := by
  intro pins s σ H x y v u Q I rx ry h
  obtain ⟨z, n, rfl, rfl, hn, hz0, hz1, q⟩ := h
  have hz : z.length ≤ 16777216 := hz0
  obtain ⟨t1, rfl⟩ := rx
  obtain ⟨t2, rfl⟩ := ry
  refine SB.mul (x := z) (n := (n : Int)) ⟨?_, fun h1 _ => ?_, fun h1 _ => ?_⟩ fun t' k => ⟨.str _, H, I.tok _, ⟨t', rfl⟩, q⟩
  · have a : decide ((n : Int) < -(2 ^ 63 : Int)) = false := decide_eq_false (by omega)
    have b : decide ((n : Int) ≥ 2 ^ 63) = false := decide_eq_false (by omega)
    rw [a, b]
    rfl
  · have h0 : (0 : Int) < (n : Int) := by omega
    have h3 : (16777216 : Int) ≤ (2 ^ 63 - 1) / (n : Int) := by
      rw [Int.le_ediv_iff_mul_le h0]
      omega
    omega
  · have le : z.length * (n : Int).toNat ≤ 16777216 := by
      rw [Int.toNat_natCast]
      exact hz1
    unfold Builtin.Str.tooLong
    exact decide_eq_false (by have : sizeLine = 16777216 := rfl; omega)
/-! a tuple turned about -/
theorem fm_congr {α β : Type} {f g : α → Option β} : ∀ {l : List α}, (∀ x ∈ l, f x = g x) → l.filterMap f = l.filterMap g
  | [], _ => rfl
  | x :: l, h => by
    rw [List.filterMap_cons, List.filterMap_cons, h x List.mem_cons_self, fm_congr fun y hy => h y (List.mem_cons_of_mem _ hy)]
section
variable {prog : Program} {w : World} {A : Around} {E : Value → Shared → Prop} {s : Shared}
theorem getItem_back {t sl : Addr} {its : Array Value} {vl vu vs : Value} {Q : Value → Shared → Prop} (ht : IsTup s.heap t its) (hz : its.size ≤ sizeLine) (hs : s.heap.IsSliceOf sl vl vu vs) (pl : IsPart vl none) (pu : IsPart vu none) (ps : IsPart vs (some (-1)))
    (h : Q (.ref s.heap.objs.size) { s with heap := s.heap.push { cls := .type "tuple", data := .seq its.toList.reverse.toArray } }) : wpAny (model prog w) A (getItem (.ref t) (.ref sl)) Q E s := by
  have htake : sizeOk (.seq its.toList.reverse.toArray) := by
    show its.toList.reverse.toArray.size ≤ sizeLine
    simpa using hz
  obtain ⟨os, hos, hcs, hds⟩ := id hs
  have hTs : s.TypeIs (.ref sl) "slice" := ⟨os, hos, hcs⟩
  unfold getItem
  try with_reducible refine wpAny_holding ?_
  first | refine wpAny_bind (wpAny_pure ?_) | skip
  refine wpAny_bind (wpAny_sequenceKey ht.typeIs (by decide) ?_)
  refine wpAny_bind (wpAny_callSpecial?_slot (name := Str.ofString "__getitem__") ht.typeIs PyProof.Rows.slot_tuple_getitem
    (wpAny_call_entry PyProof.Rows.slot_tuple_getitem ht.typeIs entry_tuple_getitem ?_ (args_tuple_getitem _ _)))
  show wpAny _ _ (Builtin.Tuple.tupleItemsOf (.ref t) >>= _) _ _ s
  refine wpAny_bind (tupleItemsOf_ ht ?_)
  refine wpAny_bind (wpAny_typeOf hTs ?_)
  rw [if_pos (by decide)]
  refine wpAny_bind ?_
  unfold Builtin.Slice.sliceApplied Builtin.Slice.sliceFields
  refine wpAny_bind (wpAny_bind (wpAny_field hos hds (x := vl) rfl (wpAny_bind (wpAny_field hos hds (x := vu) rfl (wpAny_bind (wpAny_field hos hds (x := vs) rfl (wpAny_pure ?_)))))))
  refine wpAny_bind (HT.slicePart_ ps ?_)
  show wpAny _ _ (if ((-1 : Int) == 0) = true then _ else _) _ _ s
  rw [if_neg (by decide)]
  refine wpAny_bind (HT.slicePart_ pl (wpAny_bind (HT.slicePart_ pu (wpAny_bind (wpAny_pure ?_)))))
  refine wpAny_pure ?_
  have en : Builtin.Slice.slicePlaces ((its.size : Int) - 1) (-1) (-1) = its.size := by
    unfold Builtin.Slice.slicePlaces
    simp only [show ¬ ((-1 : Int) > 0) by decide, if_false, show (- -1 : Int) = 1 by decide, Int.ediv_one]
    split <;> omega
  show wpAny _ _ (if ((((its.size : Int) - 1) == 0 && (-1 : Int) == 1 && Builtin.Slice.slicePlaces ((its.size : Int) - 1) (-1) (-1) == its.size) = true) then _ else _) _ _ s
  rw [if_neg (by simp)]
  generalize hA : (List.filterMap _ (List.range _)).toArray = arr
  have hA' : (List.filterMap (fun k : Nat => its[(((its.size : Int) - 1) + (k : Int) * (-1)).toNat]?) (List.range (Builtin.Slice.slicePlaces ((its.size : Int) - 1) (-1) (-1)))).toArray = arr := hA
  have eA : arr = its.toList.reverse.toArray := by
    rw [← hA', en]
    have e : List.filterMap (fun k : Nat => its[(((its.size : Int) - 1) + (k : Int) * (-1)).toNat]?) (List.range its.size) = List.filterMap (its[·]?) ((List.range its.size).map fun k => its.size - 1 - k) := by
      rw [List.filterMap_map]
      refine fm_congr fun k hk => ?_
      have := List.mem_range.mp hk
      show its[(((its.size : Int) - 1) + (k : Int) * (-1)).toNat]? = its[its.size - 1 - k]?
      have e2 : (((its.size : Int) - 1) + (k : Int) * (-1)).toNat = its.size - 1 - k := by omega
      rw [e2]
    rw [e, PySem.W.krv_range, List.filterMap_reverse, PySem.W.krv_all]
  subst eA
  show wpAny _ _ (Builtin.Tuple.tupleExact its.toList.reverse.toArray >>= fun v => ret v) _ _ s
  first
    | exact wpAny_bind (m := Builtin.Tuple.tupleExact _) (wpAny_newObj_type (wpAny_pure ⟨_, rfl, wpAny_pure h⟩) htake)
    | exact wpAny_bind (m := Builtin.Tuple.tupleExact _) (wpAny_newObj_type (wpAny_bind (wpAny_pure (wpAny_pure ⟨_, rfl, wpAny_pure h⟩))) htake)
end
section
variable {X : Cx}
def tRevT (K : PySem.W.Frag) (te : TE) : TE := fun σ H Q => te σ H fun x H1 => ∃ (a : Addr) (xs : List V), x = .ref a ∧ SqT K H1 a xs ∧ ∀ p, H1 p = none → Q (.ref p) (upd H1 p (.tup xs.reverse))
theorem pe_revT {e : Expr} {te : TE} {k : Nat} {p1 p2 p3 pos : Pos} (he : PE X e te) : PE X (.Subscript e (.Slice none none (some (.UnaryOp .USub (.Constant (.int 1) k p1) p2)) p3) pos) (tRevT X.K te) := by
  refine ⟨fun pins s σ H Q I h => ?_⟩
  refine Subscript_ (thn (he.run pins s σ H _ I h) fun v s1 ⟨x, H1, I1, r1, q1⟩ => ?_)
  obtain ⟨a, xs, ex, hx, q⟩ := q1
  subst ex
  cases r1
  have hst : PO X (some (.UnaryOp .USub (.Constant (.int 1) k p1) p2)) (tPart (tUn (rU fun i => .int (-i)) (tC (.int 1)))) := po_some (pe_un un_neg pe_int)
  refine wpAny_Slice (thn (po_none.run pins s1 σ H1 (fun o H2 => o = none ∧ H2 = H1) I1 ⟨rfl, rfl⟩) fun vl s2 ⟨l, H2, I2, pl, el, e2⟩ => ?_)
  subst el e2
  refine thn (po_none.run pins s2 σ H2 (fun o H3 => o = none ∧ H3 = H2) I2 ⟨rfl, rfl⟩) fun vu s3 ⟨u, H3, I3, pu, eu, e3⟩ => ?_
  subst eu e3
  refine thn (hst.run pins s3 σ H3 (fun o H4 => o = some (-1) ∧ H4 = H3) I3 ⟨1, rfl, -1, rfl, rfl, rfl⟩) fun vs s4 ⟨o, H4, I4, ps, eo, e4⟩ => ?_
  subst eo e4
  have I5 : Inv X pins σ H4 { s4 with heap := s4.heap.push { cls := .type "slice", data := .fields #[vl, vu, vs] } } := I4.kept (t' := s4.toks) fun b ob q => Heap.get?_push_of_some _ q
  obtain ⟨its, r, ht, hz⟩ := I5.tuple hx
  have lr := r.length
  show wpAny (model X.prog X.w) X.A (subscriptTail e (.Slice none none (some (.UnaryOp .USub (.Constant (.int 1) k p1) p2)) p3) (.ref a) (.ref s4.heap.objs.size)) (EP X pins σ Q) X.xe { s4 with heap := s4.heap.push { cls := .type "slice", data := .fields #[vl, vu, vs] } }
  refine tail_any (ops := [.ref a, .ref s4.heap.objs.size]) ht.typeIs (PyProof.Rows.slot_tuple_getitem.lookup) ?_ (by with_unfolding_all rfl)
  refine getItem_back ht (by rw [List.size_toArray]; omega) (Heap.IsSliceOf.new _ vl vu vs) pl pu ps ?_
  refine ⟨.ref _, _, I5.laid (t' := s4.toks) (o := .tup xs.reverse) (fun b ob q => Heap.get?_push_of_some _ q) (Nat.le_refl _) ?_, rfl, q _ (I5.hok.fresh (Nat.le_refl _))⟩
  exact ⟨by rw [List.length_reverse]; exact hz, its.reverse, r.reverse, IsTup.new _ _⟩
end
/-! a list == the empty list -/
def rEqL0 (K : PySem.W.Frag) : R2 := fun x y H Q => ∃ (a b : Addr) (xs : List V), x = .ref a ∧ y = .ref b ∧ SqL K H a xs ∧ SqL K H b [] ∧ Q (.bl xs.isEmpty) H
theorem op_eqL0 {X : Cx} (hu : X.A.units + 64 < cLine) : OpR X (compareOp .Eq) (rEqL0 X.K) := by
  intro pins s σ H x y v u Q I rx ry h
  obtain ⟨a, b, xs, rfl, rfl, ha, hb, q⟩ := h
  cases rx
  cases ry
  obtain ⟨is, r1, ⟨o1, n1, h1, c1, _, d1⟩, _⟩ := I.list ha
  obtain ⟨js, r2, ⟨o2, n2, h2, c2, _, d2⟩, _⟩ := I.list hb
  cases r2
  cases r1 with
  | nil => exact PySem.SeqAt.eq_listAt (e := fun _ => true) ⟨o1, h1, c1, n1, d1⟩ ⟨o2, h2, c2, n2, d2⟩ rfl (by omega) (fun j j1 _ => absurd j1 (Nat.not_lt_zero _)) ⟨.bl true, H, I, rfl, q⟩
  | cons r t => exact PySem.SeqAt.eq_list_lengthsAt ⟨o1, h1, c1, n1, d1⟩ ⟨o2, h2, c2, n2, d2⟩ (by simp) (by omega) ⟨.bl false, H, I, rfl, q⟩
end Kv

/-! enumerate of a tuple -/
namespace PySem
open Sem (wp)
open AutoSeq1 (wpAny_loadPart')
theorem enumT_new (l : Addr) (its : Array Value) :
    Meets (Builtin.«enumerate.__new__» ⟨[.type "enumerate", .ref l], []⟩) (fun _ R s => s.heap.IsTuple l its ∧
      R (.ok (.ret (.ref (s.heap.push { cls := .type "tuple_iterator", data := .fields #[.ref l, .int 0 0] }).objs.size)))
        { s with heap := (s.heap.push { cls := .type "tuple_iterator", data := .fields #[.ref l, .int 0 0] }).push { cls := .type "enumerate", data := .fields #[.none, .bool false, .ref s.heap.objs.size, rawInt 0, .none, .none] } }) :=
  .of_wp fun prog w A R s h => by
    obtain ⟨hp, g, d, tk, os⟩ := s
    obtain ⟨hT, h⟩ := h
    obtain ⟨o, ho, hc, n, hd⟩ := id hT
    have ff := sub_enumerate
    wp_walk using wpAny_loadPart' ho
    refine wpAny_stack_any fun st => wpAny_pure ?_
    split
    · rename_i c _ _ _ _ _
      cases (c == Value.type "enumerate")
      · wp_walk using wpAny_loadPart' ho, wpAny_pyIter_tuple hT
        exact ⟨_, rfl, h⟩
      · wp_walk using wpAny_loadPart' ho, wpAny_pyIter_tuple hT
        exact ⟨_, rfl, h⟩
    · wp_walk using wpAny_loadPart' ho, wpAny_pyIter_tuple hT
      exact ⟨_, rfl, h⟩
end PySem
namespace Kv
open PySem PySem.Spec PyProof.Rows L2 Kf
/-- the tuple at a, each item in a new pair -/
def IteT (K : PySem.W.Frag) (a : Addr) : It where
  go := fun i H => ∃ (xs : List V) (x : V), SqT K H a xs ∧ xs[i]? = some x
  yld := fun i H v G => ∃ T x, v = .ref T ∧ H T = none ∧ G = upd H T (.tup [.int (i : Nat), x]) ∧ ∀ xs, SqT K H a xs → xs[i]? = some x
  stop := fun i H => ∃ xs : List V, SqT K H a xs ∧ xs.length ≤ i
theorem turn_enumT {P : Program} {w : World} {K : PySem.W.Frag} {elts : List Expr} {kk : Nat} {tpos : Pos} (a e it : Addr) :
    Turn P w K (.Tuple elts kk tpos) (IteT K a) [e, it] e (fun i h => (∃ old, IsEnum h e it ((i : Nat) : Int) old) ∧ h.IsTupleIter it a i ∧ e ≠ it) where
  mem := by simp
  obj := by
    intro i h st b hb
    obtain ⟨⟨old, he⟩, ⟨o, ho, hc, hd⟩, _⟩ := st
    rcases (by simpa using hb : b = e ∨ b = it) with rfl | rfl
    · exact ⟨_, he, fun v q => nomatch q⟩
    · exact ⟨o, ho, fun v q => by rw [hd] at q; cases q⟩
  keep := fun i h h' st k => let ⟨⟨old, he⟩, hi, hne⟩ := st; ⟨⟨old, k e (by simp) _ he⟩, hi.at fun o q => k it (by simp) o q, hne⟩
  item := by
    intro X hP hw hK hc i pins s σ H E I hf st hg
    subst hP hw hK
    obtain ⟨⟨old, he⟩, hit, hne⟩ := st
    obtain ⟨xs, x, hq, hx⟩ := hg
    obtain ⟨its, rv, tp, hz⟩ := I.tuple hq
    obtain ⟨u, hu, ru⟩ := rv.get hx
    obtain ⟨oi, hoi, hci, hdi⟩ := id hit
    obtain ⟨ot, hot, hct, nt, hdt⟩ := id tp
    have lt : i < its.length := (List.getElem?_eq_some_iff.mp hu).1
    have ai : a ≠ it := fun z => by
      rw [z, hoi] at hot
      cases hot
      rw [hci] at hct
      exact absurd (Value.type.inj hct) (by decide)
    have ea : e ≠ a := fun z => by
      rw [← z, he] at hot
      cases hot
      exact absurd (Value.type.inj hct) (by decide)
    have hel : e < s.heap.objs.size := Heap.lt_size he
    have hil : it < s.heap.objs.size := Heap.lt_size hoi
    refine wpAny_pyNext_enum_itemD (Draws.tuple (A := X.A.in1) (I.ok.hd hc) it a ai its.toArray) he ⟨hit, ⟨ot, hot, hct, nt, hdt⟩⟩ (by simpa using lt) hne (by simp [hne, ea]) ?_
    intro u' h1 tk hu' ho hst hT hsz hk
    have eu : u' = u := by
      have z : its[i]? = some u' := by simpa using hu'
      rw [hu] at z
      exact (Option.some.inj z).symm
    subst eu
    refine ⟨_, rfl, wpAny_letOwnedTupleGo_enum (s := { s with heap := h1, toks := tk + 1 }) ho ?_⟩
    intro h2 he' sb
    have hT2 : h2.get? s.heap.objs.size = some { cls := .type "tuple", data := .seq #[.int i tk, u'] } := (sb.2 _ (Nat.ne_of_gt hel)).trans hT
    have new : ObjOk X.prog X.w (upd H s.heap.objs.size (.tup [.int (i : Nat), x])) h2 s.heap.objs.size (.tup [.int (i : Nat), x]) := ⟨by show 2 ≤ sizeLine; decide, [.int i tk, u'], .cons ⟨_, rfl⟩ (.cons ru .nil), ⟨_, hT2, rfl, _, rfl⟩⟩
    have J : Inv X pins σ (upd H s.heap.objs.size (.tup [.int (i : Nat), x])) { s with heap := h2, toks := tk + 1 } :=
      I.turnedNew (ch := [e, it]) (fun b ob hb q => (sb.2 b (fun z => hb (by simp [z]))).trans (hk b ob (fun z => hb (by simp [z])) (fun z => hb (by simp [z])) q)) hf (Nat.le_refl _) new
    refine ⟨.ref s.heap.objs.size, _, J, rfl, ⟨_, x, rfl, I.hok.fresh (Nat.le_refl _), rfl, fun ys hy => by rw [I.tuple_inj hy hq]; exact hx⟩, ⟨⟨u', ?_⟩, hst.1.at fun o q => (sb.2 it (Ne.symm hne)).trans q, hne⟩, fun b hb => ?_⟩
    · rw [show ((i + 1 : Nat) : Int) = (i : Int) + 1 by omega]
      exact he'
    · have lb : b < s.heap.objs.size := by
        rcases (by simpa using hb : b = e ∨ b = it) with rfl | rfl
        · exact hel
        · exact hil
      rw [upd_ne (Nat.ne_of_lt lb)]
      exact (hf b hb).1
  done := by
    intro X hP hw hK hc i pins s σ H E I hf st hg
    subst hP hw hK
    obtain ⟨⟨old, he⟩, hit, hne⟩ := st
    obtain ⟨xs, hq, hx⟩ := hg
    obtain ⟨its, rv, tp, hz⟩ := I.tuple hq
    obtain ⟨oi, hoi, hci, hdi⟩ := id hit
    obtain ⟨ot, hot, hct, nt, hdt⟩ := id tp
    have ai : a ≠ it := fun z => by
      rw [z, hoi] at hot
      cases hot
      rw [hci] at hct
      exact absurd (Value.type.inj hct) (by decide)
    obtain ⟨f0, f1, f2, f3, f4, f5⟩ := hf it (by simp)
    have hl := rv.length
    have none : its.toArray[i]? = none := by
      rw [List.getElem?_toArray]
      exact List.getElem?_eq_none (by omega)
    have D : Draws X.prog X.w X.A.in1 it [it, a] i (fun _ _ => True) (fun j h => j = i ∧ h.IsTupleIter it a i ∧ h.IsTuple a its.toArray) :=
      { live := fun _ _ st => let ⟨o, ho, _⟩ := st.2.1; ⟨o, ho⟩
        frame := fun _ _ _ st hk => ⟨st.1, st.2.1.at fun o e => hk it (by simp) o e, st.2.2.at fun o e => hk a (by simp) o e⟩
        item := fun j s Q E hj st _ => absurd st.1 (Nat.ne_of_lt hj)
        done := fun s Q E st hE => wpAny_nextOf_tuple_end (I.ok.hd hc) st.2.1 st.2.2 none hE }
    exact wpAny_pyNext_enum_endD D he ⟨rfl, hit, ⟨ot, hot, hct, nt, hdt⟩⟩ fun h1 eb => ⟨rfl, I.turned (t' := s.toks) (fun b o hb q => eb b o hb q) f0 f1 f3 f4 f5⟩
  self := fun A i s Q E st h => let ⟨⟨_, he⟩, _⟩ := st; wpAny_pyIter_enum he h
def iEnumT (K : PySem.W.Frag) (ta : TA) : TI := fun σ H R => ta σ H fun vs G => ∃ (a : Addr) (xs : List V), vs = [.ref a] ∧ SqT K G a xs ∧ R (IteT K a) G
theorem pi_enumT {X : Cx} {e : Expr} {ta : TA} {p pos tpos : Pos} {elts : List Expr} {kk : Nat} (hg : Gl X "enumerate") (hm : X.mg "enumerate" = none) (ha : PA X [e] ta) (hs : starEach [e] X.env = [(false, eval e X.env)] := by rfl) :
    PI X (.Tuple elts kk tpos) (.Call (.Name "enumerate" p) [e] [] pos) (iEnumT X.K ta) := by
  constructor
  intro pins s σ H R I h
  refine Call_ (ld_blt I hg hm boot_enumerate (PyProof.Rows.callWith_type1 (thn (ha.run pos pins s σ H _ I h) ?_) hs rfl))
  rintro us s1 ⟨vs, G, J, r, a, xs, rfl, hq, q⟩
  rw [Vals.ref1 r]
  obtain ⟨its, rv, tp, hz⟩ := J.tuple hq
  have IT : s1.heap.IsTuple a its.toArray := let ⟨o, ho, hc, n, hd⟩ := tp; ⟨o, ho, hc, n, hd⟩
  have sz1 : (s1.heap.push { cls := .type "tuple_iterator", data := .fields #[.ref a, .int 0 0] }).objs.size = s1.heap.objs.size + 1 := Heap.size_push ..
  refine callType_new F.called_enumerate (by decide) (F.typeCall_enumerate_1 _) (F.newCall_enumerate_1 _) (fun obj => F.args_object_init_2 obj _) F.entry_enumerate_new (enumT_new a its.toArray) ⟨IT, ?_⟩
  show _ ∧ _
  rw [sz1]
  have he := Heap.get?_push_size (s1.heap.push { cls := .type "tuple_iterator", data := .fields #[.ref a, .int 0 0] }) (o := { cls := .type "enumerate", data := .fields #[.none, .bool false, .ref s1.heap.objs.size, rawInt 0, .none, .none] }) rfl
  rw [sz1] at he
  refine ⟨⟨_, he, rfl⟩, wpAny_pyIter_enum he ?_⟩
  have J2 := J.kept (h' := (s1.heap.push { cls := .type "tuple_iterator", data := .fields #[.ref a, .int 0 0] }).push { cls := .type "enumerate", data := .fields #[.none, .bool false, .ref s1.heap.objs.size, rawInt 0, .none, .none] }) (t' := s1.toks) (fun b o x => Heap.get?_push_of_some _ (Heap.get?_push_of_some _ x))
  refine ⟨s1.heap.objs.size + 1, [s1.heap.objs.size + 1, s1.heap.objs.size], _, _, G, rfl, J2, turn_enumT a (s1.heap.objs.size + 1) s1.heap.objs.size, ⟨⟨.none, he⟩, ⟨_, Heap.get?_push_of_some _ (Heap.get?_push_size _ rfl), rfl, rfl⟩, Nat.succ_ne_self _⟩, fun b hb => ?_, q⟩
  have le : s1.heap.objs.size ≤ b := by
    rcases (by simpa using hb : b = s1.heap.objs.size + 1 ∨ b = s1.heap.objs.size) with rfl | rfl
    · exact Nat.le_add_right _ _
    · exact Nat.le_refl _
  exact J.fpOk le (J.hok.fresh le)
theorem walk_enumT {K : PySem.W.Frag} {a : Addr} {xs : List V} : Walk (IteT K a) xs.length (fun H => SqT K H a xs) (YPair (fun i => some (.int (i : Nat))) (fun i => xs[i]?)) := by
  refine ⟨fun i _ hi q => ⟨xs, xs[i], q, by simp [hi]⟩, fun _ q => ⟨xs, q, Nat.le_refl _⟩, fun i H v G _ q y => ?_⟩
  obtain ⟨T, x, h1, h2, h3, h4⟩ := y
  exact ⟨T, .int (i : Nat), x, h1, h2, h3, rfl, h4 xs q⟩
end Kv

/-! a thing of anything == a text -/
namespace PySem.SeqAt
theorem sub_str_dic : isSubtype (.type "str") (.type "dict") = pure false := by kernel_rfl
theorem dic_declines (l : Addr) (es : Array DictEntry) (n : Nat) (dd : Option Addr) (sl : Array (Option Value)) (b : Str) (u : Tok) :
    Meets (Builtin.«dict.__eq__» ⟨[.ref l, .str b u], []⟩) (fun _ R s => s.heap.get? l = some { cls := .type "dict", dict := dd, data := .dict es n, slots := sl } ∧ R (.ok (.ret .notImplemented)) s) :=
  .of_wp fun prog w A R s h => by
    obtain ⟨hp, g, d, tk, os⟩ := s
    obtain ⟨hl, h⟩ := h
    have f1 := sub_str_dic
    wp_walk using AutoSeq1.wpAny_loadPart' hl
    exact ⟨_, rfl, h⟩
theorem str_declines_dic (b : Str) (u : Tok) (l : Addr) (es : Array DictEntry) (n : Nat) (dd : Option Addr) (sl : Array (Option Value)) :
    Meets (Builtin.«str.__eq__» ⟨[.str b u, .ref l], []⟩) (fun _ R s => s.heap.get? l = some { cls := .type "dict", dict := dd, data := .dict es n, slots := sl } ∧ R (.ok (.ret .notImplemented)) s) :=
  .of_wp fun prog w A R s h => by
    obtain ⟨hp, g, d, tk, os⟩ := s
    obtain ⟨hl, h⟩ := h
    wp_walk using AutoSeq1.wpAny_loadPart' hl, wpAny_load hl
    exact ⟨_, rfl, h⟩
theorem dic_str {A : Around} {s : Shared} {l : Addr} {o : Obj} {es : Array DictEntry} {n : Nat} (b : Str) (u : Tok) (ho : s.heap.get? l = some o) (hc : o.cls = .type "dict") (hd : o.data = .dict es n) (hu : A.units < cLine) : RcAt A s (.ref l) (.str b u) false := fun prog w E Q h => by
  obtain ⟨cls, dd, data, sl⟩ := o
  simp only at hc hd
  subst hc hd
  exact rc_eq_decline_or (k := false) ⟨_, ho, rfl⟩ (typeIs_str s b u) (by decide) sub_str_dic F.slot_dict_eq F.slot_str_eq_refl
    (fun _ hq => call_meets F.slot_dict_eq ⟨_, ho, rfl⟩ F.entry_dict_eq (F.args_dict_eq_2 _ _) (dic_declines l es n dd sl b u) ⟨ho, hq⟩)
    (fun _ hq => call_meets F.slot_str_eq_refl (typeIs_str s b u) F.entry_str_eq (F.args_str_eq_2 _ _) (str_declines_dic b u l es n dd sl) ⟨ho, hq⟩)
    (fun _ hq => wpAny_of_eq (rfl : isSame (.ref l) (.str b u) = pure false) hq) (.inr hu) h
end PySem.SeqAt
namespace Kv
open PySem PySem.Spec PyProof.Rows L2 Kf
def Dt.isS (x : Dt) (z : Str) : Bool := match x with
  | .str y => decide (y = z)
  | _ => false
def rEqUS : R2 := fun x y H Q => ∃ (d : Dt) (z : Str), Dd Any H d x ∧ y = .str z ∧ Q (.bl (d.isS z)) H
theorem op_eqUS {X : Cx} (hu : X.A.units + 64 < cLine) : OpR X (compareOp .Eq) rEqUS := by
  intro pins s σ H x y v u Q I rx ry h
  obtain ⟨d, z, hd, rfl, q⟩ := h
  obtain ⟨t2, rfl⟩ := ry
  have no : d.isS z = false → EP X pins σ Q (.bool false) s := fun e => by
    rw [e] at q
    exact ⟨.bl false, H, I, rfl, q⟩
  cases hd with
  | non =>
    cases rx
    exact SeqAt.RcAt.none_str z t2 _ _ _ _ (no rfl)
  | bl b =>
    cases rx
    exact SeqAt.RcAt.bool_str b z t2 _ _ _ _ (no rfl)
  | int i =>
    obtain ⟨t1, rfl⟩ := rx
    exact SeqAt.RcAt.int_str i t1 z t2 _ _ _ _ (no rfl)
  | str y =>
    obtain ⟨t1, rfl⟩ := rx
    refine SeqAt.RcAt.str_str y t1 z t2 _ _ _ _ ?_
    have e : (y == z) = (Dt.str y).isS z := by
      show (y == z) = decide (y = z)
      by_cases c : y = z
      · subst c
        simp
      · rw [decide_eq_false c]
        exact beq_eq_false_iff_ne.mpr c
    rw [e]
    exact ⟨.bl _, H, I, rfl, q⟩
  | tup h t =>
    cases rx
    obtain ⟨its, rv, ⟨o, ho, hc, n, hd⟩, _⟩ := I.tuple (SqT.of h)
    exact SeqAt.RcAt.tuple_str z t2 ⟨o, ho, hc, n, hd⟩ (by omega) _ _ _ _ (no rfl)
  | lst _ h t =>
    cases rx
    obtain ⟨its, rv, ⟨o, n, ho, hc, _, hd⟩, _⟩ := I.list (SqL.of h)
    exact SeqAt.RcAt.list_str z t2 ⟨o, ho, hc, n, hd⟩ (by omega) _ _ _ _ (no rfl)
  | dct _ h =>
    cases rx
    obtain ⟨o, es, n, ho, hc, hd, _, _, _⟩ := dct_obj I h
    exact SeqAt.dic_str z t2 ho hc hd (by omega) _ _ _ _ (no rfl)
end Kv

/-! numbers and truths reckoned with; a thing is a truth; None among things -/
namespace Kv
open PySem PySem.Spec PyProof.Rows L2 Kf
/-- a number, or a truth as a number -/
def nu : V → Option Int
  | .int i => some i
  | .bl b => some (if b = true then (1 : Int) else 0)
  | _ => none
section
variable {X : Cx}
theorem op_addU : OpR X (binaryOp .Add) (fun x y H Q => ∃ i j, nu x = some i ∧ y = .int j ∧ Q (.int (i + j)) H) := by
  intro pins s σ H x y v u Q I rx ry h
  obtain ⟨i, j, hx, rfl, q⟩ := h
  obtain ⟨t2, rfl⟩ := ry
  cases x with
  | int a =>
    obtain ⟨t1, rfl⟩ := rx
    cases hx
    exact (op_add (X := X)) pins s σ H (.int i) (.int j) _ _ Q I ⟨t1, rfl⟩ ⟨t2, rfl⟩ ⟨i, j, rfl, rfl, q⟩
  | bl b =>
    cases rx
    cases hx
    exact PySem.IntBool.add_bool_int ⟨.int _, H, I.tok _, ⟨_, rfl⟩, q⟩
  | _ => cases hx
theorem op_subU : OpR X (binaryOp .Sub) (fun x y H Q => ∃ i j, nu x = some i ∧ y = .int j ∧ Q (.int (i - j)) H) := by
  intro pins s σ H x y v u Q I rx ry h
  obtain ⟨i, j, hx, rfl, q⟩ := h
  obtain ⟨t2, rfl⟩ := ry
  cases x with
  | int a =>
    obtain ⟨t1, rfl⟩ := rx
    cases hx
    exact (op_sub (X := X)) pins s σ H (.int i) (.int j) _ _ Q I ⟨t1, rfl⟩ ⟨t2, rfl⟩ ⟨i, j, rfl, rfl, q⟩
  | bl b =>
    cases rx
    cases hx
    exact PySem.IntBool.sub_bool_int ⟨.int _, H, I.tok _, ⟨_, rfl⟩, q⟩
  | _ => cases hx
theorem op_subV : OpR X (binaryOp .Sub) (fun x y H Q => ∃ i j, x = .int i ∧ nu y = some j ∧ Q (.int (i - j)) H) := by
  intro pins s σ H x y v u Q I rx ry h
  obtain ⟨i, j, rfl, hy, q⟩ := h
  obtain ⟨t1, rfl⟩ := rx
  cases y with
  | int a =>
    obtain ⟨t2, rfl⟩ := ry
    cases hy
    exact (op_sub (X := X)) pins s σ H (.int i) (.int j) _ _ Q I ⟨t1, rfl⟩ ⟨t2, rfl⟩ ⟨i, j, rfl, rfl, q⟩
  | bl b =>
    cases ry
    cases hy
    exact PySem.IntBool.sub_int_bool ⟨.int _, H, I.tok _, ⟨_, rfl⟩, q⟩
  | _ => cases hy
theorem op_eqU1 : OpR X (compareOp .Eq) (fun x y H Q => ∃ i j, nu x = some i ∧ y = .int j ∧ ∀ b : Bool, Q (.bl b) H) := by
  intro pins s σ H x y v u Q I rx ry h
  obtain ⟨i, j, hx, rfl, q⟩ := h
  obtain ⟨t2, rfl⟩ := ry
  cases x with
  | int a =>
    obtain ⟨t1, rfl⟩ := rx
    exact SeqAt.RcAt.int_int a t1 j t2 _ _ _ _ ⟨.bl _, H, I, rfl, q _⟩
  | bl b =>
    cases rx
    exact SeqAt.RcAt.bool_int b j t2 _ _ _ _ ⟨.bl _, H, I, rfl, q _⟩
  | _ => cases hx
theorem call_strU : CallR X (.type "str") (fun xs H Q => ∃ x i, xs = [x] ∧ nu x = some i ∧ i.natAbs < 10 ^ 45 ∧ ∀ z : Str, z.length ≤ 50 → (∀ c ∈ z.cps.toList, c < 16 ^ 8) → Q (.str z) H) := by
  intro pins s σ H xs us Q I r h
  obtain ⟨x, i, rfl, hx, hi, q⟩ := h
  obtain ⟨u, rfl, rx⟩ := vals1 r
  cases x with
  | int a =>
    obtain ⟨t, rfl⟩ := rx
    cases hx
    have hl : i.natAbs.log2 < 1920 := by
      by_cases z : i.natAbs = 0
      · rw [z]
        decide
      · have : i.natAbs.log2 < 150 := (Nat.log2_lt z).mpr (Nat.lt_of_lt_of_le hi (by decide))
        omega
    refine PySem.P.str_of_int hl ⟨.str _, H, I.tok _, ⟨_, rfl⟩, q _ ?_ ?_⟩
    · have z := int_text_length_le10 (a := i) (k := 45) (by decide) hi
      have e : (Str.ofString (toString i)).length = (toString i).length := PySem.ofString_length _
      show (Str.ofString (toString i)).length ≤ 50
      rw [e]
      omega
    · intro c hc
      have hc : c ∈ (Str.ofString (toString i)).cps.toList := hc
      rw [Str.ofString_eq_toList] at hc
      simp only [List.mem_map] at hc
      obtain ⟨ch, _, rfl⟩ := hc
      exact ch.val.toNat_lt
  | bl b =>
    cases rx
    refine PySem.P.str_of_bool ⟨.str _, H, I.tok _, ⟨_, rfl⟩, q _ ?_ ?_⟩
    · cases b <;> decide +kernel
    · cases b <;> decide +kernel
  | _ => cases hx
/-- a thing is this truth -/
def Dt.isB (x : Dt) (b : Bool) : Bool := match x with
  | .bl c => decide (c = b)
  | _ => false
theorem op_isU : OpR X (compareOp .Is) (fun x y H Q => ∃ (d : Dt) (b : Bool), Dd Any H d x ∧ y = .bl b ∧ Q (.bl (d.isB b)) H) := by
  intro pins s σ H x y v u Q I rx ry h
  obtain ⟨d, b, hd, rfl, q⟩ := h
  cases ry
  have no : d.isB b = false → EP X pins σ Q (.bool false) s := fun e => by
    rw [e] at q
    exact ⟨.bl false, H, I, rfl, q⟩
  cases hd with
  | non =>
    cases rx
    exact wpAny_is_other rfl (fun z => by cases z) (no rfl)
  | bl c =>
    cases rx
    by_cases e : c = b
    · subst e
      exact wpAny_is_self rfl ⟨.bl true, H, I, rfl, by simpa [Dt.isB] using q⟩
    · exact wpAny_is_other rfl (fun z => e (Value.bool.inj z)) (no (by simp [Dt.isB, e]))
  | int i =>
    obtain ⟨t1, rfl⟩ := rx
    exact wpAny_is_other rfl (fun z => by cases z) (no rfl)
  | str y =>
    obtain ⟨t1, rfl⟩ := rx
    exact wpAny_is_other rfl (fun z => by cases z) (no rfl)
  | tup h t =>
    cases rx
    exact wpAny_is_other rfl (fun z => by cases z) (no rfl)
  | lst _ h t =>
    cases rx
    exact wpAny_is_other rfl (fun z => by cases z) (no rfl)
  | dct _ h =>
    cases rx
    exact wpAny_is_other rfl (fun z => by cases z) (no rfl)
/-- None, a number, a truth, a tuple -/
def Plainy (H : Hp) (z : V) : Prop := z = .non ∨ (∃ i, z = .int i) ∨ (∃ b, z = .bl b) ∨ ∃ a xs, z = .ref a ∧ H a = some (.tup xs)
theorem isNone_pl {z : V} {u : Value} {H : Hp} (r : RelV z u) (f : Plainy H z) : PySem.Numpy.isNone u = isNon z := by
  rcases f with rfl | ⟨i, rfl⟩ | ⟨b, rfl⟩ | ⟨a, xs, rfl, _⟩
  · cases r; rfl
  · obtain ⟨t, rfl⟩ := r; rfl
  · cases r; rfl
  · cases r; rfl
theorem any_pl {H : Hp} : ∀ {xs : List V} {us : List Value}, Vals xs us → (∀ z ∈ xs, Plainy H z) → us.any PySem.Numpy.isNone = xs.any isNon
  | _, _, .nil, _ => rfl
  | y :: xs, u :: us, .cons r t, f => by
    rw [List.any_cons, List.any_cons, isNone_pl r (f y (List.mem_cons_self ..)), any_pl t fun z hz => f z (List.mem_cons_of_mem _ hz)]
theorem pl_eq {A : Around} {pins : List (Addr × Obj)} {σ : L2.St} {H : Hp} {s : Shared} (I : Inv X pins σ H s) (hu : A.units < cLine) {z : V} {u : Value} (r : RelV z u) (f : Plainy H z) : SeqAt.EqAt A s u .none (PySem.Numpy.isNone u) := by
  rcases f with rfl | ⟨i, rfl⟩ | ⟨b, rfl⟩ | ⟨a, xs, rfl, h⟩
  · cases r
    exact SeqAt.EqAt.same _
  · obtain ⟨t, rfl⟩ := r
    exact SeqAt.EqAt.int_none i t
  · cases r
    exact SeqAt.EqAt.bool_none b
  · cases r
    obtain ⟨its, rv, ⟨o, ho, hc, n, hd⟩, _⟩ := I.tuple (SqT.of h)
    exact SeqAt.EqAt.tuple_none ⟨o, ho, hc, n, hd⟩ hu
theorem mem_pl {A : Around} {pins : List (Addr × Obj)} {σ : L2.St} {H : Hp} {s : Shared} (I : Inv X pins σ H s) (hu : A.units < cLine) : ∀ {xs : List V} {us : List Value}, Vals xs us → (∀ z ∈ xs, Plainy H z) → ∀ u ∈ us, SeqAt.EqAt A s u .none (PySem.Numpy.isNone u)
  | _, _, .nil, _ => fun u hu' => by cases hu'
  | y :: xs, u :: us, .cons r t, f => fun u' hu' => by
    rcases List.mem_cons.mp hu' with e | hu'
    · subst e
      exact pl_eq I hu r (f y (List.mem_cons_self ..))
    · exact mem_pl I hu t (fun z hz => f z (List.mem_cons_of_mem _ hz)) u' hu'
def rNoneInU (K : PySem.W.Frag) : R2 := fun x y H Q => ∃ p xs, x = .non ∧ y = .ref p ∧ SqL K H p xs ∧ (∀ z ∈ xs, Plainy H z) ∧ Q (.bl (xs.any isNon)) H
theorem op_noneInU (hu : X.A.units + 64 < cLine) : OpR X (compareOp .In) (rNoneInU X.K) := by
  intro pins s σ H x y v u Q I rx ry h
  obtain ⟨p, xs, rfl, rfl, hq, f, q⟩ := h
  cases rx
  cases ry
  obtain ⟨its, rv, hl, _⟩ := I.list hq
  have hu1 : X.A.in1.units < cLine := by show X.A.units + 1 < cLine; omega
  refine SeqAt.in_listAt PySem.Numpy.isNone hl.isList (fun z hz => mem_pl I hu1 rv f z (by simpa using hz)) ⟨.bl _, H, I, rfl, ?_⟩
  rw [show its.toArray.any PySem.Numpy.isNone = its.any PySem.Numpy.isNone by simp, any_pl rv f]
  exact q
end
end Kv

/-! things of anything: how great they are -/
namespace Kv
open PySem PySem.Spec PyProof.Rows L2 Kf
mutual
def Dt.sz : Dt → Nat
  | .tup xs => 1 + Dt.szs xs
  | .lst xs => 1 + Dt.szs xs
  | .dct kvs => 1 + 3 * kvs.length
  | _ => 1
def Dt.szs : List Dt → Nat
  | [] => 0
  | x :: xs => x.sz + Dt.szs xs
end
theorem sz_mem : ∀ {xs : List Dt} {x : Dt}, x ∈ xs → x.sz ≤ Dt.szs xs
  | y :: ys, x, h => by
    rcases List.mem_cons.mp h with rfl | h
    · exact Nat.le_add_right _ _
    · exact Nat.le_trans (sz_mem h) (Nat.le_add_left _ _)
theorem szs_app : ∀ (xs ys : List Dt), Dt.szs (xs ++ ys) = Dt.szs xs + Dt.szs ys
  | [], ys => by show _ = 0 + _; rw [Nat.zero_add]; rfl
  | x :: xs, ys => by
    show x.sz + Dt.szs (xs ++ ys) = x.sz + Dt.szs xs + Dt.szs ys
    rw [szs_app xs ys, Nat.add_assoc]
mutual
def Dt.dp : Dt → Nat
  | .tup xs => Dt.dps xs + 1
  | .lst xs => Dt.dps xs + 1
  | .dct _ => 1
  | _ => 0
def Dt.dps : List Dt → Nat
  | [] => 0
  | x :: xs => max x.dp (Dt.dps xs)
end
def kwt : List (Str × Int) → Nat
  | [] => 3
  | p :: r => 10 * p.1.length + 60 + kwt r
mutual
def Dt.wt : Dt → Nat
  | .non => 4
  | .bl _ => 5
  | .int _ => 52
  | .str x => 10 * x.length + 2
  | .tup xs => Dt.wts xs + 3
  | .lst xs => Dt.wts xs + 3
  | .dct kvs => kwt kvs
def Dt.wts : List Dt → Nat
  | [] => 0
  | x :: xs => x.wt + 2 + Dt.wts xs
end
mutual
def Dt.fine (B : Nat) : Dt → Prop
  | .int i => i.natAbs < B
  | .str x => ∀ c ∈ x.cps.toList, c < 16 ^ 8
  | .tup xs => Dt.fines B xs
  | .lst xs => Dt.fines B xs
  | .dct kvs => ∀ p ∈ kvs, (∀ c ∈ p.1.cps.toList, c < 16 ^ 8) ∧ p.2.natAbs < B
  | _ => True
def Dt.fines (B : Nat) : List Dt → Prop
  | [] => True
  | x :: xs => x.fine B ∧ Dt.fines B xs
end
theorem int_shw {B : Nat} (hB : B ≤ 10 ^ 45) (i : Int) (h : i.natAbs < B) : (PyData.int i).showable = true ∧ (PyData.int i).depth = 0 ∧ (PyData.int i).shown.length ≤ 52 := by
  have h : i.natAbs < 10 ^ 45 := Nat.lt_of_lt_of_le h hB
  refine ⟨?_, by simp [PyData.depth], ?_⟩
  · simp only [PyData.showable]
    refine decide_eq_true ?_
    by_cases z : i.natAbs = 0
    · rw [z]
      decide
    · have : i.natAbs.log2 < 150 := (Nat.log2_lt z).mpr (Nat.lt_of_lt_of_le h (by decide))
      omega
  · have z := int_text_length_le10 (a := i) (k := 45) (by decide) h
    simp only [PyData.shown]
    have e : (Str.ofString (toString i)).length = (toString i).length := PySem.ofString_length _
    rw [e]
    omega
theorem dct_shw {B : Nat} (hB : B ≤ 10 ^ 45) : ∀ (kvs : List (Str × Int)), (∀ p ∈ kvs, (∀ c ∈ p.1.cps.toList, c < 16 ^ 8) ∧ p.2.natAbs < B) → PyData.showableKv (dkp kvs) = true ∧ PyData.depthKv (dkp kvs) = 0 ∧ ((PyData.shownKv (dkp kvs)).map (·.length)).sum + 2 * (PyData.shownKv (dkp kvs)).length + 3 ≤ kwt kvs
  | [], _ => ⟨by simp [dkp, PyData.showableKv], by simp [dkp, PyData.depthKv], by simp [dkp, PyData.shownKv, kwt]⟩
  | (x, i) :: kvs, h => by
    obtain ⟨a, b, c⟩ := dct_shw hB kvs fun p hp => h p (List.mem_cons_of_mem _ hp)
    obtain ⟨f1, f2⟩ := h (x, i) List.mem_cons_self
    obtain ⟨i1, i2, i3⟩ := int_shw hB i f2
    have e : dkp ((x, i) :: kvs) = (.str x, .int i) :: dkp kvs := rfl
    rw [e]
    refine ⟨by simp only [PyData.showableKv, a, i1]; simp [PyData.showable], by simp only [PyData.depthKv, b, i2]; simp [PyData.depth], ?_⟩
    have z : (PyData.str x).shown.length ≤ 10 * x.length + 2 := by simp only [PyData.shown]; exact PySem.StrLaws.reprText_len x f1
    have e2 : ((": " : Str)).length = 2 := by decide +kernel
    simp only [PyData.shownKv, List.map_cons, List.sum_cons, List.length_cons, kwt, strLen_append, e2]
    omega
mutual
theorem Dt.shw {B : Nat} (hB : B ≤ 10 ^ 45) : ∀ (x : Dt), x.fine B → x.toP.showable = true ∧ x.toP.depth = x.dp ∧ x.toP.shown.length ≤ x.wt
  | .non, _ => ⟨by simp [Dt.toP, PyData.showable], by simp [Dt.toP, PyData.depth, Dt.dp], by simp only [Dt.toP, PyData.shown, Dt.wt]; decide⟩
  | .bl b, _ => ⟨by simp [Dt.toP, PyData.showable], by simp [Dt.toP, PyData.depth, Dt.dp], by cases b <;> (simp only [Dt.toP, PyData.shown, Dt.wt]; decide)⟩
  | .int i, h => by
    have h : i.natAbs < B := by simpa only [Dt.fine] using h
    have h : i.natAbs < 10 ^ 45 := Nat.lt_of_lt_of_le h hB
    refine ⟨?_, by simp [Dt.toP, PyData.depth, Dt.dp], ?_⟩
    · simp only [Dt.toP, PyData.showable]
      refine decide_eq_true ?_
      by_cases z : i.natAbs = 0
      · rw [z]
        decide
      · have : i.natAbs.log2 < 150 := (Nat.log2_lt z).mpr (Nat.lt_of_lt_of_le h (by decide))
        omega
    · have z := int_text_length_le10 (a := i) (k := 45) (by decide) h
      simp only [Dt.toP, PyData.shown, Dt.wt]
      have e : (Str.ofString (toString i)).length = (toString i).length := PySem.ofString_length _
      rw [e]
      omega
  | .str x, h => by
    have h : ∀ c ∈ x.cps.toList, c < 16 ^ 8 := by simpa only [Dt.fine] using h
    exact ⟨by simp [Dt.toP, PyData.showable], by simp [Dt.toP, PyData.depth, Dt.dp], by simp only [Dt.toP, PyData.shown, Dt.wt]; exact PySem.StrLaws.reprText_len x h⟩
  | .tup xs, h => by
    obtain ⟨a, b, c⟩ := Dt.shws hB xs (by simpa only [Dt.fine] using h)
    refine ⟨by simpa only [Dt.toP, PyData.showable] using a, by simp only [Dt.toP, PyData.depth, Dt.dp]; omega, ?_⟩
    simp only [Dt.toP, PyData.shown, Dt.wt]
    have := tupleText_len_le (PyData.shownAll (Dt.toPs xs))
    omega
  | .lst xs, h => by
    obtain ⟨a, b, c⟩ := Dt.shws hB xs (by simpa only [Dt.fine] using h)
    refine ⟨by simpa only [Dt.toP, PyData.showable] using a, by simp only [Dt.toP, PyData.depth, Dt.dp]; omega, ?_⟩
    simp only [Dt.toP, PyData.shown, Dt.wt]
    have := listText_len_le (PyData.shownAll (Dt.toPs xs))
    omega
  | .dct kvs, h => by
    obtain ⟨a, b, c⟩ := dct_shw hB kvs (by simpa only [Dt.fine] using h)
    refine ⟨by simp only [Dt.toP, PyData.showable, a], by simp only [Dt.toP, PyData.depth, b, Dt.dp], ?_⟩
    simp only [Dt.toP, PyData.shown, Dt.wt]
    have := dictText_len_le (PyData.shownKv (dkp kvs))
    omega
theorem Dt.shws {B : Nat} (hB : B ≤ 10 ^ 45) : ∀ (xs : List Dt), Dt.fines B xs → PyData.showableAll (Dt.toPs xs) = true ∧ PyData.depthAll (Dt.toPs xs) = Dt.dps xs ∧ ((PyData.shownAll (Dt.toPs xs)).map (·.length)).sum + 2 * (PyData.shownAll (Dt.toPs xs)).length ≤ Dt.wts xs
  | [], _ => ⟨by simp [Dt.toPs, PyData.showableAll], by simp [Dt.toPs, PyData.depthAll, Dt.dps], by simp [Dt.toPs, PyData.shownAll]⟩
  | x :: xs, h => by
    have h : x.fine B ∧ Dt.fines B xs := by simpa only [Dt.fines] using h
    obtain ⟨a, b, c⟩ := x.shw hB h.1
    obtain ⟨a', b', c'⟩ := Dt.shws hB xs h.2
    refine ⟨by simp [Dt.toPs, PyData.showableAll, a, a'], by simp [Dt.toPs, PyData.depthAll, Dt.dps, b, b'], ?_⟩
    simp only [Dt.toPs, PyData.shownAll, List.map_cons, List.sum_cons, List.length_cons, Dt.wts]
    omega
end
/-- it is fine, and within the bounds -/
structure Fine (B n W : Nat) (x : Dt) : Prop where
  ok : x.fine B
  dp : x.dp ≤ n
  wt : x.wt ≤ W
theorem Fine.shw {B n W : Nat} {x : Dt} (h : Fine B n W x) (hB : B ≤ 10 ^ 45) (hW : W ≤ sizeLine) : Shw n x := by
  obtain ⟨a, b, c⟩ := x.shw hB h.ok
  exact ⟨a, by rw [b]; exact h.dp, Nat.le_trans c (Nat.le_trans h.wt hW)⟩
mutual
theorem Dt.fine_up {B C : Nat} (h : B ≤ C) : ∀ {x : Dt}, x.fine B → x.fine C
  | .non, _ => by simp only [Dt.fine]
  | .bl _, _ => by simp only [Dt.fine]
  | .int i, f => by
    simp only [Dt.fine] at f ⊢
    omega
  | .str x, f => by
    simp only [Dt.fine] at f ⊢
    exact f
  | .tup xs, f => by
    simp only [Dt.fine] at f ⊢
    exact Dt.fines_up h f
  | .lst xs, f => by
    simp only [Dt.fine] at f ⊢
    exact Dt.fines_up h f
  | .dct kvs, f => by
    simp only [Dt.fine] at f ⊢
    exact fun p hp => ⟨(f p hp).1, Nat.lt_of_lt_of_le (f p hp).2 h⟩
theorem Dt.fines_up {B C : Nat} (h : B ≤ C) : ∀ {xs : List Dt}, Dt.fines B xs → Dt.fines C xs
  | [], _ => by simp only [Dt.fines]
  | x :: xs, f => by
    simp only [Dt.fines] at f ⊢
    exact ⟨Dt.fine_up h f.1, Dt.fines_up h f.2⟩
end
theorem Fine.mono {A B n W m V : Nat} {x : Dt} (h : Fine A n W x) (ha : A ≤ B) (hn : n ≤ m) (hw : W ≤ V) : Fine B m V x := ⟨Dt.fine_up ha h.ok, Nat.le_trans h.dp hn, Nat.le_trans h.wt hw⟩
mutual
theorem Dt.sz_wt : ∀ x : Dt, x.sz ≤ x.wt
  | .non => by simp only [Dt.sz, Dt.wt]; omega
  | .bl _ => by simp only [Dt.sz, Dt.wt]; omega
  | .int _ => by simp only [Dt.sz, Dt.wt]; omega
  | .str _ => by simp only [Dt.sz, Dt.wt]; omega
  | .tup xs => by
    have := Dt.szs_wts xs
    simp only [Dt.sz, Dt.wt]
    omega
  | .lst xs => by
    have := Dt.szs_wts xs
    simp only [Dt.sz, Dt.wt]
    omega
  | .dct kvs => by
    have : ∀ l : List (Str × Int), 1 + 3 * l.length ≤ kwt l := by
      intro l
      induction l with
      | nil => simp [kwt]
      | cons p r ih => simp only [kwt, List.length_cons]; omega
    simp only [Dt.sz, Dt.wt]
    exact this kvs
theorem Dt.szs_wts : ∀ xs : List Dt, Dt.szs xs ≤ Dt.wts xs
  | [] => by simp only [Dt.szs, Dt.wts]; omega
  | x :: xs => by
    have := x.sz_wt
    have := Dt.szs_wts xs
    simp only [Dt.szs, Dt.wts]
    omega
end
theorem len_szs : ∀ xs : List Dt, xs.length ≤ Dt.szs xs
  | [] => Nat.zero_le _
  | x :: xs => by
    have := len_szs xs
    have : 1 ≤ x.sz := by cases x <;> simp only [Dt.sz] <;> omega
    simp only [Dt.szs, List.length_cons]
    omega
theorem wts_app : ∀ (xs ys : List Dt), Dt.wts (xs ++ ys) = Dt.wts xs + Dt.wts ys
  | [], ys => by simp only [List.nil_append, Dt.wts]; omega
  | x :: xs, ys => by
    simp only [List.cons_append, Dt.wts]
    rw [wts_app xs ys]
    omega
theorem dps_app : ∀ (xs ys : List Dt), Dt.dps (xs ++ ys) = max (Dt.dps xs) (Dt.dps ys)
  | [], ys => by simp only [List.nil_append, Dt.dps]; omega
  | x :: xs, ys => by
    simp only [List.cons_append, Dt.dps]
    rw [dps_app xs ys]
    omega
theorem fines_app {B : Nat} : ∀ (xs ys : List Dt), Dt.fines B (xs ++ ys) ↔ Dt.fines B xs ∧ Dt.fines B ys
  | [], ys => by simp only [List.nil_append, Dt.fines, true_and]
  | x :: xs, ys => by
    simp only [List.cons_append, Dt.fines]
    rw [fines_app xs ys, and_assoc]
end Kv

/-! the end of a law whose defs show things -/
namespace Kf
open PySem PySem.Spec PyProof.Rows L2 LamX
/-- the heap at the law's call: the written part, the tables cs, the script -/
structure Beg (h : Heap) (K : PySem.W.Frag) (mg : Str → Option Value) (cs : List (Addr × Addr)) (a : Addr) (us : Array Value) : Prop where
  kin : K.In h
  gl : h.Ns mainGlobals mg
  bl : ∃ m, h.Ns builtinsNs m ∧ ∀ y : Str, y ≠ "__name__" → m y = bootBuiltins y
  nl : h.NoLimit
  tb : ∀ p ∈ cs, h.get? p.2 = some { cls := .none, data := .fields #[] }
  nk : ∀ p ∈ cs, K.lookup p.2 = none
  cd : ∀ p ∈ cs, PySem.W.CodeHd h p.1 p.2
  bm : ∃ (z : Addr) (q : Obj), mg "__builtins__" = some (.ref z) ∧ z ≠ builtinsNs ∧ h.get? z = some q ∧ q.cls = .type "module" ∧ q.dict = some builtinsNs ∧ q.data = .plain
  sc : h.get? a = some { cls := .type "list", data := .seq us }
/-- tracked are the tables, and perhaps the script -/
structure Fit (H : Hp) (K : PySem.W.Frag) (cs : List (Addr × Addr)) (a : Addr) : Prop where
  tb : ∀ p ∈ cs, H p.2 = some (.tbl #[])
  no : ∀ b u, H b = some u → (∃ p ∈ cs, p.2 = b ∧ u = .tbl #[]) ∨ (b = a ∧ K.lookup a = none ∧ ∃ o xs, u = .frz o (.lst xs))
section
variable {h : Heap} {K : PySem.W.Frag} {mg : Str → Option Value} {cs : List (Addr × Addr)} {a : Addr} {us : Array Value} {H : Hp}
theorem Fit.off (F : Fit H K cs a) (B : Beg h K mg cs a us) {b : Addr} {o : Obj} (e : h.get? b = some o) (n1 : ∀ vs n, o.data ≠ .seq vs n) (n2 : o.data ≠ .fields #[]) : H b = none := by
  match q : H b with
  | none => rfl
  | some u =>
    rcases F.no b u q with ⟨p, hp, rfl, _⟩ | ⟨rfl, _⟩
    · have z := (B.tb p hp).symm.trans e
      exact absurd (congrArg Obj.data (Option.some.inj z)).symm n2
    · have z := B.sc.symm.trans e
      exact absurd (congrArg Obj.data (Option.some.inj z)).symm (n1 _ _)
theorem Fit.dic (F : Fit H K cs a) (B : Beg h K mg cs a us) {b : Addr} {m : Str → Option Value} (N : h.Ns b m) : (hidT h H).Ns b m := by
  obtain ⟨o, es, n, e, d, r⟩ := N
  refine ⟨o, es, n, hidT_get e (F.off B e ?_ ?_), d, r⟩
  · intro vs k z
    rw [d] at z
    cases z
  · intro z
    rw [d] at z
    cases z
theorem Fit.kin (F : Fit H K cs a) (B : Beg h K mg cs a us) : K.In (hidT h H) := fun b o e => hidT_get (B.kin b o e) <| by
  match q : H b with
  | none => rfl
  | some u =>
    rcases F.no b u q with ⟨p, hp, rfl, _⟩ | ⟨rfl, n, _⟩
    · rw [B.nk p hp] at e
      cases e
    · rw [n] at e
      cases e
theorem Fit.mod (F : Fit H K cs a) (B : Beg h K mg cs a us) : L2.Mod K mg (hidT h H) := by
  obtain ⟨m, m1, m2⟩ := B.bl
  obtain ⟨c, c1, c2⟩ := B.nl
  exact ⟨F.kin B, F.dic B B.gl, ⟨m, F.dic B m1, m2⟩, ⟨c, F.dic B c1, c2⟩⟩
theorem Fit.tabs (F : Fit H K cs a) (B : Beg h K mg cs a us) : ∀ p ∈ cs, TabB (hidT h H) mg p.1 p.2 := by
  intro p hp
  have tp := B.tb p hp
  have gP : mainGlobals ≠ p.2 := by
    intro z
    obtain ⟨o, es, n, e, d, _⟩ := B.gl
    rw [z, tp] at e
    cases e
    cases d
  refine ⟨?_, ?_, gP⟩
  · obtain ⟨o, vs, fl, tf, fg, tg, iF, tx, tt, e, r1, r2, r3, r⟩ := B.cd p hp
    refine ⟨o, vs, fl, tf, fg, tg, iF, tx, tt, hidT_get e (F.off B e (fun vs n z => ?_) (fun z => ?_)), r1, r2, r3, r⟩
    · rw [r2] at z
      cases z
    · rw [r2] at z
      cases z
      simp at r3
  · obtain ⟨z, q, b1, b2, b3, b4, b5, b6⟩ := B.bm
    refine ⟨z, q, b1, b2, fun y => ?_, fun y => ?_, hidT_get b3 (F.off B b3 (fun vs n y => ?_) (fun y => ?_)), b4, b5, b6⟩
    · obtain ⟨o, es, n, e, d, _⟩ := B.gl
      rw [← y, b3] at e
      cases e
      rw [b6] at d
      cases d
    · rw [y, tp] at b3
      cases b3
      cases b6
    · rw [b6] at y
      cases y
    · rw [b6] at y
      cases y
/-- what stood stands, behind the call -/
theorem Fit.old (F : Fit H K cs a) (B : Beg h K mg cs a us) {P : Program} {w : World} {G : Hp} {h' : Heap} (U : Un [] [] H G h h') (o1 : HOk P w H h) (o2 : HOk P w G h') : OldK h h' := by
  have tab : ∀ p ∈ cs, ∃ m : Array Value, h'.get? p.2 = some { cls := .none, data := .fields m } := fun p hp => by
    obtain ⟨m, z⟩ := U.tbls p.2 #[] (F.tb p hp)
    exact ⟨_, o2 p.2 _ z⟩
  have rest : ∀ b o, h.get? b = some o → (∃ p ∈ cs, p.2 = b) ∨ h'.get? b = some o := fun b o e => by
    match q : H b with
    | none => exact .inr (U.keep b o e q (by simp) (by simp))
    | some u =>
      rcases F.no b u q with ⟨p, hp, z, _⟩ | ⟨_, _, ob, xs, rfl⟩
      · exact .inl ⟨p, hp, z⟩
      · have e1 := (o1 b _ q).1
        have e2 := (o2 b _ (U.frzs b ob _ q)).1
        rw [e] at e1
        cases e1
        exact .inr e2
  constructor
  · intro b o e
    rcases rest b o e with ⟨p, hp, rfl⟩ | z
    · obtain ⟨m, hm⟩ := tab p hp
      have tp := B.tb p hp
      rw [tp] at e
      cases e
      exact .inr (.inl ⟨((B.cd p hp).tab tp).isCodeTable, rfl, #[], m, rfl, by rw [Array.empty_append]; exact hm⟩)
    · exact .inl z
  · intro b o e
    rcases rest b o e with ⟨p, hp, rfl⟩ | z
    · obtain ⟨m, hm⟩ := tab p hp
      exact ⟨_, hm⟩
    · exact ⟨o, z⟩
end
/-- such a heap there is -/
theorem fit_of {h : Heap} {K : PySem.W.Frag} {mg : Str → Option Value} {cs : List (Addr × Addr)} {a : Addr} {vs : List Value} {ns : List Int} (P : Program) (w : World) (B : Beg h K mg cs a vs.toArray) (hi : IntsAre vs ns) (hl : ns.length ≤ sizeLine) :
    ∃ H : Hp, Fit H K cs a ∧ SqL K H a (ns.map V.int) ∧ HOk P w H h := by
  have lv := hi.length
  have isT : ∀ b, (∃ p ∈ cs, p.2 = b) → h.get? b = some { cls := .none, data := .fields #[] } := by
    rintro b ⟨p, hp, rfl⟩
    exact B.tb p hp
  have na : ¬ ∃ p ∈ cs, p.2 = a := fun z => by
    have y := congrArg Obj.data (Option.some.inj ((isT a z).symm.trans B.sc))
    cases y
  open Classical in
  let T : Hp := fun b => if ∃ p ∈ cs, p.2 = b then some (.tbl #[]) else none
  have Ty : ∀ p ∈ cs, T p.2 = some (.tbl #[]) := fun p hp => if_pos ⟨p, hp, rfl⟩
  have Tn : ∀ b u, T b = some u → (∃ p ∈ cs, p.2 = b) ∧ u = .tbl #[] := fun b u z => by
    by_cases c : ∃ p ∈ cs, p.2 = b
    · exact ⟨c, (Option.some.inj ((if_pos c).symm.trans z)).symm⟩
    · have y := (if_neg c).symm.trans z
      cases y
  match hk : K.lookup a with
  | some o =>
    have e := B.kin a o hk
    rw [B.sc] at e
    cases e
    refine ⟨T, ⟨Ty, fun b u z => ?_⟩, .inr ⟨_, vs.toArray, _, hk, rfl, rfl, rfl, by rw [List.size_toArray, lv]; exact hl, by simpa using vals_ints hi⟩, fun b u z => ?_⟩
    · obtain ⟨⟨p, hp, e⟩, e2⟩ := Tn b u z
      exact .inl ⟨p, hp, e, e2⟩
    · obtain ⟨c, rfl⟩ := Tn b u z
      exact isT b c
  | none =>
    refine ⟨upd T a (.frz { cls := .type "list", data := .seq vs.toArray } (.lst (ns.map V.int))), ⟨fun p hp => ?_, fun b u z => ?_⟩, .inl (.inr ⟨_, upd_same⟩), fun b u z => ?_⟩
    · rw [upd_ne (fun y => na ⟨p, hp, y⟩)]
      exact Ty p hp
    · by_cases c : b = a
      · subst c
        rw [upd_same] at z
        cases z
        exact .inr ⟨rfl, hk, _, _, rfl⟩
      · rw [upd_ne c] at z
        obtain ⟨⟨p, hp, e⟩, e2⟩ := Tn b u z
        exact .inl ⟨p, hp, e, e2⟩
    · by_cases c : b = a
      · subst c
        rw [upd_same] at z
        cases z
        exact ⟨B.sc, by rw [List.length_map]; exact hl, vs, _, vals_ints hi, B.sc⟩
      · rw [upd_ne c] at z
        obtain ⟨c, rfl⟩ := Tn b u z
        exact isT b c
/-- what is known of the law's promise at the head's heap -/
def LawG (l : PySem.W.OpenLaw) (w : World) (K : PySem.W.Frag) (CX : CXT) (k n : Nat) (x : Str) (mg : Str → Option Value) (fa : Addr) (h : Heap) : Prop :=
  ∃ (fd : FuncData) (cs : List (Addr × Addr)) (sp : Sp), (∀ p ∈ cs, h.get? p.2 = some { cls := .none, data := .fields #[] } ∧ K.lookup p.2 = none ∧ PySem.W.CodeHd h p.1 p.2) ∧ (∀ (s : Shared) (u : Value), BindsTo s fd ⟨[u], []⟩ [(x, u)]) ∧
    (∀ (H : Hp) (a : Addr) (ns : List Int), ns.length ≤ n → (∀ z ∈ ns, Builtin.Int.intBits z ≤ 1048576) → (∀ p ∈ cs, H p.2 = some (.tbl #[])) → SqL K H a (ns.map V.int) → sp [.ref a] H (fun v _ => v = .bl true) E0) ∧
    ∀ base : Heap, K.In base → base.Ns mainGlobals mg → (∀ p ∈ cs, TabB base mg p.1 p.2) → FnG l.prog w K mg base CX k fa fd [x] sp
/-- the end; names: the defs with generator expressions -/
theorem walk_ofG {l : PySem.W.OpenLaw} {n k : Nat} {q : Program} {loose : List Str} {XP : (Str → Option Value) → Heap → Prop} {YP : World → Heap → Prop} {d : DefRec} {K : Params → PySem.W.Frag} {CX : World → CXT} {x : Str}
    (hn : l.most = some n) (hz : n ≤ sizeLine) (hdf : d.params.defaults = []) (hr : Room k callerA) (hY : ∀ (w : World) (h : Heap), YP w h → (K w.params).In h)
    (F : ∀ (w : World) (mg : Str → Option Value) (fa : Addr) (h : Heap), YP w h → (K w.params).In h → h.Ns mainGlobals mg → mg d.name = some (.ref fa) →
      (∀ e ∈ recsOf q, ∃ (a : Addr) (o : Obj) (fd : FuncData) (c p : Addr), mg e.name = some (.ref a) ∧ h.get? a = some o ∧ o.data = .func fd ∧ fd.code = .ref c ∧ h.IsCode c p #[] ∧ h.TableAt c p #[]) → LawG l w (K w.params) (CX w) k n x mg fa h)
    (hX : ∀ (w : World) (H : Hp) (s : Shared) (e : Value) (t : Shared), CX w [] H s E0 e t → False) :
    PySem.W.WalkO q loose XP YP l.row.toRowW d [] (fun f vs => PySem.call f vs) := by
  refine Att.attach_callB hn hdf ?_
  intro w s₀ s mg mb fa o pm cd doc a vs ns G Y _ _ _ hmg ha hi hlen bits hg
  have KX := hY w _ Y
  obtain ⟨fd, cs, sp, tabs, bind, start, run⟩ := F w mg fa _ Y KX G.T.g hmg fun e he => G.T.tab e he
  have B : Beg s.heap (K w.params) mg cs a vs.toArray := ⟨KX, G.T.g, ⟨mb, G.T.b, G.T.builtins⟩, G.T.nolimit, fun p hp => (tabs p hp).1, fun p hp => (tabs p hp).2.1, fun p hp => (tabs p hp).2.2, G.T.bmain, ha⟩
  obtain ⟨H, Ft, sq, ok⟩ := fit_of l.prog w B hi (Nat.le_trans hlen hz)
  have e0 : Env0 l.prog w (K w.params) mg (hidT s.heap H) callerA [] s H := ⟨rfl, Ft.mod B, fun b u e => of_hidT e, Nat.le_of_eq (hidT_size _ _), trivial, by simp [frs], ok, .of_eq hg⟩
  refine codeAny_mono ((run _ (Ft.kin B) (Ft.dic B G.T.g) (Ft.tabs B)).go callerA [] s H ⟨[.ref a], []⟩ [.ref a] [.ref a] _ E0 rfl hr e0 (bind s (.ref a)) (.cons rfl .nil) (start H a ns hlen bits Ft.tb sq)) ?_
  intro r t z
  match r, z with
  | .error e, z => exact (hX w H s e t z).elim
  | .ok .next, z => exact z.elim
  | .ok .brk, z => exact z.elim
  | .ok .cont, z => exact z.elim
  | .ok (.ret u), ⟨v, G', os, bare, un, ok', rv, e⟩ =>
    have e : v = .bl true := e
    subst e
    obtain rfl : u = Value.bool true := rv
    exact ⟨rfl, Ft.old B un ok ok', os, bare⟩
end Kf

/-! the signs of a repr: texts of letters, tuples -/
namespace Kf
open PySem PySem.Spec PyProof.Rows L2 PySem.Builtin.Str
/-- of small letters alone -/
def Low (x : Str) : Prop := ∀ c ∈ x.cps.toList, 97 ≤ c ∧ c < 123
theorem ch_low : ∀ i : Fin 26, reprChar 39 (97 + i.val) = [97 + i.val] := by decide +kernel
theorem ch_low' {c : Nat} (h : 97 ≤ c ∧ c < 123) : reprChar 39 c = [c] := by
  have z := ch_low ⟨c - 97, by omega⟩
  have e : 97 + (c - 97) = c := by omega
  simp only [e] at z
  exact z
theorem fold_low : ∀ (l : List Nat) (acc : Array Nat), (∀ c ∈ l, 97 ≤ c ∧ c < 123) → (l.foldl (fun out c => out ++ (reprChar 39 c).toArray) acc).toList = acc.toList ++ l
  | [], acc, _ => by simp
  | c :: l, acc, h => by
    rw [List.foldl_cons, fold_low l _ fun d hd => h d (List.mem_cons_of_mem _ hd), ch_low' (h c List.mem_cons_self)]
    simp
theorem quote_low {x : Str} (h : Low x) : reprQuote x = 39 := by
  unfold reprQuote
  have e : x.cps.contains 39 = false := by
    rw [← Bool.not_eq_true]
    intro z
    have m : (39 : Nat) ∈ x.cps := by simpa using z
    have := h 39 (Array.mem_def.mp m)
    omega
  rw [e]
  rfl
theorem repr_low {x : Str} (h : Low x) : (reprText x).cps.toList = 39 :: (x.cps.toList ++ [39]) := by
  unfold reprText
  rw [quote_low h, ← Array.foldl_toList, Array.toList_push, fold_low _ _ h]
  rfl
theorem cnt_low {x : Str} (h : Low x) : cnt 40 (reprText x).cps.toList = 0 := by
  rw [repr_low h, cnt_cons, cnt_append]
  have z : ∀ l : List Nat, (∀ c ∈ l, 97 ≤ c ∧ c < 123) → cnt 40 l = 0 := by
    intro l
    induction l with
    | nil => intro _; rfl
    | cons c l ih =>
      intro h
      rw [cnt_cons, ih fun d hd => h d (List.mem_cons_of_mem _ hd)]
      have := h c List.mem_cons_self
      rw [if_neg (by omega)]
      rfl
  rw [z _ h]
  decide
theorem len_low {x : Str} (h : Low x) : (reprText x).length = x.cps.toList.length + 2 := by
  show (reprText x).cps.size = _
  rw [← Array.length_toList, repr_low h]
  simp
theorem cps_app (x y : Str) : (x ++ y).cps.toList = x.cps.toList ++ y.cps.toList := by
  show (x.cps ++ y.cps).toList = _
  rw [Array.toList_append]
theorem cnt_tup (ts : List Str) : cnt 40 (tupleText ts).cps.toList = 1 + (ts.map fun t => cnt 40 t.cps.toList).sum := by
  unfold tupleText
  rw [cps_app, cps_app, cnt_append, cnt_append, cnt_join_sum]
  have e1 : cnt 40 (("(" : Str)).cps.toList = 1 := by decide +kernel
  have e2 : cnt 40 ((", " : Str)).cps.toList = 0 := by decide +kernel
  have e3 : cnt 40 (((if ts.length == 1 then ",)" else ")" : String) : Str)).cps.toList = 0 := by split <;> decide +kernel
  rw [e1, e2, e3, Int.mul_zero]
  omega
theorem count_par (x : Str) : Txt.count x "(" = cnt 40 x.cps.toList := by
  have e : (("(" : String) : Str) = ⟨#[40]⟩ := by decide +kernel
  rw [e]
  exact count_cnt x 40
end Kf

namespace Ks
open PySem PySem.Spec PyProof.Rows L2
/-! a set of texts -/
def tx (e : Int × Value) : Str := match e.2 with
  | .str x _ => x
  | _ => Str.empty
def GoodT (w : World) (e : Int × Value) : Prop := ∃ x t, e.2 = Value.str x t ∧ e.1 = hashStr w x
structure SetT (w : World) (es : Array (Int × Value)) (t : SetTable) (S : Str → Bool) (n : Nat) : Prop where
  good : ∀ e ∈ es.toList, GoodT w e
  nd : (es.toList.map tx).Nodup
  mem : ∀ k, S k = true ↔ k ∈ es.toList.map tx
  few : es.size < scanBound
  fit : t.fits es.size = true
  num : es.size = n
  ris : Ris t.place.toList
  led : w.params.followText "set-order" = true ∨ t.led = true
def SetS (w : World) (h : Heap) (a : Addr) (S : Str → Bool) (n : Nat) : Prop :=
  ∃ o es ep t, h.get? a = some o ∧ o.ExactSet ∧ o.data = .set es ep t ∧ SetT w es t S n
section
variable {P : Program} {w : World} {A : Around} {E : Value → Shared → Prop} {s : Shared} {a : Addr} {S : Str → Bool} {n : Nat}
theorem kis (x : Str) (t : Tok) : (PySem.strKind P w).is x (.str x t) = true := by
  show Value.isStrOf x (.str x t) = true
  simp [Value.isStrOf]
theorem goodElems {l : List (Int × Value)} (g : ∀ e ∈ l, GoodT w e) : ElemsOf (PySem.strKind P w) l := fun e he => by
  obtain ⟨x, t, h1, h2⟩ := g e he
  refine ⟨⟨x, ?_, h2⟩, ?_⟩
  · rw [h1]
    exact kis x t
  · rw [h1] <;> rfl
theorem goodMem {l : List (Int × Value)} (g : ∀ e ∈ l, GoodT w e) (k : Str) : k ∈ l.map tx ↔ ∃ e ∈ l, (PySem.strKind P w).is k e.2 = true := by
  have one : ∀ e ∈ l, ((PySem.strKind P w).is k e.2 = true ↔ tx e = k) := fun e he => by
    obtain ⟨x, t, h1, _⟩ := g e he
    unfold tx
    rw [h1]
    constructor
    · intro z
      obtain ⟨u, hu⟩ := Value.isStrOf_shape (show Value.isStrOf k (.str x t) = true from z)
      injection hu
    · intro z
      show (PySem.strKind P w).is k (.str x t) = true
      have z' : x = k := z
      rw [z']
      exact kis k t
  rw [List.mem_map]
  exact ⟨fun ⟨e, he, q⟩ => ⟨e, he, (one e he).2 q⟩, fun ⟨e, he, q⟩ => ⟨e, he, (one e he).1 q⟩⟩
theorem typ (R : SetS w s.heap a S n) : s.TypeIs (.ref a) "set" := by
  obtain ⟨o, es, ep, t, ho, hx, _⟩ := R
  exact ⟨o, ho, hx.1⟩
theorem after {h : Heap} {o : Obj} {es es' : Array (Int × Value)} {ep : Nat} {t t' : SetTable} (ho : h.get? a = some o) (hd : o.data = .set es ep t) :
    (h.update a (Obj.putSet es' t')).get? a = some { o with data := .set es' (ep + 1) t' } := by
  have q := Heap.get?_update_self (Obj.putSet es' t') ho (by rw [putSet_of es' t' hd]; rfl)
  rw [putSet_of es' t' hd] at q
  exact q
theorem tail {g : Bool → Sem Unit} (hg : ∀ (b : Bool) (s₁ : Shared) (Q' : Unit → Shared → Prop), Q' () s₁ → wpAny (model P w) A (g b) Q' E s₁)
    {o : Obj} {es : Array (Int × Value)} {ep : Nat} {t : SetTable} (ho : s.heap.get? a = some o) (hex : o.ExactSet) (hd : o.data = .set es ep t)
    {fs : Array (Int × Value)} {u : SetTable} {S' : Str → Bool} (T : SetT w fs u S' fs.size) {wd : Bool} {R : Option Bool → Shared → Prop}
    (hR : ∀ h', Heap.SameBut a s.heap h' → SetS w h' a S' fs.size → R (some true) { s with heap := h' }) :
    wpAny (model P w) A (do
        storeSet a fs u
        if (!wd && u.tooFull) = true then do
            g (relayAll u fs (SetTable.grown fs.size)).2.2
            storeSet a (relayAll u fs (SetTable.grown fs.size)).1 (relayAll u fs (SetTable.grown fs.size)).2.1
            pure (some true)
          else pure (some true)) R E s := by
  refine wpAny_bind (wpAny_storeSet_of ho hd ?_ (fits_of_scanBound T.few))
  have o1 := after (es' := fs) (t' := u) ho hd
  have sb := Heap.SameBut.update s.heap a (Obj.putSet fs u)
  split
  · have pm := relayAll_perm u fs (SetTable.grown fs.size)
    have f3 := relayAll_fits u fs (SetTable.grown fs.size)
    have r3 := relayAll_ris u fs (SetTable.grown fs.size)
    have l3 := relayAll_led u fs (SetTable.grown fs.size)
    generalize relayAll u fs (SetTable.grown fs.size) = Z at pm f3 r3 l3 ⊢
    obtain ⟨gs, v, gave⟩ := Z
    dsimp only at pm f3 r3 l3 ⊢
    have e : gs.size = fs.size := by
      rw [← Array.length_toList, pm.length_eq, Array.length_toList]
    have few : gs.size < scanBound := by
      rw [e]
      exact T.few
    refine wpAny_bind (hg _ _ _ ?_)
    refine wpAny_bind (wpAny_storeSet_of o1 rfl ?_ (fits_of_scanBound few))
    have o2 := after (es' := gs) (t' := v) o1 rfl
    refine wpAny_pure (hR _ (sb.trans (Heap.SameBut.update _ a _)) ⟨_, gs, _, v, o2, hex, rfl, ?_⟩)
    exact ⟨fun x hx => T.good x (pm.mem_iff.mp hx), (pm.map tx).nodup_iff.mpr T.nd, fun k => (T.mem k).trans (pm.map tx).mem_iff.symm, few, f3, e, r3, T.led.imp id fun z => by rw [l3]; exact z⟩
  · exact wpAny_pure (hR _ sb ⟨_, fs, _, u, o1, hex, rfl, T⟩)
theorem addHashed {k : Str} {tk : Tok} {Q : Bool → Shared → Prop} (R : SetS w s.heap a S n) (room : n + 1 < scanBound)
    (hQ : ∀ h', Heap.SameBut a s.heap h' → SetS w h' a (fun j => S j || decide (j = k)) (if S k = true then n else n + 1) → Q (!S k) { s with heap := h' }) :
    wpAny (model P w) A (setAddHashed a (.str k tk) ((PySem.strKind P w).hash k)) Q E s := by
  obtain ⟨o, es, ep, t, ho, hex, hd, T⟩ := R
  have key := kis (P := P) (w := w) k tk
  have sc : (Value.str k tk).scannable = true := rfl
  have el : ElemsOf (PySem.strKind P w) es.toList := goodElems T.good
  unfold setAddHashed setAddHashedIn
  refine wpAny_holding (wpAny_bind (wpAny_setState_of ho hd T.fit ?_))
  dsimp only
  rw [byScan_of sc T.few el]
  simp only [↓reduceIte]
  unfold setAddByScan
  refine wpAny_bind ?_
  refine wpAny_bind (wpAny_rule ?_)
  refine wpAny_bind (wpAny_setScan_of key ho hd T.fit el ?_)
  cases fi : List.findIdx? (fun e => (PySem.strKind P w).is k e.2) es.toList with
  | some j =>
    dsimp only
    obtain ⟨hj, pj, _⟩ := List.findIdx?_eq_some_iff_getElem.mp fi
    have yes : S k = true := (T.mem k).2 ((goodMem (P := P) T.good k).2 ⟨es.toList[j], List.getElem_mem hj, pj⟩)
    refine wpAny_pure (wpAny_pure ?_)
    have q := hQ s.heap (Heap.SameBut.refl a s.heap) ⟨o, es, ep, t, ho, hex, hd, T.good, T.nd, fun i => by
      rw [Bool.or_eq_true, decide_eq_true_eq, ← T.mem i]
      exact ⟨fun z => z.elim id (fun e => e ▸ yes), .inl⟩, T.few, T.fit, by rw [if_pos yes]; exact T.num, T.ris, T.led⟩
    rw [yes] at q
    exact q
  | none =>
    dsimp only
    have out : k ∉ es.toList.map tx := fun z => by
      obtain ⟨e, he, q⟩ := (goodMem (P := P) T.good k).1 z
      have c := List.findIdx?_eq_none_iff.mp fi e he
      rw [q] at c
      cases c
    have no : S k = false := by
      cases q : S k with
      | false => rfl
      | true => exact absurd ((T.mem k).1 q) out
    have gw : ∀ (b : Bool) {s₁ : Shared} {Q' : Unit → Shared → Prop}, Q' () s₁ → wpAny (model P w) A (match b with
        | true => rule "set.scan.the-table-gave-way"
        | false => pure ()) Q' E s₁ := fun b s₁ Q' q => by
      cases b
      · exact wpAny_pure q
      · exact wpAny_rule q
    have pm := layNew_perm t es ((PySem.strKind P w).hash k) (.str k tk)
    have f1 := layNew_fits t es ((PySem.strKind P w).hash k) (.str k tk)
    have r1 := layNew_ris t es ((PySem.strKind P w).hash k) (.str k tk) T.ris
    have l1 := layNew_led t es ((PySem.strKind P w).hash k) (.str k tk)
    generalize layNew t es ((PySem.strKind P w).hash k) (.str k tk) = Z at pm f1 r1 l1 ⊢
    obtain ⟨fs, u, wd, gave⟩ := Z
    dsimp only at pm f1 r1 l1 ⊢
    rw [Array.toList_push] at pm
    have pc : fs.toList.Perm (((PySem.strKind P w).hash k, Value.str k tk) :: es.toList) := pm.trans (List.perm_append_singleton _ _)
    have pk : (fs.toList.map tx).Perm (k :: es.toList.map tx) := pc.map tx
    have e1 : fs.size = n + 1 := by
      rw [← Array.length_toList, pc.length_eq, List.length_cons, Array.length_toList, T.num]
    have T1 : SetT w fs u (fun j => S j || decide (j = k)) fs.size := by
      refine ⟨fun e he => ?_, pk.nodup_iff.mpr (List.nodup_cons.mpr ⟨out, T.nd⟩), fun i => ?_, by rw [e1]; exact room, f1, rfl, r1, T.led.imp id fun z => by rw [l1]; exact z⟩
      · rcases List.mem_cons.mp (pc.mem_iff.mp he) with z | z
        · rw [z]
          exact ⟨k, tk, rfl, rfl⟩
        · exact T.good e z
      · rw [Bool.or_eq_true, decide_eq_true_eq, T.mem i, pk.mem_iff, List.mem_cons]
        exact Or.comm
    have fin : ∀ h', Heap.SameBut a s.heap h' → SetS w h' a (fun j => S j || decide (j = k)) fs.size → Q true { s with heap := h' } := fun h' sb r => by
      have q := hQ h' sb
      rw [no] at q
      rw [e1] at r
      exact q r
    refine wpAny_bind (gw _ ?_)
    split
    · refine wpAny_bind ?_
      rw [hashByValue_scannable 8 sc]
      refine wpAny_pure ?_
      have T2 : SetT w fs (if plainKind (.str k tk) = true then u else { u with plain := false }) (fun j => S j || decide (j = k)) fs.size := by
        split
        · exact T1
        · exact { T1 with fit := SetTable.fits_plain_off T1.fit, ris := T1.ris, led := T1.led }
      refine tail (S' := fun j => S j || decide (j = k)) ?_ ho hex hd T2 ?_
      · intro b s₁ Q' q
        exact gw b q
      · intro h' sb r
        dsimp only
        exact wpAny_pure (fin h' sb r)
    · refine wpAny_bind (wpAny_pure ?_)
      simp only [↓reduceIte]
      refine tail (S' := fun j => S j || decide (j = k)) ?_ ho hex hd T1 ?_
      · intro b s₁ Q' q
        exact gw b q
      · intro h' sb r
        dsimp only
        exact wpAny_pure (fin h' sb r)
/-- set.add of a text -/
theorem addCall {k : Str} {tk : Tok} {Q : Value → Shared → Prop} (R : SetS w s.heap a S n) (room : n + 1 < scanBound)
    (hQ : ∀ h', Heap.SameBut a s.heap h' → SetS w h' a (fun j => S j || decide (j = k)) (if S k = true then n else n + 1) → Q .none { s with heap := h', toks := s.toks + 1 }) :
    wpAny (model P w) A (call (.builtin "set.add") [.ref a, .str k tk]) Q E s := by
  refine wpAny_call_entry F.slot_set_add (typ R) F.entry_set_add ?_ (F.args_set_add_2 _ _)
  unfold Builtin.«set.add» Builtin.Frozenset.oneOther
  simp only [List.isEmpty_nil, bind_assoc]
  unfold Builtin.Frozenset.addrOf setAdd
  refine wpAny_bind (wpAny_pure ?_)
  try dsimp only
  refine wpAny_bind (wpAny_pure ?_)
  try dsimp only
  refine wpAny_bind ?_
  refine wpAny_holding ?_
  refine wpAny_bind ((PySem.strKind P w).pyHash (kis k tk) ?_)
  refine addHashed (s := { s with toks := s.toks + 1 }) R room (fun h' sb r => ?_)
  show wpAny _ _ (ret Value.none) _ _ _
  exact wpAny_pure ⟨_, rfl, hQ h' sb r⟩
theorem fresh {h : Heap} (w : World) : SetS w (h.push { cls := .type "set", dict := none, data := .set #[] 0 (.fresh 0 0 (!w.params.followText "set-order")) }) h.objs.size (fun _ => false) 0 := by
  refine ⟨_, #[], 0, _, Heap.get?_push_size _ rfl, ⟨rfl, rfl, rfl⟩, rfl, ⟨fun e he => ?_, ?_, fun k => ?_, ?_, ?_, rfl, List.Pairwise.nil, ?_⟩⟩
  · simp at he
  · simp
  · simp
  · decide
  · rfl
  · show _ ∨ (!w.params.followText "set-order") = true
    cases w.params.followText "set-order"
    · exact .inr rfl
    · exact .inl rfl
end
/-- the set of texts at a, as a tracked thing -/
def SetH (w : World) (a : Addr) (S : Str → Bool) (n : Nat) : HO := .ext fun h => SetS w h a S n
theorem setH_new {w : World} {P : Program} {H : Hp} {h : Heap} {a : Addr} {S : Str → Bool} {n : Nat} (R : SetS w h a S n) : ObjOk P w H h a (SetH w a S n) := by
  have ⟨o, es, ep, t, ho, r⟩ := R
  refine ⟨R, ⟨o, ho⟩, fun h1 h2 p k => ?_⟩
  obtain ⟨o, es, ep, t, ho, r⟩ := p
  exact ⟨o, es, ep, t, k o ho, r⟩
section
variable {X : Cx} {pins : List (Addr × Obj)} {σ : L2.St} {H : Hp} {s : Shared}
theorem setH_get {a : Addr} {S : Str → Bool} {n : Nat} (I : Inv X pins σ H s) (ha : H a = some (SetH X.w a S n)) : SetS X.w s.heap a S n := (I.hok a _ ha).1
theorem addIn {E : Value → Shared → Prop} {D : Addr} {S : Str → Bool} {n : Nat} {y : Str} {tk : Tok} {Q : Value → Shared → Prop} (I : Inv X pins σ H s) (hD : H D = some (SetH X.w D S n)) (room : n + 1 < scanBound)
    (h : ∀ s', Inv X pins σ (upd H D (SetH X.w D (fun j => S j || decide (j = y)) (if S y = true then n else n + 1))) s' → Q .none s') : wpAny (model X.prog X.w) X.A (call (.builtin "set.add") [.ref D, .str y tk]) Q E s := by
  refine addCall (setH_get I hD) room fun h' sb new => h _ ?_
  have he : ∃ u, h'.get? D = some u := let ⟨o, _, _, _, ho, _⟩ := new; ⟨o, ho⟩
  exact I.write (e := D) (t' := s.toks + 1) (by rw [hD]; trivial) (.inl rfl) (fun b u hb hu => (sb.2 b hb).trans hu) he (setH_new new)
end
end Ks

namespace Ks
open PySem PySem.Spec PyProof.Rows L2
section
variable {P : Program} {w : World} {A : Around} {E : Value → Shared → Prop} {s : Shared} {a : Addr} {S : Str → Bool} {n : Nat}
theorem strsOf {l : List Value} (h : ∀ v ∈ l, ∃ x t, v = Value.str x t) : ∃ xs, StrsAre l xs := by
  induction l with
  | nil => exact ⟨[], .nil⟩
  | cons v l ih =>
    obtain ⟨x, t, rfl⟩ := h v List.mem_cons_self
    obtain ⟨xs, hx⟩ := ih fun u hu => h u (List.mem_cons_of_mem _ hu)
    exact ⟨x :: xs, .cons x t hx⟩
def txv (v : Value) : Str := match v with
  | .str x _ => x
  | _ => Str.empty
theorem strs_eq {l : List Value} {xs : List Str} (h : StrsAre l xs) : xs = l.map txv := by
  induction h with
  | nil => rfl
  | cons x t _ ih =>
    rw [List.map_cons, ← ih]
    rfl
/-- sorted(a set of texts) -/
theorem sortedSet {Q : Value → Shared → Prop} (R : SetS w s.heap a S n) (hh : A.handled = none) (h64 : n < 64)
    (hQ : ∀ (s' : Shared) (p : Addr) (out : Array Value) (c : Nat) (ys : List Str), (∀ b o, s.heap.get? b = some o → s'.heap.get? b = some o) → s'.gens = s.gens → s'.os = s.os → s.heap.objs.size ≤ p →
      s'.heap.get? p = some (seqObj "list" out c) → StrsAre out.toList ys → sortedS ys = true → ys.Nodup → (∀ k, k ∈ ys ↔ S k = true) → ys.length = n → Q (.ref p) s') :
    wpAny (model P w) A (call (.builtin "sorted") [.ref a]) Q E s := by
  obtain ⟨o, es, ep, t, ho, hex, hd, T⟩ := R
  refine Calls.call_function_entry kind_sorted plain_sorted entry_sorted (args_sorted1 _) ?_
  unfold Builtin.«sorted»
  refine wpAny_bind (m := checkCount "sorted" 1 1 _) (wpAny_pure ?_)
  refine wpAny_bind (collect_set (A := A.in1) hh ⟨o, ho, hex.1, hd⟩ T.fit T.few T.ris T.led fun s1 vs k1 z1 g1 o1 pm => ?_)
  have len : vs.length = n := by
    rw [pm.length_eq, List.length_map, Array.length_toList]
    exact T.num
  obtain ⟨xs, hx⟩ := strsOf (l := vs) fun v hv => by
    obtain ⟨e, he, q⟩ := List.mem_map.mp (pm.mem_iff.mp hv)
    obtain ⟨x, t, h1, _⟩ := T.good e he
    exact ⟨x, t, by rw [← q]; exact h1⟩
  have px : xs.Perm (es.toList.map tx) := by
    have q := pm.map txv
    rw [List.map_map] at q
    rw [strs_eq hx]
    exact q
  refine wpAny_bind (wpAny_newList ?_ (by rw [len, sizeLine_eq]; omega))
  have oL : (s1.heap.push (seqObj "list" vs.toArray 0)).get? s1.heap.objs.size = some (seqObj "list" vs.toArray 0) := Heap.get?_push_size _ rfl
  refine wpAny_bind (wpAny_holding (wpAny_call_entry slot_list_sort ⟨_, oL, rfl⟩ entry_list_sort (list_sort_treeK strKind_oneLt oL hx.keysOf
    (fun v₁ v₂ rest e => keyKind_strs (by rw [← e]; exact hx)) (by rw [len]; exact h64) fun st' hp hs => ⟨_, rfl, ?_⟩) (args_list_sort _)))
  obtain ⟨ys, a1, a2, a3⟩ := sorted_out_str hx hp hs
  obtain ⟨c, hc⟩ := sortedHeap_at (vs := vs) (out := (arrOf st').map (·.2)) oL
  have py : ys.Perm (es.toList.map tx) := a2.trans px
  refine wpAny_pure ⟨_, rfl, hQ _ s1.heap.objs.size _ c ys (fun b u e => ?_) g1 o1 z1 hc a1 a3 (py.nodup_iff.mpr T.nd) (fun k => by rw [py.mem_iff, ← T.mem k]) ?_⟩
  · have q := k1 b u e
    have lt := Heap.lt_size q
    show (sortedHeap (s1.heap.push (seqObj "list" vs.toArray 0)) s1.heap.objs.size vs _).get? b = some u
    rw [sortedHeap_old (Nat.ne_of_lt lt) (by rw [size_push']; exact Nat.lt_succ_of_lt lt)]
    exact Heap.get?_push_of_some _ q
  · rw [py.length_eq, List.length_map, Array.length_toList]
    exact T.num
end
section
variable {X : Cx}
def rSortT (w : World) : List V → Hp → VK → Prop := fun vs H Q => ∃ (a : Addr) (S : Str → Bool) (n : Nat), vs = [V.ref a] ∧ H a = some (SetH w a S n) ∧ n < 64 ∧
  ∀ (ys : List Str) (p : Addr), sortedS ys = true → ys.Nodup → (∀ k : Str, k ∈ ys ↔ S k = true) → ys.length = n → H p = none → Q (.ref p) (upd H p (.lst (ys.map V.str)))
theorem cr_sortT (hc : X.calm = true) : CallR X (.builtin "sorted") (rSortT X.w) := by
  intro pins s σ H vs us Q I r h
  obtain ⟨a, S, n, rfl, ha, h64, q⟩ := h
  rw [Vals.ref1 r]
  refine sortedSet (setH_get I ha) (I.ok.hd hc) h64 fun s' p out c ys k g o hp hg hi hs hd hm hl => ?_
  have len : (ys.map V.str).length ≤ sizeLine := by
    rw [List.length_map, hl, sizeLine_eq]
    omega
  have hn : H p = none := I.hok.fresh hp
  have e : s' = { s with heap := s'.heap, gens := s'.gens, drawn := s'.drawn, toks := s'.toks } := by
    cases s'
    cases s
    cases o
    rfl
  have J : Inv X pins σ (upd H p (.lst (ys.map V.str))) { s with heap := s'.heap, gens := s'.gens, drawn := s'.drawn, toks := s'.toks } :=
    I.call (ch := []) (Un.laid k hp hn) (I.hok.laid k hp ⟨len, out.toList, c, vals_of_strs hi, hg⟩) (by rw [g]; exact I.bare) (fun _ z => nomatch z)
  rw [e]
  exact ⟨.ref p, _, J, rfl, q ys p hs hd hm hl hn⟩
end
end Ks

namespace Ks
open PySem PySem.Spec PyProof.Rows L2
def inL (l : List Str) : Str → Bool := fun k => decide (k ∈ l)
section
variable {P : Program} {w : World} {A : Around} {E : Value → Shared → Prop} {s : Shared}
theorem SetS.keep {h h' : Heap} {a : Addr} {S : Str → Bool} {n : Nat} (R : SetS w h a S n) (k : ∀ o, h.get? a = some o → h'.get? a = some o) : SetS w h' a S n := by
  obtain ⟨o, es, ep, t, ho, r⟩ := R
  exact ⟨o, es, ep, t, k o ho, r⟩
theorem SetS.as {h : Heap} {a : Addr} {S S' : Str → Bool} {n : Nat} (R : SetS w h a S n) (e : ∀ k, S' k = S k) : SetS w h a S' n := by
  have q : S' = S := funext e
  rw [q]
  exact R
theorem strGet {l : List Value} {xs : List Str} (h : StrsAre l xs) : ∀ (i : Nat) (v : Value), l[i]? = some v → ∃ x t, xs[i]? = some x ∧ v = .str x t := by
  induction h with
  | nil =>
    intro i v z
    simp at z
  | cons x t _ ih =>
    intro i v z
    cases i with
    | zero => exact ⟨x, t, rfl, (Option.some.inj z).symm⟩
    | succ i => exact ih i v z
/-- the loop of set.update over texts -/
theorem updLoop {I : Addr} {fp wr : List Addr} {G : Array GenState → Array GenState → Prop} {n : Nat} {Pv : Nat → Value → Prop} {St : Nat → Shared → Prop} {R : Result → Shared → Prop}
    (W : WalksS P w A.in1 I fp wr G n Pv St) (D : Addr) (hDf : D ∉ fp) (xs : List Str) (hn : n = xs.length) (few : n + 1 < scanBound) (hval : ∀ i v, Pv i v → ∃ x t, xs[i]? = some x ∧ v = .str x t) :
    ∀ (k i : Nat) (s : Shared), n - i = k → i ≤ n → St i s → (∃ m, m ≤ i ∧ SetS w s.heap D (inL (xs.take i)) m) →
      (∀ s' m, m ≤ n → Moved (D :: wr) G s s' → SetS w s'.heap D (inL xs) m → R (.ok (.ret .none)) s') → codeAny (model P w) A (.builtin "set.update.loop" ⟨[.ref D, .ref I], []⟩) R s := by
  have hDw : D ∉ wr := fun z => hDf (W.sub _ z)
  have sub : ∀ b ∈ wr, b ∈ D :: wr := fun b hb => List.mem_cons_of_mem _ hb
  intro k
  induction k with
  | zero =>
    intro i s hk hi st ⟨m, hm, hS⟩ hR
    have e : i = n := by omega
    refine codeAny_builtin F.entry_set_update_loop ?_
    rw [Around.under_plainId F.plain_set_update_loop _]
    show wpAny _ A.in1 (pyNext (.ref I) >>= _) _ _ s
    rw [e] at st
    refine wpAny_bind (W.done s _ _ st fun s' mv => ?_)
    show wpAny _ A.in1 (ret Value.none) _ _ s'
    refine wpAny_pure (hR s' m (by omega) (mv.mono sub) ?_)
    rw [e, hn, List.take_length] at hS
    exact hS.keep fun o z => mv.heap D o hDw z
  | succ k ih =>
    intro i s hk hi st ⟨m, hm, hS⟩ hR
    have lt : i < n := by omega
    refine codeAny_builtin F.entry_set_update_loop ?_
    rw [Around.under_plainId F.plain_set_update_loop _]
    show wpAny _ A.in1 (pyNext (.ref I) >>= _) _ _ s
    refine wpAny_bind (W.item i s _ _ lt st fun v s' hP st' mv => ?_)
    obtain ⟨x, t, hx, rfl⟩ := hval i v hP
    have hS' : SetS w s'.heap D (inL (xs.take i)) m := hS.keep fun o z => mv.heap D o hDw z
    show wpAny _ A.in1 (holding [Value.str x t] (setAdd D (.str x t)) >>= _) _ _ s'
    refine wpAny_bind (wpAny_holding ?_)
    unfold setAdd
    refine wpAny_holding ?_
    refine wpAny_bind ((PySem.strKind P w).pyHash (kis x t) ?_)
    refine addHashed (s := { s' with toks := s'.toks + 1 }) hS' (by omega) (fun h' sb S2 => ?_)
    have grow : xs.take (i + 1) = xs.take i ++ [x] := by rw [List.take_add_one, hx]; rfl
    have S3 : ∃ q, q ≤ i + 1 ∧ SetS w h' D (inL (xs.take (i + 1))) q := by
      refine ⟨_, ?_, S2.as fun j => ?_⟩
      · split <;> omega
      · unfold inL
        rw [grow, ← Bool.decide_or]
        exact decide_eq_decide.mpr (by rw [List.mem_append, List.mem_singleton])
    refine wpAny_pure ⟨plainId_quiet F.plain_set_update_loop _, ih (i + 1) _ (by omega) lt (W.frame _ s' _ _ st' (Nat.le_succ _) fun b hb o z => ?_) S3 (fun s'' q hq mv' S4 => ?_)⟩
    · rw [sb.2 b (fun y : b = D => hDf (by rw [← y]; exact hb))]
      exact z
    · refine hR s'' q hq (Moved.trans W.gtrans ((mv.mono sub).then_heap (Nat.le_succ _) fun b o hb z => ?_) mv') S4
      rw [sb.2 b (fun y : b = D => hb (by rw [y]; exact List.mem_cons_self))]
      exact z
abbrev set0 (w : World) : Obj := { cls := .type "set", dict := none, data := .set #[] 0 (.fresh 0 0 (!w.params.followText "set-order")) }
/-- set(a list of texts) -/
theorem callSet {l : Addr} {items : Array Value} (xs : List Str) {Q : Value → Shared → Prop} (hh : A.handled = none) (hl : s.heap.IsList l items) (hit : StrsAre items.toList xs) (few : xs.length + 1 < scanBound)
    (h : ∀ (h' : Heap) (tk m : Nat), m ≤ xs.length → SetS w h' s.heap.objs.size (inL xs) m → (∀ b o, s.heap.get? b = some o → h'.get? b = some o) → Q (.ref s.heap.objs.size) { s with heap := h', toks := tk }) :
    wpAny (model P w) A (call (.type "set") [.ref l]) Q E s := by
  have hsz : items.size = xs.length := by
    rw [← Array.length_toList]
    exact StrsAre.len_eq hit
  obtain ⟨c, tl, hmro⟩ := F.called_set.mro
  have hmade := F.called_set.made
  have hsub := F.called_set.sub
  refine wpAny_call (codeAny_of_tree ?_)
  show wpAny _ _ (callAny (.type "set") _) _ _ _
  refine wpAny_pure ⟨Code.quiet_builtin _ (by decide +kernel), codeAny_builtin F.entry_type_call ?_⟩
  rw [Around.under_plain (weight_type_call_type "set" [.ref l] []) rfl]
  have h1 := F.called_set.notType
  have h2 := F.called_set.canCreate
  have h3 := F.typeCall_set_1 (.ref l)
  repeat (any_goals (first | assumption | wp_step))
  refine codeAny_mono (code_set_led1 (.ref l) (E := E) (Q₁ := fun obj s₁ => obj = .ref s.heap.objs.size ∧ s₁ = { s with heap := s.heap.push (set0 w) }) ⟨rfl, rfl⟩) (fun r s₁ hr => ?_)
  cases r with
  | error e => exact hr
  | ok fl =>
    cases fl with
    | ret obj =>
      obtain ⟨rfl, rfl⟩ := hr
      have hS : (s.heap.push (set0 w)).get? s.heap.objs.size = some (set0 w) := Heap.get?_push_size _ rfl
      have hT : Shared.TypeIs { s with heap := s.heap.push (set0 w) } (.ref s.heap.objs.size) "set" := ⟨_, hS, rfl⟩
      have hli := F.called_set.init.lookup
      have hbi := F.called_set.init.bind (.ref s.heap.objs.size)
      repeat (any_goals (first | assumption | wp_step))
      refine codeAny_mono (codeAny_call_builtin (R := wants (fun r s₂ => r = .none ∧ ∃ h' tk m, m ≤ xs.length ∧ s₂ = { s with heap := h', toks := tk } ∧ SetS w h' s.heap.objs.size (inL xs) m ∧
          (∀ b o, s.heap.get? b = some o → h'.get? b = some o)) E) F.called_set.init.plain F.entry_set_init (check_set_init_1 hT ?_)) (fun r₂ s₂ hr₂ => ?_)
      · obtain ⟨ol, hol, hcl, nl, hdl⟩ := hl
        obtain ⟨ocls, odict, odata, oslots⟩ := ol
        simp only at hcl hdl
        subst hcl
        subst hdl
        have hol' : (s.heap.push (set0 w)).get? l = some { cls := .type "list", dict := odict, data := .seq items nl, slots := oslots } := Heap.get?_push_of_some _ hol
        have hsls := F.sub_list_set
        have hslf := F.sub_list_frozenset
        have hne : (Value.type "list" == Value.type "dict") = false := by decide
        have hl1 : (s.heap.push (set0 w)).IsList l items := ⟨_, hol', rfl, nl, rfl⟩
        unfold Builtin.«set.__init__» noKeywords Builtin.Frozenset.updateFrom
        generalize hPI : pyIter = PI
        wp_walk
        subst hPI
        refine wpAny_pyIter_list hl1 ?_
        refine wpAny_bind (wpAny_runValue ?_)
        have ll : l < s.heap.objs.size := Heap.lt_size hol
        have hh3 : A.in1.in1.in1.handled = none := by simp [hh]
        have zz : (s.heap.push (set0 w)).objs.size = s.heap.objs.size + 1 := Heap.size_push ..
        have nI : l ≠ (s.heap.push (set0 w)).objs.size := by
          rw [zz]
          exact Nat.ne_of_lt (Nat.lt_succ_of_lt ll)
        have out : s.heap.objs.size ∉ [(s.heap.push (set0 w)).objs.size, l] := by
          rw [zz]
          intro z
          rcases List.mem_cons.mp z with z | z
          · exact Nat.lt_irrefl _ (Nat.lt_of_lt_of_eq (Nat.lt_succ_self _) z.symm)
          · exact Nat.lt_irrefl _ (Nat.lt_of_lt_of_eq ll (List.mem_singleton.mp z))
        have hval : ∀ (i : Nat) (v : Value), items[i]? = some v → ∃ x t, xs[i]? = some x ∧ v = .str x t := fun i v hv => by
          exact strGet hit i v (by rw [Array.getElem?_toList]; exact hv)
        refine updLoop ((Walks.list hh3 _ l nI items).toS) s.heap.objs.size out xs hsz (by omega) hval (items.size - 0) 0 _ (by omega) (Nat.zero_le _)
          ⟨⟨_, Heap.get?_push_size _ rfl, rfl, rfl⟩, (hl1.push _)⟩ ⟨0, Nat.le_refl _, ?_⟩ (fun s' m hm mv S4 => ?_)
        · refine ((fresh w).keep fun o z => Heap.get?_push_of_some _ z).as fun k => ?_
          unfold inL
          exact decide_eq_false (by rw [List.take_zero]; exact List.not_mem_nil)
        · obtain ⟨h', g2, d', tk', os'⟩ := s'
          have eg : g2 = s.gens := mv.gens
          have ed : d' = s.drawn := mv.drawn
          have eo : os' = s.os := mv.os
          subst eg
          subst ed
          subst eo
          show wpAny _ _ _ _ _ _
          refine wpAny_pure ?_
          show wpAny _ _ (ret Value.none) _ _ _
          refine wpAny_pure ⟨rfl, h', tk', m, by omega, rfl, S4, fun b o z => mv.heap b o (fun y => ?_) (Heap.get?_push_of_some _ (Heap.get?_push_of_some _ z))⟩
          have lb := Heap.lt_size z
          rcases List.mem_cons.mp y with y | y
          · rw [y] at lb
            exact Nat.lt_irrefl _ lb
          · rw [List.mem_singleton.mp y, zz] at lb
            exact Nat.lt_irrefl _ (Nat.lt_of_succ_lt lb)
      · cases r₂ with
        | error e => exact hr₂
        | ok fl₂ =>
          cases fl₂ with
          | ret r =>
            obtain ⟨rfl, h', tk, m, hm, rfl, S4, kp⟩ := hr₂
            repeat (any_goals (first | assumption | wp_step))
            exact h _ _ _ hm S4 kp
          | _ => exact hr₂.elim
    | _ => exact hr.elim
end
section
variable {X : Cx}
def rSetT (K : PySem.W.Frag) (w : World) : List V → Hp → VK → Prop := fun vs H Q => ∃ (l : Addr) (xs : List Str), vs = [V.ref l] ∧ SqL K H l (xs.map V.str) ∧ xs.length + 1 < scanBound ∧
  ∀ (p : Addr) (m : Nat), m ≤ xs.length → H p = none → Q (.ref p) (upd H p (SetH w p (inL xs) m))
theorem cr_setT (hc : X.calm = true) : CallR X (.type "set") (rSetT X.K X.w) := by
  intro pins s σ H vs us Q I r h
  obtain ⟨l, xs, rfl, hq, few, q⟩ := h
  rw [Vals.ref1 r]
  obtain ⟨its, rv, pl, hz⟩ := I.list hq
  refine callSet xs (I.ok.hd hc) pl.isList (by rw [List.toList_toArray]; exact rv.strs) few fun h' tk m hm S kp => ?_
  have hn : H s.heap.objs.size = none := I.hok.fresh (Nat.le_refl _)
  exact ⟨.ref _, _, I.laid (t' := tk) kp (Nat.le_refl _) (setH_new S), rfl, q _ m hm hn⟩
end
end Ks

namespace Ks
open PySem PySem.Spec PyProof.Rows L2
section
variable {X : Cx}
/-- {elt for target in iter if ..}, elt a text: D the new set -/
def tScT (w : World) (wi : TI) (g : TG) (tt : TT) (te : TE) (vs : List Nat) : TE := fun σ H Q => wi σ H fun J G => ∀ D, G D = none →
  ∃ W : Nat → Nat → Hp → Prop, (∃ m, W 0 m (upd G D (SetH w D (fun _ => false) 0))) ∧ ∀ i m H, W i m H →
    (J.stop i H ∧ Q (.ref D) H) ∨ (J.go i H ∧ ∃ N : Hp → Prop, (∀ H', N H' → ∃ m', m' < m ∧ W (i + 1) m' H') ∧ ∀ x H', J.yld i H x H' →
      g x (wipe σ vs) H' fun τ H2 => wipe τ vs = wipe σ vs ∧ tt τ H2 fun b H3 => if b = true then
        te τ H3 fun y H4 => ∃ (c : Str) (S : Str → Bool) (n : Nat), y = .str c ∧ H4 D = some (SetH w D S n) ∧ n + 1 < scanBound ∧ N (upd H4 D (SetH w D (fun j => S j || decide (j = c)) (if S c = true then n else n + 1)))
      else N H3)
theorem pe_scT {elt tg iter : Expr} {ifs : List Expr} {scope : Scope} {own : List (PySem.Str × Nat)} {pos : Pos} {wi : TI} {g : TG} {tt : TT} {te : TE} (hc : X.calm = true) (hN : X.N.Nodup) (hi : PI X tg iter wi) (ok : BlkOk X.N X.env.scope scope own)
    (hg : ∀ (s : Shared) (H : Hp) (C : Addr) (cl : List (PySem.Str × Addr)) (fp : List Addr), PG (X.blk s H scope (compEnvC scope cl C X.env) fp) tg g)
    (ht : ∀ (s : Shared) (H : Hp) (C : Addr) (cl : List (PySem.Str × Addr)) (fp : List Addr), PTs (X.blk s H scope (compEnvC scope cl C X.env) fp) ifs tt)
    (he : ∀ (s : Shared) (H : Hp) (C : Addr) (cl : List (PySem.Str × Addr)) (fp : List Addr), PE (X.blk s H scope (compEnvC scope cl C X.env) fp) elt te)
    (hs : ∀ x, foldedSetIterable iter X.env x = pure x := by intro _; rfl) :
    PE X (.SetComp elt [⟨tg, iter, ifs, 0⟩] scope pos) (tScT X.w wi g tt te (own.map (·.2))) := by
  refine ⟨fun pins s σ H Q I h => ?_⟩
  rw [PpSet.eval_SetComp]
  have hfree : ∀ y ∈ scope.names, y.2 = .free → ∃ c, X.env.cells.lookup y.1 = some c := fun y hy e => (ok.free y hy e).elim (fun k => I.ok.has _ (.inl k)) fun k => I.ok.has _ (.inr k)
  refine wpAny_comprehension_free (use := none) rfl hs (closure_ok hfree) ok.kind (fun y hy e => by rw [ok.uniq y hy, e])
    (thn (hi.run pins s σ H _ I h) fun xv s1 hx => thn hx fun itv s2 h2 => ?_)
  obtain ⟨it, fp, tn, J, G, e, I2, T, st2, f2, q⟩ := h2
  subst e
  refine PpSet.newSet_ok (newEnv_comp ?_)
  generalize hD : s2.heap.objs.size = D
  have free : G D = none := I2.hok.fresh (Nat.le_of_eq hD)
  obtain ⟨W, ⟨m0, w0⟩, turn⟩ := q D free
  generalize e3 : ({ s2 with heap := s2.heap.push { cls := .type "set", dict := none, data := .set #[] 0 (.fresh 0 0 (!X.w.params.followText "set-order")) } } : Shared) = s3
  have kp : ∀ b o, s2.heap.get? b = some o → s3.heap.get? b = some o := fun b o z => by
    rw [← e3]
    exact Heap.get?_push_of_some _ z
  have I3 : Inv X pins σ (upd G D (SetH X.w D (fun _ => false) 0)) s3 := by
    rw [← e3]
    refine I2.laid (t' := s2.toks) (fun b o z => Heap.get?_push_of_some _ z) (Nat.le_of_eq hD) ?_
    rw [← hD]
    exact setH_new (fresh X.w)
  have f3 : ∀ b ∈ fp, FpOk X pins (upd G D (SetH X.w D (fun _ => false) 0)) b ∧ b < s3.heap.objs.size := fun b hb => by
    obtain ⟨o, z, _⟩ := T.obj _ _ st2 b hb
    have lt := Heap.lt_size z
    refine ⟨⟨?_, (f2 b hb).2⟩, Heap.lt_size (kp b o z)⟩
    rw [upd_ne (by rw [← hD]; exact Nat.ne_of_lt lt)]
    exact (f2 b hb).1
  have st3 : tn 0 s3.heap := T.keep _ _ _ st2 fun b _ o z => kp b o z
  have I4 := block_start I3 ok hN f3
  generalize eH : upd G D (SetH X.w D (fun _ => false) 0) = H3 at I3 I4 w0 f3
  have pg := hg s3 H3 s3.heap.objs.size (cellsFrom (s3.heap.objs.size + 1) scope.names (cloFrom X.env.cells scope.names [])) fp
  have pt := ht s3 H3 s3.heap.objs.size (cellsFrom (s3.heap.objs.size + 1) scope.names (cloFrom X.env.cells scope.names [])) fp
  have pe := he s3 H3 s3.heap.objs.size (cellsFrom (s3.heap.objs.size + 1) scope.names (cloFrom X.env.cells scope.names [])) fp
  have nfp : ∀ b ∈ fp, H3 b = none := fun b hb => (f3 b hb).1.1
  show codeAny _ _ (.compStart (.SetComp elt [⟨tg, iter, ifs, 0⟩] scope pos) 0 (.ref it) (.ref D)
      (compEnvC scope (cellsFrom (s3.heap.objs.size + 1) scope.names (cloFrom X.env.cells scope.names [])) s3.heap.objs.size X.env))
    (compPost (model X.prog X.w) X.A X.xe none (EP X pins σ Q) (.ref D) s3.heap.objs.size)
    { s3 with heap := pushCells (s3.heap.push { cls := .type "dict", data := .dict #[] }) scope.names }
  generalize ece : compEnvC scope (cellsFrom (s3.heap.objs.size + 1) scope.names (cloFrom X.env.cells scope.names [])) s3.heap.objs.size X.env = ce at I4 pg pt pe ⊢
  have cL : ce.locals = s3.heap.objs.size := by
    subst ece
    rfl
  generalize e4 : ({ s3 with heap := pushCells (s3.heap.push { cls := .type "dict", data := .dict #[] }) scope.names } : Shared) = s4 at I4 ⊢
  have st4 : tn 0 s4.heap := T.keep _ _ _ st3 fun b _ o z => by
    rw [← e4]
    exact pushCells_keeps _ _ _ _ (Heap.get?_push_of_some _ z)
  have sta : ∀ {τ : L2.St} {F : Hp} {s' : Shared}, Inv (X.blk s3 H3 scope ce fp) [] τ F s' → (∀ b ∈ fp, F b = none) → ∀ b ∈ fp, FpOk (X.blk s3 H3 scope ce fp) [] F b := fun {τ F s'} K hn b hb =>
    ⟨hn b hb, (K.ok.exf b hb).1, K.ok.exfs b hb, .inl hb, fun x c z => (K.ok.exf b hb).2 x c z, fun p hp => absurd (show p ∈ ([] : List (Addr × Obj)) ++ [] from hp) (by simp)⟩
  have done : ∀ (s' : Shared) (m : Str → Option Value) (F : Hp), Inv X pins σ F s' → Q (.ref D) F → s'.heap.Ns s3.heap.objs.size m → FpOk X pins F s3.heap.objs.size →
      compPost (model X.prog X.w) X.A X.xe none (EP X pins σ Q) (.ref D) s3.heap.objs.size (.ok .next) s' := fun s' m F K k hn f => ⟨m, hn, fun h'' sb => by
    obtain ⟨f0, f1, f2, f3, f4, f5⟩ := f
    exact ⟨.ref D, F, K.turned (t' := s'.toks) (fun b o hb z => (sb.2 b hb).trans z) f0 f1 f3 f4 f5, rfl, k⟩⟩
  have loop : codeAny (model X.prog X.w) X.A (.compLoop (.SetComp elt [⟨tg, iter, ifs, 0⟩] scope pos) 0 (.ref it) (.ref D) ce) (compPost (model X.prog X.w) X.A X.xe none (EP X pins σ Q) (.ref D) s3.heap.objs.size) s4 := by
    refine PpSet.compLoopS_any (fun n s' => ∃ i F, Inv (X.blk s3 H3 scope ce fp) [] (wipe σ (own.map (·.2))) F s' ∧ tn i s'.heap ∧ (∀ b ∈ fp, F b = none) ∧ W i n F) ?_ m0 ⟨0, H3, I4, st4, nfp, w0⟩
    rintro n s5 ⟨i, H5, I5, st5, n5, w5⟩
    rcases turn i n H5 w5 with ⟨stop, qq⟩ | ⟨go, N, hNx, step⟩
    · have td := T.done (X.blk s3 H3 scope ce fp) rfl rfl rfl hc i [] s5 _ H5 (fun _ _ => False) I5 (sta I5 n5) st5 stop
      refine thnF td fun r s6 ⟨hr, I6⟩ => ?_
      subst hr
      have I7 : Inv X pins σ H5 s6 := I3.call' (ch := fp) I6.os I6.base I6.hok I6.bare fun b hb =>
        let z := (f3 b hb).1
        ⟨z.2.2.2.1, z.2.1, z.2.2.2.2.1, z.2.2.2.2.2⟩
      have nC : H5 s3.heap.objs.size = none := by
        rw [← cL]
        exact I6.free
      obtain ⟨m, hn, _⟩ := I6.loc
      have hn : s6.heap.Ns ce.locals m := hn
      rw [cL] at hn
      exact done s6 m H5 I7 qq hn (I3.fpOk (Nat.le_refl _) nC)
    · have ti := T.item (X.blk s3 H3 scope ce fp) rfl rfl rfl hc i [] s5 _ H5 (fun _ _ => False) I5 (sta I5 n5) st5 go
      refine thnF ti fun r s6 ⟨u, hr, h6⟩ => ?_
      subst hr
      refine thnF h6 fun _ s7 ⟨x, H7, I7, r7, y7, st7, n7⟩ => ?_
      have J7 := I7.pinned (sta I7 n7) (T.obj _ _ st7)
      refine thnF (pg.run _ s7 _ H7 x u _ J7 r7 (step x H7 y7)) fun _ s8 ⟨τ, H8, I8, hw, q8⟩ => ?_
      refine thnF (pt.run _ s8 τ H8 _ I8 q8) fun b s9 ⟨H9, I9, q9⟩ => ?_
      have fin : ∀ {s' : Shared} {F : Hp}, Inv (X.blk s3 H3 scope ce fp) ([] ++ pinsAt fp s7.heap) τ F s' → N F →
          ∃ m, m < n ∧ ∃ i F, Inv (X.blk s3 H3 scope ce fp) [] (wipe σ (own.map (·.2))) F s' ∧ tn i s'.heap ∧ (∀ b ∈ fp, F b = none) ∧ W i m F := fun {s' F} K nx => by
        obtain ⟨m', hm, w'⟩ := hNx F nx
        have pin : ∀ b ∈ fp, ∀ o, s7.heap.get? b = some o → s'.heap.get? b = some o ∧ F b = none := fun b hb o z =>
          let y := K.pin (b, o) (List.mem_append_right _ (List.mem_append_right _ (mem_pinsAt hb z)))
          ⟨y.1, y.2.1⟩
        have hl : (wipe σ (own.map (·.2))).length = τ.length := by
          rw [← hw, wipe_length]
        refine ⟨m', hm, i + 1, F, (K.unpinned (pins := [])).weak hl (fun j v z => ?_), T.keep _ _ _ st7 fun b hb o z => (pin b hb o z).1, fun b hb => ?_, w'⟩
        · rw [← hw] at z
          exact (wipe_some z).1
        · obtain ⟨o, z, _⟩ := T.obj _ _ st7 b hb
          exact (pin b hb o z).2
      cases b with
      | false =>
        simp only [Bool.false_eq_true, if_false] at q9 ⊢
        exact fin I9 q9
      | true =>
        simp only [if_true] at q9 ⊢
        refine thnF (pe.run _ s9 τ H9 _ I9 q9) fun z s10 ⟨yv, H10, I10, r10, cb, S0, n0, ey, hD10, hz10, nx⟩ => ?_
        subst ey
        obtain ⟨tk, rfl⟩ := r10
        exact addIn (X := X.blk s3 H3 scope ce fp) I10 hD10 hz10 fun s11 I11 => fin I11 nx
  exact PpSet.codeAny_compStart_set loop (T.self X.A 0 _ _ _ st4 loop)
end
end Ks

/-! d.get(k) of a dict of the module; statements and expressions that are never reached -/
namespace Kk
open PySem PySem.Spec PyProof.Rows L2
theorem ps_no {X : Cx} {st : Stmt} : PS X st (fun _ _ _ => False) := ⟨fun _ _ _ _ _ _ h => h.elim⟩
theorem pss_no {X : Cx} {b : List Stmt} : PSs X b (fun _ _ _ => False) := ⟨fun _ _ _ _ _ _ h => h.elim⟩
theorem pe_no {X : Cx} {e : Expr} : PE X e (fun _ _ _ => False) := ⟨fun _ _ _ _ _ _ h => h.elim⟩
section
variable {X : Cx} {d : Addr} {es : Array DictEntry} {n : Nat}
def tKGet (K : PySem.W.Frag) (d : Addr) (to ty : TE) : TE := fun σ H Q => to σ H fun x H1 => x = .ref d ∧ ty σ H1 fun y H2 => ∃ (z : Str) (r : Option Value) (v : V), y = .str z ∧ PySem.W.nsIn K d z = some r ∧ RelV v (r.getD .none) ∧ Q v H2
theorem pe_kget {o e : Expr} {apos cpos : Pos} {to ty : TE} (D : KDict X.K X.w d es n) (ho : PE X o to) (he : PE X e ty) (m : M1 X o "get" apos e cpos) : PE X (.Call (.Attribute o "get" apos) [e] [] cpos) (tKGet X.K d to ty) := by
  refine ⟨fun pins s σ H Q I h => ?_⟩
  refine wpAny_Call_method m.base m.few m.line PySem.F.plainAttrs_dict PySem.F.slot_dict_get PySem.F.type_dict_get (thn (ho.run pins s σ H _ I h) fun u s1 ⟨x, H1, I1, rx, ex, q1⟩ => ?_)
  subst ex
  obtain rfl : u = Value.ref d := rx
  have M := PySem.W.mapOf_K (prog := X.prog) (w := X.w) I1.kIn D.at_ D.lit
  refine ⟨M.typeIs, M.noDict, ?_⟩
  rw [m.trees]
  refine Calls.callWith_builtin rfl (Calls.evalArgs_plain (Calls.spliced_cons (thn (he.run pins s1 σ H1 _ I1 q1) fun iv s2 ⟨y, H2, I2, ry, z, r, v, ey, e, rv, q2⟩ => Calls.spliced_nil ?_)))
  subst ey
  obtain ⟨t, rfl⟩ := (show ∃ t, iv = Value.str z t from ry)
  have M2 := PySem.W.mapOf_K (prog := X.prog) (w := X.w) I2.kIn D.at_ D.lit
  refine call_meetsIn PySem.F.slot_dict_get M2.typeIs PySem.F.entry_dict_get (PySem.F.args_dict_get_2 _ _) (meets_dict_get _ d (PySem.strKind_is X.prog X.w z t) D.low) ⟨_, M2, ?_⟩
  rw [PySem.W.find_K D.at_ e]
  exact ⟨v, H2, I2.tok _, rv, q2⟩
end
end Kk

/-! things of anything: how great each part by itself is -/
namespace Kv
open PySem PySem.Spec PyProof.Rows L2 Kf
/-- signs below 128, no more than so many -/
structure Asc (L : Nat) (x : Str) : Prop where
  lo : ∀ c ∈ x.cps.toList, c < 128
  len : x.length ≤ L
mutual
def Dt.loc (L B : Nat) : Dt → Prop
  | .int i => i.natAbs < B
  | .str x => Asc L x
  | .tup xs => xs.length ≤ L ∧ Dt.locs L B xs
  | .lst xs => xs.length ≤ L ∧ Dt.locs L B xs
  | .dct kvs => kvs.length ≤ 1 ∧ ∀ p ∈ kvs, Asc L p.1 ∧ p.2.natAbs < B
  | _ => True
def Dt.locs (L B : Nat) : List Dt → Prop
  | [] => True
  | x :: xs => x.loc L B ∧ Dt.locs L B xs
end
theorem locs_iff {L B : Nat} : ∀ {xs : List Dt}, Dt.locs L B xs ↔ ∀ x ∈ xs, x.loc L B
  | [] => ⟨fun _ _ h => (nomatch h), fun _ => by simp only [Dt.locs]⟩
  | x :: xs => by
    simp only [Dt.locs]
    rw [locs_iff (xs := xs)]
    exact ⟨fun h y hy => by
      rcases List.mem_cons.mp hy with rfl | hy
      · exact h.1
      · exact h.2 y hy, fun h => ⟨h x List.mem_cons_self, fun y hy => h y (List.mem_cons_of_mem _ hy)⟩⟩
theorem Asc.up {L M : Nat} {x : Str} (h : Asc L x) (l : L ≤ M) : Asc M x := ⟨h.lo, Nat.le_trans h.len l⟩
mutual
theorem Dt.loc_up {L M B C : Nat} (l : L ≤ M) (b : B ≤ C) : ∀ {x : Dt}, x.loc L B → x.loc M C
  | .non, _ => by simp only [Dt.loc]
  | .bl _, _ => by simp only [Dt.loc]
  | .int i, h => by
    simp only [Dt.loc] at h ⊢
    omega
  | .str x, h => by
    simp only [Dt.loc] at h ⊢
    exact h.up l
  | .tup xs, h => by
    simp only [Dt.loc] at h ⊢
    exact ⟨Nat.le_trans h.1 l, Dt.locs_up l b h.2⟩
  | .lst xs, h => by
    simp only [Dt.loc] at h ⊢
    exact ⟨Nat.le_trans h.1 l, Dt.locs_up l b h.2⟩
  | .dct kvs, h => by
    simp only [Dt.loc] at h ⊢
    exact ⟨h.1, fun p hp => ⟨(h.2 p hp).1.up l, Nat.lt_of_lt_of_le (h.2 p hp).2 b⟩⟩
theorem Dt.locs_up {L M B C : Nat} (l : L ≤ M) (b : B ≤ C) : ∀ {xs : List Dt}, Dt.locs L B xs → Dt.locs M C xs
  | [], _ => by simp only [Dt.locs]
  | x :: xs, h => by
    simp only [Dt.locs] at h ⊢
    exact ⟨Dt.loc_up l b h.1, Dt.locs_up l b h.2⟩
end
mutual
theorem Dt.loc_wt {L B : Nat} : ∀ {x : Dt}, x.loc L B → x.wt + 2 ≤ (10 * L + 70) * x.sz
  | .non, _ => by simp only [Dt.wt, Dt.sz]; omega
  | .bl _, _ => by simp only [Dt.wt, Dt.sz]; omega
  | .int i, _ => by simp only [Dt.wt, Dt.sz]; omega
  | .str x, h => by
    simp only [Dt.loc] at h
    have := h.len
    simp only [Dt.wt, Dt.sz]
    omega
  | .tup xs, h => by
    simp only [Dt.loc] at h
    have := Dt.locs_wt h.2
    simp only [Dt.wt, Dt.sz]
    rw [Nat.mul_add]
    omega
  | .lst xs, h => by
    simp only [Dt.loc] at h
    have := Dt.locs_wt h.2
    simp only [Dt.wt, Dt.sz]
    rw [Nat.mul_add]
    omega
  | .dct [], _ => by simp only [Dt.wt, Dt.sz, kwt, List.length_nil]; omega
  | .dct [p], h => by
    simp only [Dt.loc] at h
    have := (h.2 p List.mem_cons_self).1.len
    simp only [Dt.wt, Dt.sz, kwt, List.length_cons, List.length_nil]
    omega
  | .dct (p :: q :: r), h => by
    simp only [Dt.loc, List.length_cons] at h
    omega
theorem Dt.locs_wt {L B : Nat} : ∀ {xs : List Dt}, Dt.locs L B xs → Dt.wts xs ≤ (10 * L + 70) * Dt.szs xs
  | [], _ => by simp only [Dt.wts, Dt.szs]; omega
  | x :: xs, h => by
    simp only [Dt.locs] at h
    have h1 := Dt.loc_wt h.1
    have h2 := Dt.locs_wt h.2
    simp only [Dt.wts, Dt.szs]
    rw [Nat.mul_add]
    omega
end
mutual
theorem Dt.loc_fine {L B : Nat} : ∀ {x : Dt}, x.loc L B → x.fine B
  | .non, _ => by simp only [Dt.fine]
  | .bl _, _ => by simp only [Dt.fine]
  | .int i, h => by
    simp only [Dt.loc] at h
    simp only [Dt.fine]
    exact h
  | .str x, h => by
    simp only [Dt.loc] at h
    simp only [Dt.fine]
    exact fun c hc => Nat.lt_of_lt_of_le (h.lo c hc) (by decide)
  | .tup xs, h => by
    simp only [Dt.loc] at h
    simp only [Dt.fine]
    exact Dt.locs_fine h.2
  | .lst xs, h => by
    simp only [Dt.loc] at h
    simp only [Dt.fine]
    exact Dt.locs_fine h.2
  | .dct kvs, h => by
    simp only [Dt.loc] at h
    simp only [Dt.fine]
    exact fun p hp => ⟨fun c hc => Nat.lt_of_lt_of_le ((h.2 p hp).1.lo c hc) (by decide), (h.2 p hp).2⟩
theorem Dt.locs_fine {L B : Nat} : ∀ {xs : List Dt}, Dt.locs L B xs → Dt.fines B xs
  | [], _ => by simp only [Dt.fines]
  | x :: xs, h => by
    simp only [Dt.locs] at h
    simp only [Dt.fines]
    exact ⟨Dt.loc_fine h.1, Dt.locs_fine h.2⟩
end
theorem dps_mem' : ∀ {xs : List Dt} {x : Dt}, x ∈ xs → x.dp ≤ Dt.dps xs
  | y :: ys, x, h => by
    simp only [Dt.dps]
    rcases List.mem_cons.mp h with rfl | h
    · omega
    · have := dps_mem' h
      omega
theorem dps_le' {n : Nat} : ∀ {xs : List Dt}, (∀ x ∈ xs, x.dp ≤ n) → Dt.dps xs ≤ n
  | [], _ => by simp only [Dt.dps]; omega
  | x :: xs, h => by
    have h1 := h x List.mem_cons_self
    have h2 := dps_le' (xs := xs) fun y hy => h y (List.mem_cons_of_mem _ hy)
    simp only [Dt.dps]
    omega
theorem dp_tup (xs : List Dt) : (Dt.tup xs).dp = Dt.dps xs + 1 := by simp only [Dt.dp]
theorem dp_lst (xs : List Dt) : (Dt.lst xs).dp = Dt.dps xs + 1 := by simp only [Dt.dp]
theorem dp_str (x : Str) : (Dt.str x).dp = 0 := by simp only [Dt.dp]
theorem loc_tup {L B : Nat} {xs : List Dt} : (Dt.tup xs).loc L B ↔ xs.length ≤ L ∧ ∀ x ∈ xs, x.loc L B := by
  simp only [Dt.loc, locs_iff]
theorem loc_lst {L B : Nat} {xs : List Dt} : (Dt.lst xs).loc L B ↔ xs.length ≤ L ∧ ∀ x ∈ xs, x.loc L B := by
  simp only [Dt.loc, locs_iff]
theorem loc_str {L B : Nat} {x : Str} : (Dt.str x).loc L B ↔ Asc L x := by
  simp only [Dt.loc]
theorem loc_int {L B : Nat} {i : Int} : (Dt.int i).loc L B ↔ i.natAbs < B := by
  simp only [Dt.loc]
theorem ascLit {L : Nat} {x : Str} (h : (x.cps.toList.all fun c => decide (c < 128)) = true) (l : x.length ≤ L) : Asc L x := ⟨fun c hc => of_decide_eq_true (List.all_eq_true.mp h c hc), l⟩
theorem asc_app {L M : Nat} {x y : Str} (h : Asc L x) (k : Asc M y) : Asc (L + M) (x ++ y) := by
  refine ⟨fun c hc => ?_, ?_⟩
  · have e : (x ++ y).cps.toList = x.cps.toList ++ y.cps.toList := by
      show (x.cps ++ y.cps).toList = _
      rw [Array.toList_append]
    rw [e] at hc
    rcases List.mem_append.mp hc with z | z
    · exact h.lo c z
    · exact k.lo c z
  · have h1 := h.len
    have h2 := k.len
    have : (x ++ y).length = x.length + y.length := by
      show (x.cps ++ y.cps).size = _
      rw [Array.size_append]
      rfl
    omega
theorem asc_upper {L : Nat} {x : Str} (h : Asc L x) : Asc L (Txt.upper x) := by
  rw [upper_ascii h.lo]
  refine ⟨fun c hc => ?_, ?_⟩
  · have hc : c ∈ (x.cps.map up1).toList := hc
    rw [Array.toList_map, List.mem_map] at hc
    obtain ⟨d, hd, rfl⟩ := hc
    have := h.lo d hd
    unfold up1
    split <;> omega
  · have e : (Str.mk (x.cps.map up1)).length = x.length := by
      show (x.cps.map up1).size = x.cps.size
      exact Array.size_map
    rw [e]
    exact h.len
theorem dch (n : Nat) : (Nat.digitChar n).toNat < 128 := by
  by_cases h : n < 16
  · have z : ∀ i : Fin 16, (Nat.digitChar i.val).toNat < 128 := by decide
    exact z ⟨n, h⟩
  · have e : Nat.digitChar n = '*' := by
      unfold Nat.digitChar
      repeat rw [if_neg (by omega)]
    rw [e]
    decide
theorem core_asc : ∀ (fuel n : Nat) (ds : List Char), (∀ c ∈ ds, c.toNat < 128) → ∀ c ∈ Nat.toDigitsCore 10 fuel n ds, c.toNat < 128
  | 0, n, ds, h, c, hc => h c (by simpa [Nat.toDigitsCore] using hc)
  | fuel + 1, n, ds, h, c, hc => by
    have h2 : ∀ c ∈ (Nat.digitChar (n % 10) :: ds), c.toNat < 128 := fun c hc => by
      rcases List.mem_cons.mp hc with rfl | hc
      · exact dch _
      · exact h c hc
    unfold Nat.toDigitsCore at hc
    dsimp only at hc
    split at hc
    · exact h2 c hc
    · exact core_asc fuel _ _ h2 c hc
theorem int_asc (i : Int) : ∀ c ∈ (Str.ofString (toString i)).cps.toList, c < 128 := by
  intro c hc
  rw [Str.ofString_eq_toList] at hc
  have hc : c ∈ (toString i).toList.map Char.toNat := by simpa using hc
  obtain ⟨ch, hch, rfl⟩ := List.mem_map.mp hc
  have dig : ∀ n : Nat, ∀ ch ∈ (Nat.repr n).toList, ch.toNat < 128 := fun n ch h => by
    have h : ch ∈ Nat.toDigits 10 n := by simpa [Nat.repr] using h
    exact core_asc _ _ [] (fun c z => absurd z List.not_mem_nil) ch h
  cases i with
  | ofNat n => exact dig n ch hch
  | negSucc n =>
    have e : (toString (Int.negSucc n)).toList = '-' :: (Nat.repr (n + 1)).toList := by
      show ("-" ++ Nat.repr (n + 1)).toList = _
      rw [String.toList_append]
      rfl
    rw [e] at hch
    rcases List.mem_cons.mp hch with rfl | h
    · decide
    · exact dig _ ch h
/-- str(number), a truth too: few signs -/
theorem call_strA {X : Cx} : CallR X (.type "str") (fun xs H Q => ∃ x i, xs = [x] ∧ nu x = some i ∧ i.natAbs < 10 ^ 45 ∧ ∀ z : Str, Asc 50 z → Q (.str z) H) := by
  intro pins s σ H xs us Q I r h
  obtain ⟨x, i, rfl, hx, hi, q⟩ := h
  obtain ⟨u, rfl, rx⟩ := vals1 r
  cases x with
  | int a =>
    obtain ⟨t, rfl⟩ := rx
    cases hx
    have hl : i.natAbs.log2 < 1920 := by
      by_cases z : i.natAbs = 0
      · rw [z]
        decide
      · have : i.natAbs.log2 < 150 := (Nat.log2_lt z).mpr (Nat.lt_of_lt_of_le hi (by decide))
        omega
    refine PySem.P.str_of_int hl ⟨.str _, H, I.tok _, ⟨_, rfl⟩, q _ ⟨?_, ?_⟩⟩
    · exact int_asc i
    · have z := int_text_length_le10 (a := i) (k := 45) (by decide) hi
      have e : (Str.ofString (toString i)).length = (toString i).length := PySem.ofString_length _
      show (Str.ofString (toString i)).length ≤ 50
      rw [e]
      omega
  | bl b =>
    cases rx
    refine PySem.P.str_of_bool ⟨.str _, H, I.tok _, ⟨_, rfl⟩, q _ ⟨?_, ?_⟩⟩
    · cases b <;> decide +kernel
    · cases b <;> decide +kernel
  | _ => cases hx
end Kv

namespace Kq
open PySem PySem.Spec PyProof.Rows L2
/-! the program's defs, by their places -/
def tp (i : Nat) : Stmt := PySem.Challenge.pw_kindalone_k44_tries_with_an_end.main.body.getD i (.Pass ⟨0, 0, 0, 0⟩)
/-! heaps -/
theorem newS {H : Hp} {p : Addr} {o : HO} (h : H p = none) : Same H (upd H p o) := fun b u e => by
  rw [upd_ne (ne_of_none e h)]
  exact e
/-- but for d and c all that stood stands -/
def Kp (d c : Addr) (H G : Hp) : Prop := ∀ b o, b ≠ d → b ≠ c → H b = some o → G b = some o
theorem Kp.rfl {d c : Addr} {H : Hp} : Kp d c H H := fun _ _ _ _ e => e
theorem Kp.trans {d c : Addr} {H G F : Hp} (a : Kp d c H G) (b : Kp d c G F) : Kp d c H F := fun x o h1 h2 e => b x o h1 h2 (a x o h1 h2 e)
theorem Kp.of {d c : Addr} {H G : Hp} (a : Same H G) : Kp d c H G := fun x o _ _ e => a x o e
theorem Kp.at1 {d c : Addr} {H : Hp} {o : HO} : Kp d c H (upd H d o) := fun x u h1 _ e => by rw [upd_ne h1]; exact e
theorem Kp.at2 {d c : Addr} {H : Hp} {o : HO} : Kp d c H (upd H c o) := fun x u _ h2 e => by rw [upd_ne h2]; exact e
/-- the deck of drawn cells -/
structure Dk (H : Hp) (d c : Addr) : Prop where
  ne : d ≠ c
  dd : ∃ seed k : Int, H d = some (.lst [.ref c, .int seed, .int k])
  cc : ∃ ns : List Int, H c = some (.lst (ns.map V.int)) ∧ ns.length ≤ 63
theorem Dk.same {H G : Hp} {d c : Addr} (x : Dk H d c) (s : Same H G) : Dk G d c := by
  obtain ⟨n, ⟨a, b, e⟩, ⟨ns, f, l⟩⟩ := x
  exact ⟨n, ⟨a, b, s _ _ e⟩, ⟨ns, s _ _ f, l⟩⟩
theorem sz {n : Nat} (h : n ≤ 1000) : n ≤ sizeLine := Nat.le_of_lt (small1000 h)
theorem Kp.mk {d c p : Addr} {H G : Hp} {o : HO} (a : Kp d c H G) (h : H p = none) : Kp d c H (upd G p o) := fun b u h1 h2 e => by
  rw [upd_ne (ne_of_none e h)]
  exact a b u h1 h2 e
theorem Dk.put {G : Hp} {d c p : Addr} {o : HO} (x : Dk G d c) (h : p ≠ d) (h' : p ≠ c) : Dk (upd G p o) d c := by
  obtain ⟨n, ⟨a, b, e⟩, ⟨ns, f, l⟩⟩ := x
  exact ⟨n, ⟨a, b, by rw [upd_ne h.symm]; exact e⟩, ⟨ns, by rw [upd_ne h'.symm]; exact f, l⟩⟩
theorem Dk.off {H : Hp} {d c p : Addr} (x : Dk H d c) (h : H p = none) : p ≠ d ∧ p ≠ c := by
  obtain ⟨n, ⟨a, b, e⟩, ⟨ns, f, l⟩⟩ := x
  exact ⟨(ne_of_none e h).symm, (ne_of_none f h).symm⟩
/-! texts of letters -/
def lets : Str := "abcdefghijklmnopqrstuvwxyz"
def sg (i : Nat) : Str := ⟨#[97 + i]⟩
theorem lets_at : ∀ i : Fin 26, lets.cps.toList[i.val]? = some (97 + i.val) := by decide +kernel
structure Nm (x : Str) : Prop where
  low : ∀ c ∈ x.cps.toList, 97 ≤ c ∧ c < 123
  few : x.cps.toList.length ≤ 8
  one : 1 ≤ x.cps.toList.length
theorem app_cps (x y : Str) : (x ++ y).cps.toList = x.cps.toList ++ y.cps.toList := by
  show (x.cps ++ y.cps).toList = _
  rw [Array.toList_append]
theorem join_low : ∀ ks : List Nat, (∀ k ∈ ks, k < 26) → (∀ c ∈ (Txt.join (Str.ofString "") (ks.map sg)).cps.toList, 97 ≤ c ∧ c < 123) ∧ (Txt.join (Str.ofString "") (ks.map sg)).cps.toList.length = ks.length := by
  intro ks h
  rw [show ∀ a b, Txt.join a b = Str.join a b from TL.join_eq]
  induction ks with
  | nil => exact ⟨fun c z => absurd z (by simp [Str.join, Str.empty]), by simp [Str.join, Str.empty]⟩
  | cons k ks ih =>
    have hk := h k List.mem_cons_self
    have ih := ih fun j hj => h j (List.mem_cons_of_mem _ hj)
    cases ks with
    | nil =>
      refine ⟨fun c z => ?_, rfl⟩
      have e : c = 97 + k := by simpa [Str.join, sg] using z
      omega
    | cons j r =>
      have e : Str.join (Str.ofString "") ((k :: j :: r).map sg) = sg k ++ Str.ofString "" ++ Str.join (Str.ofString "") ((j :: r).map sg) := rfl
      rw [e, app_cps, app_cps]
      have e0 : (Str.ofString "").cps.toList = [] := by decide
      rw [e0, List.append_nil]
      refine ⟨fun c z => ?_, ?_⟩
      · rcases List.mem_append.mp z with z | z
        · have e : c = 97 + k := by simpa [sg] using z
          omega
        · exact ih.1 c z
      · rw [List.length_append, ih.2]
        show 1 + _ = _
        simp only [List.length_cons]
        omega
theorem join_nm {ks : List Nat} (h : ∀ k ∈ ks, k < 26) (h1 : 1 ≤ ks.length) (h8 : ks.length ≤ 8) : Nm (Txt.join (Str.ofString "") (ks.map sg)) := by
  obtain ⟨a, b⟩ := join_low ks h
  exact ⟨a, by omega, by omega⟩
theorem Kp.free {d c p : Addr} {H G : Hp} (a : Kp d c H G) (k : Dk G d c) (h : G p = none) : H p = none := by
  obtain ⟨h1, h2⟩ := k.off h
  cases e : H p with
  | none => rfl
  | some o =>
    rw [a p o h1 h2 e] at h
    cases h
theorem sg_len (ks : List Nat) : ((ks.map sg).map (·.length)).sum = ks.length := by
  induction ks with
  | nil => rfl
  | cons k ks ih =>
    rw [List.map_cons, List.map_cons, List.sum_cons, ih, List.length_cons]
    show 1 + ks.length = _
    omega
theorem lets_get {r : Int} (h0 : 0 ≤ r) (h1 : r < 26) : atI lets.cps.toList r = some (97 + r.toNat) := by
  have e : r = ((r.toNat : Nat) : Int) := by omega
  have q := atI_nat (lets_at ⟨r.toNat, by omega⟩)
  rw [← show r = (((⟨r.toNat, by omega⟩ : Fin 26).val : Nat) : Int) from e] at q
  exact q
theorem lets_len : lets.length ≤ sizeLine := by decide
/-! rules for the inside of a comprehension, the written part named -/
def rJn (K : PySem.W.Frag) : V → List V → Hp → VK → Prop := fun x xs H Q => ∃ a p, ∃ ys : List Str, x = .str a ∧ xs = [.ref p] ∧ (SqL K H p (ys.map V.str) ∨ SqT K H p (ys.map V.str)) ∧ (ys.map (·.length)).sum + ys.length * a.length ≤ 16777216 ∧ Q (.str (Txt.join a ys)) H
theorem pe_joinK {X : Cx} (K : PySem.W.Frag) (h : X.K = K) {o e : Expr} {apos pos : Pos} {to te : TE} (ho : PE X o to) (he : PE X e te) (hbase : attributeBase o "join" X.env (eval o X.env) = eval o X.env := by rfl) (hline : (apos.endLine == pos.line) = true := by rfl)
    (hs : starEach [e] X.env = [(false, eval e X.env)] := by rfl) : PE X (.Call (.Attribute o "join" apos) [e] [] pos) (tM1 (rJn K) to te) := by
  subst h
  exact pe_join ho he hs hbase hline
theorem dpInts (K : PySem.W.Frag) (H : Hp) : ∀ ns : List Int, DpAll K H (ns.map V.int) (ns.map PyData.int)
  | [] => .nil
  | n :: ns => .cons (.int n) (dpInts K H ns)
theorem ixNat {n j : Nat} (hj : j < n) : ixN n (j : Int) = some j := by
  have h1 : (0 : Int) ≤ (j : Int) := by omega
  have h2 : (j : Int) < (n : Int) := by omega
  simp [ixN, h1, h2]
theorem join_cps : ∀ ks : List Nat, (Txt.join (Str.ofString "") (ks.map sg)).cps.toList = ks.map (97 + ·) := by
  intro ks
  rw [show ∀ a b, Txt.join a b = Str.join a b from TL.join_eq]
  induction ks with
  | nil => rfl
  | cons k ks ih =>
    cases ks with
    | nil => rfl
    | cons j r =>
      have e : Str.join (Str.ofString "") ((k :: j :: r).map sg) = sg k ++ Str.ofString "" ++ Str.join (Str.ofString "") ((j :: r).map sg) := rfl
      rw [e, app_cps, app_cps, ih]
      rfl
theorem nodupR {f : Nat → Str} : ∀ n, (∀ i j, i < n → j < n → f i = f j → i = j) → ((List.range n).map f).Nodup
  | 0, _ => List.nodup_nil
  | n + 1, h => by
    rw [List.range_succ, List.map_append]
    refine List.nodup_append.mpr ⟨nodupR n fun i j hi hj e => h i j (by omega) (by omega) e, (by simp), fun x hx y hy e => ?_⟩
    obtain ⟨i, hi, rfl⟩ := List.mem_map.mp hx
    have ey : y = f n := List.mem_singleton.mp hy
    rw [ey] at e
    have hi := List.mem_range.mp hi
    have := h i n (by omega) (by omega) e
    omega
abbrev tDeck : Stmt := tp 50
abbrev tDraw : Stmt := tp 51
section
variable {P : Program} {w : World} {K : PySem.W.Frag} {mg : Str → Option Value} {base : Heap}
theorem scDraw : FnScope ["_law_deck_here", "_law_most", "_law_cell", "_law_number"] ["_law_deck_here", "_law_most"] (defScope tDraw) := ⟨rfl, rfl, rfl, by decide +kernel, rfl, by decide +kernel, by decide +kernel⟩
def spDraw : Sp := fun vs H Q _ => ∃ (d c : Addr) (m : Int), vs = [.ref d, .int m] ∧ Dk H d c ∧ 0 < m ∧ m < 1298074214633706907132624082305024 ∧ ∀ (r : Int) (G : Hp), 0 ≤ r → r < m → Kp d c H G → Dk G d c → Q (.int r) G
theorem okDraw {f : Addr} {fd : FuncData} {k : Nat} (F : Fun K "_law_draw" "_law_draw" tDraw f fd) : FnOk P w K mg base CX0 (k + 1) f fd ["_law_deck_here", "_law_most"] spDraw := by
  refine F.ok scDraw (fun vs H Q E h => ?_) (fun cdv A outer s H vs Q E hr h => ?_)
  · obtain ⟨d, c, m, rfl, _⟩ := h
    rfl
  obtain ⟨d, c, m, rfl, ⟨ndc, ⟨seed, k0, hd⟩, ⟨ns, hc, hl⟩⟩, m0, m1, q⟩ := h
  refine ⟨_, pss_cons (ps_asg (pe_op op_add (pe_ix ix_list (pv 0) pe_int (fun _ _ => rfl)) pe_int) (pg_sub (pv 0) pe_int set_list))
    (C8.pss_cut (ps_set (i := 2) scDraw.nd rfl (.inl rfl) (pe_ifExp (pt_cmpR (op_eqD hr.units) (pe_ix ix_list (pv 0) pe_int (fun _ _ => rfl)) (pe_lst pa_nil) (nomark _)) (pe_ix ix_list (pv 0) pe_int (fun _ _ => rfl)) (pe_bm0 PySem.F.plainAttrs_list PySem.F.slot_list_pop PySem.F.type_list_pop mt_pop (pe_ix ix_list (pv 0) pe_int (fun _ _ => rfl)))))
    (pss_cons (ps_if (pt_cmpR op_ge (pv 2) (pe_op op_pow pe_int pe_int) (nomark _))
      (pss_cons (ps_expr (pe_bm PySem.F.plainAttrs_list PySem.F.slot_list_append PySem.F.type_list_append mt_append (pe_ix ix_list (pv 0) pe_int (fun _ _ => rfl)) (pa_cons (pe_op op_fdivW (pv 2) (pv 1)) pa_nil)))
      (pss_one (ps_ret (pe_op op_mod (pv 2) (pv 1))))) pss_nil)
    (pss_cons (ps_set (i := 3) scDraw.nd rfl (.inl rfl) (pe_op op_mod (pe_op op_mul (pe_op op_add (pe_op op_add (pe_op op_mod (pv 2) pe_int) (pe_op op_mul pe_int (pe_ix ix_list (pv 0) pe_int (fun _ _ => rfl)))) pe_int) pe_int) pe_int))
    (pss_cons (ps_set (i := 3) scDraw.nd rfl (.inl rfl) (pe_op op_mod (pe_op op_add (pe_op op_add (pe_op op_mul (pv 3) (pv 3)) (pe_op op_mul pe_int (pe_ix ix_list (pv 0) pe_int (fun _ _ => rfl)))) pe_int) pe_int))
    (pss_one (ps_ret (pe_op op_mod (pe_op op_fdiv (pe_op op_mod (pe_op op_mul (pv 3) (pe_op op_add (pe_op op_fdiv (pv 3) pe_int) pe_int)) pe_int) pe_int) (pv 1)))))))), ?_⟩
  refine ⟨_, rfl, d, _, _, _, rfl, rfl, SqL.of hd, atI_nat (j := 2) rfl, _, _, rfl, rfl, _, rfl, d, _, _, 2, rfl, rfl, hd, rfl, ?_⟩
  generalize hH1 : upd H d _ = H1
  have d1 : H1 d = some (.lst [.ref c, .int seed, .int (k0 + 1)]) := by rw [← hH1, upd_same]; rfl
  have c1 : H1 c = some (.lst (ns.map V.int)) := by rw [← hH1, upd_ne ndc.symm]; exact hc
  have p1 : Kp d c H H1 := by rw [← hH1]; exact Kp.at1
  clear hH1
  refine ⟨fun σ G => ∃ (cell : Int) (ms : List Int), σ = [some (.ref d), some (.int m), some (.int cell), none] ∧ Kp d c H G ∧ G d = some (.lst [.ref c, .int seed, .int (k0 + 1)]) ∧ G c = some (.lst (ms.map V.int)) ∧ ms.length ≤ 62, ?_, ?b2⟩
  · refine ⟨_, rfl, d, _, _, _, rfl, rfl, SqL.of d1, atI_nat (j := 0) rfl, Nat.zero_le _, fun p np => ?_⟩
    have sp : Same H1 (upd H1 p (.lst [])) := newS np
    have d2 := sp _ _ d1
    have c2 := sp _ _ c1
    have p2 : Kp d c H (upd H1 p (.lst [])) := p1.trans (.of sp)
    refine ⟨.list (ns.map PyData.int), .list [], .lst (SqL.of c2) (dpInts K _ ns), .lst (SqL.of upd_same) .nil, PySem.W.ke_shaped_ints ns, rfl, _, rfl, ?_⟩
    generalize upd H1 p (.lst []) = H2 at d2 c2 p2
    refine ite2 (fun he => ?_) (fun hne => ?_)
    · have n0 : ns = [] := by
        cases ns with
        | nil => rfl
        | cons a b => simp [PyData.eqv, PyData.eqvAll] at he
      subst n0
      exact ⟨_, rfl, d, _, _, _, rfl, rfl, SqL.of d2, atI_nat (j := 1) rfl, seed, [], rfl, p2, d2, c2, Nat.zero_le _⟩
    · have nn : ns ≠ [] := fun z => hne (by rw [z]; rfl)
      obtain ⟨n, hn⟩ : ∃ n, (ns.map V.int)[(ns.map V.int).length - 1]? = some (.int n) := by
        have h0 : 0 < ns.length := List.length_pos_iff.mpr nn
        rw [List.length_map, List.getElem?_map, List.getElem?_eq_getElem (by omega)]
        exact ⟨_, rfl⟩
      have ed : (ns.map V.int).dropLast = ns.dropLast.map V.int := by rw [List.map_dropLast]
      refine ⟨_, rfl, d, _, _, _, rfl, rfl, SqL.of d2, atI_nat (j := 0) rfl, .inl ⟨rfl, _, SqL.of c2⟩, c, _, _, rfl, rfl, c2, hn, ?_⟩
      rw [ed]
      refine ⟨n, ns.dropLast, rfl, p2.trans Kp.at2, by rw [upd_ne ndc]; exact d2, upd_same, ?_⟩
      rw [List.length_dropLast]
      omega
  case b2 =>
    rintro σ G ⟨cell, ms, rfl, kp, gd, gc, lm⟩
    refine ⟨_, rfl, _, _, rfl, rfl, ⟨by decide, by decide, by decide⟩, _, _, rfl, rfl, _, rfl, ite2 (fun _ => ?_) (fun _ => ?_)⟩
    · refine ⟨_, rfl, d, _, _, _, rfl, rfl, SqL.of gd, atI_nat (j := 0) rfl, .inl ⟨rfl, _, SqL.of gc⟩, _, rfl, _, rfl, _, _, rfl, rfl, wide_div m0 (b := 120) (by show m.natAbs < 1329227995784915872903807060280344576; omega) (by decide) (by decide), c, _, _, rfl, rfl, gc, (by rw [List.length_map]; exact small1000 (by omega)), ?_⟩
      refine ⟨_, rfl, _, rfl, _, _, rfl, rfl, m0, q _ _ (Int.emod_nonneg _ (by omega)) (Int.emod_lt_of_pos _ m0) (kp.trans Kp.at2) ⟨ndc, ⟨seed, k0 + 1, (by rw [upd_ne ndc]; exact gd)⟩, ⟨ms ++ [cell / m], ?_, ?_⟩⟩⟩
      · rw [upd_same, List.map_append]
        rfl
      · rw [List.length_append]
        show _ + 1 ≤ 63
        omega
    · refine ⟨_, rfl, _, _, rfl, rfl, (by show (0 : Int) < 2147483629; decide), _, rfl, d, _, _, _, rfl, rfl, SqL.of gd, atI_nat (j := 2) rfl, _, _, rfl, rfl, .inl ⟨by decide, by decide⟩, _, _, rfl, rfl, _, _, rfl, rfl, _, _, rfl, rfl, .inr ⟨by decide, by decide⟩, _, _, rfl, rfl, (by show (0 : Int) < 2147483647; decide), ?_⟩
      generalize hx : (cell % 2147483629 + 104729 * (k0 + 1) + 1) * 48271 % 2147483647 = x
      have x0 : 0 ≤ x := by rw [← hx]; exact Int.emod_nonneg _ (by decide)
      have x1 : x < 2147483647 := by rw [← hx]; exact Int.emod_lt_of_pos _ (by decide)
      refine ⟨_, rfl, _, rfl, _, _, rfl, rfl, .inl ⟨by omega, by omega⟩, _, rfl, d, _, _, _, rfl, rfl, SqL.of gd, atI_nat (j := 2) rfl, _, _, rfl, rfl, .inl ⟨by decide, by decide⟩, _, _, rfl, rfl, _, _, rfl, rfl, _, _, rfl, rfl, (by show (0 : Int) < 2147483587; decide), ?_⟩
      generalize hy : (x * x + 69621 * (k0 + 1) + 7) % 2147483587 = y
      have y0 : 0 ≤ y := by rw [← hy]; exact Int.emod_nonneg _ (by decide)
      have y1 : y < 2147483587 := by rw [← hy]; exact Int.emod_lt_of_pos _ (by decide)
      refine ⟨_, rfl, _, rfl, _, _, rfl, rfl, ⟨by decide, by decide⟩, _, _, rfl, rfl, _, _, rfl, rfl, .inl ⟨by omega, by omega⟩, _, _, rfl, rfl, (by show (0 : Int) < 2305843009213693951; decide), _, _, rfl, rfl, ⟨by decide, by decide⟩, _, rfl, _, _, rfl, rfl, m0, ?_⟩
      exact q _ _ (Int.emod_nonneg _ (by omega)) (Int.emod_lt_of_pos _ m0) kp ⟨ndc, ⟨_, _, gd⟩, ⟨ms, gc, by omega⟩⟩
/-! _law_deck -/
theorem scDeck : FnScope ["_law_script", "_law_cells"] ["_law_script"] (defScope tDeck) := ⟨rfl, rfl, rfl, by decide +kernel, rfl, by decide +kernel, by decide +kernel⟩
def spDeck (K : PySem.W.Frag) : Sp := fun vs H Q _ => ∃ (a : Addr) (ns : List Int), vs = [.ref a] ∧ SqL K H a (ns.map V.int) ∧ ns.length ≤ 63 ∧ ∀ (d c : Addr) (G : Hp), Same H G → H d = none → H c = none → Dk G d c → Q (.ref d) G
theorem okDeck {f : Addr} {fd : FuncData} {k : Nat} (F : Fun K "_law_deck" "_law_deck" tDeck f fd) (ml : mg "list" = none) (mr : mg "reversed" = none) (ms : mg "sum" = none) (mn : mg "len" = none) : FnOk P w K mg base CX0 (k + 1) f fd ["_law_script"] (spDeck K) := by
  refine F.ok scDeck (fun vs H Q E h => ?_) (fun cdv A outer s H vs Q E hr h => ?_)
  · obtain ⟨a, ns, rfl, _⟩ := h
    rfl
  obtain ⟨a, ns, rfl, hS, hl, q⟩ := h
  refine ⟨_, pss_cons (ps_set (i := 1) scDeck.nd rfl (.inl rfl) (Kr.pe_listRev rfl (by rfl) ml (by rfl) mr (pe_slice sl_list (pv 0) po_none (po_some pe_int))))
    (pss_one (ps_ret (pe_lst (pa_cons (pv 1) (pa_cons (pe_op op_add (pe_op op_mod (pe_callB (cr_sum rfl) (by rfl) ms PyProof.Rows.boot_sum (pa_cons (pv 1) pa_nil)) pe_int) (pe_op op_mul pe_int (pe_callB call_len_seq (by rfl) mn PySem.boot_len (pa_cons (pv 1) pa_nil)))) (pa_cons pe_int pa_nil)))))), ?_⟩
  refine ⟨_, rfl, 63, rfl, a, _, rfl, hS, fun p np => ?_⟩
  refine ⟨p, _, rfl, SqL.of upd_same, fun c nc => ?_⟩
  have e0 : cutV (ns.map V.int) none (some 63) = (ns.take 63).map V.int := by
    rw [List.take_of_length_le hl]
    unfold cutV
    rw [HT.sIx_none, show HT.sIx (ns.map V.int).length (ns.map V.int).length (some 63) = min 63 (ns.map V.int).length from HT.sIx_nat _ _ 63, List.drop_zero, List.take_of_length_le]
    rw [List.length_map]
    omega
  rw [e0, ← List.map_reverse]
  generalize hm : (ns.take 63).reverse = ms'
  have lm : ms'.length ≤ 63 := by rw [← hm, List.length_reverse, List.length_take]; omega
  generalize hG : upd (upd H p _) c (.lst (ms'.map V.int)) = G
  have gc : G c = some (.lst (ms'.map V.int)) := by rw [← hG, upd_same]
  have hc : H c = none := (newS np).free nc
  have hcp : c ≠ p := fun z => by
    rw [z, upd_same] at nc
    cases nc
  have sG : Same H G := by
    rw [← hG]
    exact (newS np).trans (newS (by rw [upd_ne hcp]; exact hc))
  refine ⟨_, rfl, _, rfl, c, _, rfl, SqL.of gc, _, _, rfl, rfl, (by show (0 : Int) < 2147483629; decide), _, rfl, c, _, rfl, .inl (SqL.of gc), _, _, rfl, rfl, .inl ⟨by decide, by decide⟩, _, _, rfl, rfl, (by show 3 ≤ sizeLine; decide), fun d nd => q d c _ (sG.trans (newS nd)) (sG.free nd) hc ⟨(ne_of_none gc nd).symm, ⟨_, _, upd_same⟩, ⟨ms', ?_, lm⟩⟩⟩
  rw [upd_ne (ne_of_none gc nd)]
  exact gc
end
end Kq
namespace Kq
open PySem PySem.Spec PyProof.Rows L2
/-- the tuples stay -/
def Tk (H G : Hp) : Prop := ∀ b xs, H b = some (.tup xs) → G b = some (.tup xs)
theorem Tk.of {H G : Hp} (s : Same H G) : Tk H G := fun b xs e => s b _ e
theorem Tk.rfl {H : Hp} : Tk H H := fun _ _ e => e
theorem Tk.trans {H G F : Hp} (a : Tk H G) (b : Tk G F) : Tk H F := fun x o e => b x o (a x o e)
theorem Tk.kp {H G : Hp} {d c : Addr} (a : Kp d c H G) (k : Dk H d c) : Tk H G := fun b xs e => by
  obtain ⟨n, ⟨s, k0, hd⟩, ⟨ns, hc, _⟩⟩ := k
  refine a b _ (fun z => ?_) (fun z => ?_) e
  · rw [z, hd] at e
    cases e
  · rw [z, hc] at e
    cases e
theorem Tk.put {H G : Hp} {p : Addr} {o : HO} (a : Tk H G) (h : ∀ xs, H p ≠ some (.tup xs)) : Tk H (upd G p o) := fun b xs e => by
  rw [upd_ne (fun z => h xs (by rw [← z]; exact e))]
  exact a b xs e
theorem cutFrom1 (x : V) (vs : List V) : cutV (x :: vs) (some 1) none = vs := by
  unfold cutV
  rw [show HT.sIx (x :: vs).length 0 (some 1) = min 1 (x :: vs).length from HT.sIx_nat _ _ 1, HT.sIx_none, List.length_cons, Nat.min_eq_left (by omega)]
  show (vs.take (vs.length + 1 - 1)) = vs
  rw [Nat.add_sub_cancel, List.take_length]
theorem notWhole (x : V) (vs : List V) : ¬ (HT.sIx (x :: vs).length 0 (some 1) = 0 ∧ HT.sIx (x :: vs).length (x :: vs).length none = (x :: vs).length) := by
  rw [show HT.sIx (x :: vs).length 0 (some 1) = min 1 (x :: vs).length from HT.sIx_nat _ _ 1, List.length_cons, Nat.min_eq_left (by omega)]
  rintro ⟨h, _⟩
  cases h
theorem smk {H G : Hp} {p : Addr} {o : HO} (a : Same H G) (h : H p = none) : Same H (upd G p o) := fun b u e => by
  rw [upd_ne (ne_of_none e h)]
  exact a b u e
theorem Nm.ok {x : Str} (h : Nm x) : PyData.strOk x = true := by
  unfold PyData.strOk
  rw [← Array.all_toList, List.all_eq_true]
  intro c hc
  have := (h.low c hc).2
  exact decide_eq_true (by omega)
theorem ixTK {X : Cx} (K : PySem.W.Frag) (h : X.K = K) : IxR X (rIxT K) := by
  subst h
  exact ix_tup
end Kq
namespace Kq
open PySem PySem.Spec PyProof.Rows L2 Kf Kg Kv GxR
theorem DdL.see {N : Addr → Prop} {H : Hp} {xs : List Dt} {vs : List V} (h : DdL N H xs vs) : (xs = [] ∧ vs = []) ∨ ∃ y ys w ws, xs = y :: ys ∧ vs = w :: ws ∧ Dd N H y w ∧ DdL N H ys ws := by
  cases h with
  | nil => exact .inl ⟨rfl, rfl⟩
  | cons h t => exact .inr ⟨_, _, _, _, rfl, rfl, h, t⟩
end Kq
namespace Kq
open PySem PySem.Spec PyProof.Rows L2
/-! kinds as trees -/
inductive Kd where
  | opn (x : Str)
  | num
  | tru
  | pair (a b : Kd)
  | eith (a b : Kd)
  | lst (a : Kd)
  | fn (a b : Kd)
  deriving DecidableEq
namespace Kd
def word : Kd → Str
  | opn _ => "open"
  | num => "num"
  | tru => "truth"
  | pair _ _ => "pair"
  | eith _ _ => "either"
  | lst _ => "list"
  | fn _ _ => "fun"
def kids : Kd → List Kd
  | pair a b => [a, b]
  | eith a b => [a, b]
  | lst a => [a]
  | fn a b => [a, b]
  | _ => []
def isFn : Kd → Bool
  | fn _ _ => true
  | _ => false
def isOp : Kd → Bool
  | opn _ => true
  | _ => false
def nodes : Kd → List Kd
  | opn x => [opn x]
  | num => [num]
  | tru => [tru]
  | pair a b => pair a b :: (nodes a ++ nodes b)
  | eith a b => eith a b :: (nodes a ++ nodes b)
  | lst a => lst a :: nodes a
  | fn a b => fn a b :: (nodes a ++ nodes b)
def size (t : Kd) : Nat := t.nodes.length
def dp : Kd → Nat
  | pair a b => max a.dp b.dp + 1
  | eith a b => max a.dp b.dp + 1
  | lst a => a.dp + 1
  | fn a b => max a.dp b.dp + 1
  | _ => 0
def opens : Kd → List Str
  | opn x => [x]
  | num => []
  | tru => []
  | pair a b => opens a ++ opens b
  | eith a b => opens a ++ opens b
  | lst a => opens a
  | fn a b => opens a ++ opens b
theorem nodes_eq (t : Kd) : t.nodes = t :: t.kids.flatMap nodes := by
  cases t <;> simp [nodes, kids]
theorem isFn_word (t : Kd) : decide (V.str t.word = V.str "fun") = t.isFn := by
  cases t <;> rfl
theorem isOp_word (t : Kd) : decide (V.str t.word = V.str "open") = t.isOp := by
  cases t <;> rfl
end Kd
/-- a tuple, or one of the written part -/
def Sq (K : PySem.W.Frag) (H : Hp) (a : Addr) (xs : List V) : Prop := H a = some (.tup xs) ∨ ∀ G : Hp, SqT K G a xs
theorem Sq.t {K : PySem.W.Frag} {H : Hp} {a : Addr} {xs : List V} (h : Sq K H a xs) : SqT K H a xs := by
  rcases h with h | h
  · exact SqT.of h
  · exact h H
theorem Sq.tk {K : PySem.W.Frag} {H G : Hp} {a : Addr} {xs : List V} (h : Sq K H a xs) (k : Tk H G) : Sq K G a xs := by
  rcases h with h | h
  · exact .inl (k _ _ h)
  · exact .inr h
/-- the tree stands at v -/
def Rp (K : PySem.W.Frag) (H : Hp) : Kd → V → Prop
  | .opn x, v => ∃ a, v = .ref a ∧ Sq K H a [.str "open", .str x]
  | .num, v => ∃ a, v = .ref a ∧ Sq K H a [.str "num"]
  | .tru, v => ∃ a, v = .ref a ∧ Sq K H a [.str "truth"]
  | .pair s t, v => ∃ a x y, v = .ref a ∧ Sq K H a [.str "pair", x, y] ∧ Rp K H s x ∧ Rp K H t y
  | .eith s t, v => ∃ a x y, v = .ref a ∧ Sq K H a [.str "either", x, y] ∧ Rp K H s x ∧ Rp K H t y
  | .lst s, v => ∃ a x, v = .ref a ∧ Sq K H a [.str "list", x] ∧ Rp K H s x
  | .fn s t, v => ∃ a x y, v = .ref a ∧ Sq K H a [.str "fun", x, y] ∧ Rp K H s x ∧ Rp K H t y
def RpL (K : PySem.W.Frag) (H : Hp) : List Kd → List V → Prop
  | [], [] => True
  | t :: ts, v :: vs => Rp K H t v ∧ RpL K H ts vs
  | _, _ => False
theorem Rp.tk {K : PySem.W.Frag} {H G : Hp} (k : Tk H G) : ∀ {t : Kd} {v : V}, Rp K H t v → Rp K G t v := by
  intro t
  induction t with
  | opn x => exact fun ⟨a, e, h⟩ => ⟨a, e, h.tk k⟩
  | num => exact fun ⟨a, e, h⟩ => ⟨a, e, h.tk k⟩
  | tru => exact fun ⟨a, e, h⟩ => ⟨a, e, h.tk k⟩
  | pair s t i j => exact fun ⟨a, x, y, e, h, p, q⟩ => ⟨a, x, y, e, h.tk k, i p, j q⟩
  | eith s t i j => exact fun ⟨a, x, y, e, h, p, q⟩ => ⟨a, x, y, e, h.tk k, i p, j q⟩
  | lst s i => exact fun ⟨a, x, e, h, p⟩ => ⟨a, x, e, h.tk k, i p⟩
  | fn s t i j => exact fun ⟨a, x, y, e, h, p, q⟩ => ⟨a, x, y, e, h.tk k, i p, j q⟩
theorem RpL.tk {K : PySem.W.Frag} {H G : Hp} (k : Tk H G) : ∀ {ts : List Kd} {vs : List V}, RpL K H ts vs → RpL K G ts vs
  | [], [], _ => trivial
  | _ :: _, _ :: _, h => ⟨h.1.tk k, RpL.tk k h.2⟩
  | [], _ :: _, h => h.elim
  | _ :: _, [], h => h.elim
theorem RpL.len {K : PySem.W.Frag} {H : Hp} : ∀ {ts : List Kd} {vs : List V}, RpL K H ts vs → ts.length = vs.length
  | [], [], _ => rfl
  | _ :: _, _ :: _, h => congrArg (· + 1) (RpL.len h.2)
  | [], _ :: _, h => h.elim
  | _ :: _, [], h => h.elim
theorem RpL.app {K : PySem.W.Frag} {H : Hp} : ∀ {ts us : List Kd} {vs ws : List V}, RpL K H ts vs → RpL K H us ws → RpL K H (ts ++ us) (vs ++ ws)
  | [], _, [], _, _, h => h
  | _ :: _, _, _ :: _, _, h, k => ⟨h.1, RpL.app h.2 k⟩
  | [], _, _ :: _, _, h, _ => h.elim
  | _ :: _, _, [], _, h, _ => h.elim
theorem RpL.get {K : PySem.W.Frag} {H : Hp} : ∀ {ts : List Kd} {vs : List V} {i : Nat} {v : V}, RpL K H ts vs → vs[i]? = some v → ∃ t, ts[i]? = some t ∧ Rp K H t v
  | [], [], i, v, _, e => by simp at e
  | t :: _, w :: _, 0, v, h, e => ⟨t, rfl, by rw [← show w = v from Option.some.inj e]; exact h.1⟩
  | _ :: ts, _ :: vs, i + 1, v, h, e => RpL.get (ts := ts) (vs := vs) (i := i) h.2 e
  | [], _ :: _, _, _, h, _ => h.elim
  | _ :: _, [], _, _, h, _ => h.elim
theorem RpL.last {K : PySem.W.Frag} {H : Hp} : ∀ {ts : List Kd} {vs : List V}, RpL K H ts vs → vs ≠ [] → ∃ us u ws w, ts = us ++ [u] ∧ vs = ws ++ [w] ∧ RpL K H us ws ∧ Rp K H u w
  | [t], [v], h, _ => ⟨[], t, [], v, rfl, rfl, trivial, h.1⟩
  | t :: t' :: ts, v :: v' :: vs, h, _ => by
    obtain ⟨us, u, ws, w, e1, e2, k, r⟩ := RpL.last (ts := t' :: ts) (vs := v' :: vs) h.2 (by simp)
    exact ⟨t :: us, u, v :: ws, w, by rw [e1]; rfl, by rw [e2]; rfl, ⟨h.1, k⟩, r⟩
  | [], [], _, n => absurd rfl n
  | [], _ :: _, h, _ => h.elim
  | _ :: _, [], h, _ => h.elim
  | [_], _ :: _ :: _, h, _ => h.2.elim
  | _ :: _ :: _, [_], h, _ => h.2.elim
/-- the tuple at v: the word, and the rest -/
theorem Rp.see {K : PySem.W.Frag} {H : Hp} {t : Kd} {v : V} (h : Rp K H t v) : ∃ a vs, v = .ref a ∧ Sq K H a (.str t.word :: vs) ∧ ((t.isOp = false ∧ RpL K H t.kids vs) ∨ ∃ x, t = .opn x ∧ vs = [.str x]) := by
  cases t with
  | opn x =>
    obtain ⟨a, e, g⟩ := h
    exact ⟨a, _, e, g, .inr ⟨x, rfl, rfl⟩⟩
  | num =>
    obtain ⟨a, e, g⟩ := h
    exact ⟨a, [], e, g, .inl ⟨rfl, trivial⟩⟩
  | tru =>
    obtain ⟨a, e, g⟩ := h
    exact ⟨a, [], e, g, .inl ⟨rfl, trivial⟩⟩
  | pair s t =>
    obtain ⟨a, x, y, e, g, p, q⟩ := h
    exact ⟨a, _, e, g, .inl ⟨rfl, p, q, trivial⟩⟩
  | eith s t =>
    obtain ⟨a, x, y, e, g, p, q⟩ := h
    exact ⟨a, _, e, g, .inl ⟨rfl, p, q, trivial⟩⟩
  | lst s =>
    obtain ⟨a, x, e, g, p⟩ := h
    exact ⟨a, _, e, g, .inl ⟨rfl, p, trivial⟩⟩
  | fn s t =>
    obtain ⟨a, x, y, e, g, p, q⟩ := h
    exact ⟨a, _, e, g, .inl ⟨rfl, p, q, trivial⟩⟩
abbrev tWithinT : Stmt := tp 14
abbrev tLeads : Stmt := tp 15
abbrev tParts : Stmt := tp 16
section
variable {P : Program} {w : World} {K : PySem.W.Frag} {mg : Str → Option Value} {base : Heap}
/-! leads -/
theorem scLeads : FnScope ["kind"] ["kind"] (defScope tLeads) := ⟨rfl, rfl, rfl, by decide +kernel, rfl, by decide +kernel, by decide +kernel⟩
def spLeads (K : PySem.W.Frag) : Sp := fun vs H Q _ => ∃ (v : V) (t : Kd), vs = [v] ∧ Rp K H t v ∧ Q (.bl t.isFn) H
theorem okLeads {f : Addr} {fd : FuncData} {k : Nat} (F : Fun K "leads" "leads" tLeads f fd) : FnOk P w K mg base CX0 (k + 1) f fd ["kind"] (spLeads K) := by
  refine F.ok scLeads (fun vs H Q E h => ?_) (fun cdv A outer s H vs Q E hr h => ?_)
  · obtain ⟨v, t, rfl, _⟩ := h
    rfl
  obtain ⟨v, t, rfl, r, q⟩ := h
  obtain ⟨a, us, rfl, ha, _⟩ := r.see
  refine ⟨_, pss_one (ps_ret (pe_cmpR op_eq (pe_ix ix_tup (pv 0) pe_int (fun _ _ => rfl)) pe_str (nomark _))), ?_⟩
  refine ⟨_, rfl, a, _, _, _, rfl, rfl, ha.t, atI_nat (j := 0) rfl, rfl, ?_⟩
  rw [Kd.isFn_word]
  exact q
/-! kinds_within -/
theorem scWithinT : FnScope ["kind"] ["kind"] (defScope tWithinT) := ⟨rfl, rfl, rfl, by decide +kernel, rfl, by decide +kernel, by decide +kernel⟩
def spWithinT (K : PySem.W.Frag) : Sp := fun vs H Q _ => ∃ (v : V) (t : Kd), vs = [v] ∧ Rp K H t v ∧ ∀ (p : Addr) (us : List V) (G : Hp), Same H G → G p = some (.tup us) → RpL K G t.kids us → Q (.ref p) G
theorem okWithinT {f : Addr} {fd : FuncData} {k : Nat} (F : Fun K "kinds_within" "kinds_within" tWithinT f fd) : FnOk P w K mg base CX0 (k + 1) f fd ["kind"] (spWithinT K) := by
  refine F.ok scWithinT (fun vs H Q E h => ?_) (fun cdv A outer s H vs Q E hr h => ?_)
  · obtain ⟨v, t, rfl, _⟩ := h
    rfl
  obtain ⟨v, t, rfl, r, q⟩ := h
  obtain ⟨a, us, rfl, ha, hu⟩ := r.see
  refine ⟨_, pss_cons (ps_if (pt_cmpR op_eq (pe_ix ix_tup (pv 0) pe_int (fun _ _ => rfl)) pe_str (nomark _)) (pss_one (ps_ret (pe_tup pa_nil))) pss_nil)
    (pss_one (ps_ret (pe_slice sl_tup (pv 0) (po_some pe_int) po_none))), ?_⟩
  refine ⟨_, rfl, a, _, _, _, rfl, rfl, ha.t, atI_nat (j := 0) rfl, rfl, _, rfl, ?_⟩
  rw [Kd.isOp_word]
  refine ite2 (fun e => ?_) (fun e => ?_)
  · refine ⟨Nat.zero_le _, fun p np => q p [] _ (newS np) upd_same ?_⟩
    cases t with
    | opn x => trivial
    | _ => cases e
  · refine ⟨_, rfl, 1, rfl, a, _, rfl, ha.t, notWhole _ _, fun p np => ?_⟩
    rw [cutFrom1]
    refine q p us _ (newS np) upd_same ?_
    rcases hu with hu | ⟨x, rfl, _⟩
    · exact hu.2.tk (Tk.of (newS np))
    · exact absurd rfl e
/-! parts_of -/
theorem scParts : FnScope ["kind", "parts", "waiting", "part"] ["kind"] (defScope tParts) := ⟨rfl, rfl, rfl, by decide +kernel, rfl, by decide +kernel, by decide +kernel⟩
def spParts (K : PySem.W.Frag) : Sp := fun vs H Q _ => ∃ (v : V) (t : Kd), vs = [v] ∧ Rp K H t v ∧ t.size ≤ 900 ∧ ∀ (p : Addr) (ts : List Kd) (us : List V) (G : Hp), Same H G → G p = some (.lst us) → RpL K G ts us → ts.Perm t.nodes → Q (.ref p) G
theorem okParts {f fW : Addr} {fd fdW : FuncData} {k : Nat} (F : Fun K "parts_of" "parts_of" tParts f fd) (FW : Fun K "kinds_within" "kinds_within" tWithinT fW fdW) (bW : Binds K fdW ["kind"] []) (gW : mg "kinds_within" = some (.ref fW)) : FnOk P w K mg base CX0 (k + 2) f fd ["kind"] (spParts K) := by
  have GW : FnOk P w K mg base CX0 (k + 1) fW fdW ["kind"] (spWithinT K) := okWithinT FW
  refine F.ok scParts (fun vs H Q E h => ?_) (fun cdv A outer s H vs Q E hr h => ?_)
  · obtain ⟨v, t, rfl, _⟩ := h
    rfl
  obtain ⟨v, t, rfl, r, hz, q⟩ := h
  refine ⟨_, pss_cons (ps_set (i := 1) scParts.nd rfl (.inl rfl) (pe_lst pa_nil))
    (pss_cons (ps_set (i := 2) scParts.nd rfl (.inl rfl) (pe_lst (pa_cons (pv 0) pa_nil)))
    (pss_cons (ps_while PassesOwn.never (pt_truth (pv 2) (by intro _; rfl))
      (pss_cons (ps_set (i := 3) scParts.nd rfl (.inl rfl) (pe_bm0 PySem.F.plainAttrs_list PySem.F.slot_list_pop PySem.F.type_list_pop mt_pop (pv 2)))
      (pss_cons (ps_expr (pe_bm PySem.F.plainAttrs_list PySem.F.slot_list_append PySem.F.type_list_append mt_append (pv 1) (pa_cons (pv 3) pa_nil)))
      (pss_one (ps_expr (pe_bm PySem.F.plainAttrs_list PySem.F.slot_list_extend PySem.F.type_list_extend Kr.mt_extT (pv 2) (pa_cons (pe_call GW hr (by rfl) gW FW.kp bW .nil pass0 (pa_cons (pv 3) pa_nil)) pa_nil)))))))
    (pss_one (ps_ret (pv 1))))), ?_⟩
  refine ⟨Nat.zero_le _, fun pa npa => ?_⟩
  refine ⟨_, rfl, (by show 1 ≤ sizeLine; decide), fun wa nwa => ?_⟩
  have s2 : Same H (upd (upd H pa (.lst [])) wa (.lst [v])) := (newS npa).trans (newS nwa)
  have hpw : pa ≠ wa := fun z => by
    rw [z, upd_same] at nwa
    cases nwa
  have hwa : H wa = none := (newS npa).free nwa
  refine ⟨fun m σ G => ∃ ts ws us vs y, m = (ws.flatMap Kd.nodes).length ∧ σ = [some v, some (.ref pa), some (.ref wa), y] ∧ Same H G ∧ G pa = some (.lst us) ∧ G wa = some (.lst vs) ∧ RpL K G ts us ∧ RpL K G ws vs ∧ (ts ++ ws.flatMap Kd.nodes).Perm t.nodes,
    ⟨_, [], [t], [], [v], none, rfl, rfl, s2, ?_, upd_same, trivial, ⟨r.tk (Tk.of s2), trivial⟩, ?_⟩, fun m σ G z => ?_⟩
  · rw [upd_ne hpw, upd_same]
  · rw [List.flatMap_cons, List.flatMap_nil, List.append_nil, List.nil_append]
  obtain ⟨ts, ws, us, vs, y, rfl, rfl, sG, gp, gw, rt, rw', pm⟩ := z
  refine ⟨_, rfl, _, .inl ⟨vs, SqL.of gw, rfl⟩, ?_⟩
  have lens : ts.length + (ws.flatMap Kd.nodes).length = t.size := by
    have e := pm.length_eq
    rw [List.length_append] at e
    exact e
  refine ite2 (fun e => ?_) (fun e => ?_)
  · have nn : vs ≠ [] := fun z => by
      rw [z] at e
      cases e
    obtain ⟨xs, u, zs, x, rfl, rfl, rx, ru⟩ := rw'.last nn
    refine ⟨fun σ' G' => ∃ m', m' < _ ∧ (∃ ts ws us vs y, m' = (ws.flatMap Kd.nodes).length ∧ σ' = [some v, some (.ref pa), some (.ref wa), y] ∧ Same H G' ∧ G' pa = some (.lst us) ∧ G' wa = some (.lst vs) ∧ RpL K G' ts us ∧ RpL K G' ws vs ∧ (ts ++ ws.flatMap Kd.nodes).Perm t.nodes), fun σ' G' z => z, ?_⟩
    refine ⟨_, rfl, .inl ⟨rfl, _, SqL.of gw⟩, wa, _, x, rfl, rfl, gw, ?_, ?_⟩
    · rw [List.length_append, List.length_singleton, Nat.add_sub_cancel, List.getElem?_concat_length]
    rw [List.dropLast_concat]
    have t1 : Tk G (upd G wa (.lst zs)) := Tk.rfl.put (fun _ z => by rw [gw] at z; cases z)
    have gp1 : (upd G wa (.lst zs)) pa = some (.lst us) := by rw [upd_ne hpw]; exact gp
    refine ⟨_, rfl, .inl ⟨rfl, _, SqL.of gp1⟩, _, rfl, pa, _, _, rfl, rfl, gp1, ?_, ?_⟩
    · have := rt.len
      exact small1000 (by omega)
    have t2 : Tk G (upd (upd G wa (.lst zs)) pa (.lst (us ++ [x]))) := t1.put (fun _ z => by rw [gp] at z; cases z)
    have gw2 : (upd (upd G wa (.lst zs)) pa (.lst (us ++ [x]))) wa = some (.lst zs) := by rw [upd_ne hpw.symm, upd_same]
    have gp2 : (upd (upd G wa (.lst zs)) pa (.lst (us ++ [x]))) pa = some (.lst (us ++ [x])) := upd_same
    have s3 : Same H (upd (upd G wa (.lst zs)) pa (.lst (us ++ [x]))) := smk (smk sG hwa) npa
    generalize upd (upd G wa (.lst zs)) pa (.lst (us ++ [x])) = G2 at t2 gw2 gp2 s3
    refine ⟨_, rfl, .inl ⟨rfl, _, SqL.of gw2⟩, _, rfl, x, u, rfl, ru.tk t2, fun p ks G3 s4 gk rk => ?_⟩
    have lk : ks.length ≤ 2 := by
      rw [← rk.len]
      cases u <;> simp [Kd.kids]
    refine ⟨wa, p, _, _, rfl, rfl, s4 _ _ gw2, SqT.of gk, ?_, ?_⟩
    · have l1 := rx.len
      have l2 : xs.length ≤ ((xs ++ [u]).flatMap Kd.nodes).length := by
        clear lens pm gw nn e rw' l1 rx
        induction xs with
        | nil => exact Nat.zero_le _
        | cons a xs ih =>
          have : 1 ≤ a.nodes.length := by rw [Kd.nodes_eq]; exact Nat.succ_le_succ (Nat.zero_le _)
          simp only [List.cons_append, List.flatMap_cons, List.length_append, List.length_cons] at ih ⊢
          omega
      exact sz (by omega)
    have e4 := Kd.nodes_eq u
    have t4 : Tk G3 (upd G3 wa (.lst (zs ++ ks))) := Tk.rfl.put (fun _ z => by rw [s4 _ _ gw2] at z; cases z)
    refine ⟨_, ?_, ts ++ [u], xs ++ u.kids, us ++ [x], zs ++ ks, _, rfl, rfl, smk (s3.trans s4) hwa, ?_, upd_same, ?_, ?_, ?_⟩
    · simp only [List.flatMap_append, List.flatMap_cons, List.flatMap_nil, List.append_nil, List.length_append]
      rw [e4, List.length_cons]
      omega
    · rw [upd_ne hpw]
      exact s4 _ _ gp2
    · exact (RpL.app (us := [u]) (ws := [x]) (rt.tk t2) ⟨ru.tk t2, trivial⟩).tk ((Tk.of s4).trans t4)
    · exact ((rx.tk (t2.trans (Tk.of s4))).app rk).tk t4
    · refine List.Perm.trans ?_ pm
      simp only [List.flatMap_append, List.flatMap_cons, List.flatMap_nil, List.append_nil, List.append_assoc]
      refine List.Perm.append_left ts ?_
      rw [e4]
      show (u :: (xs.flatMap Kd.nodes ++ u.kids.flatMap Kd.nodes)).Perm (xs.flatMap Kd.nodes ++ (u :: u.kids.flatMap Kd.nodes))
      exact List.perm_middle.symm
  · have nv : vs = [] := by
      cases vs with
      | nil => rfl
      | cons a b => exact absurd rfl e
    subst nv
    cases ws with
    | cons a b => exact rw'.elim
    | nil =>
      rw [List.flatMap_nil, List.append_nil] at pm
      exact ⟨_, rfl, q pa ts us G sG gp rt pm⟩
end
end Kq
namespace Kq
open PySem PySem.Spec PyProof.Rows L2
namespace Kd
def nm? : Kd → Option Str
  | opn x => some x
  | _ => none
theorem opens_nodes : ∀ t : Kd, t.nodes.filterMap nm? = t.opens
  | opn _ => rfl
  | num => rfl
  | tru => rfl
  | pair a b => by
    show ((a.nodes ++ b.nodes).filterMap nm?) = a.opens ++ b.opens
    rw [List.filterMap_append, opens_nodes a, opens_nodes b]
  | eith a b => by
    show ((a.nodes ++ b.nodes).filterMap nm?) = a.opens ++ b.opens
    rw [List.filterMap_append, opens_nodes a, opens_nodes b]
  | lst a => by
    show (a.nodes.filterMap nm?) = a.opens
    exact opens_nodes a
  | fn a b => by
    show ((a.nodes ++ b.nodes).filterMap nm?) = a.opens ++ b.opens
    rw [List.filterMap_append, opens_nodes a, opens_nodes b]
end Kd
/-- a set comprehension over a list that stays -/
theorem sc_list {w : World} {K : PySem.W.Frag} {a : Addr} {xs : List V} {g : TG} {tt : TT} {te : TE} {vs : List Nat} {σ : L2.St} {G : Hp} {D : Addr} {Qd : Hp → Prop} (Pv : Nat → Hp → Prop) (h0 : Pv 0 (upd G D (Ks.SetH w D (fun _ => false) 0)))
    (hl : ∀ i H, i ≤ xs.length → Pv i H → SqL K H a xs)
    (hs : ∀ i x H, xs[i]? = some x → Pv i H → g x (wipe σ vs) H fun τ H2 => wipe τ vs = wipe σ vs ∧ tt τ H2 fun b H3 => if b = true then
        te τ H3 fun y H4 => ∃ (c : Str) (S : Str → Bool) (n : Nat), y = .str c ∧ H4 D = some (Ks.SetH w D S n) ∧ n + 1 < scanBound ∧ Pv (i + 1) (upd H4 D (Ks.SetH w D (fun j => S j || decide (j = c)) (if S c = true then n else n + 1)))
      else Pv (i + 1) H3) (hd : ∀ H, Pv xs.length H → Qd H) :
    ∃ W : Nat → Nat → Hp → Prop, (∃ m, W 0 m (upd G D (Ks.SetH w D (fun _ => false) 0))) ∧ ∀ i m H, W i m H →
      ((Itl K a).stop i H ∧ Qd H) ∨ ((Itl K a).go i H ∧ ∃ N : Hp → Prop, (∀ H', N H' → ∃ m', m' < m ∧ W (i + 1) m' H') ∧ ∀ x H', (Itl K a).yld i H x H' →
        g x (wipe σ vs) H' fun τ H2 => wipe τ vs = wipe σ vs ∧ tt τ H2 fun b H3 => if b = true then
          te τ H3 fun y H4 => ∃ (c : Str) (S : Str → Bool) (n : Nat), y = .str c ∧ H4 D = some (Ks.SetH w D S n) ∧ n + 1 < scanBound ∧ N (upd H4 D (Ks.SetH w D (fun j => S j || decide (j = c)) (if S c = true then n else n + 1)))
        else N H3) := by
  refine ⟨fun i m F => m = xs.length - i ∧ i ≤ xs.length ∧ Pv i F, ⟨_, rfl, Nat.zero_le _, h0⟩, fun i m F z => ?_⟩
  obtain ⟨rfl, hi, p⟩ := z
  have q := hl i F hi p
  by_cases lt : i < xs.length
  · refine .inr ⟨⟨xs, xs[i], q, List.getElem?_eq_getElem lt⟩, Pv (i + 1), fun F' p' => ⟨xs.length - (i + 1), by omega, rfl, lt, p'⟩, fun x F' y => ?_⟩
    obtain ⟨e, y⟩ := y
    subst e
    exact hs i x _ (y xs q) p
  · have e : i = xs.length := by omega
    subst e
    exact .inl ⟨⟨xs, q, Nat.le_refl _⟩, hd F p⟩
theorem cnt_add : ∀ {ns : List Str} {S : Str → Bool} {c : Str}, ns.Nodup → c ∈ ns → S c = false → (ns.filter fun j => S j || decide (j = c)).length = (ns.filter S).length + 1
  | [], _, _, _, h, _ => by cases h
  | a :: l, S, c, nd, hc, h => by
    obtain ⟨na, nl⟩ := List.nodup_cons.mp nd
    by_cases e : a = c
    · subst e
      have e1 : (l.filter fun j => S j || decide (j = a)) = l.filter S := List.filter_congr fun j hj => by
        have : j ≠ a := fun z => na (by rw [← z]; exact hj)
        simp [this]
      rw [List.filter_cons, List.filter_cons, if_pos (by simp), if_neg (by rw [h]; exact Bool.false_ne_true), e1, List.length_cons]
    · have hc' : c ∈ l := by
        rcases List.mem_cons.mp hc with z | z
        · exact absurd z.symm e
        · exact z
      have ih := cnt_add nl hc' h
      rw [List.filter_cons, List.filter_cons]
      have e2 : (S a || decide (a = c)) = S a := by simp [e]
      rw [e2]
      cases S a with
      | true => simpa using ih
      | false => simpa using ih
theorem cnt_none : ∀ ns : List Str, 0 = (ns.filter fun _ => false).length
  | [] => rfl
  | _ :: l => cnt_none l
theorem cnt_same {S : Str → Bool} {c : Str} (h : S c = true) : (fun j => S j || decide (j = c)) = S := by
  funext j
  by_cases e : j = c
  · rw [e, h]
    rfl
  · simp [e]
abbrev tOpens : Stmt := tp 19
section
variable {P : Program} {w : World} {K : PySem.W.Frag} {mg : Str → Option Value} {base : Heap}
/-! opens_in -/
theorem scOpens : FnScope ["kind", "part"] ["kind"] (defScope tOpens) := ⟨rfl, rfl, rfl, by decide +kernel, rfl, by decide +kernel, by decide +kernel⟩
def spOpens (K : PySem.W.Frag) : Sp := fun vs H Q _ => ∃ (v : V) (t : Kd), vs = [v] ∧ Rp K H t v ∧ t.size ≤ 900 ∧ (∃ ns : List Str, ns.Nodup ∧ ns.length ≤ 40 ∧ ∀ x ∈ t.opens, x ∈ ns) ∧ ∀ (p : Addr) (ys : List Str) (G : Hp), Same H G → G p = some (.tup (ys.map V.str)) → sortedS ys = true → ys.Nodup → (∀ k, k ∈ ys ↔ k ∈ t.opens) → Q (.ref p) G
theorem okOpens {f fP : Addr} {fd fdP : FuncData} {k : Nat} (F : Fun K "opens_in" "opens_in" tOpens f fd) (GP : FnOk P w K mg base CX0 (k + 2) fP fdP ["kind"] (spParts K)) (bP : Binds K fdP ["kind"] []) (gP : mg "parts_of" = some (.ref fP)) (kP : PySem.W.keepIn K (.ref fP) = true)
    (mt : mg "tuple" = none) (ms : mg "sorted" = none) : FnOk P w K mg base CX0 (k + 3) f fd ["kind"] (spOpens K) := by
  refine F.ok scOpens (fun vs H Q E h => ?_) (fun cdv A outer s H vs Q E hr h => ?_)
  · obtain ⟨v, t, rfl, _⟩ := h
    rfl
  obtain ⟨v, t, rfl, r, hz, ⟨ns, nsd, nsl, nso⟩, q⟩ := h
  refine ⟨_, pss_one (ps_ret (pe_callTy call_tuple_of (by rfl) mt PyProof.Rows.boot_tuple (pa_cons (pe_callB (Ks.cr_sortT rfl) (by rfl) ms PyProof.Rows.boot_sorted (pa_cons
    (Ks.pe_scT (own := [("part", 1)]) (g := gName 1) (by rfl) scOpens.nd (pi_list (pe_call GP hr (by rfl) gP kP bP .nil pass0 (pa_cons (pv 0) pa_nil))) (blkOk_by (own := [("part", 1)]) (N := ["kind", "part"]) (sc := defScope tOpens) (by decide +kernel))
      (fun _ _ _ _ _ => pg_name (i := 1) scOpens.nd rfl (.inl rfl)) (fun _ _ _ _ _ => pts_one (pt_cmpR op_eq (pe_ix (ixTK K rfl) (pv 1) pe_int (fun _ _ => rfl)) pe_str (nomark _)))
      (fun _ _ _ _ _ => pe_ix (ixTK K rfl) (pv 1) pe_int (fun _ _ => rfl))) pa_nil)) pa_nil))), ?_⟩
  refine ⟨_, rfl, v, t, rfl, r, by omega, fun p ts us G sG gp rt pm => ⟨p, rfl, ⟨_, SqL.of gp⟩, fun D nD => ?_⟩⟩
  have lt : ts.length ≤ 900 := by rw [pm.length_eq]; exact hz
  have l1 := rt.len
  refine sc_list (xs := us) (fun i F => Same G F ∧ ∃ S n, F D = some (Ks.SetH w D S n) ∧ n = (ns.filter S).length ∧ ∀ k, S k = true ↔ k ∈ (ts.take i).filterMap Kd.nm?) ⟨newS nD, fun _ => false, 0, upd_same, cnt_none ns, fun k => ?_⟩ (fun i F _ z => SqL.of (z.1 _ _ gp)) (fun i x F hx z => ?_) (fun F z => ?_)
  · rw [List.take_zero]
    exact ⟨fun z => (nomatch z), fun z => (nomatch z)⟩
  · obtain ⟨sF, S, n, gD, hn, hS⟩ := z
    obtain ⟨c, hc, rx⟩ := rt.get hx
    obtain ⟨a, ws, rfl, ha, hw⟩ := (rx.tk (Tk.of sF)).see
    have li : i < us.length := (List.getElem?_eq_some_iff.mp hx).1
    have tk : ts.take (i + 1) = ts.take i ++ [c] := by rw [List.take_add_one, hc]; rfl
    refine ⟨rfl, _, rfl, a, _, _, _, rfl, rfl, ha.t, atI_nat (j := 0) rfl, rfl, _, rfl, ?_⟩
    rw [Kd.isOp_word]
    refine ite2 (fun e => ?_) (fun e => ?_)
    · rcases hw with hw | ⟨y, rfl, rfl⟩
      · rw [hw.1] at e
        cases e
      · refine ⟨_, rfl, a, _, _, _, rfl, rfl, ha.t, atI_nat (j := 1) rfl, y, S, n, rfl, gD, ?_, smk sF nD, _, _, upd_same, ?_, fun k => ?_⟩
        · show n + 1 < scanBound
          have : scanBound = 4096 := rfl
          have := List.length_filter_le S ns
          omega
        · have hyn : y ∈ ns := by
            refine nso y ?_
            rw [← Kd.opens_nodes t]
            refine List.mem_filterMap.mpr ⟨.opn y, ?_, rfl⟩
            exact pm.mem_iff.mp (List.mem_of_getElem? hc)
          split
          · rename_i hSy
            rw [cnt_same hSy]
            exact hn
          · rename_i hSy
            rw [cnt_add nsd hyn (by simpa using hSy), hn]
        · rw [tk, List.filterMap_append, List.mem_append, Bool.or_eq_true, decide_eq_true_eq, hS k]
          show _ ↔ _ ∨ k ∈ [y]
          rw [List.mem_singleton]
    · refine ⟨sF, S, n, gD, hn, fun k => ?_⟩
      have none : c.nm? = none := by
        cases c with
        | opn x => exact absurd rfl e
        | _ => rfl
      rw [tk, List.filterMap_append, List.mem_append, hS k]
      simp [none]
  · obtain ⟨sF, S, n, gD, hn, hS⟩ := z
    rw [← l1, List.take_length] at hS
    have nl := List.length_filter_le S ns
    refine ⟨D, S, n, rfl, gD, by omega, fun ys l hs hd hm _ nl' => ?_⟩
    refine ⟨l, _, rfl, .inl ⟨SqL.of upd_same, fun m nm => ?_⟩⟩
    refine q m ys _ (sG.trans (sF.trans ((newS nl').trans (newS nm)))) upd_same hs hd (fun k => ?_)
    rw [hm k, hS k, ← Kd.opens_nodes t]
    exact (pm.filterMap Kd.nm?).mem_iff
end
end Kq
/-! all of the rules; kind_at -/
/-! kind_of, whole -/
/-! names of one letter unlike; pick -/
namespace Kq
open PySem PySem.Spec PyProof.Rows L2 Kf Kg Kv Kk
abbrev tNames : Stmt := tp 53
abbrev tPick : Stmt := tp 52
abbrev nNames : List Str := ["_law_deck_here", "_law_many", "_law_letters", "_law_k", "_law_word", "_law_at", "_law_found", "_law_sign"]
def nmAt (ks : List Nat) (a j : Nat) : Str := Txt.join (Str.ofString "") ((ks.set a ((ks.getD a 0 + j + 1) % 26)).map sg)
theorem nmAt_inj {ks : List Nat} {a i j : Nat} (ha : a < ks.length) (hi : i < 26) (hj : j < 26) (h : nmAt ks a i = nmAt ks a j) : i = j := by
  have e : (ks.set a ((ks.getD a 0 + i + 1) % 26)).map (97 + ·) = (ks.set a ((ks.getD a 0 + j + 1) % 26)).map (97 + ·) := by
    rw [← join_cps, ← join_cps]
    exact congrArg (fun s : Str => s.cps.toList) h
  have e2 := congrArg (fun l => l[a]?) e
  simp only [List.getElem?_map, List.getElem?_set_self ha, Option.map_some] at e2
  have e3 := Option.some.inj e2
  omega
section
variable {P : Program} {w : World} {K : PySem.W.Frag} {mg : Str → Option Value} {base : Heap}
theorem scNames : FnScope nNames ["_law_deck_here", "_law_many"] (defScope tNames) := ⟨rfl, rfl, rfl, by decide +kernel, rfl, by decide +kernel, by decide +kernel⟩
def spNames : Sp := fun vs H Q _ => ∃ (d c : Addr) (m : Int), vs = [.ref d, .int m] ∧ Dk H d c ∧ 0 ≤ m ∧ m ≤ 26 ∧
  ∀ (l : Addr) (xs : List Str) (G : Hp), Kp d c H G → Dk G d c → H l = none → G l = some (.lst (xs.map V.str)) → xs.length = m.toNat → (∀ x ∈ xs, Nm x) → xs.Nodup → (∃ n, ∀ x ∈ xs, x.cps.toList.length = n) → Q (.ref l) G
theorem okNames {f fD : Addr} {fd fdD : FuncData} {k : Nat} (F : Fun K "_law_names" "_law_names" tNames f fd) (GD : FnOk P w K mg base CX0 (k + 1) fD fdD ["_law_deck_here", "_law_most"] spDraw) (bD : Binds K fdD ["_law_deck_here", "_law_most"] []) (gD : mg "_law_draw" = some (.ref fD)) (kD : PySem.W.keepIn K (.ref fD) = true)
    (mn : mg "len" = none) (mr : mg "range" = none) : FnOk P w K mg base CX0 (k + 2) f fd ["_law_deck_here", "_law_many"] spNames := by
  refine F.ok scNames (fun vs H Q E h => ?_) (fun cdv A outer s H vs Q E hr h => ?_)
  · obtain ⟨d, c, m, rfl, _⟩ := h
    rfl
  obtain ⟨d, c, m, rfl, dk, m0, m1, q⟩ := h
  refine ⟨_, pss_cons (ps_set (i := 2) scNames.nd rfl (.inr rfl) pe_str)
    (pss_cons (ps_setLc (i := 4) (own := [("_law_k", 3)]) (g := gName 3) (by rfl) scNames.nd rfl rfl (sw_true rfl rfl rfl (by decide +kernel)) (pi_range1 (by rfl) mr (pa_cons (pe_op op_add pe_int (pe_call GD hr (by rfl) gD kD bD .nil pass0 (pa_cons (pv 0) (pa_cons pe_int pa_nil)))) pa_nil)) (blkOk_by (own := [("_law_k", 3)]) (N := nNames) (sc := defScope tNames) (by decide +kernel))
        (fun _ _ _ _ _ => pg_name (i := 3) scNames.nd rfl (.inl rfl)) (fun _ _ _ _ _ => pts_nil)
        (fun _ _ _ _ _ => pe_call GD hr (by rfl) gD kD bD .nil pass0 (pa_cons (pv 0) (pa_cons pe_int pa_nil))))
    (pss_cons (ps_set (i := 5) scNames.nd rfl (.inl rfl) (pe_call GD hr (by rfl) gD kD bD .nil pass0 (pa_cons (pv 0) (pa_cons (pe_callB call_len_seq (by rfl) mn PySem.boot_len (pa_cons (pv 4) pa_nil)) pa_nil))))
    (pss_cons (ps_set (i := 6) scNames.nd rfl (.inl rfl) (pe_lst pa_nil))
    (pss_cons (ps_for PassesOwn.never rfl (pi_range1 (by rfl) mr (pa_cons (pv 1) pa_nil)) (pg_name (i := 3) scNames.nd rfl (.inl rfl))
      (pss_cons (ps_asg (pe_op op_mod (pe_op op_add (pe_ix ix_list (pv 4) (pv 5) (fun _ _ => rfl)) pe_int) pe_int) (pg_sub (pv 4) (pv 5) set_list))
      (pss_one (ps_expr (pe_bm PySem.F.plainAttrs_list PySem.F.slot_list_append PySem.F.type_list_append mt_append (pv 6) (pa_cons (pe_joinK K rfl pe_str
        (pe_lc (own := [("_law_sign", 7)]) (g := gName 7) (by rfl) scNames.nd (pi_list (pv 4)) (blkOk_by (own := [("_law_sign", 7)]) (N := nNames) (sc := defScope tNames) (by decide +kernel))
          (fun _ _ _ _ _ => pg_name (i := 7) scNames.nd rfl (.inl rfl)) (fun _ _ _ _ _ => pts_nil) (fun _ _ _ _ _ => pe_ix ix_str (pv 2) (pv 7) (fun _ _ => rfl)))) pa_nil))))))
    (pss_one (ps_ret (pv 6))))))), ?_⟩
  refine ⟨_, rfl, d, c, 8, rfl, dk, by decide, by decide, fun mm G1 mm0 mm1 kp1 dk1 => ⟨_, _, rfl, rfl, ?_⟩⟩
  refine ⟨1 + mm, rfl, by omega, by omega, fun D nD => ?_⟩
  have offD := dk1.off nD
  have hD : H D = none := kp1.free dk1 nD
  refine lc_range (lo := 0) (n := (1 + mm).toNat) (fun i G => Kp d c H G ∧ Dk G d c ∧ ∃ ks : List Nat, ks.length = i ∧ (∀ k ∈ ks, k < 26) ∧ G D = some (.lst (ks.map fun k : Nat => V.int (k : Int)))) ?_ (fun i G hi z => ?_) (fun G z => ?_)
  · exact ⟨kp1.mk hD, dk1.put offD.1 offD.2, [], rfl, fun k z => (nomatch z), upd_same⟩
  · obtain ⟨kpi, dki, ks, lk, hk, gD'⟩ := z
    refine ⟨rfl, _, rfl, d, c, 26, rfl, dki, by decide, by decide, fun r G2 r0 r1 kp2 dk2 => ?_⟩
    have er : r = ((r.toNat : Nat) : Int) := by omega
    refine ⟨_, kp2 D _ offD.1 offD.2 gD', ?_, (kpi.trans kp2).mk hD, dk2.put offD.1 offD.2, ks ++ [r.toNat], ?_, fun k hk' => ?_, ?_⟩
    · rw [List.length_map, lk]
      exact small1000 (by omega)
    · rw [List.length_append, lk]
      rfl
    · rcases List.mem_append.mp hk' with z | z
      · exact hk k z
      · rw [List.mem_singleton.mp z]
        omega
    · rw [upd_same, List.map_append]
      show _ = some (HO.lst (_ ++ [V.int ((r.toNat : Nat) : Int)]))
      rw [← er]
  obtain ⟨kpi, dki, ks, lk, hk, gD'⟩ := z
  refine ⟨_, rfl, _, rfl, D, _, rfl, .inl (SqL.of gD'), d, c, _, rfl, dki, by rw [List.length_map]; omega, by rw [List.length_map]; omega, fun r G2 r0 r1 kp2 dk2 => ?_⟩
  rw [List.length_map] at r1
  have gD2 := kp2 D _ offD.1 offD.2 gD'
  refine ⟨Nat.zero_le _, fun L nL => ?_⟩
  have offL := dk2.off nL
  have LD : L ≠ D := (ne_of_none gD2 nL).symm
  have kpa := kpi.trans kp2
  have hL : H L = none := kpa.free dk2 nL
  have er : r = ((r.toNat : Nat) : Int) := by omega
  have lr : r.toNat < ks.length := by omega
  have l8 : ks.length ≤ 8 := by omega
  refine ⟨_, rfl, m, rfl, by omega, by omega, ?_⟩
  refine for_range (lo := 0) (n := m.toNat) (fun i σ G => (∃ y3, σ = [some (.ref d), some (.int m), some (.str lets), y3, some (.ref D), some (.int r), some (.ref L), none]) ∧ Kp d c H G ∧ Dk G d c ∧
      G D = some (.lst ((ks.set r.toNat ((ks.getD r.toNat 0 + i) % 26)).map fun k : Nat => V.int (k : Int))) ∧ G L = some (.lst (((List.range i).map (nmAt ks r.toNat)).map V.str))) ?_ (fun i σ G hi z => ?_) (fun σ G z => ?_)
  · refine ⟨⟨none, rfl⟩, kpa.mk hL, dk2.put offL.1 offL.2, ?_, upd_same⟩
    rw [upd_ne LD.symm, gD2]
    have h26 : (ks.getD r.toNat 0 + 0) % 26 = ks[r.toNat] := by
      have e1 : ks.getD r.toNat 0 = ks[r.toNat] := by simp [List.getD, List.getElem?_eq_getElem lr]
      have := hk _ (List.getElem_mem lr)
      rw [e1]
      omega
    rw [h26, List.set_getElem_self]
  · obtain ⟨⟨y3, rfl⟩, kpG, dkG, gDG, gLG⟩ := z
    generalize hks : ks.set r.toNat ((ks.getD r.toNat 0 + i) % 26) = ki at gDG
    have lki : ki.length = ks.length := by rw [← hks, List.length_set]
    have kat : ki[r.toNat]? = some ((ks.getD r.toNat 0 + i) % 26) := by rw [← hks, List.getElem?_set_self lr]
    have gat : atI (ki.map fun k : Nat => V.int (k : Int)) r = some (V.int (((ks.getD r.toNat 0 + i) % 26 : Nat) : Int)) := by
      have z := atI_nat (xs := ki.map fun k : Nat => V.int (k : Int)) (j := r.toNat) (v := V.int (((ks.getD r.toNat 0 + i) % 26 : Nat) : Int)) (by rw [List.getElem?_map, kat]; rfl)
      rw [← er] at z
      exact z
    have ix : ixN (ki.map fun k : Nat => V.int (k : Int)).length r = some r.toNat := by
      have z := ixNat (n := (ki.map fun k : Nat => V.int (k : Int)).length) (j := r.toNat) (by rw [List.length_map, lki]; exact lr)
      rw [← er] at z
      exact z
    refine ⟨_, rfl, _, rfl, D, _, _, _, rfl, rfl, SqL.of gDG, gat, _, _, rfl, rfl, _, _, rfl, rfl, (by show (0 : Int) < 26; decide), _, rfl, _, rfl, D, _, _, r.toNat, rfl, rfl, gDG, ix, ?_⟩
    have ev : (V.int ((((ks.getD r.toNat 0 + i) % 26 : Nat) : Int) + 1) = V.int ((((ks.getD r.toNat 0 + i) % 26 : Nat) : Int) + 1)) := rfl
    have en : ((((ks.getD r.toNat 0 + i) % 26 : Nat) : Int) + 1) % 26 = (((ks.getD r.toNat 0 + i + 1) % 26 : Nat) : Int) := by omega
    have eset : (ki.map fun k : Nat => V.int (k : Int)).set r.toNat (V.int (((((ks.getD r.toNat 0 + i) % 26 : Nat) : Int) + 1) % 26)) = (ks.set r.toNat ((ks.getD r.toNat 0 + i + 1) % 26)).map fun k : Nat => V.int (k : Int) := by
      rw [en, ← hks, ← List.map_set (f := fun k : Nat => V.int (k : Int)), List.set_set]
    rw [eset]
    generalize hk2 : ks.set r.toNat ((ks.getD r.toNat 0 + i + 1) % 26) = k2
    have lk2 : k2.length = ks.length := by rw [← hk2, List.length_set]
    have hk26 : ∀ k ∈ k2, k < 26 := fun k hk' => by
      rw [← hk2] at hk'
      rcases List.mem_or_eq_of_mem_set hk' with z | z
      · exact hk k z
      · rw [z]
        exact Nat.mod_lt _ (by decide)
    have gL2 : (upd G D (.lst (k2.map fun k : Nat => V.int (k : Int)))) L = some (.lst (((List.range i).map (nmAt ks r.toNat)).map V.str)) := by rw [upd_ne LD]; exact gLG
    have gDn : (upd G D (.lst (k2.map fun k : Nat => V.int (k : Int)))) D = some (.lst (k2.map fun k : Nat => V.int (k : Int))) := upd_same
    have kp3 : Kp d c H (upd G D (.lst (k2.map fun k : Nat => V.int (k : Int)))) := kpG.mk hD
    have dk3 := dkG.put (o := .lst (k2.map fun k : Nat => V.int (k : Int))) offD.1 offD.2
    generalize upd G D (.lst (k2.map fun k : Nat => V.int (k : Int))) = G3 at gL2 gDn kp3 dk3
    refine ⟨_, rfl, .inl ⟨rfl, _, SqL.of gL2⟩, ⟨_, rfl⟩, _, rfl, D, rfl, ⟨_, SqL.of gDn⟩, fun J nJ => ?_⟩
    have JD : D ≠ J := ne_of_none gDn nJ
    have JL : L ≠ J := ne_of_none gL2 nJ
    have offJ := dk3.off nJ
    have hJ : H J = none := kp3.free dk3 nJ
    refine lc_list (xs := k2.map fun k : Nat => V.int (k : Int)) (fun i G => Same G3 G ∧ G J = some (.lst (((k2.take i).map sg).map V.str))) ⟨newS nJ, upd_same⟩ (fun i G _ z => SqL.of (z.1 _ _ gDn)) (fun i' x G hx z => ?_) (fun G z => ?_)
    · obtain ⟨sG, gJ⟩ := z
      rw [List.getElem?_map] at hx
      cases hu : k2[i']? with
      | none => rw [hu] at hx; cases hx
      | some kk =>
        rw [hu] at hx
        have ex : V.int (kk : Int) = x := Option.some.inj hx
        subst ex
        have hkk := hk26 kk (List.mem_of_getElem? hu)
        have li : i' < k2.length := (List.getElem?_eq_some_iff.mp hu).1
        have tk : k2.take (i' + 1) = k2.take i' ++ [kk] := by rw [List.take_add_one, hu]; rfl
        have lg := lets_get (r := ((kk : Nat) : Int)) (by omega) (by omega)
        rw [Int.toNat_natCast] at lg
        refine ⟨rfl, _, rfl, _, rfl, lets, _, _, rfl, rfl, lets_len, lg, _, gJ, ?_, smk sG nJ, ?_⟩
        · rw [List.length_map, List.length_map, List.length_take]
          exact small1000 (by omega)
        · rw [upd_same, tk, List.map_append, List.map_append]
          rfl
    · obtain ⟨sG, gJ⟩ := z
      rw [List.length_map, List.take_length] at gJ
      refine ⟨_, J, k2.map sg, rfl, rfl, .inl (SqL.of gJ), ?_, L, _, _, rfl, rfl, sG _ _ gL2, ?_, ?_⟩
      · rw [sg_len, List.length_map]
        show k2.length + k2.length * 0 ≤ _
        omega
      · rw [List.length_map, List.length_map, List.length_range]
        exact small1000 (by omega)
      · refine ⟨⟨_, rfl⟩, (kp3.trans (Kp.of sG)).mk hL, (dk3.same sG).put offL.1 offL.2, ?_, ?_⟩
        · rw [upd_ne LD.symm]
          exact sG _ _ gDn
        · rw [upd_same, List.range_succ, List.map_append, List.map_append]
          show _ = some (HO.lst (_ ++ [V.str (Txt.join (Str.ofString "") ((ks.set r.toNat ((ks.getD r.toNat 0 + i + 1) % 26)).map sg))]))
          rw [hk2]
  · obtain ⟨⟨y3, rfl⟩, kpG, dkG, gDG, gLG⟩ := z
    refine ⟨_, rfl, q L _ G kpG dkG hL gLG (by rw [List.length_map, List.length_range]) (fun x hx => ?_) (nodupR _ fun i j hi hj e => nmAt_inj lr (by omega) (by omega) e) ⟨ks.length, fun x hx => ?_⟩⟩
    rotate_left
    · obtain ⟨j, _, rfl⟩ := List.mem_map.mp hx
      unfold nmAt
      rw [join_cps, List.length_map, List.length_set]
    obtain ⟨j, _, rfl⟩ := List.mem_map.mp hx
    refine join_nm (fun k hk' => ?_) (by rw [List.length_set]; omega) (by rw [List.length_set]; omega)
    rcases List.mem_or_eq_of_mem_set hk' with z | z
    · exact hk k z
    · rw [z]
      exact Nat.mod_lt _ (by decide)
/-! _law_pick -/
theorem scPick : FnScope ["_law_deck_here", "_law_some"] ["_law_deck_here", "_law_some"] (defScope tPick) := ⟨rfl, rfl, rfl, by decide +kernel, rfl, by decide +kernel, by decide +kernel⟩
abbrev psPick : List Str := ["_law_deck_here", "_law_some"]
def spPick : Sp := fun vs H Q _ => ∃ (d c a : Addr) (us : List V), vs = [.ref d, .ref a] ∧ Dk H d c ∧ H a = some (.lst us) ∧ a ≠ d ∧ a ≠ c ∧ 1 ≤ us.length ∧ us.length ≤ 100 ∧ ∀ (v : V) (G : Hp), Kp d c H G → Dk G d c → v ∈ us → Q v G
theorem okPick {f fD : Addr} {fd fdD : FuncData} {k : Nat} (F : Fun K "_law_pick" "_law_pick" tPick f fd) (GD : FnOk P w K mg base CX0 (k + 1) fD fdD ["_law_deck_here", "_law_most"] spDraw) (bD : Binds K fdD ["_law_deck_here", "_law_most"] []) (gD : mg "_law_draw" = some (.ref fD)) (kD : PySem.W.keepIn K (.ref fD) = true)
    (mn : mg "len" = none) : FnOk P w K mg base CX0 (k + 2) f fd psPick spPick := by
  refine F.ok scPick (fun vs H Q E h => ?_) (fun cdv A outer s H vs Q E hr h => ?_)
  · obtain ⟨d, c, a, us, rfl, _⟩ := h
    rfl
  obtain ⟨d, c, a, us, rfl, dk, ha, ad, ac, l1, l2, q⟩ := h
  refine ⟨_, pss_one (ps_ret (pe_ix ix_list (pv 1) (pe_call GD hr (by rfl) gD kD bD .nil pass0 (pa_cons (pv 0) (pa_cons (pe_callB call_len_seq (by rfl) mn PySem.boot_len (pa_cons (pv 1) pa_nil)) pa_nil))) (fun _ _ => rfl))), ?_⟩
  refine ⟨_, rfl, _, rfl, _, rfl, a, _, rfl, .inl (SqL.of ha), d, c, _, rfl, dk, by omega, by omega, fun r G r0 r1 kp dk2 => ?_⟩
  have lr : r.toNat < us.length := by omega
  have er : r = ((r.toNat : Nat) : Int) := by omega
  have gat : atI us r = some us[r.toNat] := by
    have z := atI_nat (xs := us) (j := r.toNat) (List.getElem?_eq_getElem lr)
    rw [← er] at z
    exact z
  exact ⟨a, _, _, _, rfl, rfl, SqL.of (kp a _ ad ac ha), gat, q _ G kp dk2 (List.getElem_mem lr)⟩
end
end Kq

/-! arguments_of, result_of -/
namespace Kq
open PySem PySem.Spec PyProof.Rows L2 Kf Kg Kv Kk
namespace Kd
def args : Kd → List Kd
  | fn a b => a :: b.args
  | _ => []
def res : Kd → Kd
  | fn _ b => b.res
  | t => t
theorem size_fn (a b : Kd) : (fn a b).size = a.size + b.size + 1 := by
  show (a.nodes ++ b.nodes).length + 1 = _
  rw [List.length_append]
  rfl
theorem args_le : ∀ t : Kd, t.args.length ≤ t.size
  | fn a b => by
    have := args_le b
    rw [size_fn]
    show b.args.length + 1 ≤ _
    omega
  | opn _ => Nat.zero_le _
  | num => Nat.zero_le _
  | tru => Nat.zero_le _
  | pair _ _ => Nat.zero_le _
  | eith _ _ => Nat.zero_le _
  | lst _ => Nat.zero_le _
end Kd
abbrev tArgs : Stmt := tp 17
abbrev tRes : Stmt := tp 18
section
variable {P : Program} {w : World} {K : PySem.W.Frag} {mg : Str → Option Value} {base : Heap}
theorem scArgs : FnScope ["kind", "arguments", "rest"] ["kind"] (defScope tArgs) := ⟨rfl, rfl, rfl, by decide +kernel, rfl, by decide +kernel, by decide +kernel⟩
def spArgs (K : PySem.W.Frag) : Sp := fun vs H Q _ => ∃ (v : V) (t : Kd), vs = [v] ∧ Rp K H t v ∧ t.size ≤ 900 ∧ ∀ (p : Addr) (us : List V) (G : Hp), Same H G → G p = some (.tup us) → RpL K G t.args us → Q (.ref p) G
theorem okArgs {f fL : Addr} {fd fdL : FuncData} {k : Nat} (F : Fun K "arguments_of" "arguments_of" tArgs f fd) (FL : Fun K "leads" "leads" tLeads fL fdL) (bL : Binds K fdL ["kind"] []) (gL : mg "leads" = some (.ref fL)) (mt : mg "tuple" = none) : FnOk P w K mg base CX0 (k + 2) f fd ["kind"] (spArgs K) := by
  have GL : FnOk P w K mg base CX0 (k + 1) fL fdL ["kind"] (spLeads K) := okLeads FL
  refine F.ok scArgs (fun vs H Q E h => ?_) (fun cdv A outer s H vs Q E hr h => ?_)
  · obtain ⟨v, t, rfl, _⟩ := h
    rfl
  obtain ⟨v, t, rfl, r, hz, q⟩ := h
  refine ⟨_, pss_cons (ps_set (i := 1) scArgs.nd rfl (.inl rfl) (pe_lst pa_nil))
    (pss_cons (ps_set (i := 2) scArgs.nd rfl (.inl rfl) (pv 0))
    (pss_cons (ps_while PassesOwn.never (pt_val (pe_call GL hr (by rfl) gL FL.kp bL .nil pass0 (pa_cons (pv 2) pa_nil)))
      (pss_cons (ps_expr (pe_bm PySem.F.plainAttrs_list PySem.F.slot_list_append PySem.F.type_list_append mt_append (pv 1) (pa_cons (pe_ix ix_tup (pv 2) pe_int (fun _ _ => rfl)) pa_nil)))
      (pss_one (ps_set (i := 2) scArgs.nd rfl (.inl rfl) (pe_ix ix_tup (pv 2) pe_int (fun _ _ => rfl))))))
    (pss_one (ps_ret (pe_callTy call_tuple_of (by rfl) mt PyProof.Rows.boot_tuple (pa_cons (pv 1) pa_nil)))))), ?_⟩
  refine ⟨Nat.zero_le _, fun pa npa => ?_⟩
  refine ⟨_, rfl, ?_⟩
  refine ⟨fun m σ G => ∃ ts c us cv, m = c.size ∧ σ = [some v, some (.ref pa), some cv] ∧ Same H G ∧ G pa = some (.lst us) ∧ RpL K G ts us ∧ Rp K G c cv ∧ ts ++ c.args = t.args,
    ⟨_, [], t, [], v, rfl, rfl, newS npa, upd_same, trivial, r.tk (Tk.of (newS npa)), rfl⟩, fun m σ G z => ?_⟩
  obtain ⟨ts, c, us, cv, rfl, rfl, sG, gp, rt, rc, ea⟩ := z
  refine ⟨_, rfl, cv, c, rfl, rc, _, rfl, ite2 (fun e => ?_) (fun e => ?_)⟩
  · cases c with
    | fn a b =>
      obtain ⟨ca, x, y, rfl, hc, ra, rb⟩ := rc
      refine ⟨fun σ' G' => ∃ m', m' < (Kd.fn a b).size ∧ ∃ ts c us cv, m' = c.size ∧ σ' = [some v, some (.ref pa), some cv] ∧ Same H G' ∧ G' pa = some (.lst us) ∧ RpL K G' ts us ∧ Rp K G' c cv ∧ ts ++ c.args = t.args, fun σ' G' z => z, ?_⟩
      have le : ts.length ≤ t.args.length := by
        rw [← ea, List.length_append]
        exact Nat.le_add_right _ _
      have l1 := rt.len
      have l2 := Kd.args_le t
      refine ⟨_, rfl, .inl ⟨rfl, _, SqL.of gp⟩, _, rfl, ca, _, _, x, rfl, rfl, hc.t, atI_nat (j := 1) rfl, pa, _, _, rfl, rfl, gp, small1000 (by omega), ?_⟩
      have t1 : Tk G (upd G pa (.lst (us ++ [x]))) := Tk.rfl.put (fun _ z => by rw [gp] at z; cases z)
      refine ⟨_, rfl, ca, _, _, y, rfl, rfl, (hc.tk t1).t, atI_nat (j := 2) rfl, ?_⟩
      refine ⟨_, ?_, ts ++ [a], b, us ++ [x], y, rfl, rfl, smk sG npa, upd_same, RpL.app (us := [a]) (ws := [x]) (rt.tk t1) ⟨ra.tk t1, trivial⟩, rb.tk t1, ?_⟩
      · rw [Kd.size_fn]
        omega
      · rw [← ea, List.append_assoc]
        rfl
    | _ => cases e
  · have e0 : c.args = [] := by
      cases c with
      | fn a b => exact absurd rfl e
      | _ => rfl
    rw [e0, List.append_nil] at ea
    refine ⟨_, rfl, pa, _, rfl, .inl ⟨SqL.of gp, fun l nl => ?_⟩⟩
    exact q l us _ (sG.trans (newS nl)) upd_same (by rw [← ea]; exact rt.tk (Tk.of (newS nl)))
theorem scRes : FnScope ["kind", "rest"] ["kind"] (defScope tRes) := ⟨rfl, rfl, rfl, by decide +kernel, rfl, by decide +kernel, by decide +kernel⟩
def spRes (K : PySem.W.Frag) : Sp := fun vs H Q _ => ∃ (v : V) (t : Kd), vs = [v] ∧ Rp K H t v ∧ ∀ u : V, Rp K H t.res u → Q u H
theorem okRes {f fL : Addr} {fd fdL : FuncData} {k : Nat} (F : Fun K "result_of" "result_of" tRes f fd) (FL : Fun K "leads" "leads" tLeads fL fdL) (bL : Binds K fdL ["kind"] []) (gL : mg "leads" = some (.ref fL)) : FnOk P w K mg base CX0 (k + 2) f fd ["kind"] (spRes K) := by
  have GL : FnOk P w K mg base CX0 (k + 1) fL fdL ["kind"] (spLeads K) := okLeads FL
  refine F.ok scRes (fun vs H Q E h => ?_) (fun cdv A outer s H vs Q E hr h => ?_)
  · obtain ⟨v, t, rfl, _⟩ := h
    rfl
  obtain ⟨v, t, rfl, r, q⟩ := h
  refine ⟨_, pss_cons (ps_set (i := 1) scRes.nd rfl (.inl rfl) (pv 0))
    (pss_cons (ps_while PassesOwn.never (pt_val (pe_call GL hr (by rfl) gL FL.kp bL .nil pass0 (pa_cons (pv 1) pa_nil)))
      (pss_one (ps_set (i := 1) scRes.nd rfl (.inl rfl) (pe_ix ix_tup (pv 1) pe_int (fun _ _ => rfl)))))
    (pss_one (ps_ret (pv 1)))), ?_⟩
  refine ⟨_, rfl, ?_⟩
  refine ⟨fun m σ G => ∃ c cv, m = c.size ∧ σ = [some v, some cv] ∧ G = H ∧ Rp K H c cv ∧ c.res = t.res, ⟨_, t, v, rfl, rfl, rfl, r, rfl⟩, fun m σ G z => ?_⟩
  obtain ⟨c, cv, rfl, rfl, rfl, rc, ec⟩ := z
  refine ⟨_, rfl, cv, c, rfl, rc, _, rfl, ite2 (fun e => ?_) (fun e => ?_)⟩
  · cases c with
    | fn a b =>
      obtain ⟨ca, x, y, rfl, hc, ra, rb⟩ := rc
      refine ⟨fun σ' G' => ∃ m', m' < (Kd.fn a b).size ∧ ∃ c cv, m' = c.size ∧ σ' = [some v, some cv] ∧ G' = G ∧ Rp K G c cv ∧ c.res = t.res, fun σ' G' z => z, ?_⟩
      refine ⟨_, rfl, ca, _, _, y, rfl, rfl, hc.t, atI_nat (j := 2) rfl, _, ?_, b, y, rfl, rfl, rfl, rb, ec⟩
      rw [Kd.size_fn]
      omega
    | _ => cases e
  · have e0 : c.res = c := by
      cases c with
      | fn a b => exact absurd rfl e
      | _ => rfl
    exact ⟨_, rfl, q cv (by rw [← ec, e0]; exact rc)⟩
end
end Kq

/-! any(..) of a generator expression of one loop -/
namespace Kg
open PySem PySem.Spec PyProof.Rows L2 GenW GxR
open Sem (wp)
def GEndN (Qf : Value → Shared → Prop) : Nat → Shared → Shared → Prop := fun _ _ s => AllBare s.gens ∧ Done Qf false s
def GProtoN (Qf : Value → Shared → Prop) (a : Addr) (g : Nat) : Protocol := fun _ _ v s kap =>
  ∃ b : Bool, v = .bool b ∧ s.heap.IsGen a g ∧ s.heap.NoLimit ∧ AllBare s.gens ∧ (b = false → ∀ s' : Shared, s'.heap = s.heap → s'.os = s.os → AllBare s'.gens → kap (.send .none) s') ∧ (b = true → Done Qf true s)
section
variable {P : Program} {w : World} {A : Around} {Qf : Value → Shared → Prop} {a : Addr} {g : Nat}
/-- all's own loop -/
theorem any_drain (hh : A.handled = none) (hd : A.depth < recursionLimit) : ∀ (n : Nat) (s : Shared), s.heap.IsGen a g → s.heap.NoLimit →
    (∃ gs, s.gens[g]? = some gs ∧ gs.Goes (model P w) A.in1.in1 (fun n s₀ r s₁ => r = .ok .next ∧ GEndN Qf n s₀ s₁) (GProtoN Qf a g) n (.send .none) (s.setGen g .running)) →
    codeAny (model P w) A (.builtin "any.loop" ⟨[.ref a], []⟩) (fun r s' => ∃ b : Bool, r = .ok (.ret (.bool b)) ∧ Qf (.bool b) s') s := by
  intro n
  induction n with
  | zero =>
    intro s hg hl ⟨gs, hgs, hgo⟩
    refine codeAny_builtin F.entry_any_loop ?_
    rw [Around.under_plainId F.plain_any_loop _]
    show wpAny _ A.in1 (pyNext (.ref a) >>= _) _ _ s
    refine wpAny_bind (wpAny_pyNext_genexpQ (A := A.in1) (P := GEndN Qf) hh hl hd hg hgs hgo (fun v s₁ gs' hbare hv => ?_) (fun s₁ hp h' hk => ?_))
    · obtain ⟨b, rfl, hg1, hl1, hb1, ht, hf⟩ := hv
      cases b with
      | false => exact False.elim (ht rfl s₁ rfl rfl hb1)
      | true =>
        refine wpAny_bind (wpAny_holding (wpAny_truthy_bool ?_))
        refine wpAny_bind (wpAny_letGo ?_)
        simp only [if_true]
        refine wpAny_bind (wpAny_rule (wpAny_pure ⟨true, rfl, hf rfl _ (fun x o e => e) rfl (allBare_setGen hb1 hbare)⟩))
    · refine wpAny_bind (wpAny_rule (wpAny_pure ⟨false, rfl, hp.2 _ hk rfl (allBare_setGen hp.1 rfl)⟩))
  | succ n ih =>
    intro s hg hl ⟨gs, hgs, hgo⟩
    have hgl : g < s.gens.size := (Array.getElem?_eq_some_iff.mp hgs).1
    refine codeAny_builtin F.entry_any_loop ?_
    rw [Around.under_plainId F.plain_any_loop _]
    show wpAny _ A.in1 (pyNext (.ref a) >>= _) _ _ s
    refine wpAny_bind (wpAny_gsz (n := g + 1) hgl (wpAny_pyNext_genexpQ (A := A.in1) (P := GEndN Qf) hh hl hd hg hgs hgo (fun v s₁ gs' hbare hv => ?_) (fun s₁ hp h' hk => ?_)))
    · intro hsz
      have hsz1 : g < s₁.gens.size := by
        have q : (s₁.setGen g gs').gens.size = s₁.gens.size := setGen_size _ _ _
        have hsz' : g + 1 ≤ (s₁.setGen g gs').gens.size := hsz
        omega
      obtain ⟨b, rfl, hg1, hl1, hb1, ht, hf⟩ := hv
      refine wpAny_bind (wpAny_holding (wpAny_truthy_bool ?_))
      refine wpAny_bind (wpAny_letGo ?_)
      cases b with
      | false =>
        simp only [Bool.false_eq_true, if_false]
        refine wpAny_pure ⟨plainId_quiet F.plain_any_loop _, ih _ hg1 hl1 ⟨gs', setGen_at hsz1, ?_⟩⟩
        exact ht rfl _ rfl rfl (allBare_setGen (s := s₁.setGen g gs') (allBare_setGen hb1 hbare) rfl)
      | true =>
        simp only [if_true]
        refine wpAny_bind (wpAny_rule (wpAny_pure ⟨true, rfl, hf rfl _ (fun x o e => e) rfl (allBare_setGen hb1 hbare)⟩))
    · intro hsz
      refine wpAny_bind (wpAny_rule (wpAny_pure ⟨false, rfl, hp.2 _ hk rfl (allBare_setGen hp.1 rfl)⟩))
theorem call_any_gen {E : Value → Shared → Prop} {n : Nat} {s : Shared} (hh : A.handled = none) (hd : A.depth < recursionLimit) (hg : s.heap.IsGen a g) (hl : s.heap.NoLimit)
    (hgo : ∃ gs, s.gens[g]? = some gs ∧ gs.Goes (model P w) A.in1.in1 (fun n s₀ r s₁ => r = .ok .next ∧ GEndN Qf n s₀ s₁) (GProtoN Qf a g) n (.send .none) (s.setGen g .running)) : wpAny (model P w) A (call (.builtin "any") [.ref a]) Qf E s := by
  refine call_function_tree F.kind_any F.plain_any F.entry_any (F.args_any1 _) ?_
  unfold Builtin.«any»
  refine wpAny_bind (m := oneArg "any" _) (wpAny_pure ?_)
  refine wpAny_bind (wpAny_pyIter_gen hg ?_)
  refine wpAny_pure ⟨plainId_quiet F.plain_any_loop _, codeAny_mono (any_drain hh hd n s hg hl hgo) fun r s' h => ?_⟩
  obtain ⟨b, rfl, q⟩ := h
  exact q
end
/-- a turn's wish -/
def TurnsN (J : It) (σ0 : L2.St) (vs : List Nat) (g : TG) (te : TE) (Qe : Bool → Hp → Prop) (W : Nat → Nat → Hp → Prop) : Prop :=
  ∀ i m H, W i m H → (J.stop i H ∧ Qe false H) ∨ (J.go i H ∧ ∃ Nx : Hp → Prop, (∀ H', Nx H' → ∃ m', m' < m ∧ W (i + 1) m' H') ∧ ∀ x H', J.yld i H x H' → g x σ0 H' fun σ2 H2 => wipe σ2 vs = σ0 ∧ te σ2 H2 fun y H4 => ∃ b, y = .bl b ∧ if b = true then Qe true H4 else Nx H4)
section
variable {X : Cx} {A : Around} {N : List Str} {s4 : Shared} {H0 : Hp} {cenv : Env} {fp : List Addr} {tg elt iter : Expr} {scope : Scope} {pos : Pos} {it a : Addr} {gi : Nat} {go : Obj} {J : It} {tn : Nat → Heap → Prop} {σ0 : L2.St} {vs : List Nat} {g : TG} {te : TE} {Qe : Bool → Hp → Prop} {W : Nat → Nat → Hp → Prop} {Qf : Value → Shared → Prop}
theorem gn_loop (hh : A.handled = none) (hco : cenv.scope.isCoroutine = false) (T : Turn X.prog X.w X.K tg J fp it tn) (haf : a ∉ fp) (hgen : ∀ h : Heap, h.get? a = some go → h.IsGen a gi)
    (pg : PG (gcx X A N s4 H0 cenv fp) tg g) (pe : PE (gcx X A N s4 H0 cenv fp) elt te) (turn : TurnsN J σ0 vs g te Qe W)
    (hfin : ∀ b s H', Inv (gcx X A N s4 H0 cenv fp) [(a, go)] σ0 H' s → Qe b H' → Done Qf b s) :
    ∀ (m n i : Nat) (H : Hp) (s₀ s : Shared), m < n → W i m H → Inv (gcx X A N s4 H0 cenv fp) [(a, go)] σ0 H s → tn i s.heap → (∀ b ∈ fp, H b = none) →
      Seg (model X.prog X.w) A (fun n s₀ r s₁ => r = .ok .next ∧ GEndN Qf n s₀ s₁) (GProtoN Qf a gi) n s₀ (.compLoop (.GeneratorExp elt [⟨tg, iter, [], 0⟩] scope pos) 0 (.ref it) .none cenv)
        ((model X.prog X.w).den (.compLoop (.GeneratorExp elt [⟨tg, iter, [], 0⟩] scope pos) 0 (.ref it) .none cenv)) [] s := by
  have stat : ∀ {σ' : L2.St} {H' : Hp} {s' : Shared}, Inv (gcx X A N s4 H0 cenv fp) [(a, go)] σ' H' s' → (∀ b ∈ fp, H' b = none) → ∀ b ∈ fp, FpOk (gcx X A N s4 H0 cenv fp) [(a, go)] H' b := fun {σ' H' s'} I' hn b hb =>
    ⟨hn b hb, (I'.ok.exf b hb).1, I'.ok.exfs b hb, .inl hb, fun x c e => (I'.ok.exf b hb).2 x c e, fun p hp z => by
      have hp : p ∈ [(a, go)] := hp
      rw [List.mem_singleton.mp hp] at z
      have z : a = b := z
      exact haf (by rw [z]; exact hb)⟩
  have hy : ∀ v, yieldOut cenv v = yieldValue v := fun v => by simp only [yieldOut, hco, Bool.false_eq_true, if_false]
  intro m
  induction m using Nat.strongRecOn with
  | ind m ih =>
    intro n i H s₀ s hmn hW I hst hn
    obtain ⟨n, rfl⟩ : ∃ k, n = k + 1 := ⟨n - 1, by omega⟩
    show Seg _ A _ _ _ s₀ _ ((compTurn (.GeneratorExp elt [⟨tg, iter, [], 0⟩] scope pos) 0 (.ref it) .none cenv).onRaise (leaving cenv)) [] s
    rw [compTurn_gen, Sem.onRaise_eq_wrap]
    refine seg_bind_wrap (wpAny_standAt ?_)
    rcases turn i m H hW with ⟨stop, qq⟩ | ⟨hgo, Nx, hNx, step⟩
    · refine seg_bind_wrap ?_
      rw [over_loopC]
      refine thn (T.done (gcx X A N s4 H0 cenv fp) rfl rfl rfl rfl i [(a, go)] s _ H _ I (stat I hn) hst stop) fun r s6 ⟨hr, I6⟩ => ?_
      subst hr
      exact seg_end (.ok .next) ⟨rfl, I6.bare, hfin false s6 H I6 qq⟩
    · refine seg_bind_wrap ?_
      rw [over_loopC]
      refine thn (T.item (gcx X A N s4 H0 cenv fp) rfl rfl rfl rfl i [(a, go)] s _ H _ I (stat I hn) hst hgo) fun r s6 ⟨u, hr, h6⟩ => ?_
      subst hr
      refine seg_bind_wrap ?_
      rw [over_loopC]
      refine thn h6 fun _ s7 ⟨x, H7, I7, r7, y7, st7, n7⟩ => ?_
      have I7' := I7.pinned (stat I7 n7) (T.obj _ _ st7)
      refine seg_bind_wrap ?_
      rw [over_loopC]
      refine wpAny_mono (pg.run _ s7 _ H7 x u _ I7' r7 (step x H7 y7)) (fun _ s8 ⟨σ8, H8, I8, hw8, q8⟩ => ?_) fun _ _ e => e.elim
      have fin : ∀ {s' : Shared} {H' : Hp}, Inv (gcx X A N s4 H0 cenv fp) ([(a, go)] ++ pinsAt fp s7.heap) σ8 H' s' → Inv (gcx X A N s4 H0 cenv fp) [(a, go)] σ0 H' s' ∧ tn (i + 1) s'.heap ∧ ∀ b ∈ fp, H' b = none := fun {s' H'} I' => by
        have pin' : ∀ b ∈ fp, ∀ o, s7.heap.get? b = some o → s'.heap.get? b = some o ∧ H' b = none := fun b hb o e =>
          let z := I'.pin (b, o) (List.mem_append_right _ (List.mem_append_right _ (mem_pinsAt hb e)))
          ⟨z.1, z.2.1⟩
        have hl : σ0.length = σ8.length := by rw [← hw8, wipe_length]
        refine ⟨(I'.unpinned (pins := [(a, go)])).weak hl (fun j v e => ?_), T.keep _ _ _ st7 fun b hb o e => (pin' b hb o e).1, fun b hb => ?_⟩
        · rw [← hw8] at e
          exact (wipe_some e).1
        · obtain ⟨o, e, _⟩ := T.obj _ _ st7 b hb
          exact (pin' b hb o e).2
      simp only [List.forIn_nil]
      refine seg_bind_wrap (wpAny_pure ?_)
      simp only [if_true]
      simp only [hy]
      rw [Sem.bind_eq_wrap', Sem.bind_eq_wrap', Sem.wrap_wrap, Sem.wrap_wrap]
      refine seg_wrap ?_
      rw [over_loopC]
      refine wpAny_mono (pe.run _ s8 σ8 H8 _ I8 q8) (fun v s10 ⟨y, H10, I10, r10, b, hyb, q10⟩ => ?_) fun _ _ e => e.elim
      subst hyb
      obtain rfl : v = Value.bool b := r10
      obtain ⟨J1, J2, J3⟩ := fin I10
      have hga : s10.heap.IsGen a gi := hgen _ (J1.pin (a, go) (List.mem_append_right _ (List.mem_singleton.mpr rfl))).1
      refine seg_at (seg_yield rfl rfl rfl ⟨b, rfl, hga, J1.nolimit, J1.bare, fun hb s'' e1 e2 e3 => ?_, fun hb => ?_⟩)
      · subst hb
        rw [if_neg Bool.false_ne_true] at q10
        obtain ⟨m', hm', w'⟩ := hNx H10 q10
        refine seg_again rfl (ih m' hm' n (i + 1) H10 s'' s'' (by omega) w' (inv_same J1 (fun x o e => by rw [e1]; exact e) e2 e3) (by rw [e1]; exact J2) J3)
      · subst hb
        rw [if_pos rfl] at q10
        exact hfin true s10 H10 J1 q10
theorem gn_begin (hh : A.handled = none) (hco : cenv.scope.isCoroutine = false) (T : Turn X.prog X.w X.K tg J fp it tn) (haf : a ∉ fp) (hgen : ∀ h : Heap, h.get? a = some go → h.IsGen a gi)
    (pg : PG (gcx X A N s4 H0 cenv fp) tg g) (pe : PE (gcx X A N s4 H0 cenv fp) elt te) (turn : TurnsN J σ0 vs g te Qe W)
    (hfin : ∀ b s H', Inv (gcx X A N s4 H0 cenv fp) [(a, go)] σ0 H' s → Qe b H' → Done Qf b s) {m : Nat} {H : Hp} {s : Shared} (w0 : W 0 m H) (I : Inv (gcx X A N s4 H0 cenv fp) [(a, go)] σ0 H s) (hst : tn 0 s.heap) (hn : ∀ b ∈ fp, H b = none) :
    Seg (model X.prog X.w) A (fun n s₀ r s₁ => r = .ok .next ∧ GEndN Qf n s₀ s₁) (GProtoN Qf a gi) (m + 1) s (.compStart (.GeneratorExp elt [⟨tg, iter, [], 0⟩] scope pos) 0 (.ref it) .none cenv)
      ((model X.prog X.w).den (.compStart (.GeneratorExp elt [⟨tg, iter, [], 0⟩] scope pos) 0 (.ref it) .none cenv)) [] s := by
  have loop := gn_loop (iter := iter) (scope := scope) (pos := pos) hh hco T haf hgen pg pe turn hfin m (m + 1) 0 H s s (Nat.lt_succ_self _) w0 I hst hn
  show Seg _ A _ _ _ s _ ((compStart (.GeneratorExp elt [⟨tg, iter, [], 0⟩] scope pos) 0 (.ref it) .none cenv).onRaise (leaving cenv)) [] s
  unfold compStart
  rw [Sem.onRaise_eq_wrap]
  show Seg _ A _ _ _ s _ ((ask >>= _).wrap _ _ _ _) [] s
  refine seg_bind_wrap (wpAny_askSetting ?_)
  split
  · exact seg_again rfl loop
  · first
      | exact seg_bind_wrap (wpAny_rule (seg_bind_wrap (wpAny_standAt (seg_bind_wrap (T.self _ 0 s _ _ hst (seg_again rfl loop))))))
      | (refine seg_bind_wrap (wpAny_rule ?_); show Seg _ A _ _ _ s _ ((standAt iter.pos >>= _).wrap _ _ _ _) [] s; exact seg_bind_wrap (wpAny_standAt (seg_bind_wrap (T.self _ 0 s _ _ hst (seg_again rfl loop)))))
end
/-! the rule -/
section
variable {X : Cx}
/-- any(elt for tg in iter) -/
def tAnyG (P : Addr) (wi : TI) (own : List Str) (caps : List (Str × Nat)) (vs : List Nat) (g : TG) (te : TE) : TE := fun σ H Q => wi σ H fun J H1 => TabG H1 P ∧ ∀ H2, Tabbed P H1 H2 → ∃ W : Nat → Nat → Hp → Prop, (∃ m, W 0 m H2) ∧ TurnsN J (gxSt own caps σ) vs g te (fun b H' => Q (.bl b) H') W
theorem pe_anyG {c P : Addr} {elt tg iter : Expr} {p pos gpos : Pos} {scope : Scope} {own : List Str} {caps : List (Str × Nat)} {vs : List Nat} {wi : TI} {g : TG} {te : TE} {k : Nat}
    (hr : Room k X.A) (hg : Gl X "any") (hm : X.mg "any" = none) (TB : TabB X.base X.mg c P) (hcode : X.env.code = .ref c) (S : GxS X.N X.env.scope scope own caps) (hi : PI X tg iter wi)
    (pg : ∀ (s : Shared) (H : Hp) (C : Addr) (cd : Value) (fp : List Addr), PG (gcx X X.A.in1.in1 (gxN own caps) s H (gxEnv X scope C cd) fp) tg g)
    (pe : ∀ (s : Shared) (H : Hp) (C : Addr) (cd : Value) (fp : List Addr), PE (gcx X X.A.in1.in1 (gxN own caps) s H (gxEnv X scope C cd) fp) elt te)
    (hs : ∀ v, genFold iter X.env v = pure v := by intro _; rfl)
    (he : starEach [.GeneratorExp elt [⟨tg, iter, [], 0⟩] scope gpos] X.env = (false, eval (.GeneratorExp elt [⟨tg, iter, [], 0⟩] scope gpos) X.env) :: starEach [] X.env := by rfl) :
    PE X (.Call (.Name "any" p) [.GeneratorExp elt [⟨tg, iter, [], 0⟩] scope gpos] [] pos) (tAnyG P wi own caps vs g te) := by
  refine ⟨fun pins s σ H Q I h => ?_⟩
  have hfree : ∀ y ∈ scope.names, y.2 = .free → ∃ c, X.env.cells.lookup y.1 = some c := fun y hy e => by
    rcases S.free y hy e with k | k
    · exact I.ok.has _ (.inl k)
    · exact I.ok.has _ (.inr k)
  refine wpAny_Call_Name_kw (ld_blt I hg hm PyProof.Rows.boot_any ?_)
  refine PyProof.Rows.callWith_builtin1 ?_ he (by rfl)
  rw [he]
  show wpAny _ _ (spliced ((false, eval (.GeneratorExp elt [⟨tg, iter, [], 0⟩] scope gpos) X.env) :: backTo pos (starEach [] X.env))) _ _ s
  refine Calls.spliced_cons ?_
  refine wpAny_GeneratorExp_make S.co (closure_ok hfree) S.cell S.dot S.kind (by have := hr.dp; omega) ?_ hs
  refine thn (hi.run pins s σ H _ I h) fun xv s1 hx => thn hx fun itv s2 h2 => ?_
  obtain ⟨it, fp, tn, J, H1, rfl, I2, T, st2, f2, ⟨ps, hP, ht⟩, q⟩ := h2
  refine ⟨I2.nolimit, ?_⟩
  have hPs : s2.heap.get? P = some { cls := .none, data := .fields ps } := I2.hok P _ hP
  have cd : PySem.W.CodeHd s2.heap c P := TB.code.keeps I2.bk
  have sz2 : ∀ b ∈ fp, b < s2.heap.objs.size := fun b hb => by
    obtain ⟨o, e, _⟩ := T.obj _ _ st2 b hb
    exact Heap.lt_size e
  have cont : ∀ (code : Value) (h3 : Heap) (tk : Nat) (ps' more : Array Value), Heap.ExtBut P s2.heap h3 → s2.heap.objs.size ≤ h3.objs.size → h3.get? P = some { cls := .none, data := .fields ps' } → ps' = ps ++ more → TriplesOk ps'.toList →
      wpAny (model X.prog X.w) X.A (builtinsFor X.env.globals X.env.builtins) (fun bi s₄ =>
        ∀ h', h'.Ns s₄.heap.objs.size (fun y => if y = ".0" then some (.ref it) else none) → Heap.SameBut s₄.heap.objs.size (s₄.heap.push { cls := .type "frame", data := .dict #[] }) h' →
          wpAny (model X.prog X.w) X.A (spliced (backTo pos (starEach [] X.env))) (fun us s' => wpAny (model X.prog X.w) X.A (call (.builtin "any") (.ref h'.objs.size :: us)) (EP X pins σ Q) X.xe s') X.xe { s₄ with
            gens := s₄.gens.push (.fresh (.compStart (.GeneratorExp elt [⟨tg, iter, [], 0⟩] scope gpos) 0 (.ref it) .none (genEnv scope (cloFrom X.env.cells scope.names []) s₄.heap.objs.size code bi X.env))),
            toks := s₄.toks + 1 + 1 + 1,
            heap := h'.push { cls := .type "generator", data := .fields #[.int s₄.gens.size 0, .str "<genexpr>" (s₄.toks + 1), .str (X.env.qual ++ "<genexpr>") (s₄.toks + 1 + 1)] } }) X.xe { s2 with heap := h3, toks := tk } := by
    intro code h3 tk ps' more hx hsz hP3 hmore ht3
    obtain ⟨bm, ob, e1, e2, e3, e4, e5, e6, e7, e8⟩ := TB.bm
    have keep3 : ∀ b u, b ≠ P → s2.heap.get? b = some u → h3.get? b = some u := fun b u hb e => hx b u hb e
    refine wpAny_builtinsFor (m := X.mg) (by rw [I2.ok.glob]; exact (I2.mod.glob.keeps I2.bk).extBut hx TB.gP) e1 e2 (keep3 _ _ e4 (I2.bk _ _ e5)) e6 e7 e8 ?_
    intro h' hns hsb
    have I3 : Inv X pins σ (upd H1 P (.tbl (ps ++ more))) { s2 with heap := h3, toks := tk } := inv_tab (more := more) (g' := s2.gens) (d' := s2.drawn) (t' := tk) I2 hP keep3 (by rw [← hmore]; exact hP3) I2.bare
    have hT : Tabbed P H1 (upd H1 P (.tbl (ps ++ more))) := ⟨⟨ps ++ more, upd_same, by rw [← hmore]; exact ht3⟩, fun b hb => upd_ne hb⟩
    obtain ⟨W, ⟨m, w0⟩, turn⟩ := q _ hT
    have nP : ∀ b ∈ fp, b ≠ P := fun b hb z => by
      have := (f2 b hb).1
      rw [z, hP] at this
      cases this
    have f3 : ∀ b ∈ fp, FpOk X pins (upd H1 P (.tbl (ps ++ more))) b ∧ b < h3.objs.size := fun b hb => ⟨⟨by rw [upd_ne (nP b hb)]; exact (f2 b hb).1, (f2 b hb).2⟩, Nat.lt_of_lt_of_le (sz2 b hb) hsz⟩
    generalize upd H1 P (.tbl (ps ++ more)) = H3 at I3 w0 f3
    have hsz' : h'.objs.size = h3.objs.size + 1 := by rw [hsb.1, Heap.size_push]
    have keep' : ∀ b o, h3.get? b = some o → h'.get? b = some o := fun b o e => hsb.extBut b o (Nat.ne_of_lt (Heap.lt_size e)) (Heap.get?_push_of_some _ e)
    refine Calls.spliced_nil ?_
    generalize hgo : ({ cls := .type "generator", data := .fields #[.int s2.gens.size 0, .str "<genexpr>" (tk + 1), .str (X.env.qual ++ "<genexpr>") (tk + 1 + 1)] } : Obj) = go
    have hgen : ∀ hp : Heap, hp.get? h'.objs.size = some go → hp.IsGen h'.objs.size s2.gens.size := fun hp e => ⟨go, _, _, e, by rw [← hgo], by rw [← hgo], by rw [← hgo]⟩
    have hput : (h'.push go).get? h'.objs.size = some go := Heap.get?_push_size _ (by rw [← hgo]; rfl)
    have hgd : ∀ v, go.data ≠ .cell v := fun v z => by rw [← hgo] at z; cases z
    show wpAny _ _ (call (.builtin "any") [.ref h'.objs.size]) _ _ { s2 with gens := s2.gens.push (.fresh (.compStart (.GeneratorExp elt [⟨tg, iter, [], 0⟩] scope gpos) 0 (.ref it) .none (gxEnv X scope h3.objs.size code))), toks := tk + 1 + 1 + 1, heap := h'.push go }
    have keep5 : ∀ b o, h3.get? b = some o → (h'.push go).get? b = some o := fun b o e => Heap.get?_push_of_some _ (keep' b o e)
    have hb5 : AllBare (s2.gens.push (.fresh (.compStart (.GeneratorExp elt [⟨tg, iter, [], 0⟩] scope gpos) 0 (.ref it) .none (gxEnv X scope h3.objs.size code)))) := I2.bare.push rfl
    have hrun : AllBare (({ s2 with gens := s2.gens.push (.fresh (.compStart (.GeneratorExp elt [⟨tg, iter, [], 0⟩] scope gpos) 0 (.ref it) .none (gxEnv X scope h3.objs.size code))), toks := tk + 1 + 1 + 1, heap := h'.push go } : Shared).setGen s2.gens.size .running).gens := allBare_setGen hb5 rfl
    have G0 : Inv (gcx X X.A.in1.in1 (gxN own caps) { s2 with heap := h3, toks := tk } H3 (gxEnv X scope h3.objs.size code) fp) [] (gxSt own caps σ) H3 (({ s2 with gens := s2.gens.push (.fresh (.compStart (.GeneratorExp elt [⟨tg, iter, [], 0⟩] scope gpos) 0 (.ref it) .none (gxEnv X scope h3.objs.size code))), toks := tk + 1 + 1 + 1, heap := h'.push go } : Shared).setGen s2.gens.size .running) :=
      gx_start (s := { s2 with heap := h3, toks := tk }) I3 S hr.hd I3.ok.frames f3 (hns.push go) keep5 rfl hrun
    have hna : H3 h'.objs.size = none := I3.hok.fresh (by show h3.objs.size ≤ h'.objs.size; omega)
    have G1 : Inv (gcx X X.A.in1.in1 (gxN own caps) { s2 with heap := h3, toks := tk } H3 (gxEnv X scope h3.objs.size code) fp) [(h'.objs.size, go)] (gxSt own caps σ) H3 (({ s2 with gens := s2.gens.push (.fresh (.compStart (.GeneratorExp elt [⟨tg, iter, [], 0⟩] scope gpos) 0 (.ref it) .none (gxEnv X scope h3.objs.size code))), toks := tk + 1 + 1 + 1, heap := h'.push go } : Shared).setGen s2.gens.size .running) :=
      G0.pins_of fun p hp => by
        rw [List.mem_singleton.mp hp]
        refine ⟨hput, hna, ?_, fun z => ?_, hgd⟩
        · show h'.objs.size ≠ h3.objs.size
          omega
        · have z : h'.objs.size ∈ frs X.stack := z
          rcases List.mem_cons.mp (I3.stkSub _ z) with z | z
          · have h1 := I3.lt
            rw [← z] at h1
            have h1 : h'.objs.size < h3.objs.size := h1
            omega
          · exact I3.nofs (show h3.objs.size ≤ h'.objs.size by omega) z
    have st5 : tn 0 (h'.push go) := T.keep _ _ _ st2 fun b hb o e => keep5 b o (keep3 b o (nP b hb) e)
    refine call_any_gen (n := m + 1) hr.hd (by have := hr.dp; omega) (hgen _ hput) (I3.nolimit.keeps keep5) ⟨_, Array.getElem?_push_size .., rfl, ?_⟩
    refine gn_begin (A := X.A.in1.in1) (N := gxN own caps) (σ0 := gxSt own caps σ) (vs := vs) (g := g) (te := te) (Qe := fun b H' => Q (.bl b) H') (W := W) hr.hd S.co T (fun z => ?_) hgen (pg _ _ _ _ _) (pe _ _ _ _ _) turn (fun b s6 H6 J6 q6 s7 k7 o7 b7 => ?_) w0 G1 st5 (fun b hb => (f3 b hb).1.1)
    · have z2 : h'.objs.size < h3.objs.size := (f3 _ z).2
      rw [hsz'] at z2
      exact absurd z2 (by omega)
    · have I6 : Inv X pins σ H6 s6 := I3.call' (ch := fp) J6.os J6.base J6.hok J6.bare fun b hb => ⟨(f3 b hb).1.2.2.2.1, (f3 b hb).1.2.1, (f3 b hb).1.2.2.2.2.1, (f3 b hb).1.2.2.2.2.2⟩
      exact ⟨.bl b, H6, inv_same I6 k7 o7 b7, rfl, q6⟩
  cases hf : codeAmong gpos ps.toList with
  | none =>
    refine wpAny_genexprCodeX hcode (cd.code hPs ht) (cd.tab hPs) hf fun c' h' tk hx hge hlt hco' _ htab' _ => ?_
    obtain ⟨o1, vs, f1, tf, fl, tg, inF, tx, tt, op, _, _, _, _, _, _, _, _, _, htr, _⟩ := hco'
    exact cont _ h' tk _ _ hx (Nat.le_trans hge (Nat.le_of_lt hlt)) htab'.2 rfl htr
  | some cv =>
    refine wpAny_genexprCode_hit hcode (cd.code hPs ht) hf ?_
    exact cont cv s2.heap s2.toks ps #[] (Heap.ExtBut.refl _ _) (Nat.le_refl _) hPs (by simp) ht
end
end Kg

/-! any(..) of a generator expression over a list, over a tuple -/
namespace Kg
open PySem PySem.Spec PyProof.Rows L2 GenW GxR
section
variable {K : PySem.W.Frag} {a : Addr} {xs : List V} {g : TG} {te : TE} {vs : List Nat} {σ0 : L2.St} {G : Hp} {Qe : Bool → Hp → Prop}
theorem any_list (Pv : Nat → Hp → Prop) (h0 : Pv 0 G) (hl : ∀ i H, i ≤ xs.length → Pv i H → SqL K H a xs)
    (hs : ∀ i x H, xs[i]? = some x → Pv i H → g x σ0 H fun σ2 H2 => wipe σ2 vs = σ0 ∧ te σ2 H2 fun y H4 => ∃ b, y = .bl b ∧ if b = true then Qe true H4 else Pv (i + 1) H4) (hd : ∀ H, Pv xs.length H → Qe false H) :
    ∃ W : Nat → Nat → Hp → Prop, (∃ m, W 0 m G) ∧ TurnsN (Itl K a) σ0 vs g te Qe W := by
  refine ⟨fun i m F => m = xs.length - i ∧ i ≤ xs.length ∧ Pv i F, ⟨_, rfl, Nat.zero_le _, h0⟩, fun i m F z => ?_⟩
  obtain ⟨rfl, hi, p⟩ := z
  have q := hl i F hi p
  by_cases lt : i < xs.length
  · refine .inr ⟨⟨xs, xs[i], q, List.getElem?_eq_getElem lt⟩, Pv (i + 1), fun F' p' => ⟨xs.length - (i + 1), by omega, rfl, lt, p'⟩, fun x F' y => ?_⟩
    obtain ⟨e, y⟩ := y
    subst e
    exact hs i x _ (y xs q) p
  · have e : i = xs.length := by omega
    subst e
    exact .inl ⟨⟨xs, q, Nat.le_refl _⟩, hd F p⟩
theorem any_tup {B : Nat} (lB : xs.length ≤ B) (Pv : Nat → Hp → Prop) (h0 : Pv 0 G) (hl : ∀ i H, i ≤ xs.length → Pv i H → SqT K H a xs)
    (hs : ∀ i x H, xs[i]? = some x → Pv i H → g x σ0 H fun σ2 H2 => wipe σ2 vs = σ0 ∧ te σ2 H2 fun y H4 => ∃ b, y = .bl b ∧ if b = true then Qe true H4 else Pv (i + 1) H4) (hd : ∀ H, Pv xs.length H → Qe false H) :
    ∃ W : Nat → Nat → Hp → Prop, (∃ m, m ≤ B ∧ W 0 m G) ∧ TurnsN (Itt K a) σ0 vs g te Qe W := by
  refine ⟨fun i m F => m = xs.length - i ∧ i ≤ xs.length ∧ Pv i F, ⟨_, lB, rfl, Nat.zero_le _, h0⟩, fun i m F z => ?_⟩
  obtain ⟨rfl, hi, p⟩ := z
  have q := hl i F hi p
  by_cases lt : i < xs.length
  · refine .inr ⟨⟨xs, xs[i], q, List.getElem?_eq_getElem lt⟩, Pv (i + 1), fun F' p' => ⟨xs.length - (i + 1), by omega, rfl, lt, p'⟩, fun x F' y => ?_⟩
    obtain ⟨e, y⟩ := y
    subst e
    exact hs i x _ (y xs q) p
  · have e : i = xs.length := by omega
    subst e
    exact .inl ⟨⟨xs, q, Nat.le_refl _⟩, hd F p⟩
theorem any_tupL (Pv : Nat → Hp → Prop) (h0 : Pv 0 G) (hl : ∀ i H, i ≤ xs.length → Pv i H → SqT K H a xs)
    (hs : ∀ i x H, xs[i]? = some x → Pv i H → g x σ0 H fun σ2 H2 => wipe σ2 vs = σ0 ∧ te σ2 H2 fun y H4 => ∃ b, y = .bl b ∧ if b = true then Qe true H4 else Pv (i + 1) H4) (hd : ∀ H, Pv xs.length H → Qe false H) :
    ∃ W : Nat → Nat → Hp → Prop, (∃ m, W 0 m G) ∧ TurnsN (Itt K a) σ0 vs g te Qe W := by
  obtain ⟨W, ⟨m, _, h⟩, t⟩ := any_tup (B := xs.length) (Nat.le_refl _) Pv h0 hl hs hd
  exact ⟨W, ⟨m, h⟩, t⟩
end
end Kg
namespace Kq
open PySem PySem.Spec PyProof.Rows L2
theorem op_in_seqK {X : Cx} (K : PySem.W.Frag) (h : X.K = K) : OpR X (compareOp .In) (rIn K false) := by
  subst h
  exact op_in_seq
end Kq

/-! list(zip(a, b)) -/
namespace Kz
open PySem PySem.Spec PyProof.Rows L2
section
variable {prog : Program} {w : World} {A : Around} {E : Value → Shared → Prop} {s : Shared} {z TI TO i1 i2 T : Addr} {fp1 fp2 : List Addr} {n1 n2 i : Nat} {P1 P2 : Nat → Value → Prop} {St1 St2 : Nat → Heap → Prop} {f : Bool} {oT : Obj}
/-- a turn of the zip while its tuple T is out -/
theorem outItem {Q : Value → Shared → Prop} (S : ZipSep2 z TI TO i1 i2 fp1 fp2) (D1 : Draws prog w A i1 fp1 n1 P1 St1) (D2 : Draws prog w A i2 fp2 n2 P2 St2)
    (hz : IsZipHeld s.heap z TI TO T f) (hT : s.heap.get? T = some oT) (hTI : IsTupOf2 s.heap TI (.ref i1) (.ref i2)) (st1 : St1 i s.heap) (st2 : St2 i s.heap) (l1 : i < n1) (l2 : i < n2)
    (q : ∀ x1 x2 h' tk, P1 i x1 → P2 i x2 → IsZipHeld h' z TI TO T true → St1 (i + 1) h' → St2 (i + 1) h' → IsTupOf2 h' s.heap.objs.size x1 x2 → h'.objs.size = s.heap.objs.size + 1 →
      (∀ c o, c ≠ z → c ≠ i1 → c ≠ i2 → s.heap.get? c = some o → h'.get? c = some o) → Q (.ref s.heap.objs.size) { s with heap := h', toks := tk }) :
    wpAny (model prog w) A (Builtin.«zip.__next__» ⟨[.ref z], []⟩) (fun fin s' => ∃ v, fin = .done (.ret v) ∧ Q v s') E s := by
  obtain ⟨hp, g, d, tk0, os⟩ := s
  show wpAny _ _ (field (.ref z) 2 >>= _) _ _ _
  refine wpAny_bind (wpAny_field hz rfl (x := .bool false) rfl ?_)
  show wpAny _ _ (field (.ref z) 3 >>= _) _ _ _
  refine wpAny_bind (wpAny_field hz rfl (x := .ref TI) rfl ?_)
  refine wpAny_bind (wpAny_seqItems hTI rfl ?_)
  show wpAny _ _ (Builtin.SmallTypes.ownedTupleIsFree (.ref z) >>= _) _ _ _
  refine wpAny_bind (wpAny_tupleHeld_zip hz hT fun ha za sa => ?_)
  replace sa : Heap.SameBut z hp ha := sa
  simp only [Bool.false_eq_true, if_false]
  refine wpAny_bind ?_
  rw [← Array.forIn_toList]
  simp only [List.forIn_cons, List.forIn_nil]
  refine wpAny_bind (wpAny_bind (wpAny_holding ?_))
  show wpAny _ _ (Builtin.SmallTypes.nextOf (.ref i1) >>= _) _ _ ⟨ha, g, d, tk0, os⟩
  refine wpAny_bind (D1.item i ⟨ha, g, d, tk0, os⟩ _ _ l1 (D1.over st1 sa S.zf1) fun x1 hb tkb px1 tb sb => wpAny_pure ?_)
  replace sb : Heap.SameBut i1 ha hb := sb
  refine wpAny_pure ?_
  refine wpAny_bind (wpAny_bind (wpAny_holding ?_))
  show wpAny _ _ (Builtin.SmallTypes.nextOf (.ref i2) >>= _) _ _ ⟨hb, g, d, tkb, os⟩
  refine wpAny_bind (D2.item i ⟨hb, g, d, tkb, os⟩ _ _ l2 (D2.over (D2.over st2 sa S.zf2) sb S.sep1_2) fun x2 hc tkc px2 tc sc => wpAny_pure ?_)
  replace sc : Heap.SameBut i2 hb hc := sc
  refine wpAny_pure (wpAny_pure ?_)
  show wpAny _ _ (newTuple [x1, x2] >>= _) _ _ ⟨hc, g, d, tkc, os⟩
  refine wpAny_bind (wpAny_newTuple ?_)
  have sz : hc.objs.size = hp.objs.size := by rw [sc.1, sb.1, sa.1]
  have zc : IsZipHeld hc z TI TO T true := sc.extBut _ _ S.zi2 (sb.extBut _ _ S.zi1 za)
  have kc : ∀ c o, c ≠ z → c ≠ i1 → c ≠ i2 → hp.get? c = some o → hc.get? c = some o := fun c o c1 c2 c3 e => sc.extBut _ _ c3 (sb.extBut _ _ c2 (sa.extBut _ _ c1 e))
  have ub : ∀ b o, hc.get? b = some o → (hc.push { cls := .type "tuple", data := .seq #[x1, x2] }).get? b = some o := fun b o e => Heap.get?_push_of_some _ e
  refine wpAny_pure ⟨_, rfl, ?_⟩
  show Q (.ref hc.objs.size) _
  have pp : IsTupOf2 (hc.push { cls := .type "tuple", data := .seq #[x1, x2] }) hc.objs.size x1 x2 := Heap.get?_push_size _ rfl
  have ps : (hc.push { cls := .type "tuple", data := .seq #[x1, x2] }).objs.size = hc.objs.size + 1 := Heap.size_push ..
  rw [sz] at pp ps ⊢
  exact q x1 x2 _ tkc px1 px2 (ub _ _ zc) (D1.frame _ _ _ (D1.over tb sc S.sep2_1) fun b _ o e => ub b o e) (D2.frame _ _ _ tc fun b _ o e => ub b o e) pp ps fun c o c1 c2 c3 e => ub _ _ (kc c o c1 c2 c3 e)
theorem outEnd {Q : Fin → Shared → Prop} (S : ZipSep2 z TI TO i1 i2 fp1 fp2) (D1 : Draws prog w A i1 fp1 n1 P1 St1) (D2 : Draws prog w A i2 fp2 n2 P2 St2)
    (hz : IsZipHeld s.heap z TI TO T f) (hT : s.heap.get? T = some oT) (hTI : IsTupOf2 s.heap TI (.ref i1) (.ref i2)) (st1 : St1 i s.heap) (st2 : St2 i s.heap) (l1 : i ≤ n1) (l2 : i ≤ n2) (last : i = n1 ∨ i = n2)
    (q : ∀ h' tk e, (∀ c o, c ≠ z → c ≠ i1 → c ≠ i2 → s.heap.get? c = some o → h'.get? c = some o) → (∃ o, h'.get? e = some o ∧ o.cls = .type "StopIteration") → E (.ref e) { s with heap := h', toks := tk }) :
    wpAny (model prog w) A (Builtin.«zip.__next__» ⟨[.ref z], []⟩) Q E s := by
  obtain ⟨hp, g, d, tk0, os⟩ := s
  show wpAny _ _ (field (.ref z) 2 >>= _) _ _ _
  refine wpAny_bind (wpAny_field hz rfl (x := .bool false) rfl ?_)
  show wpAny _ _ (field (.ref z) 3 >>= _) _ _ _
  refine wpAny_bind (wpAny_field hz rfl (x := .ref TI) rfl ?_)
  refine wpAny_bind (wpAny_seqItems hTI rfl ?_)
  show wpAny _ _ (Builtin.SmallTypes.ownedTupleIsFree (.ref z) >>= _) _ _ _
  refine wpAny_bind (wpAny_tupleHeld_zip hz hT fun ha za sa => ?_)
  replace sa : Heap.SameBut z hp ha := sa
  simp only [Bool.false_eq_true, if_false]
  refine wpAny_bind ?_
  rw [← Array.forIn_toList]
  simp only [List.forIn_cons, List.forIn_nil]
  refine wpAny_bind (wpAny_bind (wpAny_holding ?_))
  show wpAny _ _ (Builtin.SmallTypes.nextOf (.ref i1) >>= _) _ _ ⟨ha, g, d, tk0, os⟩
  by_cases lt : i < n1
  · refine wpAny_bind (D1.item i ⟨ha, g, d, tk0, os⟩ _ _ lt (D1.over st1 sa S.zf1) fun x1 hb tkb px1 tb sb => wpAny_pure ?_)
    replace sb : Heap.SameBut i1 ha hb := sb
    refine wpAny_pure ?_
    refine wpAny_bind (wpAny_bind (wpAny_holding ?_))
    show wpAny _ _ (Builtin.SmallTypes.nextOf (.ref i2) >>= _) _ _ ⟨hb, g, d, tkb, os⟩
    have e2 : i = n2 := by omega
    refine wpAny_bind (D2.done ⟨hb, g, d, tkb, os⟩ _ _ (by rw [← e2]; exact D2.over (D2.over st2 sa S.zf2) sb S.sep1_2) fun hc e sc he => ?_)
    replace sc : Heap.ExtBut i2 hb hc := sc
    exact q hc tkb e (fun c o c1 c2 c3 u => sc _ _ c3 (sb.extBut _ _ c2 (sa.extBut _ _ c1 u))) he
  · have e1 : i = n1 := by omega
    refine wpAny_bind (D1.done ⟨ha, g, d, tk0, os⟩ _ _ (by rw [← e1]; exact D1.over st1 sa S.zf1) fun hb e sb he => ?_)
    replace sb : Heap.ExtBut i1 ha hb := sb
    exact q hb tk0 e (fun c o c1 c2 c3 u => sb _ _ c2 (sa.extBut _ _ c1 u)) he
/-- the zip before its turn i: nothing is out yet, or a tuple is -/
def Zs (z TI TO : Addr) (h : Heap) : Prop := (∃ o, h.get? TO = some o) ∧ ((IsZip h z TI TO .none ∧ ∃ a b, IsTupOf2 h TO a b) ∨ ∃ T f oT, IsZipHeld h z TI TO T f ∧ h.get? T = some oT ∧ T ≠ z ∧ oT.cls = .type "tuple")
theorem zNext {Q : Option Value → Shared → Prop} (S : ZipSep2 z TI TO i1 i2 fp1 fp2) (D1 : Draws prog w A.in1 i1 fp1 n1 P1 St1) (D2 : Draws prog w A.in1 i2 fp2 n2 P2 St2)
    (hz : Zs z TI TO s.heap) (hTI : IsTupOf2 s.heap TI (.ref i1) (.ref i2)) (hi : ∀ T, s.heap.get? T = none → T ≠ i1 ∧ T ≠ i2) (ho : ∀ T f oT, IsZipHeld s.heap z TI TO T f → s.heap.get? T = some oT → T ≠ i1 ∧ T ≠ i2) (st1 : St1 i s.heap) (st2 : St2 i s.heap) (l1 : i < n1) (l2 : i < n2)
    (q : ∀ x1 x2 h' tk, P1 i x1 → P2 i x2 → Zs z TI TO h' → IsTupOf2 h' TI (.ref i1) (.ref i2) → (∀ T f oT, IsZipHeld h' z TI TO T f → h'.get? T = some oT → T ≠ i1 ∧ T ≠ i2) → St1 (i + 1) h' → St2 (i + 1) h' → IsTupOf2 h' s.heap.objs.size x1 x2 → h'.objs.size = s.heap.objs.size + 1 →
      (∀ c o, c ≠ z → c ≠ TO → c ≠ i1 → c ≠ i2 → s.heap.get? c = some o → h'.get? c = some o) → Q (some (.ref s.heap.objs.size)) { s with heap := h', toks := tk }) :
    wpAny (model prog w) A (pyNext (.ref z)) Q E s := by
  obtain ⟨⟨oO, eO⟩, hz⟩ := hz
  rcases hz with ⟨hz, a, b, hTO⟩ | ⟨T, f, oT, hz, hT, hne, hcl⟩
  · refine wpAny_pyNext_zipD2_item S D1 D2 hz hTI hTO st1 st2 l1 l2 fun x1 x2 h' tk p1 p2 z' TO' t1 t2 nw sz kp => ?_
    have lt : z < s.heap.objs.size := Heap.lt_size hz
    have nf : s.heap.get? s.heap.objs.size = none := by
      cases e : s.heap.get? s.heap.objs.size with
      | none => rfl
      | some o => exact absurd (Heap.lt_size e) (Nat.lt_irrefl _)
    refine q x1 x2 h' tk p1 p2 ⟨⟨_, TO'⟩, .inr ⟨s.heap.objs.size, false, _, z', nw, Nat.ne_of_gt lt, rfl⟩⟩ (kp _ _ S.TIz S.TITO S.TIi1 S.TIi2 hTI) (fun T f oT hz2 hT2 => ?_) t1 t2 nw sz kp
    have e := z'.symm.trans hz2
    have e2 : T = s.heap.objs.size := by
      injection e with e
      injection e with _ _ e _
      injection e with e
      have q0 := congrArg (fun (t : Array Value) => t[0]?) e
      have q1 : some (rawInt (s.heap.objs.size : Int)) = some (rawInt (T : Int)) := q0
      injection q1 with q1
      injection q1 with q1
      exact (Int.ofNat.inj q1).symm
    rw [e2]
    exact hi _ nf
  · have ty : s.TypeIs (.ref z) "zip" := ⟨_, hz, rfl⟩
    unfold pyNext
    refine wpAny_bind (wpAny_attempt (wpAny_callSpecial?_slot (name := Str.ofString "__next__") ty F.slot_zip_next (wpAny_call_entry F.slot_zip_next ty F.entry_zip_next
      (outItem S D1 D2 hz hT hTI st1 st2 l1 l2 fun x1 x2 h' tk p1 p2 z' t1 t2 nw sz kp => wpAny_pure ?_) (F.args_zip_next_1 _))))
    obtain ⟨n1, n2⟩ := ho T f oT hz hT
    have hT' := kp _ _ hne n1 n2 hT
    refine q x1 x2 h' tk p1 p2 ⟨⟨_, kp _ _ S.TOz S.Ti1 S.Ti2 eO⟩, .inr ⟨T, true, oT, z', hT', hne, hcl⟩⟩ (kp _ _ S.TIz S.TIi1 S.TIi2 hTI) (fun T2 f2 o2 hz2 hT2 => ?_) t1 t2 nw sz fun c o c1 _ c3 c4 e => kp c o c1 c3 c4 e
    have e := z'.symm.trans hz2
    have e2 : T2 = T := by
      injection e with e
      injection e with _ _ e _
      injection e with e
      have q0 := congrArg (fun (t : Array Value) => t[0]?) e
      have q1 : some (rawInt (T : Int)) = some (rawInt (T2 : Int)) := q0
      injection q1 with q1
      injection q1 with q1
      exact (Int.ofNat.inj q1).symm
    rw [e2]
    exact ⟨n1, n2⟩
theorem zDone {Q : Option Value → Shared → Prop} (S : ZipSep2 z TI TO i1 i2 fp1 fp2) (D1 : Draws prog w A.in1 i1 fp1 n1 P1 St1) (D2 : Draws prog w A.in1 i2 fp2 n2 P2 St2)
    (hz : Zs z TI TO s.heap) (hTI : IsTupOf2 s.heap TI (.ref i1) (.ref i2)) (st1 : St1 i s.heap) (st2 : St2 i s.heap) (l1 : i ≤ n1) (l2 : i ≤ n2) (last : i = n1 ∨ i = n2)
    (q : ∀ h' tk, (∀ c o, c ≠ z → c ≠ TO → c ≠ i1 → c ≠ i2 → s.heap.get? c = some o → h'.get? c = some o) → Q none { s with heap := h', toks := tk }) :
    wpAny (model prog w) A (pyNext (.ref z)) Q E s := by
  obtain ⟨⟨oO, eO⟩, hz⟩ := hz
  rcases hz with ⟨hz, a, b, hTO⟩ | ⟨T, f, oT, hz, hT, hne, hcl⟩
  · exact wpAny_pyNext_zipD2_end S D1 D2 hz hTI hTO st1 st2 l1 l2 last q
  · have ty : s.TypeIs (.ref z) "zip" := ⟨_, hz, rfl⟩
    unfold pyNext
    refine wpAny_bind (wpAny_attempt (wpAny_callSpecial?_slot (name := Str.ofString "__next__") ty F.slot_zip_next (wpAny_call_entry F.slot_zip_next ty F.entry_zip_next
      (outEnd S D1 D2 hz hT hTI st1 st2 l1 l2 last fun h' tk e kp he => ?_) (F.args_zip_next_1 _))))
    obtain ⟨o, ho, hc⟩ := he
    refine wpAny_bind (wpAny_isInstance (T := "StopIteration") (b := true) ⟨o, ho, hc⟩ isSubtype_stop ?_)
    exact wpAny_pure (q _ _ fun c o c1 _ c3 c4 e => kp c o c1 c3 c4 e)
end
theorem nolen_zip : typeLookup (.type "zip") "__len__" = pure none := by rw [typeLookup_type, builtinLookup_eq_fast]; kernel_rfl
theorem nohint_zip : typeLookup (.type "zip") "__length_hint__" = pure none := by rw [typeLookup_type, builtinLookup_eq_fast]; kernel_rfl
/-- the pairs stand -/
def Prs (G : Hp) (ts : List Addr) (xs ys : List V) : Prop := ∀ (j : Nat) (t : Addr) (x y : V), ts[j]? = some t → xs[j]? = some x → ys[j]? = some y → G t = some (.tup [x, y])
section
variable {A : Around} {X : Cx} {pins : List (Addr × Obj)} {σ : L2.St} {z TI TO i1 i2 D : Addr} {fp1 fp2 : List Addr} {n1 n2 n : Nat} {P1 P2 : Nat → Value → Prop} {St1 St2 : Nat → Heap → Prop} {R : Result → Shared → Prop} {res : Value} {xs ys : List V} {H : Hp}
theorem zLoop (S : ZipSep2 z TI TO i1 i2 fp1 fp2) (D1 : Draws X.prog X.w A.in1.in1 i1 fp1 n1 P1 St1) (D2 : Draws X.prog X.w A.in1.in1 i2 fp2 n2 P2 St2) (hn : n = min n1 n2) (hz : n ≤ sizeLine)
    (r1 : ∀ i v, P1 i v → ∃ x, xs[i]? = some x ∧ RelV x v) (r2 : ∀ i v, P2 i v → ∃ y, ys[i]? = some y ∧ RelV y v) (nD1 : D ∉ fp1) (nD2 : D ∉ fp2) (hD : H D = none)
    (q : ∀ (s' : Shared) (G' : Hp) (ts : List Addr), Inv X pins σ G' s' → Same H G' → G' D = some (.lst (ts.map V.ref)) → ts.length = n → Prs G' ts xs ys → (∀ t ∈ ts, H t = none) → R (.ok (.ret res)) s') :
    ∀ (k i : Nat) (s : Shared) (G : Hp) (ts : List Addr), n - i = k → i ≤ n → Inv X pins σ G s → (∀ b ∈ [z, TI, TO, i1, i2], FpOk X pins G b) → Zs z TI TO s.heap → IsTupOf2 s.heap TI (.ref i1) (.ref i2) →
      (∀ T f oT, IsZipHeld s.heap z TI TO T f → s.heap.get? T = some oT → T ≠ i1 ∧ T ≠ i2) → St1 i s.heap → St2 i s.heap → Same H G → G D = some (.lst (ts.map V.ref)) → ts.length = i → Prs G ts xs ys → (∀ t ∈ ts, H t = none) →
      codeAny (model X.prog X.w) A (.builtin "list.extend.loop" ⟨[.ref D, .ref z, res], []⟩) R s := by
  intro k
  induction k with
  | zero =>
    intro i s G ts hk hi I hf hzs hTI ho t1 t2 sm gD lt pr nw
    have ei : i = n := by omega
    refine codeAny_builtin F.entry_extend_loop ?_
    rw [Around.under_plainId F.plain_extend_loop _]
    show wpAny _ A.in1 (pyNext (.ref z) >>= _) _ _ s
    refine wpAny_bind (zDone S D1 D2 hzs hTI t1 t2 (by omega) (by omega) (by omega) fun h' tk kp => ?_)
    refine wpAny_pure (q _ G ts (I.turnedL (ch := [z, TI, TO, i1, i2]) (fun c o hb e => kp c o (fun u => hb (by simp [u])) (fun u => hb (by simp [u])) (fun u => hb (by simp [u])) (fun u => hb (by simp [u])) e) hf) sm gD (by omega) pr nw)
  | succ k ih =>
    intro i s G ts hk hi I hf hzs hTI ho t1 t2 sm gD lt pr nw
    have hlt : i < n := by omega
    have live : ∀ b ∈ [z, TI, TO, i1, i2], b < s.heap.objs.size := fun b hb => by
      have hzl : z < s.heap.objs.size := by
        rcases hzs.2 with ⟨e, _⟩ | ⟨_, _, _, e, _⟩
        · exact Heap.lt_size e
        · exact Heap.lt_size e
      have hb : b = z ∨ b = TI ∨ b = TO ∨ b = i1 ∨ b = i2 := by simpa using hb
      rcases hb with e | e | e | e | e
      · rw [e]; exact hzl
      · rw [e]; exact Heap.lt_size hTI
      · rw [e]; obtain ⟨_, e⟩ := hzs.1; exact Heap.lt_size e
      · rw [e]; obtain ⟨_, e⟩ := D1.live _ _ t1; exact Heap.lt_size e
      · rw [e]; obtain ⟨_, e⟩ := D2.live _ _ t2; exact Heap.lt_size e
    have nDc : ∀ b ∈ [z, TI, TO, i1, i2], D ≠ b := fun b hb e => by
      have h0 := (hf b hb).1
      rw [← e, gD] at h0
      cases h0
    refine codeAny_builtin F.entry_extend_loop ?_
    rw [Around.under_plainId F.plain_extend_loop _]
    show wpAny _ A.in1 (pyNext (.ref z) >>= _) _ _ s
    refine wpAny_bind (zNext S D1 D2 hzs hTI (fun T e => ?_) ho t1 t2 (by omega) (by omega) fun x1 x2 h' tk p1 p2 zs' ti' ho' u1 u2 nt sz kp => ?_)
    · obtain ⟨_, e1⟩ := D1.live _ _ t1
      obtain ⟨_, e2⟩ := D2.live _ _ t2
      exact ⟨fun w => (by rw [w, e1] at e; cases e), fun w => (by rw [w, e2] at e; cases e)⟩
    obtain ⟨x, hx, rx⟩ := r1 i x1 p1
    obtain ⟨y, hy, ry⟩ := r2 i x2 p2
    have gT : G s.heap.objs.size = none := I.hok.fresh (Nat.le_refl _)
    have new : ObjOk X.prog X.w (upd G s.heap.objs.size (.tup [x, y])) h' s.heap.objs.size (.tup [x, y]) := ⟨by show 2 ≤ sizeLine; decide, [x1, x2], .cons rx (.cons ry .nil), ⟨_, nt, rfl, _, rfl⟩⟩
    have I1 : Inv X pins σ (upd G s.heap.objs.size (.tup [x, y])) { s with heap := h', toks := tk } :=
      I.turnedNew (ch := [z, TI, TO, i1, i2]) (fun c o hb e => kp c o (fun u => hb (by simp [u])) (fun u => hb (by simp [u])) (fun u => hb (by simp [u])) (fun u => hb (by simp [u])) e) hf (Nat.le_refl _) new
    have DT : D ≠ s.heap.objs.size := ne_of_none gD gT
    have gD1 : upd G s.heap.objs.size (.tup [x, y]) D = some (.lst (ts.map V.ref)) := by rw [upd_ne DT]; exact gD
    obtain ⟨_, its, c0, rv, _, raw⟩ := I1.lstM gD1
    have ln := rv.length
    rw [List.length_map] at ln
    show wpAny _ A.in1 (updateSeq D (·.push (.ref s.heap.objs.size)) >>= _) _ _ _
    refine wpAny_bind ?_
    refine wpAny_updateSeq raw rfl ?_ (by rw [List.size_toArray]; omega) (by rw [Array.size_push, List.size_toArray]; omega)
    have I2 := I1.lset (ys := (ts ++ [s.heap.objs.size]).map V.ref) (its' := its ++ [Value.ref s.heap.objs.size]) (t' := tk) gD1 raw (f := (·.push (Value.ref s.heap.objs.size))) (by simp) (by rw [List.map_append]; exact rv.append (.cons rfl .nil)) (by rw [List.length_map, List.length_append]; simp only [List.length_cons, List.length_nil]; omega)
    have oth : ∀ b o, b ≠ D → h'.get? b = some o → (h'.update D (Obj.mapSeq (·.push (Value.ref s.heap.objs.size)))).get? b = some o := fun b o hb e => (Heap.get?_update_other _ _ (Ne.symm hb)).trans e
    have smT : ∀ t o, G t = some o → t ≠ D → upd (upd G s.heap.objs.size (.tup [x, y])) D (.lst ((ts ++ [s.heap.objs.size]).map V.ref)) t = some o := fun t o e hd => by
      rw [upd_ne hd, upd_ne (ne_of_none e gT)]
      exact e
    refine wpAny_pure ⟨plainId_quiet F.plain_extend_loop _, ih (i + 1) _ _ (ts ++ [s.heap.objs.size]) (by omega) hlt I2 (fun b hb => ?_) ?_ (oth _ _ (Ne.symm (nDc TI (by simp))) ti') (fun T f oT e1 e2 => ?_) (D1.frame _ _ _ u1 fun b hb o e => oth b o (fun w => nD1 (w ▸ hb)) e) (D2.frame _ _ _ u2 fun b hb o e => oth b o (fun w => nD2 (w ▸ hb)) e)
      ?sm upd_same (by rw [List.length_append]; simp only [List.length_cons, List.length_nil]; omega) ?pr (fun t ht => ?_)⟩
    · refine ⟨?_, (hf b hb).2⟩
      rw [upd_ne (Ne.symm (nDc b hb)), upd_ne (Nat.ne_of_lt (live b hb))]
      exact (hf b hb).1
    · obtain ⟨⟨oO, eO⟩, zz⟩ := zs'
      refine ⟨⟨oO, oth _ _ (Ne.symm (nDc TO (by simp))) eO⟩, ?_⟩
      rcases zz with ⟨hz, a, b, hTO⟩ | ⟨T, f, oT, hz, hT, hne, hcl⟩
      · exact .inl ⟨oth _ _ (Ne.symm (nDc z (by simp))) hz, a, b, oth _ _ (Ne.symm (nDc TO (by simp))) hTO⟩
      · refine .inr ⟨T, f, oT, oth _ _ (Ne.symm (nDc z (by simp))) hz, oth _ _ (fun w => ?_) hT, hne, hcl⟩
        rw [w] at hT
        have q0 := raw.symm.trans hT
        injection q0 with q0
        rw [← q0] at hcl
        injection hcl with hcl
        exact absurd hcl (by decide)
    · have e1 : IsZipHeld h' z TI TO T f := (Heap.get?_update_other _ _ (nDc z (by simp))).symm.trans e1
      by_cases w : D = T
      · exact ⟨fun u => nDc i1 (by simp) (w.trans u), fun u => nDc i2 (by simp) (w.trans u)⟩
      · exact ho' T f oT e1 ((Heap.get?_update_other _ _ w).symm.trans e2)
    case sm => exact fun t o e => smT t o (sm t o e) (fun w => by rw [w, hD] at e; cases e)
    case pr =>
      intro j t a b e1 e2 e3
      by_cases hj : j < ts.length
      · rw [List.getElem?_append_left hj] at e1
        have g := pr j t a b e1 e2 e3
        exact smT t _ g fun w => by rw [w, gD] at g; cases g
      · have hj2 : j < (ts ++ [s.heap.objs.size]).length := (List.getElem?_eq_some_iff.mp e1).1
        rw [List.length_append] at hj2
        simp only [List.length_cons, List.length_nil] at hj2
        have ej : j = i := by omega
        subst ej
        rw [List.getElem?_append_right (by omega), show j - ts.length = 0 by omega] at e1
        cases e1
        rw [hx] at e2
        rw [hy] at e3
        cases e2
        cases e3
        rw [upd_ne (Ne.symm DT)]
        exact upd_same
    · rcases List.mem_append.mp ht with h | h
      · exact nw t h
      · rw [List.mem_singleton.mp h]
        cases e : H s.heap.objs.size with
        | none => rfl
        | some o => rw [sm _ _ e] at gT; cases gT
/-- listExtendWith of a zip -/
theorem zGrow {s : Shared} (T : s.TypeIs (.ref z) "zip") (hz : IsZip s.heap z TI TO .none) (hne : D ≠ z) (eD : s.heap.get? D = some { cls := .type "list", data := .seq #[] })
    (k : ∀ h', (∀ b o, b ≠ D → s.heap.get? b = some o → h'.get? b = some o) → (∃ c0, h'.get? D = some { cls := .type "list", data := .seq #[] c0 }) → codeAny (model X.prog X.w) A (.builtin "list.extend.loop" ⟨[.ref D, .ref z, res], []⟩) R { s with heap := h' }) :
    wpAny (model X.prog X.w) A.in1 (Builtin.List.listExtendWith (.ref D) (.ref z) res)
      (fun fin s' => match fin with
        | .done f => R (.ok f) s'
        | .again c' => c'.quiet = true ∧ codeAny (model X.prog X.w) A c' R s') (fun e s' => R (.error e) s') s := by
  unfold Builtin.List.listExtendWith
  refine wpAny_bind (wpAny_typeOf T ?_)
  have no : Builtin.List.listSameRef (.ref D) (.ref z) = false := by simp [Builtin.List.listSameRef, hne]
  rw [if_neg (by rw [no]; decide)]
  refine wpAny_bind (wpAny_pyIter_zip hz ?_)
  refine wpAny_bind (wpAny_holding ?_)
  unfold Builtin.List.listLengthHint
  refine wpAny_bind (wpAny_specialOf T nolen_zip ?_)
  show wpAny _ A.in1 (specialOf (.ref z) (Str.ofString "__length_hint__") >>= _) _ _ _
  refine wpAny_bind (wpAny_specialOf T nohint_zip ?_)
  refine wpAny_pure ?_
  show wpAny _ A.in1 (rule "list.extend.makes-room" >>= fun _ => Builtin.List.listTouch (.ref D) >>= fun _ => again (.builtin "list.extend.loop" ⟨[.ref D, .ref z, res], []⟩)) _ _ _
  refine wpAny_bind (wpAny_rule (wpAny_bind ?_))
  show wpAny _ A.in1 (updateSeq D (·.push .none) >>= fun _ => updateSeq D (·.pop)) _ _ _
  refine wpAny_bind (wpAny_updateSeq eD rfl ?_)
  have e2 := Heap.get?_update_self (Obj.mapSeq (·.push Value.none)) eD rfl
  refine wpAny_updateSeq e2 rfl ?_
  have e3 := Heap.get?_update_self (Obj.mapSeq (·.pop)) e2 rfl
  exact wpAny_pure ⟨plainId_quiet F.plain_extend_loop _, k _ (fun b o hb e => (Heap.get?_update_other _ _ (Ne.symm hb)).trans ((Heap.get?_update_other _ _ (Ne.symm hb)).trans e)) ⟨_, e3⟩⟩
theorem neN (a b : Nat) (h : a < b ∨ b < a) : a ≠ b := by omega
theorem nin2 (D B l : Nat) (h1 : D < B ∨ B < D) (h2 : D < l ∨ l < D) : D ∉ [B, l] := by
  simp only [List.mem_cons, List.not_mem_nil, or_false]
  omega
theorem sepN (B l1 l2 : Nat) (h1 : l1 < B) (h2 : l2 < B) : ZipSep2 (B + 4) (B + 2) (B + 3) B (B + 1) [B, l1] [B + 1, l2] :=
  ⟨neN _ _ (by omega), neN _ _ (by omega), neN _ _ (by omega), neN _ _ (by omega), List.mem_cons_self, nin2 _ _ _ (by omega) (by omega), nin2 _ _ _ (by omega) (by omega), neN _ _ (by omega), List.mem_cons_self,
    nin2 _ _ _ (by omega) (by omega), nin2 _ _ _ (by omega) (by omega), nin2 _ _ _ (by omega) (by omega), nin2 _ _ _ (by omega) (by omega)⟩
theorem ninN (D B l : Nat) (h : B < D) (hl : l < D) : D ∉ [B, l] := by
  simp only [List.mem_cons, List.not_mem_nil, or_false]
  omega
theorem inN (B b : Nat) (h : b = B + 4 ∨ b = B + 2 ∨ b = B + 3 ∨ b = B ∨ b = B + 1) : B ≤ b ∧ b < B + 5 := by omega
theorem vback {xs : List V} {its : List Value} {i : Nat} {v : Value} (r : Vals xs its) (e : its[i]? = some v) : ∃ x, xs[i]? = some x ∧ RelV x v := by
  have h := (List.getElem?_eq_some_iff.mp e).1
  rw [← r.length] at h
  obtain ⟨u, hu, ru⟩ := r.get (List.getElem?_eq_getElem h)
  rw [e] at hu
  cases hu
  exact ⟨_, List.getElem?_eq_getElem h, ru⟩
/-- what list(zip(a, b)) asks -/
def tZipL (K : PySem.W.Frag) (ta : TA) : TE := fun σ H Q => ta σ H fun vs G => ∃ (a b : Addr) (xs ys : List V), vs = [.ref a, .ref b] ∧ ((SqL K G a xs ∧ SqL K G b ys) ∨ (SqT K G a xs ∧ SqT K G b ys)) ∧
  ∀ (q : Addr) (ts : List Addr) (F : Hp), Same G F → G q = none → F q = some (.lst (ts.map V.ref)) → ts.length = min xs.length ys.length → Prs F ts xs ys → (∀ t ∈ ts, G t = none) → Q (.ref q) F
theorem zList {Q0 Q : Value → Shared → Prop} {E : Value → Shared → Prop} {s1 : Shared} {o1 o2 : Obj} {v1 v2 : Value} {H1 H2 : Heap → Prop} {l1 l2 : Addr} (hh : A.handled = none) (I : Inv X pins σ H s1) (B1 : Begins v1 o1 H1) (B2 : Begins v2 o2 H2) (h1 : H1 s1.heap) (h2 : H2 s1.heap)
    (L1 : l1 < s1.heap.objs.size) (L2 : l2 < s1.heap.objs.size)
    (D1 : ∀ A' : Around, A'.handled = none → Draws X.prog X.w A' s1.heap.objs.size [s1.heap.objs.size, l1] n1 P1 St1) (D2 : ∀ A' : Around, A'.handled = none → Draws X.prog X.w A' (s1.heap.objs.size + 1) [s1.heap.objs.size + 1, l2] n2 P2 St2)
    (hn : n = min n1 n2) (hz : n ≤ sizeLine) (r1 : ∀ i v, P1 i v → ∃ x, xs[i]? = some x ∧ RelV x v) (r2 : ∀ i v, P2 i v → ∃ y, ys[i]? = some y ∧ RelV y v)
    (b1 : ∀ h', h'.get? s1.heap.objs.size = some o1 → (∀ c o, s1.heap.get? c = some o → h'.get? c = some o) → St1 0 h') (b2 : ∀ h', h'.get? (s1.heap.objs.size + 1) = some o2 → (∀ c o, s1.heap.get? c = some o → h'.get? c = some o) → St2 0 h')
    (q : ∀ (s' : Shared) (G' : Hp) (ts : List Addr) (D : Addr), Inv X pins σ G' s' → Same H G' → H D = none → G' D = some (.lst (ts.map V.ref)) → ts.length = n → Prs G' ts xs ys → (∀ t ∈ ts, H t = none) → Q (.ref D) s')
    (q0 : ∀ v s2, wpAny (model X.prog X.w) A (call (.type "list") [v]) Q E s2 → Q0 v s2) : wpAny (model X.prog X.w) A (call (.type "zip") [v1, v2]) Q0 E s1 := by
  refine zip_begins2 B1 B2 h1 h2 fun h' hz0 hTI hTO e1 e2 sz kp => q0 _ _ ?_
  generalize hB : s1.heap.objs.size = B at *
  have dz : h'.objs.size ≠ B + 4 := by omega
  refine callType_codes (Q₁ := fun obj s₁ => obj = .ref h'.objs.size ∧ s₁ = { s1 with heap := h'.push { cls := .type "list", data := .seq #[] } })
    F.called_list (F.typeCall_list_1 _) F.entry_list_init (code_list_new _ ⟨rfl, rfl⟩) (fun obj s₁ h₁ => ?_)
  obtain ⟨rfl, rfl⟩ := h₁
  have eD : (h'.push { cls := .type "list", data := .seq #[] }).get? h'.objs.size = some { cls := .type "list", data := .seq #[] } := Heap.get?_push_size _ rfl
  refine ⟨⟨_, eD, rfl⟩, F.args_list_init_2 _ _, ?_⟩
  show wpAny _ _ (do
    let old ← Builtin.List.listItems (.ref h'.objs.size)
    Builtin.List.listUpdate (.ref h'.objs.size) (fun _ => #[])
    letGo old.toList.reverse
    Builtin.List.listExtendWith (.ref h'.objs.size) (.ref (B + 4)) .none) _ _ _
  refine wpAny_bind ?_
  unfold Builtin.List.listItems
  refine wpAny_bind (wpAny_seqItems eD rfl (wpAny_pure ?_))
  show wpAny _ _ (do
    updateSeq h'.objs.size (fun _ => #[])
    letGo (#[] : Array Value).toList.reverse
    Builtin.List.listExtendWith (.ref h'.objs.size) (.ref (B + 4)) .none) _ _ _
  refine wpAny_bind (wpAny_updateSeq eD rfl ?_)
  have eD2 := Heap.get?_update_self (Obj.mapSeq fun _ => (#[] : Array Value)) eD rfl
  refine wpAny_bind (wpAny_letGo ?_)
  generalize hh2 : (h'.push { cls := .type "list", data := .seq #[] }).update h'.objs.size (Obj.mapSeq fun _ => (#[] : Array Value)) = g2 at eD2 ⊢
  have k2 : ∀ b o, h'.get? b = some o → g2.get? b = some o := fun b o e => by
    rw [← hh2, Heap.get?_update_other _ _ (Nat.ne_of_gt (Heap.lt_size e))]
    exact Heap.get?_push_of_some _ e
  refine zGrow (X := X) (s := { s1 with heap := g2 }) ⟨_, k2 _ _ hz0, rfl⟩ (k2 _ _ hz0) dz eD2 fun g3 k3 e3 => ?_
  obtain ⟨c0, e3⟩ := e3
  have k23 : ∀ b o, h'.get? b = some o → g3.get? b = some o := fun b o e => k3 b o (Nat.ne_of_lt (Heap.lt_size e)) (k2 b o e)
  have kall : ∀ b o, s1.heap.get? b = some o → g3.get? b = some o := fun b o e => k23 b o (kp b o e)
  have hle : s1.heap.objs.size ≤ h'.objs.size := by omega
  have hD : H h'.objs.size = none := I.hok.fresh hle
  have I3 : Inv X pins σ (upd H h'.objs.size (.lst [])) { s1 with heap := g3 } := I.laid (t' := s1.toks) kall hle (show ObjOk X.prog X.w _ _ _ (.lst []) from ⟨Nat.zero_le _, [], c0, .nil, e3⟩)
  have S := sepN B l1 l2 L1 L2
  refine zLoop (A := A.in1) S (D1 _ hh) (D2 _ hh) hn hz r1 r2 (D := h'.objs.size) (xs := xs) (ys := ys) ?_ ?_ hD (fun s' G' ts I' sm gD lt pr nw => ⟨rfl, q s' G' ts _ I' sm hD gD lt pr nw⟩) n 0 _ (upd H h'.objs.size (.lst [])) [] (by omega) (Nat.zero_le _) I3 (fun b hb => ?_) ⟨⟨_, k23 _ _ hTO⟩, .inl ⟨k23 _ _ hz0, _, _, k23 _ _ hTO⟩⟩ (k23 _ _ hTI) (fun T f oT e1 e2 => ?_) (b1 _ (k23 _ _ e1) kall) (b2 _ (k23 _ _ e2) kall)
    (fun t o e => by rw [upd_ne (ne_of_none e hD)]; exact e) upd_same rfl (fun j t x y e => by simp at e) (fun t h => absurd h List.not_mem_nil)
  · exact ninN _ _ _ (by omega) (Nat.lt_of_lt_of_le L1 (by omega))
  · exact ninN _ _ _ (by omega) (Nat.lt_of_lt_of_le L2 (by omega))
  · have hb : b = B + 4 ∨ b = B + 2 ∨ b = B + 3 ∨ b = B ∨ b = B + 1 := by simpa using hb
    have l0 := inN B b hb
    have lb : s1.heap.objs.size ≤ b ∧ b ≠ h'.objs.size := ⟨by rw [hB]; exact l0.1, Nat.ne_of_lt (by omega)⟩
    refine I.fpOk lb.1 ?_
    rw [upd_ne lb.2]
    exact I.hok.fresh lb.1
  · have e := (k23 _ _ hz0).symm.trans e1
    injection e with e
    injection e with _ _ e _
    injection e with e
    have q0 := congrArg (fun (t : Array Value) => t[0]?) e
    have q1 : some Value.none = some (rawInt (T : Int)) := q0
    injection q1 with q1
    cases q1
end
section
variable {X : Cx}
theorem pe_listZip {e e2 : Expr} {ta : TA} {p p2 pos pos2 : Pos} (hc : X.calm = true) (hg : Gl X "list") (hm : X.mg "list" = none) (hg2 : Gl X "zip") (hm2 : X.mg "zip" = none) (ha : PA X [e, e2] ta)
    (hs : starEach [e, e2] X.env = (false, eval e X.env) :: starEach [e2] X.env := by rfl) (hpl : (backTo pos2 (starEach [e2] X.env)).any (·.1) = false := by rfl)
    (hs2 : starEach [.Call (.Name "zip" p2) [e, e2] [] pos2] X.env = (false, eval (.Call (.Name "zip" p2) [e, e2] [] pos2) X.env) :: starEach [] X.env := by rfl) :
    PE X (.Call (.Name "list" p) [.Call (.Name "zip" p2) [e, e2] [] pos2] [] pos) (tZipL X.K ta) := by
  refine ⟨fun pins s σ H Q I h => ?_⟩
  refine Call_ (ld_blt I hg hm boot_list (PyProof.Rows.callWith_type1 (args_cons (Call_ (ld_blt I hg2 hm2 PyProof.Rows.boot_zip (PyProof.Rows.callWith_type1 (thn (ha.run pos2 pins s σ H _ I h) fun us s1 ⟨vs, G, I1, rr, a, b, xs, ys, ev, sq, q⟩ => ?_) hs hpl))) hs2) hs2 rfl))
  subst ev
  cases rr with
  | cons ra rr =>
    cases rr with
    | cons rb rr =>
      cases rr
      cases ra
      cases rb
      have hd : X.A.handled = none := I1.ok.hd hc
      have fin : ∀ (s' : Shared) (G' : Hp) (ts : List Addr) (D : Addr), Inv X pins σ G' s' → Same G G' → G D = none → G' D = some (.lst (ts.map V.ref)) → ts.length = min xs.length ys.length → Prs G' ts xs ys → (∀ t ∈ ts, G t = none) → EP X pins σ Q (.ref D) s' :=
        fun s' G' ts D I' sm hD gD lt pr nw => ⟨.ref D, G', I', rfl, q D ts G' sm hD gD lt pr nw⟩
      rcases sq with ⟨sx, sy⟩ | ⟨sx, sy⟩
      · obtain ⟨its, rv, p1, z1⟩ := I1.list sx
        obtain ⟨jts, rw, p2, z2⟩ := I1.list sy
        have n1 := rv.length
        have n2 := rw.length
        refine zList (n := min its.toArray.size jts.toArray.size) hd I1 (begins_list a its.toArray) (begins_list b jts.toArray) p1.isList p2.isList p1.lt p2.lt (fun A' h' => .list h' _ a (Nat.ne_of_lt p1.lt) its.toArray) (fun A' h' => .list h' _ b (Nat.ne_of_lt (Nat.lt_succ_of_lt p2.lt)) jts.toArray) rfl ?_
          (fun i v e => ?_) (fun i v e => ?_) (fun h' e k => ⟨⟨_, e, rfl, rfl⟩, ?_⟩) (fun h' e k => ⟨⟨_, e, rfl, rfl⟩, ?_⟩) (fun s' G' ts D I' sm hD gD lt pr nw => fin s' G' ts D I' sm hD gD (by rw [lt, List.size_toArray, List.size_toArray, n1, n2]) pr nw) (fun v s2 hv => args_nil hv)
        · rw [List.size_toArray]
          omega
        · exact vback rv (by simpa using e)
        · exact vback rw (by simpa using e)
        · exact p1.isList.at fun o u => k _ _ u
        · exact p2.isList.at fun o u => k _ _ u
      · obtain ⟨its, rv, p1, z1⟩ := I1.tuple sx
        obtain ⟨jts, rw, p2, z2⟩ := I1.tuple sy
        have l1 : a < s1.heap.objs.size := let ⟨_, e, _⟩ := p1; Heap.lt_size e
        have l2 : b < s1.heap.objs.size := let ⟨_, e, _⟩ := p2; Heap.lt_size e
        have p1 : s1.heap.IsTuple a its.toArray := p1
        have p2 : s1.heap.IsTuple b jts.toArray := p2
        have n1 := rv.length
        have n2 := rw.length
        refine zList (n := min its.toArray.size jts.toArray.size) hd I1 (begins_tuple a its.toArray) (begins_tuple b jts.toArray) p1 p2 l1 l2 (fun A' h' => .tuple h' _ a (Nat.ne_of_lt l1) its.toArray) (fun A' h' => .tuple h' _ b (Nat.ne_of_lt (Nat.lt_succ_of_lt l2)) jts.toArray) rfl ?_
          (fun i v e => ?_) (fun i v e => ?_) (fun h' e k => ⟨⟨_, e, rfl, rfl⟩, ?_⟩) (fun h' e k => ⟨⟨_, e, rfl, rfl⟩, ?_⟩) (fun s' G' ts D I' sm hD gD lt pr nw => fin s' G' ts D I' sm hD gD (by rw [lt, List.size_toArray, List.size_toArray, n1, n2]) pr nw) (fun v s2 hv => args_nil hv)
        · rw [List.size_toArray]
          omega
        · exact vback rv (by simpa using e)
        · exact vback rw (by simpa using e)
        · exact p1.at fun o u => k _ _ u
        · exact p2.at fun o u => k _ _ u
end
end Kz

/-! a turn of a zip whose tuple is no more there; zip over tuples and texts for any target of one name or of several -/
namespace Kz
open PySem PySem.Spec PyProof.Rows L2
section
variable {prog : Program} {w : World} {A : Around} {E : Value → Shared → Prop} {s : Shared} {z TI TO i1 i2 T : Addr} {fp1 fp2 : List Addr} {n1 n2 i : Nat} {P1 P2 : Nat → Value → Prop} {St1 St2 : Nat → Heap → Prop} {f : Bool} {c1 c2 : Value}
theorem gone {a : Addr} {Q : Option Obj → Shared → Prop} (e : s.heap.get? a = none) (q : Q none s) : wpAny (model prog w) A (loadIfAlive a) Q E s := by
  have q' : Q (s.heap.get? a) s := by rw [e]; exact q
  exact fun _ _ _ => q'
theorem free_gone {Q : Bool → Shared → Prop} (hz : IsZipHeld s.heap z TI TO T f) (hT : s.heap.get? T = none) (q : Q true s) : wpAny (model prog w) A (Builtin.SmallTypes.ownedTupleIsFree (.ref z)) Q E s := by
  unfold Builtin.SmallTypes.ownedTupleIsFree
  refine wpAny_bind (wpAny_field hz rfl (x := rawInt T) rfl ?_)
  show wpAny _ _ (loadIfAlive ((T : Int).toNat) >>= _) _ _ _
  rw [Int.toNat_natCast]
  refine wpAny_bind (gone hT ?_)
  simp only [Option.isNone_none, if_true]
  exact wpAny_pure q
theorem goneItem {Q : Value → Shared → Prop} (S : ZipSep2 z TI TO i1 i2 fp1 fp2) (D1 : Draws prog w A i1 fp1 n1 P1 St1) (D2 : Draws prog w A i2 fp2 n2 P2 St2)
    (hz : IsZipHeld s.heap z TI TO T f) (hT : s.heap.get? T = none) (hTI : IsTupOf2 s.heap TI (.ref i1) (.ref i2)) (hTO : IsTupOf2 s.heap TO c1 c2) (st1 : St1 i s.heap) (st2 : St2 i s.heap) (l1 : i < n1) (l2 : i < n2)
    (q : ∀ x1 x2 h' tk, P1 i x1 → P2 i x2 → IsZip h' z TI TO (rawInt s.heap.objs.size) → IsTupOf2 h' TO x1 x2 → St1 (i + 1) h' → St2 (i + 1) h' → IsTupOf2 h' s.heap.objs.size x1 x2 → h'.objs.size = s.heap.objs.size + 1 →
      (∀ c o, c ≠ z → c ≠ TO → c ≠ i1 → c ≠ i2 → s.heap.get? c = some o → h'.get? c = some o) → Q (.ref s.heap.objs.size) { s with heap := h', toks := tk }) :
    wpAny (model prog w) A (Builtin.«zip.__next__» ⟨[.ref z], []⟩) (fun fin s' => ∃ v, fin = .done (.ret v) ∧ Q v s') E s := by
  obtain ⟨hp, ge, dr, tk0, os⟩ := s
  show wpAny _ _ (field (.ref z) 2 >>= _) _ _ _
  refine wpAny_bind (wpAny_field hz rfl (x := .bool false) rfl ?_)
  show wpAny _ _ (field (.ref z) 3 >>= _) _ _ _
  refine wpAny_bind (wpAny_field hz rfl (x := .ref TI) rfl ?_)
  refine wpAny_bind (wpAny_seqItems hTI rfl ?_)
  show wpAny _ _ (Builtin.SmallTypes.ownedTupleIsFree (.ref z) >>= _) _ _ _
  refine wpAny_bind (free_gone hz hT ?_)
  simp only [if_true]
  refine wpAny_bind (wpAny_rule ?_)
  refine wpAny_bind (wpAny_field hz rfl (x := .ref TO) rfl ?_)
  refine wpAny_bind (wpAny_setField_rec hz (by simp) fun k0 zk0 sk0 => ?_)
  replace zk0 : k0.get? z = some { cls := .type "zip", dict := none, data := .fields #[.ellipsis, .bool f, .bool false, .ref TI, .ref TO], slots := #[] } := zk0
  replace sk0 : Heap.SameBut z hp k0 := sk0
  refine wpAny_bind ?_
  simp only [List.zipIdx_cons, List.zipIdx_nil, List.forIn_cons, List.forIn_nil]
  refine wpAny_bind (wpAny_bind (wpAny_onRaise ?_))
  show wpAny _ _ (Builtin.SmallTypes.nextOf (.ref i1) >>= _) _ _ ⟨k0, ge, dr, tk0, os⟩
  refine wpAny_bind (D1.item i _ _ _ l1 (D1.over st1 sk0 S.zf1) fun x1 k1 t1 px1 n1' sk1 => wpAny_pure ?_)
  replace sk1 : Heap.SameBut i1 k0 k1 := sk1
  have u1 : IsTupOf2 k1 TO c1 c2 := sk1.extBut _ _ S.Ti1 (sk0.extBut _ _ S.TOz hTO)
  refine wpAny_bind (wpAny_seqItems (s := ⟨k1, ge, dr, t1, os⟩) u1 rfl ?_)
  refine wpAny_bind (updateSeq_IsTupOf2 (s := ⟨k1, ge, dr, t1, os⟩) u1 fun k2 v2 sk2 => ?_)
  replace v2 : IsTupOf2 k2 TO x1 c2 := v2
  replace sk2 : Heap.SameBut TO k1 k2 := sk2
  refine wpAny_bind (wpAny_letGo (wpAny_pure ?_))
  refine wpAny_bind (wpAny_bind (wpAny_onRaise ?_))
  show wpAny _ _ (Builtin.SmallTypes.nextOf (.ref i2) >>= _) _ _ ⟨k2, ge, dr, t1, os⟩
  refine wpAny_bind (D2.item i _ _ _ l2 (D2.over (D2.over (D2.over st2 sk0 S.zf2) sk1 S.sep1_2) sk2 S.Tf2) fun x2 k3 t2 px2 n2' sk3 => wpAny_pure ?_)
  replace sk3 : Heap.SameBut i2 k2 k3 := sk3
  have u2 : IsTupOf2 k3 TO x1 c2 := sk3.extBut _ _ S.Ti2 v2
  refine wpAny_bind (wpAny_seqItems (s := ⟨k3, ge, dr, t2, os⟩) u2 rfl ?_)
  refine wpAny_bind (updateSeq_IsTupOf2 (s := ⟨k3, ge, dr, t2, os⟩) u2 fun k4 v4 sk4 => ?_)
  replace v4 : IsTupOf2 k4 TO x1 x2 := v4
  replace sk4 : Heap.SameBut TO k3 k4 := sk4
  refine wpAny_bind (wpAny_letGo (wpAny_pure (wpAny_pure ?_)))
  refine wpAny_bind (wpAny_seqItems (s := ⟨k4, ge, dr, t2, os⟩) v4 rfl ?_)
  refine wpAny_bind (wpAny_newTuple ?_)
  have esz : k4.objs.size = hp.objs.size := by rw [sk4.1, sk3.1, sk2.1, sk1.1, sk0.1]
  have zk4 := sk4.extBut _ _ S.TOz.symm (sk3.extBut _ _ S.zi2 (sk2.extBut _ _ S.TOz.symm (sk1.extBut _ _ S.zi1 zk0)))
  have kk : ∀ c o, c ≠ z → c ≠ TO → c ≠ i1 → c ≠ i2 → hp.get? c = some o → k4.get? c = some o := fun c o d1 d2 d3 d4 e =>
    sk4.extBut _ _ d2 (sk3.extBut _ _ d4 (sk2.extBut _ _ d2 (sk1.extBut _ _ d3 (sk0.extBut _ _ d1 e))))
  have j1 : St1 (i + 1) k4 := D1.over (D1.over (D1.over n1' sk2 S.Tf1) sk3 S.sep2_1) sk4 S.Tf1
  have j2 : St2 (i + 1) k4 := D2.over n2' sk4 S.Tf2
  have zlt : z < k4.objs.size := Heap.lt_size zk4
  show wpAny _ _ (Builtin.SmallTypes.ownedTupleHandOut (.ref z) (.ref k4.objs.size) >>= _) _ _ ⟨k4.push { cls := .type "tuple", data := .seq #[x1, x2] }, ge, dr, t2, os⟩
  refine wpAny_bind ?_
  unfold Builtin.SmallTypes.ownedTupleHandOut
  refine wpAny_bind (wpAny_setField_rec (Heap.get?_push_of_some _ zk4) (by simp) fun k5 zk5 sk5 => ?_)
  replace sk5 : Heap.SameBut z (k4.push { cls := .type "tuple", data := .seq #[x1, x2] }) k5 := sk5
  refine wpAny_setField_rec (s := ⟨k5, ge, dr, t2, os⟩) zk5 (by simp) fun k6 zk6 sk6 => ?_
  replace zk6 : IsZip k6 z TI TO (rawInt k4.objs.size) := zk6
  replace sk6 : Heap.SameBut z k5 k6 := sk6
  have up : ∀ c o, c ≠ z → k4.get? c = some o → k6.get? c = some o := fun c o d e => sk6.extBut _ _ d (sk5.extBut _ _ d (Heap.get?_push_of_some _ e))
  have nt : IsTupOf2 k6 k4.objs.size x1 x2 := sk6.extBut _ _ (Nat.ne_of_gt zlt) (sk5.extBut _ _ (Nat.ne_of_gt zlt) (Heap.get?_push_size _ rfl))
  have sz6 : k6.objs.size = k4.objs.size + 1 := by rw [sk6.1, sk5.1, Heap.size_push]
  rw [esz] at zk6 nt sz6
  refine wpAny_pure ⟨_, rfl, ?_⟩
  show Q (.ref k4.objs.size) ⟨k6, ge, dr, t2, os⟩
  rw [esz]
  exact q x1 x2 k6 t2 px1 px2 zk6 (up _ _ S.TOz v4) (D1.frame _ _ _ j1 fun b hb o e => up b o (fun y => S.zf1 (y ▸ hb)) e) (D2.frame _ _ _ j2 fun b hb o e => up b o (fun y => S.zf2 (y ▸ hb)) e) nt sz6 fun c o d1 d2 d3 d4 e => up c o d1 (kk c o d1 d2 d3 d4 e)
theorem goneEnd {Q : Fin → Shared → Prop} (S : ZipSep2 z TI TO i1 i2 fp1 fp2) (D1 : Draws prog w A i1 fp1 n1 P1 St1) (D2 : Draws prog w A i2 fp2 n2 P2 St2)
    (hz : IsZipHeld s.heap z TI TO T f) (hT : s.heap.get? T = none) (hTI : IsTupOf2 s.heap TI (.ref i1) (.ref i2)) (hTO : IsTupOf2 s.heap TO c1 c2) (st1 : St1 i s.heap) (st2 : St2 i s.heap) (l1 : i ≤ n1) (l2 : i ≤ n2) (last : i = n1 ∨ i = n2)
    (q : ∀ h' tk e, (∀ c o, c ≠ z → c ≠ TO → c ≠ i1 → c ≠ i2 → s.heap.get? c = some o → h'.get? c = some o) → (∃ o, h'.get? e = some o ∧ o.cls = .type "StopIteration") → E (.ref e) { s with heap := h', toks := tk }) :
    wpAny (model prog w) A (Builtin.«zip.__next__» ⟨[.ref z], []⟩) Q E s := by
  obtain ⟨hp, ge, dr, tk0, os⟩ := s
  show wpAny _ _ (field (.ref z) 2 >>= _) _ _ _
  refine wpAny_bind (wpAny_field hz rfl (x := .bool false) rfl ?_)
  show wpAny _ _ (field (.ref z) 3 >>= _) _ _ _
  refine wpAny_bind (wpAny_field hz rfl (x := .ref TI) rfl ?_)
  refine wpAny_bind (wpAny_seqItems hTI rfl ?_)
  show wpAny _ _ (Builtin.SmallTypes.ownedTupleIsFree (.ref z) >>= _) _ _ _
  refine wpAny_bind (free_gone hz hT ?_)
  simp only [if_true]
  refine wpAny_bind (wpAny_rule ?_)
  refine wpAny_bind (wpAny_field hz rfl (x := .ref TO) rfl ?_)
  refine wpAny_bind (wpAny_setField_rec hz (by simp) fun k0 zk0 sk0 => ?_)
  replace zk0 : k0.get? z = some { cls := .type "zip", dict := none, data := .fields #[.ellipsis, .bool f, .bool false, .ref TI, .ref TO], slots := #[] } := zk0
  replace sk0 : Heap.SameBut z hp k0 := sk0
  refine wpAny_bind ?_
  simp only [List.zipIdx_cons, List.zipIdx_nil, List.forIn_cons, List.forIn_nil]
  refine wpAny_bind (wpAny_bind (wpAny_onRaise ?_))
  show wpAny _ _ (Builtin.SmallTypes.nextOf (.ref i1) >>= _) _ _ ⟨k0, ge, dr, tk0, os⟩
  have fin : ∀ (k : Heap) (tk : Nat) (e : Addr), k.get? z = some { cls := .type "zip", dict := none, data := .fields #[.ellipsis, .bool f, .bool false, .ref TI, .ref TO], slots := #[] } → (∃ o, k.get? e = some o ∧ o.cls = .type "StopIteration") → (∀ c o, c ≠ z → c ≠ TO → c ≠ i1 → c ≠ i2 → hp.get? c = some o → k.get? c = some o) →
      wpAny (model prog w) A (setField (.ref z) 0 .none) (fun _ s' => E (.ref e) s') E ⟨k, ge, dr, tk, os⟩ := fun k tk e zk ⟨oe, eo, ec⟩ kk => by
    have ne : e ≠ z := fun y => by
      rw [y, zk] at eo
      cases eo
      exact absurd (show Value.type "zip" = Value.type "StopIteration" from ec) (by decide)
    refine wpAny_setField_rec (s := ⟨k, ge, dr, tk, os⟩) zk (by simp) fun k' _ sk' => ?_
    replace sk' : Heap.SameBut z k k' := sk'
    exact q k' tk e (fun c o d1 d2 d3 d4 y => sk'.extBut _ _ d1 (kk c o d1 d2 d3 d4 y)) ⟨oe, sk'.extBut _ _ ne eo, ec⟩
  by_cases lt : i < n1
  · refine wpAny_bind (D1.item i _ _ _ lt (D1.over st1 sk0 S.zf1) fun x1 k1 t1 px1 n1' sk1 => wpAny_pure ?_)
    replace sk1 : Heap.SameBut i1 k0 k1 := sk1
    have u1 : IsTupOf2 k1 TO c1 c2 := sk1.extBut _ _ S.Ti1 (sk0.extBut _ _ S.TOz hTO)
    refine wpAny_bind (wpAny_seqItems (s := ⟨k1, ge, dr, t1, os⟩) u1 rfl ?_)
    refine wpAny_bind (updateSeq_IsTupOf2 (s := ⟨k1, ge, dr, t1, os⟩) u1 fun k2 v2 sk2 => ?_)
    replace sk2 : Heap.SameBut TO k1 k2 := sk2
    refine wpAny_bind (wpAny_letGo (wpAny_pure ?_))
    have e2 : i = n2 := by omega
    refine wpAny_bind (wpAny_bind (wpAny_onRaise ?_))
    show wpAny _ _ (Builtin.SmallTypes.nextOf (.ref i2) >>= _) _ _ ⟨k2, ge, dr, t1, os⟩
    refine wpAny_bind (D2.done ⟨k2, ge, dr, t1, os⟩ _ _ (by rw [← e2]; exact D2.over (D2.over (D2.over st2 sk0 S.zf2) sk1 S.sep1_2) sk2 S.Tf2) fun k3 e sk3 he => ?_)
    replace sk3 : Heap.ExtBut i2 k2 k3 := sk3
    exact fin k3 t1 e (sk3 _ _ S.zi2 (sk2.extBut _ _ S.TOz.symm (sk1.extBut _ _ S.zi1 zk0))) he fun c o d1 d2 d3 d4 y => sk3 _ _ d4 (sk2.extBut _ _ d2 (sk1.extBut _ _ d3 (sk0.extBut _ _ d1 y)))
  · have e1 : i = n1 := by omega
    refine wpAny_bind (D1.done ⟨k0, ge, dr, tk0, os⟩ _ _ (by rw [← e1]; exact D1.over st1 sk0 S.zf1) fun k3 e sk3 he => ?_)
    replace sk3 : Heap.ExtBut i1 k0 k3 := sk3
    exact fin k3 tk0 e (sk3 _ _ S.zi1 zk0) he fun c o d1 d2 d3 d4 y => sk3 _ _ d3 (sk0.extBut _ _ d1 y)
/-- the zip before a turn: nothing is out, or a tuple was given out, there or no more -/
def Zg (z TI TO : Addr) (h : Heap) : Prop := (∃ a b, IsTupOf2 h TO a b) ∧ (IsZip h z TI TO .none ∨ ∃ T f, IsZipHeld h z TI TO T f)
theorem gNext {Q : Option Value → Shared → Prop} (S : ZipSep2 z TI TO i1 i2 fp1 fp2) (D1 : Draws prog w A.in1 i1 fp1 n1 P1 St1) (D2 : Draws prog w A.in1 i2 fp2 n2 P2 St2)
    (hz : Zg z TI TO s.heap) (hTI : IsTupOf2 s.heap TI (.ref i1) (.ref i2)) (st1 : St1 i s.heap) (st2 : St2 i s.heap) (l1 : i < n1) (l2 : i < n2)
    (q : ∀ x1 x2 h' tk, P1 i x1 → P2 i x2 → ((∃ a b, IsTupOf2 h' TO a b) ∧ ∃ T f, IsZipHeld h' z TI TO T f ∧ (IsZip s.heap z TI TO .none → T = s.heap.objs.size ∧ f = false)) → IsTupOf2 h' TI (.ref i1) (.ref i2) → St1 (i + 1) h' → St2 (i + 1) h' → IsTupOf2 h' s.heap.objs.size x1 x2 → h'.objs.size = s.heap.objs.size + 1 →
      (∀ c o, c ≠ z → c ≠ TO → c ≠ i1 → c ≠ i2 → s.heap.get? c = some o → h'.get? c = some o) → Q (some (.ref s.heap.objs.size)) { s with heap := h', toks := tk }) :
    wpAny (model prog w) A (pyNext (.ref z)) Q E s := by
  obtain ⟨⟨a, b, hTO⟩, hz⟩ := hz
  rcases hz with hz | ⟨T, f, hz⟩
  · refine wpAny_pyNext_zipD2_item S D1 D2 hz hTI hTO st1 st2 l1 l2 fun x1 x2 h' tk p1 p2 z' t' u1 u2 nt sz kp => ?_
    exact q x1 x2 h' tk p1 p2 ⟨⟨_, _, t'⟩, s.heap.objs.size, false, z', fun _ => ⟨rfl, rfl⟩⟩ (kp _ _ S.TIz S.TITO S.TIi1 S.TIi2 hTI) u1 u2 nt sz kp
  · have no : ¬ IsZip s.heap z TI TO .none := fun e => by
      have e := e.symm.trans hz
      injection e with e
      injection e with _ _ e _
      injection e with e
      have q0 := congrArg (fun (t : Array Value) => t[0]?) e
      have q1 : some Value.none = some (rawInt (T : Int)) := q0
      injection q1 with q1
      cases q1
    have ty : s.TypeIs (.ref z) "zip" := ⟨_, hz, rfl⟩
    unfold pyNext
    cases hT : s.heap.get? T with
    | none =>
      refine wpAny_bind (wpAny_attempt (wpAny_callSpecial?_slot (name := Str.ofString "__next__") ty F.slot_zip_next (wpAny_call_entry F.slot_zip_next ty F.entry_zip_next
        (goneItem S D1 D2 hz hT hTI hTO st1 st2 l1 l2 fun x1 x2 h' tk p1 p2 z' t' u1 u2 nt sz kp => wpAny_pure ?_) (F.args_zip_next_1 _))))
      exact q x1 x2 h' tk p1 p2 ⟨⟨_, _, t'⟩, s.heap.objs.size, false, z', fun e => absurd e no⟩ (kp _ _ S.TIz S.TITO S.TIi1 S.TIi2 hTI) u1 u2 nt sz kp
    | some oT =>
      refine wpAny_bind (wpAny_attempt (wpAny_callSpecial?_slot (name := Str.ofString "__next__") ty F.slot_zip_next (wpAny_call_entry F.slot_zip_next ty F.entry_zip_next
        (outItem S D1 D2 hz hT hTI st1 st2 l1 l2 fun x1 x2 h' tk p1 p2 z' t1 t2 nw sz kp => wpAny_pure ?_) (F.args_zip_next_1 _))))
      exact q x1 x2 h' tk p1 p2 ⟨⟨a, b, kp _ _ S.TOz S.Ti1 S.Ti2 hTO⟩, T, true, z', fun e => absurd e no⟩ (kp _ _ S.TIz S.TIi1 S.TIi2 hTI) t1 t2 nw sz fun c o d1 _ d3 d4 e => kp c o d1 d3 d4 e
theorem gDone {Q : Option Value → Shared → Prop} (S : ZipSep2 z TI TO i1 i2 fp1 fp2) (D1 : Draws prog w A.in1 i1 fp1 n1 P1 St1) (D2 : Draws prog w A.in1 i2 fp2 n2 P2 St2)
    (hz : Zg z TI TO s.heap) (hTI : IsTupOf2 s.heap TI (.ref i1) (.ref i2)) (st1 : St1 i s.heap) (st2 : St2 i s.heap) (l1 : i ≤ n1) (l2 : i ≤ n2) (last : i = n1 ∨ i = n2)
    (q : ∀ h' tk, (∀ c o, c ≠ z → c ≠ TO → c ≠ i1 → c ≠ i2 → s.heap.get? c = some o → h'.get? c = some o) → Q none { s with heap := h', toks := tk }) :
    wpAny (model prog w) A (pyNext (.ref z)) Q E s := by
  obtain ⟨⟨a, b, hTO⟩, hz⟩ := hz
  rcases hz with hz | ⟨T, f, hz⟩
  · exact wpAny_pyNext_zipD2_end S D1 D2 hz hTI hTO st1 st2 l1 l2 last q
  · have ty : s.TypeIs (.ref z) "zip" := ⟨_, hz, rfl⟩
    unfold pyNext
    have fin : ∀ (h' : Heap) (tk : Nat) (e : Addr), (∀ c o, c ≠ z → c ≠ TO → c ≠ i1 → c ≠ i2 → s.heap.get? c = some o → h'.get? c = some o) → (∃ o, h'.get? e = some o ∧ o.cls = .type "StopIteration") → wpAny (model prog w) A (isInstance (.ref e) (.type "StopIteration")) (fun b s' => wpAny (model prog w) A (if b = true then pure none else throw (.ref e)) Q E s') E { s with heap := h', toks := tk } := fun h' tk e kp ⟨o, ho, hc⟩ =>
      wpAny_isInstance (T := "StopIteration") (b := true) ⟨o, ho, hc⟩ isSubtype_stop (wpAny_pure (q _ _ kp))
    cases hT : s.heap.get? T with
    | none =>
      refine wpAny_bind (wpAny_attempt (wpAny_callSpecial?_slot (name := Str.ofString "__next__") ty F.slot_zip_next (wpAny_call_entry F.slot_zip_next ty F.entry_zip_next
        (goneEnd S D1 D2 hz hT hTI hTO st1 st2 l1 l2 last fun h' tk e kp he => ?_) (F.args_zip_next_1 _))))
      exact wpAny_bind (fin h' tk e kp he)
    | some oT =>
      refine wpAny_bind (wpAny_attempt (wpAny_callSpecial?_slot (name := Str.ofString "__next__") ty F.slot_zip_next (wpAny_call_entry F.slot_zip_next ty F.entry_zip_next
        (outEnd S D1 D2 hz hT hTI st1 st2 l1 l2 last fun h' tk e kp he => ?_) (F.args_zip_next_1 _))))
      exact wpAny_bind (fin h' tk e (fun c o d1 _ d3 d4 y => kp c o d1 d3 d4 y) he)
end
end Kz

/-! zip over tuples and texts, for a target of one name or of several -/
namespace Kz
open PySem PySem.Spec PyProof.Rows L2
/-- what a zip draws from: a tuple that stands, or a text -/
inductive Sr where
  | tup (a : Addr) (xs : List V)
  | txt (x : Str)
def Sr.vs : Sr → List V
  | .tup _ xs => xs
  | .txt x => x.cps.toList.map fun c => V.str ⟨#[c]⟩
def Sr.v : Sr → V
  | .tup a _ => .ref a
  | .txt x => .str x
def Sr.at (K : PySem.W.Frag) (H : Hp) : Sr → Prop
  | .tup a xs => SqT K H a xs
  | .txt _ => True
def Sr.cell (h : Heap) (it : Addr) (i : Nat) : Sr → Prop
  | .tup a _ => h.IsTupleIter it a i
  | .txt x => ∃ t, h.IsStrIter it (strIterType x) x t i
theorem Sr.cell_obj {h : Heap} {it : Addr} {i : Nat} : ∀ {r : Sr}, r.cell h it i → ∃ o, h.get? it = some o ∧ ∀ v, o.data ≠ .cell v
  | .tup _ _, ⟨o, e, _, d⟩ => ⟨o, e, fun v q => by rw [d] at q; cases q⟩
  | .txt _, ⟨_, o, e, _, d⟩ => ⟨o, e, fun v q => by rw [d] at q; cases q⟩
theorem Sr.cell_keep {h h' : Heap} {it : Addr} {i : Nat} (k : ∀ o, h.get? it = some o → h'.get? it = some o) : ∀ {r : Sr}, r.cell h it i → r.cell h' it i
  | .tup _ _, ⟨o, e, c⟩ => ⟨o, k o e, c⟩
  | .txt _, ⟨t, o, e, c⟩ => ⟨t, o, k o e, c⟩
/-- below -/
def Sr.low (B : Nat) : Sr → Prop
  | .tup a _ => @LT.lt Nat _ a B
  | .txt _ => True
theorem Sr.draws {X : Cx} {pins : List (Addr × Obj)} {σ : L2.St} {H : Hp} {s : Shared} {it : Addr} {i B : Nat} (I : Inv X pins σ H s) (hB : @LE.le Nat _ B it) : ∀ {r : Sr}, r.at X.K H → r.cell s.heap it i → r.low B →
    ∃ fp P St, (∀ A' : Around, A'.handled = none → Draws X.prog X.w A' it fp r.vs.length P St) ∧ (∀ j v, P j v → ∃ x, r.vs[j]? = some x ∧ RelV x v) ∧ St i s.heap ∧ (∀ j h, St j h → r.cell h it j) ∧ it ∈ fp ∧ ∀ b ∈ fp, b = it ∨ @LT.lt Nat _ b B
  | .tup a xs, hq, c, lo => by
    obtain ⟨its, rv, p, _⟩ := I.tuple hq
    have lo : @LT.lt Nat _ a B := lo
    have ne : a ≠ it := Nat.ne_of_lt (Nat.lt_of_lt_of_le lo hB)
    have e : its.toArray.size = xs.length := by rw [List.size_toArray]; exact rv.length.symm
    refine ⟨[it, a], fun i v => its.toArray[i]? = some v, fun i h => h.IsTupleIter it a i ∧ h.IsTuple a its.toArray, fun A' hA => ?_, fun j v z => ?_, ⟨c, p⟩, fun j h z => z.1, List.mem_cons_self, fun b hb => ?_⟩
    · have D := Draws.tuple (prog := X.prog) (w := X.w) hA it a ne its.toArray
      rw [e] at D
      exact D
    · exact vback rv (by simpa using z)
    · rcases List.mem_cons.mp hb with rfl | hb
      · exact .inl rfl
      · rw [List.mem_singleton.mp hb]
        exact .inr lo
  | .txt x, _, ⟨t, c⟩, _ => by
    have e : x.cps.size = (Sr.txt x).vs.length := by
      show _ = (x.cps.toList.map _).length
      rw [List.length_map, Array.length_toList]
    refine ⟨[it], fun i v => ∃ c u, x.cps[i]? = some c ∧ v = .str ⟨#[c]⟩ u, fun i h => h.IsStrIter it (strIterType x) x t i, fun A' hA => ?_, fun j v z => ?_, c, fun j h z => ⟨t, z⟩, List.mem_cons_self, fun b hb => .inl (List.mem_singleton.mp hb)⟩
    · have D := Draws.text (prog := X.prog) (w := X.w) hA it x t
      rw [e] at D
      exact D
    · obtain ⟨cc, u, h1, rfl⟩ := z
      refine ⟨.str ⟨#[cc]⟩, ?_, u, rfl⟩
      show (x.cps.toList.map fun c => V.str ⟨#[c]⟩)[j]? = _
      rw [List.getElem?_map, Array.getElem?_toList, h1]
      rfl
theorem sepG (B : Nat) (fp1 fp2 : List Addr) (m1 : B ∈ fp1) (a1 : ∀ b ∈ fp1, b = B ∨ @LT.lt Nat _ b B) (m2 : B + 1 ∈ fp2) (a2 : ∀ b ∈ fp2, b = B + 1 ∨ @LT.lt Nat _ b B) : ZipSep2 (B + 4) (B + 2) (B + 3) B (B + 1) fp1 fp2 := by
  have n1 : ∀ k : Nat, k ≠ 0 → (B + k) ∉ fp1 := fun k hk h => by
    rcases a1 _ h with z | z
    · have z : B + k = B := z
      omega
    · omega
  have n2 : ∀ k : Nat, k ≠ 1 → (B + k) ∉ fp2 := fun k hk h => by
    rcases a2 _ h with z | z
    · have z : B + k = B + 1 := z
      omega
    · omega
  exact ⟨neN _ _ (by omega), neN _ _ (by omega), neN _ _ (by omega), neN _ _ (by omega), m1, n1 4 (by omega), n1 3 (by omega), neN _ _ (by omega), m2, n2 4 (by omega), n2 3 (by omega), n2 0 (by omega), n1 1 (by omega)⟩
/-- the pairs, new ones -/
def Jg (K : PySem.W.Frag) (p q : Sr) : It :=
  ⟨fun i H => p.at K H ∧ q.at K H ∧ i < p.vs.length ∧ i < q.vs.length,
    fun i H v H' => ∃ T x y, v = .ref T ∧ H T = none ∧ H' = upd H T (.tup [x, y]) ∧ p.vs[i]? = some x ∧ q.vs[i]? = some y,
    fun i H => p.at K H ∧ q.at K H ∧ i ≤ p.vs.length ∧ i ≤ q.vs.length ∧ (i = p.vs.length ∨ i = q.vs.length)⟩
theorem turn_zipG {P : Program} {w : World} {K : PySem.W.Frag} {tg : Expr} {p q : Sr} {B : Nat} {Z : Heap → Prop} (lp : p.low B) (lq : q.low B) (hZ : ∀ h, Z h → Zg (B + 4) (B + 2) (B + 3) h) (kZ : ∀ h h', Z h → (∀ o, h.get? (B + 4) = some o → h'.get? (B + 4) = some o) → (∀ o, h.get? (B + 3) = some o → h'.get? (B + 3) = some o) → Z h')
    (go : ∀ (A : Around) (E : Value → Shared → Prop) (s : Shared) (h0 : Heap) (T T' : Addr) (f : Bool) (Q : Unit → Shared → Prop), Z h0 → (IsZip h0 (B + 4) (B + 2) (B + 3) .none → T = T' ∧ f = false) → (∃ a b, IsTupOf2 s.heap (B + 3) a b) → IsZipHeld s.heap (B + 4) (B + 2) (B + 3) T f →
      (∀ h', Z h' → Heap.SameBut (B + 4) s.heap h' → Q () { s with heap := h' }) → wpAny (model P w) A (letOwnedTupleGo tg (.ref (B + 4)) (.ref T')) Q E s) :
    Turn P w K tg (Jg K p q) [B + 4, B + 2, B + 3, B, B + 1] (B + 4) (fun i h => Z h ∧ IsTupOf2 h (B + 2) (.ref B) (.ref (B + 1)) ∧ p.cell h B i ∧ q.cell h (B + 1) i) where
  mem := by simp
  obj := fun i h st c hc => by
    obtain ⟨zz, hTI, h1, h2⟩ := st
    obtain ⟨⟨a, b, hTO⟩, hz⟩ := hZ h zz
    have e' : c = B + 4 ∨ c = B + 2 ∨ c = B + 3 ∨ c = B ∨ c = B + 1 := by simpa using hc
    rcases e' with y | y | y | y | y
    · rw [y]
      rcases hz with hz | ⟨T, f, hz⟩
      · exact ⟨_, hz, fun v q => nomatch q⟩
      · exact ⟨_, hz, fun v q => nomatch q⟩
    · rw [y]; exact ⟨_, hTI, fun v q => nomatch q⟩
    · rw [y]; exact ⟨_, hTO, fun v q => nomatch q⟩
    · rw [y]; exact Sr.cell_obj (r := p) h1
    · rw [y]; exact Sr.cell_obj (r := q) h2
  keep := fun i h h' st k => by
    obtain ⟨zz, hTI, h1, h2⟩ := st
    exact ⟨kZ h h' zz (k _ (by simp)) (k _ (by simp)), k (B + 2) (by simp) _ hTI, Sr.cell_keep (r := p) (k B (by simp)) h1, Sr.cell_keep (r := q) (k (B + 1) (by simp)) h2⟩
  item := by
    intro X hP hw hK hc i pins s σ H E I hf st hg
    subst hP hw hK
    obtain ⟨zz, hTI, h1, h2⟩ := st
    obtain ⟨hp, hq, lt1, lt2⟩ := hg
    obtain ⟨fp1, P1, St1, D1, r1, s1, b1, m1, f1⟩ := Sr.draws I (Nat.le_refl B) hp h1 lp
    obtain ⟨fp2, P2, St2, D2, r2, s2, b2, m2, f2⟩ := Sr.draws I (show B ≤ B + 1 from Nat.le_succ B) hq h2 lq
    have S := sepG B fp1 fp2 m1 f1 m2 f2
    have hh : X.A.handled = none := I.ok.hd hc
    have hzl : ∃ o, s.heap.get? (B + 4) = some o := by
      rcases (hZ _ zz).2 with z | ⟨_, _, z⟩
      · exact ⟨_, z⟩
      · exact ⟨_, z⟩
    obtain ⟨oz, ez⟩ := hzl
    have hzl : B + 4 < s.heap.objs.size := Heap.lt_size ez
    refine gNext S (D1 _ hh) (D2 _ hh) (hZ _ zz) hTI s1 s2 lt1 lt2 fun x1 x2 h' tk p1 p2 ⟨nTO, T, f, nz, cond⟩ nTI u1 u2 nt sz kp => ?_
    obtain ⟨x, hx, rx⟩ := r1 _ _ p1
    obtain ⟨y, hy, ry⟩ := r2 _ _ p2
    refine ⟨_, rfl, go X.A E { s with heap := h', toks := tk } s.heap T s.heap.objs.size f _ zz cond nTO nz fun h'' z'' sb => ?_⟩
    replace sb : Heap.SameBut (B + 4) h' h'' := sb
    have nt2 : h''.get? s.heap.objs.size = some { cls := .type "tuple", data := .seq #[x1, x2] } := (sb.2 _ (Nat.ne_of_gt hzl)).trans nt
    have new : ObjOk X.prog X.w (upd H s.heap.objs.size (.tup [x, y])) h'' s.heap.objs.size (.tup [x, y]) :=
      ⟨by show 2 ≤ sizeLine; decide, [x1, x2], .cons rx (.cons ry .nil), ⟨_, nt2, rfl, _, rfl⟩⟩
    have I1 : Inv X pins σ (upd H s.heap.objs.size (.tup [x, y])) { s with heap := h'', toks := tk } :=
      I.turnedNew (ch := [B + 4, B + 2, B + 3, B, B + 1]) (fun c o hb e => (sb.2 c (fun q' => hb (by simp [q']))).trans (kp c o (fun q' => hb (by simp [q'])) (fun q' => hb (by simp [q'])) (fun q' => hb (by simp [q'])) (fun q' => hb (by simp [q'])) e)) hf (Nat.le_refl _) new
    have kc : ∀ c, c ≠ B + 4 → ∀ o, h'.get? c = some o → h''.get? c = some o := fun c hc o e => (sb.2 c hc).trans e
    refine ⟨.ref s.heap.objs.size, _, I1, rfl, ⟨_, x, y, rfl, I.hok.fresh (Nat.le_refl _), rfl, hx, hy⟩, ⟨z'', kc _ (neN _ _ (by omega)) _ nTI, Sr.cell_keep (r := p) (kc _ (neN _ _ (by omega))) (b1 _ _ u1), Sr.cell_keep (r := q) (kc _ (neN _ _ (by omega))) (b2 _ _ u2)⟩, fun c hcm => ?_⟩
    have hlt : c < s.heap.objs.size := by
      have e' : c = B + 4 ∨ c = B + 2 ∨ c = B + 3 ∨ c = B ∨ c = B + 1 := by simpa using hcm
      rcases e' with y | y | y | y | y
      · rw [y]; exact hzl
      · rw [y]; exact Nat.lt_trans (by omega) hzl
      · rw [y]; exact Nat.lt_trans (by omega) hzl
      · rw [y]; exact Nat.lt_trans (by omega) hzl
      · rw [y]; exact Nat.lt_trans (by omega) hzl
    rw [upd_ne (Nat.ne_of_lt hlt)]
    exact (hf c hcm).1
  done := by
    intro X hP hw hK hc i pins s σ H E I hf st hg
    subst hP hw hK
    obtain ⟨zz, hTI, h1, h2⟩ := st
    obtain ⟨hp, hq, le1, le2, last⟩ := hg
    obtain ⟨fp1, P1, St1, D1, r1, s1, b1, m1, f1⟩ := Sr.draws I (Nat.le_refl B) hp h1 lp
    obtain ⟨fp2, P2, St2, D2, r2, s2, b2, m2, f2⟩ := Sr.draws I (show B ≤ B + 1 from Nat.le_succ B) hq h2 lq
    have S := sepG B fp1 fp2 m1 f1 m2 f2
    have hh : X.A.handled = none := I.ok.hd hc
    exact gDone S (D1 _ hh) (D2 _ hh) (hZ _ zz) hTI s1 s2 le1 le2 last fun h' tk kp => ⟨rfl, I.turnedL (ch := [B + 4, B + 2, B + 3, B, B + 1]) (fun c o hb e =>
      kp c o (fun q' => hb (by simp [q'])) (fun q' => hb (by simp [q'])) (fun q' => hb (by simp [q'])) (fun q' => hb (by simp [q'])) e) hf⟩
  self := fun A i s Q E st h => by
    rcases (hZ _ st.1).2 with z | ⟨_, _, z⟩
    · exact wpAny_pyIter_zip z h
    · exact iter_held z h
where
  iter_held {A : Around} {s : Shared} {z TI TO T : Addr} {f : Bool} {Q : Value → Shared → Prop} {E : Value → Shared → Prop} (hz : IsZipHeld s.heap z TI TO T f) (h : Q (.ref z) s) : wpAny (model P w) A (pyIter (.ref z)) Q E s := by
    have ty : s.TypeIs (.ref z) "zip" := ⟨_, hz, rfl⟩
    refine wpAny_pyIter_slot ty F.slot_zip_iter (wpAny_call_entry F.slot_zip_iter ty F.entry_zip_iter ?_ (F.args_zip_iter_1 _))
    show wpAny _ _ (ret (.ref z)) _ _ s
    exact wpAny_pure ⟨_, rfl, "zip", _, ty, F.slot_zip_next.lookup, h⟩
end Kz

/-! zip(a, b) over tuples and texts, as what a loop or a comprehension goes through -/
namespace Kz
open PySem PySem.Spec PyProof.Rows L2
theorem Sr.begins {X : Cx} {pins : List (Addr × Obj)} {σ : L2.St} {H : Hp} {s : Shared} {u : Value} (I : Inv X pins σ H s) : ∀ {r : Sr}, r.at X.K H → RelV r.v u → ∃ o Hh, Begins u o Hh ∧ Hh s.heap ∧ (∀ (h : Heap) (it : Addr), h.get? it = some o → r.cell h it 0) ∧ r.low s.heap.objs.size
  | .tup a xs, hq, rv => by
    obtain ⟨its, _, p, _⟩ := I.tuple hq
    have e : u = Value.ref a := rv
    subst e
    obtain ⟨o, ho, _⟩ := id p
    exact ⟨_, _, begins_tuple a its.toArray, p, fun h it e => ⟨_, e, rfl, rfl⟩, Heap.lt_size ho⟩
  | .txt x, _, rv => by
    obtain ⟨t, rfl⟩ := (show ∃ t, u = .str x t from rv)
    exact ⟨_, _, begins_text x t, trivial, fun h it e => ⟨t, _, e, rfl, rfl⟩, trivial⟩
def iZipG (K : PySem.W.Frag) (ta : TA) : TI := fun σ H R => ta σ H fun vs H1 => ∃ p q : Sr, vs = [p.v, q.v] ∧ p.at K H1 ∧ q.at K H1 ∧ R (Jg K p q) H1
section
variable {X : Cx} {e e2 : Expr} {ta : TA} {p pos tpos : Pos} {tg : Expr}
theorem pi_zip_of {Z : Nat → Heap → Prop} (hg : Gl X "zip") (hm : X.mg "zip" = none) (ha : PA X [e, e2] ta)
    (hZ : ∀ B h, Z B h → Zg (B + 4) (B + 2) (B + 3) h) (kZ : ∀ B h h', Z B h → (∀ o, h.get? (B + 4) = some o → h'.get? (B + 4) = some o) → (∀ o, h.get? (B + 3) = some o → h'.get? (B + 3) = some o) → Z B h')
    (bZ : ∀ B h, (∃ a b, IsTupOf2 h (B + 3) a b) → IsZip h (B + 4) (B + 2) (B + 3) .none → Z B h)
    (go : ∀ (B : Nat) (A : Around) (E : Value → Shared → Prop) (s : Shared) (h0 : Heap) (T T' : Addr) (f : Bool) (Q : Unit → Shared → Prop), Z B h0 → (IsZip h0 (B + 4) (B + 2) (B + 3) .none → T = T' ∧ f = false) → (∃ a b, IsTupOf2 s.heap (B + 3) a b) → IsZipHeld s.heap (B + 4) (B + 2) (B + 3) T f →
      (∀ h', Z B h' → Heap.SameBut (B + 4) s.heap h' → Q () { s with heap := h' }) → wpAny (model X.prog X.w) A (letOwnedTupleGo tg (.ref (B + 4)) (.ref T')) Q E s)
    (hs : starEach [e, e2] X.env = (false, eval e X.env) :: starEach [e2] X.env := by rfl) (hpl : (backTo pos (starEach [e2] X.env)).any (·.1) = false := by rfl) :
    PI X tg (.Call (.Name "zip" p) [e, e2] [] pos) (iZipG X.K ta) := by
  refine ⟨fun pins s σ H R I h => ?_⟩
  refine Call_ (ld_blt I hg hm PyProof.Rows.boot_zip (PyProof.Rows.callWith_type1 (thn (ha.run pos pins s σ H _ I h) fun us s1 ⟨vs, H1, I1, r1, a, b, ev, qa, qb, q⟩ => ?_) hs hpl))
  subst ev
  cases r1 with
  | cons ra rr =>
    cases rr with
    | cons rb rr =>
      cases rr
      rename_i u1 u2
      obtain ⟨o1, H1', B1, h1, c1, l1⟩ := Sr.begins I1 qa ra
      obtain ⟨o2, H2', B2, h2, c2, l2⟩ := Sr.begins I1 qb rb
      refine zip_begins2 B1 B2 h1 h2 fun h' hz hTI hTO e1 e2 sz kp => wpAny_pyIter_zip hz ?_
      have I2 : Inv X pins σ H1 { s1 with heap := h' } := I1.kept (t' := s1.toks) kp
      refine ⟨s1.heap.objs.size + 4, [s1.heap.objs.size + 4, s1.heap.objs.size + 2, s1.heap.objs.size + 3, s1.heap.objs.size, s1.heap.objs.size + 1], _, _, H1, rfl, I2, turn_zipG (Z := Z s1.heap.objs.size) l1 l2 (hZ _) (kZ _) (go _), ⟨bZ _ _ ⟨_, _, hTO⟩ hz, hTI, c1 _ _ e1, c2 _ _ e2⟩, fun c hc => ?_, q⟩
      have e' : c = s1.heap.objs.size + 4 ∨ c = s1.heap.objs.size + 2 ∨ c = s1.heap.objs.size + 3 ∨ c = s1.heap.objs.size ∨ c = s1.heap.objs.size + 1 := by simpa using hc
      have hle : s1.heap.objs.size ≤ c := (inN _ _ e').1
      exact I1.fpOk hle (I1.hok.fresh hle)
/-- for x in zip(a, b) -/
theorem pi_zipN {nm : Str} (hg : Gl X "zip") (hm : X.mg "zip" = none) (ha : PA X [e, e2] ta)
    (hs : starEach [e, e2] X.env = (false, eval e X.env) :: starEach [e2] X.env := by rfl) (hpl : (backTo pos (starEach [e2] X.env)).any (·.1) = false := by rfl) :
    PI X (.Name nm tpos) (.Call (.Name "zip" p) [e, e2] [] pos) (iZipG X.K ta) := by
  refine pi_zip_of (Z := fun B h => Zg (B + 4) (B + 2) (B + 3) h) hg hm ha (fun _ _ z => z) (fun B h h' z k4 k3 => ?_) (fun B h a z => ⟨a, .inl z⟩) (fun B A E s h0 T T' f Q _ _ nTO nz q => ?_) hs hpl
  · obtain ⟨⟨a, b, hTO⟩, hz⟩ := z
    refine ⟨⟨a, b, k3 _ hTO⟩, ?_⟩
    rcases hz with hz | ⟨T, f, hz⟩
    · exact .inl (k4 _ hz)
    · exact .inr ⟨T, f, k4 _ hz⟩
  · exact wpAny_of_eq (show letOwnedTupleGo (.Name nm tpos) (.ref (B + 4)) (.ref T') = pure () from rfl) (q s.heap ⟨nTO, .inr ⟨T, f, nz⟩⟩ (Heap.SameBut.refl _ _))
/-- for x, y in zip(a, b) -/
theorem pi_zipM {elts : List Expr} {kk : Nat} (hg : Gl X "zip") (hm : X.mg "zip" = none) (ha : PA X [e, e2] ta)
    (hs : starEach [e, e2] X.env = (false, eval e X.env) :: starEach [e2] X.env := by rfl) (hpl : (backTo pos (starEach [e2] X.env)).any (·.1) = false := by rfl) :
    PI X (.Tuple elts kk tpos) (.Call (.Name "zip" p) [e, e2] [] pos) (iZipG X.K ta) := by
  refine pi_zip_of (Z := fun B h => (∃ a b, IsTupOf2 h (B + 3) a b) ∧ IsZip h (B + 4) (B + 2) (B + 3) .none) hg hm ha (fun _ _ z => ⟨z.1, .inl z.2⟩) (fun B h h' z k4 k3 => ?_) (fun B h a z => ⟨a, z⟩) (fun B A E s h0 T T' f Q hz0 cond nTO nz q => ?_) hs hpl
  · obtain ⟨⟨a, b, hTO⟩, hz⟩ := z
    exact ⟨⟨a, b, k3 _ hTO⟩, k4 _ hz⟩
  · obtain ⟨rfl, rfl⟩ := cond hz0.2
    refine wpAny_letOwnedTupleGo_zip (s := s) nz fun h' z' sb => q h' ⟨?_, z'⟩ sb
    obtain ⟨a, b, t⟩ := nTO
    exact ⟨a, b, sb.extBut _ _ (neN _ _ (by omega)) t⟩
/-- the same, the written part named -/
theorem pi_zipNK {nm : Str} (K : PySem.W.Frag) (hK : X.K = K) (hg : Gl X "zip") (hm : X.mg "zip" = none) (ha : PA X [e, e2] ta)
    (hs : starEach [e, e2] X.env = (false, eval e X.env) :: starEach [e2] X.env := by rfl) (hpl : (backTo pos (starEach [e2] X.env)).any (·.1) = false := by rfl) :
    PI X (.Name nm tpos) (.Call (.Name "zip" p) [e, e2] [] pos) (iZipG K ta) := by
  subst hK
  exact pi_zipN hg hm ha hs hpl
theorem pi_zipMK {elts : List Expr} {kk : Nat} (K : PySem.W.Frag) (hK : X.K = K) (hg : Gl X "zip") (hm : X.mg "zip" = none) (ha : PA X [e, e2] ta)
    (hs : starEach [e, e2] X.env = (false, eval e X.env) :: starEach [e2] X.env := by rfl) (hpl : (backTo pos (starEach [e2] X.env)).any (·.1) = false := by rfl) :
    PI X (.Tuple elts kk tpos) (.Call (.Name "zip" p) [e, e2] [] pos) (iZipG K ta) := by
  subst hK
  exact pi_zipM hg hm ha hs hpl
end
/-! loops -/
section
variable {K : PySem.W.Frag} {p q : Sr}
theorem for_zipG {g : TG} {tb : TS} {D : Ends} {σ : L2.St} {H : Hp} (Pv : Nat → L2.St → Hp → Prop) (hl : p.vs.length = q.vs.length) (h0 : Pv 0 σ H) (hq : ∀ i σ H, Pv i σ H → p.at K H ∧ q.at K H)
    (hs : ∀ (i : Nat) (x y : V) (T : Addr) (σ : L2.St) (H : Hp), p.vs[i]? = some x → q.vs[i]? = some y → Pv i σ H → H T = none → g (.ref T) σ (upd H T (.tup [x, y])) fun σ2 H2 => tb { D with nx := Pv (i + 1), ct := Pv (i + 1), bk := D.nx } σ2 H2) (hd : ∀ σ H, Pv p.vs.length σ H → D.nx σ H) :
    ∃ W : Nat → Nat → L2.St → Hp → Prop, (∃ m, W 0 m σ H) ∧ ∀ i m σ H, W i m σ H →
      ((Jg K p q).stop i H ∧ D.nx σ H) ∨ ((Jg K p q).go i H ∧ ∃ N : L2.St → Hp → Prop, (∀ σ' H', N σ' H' → ∃ m', m' < m ∧ W (i + 1) m' σ' H') ∧ ∀ v H', (Jg K p q).yld i H v H' → g v σ H' fun σ2 H2 => tb { D with nx := N, ct := N, bk := D.nx } σ2 H2) := by
  refine ⟨fun i m σ H => m = p.vs.length - i ∧ i ≤ p.vs.length ∧ Pv i σ H, ⟨_, rfl, Nat.zero_le _, h0⟩, fun i m σ H z => ?_⟩
  obtain ⟨rfl, hi, pv⟩ := z
  obtain ⟨q1, q2⟩ := hq i σ H pv
  by_cases lt : i < p.vs.length
  · refine .inr ⟨⟨q1, q2, lt, by omega⟩, Pv (i + 1), fun σ' H' p' => ⟨p.vs.length - (i + 1), by omega, rfl, lt, p'⟩, fun v H' y => ?_⟩
    obtain ⟨T, x, y, rfl, hT, rfl, e1, e2⟩ := y
    exact hs i x y T σ H e1 e2 pv hT
  · have e : i = p.vs.length := by omega
    subst e
    exact .inl ⟨⟨q1, q2, Nat.le_refl _, by omega, .inl rfl⟩, hd σ H pv⟩
end
end Kz

/-! tuple * number, none and one too -/
namespace Kz
open PySem PySem.Spec PyProof.Rows L2
theorem mul_one_same (l : Addr) (items : Array Value) (n : Nat) (dd : Option Addr) (sl : Array (Option Value)) (u : Tok) :
    Meets (Builtin.«tuple.__mul__» ⟨[.ref l, .int 1 u], []⟩) (fun _ R s => s.heap.get? l = some { cls := .type "tuple", dict := dd, data := .seq items n, slots := sl } ∧ R (.ok (.ret (Value.ref l))) s) :=
  .of_wp fun prog w A R s h => by
    obtain ⟨hp, g, d, tk, os⟩ := s
    obtain ⟨hl, h⟩ := h
    have f1 := AutoSeq1.idx_int
    have hT : Shared.TypeIs ⟨hp, g, d, tk, os⟩ (.ref l) "tuple" := ⟨_, hl, rfl⟩
    wp_walk using wpAny_loadPart' hl, wpAny_typeOf hT
    repeat (first
      | (refine wpAny_ite_false (by decide) ?_; wp_walk using wpAny_loadPart' hl, wpAny_typeOf hT)
      | (refine wpAny_ite_true (by simp) ?_; wp_walk using wpAny_loadPart' hl, wpAny_typeOf hT))
    all_goals first | exact ⟨_, rfl, h⟩ | skip
theorem mul_none (l : Addr) (items : Array Value) (n : Nat) (dd : Option Addr) (sl : Array (Option Value)) (u : Tok) (ne : items.isEmpty = false) :
    Meets (Builtin.«tuple.__mul__» ⟨[.ref l, .int 0 u], []⟩) (fun _ R s => s.heap.get? l = some { cls := .type "tuple", dict := dd, data := .seq items n, slots := sl } ∧
      R (.ok (.ret (Value.ref s.heap.objs.size))) { s with heap := s.heap.push { cls := Value.type "tuple", data := Data.seq #[] }, toks := s.toks }) :=
  .of_wp fun prog w A R s h => by
    obtain ⟨hp, g, d, tk, os⟩ := s
    obtain ⟨hl, h⟩ := h
    have f1 := AutoSeq1.idx_int
    have c1 : (items.isEmpty || (0 : Int) == 1) = false := by rw [ne]; rfl
    wp_walk using wpAny_loadPart' hl
    repeat (first
      | (refine wpAny_ite_false (by decide) ?_; wp_walk using wpAny_loadPart' hl)
      | (refine wpAny_ite_false (decide_eq_false (by rw [c1]; exact Bool.false_ne_true)) ?_; wp_walk using wpAny_loadPart' hl)
      | (refine wpAny_ite_true (by simp) ?_; wp_walk using wpAny_loadPart' hl))
    all_goals first | exact ⟨_, rfl, h⟩ | skip
def rRepA (K : PySem.W.Frag) : R2 := fun x y H Q => ∃ l k xs, x = .ref l ∧ y = .int k ∧ SqT K H l xs ∧ xs ≠ [] ∧ 0 ≤ k ∧ k ≤ 1000 ∧ xs.length ≤ 1000 ∧ ∀ t G, Same H G → SqT K G t (List.replicate k.toNat xs).flatten → Q (.ref t) G
theorem newSm {H : Hp} {p : Addr} {o : HO} (h : H p = none) : Same H (upd H p o) := fun b u e => by
  rw [upd_ne (ne_of_none e h)]
  exact e
section
variable {X : Cx}
theorem op_repA : OpR X (binaryOp .Mult) (rRepA X.K) := by
  intro pins s σ H x y v u Q I rx ry h
  obtain ⟨l, k, xs, rfl, rfl, hT, hne, h1, h2, hz, q⟩ := h
  by_cases h3 : 2 ≤ k
  · exact op_repT pins s σ H _ _ v u Q I rx ry ⟨l, k, xs, rfl, rfl, hT, hne, h3, h2, hz, fun p hp => q p _ (newSm hp) (SqT.of upd_same)⟩
  cases rx
  obtain ⟨t, rfl⟩ := ry
  obtain ⟨its, r, ⟨⟨cls, dd, data, sl⟩, ho, hc, n, hd⟩, hs⟩ := I.tuple hT
  simp only at hc hd
  subst hc hd
  have hn : its.toArray.isEmpty = false := by
    cases its with
    | nil =>
      have := r.length
      exact absurd (List.eq_nil_of_length_eq_zero this) hne
    | cons a b => rfl
  have k01 : k = 0 ∨ k = 1 := by omega
  rcases k01 with rfl | rfl
  · refine wpAny_binaryOp_repeat_ref (T := "tuple") (U := "int") (by decide) ⟨_, ho, rfl⟩ (fun s' => typeIs_int s' 0 t) noFill_tuple_mul F.fills_int_mul F.slot_int_rmul repeat_tuple F.slot_int_index.lookup
      (call_meets F.slot_int_rmul (typeIs_int s 0 t) F.entry_int_rmul (F.args_int_rmul_2 _ _) (int_rmul_tuple 0 t l its.toArray n dd sl)
        ⟨ho, rfl, ⟨_, ho, rfl⟩, call_meets F.slot_tuple_mul ⟨_, ho, rfl⟩ F.entry_tuple_mul (F.args_tuple_mul_2 _ _) (mul_none l its.toArray n dd sl t hn) ⟨ho, ?_⟩⟩)
    have hn := I.hok.fresh (Nat.le_refl s.heap.objs.size)
    refine ⟨.ref s.heap.objs.size, _, I.laid (t' := s.toks) (o := .tup []) (fun b ob q => Heap.get?_push_of_some _ q) (Nat.le_refl _) ?_, rfl, q _ _ (newSm hn) (SqT.of upd_same)⟩
    exact ⟨Nat.zero_le _, [], .nil, IsTup.new _ _⟩
  · refine wpAny_binaryOp_repeat_ref (T := "tuple") (U := "int") (by decide) ⟨_, ho, rfl⟩ (fun s' => typeIs_int s' 1 t) noFill_tuple_mul F.fills_int_mul F.slot_int_rmul repeat_tuple F.slot_int_index.lookup
      (call_meets F.slot_int_rmul (typeIs_int s 1 t) F.entry_int_rmul (F.args_int_rmul_2 _ _) (int_rmul_tuple 1 t l its.toArray n dd sl)
        ⟨ho, rfl, ⟨_, ho, rfl⟩, call_meets F.slot_tuple_mul ⟨_, ho, rfl⟩ F.entry_tuple_mul (F.args_tuple_mul_2 _ _) (mul_one_same l its.toArray n dd sl t) ⟨ho, ?_⟩⟩)
    refine ⟨.ref l, H, I, rfl, q l H (fun _ _ e => e) ?_⟩
    have e : (List.replicate (1 : Int).toNat xs).flatten = xs := by simp
    rw [e]
    exact hT
end
end Kz

/-! int(text) and str(int) to 4,300 figures, where the program leaves the limit alone -/
namespace Ki
open PySem PySem.Spec PyProof.Rows L2 PySem.Calls PySem.NumText PySem.W
theorem nodig_in {K : PySem.W.Frag} {h : Heap} (X : K.In h) (e : nsOkIn K cStatics = true) (q : nsIn K cStatics "sys.int_max_str_digits" = some none) : h.NoDigits :=
  ⟨_, .of_isNs (isNs_of_in X e), nsMap_none_of_in X e q⟩
theorem maxDig {M : Model} {A : Around} {E : Value → Shared → Prop} {s : Shared} {Q : Nat → Shared → Prop} (hn : s.heap.NoDigits) (h : Q 4300 s) : wpAny M A Builtin.intMaxStrDigits Q E s := by
  obtain ⟨mc, hns, hnone⟩ := hn
  unfold Builtin.intMaxStrDigits
  refine wpAny_bind (wpAny_nsGet hns ?_)
  rw [hnone]
  exact wpAny_pure h
theorem wp_textA {M : Model} {A : Around} {E : Value → Shared → Prop} {s : Shared} {Q : Value → Shared → Prop} {v : Value} {text : List Nat} {n : Int} (hn : s.heap.NoDigits)
    (hs : ¬ (text.takeWhile (· != 0)).length ≤ 640) (hr : (int_private% "readNumeral") 4300 10 (text.takeWhile (· != 0)) = (int_private% "Numeral.value") n)
    (ha : ((text.takeWhile (· != 0)).length == text.length) = true) (h : Q (.int n s.toks) { s with toks := s.toks + 1 }) :
    wpAny M A ((int_private% "intFromText") v text 10) Q E s := by
  wp_step
  rw [if_neg hs]
  refine wpAny_bind (maxDig hn ?_)
  dsimp only
  rw [hr]
  dsimp only
  rw [if_pos ha]
  obtain ⟨hp, g, d, tk, os⟩ := s
  repeat (any_goals (first
    | assumption
    | wp_step))
theorem meets_textA {x : PySem.Str} {u : Tok} {n : Int} (hl : x.length ≤ 4300) (hn : PySem.intText? x = some n) :
    Meets (Builtin.«int.__new__» ⟨[.type "int", .str x u], []⟩) (fun _ R s => s.heap.NoDigits ∧ R (.ok (.ret (.int n s.toks))) { s with toks := s.toks + 1 }) := by
  intro prog w A R s hq
  refine wpAny_mono (Q := fun fin s' => ∃ v, fin = .done (.ret v) ∧ R (.ok (.ret v)) s') ?_ (fun fin s' h' => by obtain ⟨v, rfl, hv⟩ := h'; exact hv) fun _ _ x => x
  have hd := hq.1
  have h := hq.2
  clear hq
  generalize hM : model prog w = M
  generalize A.in1 = A'
  clear hM
  have f1 := F.conv_sub_int
  have f2 := F.madeHere_int
  have f3 := KIN.str_int
  have f4 := KIN.str_idx
  have f5 := KIN.str_trunc
  have f6 : typeOf (.str x u) = pure (.type "str") := rfl
  by_cases h6 : (numSeenOf x).length ≤ 640
  · have hr : (int_private% "readNumeral") 0 10 (numSeenOf x) = (int_private% "Numeral.value") n ∧ ((numSeenOf x).length == (numTextOf x).length) = true := by
      rcases read0 x h6 with ⟨m, h1, h2, h3⟩ | ⟨h1, _⟩
      · rw [hn] at h1
        injection h1 with h1
        subst h1
        exact ⟨h3, h2⟩
      · rw [hn] at h1
        cases h1
    have hk := KIN.Hid.mk (And.intro h6 hr)
    clear h6 hr hl hn hd
    obtain ⟨hp, g, d, tk, os⟩ := s
    repeat (any_goals (first
      | assumption
      | ((with_reducible show wpAny _ _ ((int_private% "intFromText") _ _ _) _ _ _); refine KIN.wp_text hk.out.1 hk.out.2.1 hk.out.2.2 ?_)
      | wp_step))
    all_goals first | exact ⟨_, rfl, h⟩ | skip
  · have hr : (int_private% "readNumeral") 4300 10 (numSeenOf x) = (int_private% "Numeral.value") n ∧ ((numSeenOf x).length == (numTextOf x).length) = true := by
      rcases read4300 x (Nat.le_trans hl (by decide)) with ⟨m, h1, h2, h3⟩ | ⟨h1, _⟩
      · rw [hn] at h1
        injection h1 with h1
        subst h1
        exact ⟨h3, h2⟩
      · rw [hn] at h1
        cases h1
    have hk := KIN.Hid.mk (And.intro (And.intro h6 hd) hr)
    clear h6 hr hl hn hd
    obtain ⟨hp, g, d, tk, os⟩ := s
    repeat (any_goals (first
      | assumption
      | ((with_reducible show wpAny _ _ ((int_private% "intFromText") _ _ _) _ _ _); refine wp_textA hk.out.1.2 hk.out.1.1 hk.out.2.1 hk.out.2.2 ?_)
      | wp_step))
    all_goals first | exact ⟨_, rfl, h⟩ | skip
section
variable {X : Cx}
/-- int(text) -/
theorem call_int_strA (e : nsOkIn X.K cStatics = true) (q : nsIn X.K cStatics "sys.int_max_str_digits" = some none) : CallR X (.type "int") (fun xs H Q => ∃ a n, xs = [.str a] ∧ PySem.intText? a = some n ∧ a.length ≤ 4300 ∧ Q (.int n) H) := by
  intro pins s σ H xs us Q I rs h
  obtain ⟨a, n, rfl, hn, hl, h⟩ := h
  cases rs with
  | cons r1 rs =>
    cases rs
    obtain ⟨t, rfl⟩ := r1
    exact call_int_1 (meets_textA hl hn) ⟨nodig_in I.kIn e q, ⟨rfl, ⟨.int n, H, I.tok _, ⟨_, rfl⟩, h⟩⟩⟩
/-- str(int) -/
theorem call_str_intA (hc : X.A.handled = none) (e : nsOkIn X.K cStatics = true) (q : nsIn X.K cStatics "sys.int_max_str_digits" = some none) : CallR X (.type "str") (fun xs H Q => ∃ a : Int, xs = [.int a] ∧ a.natAbs < 10 ^ 4300 ∧ Q (.str (toString a)) H) := by
  intro pins s σ H xs us Q I rs h
  obtain ⟨a, rfl, hl, h⟩ := h
  cases rs with
  | cons r1 rs =>
    cases rs
    obtain ⟨t, rfl⟩ := r1
    exact str_of_int_or hc (nodig_in I.kIn e q) (fun _ => ⟨.str (toString a), H, I.tok _, ⟨_, rfl⟩, h⟩) fun h2 => absurd hl (Nat.not_lt.mpr h2)
end
end Ki

/-! comprehensions of two loops: a tuple, within it a zip; str of a text or of a number from nought on -/
namespace Kz
open PySem PySem.Spec PyProof.Rows L2
/-- the inner loop of a comprehension of two -/
def inn (J1 : It) (g1 : TG) (tt1 : TT) (te : TE) (vs1 : List Nat) (D : Addr) (Nx : Hp → Prop) (σ2 : L2.St) (H4 : Hp) : Prop :=
  ∃ W1 : Nat → Nat → Hp → Prop, (∃ m, W1 0 m H4) ∧ ∀ j k H, W1 j k H →
      (J1.stop j H ∧ Nx H) ∨ (J1.go j H ∧ ∃ Nx1 : Hp → Prop, (∀ H', Nx1 H' → ∃ k', k' < k ∧ W1 (j + 1) k' H') ∧ ∀ x H', J1.yld j H x H' → g1 x (wipe σ2 vs1) H' fun σ3 H5 => wipe σ3 vs1 = wipe σ2 vs1 ∧ tt1 σ3 H5 fun b H6 =>
        if b = true then te σ3 H6 fun y H7 => ∃ acc, H7 D = some (.lst acc) ∧ acc.length < sizeLine ∧ Nx1 (upd H7 D (.lst (acc ++ [y]))) else Nx1 H6)
theorem lc2_tup {K : PySem.W.Frag} {a : Addr} {xs : List V} {g g1 : TG} {tt tt1 : TT} {te : TE} {wi1 : TI} {vs vs1 : List Nat} {σ : L2.St} {H1 : Hp} {D : Addr} {Qd : Hp → Prop} (Pv : Nat → Hp → Prop) (h0 : Pv 0 (upd H1 D (.lst []))) (hl : ∀ i H, i ≤ xs.length → Pv i H → SqT K H a xs)
    (hs : ∀ i x H, xs[i]? = some x → Pv i H → g x (wipe σ vs) H fun σ2 H2 => wipe σ2 vs = wipe σ vs ∧ tt σ2 H2 fun b H3 => if b = true then wi1 σ2 H3 fun J1 H4 => inn J1 g1 tt1 te vs1 D (Pv (i + 1)) σ2 H4 else Pv (i + 1) H3) (hd : ∀ H, Pv xs.length H → Qd H) :
    ∃ W : Nat → Nat → Hp → Prop, (∃ m, W 0 m (upd H1 D (.lst []))) ∧ ∀ i m H, W i m H →
      ((Itt K a).stop i H ∧ Qd H) ∨ ((Itt K a).go i H ∧ ∃ Nx : Hp → Prop, (∀ H', Nx H' → ∃ m', m' < m ∧ W (i + 1) m' H') ∧ ∀ x H', (Itt K a).yld i H x H' → g x (wipe σ vs) H' fun σ2 H2 => wipe σ2 vs = wipe σ vs ∧ tt σ2 H2 fun b H3 =>
        if b = true then wi1 σ2 H3 fun J1 H4 => inn J1 g1 tt1 te vs1 D Nx σ2 H4 else Nx H3) := by
  refine ⟨fun i m H => m = xs.length - i ∧ i ≤ xs.length ∧ Pv i H, ⟨_, rfl, Nat.zero_le _, h0⟩, fun i m H z => ?_⟩
  obtain ⟨rfl, hi, p⟩ := z
  have q := hl i H hi p
  by_cases lt : i < xs.length
  · refine .inr ⟨⟨xs, xs[i], q, by simp [lt]⟩, Pv (i + 1), fun H' p' => ⟨xs.length - (i + 1), by omega, rfl, lt, p'⟩, fun x H' y => ?_⟩
    obtain ⟨e, y⟩ := y
    subst e
    exact hs i x _ (y xs q) p
  · have e : i = xs.length := by omega
    subst e
    exact .inl ⟨⟨xs, q, by simp⟩, hd H p⟩
theorem inn_zip {K : PySem.W.Frag} {p q : Sr} {g1 : TG} {tt1 : TT} {te : TE} {vs1 : List Nat} {D : Addr} {Nx : Hp → Prop} {σ2 : L2.St} {H4 : Hp} (Pw : Nat → Hp → Prop) (hl : p.vs.length = q.vs.length) (h0 : Pw 0 H4) (hq : ∀ i H, Pw i H → p.at K H ∧ q.at K H)
    (hs : ∀ i x y T H, p.vs[i]? = some x → q.vs[i]? = some y → Pw i H → H T = none → g1 (.ref T) (wipe σ2 vs1) (upd H T (.tup [x, y])) fun σ3 H5 => wipe σ3 vs1 = wipe σ2 vs1 ∧ tt1 σ3 H5 fun b H6 =>
        if b = true then te σ3 H6 fun y H7 => ∃ acc, H7 D = some (.lst acc) ∧ acc.length < sizeLine ∧ Pw (i + 1) (upd H7 D (.lst (acc ++ [y]))) else Pw (i + 1) H6) (hd : ∀ H, Pw p.vs.length H → Nx H) : inn (Jg K p q) g1 tt1 te vs1 D Nx σ2 H4 := by
  refine ⟨fun i m H => m = p.vs.length - i ∧ i ≤ p.vs.length ∧ Pw i H, ⟨_, rfl, Nat.zero_le _, h0⟩, fun i m H z => ?_⟩
  obtain ⟨rfl, hi, pw⟩ := z
  obtain ⟨q1, q2⟩ := hq i H pw
  by_cases lt : i < p.vs.length
  · refine .inr ⟨⟨q1, q2, lt, by omega⟩, Pw (i + 1), fun H' p' => ⟨p.vs.length - (i + 1), by omega, rfl, lt, p'⟩, fun v H' y => ?_⟩
    obtain ⟨T, x, y, rfl, hT, rfl, e1, e2⟩ := y
    exact hs i x y T H e1 e2 pw hT
  · have e : i = p.vs.length := by omega
    subst e
    exact .inl ⟨⟨q1, q2, Nat.le_refl _, by omega, .inl rfl⟩, hd H pw⟩
/-- str of a text, of a number from nought on -/
theorem call_strB {X : Cx} (hc : X.A.handled = none) (e : PySem.W.nsOkIn X.K cStatics = true) (q : PySem.W.nsIn X.K cStatics "sys.int_max_str_digits" = some none) : CallR X (.type "str") (fun xs H Q => (∃ a : Str, xs = [.str a] ∧ Q (.str a) H) ∨ ∃ n : Nat, xs = [.int n] ∧ n < 10 ^ 4300 ∧ Q (.str (Str.ofString (toString ((n : Nat) : Int)))) H) := by
  intro pins s σ H xs us Q I r h
  rcases h with ⟨a, rfl, h⟩ | ⟨n, rfl, hn, h⟩
  · exact SkE.call_str_str pins s σ H _ us Q I r ⟨a, rfl, h⟩
  · exact Ki.call_str_intA hc e q pins s σ H _ us Q I r ⟨(n : Int), rfl, by rw [Int.natAbs_natCast]; exact hn, h⟩
end Kz

/-! comprehensions of two loops: a list, within it a tuple -/
namespace Kz
open PySem PySem.Spec PyProof.Rows L2
theorem pi_tupK {X : Cx} (K : PySem.W.Frag) (h : X.K = K) {tg l : Expr} {tl : TE} (hl : PE X l tl) : PI X tg l (iTup K tl) := by
  subst h
  exact pi_tup hl
theorem pi_listK {X : Cx} (K : PySem.W.Frag) (h : X.K = K) {tg l : Expr} {tl : TE} (hl : PE X l tl) : PI X tg l (iList K tl) := by
  subst h
  exact pi_list hl
theorem pa_starK {X : Cx} (K : PySem.W.Frag) (h : X.K = K) {e : Expr} {es : List Expr} {te : TE} {t : TA} {p : Pos} (he : PE X e te) (hr : PA X es t) (hs : starEach (.Starred e p :: es) X.env = (true, eval e X.env) :: starEach es X.env := by rfl) : PA X (.Starred e p :: es) (StX.tStar K te t) := by
  subst h
  exact StX.pa_star he hr hs
theorem lc2_list {K : PySem.W.Frag} {a : Addr} {xs : List V} {g g1 : TG} {tt tt1 : TT} {te : TE} {wi1 : TI} {vs vs1 : List Nat} {σ : L2.St} {H1 : Hp} {D : Addr} {Qd : Hp → Prop} (Pv : Nat → Hp → Prop) (h0 : Pv 0 (upd H1 D (.lst []))) (hl : ∀ i H, i ≤ xs.length → Pv i H → SqL K H a xs)
    (hs : ∀ i x H, xs[i]? = some x → Pv i H → g x (wipe σ vs) H fun σ2 H2 => wipe σ2 vs = wipe σ vs ∧ tt σ2 H2 fun b H3 => if b = true then wi1 σ2 H3 fun J1 H4 => inn J1 g1 tt1 te vs1 D (Pv (i + 1)) σ2 H4 else Pv (i + 1) H3) (hd : ∀ H, Pv xs.length H → Qd H) :
    ∃ W : Nat → Nat → Hp → Prop, (∃ m, W 0 m (upd H1 D (.lst []))) ∧ ∀ i m H, W i m H →
      ((Itl K a).stop i H ∧ Qd H) ∨ ((Itl K a).go i H ∧ ∃ Nx : Hp → Prop, (∀ H', Nx H' → ∃ m', m' < m ∧ W (i + 1) m' H') ∧ ∀ x H', (Itl K a).yld i H x H' → g x (wipe σ vs) H' fun σ2 H2 => wipe σ2 vs = wipe σ vs ∧ tt σ2 H2 fun b H3 =>
        if b = true then wi1 σ2 H3 fun J1 H4 => inn J1 g1 tt1 te vs1 D Nx σ2 H4 else Nx H3) := by
  refine ⟨fun i m H => m = xs.length - i ∧ i ≤ xs.length ∧ Pv i H, ⟨_, rfl, Nat.zero_le _, h0⟩, fun i m H z => ?_⟩
  obtain ⟨rfl, hi, p⟩ := z
  have q := hl i H hi p
  by_cases lt : i < xs.length
  · refine .inr ⟨⟨xs, xs[i], q, by simp [lt]⟩, Pv (i + 1), fun H' p' => ⟨xs.length - (i + 1), by omega, rfl, lt, p'⟩, fun x H' y => ?_⟩
    obtain ⟨e, y⟩ := y
    subst e
    exact hs i x _ (y xs q) p
  · have e : i = xs.length := by omega
    subst e
    exact .inl ⟨⟨xs, q, by simp⟩, hd H p⟩
theorem inn_tup {K : PySem.W.Frag} {a : Addr} {xs : List V} {g1 : TG} {tt1 : TT} {te : TE} {vs1 : List Nat} {D : Addr} {Nx : Hp → Prop} {σ2 : L2.St} {H4 : Hp} (Pw : Nat → Hp → Prop) (h0 : Pw 0 H4) (hl : ∀ i H, i ≤ xs.length → Pw i H → SqT K H a xs)
    (hs : ∀ i x H, xs[i]? = some x → Pw i H → g1 x (wipe σ2 vs1) H fun σ3 H5 => wipe σ3 vs1 = wipe σ2 vs1 ∧ tt1 σ3 H5 fun b H6 =>
        if b = true then te σ3 H6 fun y H7 => ∃ acc, H7 D = some (.lst acc) ∧ acc.length < sizeLine ∧ Pw (i + 1) (upd H7 D (.lst (acc ++ [y]))) else Pw (i + 1) H6) (hd : ∀ H, Pw xs.length H → Nx H) : inn (Itt K a) g1 tt1 te vs1 D Nx σ2 H4 := by
  refine ⟨fun i m H => m = xs.length - i ∧ i ≤ xs.length ∧ Pw i H, ⟨_, rfl, Nat.zero_le _, h0⟩, fun i m H z => ?_⟩
  obtain ⟨rfl, hi, p⟩ := z
  have q := hl i H hi p
  by_cases lt : i < xs.length
  · refine .inr ⟨⟨xs, xs[i], q, by simp [lt]⟩, Pw (i + 1), fun H' p' => ⟨xs.length - (i + 1), by omega, rfl, lt, p'⟩, fun x H' y => ?_⟩
    obtain ⟨e, y⟩ := y
    subst e
    exact hs i x _ (y xs q) p
  · have e : i = xs.length := by omega
    subst e
    exact .inl ⟨⟨xs, q, by simp⟩, hd H p⟩
end Kz

/-! is_makers, is_askers, has_end -/
namespace Kq
open PySem PySem.Spec PyProof.Rows L2 Kf Kg Kv Kk GxR
abbrev tMakers : Stmt := tp 38
abbrev tEnd : Stmt := tp 39
abbrev tAskers : Stmt := tp 40
namespace Kd
/-- a maker's argument -/
def mk (t : Kd) : Bool := t.isFn && t.res.isOp
/-- the name that it makes -/
def nmR (t : Kd) : Str := match t.res with
  | opn x => x
  | _ => Str.empty
def isL : Kd → Bool
  | lst _ => true
  | _ => false
/-- an asker's argument -/
def ask (ms : List Str) (t : Kd) : Bool := !(t.res.nodes.any fun p => p.isL || p.isOp) && !(t.opens.any fun x => decide (x ∈ ms))
/-- its tries have an end -/
def hasEnd (ms lk : List Str) (t : Kd) : Bool := if t.mk then !decide (t.nmR ∈ lk) else t.ask ms
end Kd
theorem inV_strs (x : Str) (xs : List Str) : inV (.str x) (xs.map V.str) = decide (x ∈ xs) := by
  unfold inV
  rw [List.any_map]
  apply Bool.eq_iff_iff.mpr
  rw [List.any_eq_true, decide_eq_true_eq]
  constructor
  · rintro ⟨y, hy, e⟩
    have e : eqV (.str y) (.str x) = true := e
    have : y = x := by simpa [eqV] using e
    rw [← this]
    exact hy
  · exact fun h => ⟨x, h, by simp [eqV]⟩
section
variable {P : Program} {w : World} {K : PySem.W.Frag} {mg : Str → Option Value} {base : Heap}
theorem scMakers : FnScope ["argument"] ["argument"] (defScope tMakers) := ⟨rfl, rfl, rfl, by decide +kernel, rfl, by decide +kernel, by decide +kernel⟩
def spMakers (K : PySem.W.Frag) : Sp := fun vs H Q _ => ∃ (v : V) (t : Kd), vs = [v] ∧ Rp K H t v ∧ Q (.bl t.mk) H
theorem okMakers {f fL fR : Addr} {fd fdL fdR : FuncData} {k : Nat} (F : Fun K "is_makers" "is_makers" tMakers f fd)
    (GL : FnOk P w K mg base CX0 k fL fdL ["kind"] (spLeads K)) (bL : Binds K fdL ["kind"] []) (gL : mg "leads" = some (.ref fL)) (kL : PySem.W.keepIn K (.ref fL) = true)
    (GR : FnOk P w K mg base CX0 k fR fdR ["kind"] (spRes K)) (bR : Binds K fdR ["kind"] []) (gR : mg "result_of" = some (.ref fR)) (kR : PySem.W.keepIn K (.ref fR) = true) : FnOk P w K mg base CX0 (k + 1) f fd ["argument"] (spMakers K) := by
  refine F.ok scMakers (fun vs H Q E h => ?_) (fun cdv A outer s H vs Q E hr h => ?_)
  · obtain ⟨v, t, rfl, _⟩ := h
    rfl
  obtain ⟨v, t, rfl, r, q⟩ := h
  refine ⟨_, pss_one (ps_ret (pe_and (pe_call GL hr (by rfl) gL kL bL .nil pass0 (pa_cons (pv 0) pa_nil)) (pe_one (pe_cmpR op_eq (pe_ix ix_tup (pe_call GR hr (by rfl) gR kR bR .nil pass0 (pa_cons (pv 0) pa_nil)) pe_int (fun _ _ => rfl)) pe_str (nomark _))))), ?_⟩
  refine ⟨_, rfl, v, t, rfl, r, _, rfl, ite2 (fun e => ?_) (fun e => ?_)⟩
  · refine ⟨_, rfl, v, t, rfl, r, fun u ru => ?_⟩
    obtain ⟨a, us, rfl, ha, _⟩ := ru.see
    refine ⟨a, _, _, _, rfl, rfl, ha.t, atI_nat (j := 0) rfl, rfl, ?_⟩
    rw [Kd.isOp_word]
    have z : t.mk = t.res.isOp := by
      unfold Kd.mk
      rw [e, Bool.true_and]
    rw [← z]
    exact q
  · have z : t.mk = false := by
      unfold Kd.mk
      rw [Bool.eq_false_iff.mpr e, Bool.false_and]
    rw [z] at q
    exact q
/-! is_askers -/
theorem res_size : ∀ t : Kd, t.res.size ≤ t.size
  | .fn a b => by
    have := res_size b
    rw [Kd.size_fn]
    show b.res.size ≤ _
    omega
  | .opn _ => Nat.le_refl _
  | .num => Nat.le_refl _
  | .tru => Nat.le_refl _
  | .pair _ _ => Nat.le_refl _
  | .eith _ _ => Nat.le_refl _
  | .lst _ => Nat.le_refl _
theorem inV_word (t : Kd) : inV (.str t.word) [V.str "list", V.str "open"] = (t.isL || t.isOp) := by
  cases t <;> (simp only [Kd.word, Kd.isL, Kd.isOp]; decide +kernel)
theorem smTk {T : List Addr} {H G : Hp} (a : Sm T H G) (tb : TbS T H) : Tk H G := fun b xs e => a.at tb e fun _ z => by cases z
abbrev nAsk : List Str := ["argument", "made"]
theorem scAskers : FnScope nAsk nAsk (defScope tAskers) := ⟨rfl, rfl, rfl, by decide +kernel, rfl, by decide +kernel, by decide +kernel⟩
/-- few names -/
def Few (t : Kd) : Prop := t.size ≤ 900 ∧ ∃ ns : List Str, ns.Nodup ∧ ns.length ≤ 40 ∧ ∀ x ∈ t.opens, x ∈ ns
def spAskers (K : PySem.W.Frag) (T : List Addr) : Sp := fun vs H Q _ => ∃ (v : V) (m : Addr) (t : Kd) (ms : List Str), vs = [v, .ref m] ∧ Rp K H t v ∧ Few t ∧ H m = some (.lst (ms.map V.str)) ∧ TbS T H ∧ ∀ G : Hp, Sm T H G → Q (.bl (t.ask ms)) G
theorem okAskers {f c p fP fR fO : Addr} {fd fdP fdR fdO : FuncData} {k : Nat} {T : List Addr} (F : FunC K "is_askers" "is_askers" tAskers f fd c) (TB : TabB base mg c p) (hp : p ∈ T)
    (GP : FnOk P w K mg base CX0 k fP fdP ["kind"] (spParts K)) (bP : Binds K fdP ["kind"] []) (gP : mg "parts_of" = some (.ref fP)) (kP : PySem.W.keepIn K (.ref fP) = true)
    (GR : FnOk P w K mg base CX0 k fR fdR ["kind"] (spRes K)) (bR : Binds K fdR ["kind"] []) (gR : mg "result_of" = some (.ref fR)) (kR : PySem.W.keepIn K (.ref fR) = true)
    (GO : FnOk P w K mg base CX0 k fO fdO ["kind"] (spOpens K)) (bO : Binds K fdO ["kind"] []) (gO : mg "opens_in" = some (.ref fO)) (kO : PySem.W.keepIn K (.ref fO) = true)
    (ma : mg "any" = none) : FnOk P w K mg base CX0 (k + 1) f fd nAsk (spAskers K T) := by
  refine F.ok scAskers (fun vs H Q E h => ?_) (fun A outer s H vs Q E hr h => ?_)
  · obtain ⟨v, m, t, ms, rfl, _⟩ := h
    rfl
  obtain ⟨v, m, t, ms, rfl, r, few, hm, tb, q⟩ := h
  refine ⟨_, pss_cons (ps_if (pt_val (pe_anyG (c := c) (P := p) (own := ["part"]) (caps := []) (vs := [0]) (g := gName 0) hr (by rfl) ma TB rfl
      (gxS_by (N := nAsk) (sc := defScope tAskers) (by decide +kernel)) (pi_list (pe_call GP hr (by rfl) gP kP bP .nil pass0 (pa_cons (pe_call GR hr (by rfl) gR kR bR .nil pass0 (pa_cons (pv 0) pa_nil)) pa_nil)))
      (fun _ _ _ _ _ => pg_name (i := 0) (show (["part"] : List Str).Nodup by decide +kernel) rfl (.inl rfl))
      (fun _ _ _ _ _ => pe_cmpR (op_in_seqK K rfl) (pe_ix (ixTK K rfl) (pv 0) pe_int (fun _ _ => rfl)) (pe_tup (pa_cons pe_str (pa_cons pe_str pa_nil))) rfl))) (pss_one (ps_ret pe_bl)) pss_nil)
    (pss_one (ps_ret (pe_not (pe_anyG (c := c) (P := p) (own := ["name"]) (caps := [("made", 1)]) (vs := [0]) (g := gName 0) hr (by rfl) ma TB rfl
      (gxS_by (N := nAsk) (sc := defScope tAskers) (by decide +kernel)) (pi_tup (pe_call GO hr (by rfl) gO kO bO .nil pass0 (pa_cons (pv 0) pa_nil)))
      (fun _ _ _ _ _ => pg_name (i := 0) (show (["name", "made"] : List Str).Nodup by decide +kernel) rfl (.inl rfl))
      (fun _ _ _ _ _ => pe_cmpR (op_in_seqK K rfl) (pv 0) (pv 1) rfl))))), ?_⟩
  have rsz := res_size t
  refine ⟨_, rfl, v, t, rfl, r, fun u ru => ⟨u, t.res, rfl, ru, Nat.le_trans rsz few.1, fun l ts us G1 s1 gl rt pm => ⟨l, rfl, ⟨_, SqL.of gl⟩, (tb.same s1) p hp, fun H2 htab => ?_⟩⟩⟩
  have tb1 := tb.same s1
  have s2 : Sm T G1 H2 := Sm.tab hp tb1 htab
  have sH1 := Sm.of s1 tb
  refine any_list (xs := us) (fun i F => Sm T G1 F ∧ ((ts.take i).any fun p => p.isL || p.isOp) = false) ⟨s2, rfl⟩ (fun i F _ z => SqL.of (z.1.at tb1 gl fun _ z => by cases z)) (fun i x F hx z => ?_) (fun F z => ?_)
  · obtain ⟨sF, al⟩ := z
    obtain ⟨d, hd, rd⟩ := rt.get hx
    obtain ⟨a, ws, rfl, ha, _⟩ := (rd.tk (smTk sF tb1)).see
    refine ⟨rfl, _, rfl, a, _, _, _, rfl, rfl, ha.t, atI_nat (j := 0) rfl, (by show 2 ≤ sizeLine; decide), fun e ne => ⟨e, _, rfl, .inr (SqT.of upd_same), rfl, rfl, _, rfl, ?_⟩⟩
    have sN : Sm T G1 (upd F e (.tup [V.str "list", V.str "open"])) := sF.new (sF.free ne) tb1
    show if inV (V.str d.word) [V.str "list", V.str "open"] = true then _ else _
    rw [inV_word]
    refine ite2 (fun eb => ?_) (fun eb => ⟨sN, ?_⟩)
    · have eq : t.ask ms = false := by
        unfold Kd.ask
        have z : (ts.any fun p => p.isL || p.isOp) = true := List.any_eq_true.mpr ⟨d, List.mem_of_getElem? hd, eb⟩
        rw [← pm.any_eq, z]
        rfl
      rw [eq] at q
      exact ⟨true, rfl, iteT (q _ (sH1.trans sN))⟩
    · rw [List.take_add_one, hd, List.any_append, al]
      simpa using eb
  · obtain ⟨sF, al⟩ := z
    rw [← rt.len, List.take_length] at al
    have al : (t.res.nodes.any fun p => p.isL || p.isOp) = false := by rw [← pm.any_eq]; exact al
    have eq : t.ask ms = !(t.opens.any fun x => decide (x ∈ ms)) := by
      unfold Kd.ask
      rw [al]
      rfl
    have sHF := sH1.trans sF
    have tbF := sHF.2
    refine ⟨false, rfl, iteF ?_⟩
    refine ⟨_, rfl, v, t, rfl, r.tk (smTk sHF tb), few.1, few.2, fun l2 ys G2 s3 g2 _ _ hys => ⟨l2, rfl, ⟨_, SqT.of g2⟩, (tbF.same s3) p hp, fun H3 htab2 => ?_⟩⟩
    have tb2 := tbF.same s3
    have s4 : Sm T G2 H3 := Sm.tab hp tb2 htab2
    have sH2 := sHF.trans (Sm.of s3 tbF)
    have ey : (ys.any fun x => decide (x ∈ ms)) = t.opens.any fun x => decide (x ∈ ms) := by
      apply Bool.eq_iff_iff.mpr
      rw [List.any_eq_true, List.any_eq_true]
      exact ⟨fun ⟨x, hx, h⟩ => ⟨x, (hys x).mp hx, h⟩, fun ⟨x, hx, h⟩ => ⟨x, (hys x).mpr hx, h⟩⟩
    refine any_tupL (xs := ys.map V.str) (fun i F => Sm T G2 F ∧ ((ys.take i).any fun x => decide (x ∈ ms)) = false) ⟨s4, rfl⟩ (fun i F _ z => SqT.of (z.1.at tb2 g2 fun _ z => by cases z)) (fun i x F hx z => ?_) (fun F z => ?_)
    · obtain ⟨sF2, al2⟩ := z
      rw [List.getElem?_map] at hx
      obtain ⟨y, hy, rfl⟩ := Option.map_eq_some_iff.mp hx
      have hm2 := (sH2.trans sF2).at tb hm fun _ z => by cases z
      refine ⟨rfl, _, rfl, _, rfl, m, _, rfl, .inl (SqL.of hm2), rfl, ?_, _, rfl, ?_⟩
      · rw [List.all_map]
        exact List.all_eq_true.mpr fun _ _ => rfl
      show if inV (V.str y) (ms.map V.str) = true then _ else _
      rw [inV_strs]
      refine ite2 (fun eb => ?_) (fun eb => ⟨sF2, ?_⟩)
      · have z : t.ask ms = false := by
          rw [eq, ← ey, List.any_eq_true.mpr ⟨y, List.mem_of_getElem? hy, eb⟩]
          rfl
        rw [z] at q
        exact ⟨true, rfl, q _ (sH2.trans sF2)⟩
      · rw [List.take_add_one, hy, List.any_append, al2]
        simpa using eb
    · obtain ⟨sF2, al2⟩ := z
      rw [List.length_map, List.take_length, ey] at al2
      rw [eq, al2] at q
      exact ⟨false, rfl, q _ (sH2.trans sF2)⟩
end
end Kq

/-! KSI: an own exception over ValueError whose __init__ says super().__init__(e) and sets one field -/
namespace Ksi
open PySem PySem.Spec PyProof.Rows L2 NdefX
section
open PySem.W PySem.Calls
variable {prog : Program} {w : World} {A : Around} {E : Value → Shared → Prop} {h : Heap} {g : Array GenState} {d : Drawn} {t : Nat} {os : OsState}
variable {nm q : Str} {C N : Addr} {bs bm : List Value} {hdct : Bool} {sn : List Str} {sub : List Value} {ab : Bool} {col : Option Bool} {dd : Option Addr} {k0 k1 k2 k3 k5 : Option Value}
theorem call_bwV {u e t0 : Addr} {rest : List Value} {Q : Value → Shared → Prop}
    (hC : h.get? C = some (excClassObj nm q C N bs bm hdct sn sub ab col dd k0 k1 k2 k3 k5 "ValueError.__new__")) (he : h.get? e = some (HandSPX.excO C t0)) (hu : h.get? u = some (kxs_mw "ValueError.__init__" e)) (hrest : rest.length ≤ sizeLine)
    (hq : ∀ h' t1, (∀ b o, b ≠ e → h.get? b = some o → h'.get? b = some o) → h'.get? e = some (HandSPX.excO C t1) → Q .none ⟨h', g, d, t, os⟩) :
    wpAny (model prog w) A (call (.ref u) rest) Q E ⟨h, g, d, t, os⟩ := by
  refine wpAny_call (codeAny_of_tree ?_)
  show wpAny _ A.in1 (callAny (.ref u) ⟨rest, []⟩) _ _ _
  simp only [callAny]
  refine wpAny_bind (wpAny_load hu ?_)
  simp only [kxs_mw, show (Value.type "method-wrapper" == Value.type "method" || Value.type "method-wrapper" == Value.type "builtin_function_or_method" || Value.type "method-wrapper" == Value.type "method-wrapper") = true by decide, if_true]
  refine W.KFB.if_so (by decide) ?_
  refine wpAny_bind (ESX.check_bound F.excBase_ValueError hC he rfl ?_)
  refine wpAny_bind (wpAny_pure (wpAny_pure ?_))
  refine ⟨Code.quiet_builtin _ (by decide +kernel), codeAny_builtin F.excBase_ValueError.initEntry ?_⟩
  rw [Around.under_plainId F.excBase_ValueError.init.plain _]
  wp_walk
  refine hq _ h.objs.size (fun b o hb ho => ?_) ?_
  · rw [Heap.get?_update_other _ _ (Ne.symm hb)]
    exact Heap.get?_push_of_some _ ho
  · rw [Heap.get?_update_self _ (Heap.get?_push_of_some _ he) rfl]
    rfl
end

/-- what its __init__ keeps: the field f is what was handed in -/
def spIni (D : Addr) (ok : V → Hp → Prop) (f : Str) : Sp := fun vs H Q _ => ∃ (a : Addr) (y : V), vs = [.ref a, y] ∧ H a = some (exo a D none) ∧ ok y H ∧
  ∀ dx, H dx = none → dx ≠ a → Q .non (upd (upd H dx (exd dx [(f, y)])) a (exo a D (some dx)))

/-- what the written part says of super() in the def F of the class D -/
structure SupC (P : Program) (K : PySem.W.Frag) (F : NF) (D : Addr) (s0 : Str) : Prop where
  exc : OexC K D
  cell : ∃ cc cl cld csl, F.cl = [(("__class__" : Str), cc)] ∧ K.lookup cc = some (⟨cl, cld, .cell (some (.ref D)), csl⟩ : Obj)
  par : ∃ ar : Arg, (F.params.posonlyargs ++ F.params.args).head? = some ar ∧ ar.arg = s0
  code : ∃ (ccl : Value) (cdd : Option Addr) (vs : Array Value) (ccs : Array (Option Value)) (file : Str) (tf : Tok), K.lookup F.c = some (⟨ccl, cdd, .fields vs, ccs⟩ : Obj) ∧ vs[2]? = some (.str file tf) ∧ ((P.main.file : Str) == file) = true
  top : (P.main.scope.names.lookup ("super" : Str)).isSome = false
  sub : PySem.W.mroIn K D (.ref D) = some true
  ini : PySem.W.ks_superIn K D D "__init__" = some (some (.builtin "ValueError.__init__"))
  base : PySem.W.subIn K (.ref D) (.type "ValueError") = some true
  opq : PySem.W.nsIn K cStatics "thirdparty.any" = some none
  nms : F.scope.names.lookup ("super" : Str) = some .globalImplicit

theorem looks_mroOf {K : PySem.W.Frag} {h : Heap} {M : Model} {C : Addr} {cd : ClassData} (X : K.In h) (hc : PySem.W.clsIn K C = some cd) : PySem.W.Looks M h (mroOf (.ref C)) cd.mro :=
  fun A Q E s k q => wpAny_bind ((PySem.W.looks_clsIn X hc) A _ E s k (wpAny_pure q))

theorem cw1 {M : Model} {A : Around} {E : Value → Shared → Prop} {s : Shared} {u x : Addr} {i : String} {pos : Pos} {env : Env} {e : Expr} {rest : List Expr} {Q : Value → Shared → Prop}
    (h : wpAny M A (spliced (backTo pos (starEach (e :: rest) env))) (fun vs s₁ => PySem.W.KxsAt i u x s₁.heap ∧ wpAny M A (call (.ref u) vs) Q E s₁) E s)
    (he : starEach (e :: rest) env = (false, eval e env) :: starEach rest env) (hplain : (backTo pos (starEach rest env)).any (·.1) = false) :
    wpAny M A (callWith pos (.ref u) [] (backTo pos (starEach (e :: rest) env)) []) Q E s := by
  rw [he] at h ⊢
  refine PySem.W.kxs_callWith (i := i) (x := x) (by show (false || (backTo pos (starEach rest env)).any (·.1)) = false; rw [hplain]; rfl) ?_
  exact PySem.Calls.evalArgs_plain h

section
variable {CX : CXT} {P : Program} {w : World} {K : PySem.W.Frag} {mg : Str → Option Value} {base : Heap} {N : List Str} {F : NF} {f D : Addr} {k : Nat} {s0 a0 fld : Str} {e : Expr} {st2 : Stmt} {p0 p1 p2 p3 p4 : Pos} {oc doc pm ctv : Value} {od : Option Addr} {osl : Array (Option Value)} {ok : V → Hp → Prop}
theorem fn_sup (lk : K.lookup f = some (⟨oc, od, .func (F.fd doc pm ctv), osl⟩ : Obj)) (hcd : PySem.W.codeIn K (.ref F.c) F.qual = true) (S : NScope N [s0, a0] ["__class__"] F.scope) (T : SupC P K F D s0) (mS : mg "super" = none)
    (hb : F.body = [.Expr (.Call (.Attribute (.Call (.Name "super" p0) [] [] p1) "__init__" p2) [e] [] p3) p4, st2])
    (harg : ∀ (A : Around) (outer : List Env) (s : Shared) (H : Hp) (E : XK), ∃ te : TA, PA (ncx CX P w K mg base N F f A outer s H E) [e] te ∧ ∀ a y H', ok y H' → H' a = some (exo a D none) → ∀ Q : List V → Hp → Prop, (∀ vs, vs.length ≤ 1000 → Q vs H') → te (startF N [.ref a, y] [none]) H' Q)
    (hst : ∀ (A : Around) (outer : List Env) (s : Shared) (H : Hp) (E : XK), PSs (ncx CX P w K mg base N F f A outer s H E) [st2] (tOst K fld (tVar 0) (tVar 1)))
    (hno : PySem.W.findIn K (.ref D) fld = some none) (hse : ∀ env : Env, starEach [e] env = (false, eval e env) :: starEach [] env) (hev : ∀ env : Env, ∃ pl : Sem Bool, eval (.Call (.Attribute (.Call (.Name "super" p0) [] [] p1) "__init__" p2) [e] [] p3) env = (do
      let ov ← attributeBase (.Call (.Name "super" p0) [] [] p1) "__init__" env (eval (.Call (.Name "super" p0) [] [] p1) env)
      standAt p2.atName
      let (f, first) ← holding [ov] (getMethod ov "__init__" pl)
      callWith p3 f first (backTo p3 (starEach [e] env)) [])) (hsw : ∀ env : Env, swapsWith (.Call (.Attribute (.Call (.Name "super" p0) [] [] p1) "__init__" p2) [e] [] p3) none p4.line env = pure false)
    (hi : ∀ (A : Around) (outer : List Env) (s : Shared) (H : Hp) (E : XK), interactive (ncx CX P w K mg base N F f A outer s H E).env = false) :
    FnOk P w K mg base CX (k + 1) f (F.fd doc pm ctv) [s0, a0] (spIni D ok fld) := by
  have len : ∀ vs H Q E, spIni D ok fld vs H Q E → vs.length = [s0, a0].length := fun vs H Q E ⟨a, y, e, _⟩ => by rw [e]; rfl
  refine ⟨len, fun A outer s H args us vs Q E hr e0 hbd r hsp => ?_⟩
  have hl := len _ _ _ _ hsp
  have lim : s.heap.NoLimit := e0.mod.nolimit.keeps fun b o e => (e0.bs b o e).1
  have KB : K.In base := e0.mod.kin
  have KX : K.In s.heap := KB.keeps fun b o e => (e0.bs b o e).1
  obtain ⟨cc, ccl, cld, csl, hcl, hcell⟩ := T.cell
  have C : CellsAt F.cl ["__class__"] [none] s.heap H := by
    refine ⟨rfl, fun y c hy => ?_, fun x y c hx hy => ?_, fun i y hy => ?_⟩
    · rw [hcl] at hy
      have : c = cc := by
        simp only [List.lookup] at hy
        split at hy
        · exact (Option.some.inj hy).symm
        · cases hy
      subst this
      exact ⟨(e0.bs _ _ (KB _ _ hcell)).2, _, _, KX _ _ hcell, rfl⟩
    · rw [hcl] at hx hy
      simp only [List.lookup] at hx hy
      split at hx
      · split at hy
        · rename_i h1 _ h2
          rw [eq_of_beq h1, eq_of_beq h2]
        · cases hy
      · cases hx
    · match i, hy with
      | 0, hy =>
        have hy : "__class__" = y := by simpa using hy
        subst hy
        refine ⟨cc, by rw [hcl]; rfl, fun v hv => ?_⟩
        have hv : (none : Option V) = some v := by simpa using hv
        cases hv
      | n + 1, hy => simp at hy
  refine codeAny_call_function hr.depth (KX _ _ lk) rfl S.co S.gen rfl (PySem.W.codeRec_of KX hcd) (hbd _ _ _ _ ?_)
  refine wpAny_newFunctionEnv S.nocell (fun ⟨n, _⟩ hy => S.par n (List.of_mem_zip hy).1) (fun h₁ hns hsb => ⟨lim.fresh _ hsb, ?_⟩) S.kind
  show codeAny _ _ (.func F.body (envF F f s.heap.objs.size)) _ _
  have kp : ∀ b o, s.heap.get? b = some o → h₁.get? b = some o := fun b o e => hsb.extBut b o (Nat.ne_of_lt (Heap.lt_size e)) (Heap.get?_push_of_some _ e)
  have I0 : Inv (ncx CX P w K mg base N F f A outer s H E) [] (startF N vs [none]) H { s with heap := h₁, toks := s.toks + ([s0, a0].zip us).length } := inv_startN S hr.hd e0 hl r C hns kp
  refine PySem.ks_codeAny_funcAt ?_
  rw [hb]
  obtain ⟨a, y, ev, ea, hok, hq⟩ := hsp
  subst ev
  obtain ⟨ar, har, hars⟩ := T.par
  subst hars
  obtain ⟨ccl', cdd, vs', ccs, file, tf, hcode, hvs, hfile⟩ := T.code
  obtain ⟨nm, q, N', bs, bm, sn, sub, ab, col, dd, k0, k1, k2, k3, k5, hC, hbm⟩ := T.exc.cls
  have hclD : PySem.W.clsIn K D = some { name := nm, bases := bs, mro := .ref D :: bm, ns := N', qualname := q, hasDict := true, slotNames := sn, subclasses := sub, abstract := ab, collection := col, hasDel := false } := by unfold PySem.W.clsIn; rw [hC] <;> rfl
  have KX1 : K.In h₁ := KX.keeps kp
  have hD1 := KX1 _ _ hC
  obtain ⟨t1, hx⟩ := exo_at I0.hok ea
  have ndP : [ar.arg, a0].Nodup := by
    have q : (N.take ([ar.arg, a0].length + [("__class__" : Str)].length)).Nodup := S.nd.sublist (List.take_sublist _ N)
    rw [S.pre] at q
    exact (List.nodup_append.mp q).1
  obtain ⟨pl, hev⟩ := hev (envF F f s.heap.objs.size)
  refine PySem.ks_wpAt_execs_cons (PySem.ks_wpAt_Expr_any (PySem.ks_wpAt_MethodCall ?_ hev) (hi A outer s H E) (hsw _))
  refine PySem.ks_wpAt_super_base (ar := ar) (vs := vs') (file := file) (tf := tf) T.nms (S.frk _ (by simp)) (by decide) rfl (kp _ _ (KX _ _ lk)) rfl har rfl (kp _ _ (KX _ _ hcode)) rfl hvs hfile T.top ?_
  obtain ⟨mb, hb1, hb2⟩ := I0.mod.blt
  refine PySem.W.ks_loadName_global S.kind T.nms (Calls.loadGlobal_builtin (I0.mod.glob.keeps I0.bk) mS (hb1.keeps I0.bk) ((hb2 "super" (by decide)).trans (show bootBuiltins "super" = some (.type "super") by decide +kernel)) ⟨rfl, ?_⟩)
  refine wpAny_loadName_free S.kind (S.frk _ (by simp)) (show F.cl.lookup _ = _ by rw [hcl]; rfl) ⟨_, KX1 _ _ hcell, rfl⟩ ?_
  have hv : ([ar.arg, a0].zip us).reverse.lookup ar.arg = some (.ref a) := by
    cases r with
    | @cons _ u0 _ ur ra rw' =>
      obtain rfl : u0 = Value.ref a := ra
      exact zip_look (ps := [ar.arg, a0]) (i := 0) ndP rfl rfl
  refine wpAny_loadName_local S.kind (S.par _ (by simp)) hns hv ?_
  refine PySem.ks_wpAny_isType_cls hD1 rfl ⟨rfl, ?_⟩
  refine PySem.ks_wpAny_call_super hD1 rfl hx rfl (fun c e => by cases e) (PySem.W.looks_mroIn KX1 T.sub) (fun h2 e2 k2' => ?_)
  have I1 := I0.kept (t' := s.toks + ([ar.arg, a0].zip us).length) k2'
  have KX2 : K.In h2 := KX1.keeps k2'
  have IA : PySem.W.InstAt h2 a { cls := .ref D, dict := none, data := .fields #[.ref t1, .none, .none, .none, .bool false, .none] } D none := ⟨k2' _ _ hx, rfl, rfl, trivial⟩
  have hf : PySem.W.alongIn K "__init__" (((Value.ref D :: bm).dropWhile (· != .ref D)).drop 1) = some (some (.builtin "ValueError.__init__")) := by
    have z := T.ini
    unfold PySem.W.ks_superIn at z
    rw [hclD] at z
    exact z
  refine PySem.W.kxs_getMethod PySem.W.kxs_ValueError e2 (PySem.W.looks_opaque KX2 T.opq) (looks_mroOf KX2 hclD) rfl KX2 hf (IA.type.andThen (PySem.W.looks_subIn KX2 T.base)) (PySem.W.ks_ne KX2 IA hclD) (by decide) ?_
  have I2 := I1.kept (h' := h2.push (PySem.W.kxs_mw "ValueError.__init__" a)) (t' := s.toks + ([ar.arg, a0].zip us).length + 1) fun b u z => Heap.get?_push_of_some _ z
  have I3 : Inv (ncx CX P w K mg base N F f A outer s H E) [(h2.objs.size, PySem.W.kxs_mw "ValueError.__init__" a)] (startF N [.ref a, y] [none]) H ⟨h2.push (PySem.W.kxs_mw "ValueError.__init__" a), s.gens, s.drawn, s.toks + ([ar.arg, a0].zip us).length + 1, s.os⟩ := I2.pins_of fun p hp => by
    have hp : p = (h2.objs.size, PySem.W.kxs_mw "ValueError.__init__" a) := by simpa using hp
    subst hp
    exact ⟨Heap.get?_push_size _ rfl, I1.hok.fresh (Nat.le_refl _), Nat.ne_of_gt I1.lt, I1.nofs (Nat.le_refl _), fun v z => by cases z⟩
  obtain ⟨te, hPA, hte⟩ := harg A outer s H E
  refine cw1 (i := "ValueError.__init__") (x := a) (thn (hPA.run p3 _ _ _ H (fun vs H1 => H1 = H ∧ vs.length ≤ 1000) I3 (hte a y H hok ea _ fun vs hz => ⟨rfl, hz⟩)) fun us' s1 hh => ?_) (hse _) rfl
  obtain ⟨vs1, H1, I4, r1, rfl, hz⟩ := hh
  have hpin := (I4.pin _ (List.mem_append_right _ (List.mem_singleton.mpr rfl))).1
  refine ⟨hpin, ?_⟩
  obtain ⟨hp, g, dr, tk, os⟩ := s1
  obtain ⟨t2, ho⟩ := exo_at I4.hok ea
  refine call_bwV (I4.kIn _ _ hC) ho hpin (by rw [← Paired.length r1, sizeLine_eq]; omega) fun h3 t3 k3' hx3 => ?_
  have J := I4.write (t' := tk) (x := a) (e := a) (o := exo a D none) (by rw [ea]; exact True.intro) (.inl rfl) k3' ⟨_, hx3⟩ (exo_ok hx3)
  have eu : upd H1 a (exo a D none) = H1 := by
    funext b
    by_cases hb : b = a
    · rw [hb, upd_same, ea]
    · rw [upd_ne hb]
  rw [eu] at J
  have J' : Inv (ncx CX P w K mg base N F f A outer s H1 E) [] (startF N [.ref a, y] [none]) H1 ⟨h3, g, dr, tk, os⟩ := J.pins_of fun p hp => absurd hp (by simp)
  refine wpAt_of_wpAny (wpAny_mono ((hst A outer s H1 E).run [] _ _ H1 { nx := fun _ H' => Q .non H', rt := Q } J' ⟨y, rfl, .ref a, rfl, a, D, rfl, T.exc, hno, .inl ⟨ea, hq⟩⟩) (fun fl s' hs => ?_) fun e s' hs => hs)
  have fin : ∀ {σ' : L2.St} {H' : Hp} {v : V} {u : Value}, Inv (ncx CX P w K mg base N F f A outer s H1 E) [] σ' H' s' → L2.RelV v u → Q v H' → CE outer P w H1 s Q u s' :=
    fun {σ' H' v u} J rv q => ⟨v, H', J.os, J.bare, J.base, J.hok, rv, q⟩
  cases fl with
  | ret u =>
    obtain ⟨v, σ', H', J, rv, q⟩ := hs
    exact fin J rv q
  | next =>
    obtain ⟨σ', H', J, q⟩ := hs
    exact fin (v := V.non) (u := Value.none) J rfl q
  | brk =>
    obtain ⟨_, _, _, q⟩ := hs
    exact False.elim q
  | cont =>
    obtain ⟨_, _, _, q⟩ := hs
    exact False.elim q
end
end Ksi

/-! has_end, unbounded_at -/
namespace Kq
open PySem PySem.Spec PyProof.Rows L2 Kf Kg Kv Kk GxR
abbrev tUnb : Stmt := tp 37
namespace Kd
def ms (t : Kd) : List Str := (t.args.filter Kd.mk).map Kd.nmR
def odd (ms lk : List Str) (a : Kd) : Bool := a.isFn && !(a.hasEnd ms lk)
def ubd (t : Kd) (lk : List Str) : Option Nat := t.args.findIdx? (Kd.odd t.ms lk)
end Kd
def onV : Option Nat → V
  | some i => .int (i : Nat)
  | none => .non
theorem sPutS {H G : Hp} {p : Addr} {o : HO} (s : Same H G) (h : H p = none) : Same H (upd G p o) := fun b u e => by
  rw [upd_ne (ne_of_none e h)]
  exact s b u e
theorem fi_some {p : Kd → Bool} : ∀ {l : List Kd} {i : Nat} {a : Kd}, (l.take i).any p = false → l[i]? = some a → p a = true → l.findIdx? p = some i
  | [], _, _, _, h, _ => by simp at h
  | b :: l, 0, a, _, h, hp => by
    have e : b = a := by simpa using h
    subst e
    rw [List.findIdx?_cons, hp]
    rfl
  | b :: l, i + 1, a, h1, h2, hp => by
    rw [List.take_succ_cons, List.any_cons, Bool.or_eq_false_iff] at h1
    rw [List.findIdx?_cons, h1.1, fi_some (i := i) h1.2 (by simpa using h2) hp]
    rfl
theorem fi_none {p : Kd → Bool} : ∀ {l : List Kd}, l.any p = false → l.findIdx? p = none
  | [], _ => rfl
  | b :: l, h => by
    rw [List.any_cons, Bool.or_eq_false_iff] at h
    rw [List.findIdx?_cons, h.1, fi_none h.2]
    rfl
section
variable {P : Program} {w : World} {K : PySem.W.Frag} {mg : Str → Option Value} {base : Heap}
abbrev nEnd : List Str := ["argument", "made", "looked"]
theorem scEnd : FnScope nEnd nEnd (defScope tEnd) := ⟨rfl, rfl, rfl, by decide +kernel, rfl, by decide +kernel, by decide +kernel⟩
def spEnd (K : PySem.W.Frag) (T : List Addr) : Sp := fun vs H Q _ => ∃ (v : V) (m l : Addr) (t : Kd) (ms lk : List Str), vs = [v, .ref m, .ref l] ∧ Rp K H t v ∧ Few t ∧ H m = some (.lst (ms.map V.str)) ∧ H l = some (.tup (lk.map V.str)) ∧ TbS T H ∧ ∀ G : Hp, Sm T H G → Q (.bl (t.hasEnd ms lk)) G
theorem allFlat (xs : List Str) : (xs.map V.str).all flatV = true := by
  rw [List.all_map]
  exact List.all_eq_true.mpr fun _ _ => rfl
/-- the name that a maker makes -/
theorem Rp.op {H : Hp} {t : Kd} {v : V} (r : Rp K H t v) (e : t.isOp = true) : ∃ a x, v = .ref a ∧ t = .opn x ∧ Sq K H a [.str "open", .str x] := by
  cases t with
  | opn x =>
    obtain ⟨a, e, g⟩ := r
    exact ⟨a, x, e, rfl, g⟩
  | _ => cases e
theorem nmR_op {t : Kd} {x : Str} (h : t.res = .opn x) : t.nmR = x := by
  unfold Kd.nmR
  rw [h]
theorem okEnd {f fM fR fA : Addr} {fd fdM fdR fdA : FuncData} {k : Nat} {T : List Addr} (F : Fun K "has_end" "has_end" tEnd f fd)
    (GM : FnOk P w K mg base CX0 k fM fdM ["argument"] (spMakers K)) (bM : Binds K fdM ["argument"] []) (gM : mg "is_makers" = some (.ref fM)) (kM : PySem.W.keepIn K (.ref fM) = true)
    (GR : FnOk P w K mg base CX0 k fR fdR ["kind"] (spRes K)) (bR : Binds K fdR ["kind"] []) (gR : mg "result_of" = some (.ref fR)) (kR : PySem.W.keepIn K (.ref fR) = true)
    (GA : FnOk P w K mg base CX0 k fA fdA nAsk (spAskers K T)) (bA : Binds K fdA nAsk []) (gA : mg "is_askers" = some (.ref fA)) (kA : PySem.W.keepIn K (.ref fA) = true) : FnOk P w K mg base CX0 (k + 1) f fd nEnd (spEnd K T) := by
  refine F.ok scEnd (fun vs H Q E h => ?_) (fun cdv A outer s H vs Q E hr h => ?_)
  · obtain ⟨v, m, l, t, ms, lk, rfl, _⟩ := h
    rfl
  obtain ⟨v, m, l, t, ms, lk, rfl, r, few, hm, hl, tb, q⟩ := h
  refine ⟨_, pss_cons (ps_if (pt_val (pe_call GM hr (by rfl) gM kM bM .nil pass0 (pa_cons (pv 0) pa_nil)))
      (pss_one (ps_ret (pe_cmpR op_notIn_seq (pe_ix ix_tup (pe_call GR hr (by rfl) gR kR bR .nil pass0 (pa_cons (pv 0) pa_nil)) pe_int (fun _ _ => rfl)) (pv 2) rfl))) pss_nil)
    (pss_one (ps_ret (pe_call GA hr (by rfl) gA kA bA .nil pass0 (pa_cons (pv 0) (pa_cons (pv 1) pa_nil))))), ?_⟩
  refine ⟨_, rfl, v, t, rfl, r, _, rfl, ite2 (fun e => ?_) (fun e => ?_)⟩
  · refine ⟨_, rfl, v, t, rfl, r, fun u ru => ?_⟩
    obtain ⟨a, x, rfl, ex, ha⟩ := ru.op (by unfold Kd.mk at e; exact (Bool.and_eq_true_iff.mp e).2)
    refine ⟨a, _, _, _, rfl, rfl, ha.t, atI_nat (j := 1) rfl, _, rfl, l, _, rfl, .inr (SqT.of hl), rfl, allFlat lk, ?_⟩
    have z : t.hasEnd ms lk = !inV (.str x) (lk.map V.str) := by
      unfold Kd.hasEnd
      rw [if_pos e, nmR_op ex, inV_strs]
    have q := q H (Sm.refl tb)
    rw [z] at q
    exact q
  · refine ⟨_, rfl, _, rfl, v, m, t, ms, rfl, r, few, hm, tb, fun G sG => ?_⟩
    have z : t.hasEnd ms lk = t.ask ms := by
      unfold Kd.hasEnd
      rw [if_neg e]
    have q := q G sG
    rw [z] at q
    exact q
/-! unbounded_at -/
abbrev nUnb : List Str := ["kind", "looked", "arguments", "made", "number", "argument"]
abbrev psUnb : List Str := ["kind", "looked"]
theorem scUnb : FnScope nUnb psUnb (defScope tUnb) := ⟨rfl, rfl, rfl, by decide +kernel, rfl, by decide +kernel, by decide +kernel⟩
def spUnb (K : PySem.W.Frag) (T : List Addr) : Sp := fun vs H Q _ => ∃ (v : V) (l : Addr) (t : Kd) (lk : List Str), vs = [v, .ref l] ∧ Rp K H t v ∧ t.size ≤ 900 ∧ (∀ a ∈ t.args, Few a) ∧ H l = some (.tup (lk.map V.str)) ∧ TbS T H ∧ ∀ G : Hp, Sm T H G → Q (onV (t.ubd lk)) G
theorem okUnb {f fM fR fA fL fE : Addr} {fd fdM fdR fdA fdL fdE : FuncData} {k : Nat} {T : List Addr} (F : Fun K "unbounded_at" "unbounded_at" tUnb f fd)
    (GA : FnOk P w K mg base CX0 k fA fdA ["kind"] (spArgs K)) (bA : Binds K fdA ["kind"] []) (gA : mg "arguments_of" = some (.ref fA)) (kA : PySem.W.keepIn K (.ref fA) = true)
    (GM : FnOk P w K mg base CX0 k fM fdM ["argument"] (spMakers K)) (bM : Binds K fdM ["argument"] []) (gM : mg "is_makers" = some (.ref fM)) (kM : PySem.W.keepIn K (.ref fM) = true)
    (GR : FnOk P w K mg base CX0 k fR fdR ["kind"] (spRes K)) (bR : Binds K fdR ["kind"] []) (gR : mg "result_of" = some (.ref fR)) (kR : PySem.W.keepIn K (.ref fR) = true)
    (GL : FnOk P w K mg base CX0 k fL fdL ["kind"] (spLeads K)) (bL : Binds K fdL ["kind"] []) (gL : mg "leads" = some (.ref fL)) (kL : PySem.W.keepIn K (.ref fL) = true)
    (GE : FnOk P w K mg base CX0 k fE fdE nEnd (spEnd K T)) (bE : Binds K fdE nEnd []) (gE : mg "has_end" = some (.ref fE)) (kE : PySem.W.keepIn K (.ref fE) = true)
    (me : mg "enumerate" = none) : FnOk P w K mg base CX0 (k + 1) f fd psUnb (spUnb K T) := by
  refine F.ok scUnb (fun vs H Q E h => ?_) (fun cdv A outer s H vs Q E hr h => ?_)
  · obtain ⟨v, l, t, lk, rfl, _⟩ := h
    rfl
  obtain ⟨v, l, t, lk, rfl, r, hz, few, hl, tb, q⟩ := h
  refine ⟨_, pss_cons (ps_set (i := 2) scUnb.nd rfl (.inl rfl) (pe_call GA hr (by rfl) gA kA bA .nil pass0 (pa_cons (pv 0) pa_nil)))
    (pss_cons (ps_setLc (i := 3) (own := [("argument", 5)]) (g := gName 5) (by rfl) scUnb.nd rfl rfl (sw_true rfl rfl rfl (by decide +kernel)) (pi_tup (pv 2)) (blkOk_by (own := [("argument", 5)]) (N := nUnb) (sc := defScope tUnb) (by decide +kernel))
      (fun _ _ _ _ _ => pg_name (i := 5) scUnb.nd rfl (.inl rfl)) (fun _ _ _ _ _ => pts_one (pt_val (pe_call GM hr (by rfl) gM kM bM .nil pass0 (pa_cons (pv 5) pa_nil)))) (fun _ _ _ _ _ => pe_ix (ixTK K rfl) (pe_call GR hr (by rfl) gR kR bR .nil pass0 (pa_cons (pv 5) pa_nil)) pe_int (fun _ _ => rfl)))
    (pss_cons (ps_for PassesOwn.never rfl (pi_enumT (by rfl) me (pa_cons (pv 2) pa_nil)) (pg_tup rfl (pgs_cons (pg_name (i := 4) scUnb.nd rfl (.inl rfl)) (pgs_cons (pg_name (i := 5) scUnb.nd rfl (.inl rfl)) pgs_nil)))
      (pss_one (ps_if (PW.pt (pw_and (pt_val (pe_call GL hr (by rfl) gL kL bL .nil pass0 (pa_cons (pv 5) pa_nil))) (pw_and1 (pt_not (pt_val (pe_call GE hr (by rfl) gE kE bE .nil pass0 (pa_cons (pv 5) (pa_cons (pv 3) (pa_cons (pv 1) pa_nil))))))))) (pss_one (ps_ret (pv 4))) pss_nil)))
    (pss_one (ps_ret pe_non)))), ?_⟩
  refine ⟨_, rfl, v, t, rfl, r, hz, fun a us G1 s1 ga ra => ?_⟩
  refine ⟨_, rfl, a, rfl, ⟨_, SqT.of ga⟩, fun D nD => ?_⟩
  refine lc_tup (xs := us) (fun i G => Same G1 G ∧ G D = some (.lst ((((t.args.take i).filter Kd.mk).map Kd.nmR).map V.str))) ⟨newS nD, upd_same⟩ (fun i G _ z => SqT.of (z.1 _ _ ga)) (fun i x G hx z => ?_) (fun G z => ?_)
  · obtain ⟨sG, gD⟩ := z
    obtain ⟨d, hd, rd⟩ := ra.get hx
    have rd := rd.tk (Tk.of sG)
    refine ⟨rfl, _, rfl, x, d, rfl, rd, _, rfl, ite2 (fun e => ?_) (fun e => ?_)⟩
    · refine ⟨_, rfl, x, d, rfl, rd, fun u ru => ?_⟩
      obtain ⟨b, y, rfl, ey, hb⟩ := ru.op (by unfold Kd.mk at e; exact (Bool.and_eq_true_iff.mp e).2)
      refine ⟨b, _, _, _, rfl, rfl, hb.t, atI_nat (j := 1) rfl, _, gD, ?_, sPutS sG nD, ?_⟩
      · rw [List.length_map, List.length_map]
        have l1 := List.length_filter_le Kd.mk (t.args.take i)
        have l2 : (t.args.take i).length ≤ t.args.length := List.length_take_le' i t.args
        have l3 := Kd.args_le t
        exact small1000 (by omega)
      · rw [upd_same, List.take_add_one, hd, List.filter_append, List.map_append, List.map_append]
        have z : (d :: []).filter Kd.mk = [d] := by rw [List.filter_cons, if_pos e]; rfl
        show some (HO.lst (_ ++ [V.str y])) = some (HO.lst (_ ++ List.map V.str (List.map Kd.nmR (List.filter Kd.mk [d]))))
        rw [z, List.map_cons, List.map_cons, nmR_op ey]
        rfl
    · refine ⟨sG, ?_⟩
      rw [gD, List.take_add_one, hd, List.filter_append, List.map_append, List.map_append]
      have z : (d :: []).filter Kd.mk = [] := by rw [List.filter_cons, if_neg e]; rfl
      show some (HO.lst _) = some (HO.lst (_ ++ List.map V.str (List.map Kd.nmR (List.filter Kd.mk [d]))))
      rw [z]
      simp
  · obtain ⟨sG, gD⟩ := z
    rw [← ra.len, List.take_length] at gD
    have gD : G D = some (.lst (t.ms.map V.str)) := gD
    have s2 : Same H G := s1.trans sG
    have tb2 := tb.same s2
    have ga2 := sG _ _ ga
    have ra2 := ra.tk (Tk.of sG)
    have hl2 := s2 _ _ hl
    refine ⟨_, rfl, a, us, rfl, SqT.of ga2, for_it (walk_enumT (xs := us)) (fun i σ F => ∃ y4 y5, σ = [some v, some (.ref l), some (.ref a), some (.ref D), y4, y5] ∧ Sm T G F ∧ ((t.args.take i).any (Kd.odd t.ms lk)) = false)
      ⟨none, none, rfl, Sm.refl tb2, rfl⟩ (fun i σ F _ z => ?_) (fun i v0 σ F F' hi z yy => ?_) (fun σ F z => ?_)⟩
    · obtain ⟨_, _, _, sF, _⟩ := z
      exact SqT.of (sF.at tb2 ga2 fun _ z => by cases z)
    · obtain ⟨y4, y5, rfl, sF, al⟩ := z
      obtain ⟨X, x0, u0, rfl, nX, rfl, ex, hu0⟩ := yy
      obtain rfl : x0 = .int (i : Int) := (Option.some.inj ex).symm
      obtain ⟨d, hd, rd⟩ := ra2.get hu0
      have sN : Sm T G (upd F X (.tup [.int (i : Int), u0])) := sF.new (sF.free nX) tb2
      have gX : (upd F X (.tup [.int (i : Int), u0])) X = some (.tup [.int (i : Int), u0]) := upd_same
      generalize upd F X (.tup [.int (i : Int), u0]) = F2 at sN gX
      have rd := rd.tk (smTk sN tb2)
      have md := List.mem_of_getElem? hd
      have step : d.odd t.ms lk = false → ((t.args.take (i + 1)).any (Kd.odd t.ms lk)) = false := fun h => by
        rw [List.take_add_one, hd, List.any_append, al]
        simpa using h
      refine ⟨X, _, rfl, SqT.of gX, rfl, _, _, rfl, _, _, rfl, rfl, ?_⟩
      refine ⟨_, rfl, u0, d, rfl, rd, _, rfl, ite2 (fun e => ?_) (fun e => ⟨_, _, rfl, sN, step (by unfold Kd.odd; rw [Bool.eq_false_iff.mpr e]; rfl)⟩)⟩
      refine ⟨_, rfl, _, rfl, _, rfl, u0, D, l, d, t.ms, lk, rfl, rd, few d md, sN.at tb2 gD (fun _ z => by cases z), sN.at tb2 hl2 (fun _ z => by cases z), sN.2, fun F3 s3 => ?_⟩
      have eo : d.odd t.ms lk = !(d.hasEnd t.ms lk) := by
        unfold Kd.odd
        rw [e, Bool.true_and]
      refine ⟨_, rfl, ite2 (fun e2 => ?_) (fun e2 => ⟨_, _, rfl, sN.trans s3, step (by rw [eo]; exact Bool.eq_false_iff.mpr e2)⟩)⟩
      have z : t.ubd lk = some i := fi_some al hd (by rw [eo]; exact e2)
      have q := q F3 (((Sm.of s2 tb).trans sN).trans s3)
      rw [z] at q
      exact ⟨_, rfl, q⟩
    · obtain ⟨y4, y5, rfl, sF, al⟩ := z
      rw [← ra.len, List.take_length] at al
      have z : t.ubd lk = none := fi_none al
      have q := q F ((Sm.of s2 tb).trans sF)
      rw [z] at q
      exact q
end
end Kq

/-! Unbounded's __init__; tries_of where there is no end -/
namespace Kq
open PySem PySem.Spec PyProof.Rows L2 Kf Kg Kv Kk GxR NdefX
def okArg (v : V) (_ : Hp) : Prop := ∃ n : Int, v = .int n ∧ 0 ≤ n ∧ n ≤ 3
/-- the own __init__ of the class at D -/
structure Ini (P : Program) (w : World) (K : PySem.W.Frag) (mg : Str → Option Value) (base : Heap) (k : Nat) (D : Addr) (a0 fl : Str) : Prop where
  ex : ∃ (fI : Addr) (fdI : FuncData), PySem.W.findIn K (.ref D) "__init__" = some (some (.ref fI)) ∧ PySem.W.typeIn K (.ref fI) = some (.type "function") ∧ FnOk P w K mg base CX0 k fI fdI ["self", a0] (Ksi.spIni D okArg fl) ∧ Binds K fdI ["self", a0] []
theorem mkS {H : Hp} {a b D : Addr} {fs : List (Str × V)} (na : H a = none) (nb : H b = none) : Same H (upd (del (upd (upd (upd H a (exo a D none)) b (exd b fs)) a (exo a D (some b))) a) b (.xd fs)) := fun x o e => by
  rw [upd_ne (ne_of_none e nb), del_ne (ne_of_none e na), upd_ne (ne_of_none e na), upd_ne (ne_of_none e nb), upd_ne (ne_of_none e na)]
  exact e
def ini (i : Nat) : Stmt := (C8.clsBody (tp i)).getD 0 (.Pass ⟨0, 0, 0, 0⟩)
abbrev tTries : Stmt := tp 41
section
variable {P : Program} {w : World} {K : PySem.W.Frag} {mg : Str → Option Value} {base : Heap}
theorem ini12 {D cc cI fI : Addr} {doc pm ctv oc : Value} {od : Option Addr} {osl : Array (Option Value)} {k : Nat} (fdE : FuncData) (hfd : fdE = (NF.mk "__init__" "Unbounded.__init__" (defArgs (ini 12)) (defBody (ini 12)) (defScope (ini 12)) [(("__class__" : Str), cc)] cI).fd doc pm ctv) (lk : K.lookup fI = some (⟨oc, od, .func fdE, osl⟩ : Obj)) (hcd : PySem.W.codeIn K (.ref cI) "Unbounded.__init__" = true)
    (T : Ksi.SupC P K (NF.mk "__init__" "Unbounded.__init__" (defArgs (ini 12)) (defBody (ini 12)) (defScope (ini 12)) [(("__class__" : Str), cc)] cI) D "self") (mS : mg "super" = none) (hno : PySem.W.findIn K (.ref D) "argument" = some none) (hI : PySem.W.findIn K (.ref D) "__init__" = some (some (.ref fI))) (tI : PySem.W.typeIn K (.ref fI) = some (.type "function")) : Ini P w K mg base (k + 1) D "argument" "argument" := by
  subst hfd
  refine ⟨fI, _, hI, tI, Ksi.fn_sup (N := ["self", "argument", "__class__"]) (fld := "argument") lk hcd (nscope_by (show nscB ["self", "argument", "__class__"] ["self", "argument"] ["__class__"] (defScope (ini 12)) = true by decide +kernel)) T mS rfl (fun A outer s H E => ⟨_, pa_cons (pe_joined (.cons pe_str (.cons (pe_fmt (pv 1)) .nil))) pa_nil, fun a y H' hy ha Q hQ => ?_⟩) (fun A outer s H E => pss_one (ps_ost (pv 0) (pv 1))) hno (fun env => rfl) (fun env => ⟨_, rfl⟩) (fun env => rfl) (fun A outer s H E => rfl), .all fun us hl => match us, hl with | [_, _], _ => rfl⟩
  obtain ⟨n, rfl, n0, n3⟩ := hy
  have z : n = 0 ∨ n = 1 ∨ n = 2 ∨ n = 3 := by omega
  rcases z with rfl | rfl | rfl | rfl <;> exact ⟨_, rfl, by decide +kernel, _, rfl, .inr ⟨_, rfl, by decide, _, rfl, by decide +kernel, hQ _ (by show 1 ≤ 1000; decide)⟩⟩
/-- the class Unbounded -/
structure TU (K : PySem.W.Frag) (mg : Str → Option Value) (cU : Addr) : Prop where
  gP : mg "Unbounded" = some (.ref cU)
  oe : OexC K cU
abbrev nTries : List Str := ["kind", "looked", "bound", "number", "arguments", "runs", "argument", "tries", "worths", "came"]
abbrev psTries : List Str := ["kind", "looked", "bound"]
theorem scTries : FnScope nTries psTries (defScope tTries) := ⟨rfl, rfl, rfl, by decide +kernel, rfl, by decide +kernel, by decide +kernel⟩
def spTries (K : PySem.W.Frag) (T : List Addr) (cU : Addr) : Sp := fun vs H Q E => ∃ (v b : V) (l : Addr) (t : Kd) (lk : List Str) (i : Nat), vs = [v, .ref l, b] ∧ Rp K H t v ∧ t.size ≤ 900 ∧ (∀ a ∈ t.args, Few a) ∧ t.args.length ≤ 4 ∧ H l = some (.tup (lk.map V.str)) ∧ TbS T H ∧ t.ubd lk = some i ∧
  ∀ (x : Addr) (G : Hp), Sm T H G → G x = some (.xd [("argument", .int (i : Nat))]) → E (.ref cU) (some x) G
theorem fi_lt {p : Kd → Bool} : ∀ {l : List Kd} {i : Nat}, l.findIdx? p = some i → i < l.length
  | [], _, h => by simp at h
  | b :: l, i, h => by
    rw [List.findIdx?_cons] at h
    split at h
    · cases h; exact Nat.succ_pos _
    · obtain ⟨j, hj, rfl⟩ := Option.map_eq_some_iff.mp h
      exact Nat.succ_lt_succ (fi_lt hj)
theorem okTries {f fU : Addr} {fd fdU : FuncData} {k : Nat} {T : List Addr} {cU : Addr} (F : Fun K "tries_of" "tries_of" tTries f fd) (tu : TU K mg cU) (i12 : Ini P w K mg base k cU "argument" "argument")
    (GU : FnOk P w K mg base CX0 (k + 1) fU fdU psUnb (spUnb K T)) (bU : Binds K fdU psUnb []) (gU : mg "unbounded_at" = some (.ref fU)) (kU : PySem.W.keepIn K (.ref fU) = true) : FnOk P w K mg base (L2.CX P w) (k + 2) f fd psTries (spTries K T cU) := by
  refine F.okX scTries (fun vs H Q E h => ?_) (fun cdv A outer s H vs Q E hr h => ?_)
  · obtain ⟨_, _, _, _, _, _, rfl, _⟩ := h
    rfl
  obtain ⟨v, b, l, t, lk, i, rfl, r, hz, few, h4, hl, tb, hu, q⟩ := h
  obtain ⟨f12, d12, a12, b12, c12, e12⟩ := i12.ex
  refine ⟨_, pss_cons (ps_set (i := 3) scTries.nd rfl (.inl rfl) (pe_call GU hr (by rfl) gU kU bU .nil pass0 (pa_cons (pv 0) (pa_cons (pv 1) pa_nil))))
    (pss_cons (ps_if (pt_cmpR op_notN (pv 3) pe_non (nomark _)) (pss_one (ps_raise rfl (takes_of rfl rfl rfl rfl) (pmk_oex tu.oe a12 b12 c12 hr e12 .nil pass0 (by rfl) tu.gP (pa_cons (pv 3) pa_nil)))) pss_nil) pss_no), ?_⟩
  refine ⟨_, rfl, _, rfl, v, l, t, lk, rfl, r, hz, few, hl, tb, fun G sG => ?_⟩
  rw [hu]
  refine ⟨_, rfl, rfl, _, rfl, ite2 (fun _ => ?_) (fun e => absurd (by show (!decide (V.int ((i : Nat) : Int) = V.non)) = true; rw [decide_eq_false (fun z => V.noConfusion z)]; rfl) e)⟩
  have hi := fi_lt hu
  refine ⟨_, rfl, (by show 1 ≤ 1000; decide), fun a na => ⟨a, _, rfl, upd_same, ⟨_, rfl, by omega, by omega⟩, fun x nx ne => ?_⟩⟩
  have nx' : G x = none := by rw [upd_ne ne] at nx; exact nx
  exact ⟨rfl, x, _, upd_same, (by rw [upd_ne ne, upd_same]), nx', q x _ (sG.trans (Sm.of (mkS na nx') sG.2)) (by rw [upd_same]; rfl)⟩
end
end Kq

/-! kinds drawn -/
namespace Kq
open PySem PySem.Spec PyProof.Rows L2 Kf Kg Kv Kk
def Rp0 (H : Hp) : Kd → V → Prop
  | .opn x, v => ∃ a, v = .ref a ∧ H a = some (.tup [.str "open", .str x])
  | .num, v => ∃ a, v = .ref a ∧ H a = some (.tup [.str "num"])
  | .tru, v => ∃ a, v = .ref a ∧ H a = some (.tup [.str "truth"])
  | .pair s t, v => ∃ a x y, v = .ref a ∧ H a = some (.tup [.str "pair", x, y]) ∧ Rp0 H s x ∧ Rp0 H t y
  | .eith s t, v => ∃ a x y, v = .ref a ∧ H a = some (.tup [.str "either", x, y]) ∧ Rp0 H s x ∧ Rp0 H t y
  | .lst s, v => ∃ a x, v = .ref a ∧ H a = some (.tup [.str "list", x]) ∧ Rp0 H s x
  | .fn s t, v => ∃ a x y, v = .ref a ∧ H a = some (.tup [.str "fun", x, y]) ∧ Rp0 H s x ∧ Rp0 H t y
def RpL0 (H : Hp) : List Kd → List V → Prop
  | [], [] => True
  | t :: ts, v :: vs => Rp0 H t v ∧ RpL0 H ts vs
  | _, _ => False
theorem Rp0.tk {H G : Hp} (k : Tk H G) : ∀ {t : Kd} {v : V}, Rp0 H t v → Rp0 G t v := by
  intro t
  induction t with
  | opn x => exact fun ⟨a, e, h⟩ => ⟨a, e, k _ _ h⟩
  | num => exact fun ⟨a, e, h⟩ => ⟨a, e, k _ _ h⟩
  | tru => exact fun ⟨a, e, h⟩ => ⟨a, e, k _ _ h⟩
  | pair s t i j => exact fun ⟨a, x, y, e, h, p, q⟩ => ⟨a, x, y, e, k _ _ h, i p, j q⟩
  | eith s t i j => exact fun ⟨a, x, y, e, h, p, q⟩ => ⟨a, x, y, e, k _ _ h, i p, j q⟩
  | lst s i => exact fun ⟨a, x, e, h, p⟩ => ⟨a, x, e, k _ _ h, i p⟩
  | fn s t i j => exact fun ⟨a, x, y, e, h, p, q⟩ => ⟨a, x, y, e, k _ _ h, i p, j q⟩
theorem rp0_rp {K : PySem.W.Frag} {H : Hp} : ∀ {t : Kd} {v : V}, Rp0 H t v → Rp K H t v := by
  intro t
  induction t with
  | opn x => exact fun ⟨a, e, h⟩ => ⟨a, e, .inl h⟩
  | num => exact fun ⟨a, e, h⟩ => ⟨a, e, .inl h⟩
  | tru => exact fun ⟨a, e, h⟩ => ⟨a, e, .inl h⟩
  | pair s t i j => exact fun ⟨a, x, y, e, h, p, q⟩ => ⟨a, x, y, e, .inl h, i p, j q⟩
  | eith s t i j => exact fun ⟨a, x, y, e, h, p, q⟩ => ⟨a, x, y, e, .inl h, i p, j q⟩
  | lst s i => exact fun ⟨a, x, e, h, p⟩ => ⟨a, x, e, .inl h, i p⟩
  | fn s t i j => exact fun ⟨a, x, y, e, h, p, q⟩ => ⟨a, x, y, e, .inl h, i p, j q⟩
theorem RpL0.tk {H G : Hp} (k : Tk H G) : ∀ {ts : List Kd} {vs : List V}, RpL0 H ts vs → RpL0 G ts vs
  | [], [], _ => trivial
  | _ :: _, _ :: _, h => ⟨h.1.tk k, RpL0.tk k h.2⟩
  | [], _ :: _, h => h.elim
  | _ :: _, [], h => h.elim
theorem RpL0.len {H : Hp} : ∀ {ts : List Kd} {vs : List V}, RpL0 H ts vs → ts.length = vs.length
  | [], [], _ => rfl
  | _ :: _, _ :: _, h => congrArg (· + 1) (RpL0.len h.2)
  | [], _ :: _, h => h.elim
  | _ :: _, [], h => h.elim
theorem RpL0.app {H : Hp} : ∀ {ts us : List Kd} {vs ws : List V}, RpL0 H ts vs → RpL0 H us ws → RpL0 H (ts ++ us) (vs ++ ws)
  | [], _, [], _, _, h => h
  | _ :: _, _, _ :: _, _, h, k => ⟨h.1, RpL0.app h.2 k⟩
  | [], _, _ :: _, _, h, _ => h.elim
  | _ :: _, _, [], _, h, _ => h.elim
theorem RpL0.get {H : Hp} : ∀ {ts : List Kd} {vs : List V} {i : Nat} {v : V}, RpL0 H ts vs → vs[i]? = some v → ∃ t, ts[i]? = some t ∧ Rp0 H t v
  | [], [], i, v, _, e => by simp at e
  | t :: _, w :: _, 0, v, h, e => ⟨t, rfl, by rw [← show w = v from Option.some.inj e]; exact h.1⟩
  | _ :: ts, _ :: vs, i + 1, v, h, e => RpL0.get (ts := ts) (vs := vs) (i := i) h.2 e
  | [], _ :: _, _, _, h, _ => h.elim
  | _ :: _, [], _, _, h, _ => h.elim
theorem RpL0.last {H : Hp} : ∀ {ts : List Kd} {vs : List V}, RpL0 H ts vs → vs ≠ [] → ∃ us u ws w, ts = us ++ [u] ∧ vs = ws ++ [w] ∧ RpL0 H us ws ∧ Rp0 H u w
  | [t], [v], h, _ => ⟨[], t, [], v, rfl, rfl, trivial, h.1⟩
  | t :: t' :: ts, v :: v' :: vs, h, _ => by
    obtain ⟨us, u, ws, w, e1, e2, k, r⟩ := RpL0.last (ts := t' :: ts) (vs := v' :: vs) h.2 (by simp)
    exact ⟨t :: us, u, v :: ws, w, by rw [e1]; rfl, by rw [e2]; rfl, ⟨h.1, k⟩, r⟩
  | [], [], _, n => absurd rfl n
  | [], _ :: _, h, _ => h.elim
  | _ :: _, [], h, _ => h.elim
  | [_], _ :: _ :: _, h, _ => h.2.elim
  | _ :: _ :: _, [_], h, _ => h.2.elim
/-- the tuple at v: the word, and the rest -/
theorem Rp0.see {H : Hp} {t : Kd} {v : V} (h : Rp0 H t v) : ∃ a vs, v = .ref a ∧ H a = some (.tup (.str t.word :: vs)) ∧ ((t.isOp = false ∧ RpL0 H t.kids vs) ∨ ∃ x, t = .opn x ∧ vs = [.str x]) := by
  cases t with
  | opn x =>
    obtain ⟨a, e, g⟩ := h
    exact ⟨a, _, e, g, .inr ⟨x, rfl, rfl⟩⟩
  | num =>
    obtain ⟨a, e, g⟩ := h
    exact ⟨a, [], e, g, .inl ⟨rfl, trivial⟩⟩
  | tru =>
    obtain ⟨a, e, g⟩ := h
    exact ⟨a, [], e, g, .inl ⟨rfl, trivial⟩⟩
  | pair s t =>
    obtain ⟨a, x, y, e, g, p, q⟩ := h
    exact ⟨a, _, e, g, .inl ⟨rfl, p, q, trivial⟩⟩
  | eith s t =>
    obtain ⟨a, x, y, e, g, p, q⟩ := h
    exact ⟨a, _, e, g, .inl ⟨rfl, p, q, trivial⟩⟩
  | lst s =>
    obtain ⟨a, x, e, g, p⟩ := h
    exact ⟨a, _, e, g, .inl ⟨rfl, p, trivial⟩⟩
  | fn s t =>
    obtain ⟨a, x, y, e, g, p, q⟩ := h
    exact ⟨a, _, e, g, .inl ⟨rfl, p, q, trivial⟩⟩
def sb : Nat → Nat
  | 0 => 1
  | n + 1 => 2 * sb n + 1
theorem sb_pos (n : Nat) : 1 ≤ sb n := by
  cases n with
  | zero => exact Nat.le_refl _
  | succ n =>
    show 1 ≤ 2 * sb n + 1
    omega
def Kd.isDat : Kd → Bool
  | fn _ _ => false
  | pair a b => a.isDat && b.isDat
  | eith a b => a.isDat && b.isDat
  | lst a => a.isDat
  | _ => true
theorem dpStrs (K : PySem.W.Frag) (H : Hp) : ∀ xs : List Str, DpAll K H (xs.map V.str) (xs.map PyData.str)
  | [] => .nil
  | x :: xs => .cons (.str x) (dpStrs K H xs)
theorem layStrs : ∀ xs : List Str, (∀ x ∈ xs, Nm x) → PyData.canLayAll0 (xs.map PyData.str) = true ∧ PyData.depthAll (xs.map PyData.str) = 0
  | [], _ => ⟨by simp [PyData.canLayAll0], by simp [PyData.depthAll]⟩
  | x :: xs, h => by
    obtain ⟨a, b⟩ := layStrs xs fun y hy => h y (List.mem_cons_of_mem _ hy)
    have c := (h x List.mem_cons_self).ok
    exact ⟨by simp [PyData.canLayAll0, PyData.canLay0, a, c], by simp [PyData.depthAll, PyData.depth, b]⟩
theorem shStrs {xs : List Str} (h : ∀ x ∈ xs, Nm x) : SeqAt.shaped (.list (xs.map PyData.str)) = true := by
  obtain ⟨a, b⟩ := layStrs xs h
  simp [SeqAt.shaped, PyData.canLay0, PyData.depth, a, b]
theorem eqvNil (xs : List Str) : PyData.eqv (.list (xs.map PyData.str)) (.list []) = xs.isEmpty := by
  cases xs <;> simp [PyData.eqv, PyData.eqvAll]
structure Dta (g : Nat) (xs : List Str) (t : Kd) : Prop where
  da : t.isDat = true
  dp : t.dp ≤ g
  sz : t.size ≤ sb g
  op : ∀ x ∈ t.opens, x ∈ xs
abbrev tLData : Stmt := tp 54
abbrev psLData : List Str := ["_law_deck_here", "_law_opens_here", "_law_deep", "_law_small"]
abbrev nLData : List Str := ["_law_deck_here", "_law_opens_here", "_law_deep", "_law_small", "_law_way", "_law_first"]
namespace Kd
theorem size2 (a b : Kd) : (pair a b).size = a.size + b.size + 1 ∧ (eith a b).size = a.size + b.size + 1 ∧ (lst a).size = a.size + 1 := by
  refine ⟨?_, ?_, rfl⟩
  · show (a.nodes ++ b.nodes).length + 1 = _
    rw [List.length_append]
    rfl
  · show (a.nodes ++ b.nodes).length + 1 = _
    rw [List.length_append]
    rfl
end Kd
section
variable {P : Program} {w : World} {K : PySem.W.Frag} {mg : Str → Option Value} {base : Heap}
theorem noFn {f : Addr} {fd : FuncData} {ps : List Str} {sp : Sp} {k : Nat} (no : ∀ vs H Q E, ¬ sp vs H Q E) : FnOk P w K mg base CX0 k f fd ps sp :=
  ⟨fun vs H Q E h => absurd h (no vs H Q E), fun A outer s H args us vs Q E _ _ _ _ h => absurd h (no vs H Q E)⟩

theorem scLData : FnScope nLData psLData (defScope tLData) := ⟨rfl, rfl, rfl, by decide +kernel, rfl, by decide +kernel, by decide +kernel⟩
def spLData (n : Nat) : Sp := fun vs H Q _ => ∃ (d c o : Addr) (xs : List Str) (g : Nat) (b : Bool), vs = [.ref d, .ref o, .int (g : Int), .bl b] ∧ g + 1 ≤ n ∧ Dk H d c ∧ H o = some (.lst (xs.map V.str)) ∧ o ≠ d ∧ o ≠ c ∧ xs.length ≤ 26 ∧ (∀ x ∈ xs, Nm x) ∧
  ∀ (v : V) (t : Kd) (G : Hp), Kp d c H G → Dk G d c → Rp0 G t v → Dta g xs t → Q v G
theorem okLData1 {f fD fP : Addr} {fd fdD fdP : FuncData} {n : Nat} (F : Fun K "_law_data" "_law_data" tLData f fd) (bF : Binds K fd psLData []) (gF : mg "_law_data" = some (.ref f))
    (GD : FnOk P w K mg base CX0 (n + 2) fD fdD ["_law_deck_here", "_law_most"] spDraw) (bD : Binds K fdD ["_law_deck_here", "_law_most"] []) (gD : mg "_law_draw" = some (.ref fD)) (kD : PySem.W.keepIn K (.ref fD) = true)
    (GP : FnOk P w K mg base CX0 (n + 2) fP fdP psPick spPick) (bP : Binds K fdP psPick []) (gP : mg "_law_pick" = some (.ref fP)) (kP : PySem.W.keepIn K (.ref fP) = true) (mi : mg "int" = none)
    (GI : FnOk P w K mg base CX0 (n + 2) f fd psLData (spLData n)) : FnOk P w K mg base CX0 (n + 3) f fd psLData (spLData (n + 1)) := by
  refine F.ok scLData (fun vs H Q E h => ?_) (fun cdv A outer s H vs Q E hr h => ?_)
  · obtain ⟨d, c, o, xs, g, b, rfl, _⟩ := h
    rfl
  obtain ⟨d, c, o, xs, g, b, rfl, hg, dk, ho, od, oc, lx, hx, q⟩ := h
  refine ⟨_, pss_cons (ps_set (i := 4) scLData.nd rfl (.inl rfl) (pe_call GD hr (by rfl) gD kD bD .nil pass0 (pa_cons (pv 0) (pa_cons (pe_ix ix_list (pe_lst (pa_cons pe_int (pa_cons pe_int pa_nil))) (pe_callTy call_int1 (by rfl) mi (by decide +kernel) (pa_cons (pv 3) pa_nil)) (fun _ _ => rfl)) pa_nil))))
    (C8.pss_cut (ps_if (PW.pt (pw_and (pt_cmpR op_lt (pv 4) pe_int (nomark _)) (pw_and1 (pt_cmpR (op_neD hr.units) (pv 1) (pe_lst pa_nil) (nomark _)))))
      (pss_one (ps_ret (pe_tup (pa_cons pe_str (pa_cons (pe_call GP hr (by rfl) gP kP bP .nil pass0 (pa_cons (pv 0) (pa_cons (pv 1) pa_nil))) pa_nil))))) pss_nil)
    (pss_cons (ps_if (PW.pt (pw_or (pt_cmpR op_eq (pv 2) pe_int (nomark _)) (pw_or1 (pt_cmpR op_lt (pv 4) pe_int (nomark _)))))
      (pss_one (ps_ret (pe_call GP hr (by rfl) gP kP bP .nil pass0 (pa_cons (pv 0) (pa_cons (pe_lst (pa_cons (pe_tup (pa_cons pe_str pa_nil)) (pa_cons (pe_ix ix_list (pe_lst (pa_cons (pe_tup (pa_cons pe_str pa_nil)) (pa_cons (pe_tup (pa_cons pe_str pa_nil)) pa_nil))) (pe_callTy call_int1 (by rfl) mi (by decide +kernel) (pa_cons (pv 3) pa_nil)) (fun _ _ => rfl)) pa_nil))) pa_nil))))) pss_nil)
    (pss_cons (ps_if (pt_cmpR op_gt (pv 4) pe_int (nomark _))
      (pss_one (ps_ret (pe_tup (pa_cons pe_str (pa_cons (pe_call GI hr (by rfl) gF F.kp bF .nil pass0 (pa_cons (pv 0) (pa_cons (pv 1) (pa_cons (pe_op op_sub (pv 2) pe_int) (pa_cons (pv 3) pa_nil))))) pa_nil))))) pss_nil)
    (pss_cons (ps_set (i := 5) scLData.nd rfl (.inl rfl) (pe_call GI hr (by rfl) gF F.kp bF .nil pass0 (pa_cons (pv 0) (pa_cons (pv 1) (pa_cons (pe_op op_sub (pv 2) pe_int) (pa_cons (pv 3) pa_nil))))))
    (pss_one (ps_ret (pe_tup (pa_cons (pe_ix ix_list (pe_lst (pa_cons pe_str (pa_cons pe_str pa_nil))) (pe_op op_sub (pv 4) pe_int) (fun _ _ => rfl)) (pa_cons (pv 5) (pa_cons (pe_call GI hr (by rfl) gF F.kp bF .nil pass0 (pa_cons (pv 0) (pa_cons (pv 1) (pa_cons (pe_op op_sub (pv 2) pe_int) (pa_cons (pv 3) pa_nil))))) pa_nil)))))))))), ?_⟩
  obtain ⟨mm, em, mm0, mm1⟩ : ∃ mm : Int, atI [V.int 10, V.int 8] (if b then (1 : Int) else 0) = some (.int mm) ∧ 0 < mm ∧ mm < 1000 := by
    cases b
    · exact ⟨10, rfl, by decide, by decide⟩
    · exact ⟨8, rfl, by decide, by decide⟩
  refine ⟨_, rfl, (by show 2 ≤ sizeLine; decide), fun l0 nl0 => ⟨_, rfl, .inr ⟨b, rfl, l0, _, _, _, rfl, rfl, SqL.of upd_same, em, d, c, mm, rfl, dk.same (newS nl0), mm0, Int.lt_trans mm1 (by decide), fun way G1 w0 w1 kp1' dk1 => ?_⟩⟩⟩
  have kp1 : Kp d c H G1 := (Kp.of (newS nl0)).trans kp1'
  have ho1 := kp1 o _ od oc ho
  refine ⟨fun σ G => σ = [some (.ref d), some (.ref o), some (.int g), some (.bl b), some (.int way), none] ∧ Kp d c H G ∧ Dk G d c ∧ G o = some (.lst (xs.map V.str)), ?_, ?b2⟩
  refine ⟨_, rfl, _, _, rfl, rfl, _, rfl, ?_⟩
  refine ite2 (fun _ => ⟨_, rfl, Nat.zero_le _, fun e ne => ⟨.list (xs.map PyData.str), .list [], .lst (SqL.of (newS ne _ _ ho1)) (dpStrs K _ xs), .lst (SqL.of upd_same) .nil, shStrs hx, rfl, _, rfl, ite2 (fun c1 => ?b1) (fun _ => ⟨rfl, kp1.trans (Kp.of (newS ne)), dk1.same (newS ne), newS ne _ _ ho1⟩)⟩⟩) (fun _ => iteF ⟨rfl, kp1, dk1, ho1⟩)
  case b1 =>
    have ho2 := newS (o := .lst []) ne _ _ ho1
    have dk2 := dk1.same (newS (o := .lst []) ne)
    have kp2 : Kp d c H (upd G1 e (.lst [])) := kp1.trans (Kp.of (newS ne))
    rw [eqvNil] at c1
    have l0 : 0 < xs.length := by
      cases xs with
      | nil => cases c1
      | cons x r => exact Nat.succ_pos _
    refine ⟨_, rfl, _, rfl, d, c, o, _, rfl, dk2, ho2, od, oc, by rw [List.length_map]; omega, by rw [List.length_map]; omega, fun v G3 kp3 dk3 hv => ?_⟩
    obtain ⟨x, hxm, rfl⟩ := List.mem_map.mp hv
    refine ⟨(by show 2 ≤ sizeLine; decide), fun p np => ?_⟩
    refine q (.ref p) (.opn x) _ ((kp2.trans kp3).trans (Kp.of (newS np))) (dk3.same (newS np)) ⟨p, rfl, upd_same⟩ ⟨rfl, Nat.zero_le _, sb_pos g, fun y hy => ?_⟩
    rw [List.mem_singleton.mp hy]
    exact hxm
  case b2 =>
    rintro σ G ⟨rfl, kp, dkG, hoG⟩
    refine ⟨_, rfl, rfl, _, rfl, (fun h3 => ite2 (fun _ => iteT h3) (fun hdeep => ⟨_, rfl, _, _, rfl, rfl, _, rfl, ite2 (fun _ => h3) (fun hw6 => ?deep)⟩)) ?leaf⟩
    case leaf =>
      refine ⟨_, rfl, (by show 1 ≤ sizeLine; decide), fun p1 n1 => ⟨(by show 1 ≤ sizeLine; decide), fun p2 n2 => ⟨(by show 1 ≤ sizeLine; decide), fun p3 n3 => ⟨(by show 2 ≤ sizeLine; decide), fun l1 nl1 => ?_⟩⟩⟩⟩
      have s1 := newS (o := .tup [.str "truth"]) n1
      have s2 := newS (o := .tup [.str "num"]) n2
      have s3 := newS (o := .tup [.str "truth"]) n3
      have s4 := newS (o := .lst [V.ref p2, .ref p3]) nl1
      have s14 := s1.trans (s2.trans (s3.trans s4))
      have g1 := s4 _ _ (s3 _ _ (s2 p1 _ upd_same))
      have g2 := s4 _ _ (s3 p2 _ upd_same)
      have g3 := s4 p3 _ upd_same
      obtain ⟨v, ev, tv, rvv, dtv⟩ : ∃ v, atI [V.ref p2, V.ref p3] (if b then (1 : Int) else 0) = some v ∧ ∃ t, Rp0 (upd (upd (upd (upd G p1 (.tup [.str "truth"])) p2 (.tup [.str "num"])) p3 (.tup [.str "truth"])) l1 (.lst [V.ref p2, .ref p3])) t v ∧ (t = .num ∨ t = .tru) := by
        cases b
        · exact ⟨.ref p2, rfl, .num, ⟨p2, rfl, g2⟩, .inl rfl⟩
        · exact ⟨.ref p3, rfl, .tru, ⟨p3, rfl, g3⟩, .inr rfl⟩
      refine ⟨_, rfl, .inr ⟨b, rfl, l1, _, _, v, rfl, rfl, SqL.of upd_same, ev, (by show 2 ≤ sizeLine; decide), fun l2 nl2 => ?_⟩⟩
      have s5 := newS (o := .lst [V.ref p1, v]) nl2
      have off := (dkG.same s14).off nl2
      refine ⟨d, c, l2, _, rfl, dkG.same (s14.trans s5), upd_same, off.1, off.2, by show 1 ≤ 2; decide, by show 2 ≤ 100; decide, fun u G3 kp3 dk3 hu => ?_⟩
      have kpf := (kp.trans (Kp.of (s14.trans s5))).trans kp3
      have tk := (Tk.of s5).trans (Tk.kp kp3 (dkG.same (s14.trans s5)))
      rcases List.mem_cons.mp hu with e | hu
      · rw [e]
        exact q _ .tru _ kpf dk3 ⟨p1, rfl, tk _ _ g1⟩ ⟨rfl, Nat.zero_le _, sb_pos g, fun x z => (nomatch z)⟩
      · rw [List.mem_singleton.mp hu]
        rcases dtv with e | e
        · rw [e] at rvv
          exact q _ .num _ kpf dk3 (rvv.tk tk) ⟨rfl, Nat.zero_le _, sb_pos g, fun x z => (nomatch z)⟩
        · rw [e] at rvv
          exact q _ .tru _ kpf dk3 (rvv.tk tk) ⟨rfl, Nat.zero_le _, sb_pos g, fun x z => (nomatch z)⟩
    case deep =>
      obtain ⟨j, rfl⟩ : ∃ j, g = j + 1 := by
        cases g with
        | zero => exact absurd (decide_eq_true rfl) hdeep
        | succ j => exact ⟨j, rfl⟩
      have ej : ((j + 1 : Nat) : Int) - 1 = ((j : Nat) : Int) := by omega
      have eL : [V.ref d, V.ref o, V.int (((j + 1 : Nat) : Int) - 1), V.bl b] = [V.ref d, V.ref o, V.int ((j : Nat) : Int), V.bl b] := by rw [ej]
      have w6 : ¬ way < 6 := fun z => hw6 (decide_eq_true z)
      refine ⟨_, rfl, _, _, rfl, rfl, _, rfl, ite2 (fun _ => ?_) (fun hw7 => ?_)⟩
      · refine ⟨_, rfl, _, rfl, _, rfl, _, _, rfl, rfl, _, rfl, d, c, o, xs, j, b, eL, by omega, dkG, hoG, od, oc, lx, hx, fun va a G3 kp3 dk3 ra da => ?_⟩
        refine ⟨(by show 2 ≤ sizeLine; decide), fun p np => ?_⟩
        have s := newS (o := .tup [.str "list", va]) np
        refine q _ (.lst a) _ ((kp.trans kp3).trans (Kp.of s)) (dk3.same s) ⟨p, va, rfl, upd_same, ra.tk (Tk.of s)⟩ ⟨da.da, ?_, ?_, da.op⟩
        · have := da.dp
          show a.dp + 1 ≤ j + 1
          omega
        · have := da.sz
          rw [(Kd.size2 a a).2.2]
          show _ ≤ 2 * sb j + 1
          omega
      · have w7 : ¬ 7 < way := fun z => hw7 (decide_eq_true z)
        obtain ⟨wd, mk, ew, m0, m1, m2, m3, m4⟩ : ∃ (wd : Str) (mk : Kd → Kd → Kd), atI [V.str "pair", V.str "either"] (way - 6) = some (.str wd) ∧ (∀ a b F x y pp, F pp = some (.tup [.str wd, x, y]) → Rp0 F a x → Rp0 F b y → Rp0 F (mk a b) (.ref pp)) ∧
            (∀ a b, a.isDat = true → b.isDat = true → (mk a b).isDat = true) ∧ (∀ a b, (mk a b).dp = max a.dp b.dp + 1) ∧ (∀ a b, (mk a b).size = a.size + b.size + 1) ∧ (∀ a b, (mk a b).opens = a.opens ++ b.opens) := by
          have er : way = 6 ∨ way = 7 := by omega
          rcases er with rfl | rfl
          · exact ⟨"pair", .pair, rfl, fun a b F x y pp h1 h2 h3 => ⟨pp, x, y, rfl, h1, h2, h3⟩, fun _ _ h g => Bool.and_eq_true_iff.mpr ⟨h, g⟩, fun _ _ => rfl, fun a b => (Kd.size2 a b).1, fun _ _ => rfl⟩
          · exact ⟨"either", .eith, rfl, fun a b F x y pp h1 h2 h3 => ⟨pp, x, y, rfl, h1, h2, h3⟩, fun _ _ h g => Bool.and_eq_true_iff.mpr ⟨h, g⟩, fun _ _ => rfl, fun a b => (Kd.size2 a b).2.1, fun _ _ => rfl⟩
        refine ⟨_, rfl, _, rfl, _, rfl, _, _, rfl, rfl, _, rfl, d, c, o, xs, j, b, eL, by omega, dkG, hoG, od, oc, lx, hx, fun va a G3 kp3 dk3 ra da => ?_⟩
        refine ⟨(by show 2 ≤ sizeLine; decide), fun l nl => ⟨_, rfl, _, _, rfl, rfl, l, _, _, _, rfl, rfl, SqL.of upd_same, ew, ?_⟩⟩
        have sl := newS (o := .lst [V.str "pair", V.str "either"]) nl
        have ho3 := kp3 o _ od oc hoG
        refine ⟨_, rfl, _, rfl, _, rfl, _, rfl, _, _, rfl, rfl, _, rfl, d, c, o, xs, j, b, eL, by omega, dk3.same sl, sl _ _ ho3, od, oc, lx, hx, fun vb b' G4 kp4 dk4 rb db => ?_⟩
        refine ⟨(by show 3 ≤ sizeLine; decide), fun p np => ?_⟩
        have s := newS (o := .tup [.str wd, va, vb]) np
        refine q _ (mk a b') _ ((((kp.trans kp3).trans (Kp.of sl)).trans kp4).trans (Kp.of s)) (dk4.same s) (m0 a b' _ _ _ p upd_same (((ra.tk (Tk.of sl)).tk (Tk.kp kp4 (dk3.same sl))).tk (Tk.of s)) (rb.tk (Tk.of s))) ⟨m1 a b' da.da db.da, ?_, ?_, fun x hx' => ?_⟩
        · have := da.dp
          have := db.dp
          rw [m2]
          omega
        · have := da.sz
          have := db.sz
          rw [m3]
          show _ ≤ 2 * sb j + 1
          omega
        · rw [m4] at hx'
          rcases List.mem_append.mp hx' with z | z
          · exact da.op x z
          · exact db.op x z
theorem okLData {f fD fP : Addr} {fd fdD fdP : FuncData} (F : Fun K "_law_data" "_law_data" tLData f fd) (bF : Binds K fd psLData []) (gF : mg "_law_data" = some (.ref f))
    (FD : Fun K "_law_draw" "_law_draw" tDraw fD fdD) (bD : Binds K fdD ["_law_deck_here", "_law_most"] []) (gD : mg "_law_draw" = some (.ref fD)) (FP : Fun K "_law_pick" "_law_pick" tPick fP fdP) (bP : Binds K fdP psPick []) (gP : mg "_law_pick" = some (.ref fP)) (mi : mg "int" = none) (mn : mg "len" = none) :
    ∀ n, FnOk P w K mg base CX0 (n + 2) f fd psLData (spLData n)
  | 0 => noFn fun vs H Q E h => by
    obtain ⟨d, c, o, xs, g, b, _, hg, _⟩ := h
    omega
  | n + 1 => okLData1 F bF gF (okDraw FD) bD gD FD.kp (okPick FP (okDraw FD) bD gD FD.kp mn) bP gP FP.kp mi (okLData F bF gF FD bD gD FP bP gP mi mn n)
end
structure Bd (d z : Nat) (xs : List Str) (t : Kd) : Prop where
  dp : t.dp ≤ d
  sz : t.size ≤ z
  op : ∀ x ∈ t.opens, x ∈ xs
theorem Dta.bd {g d z : Nat} {xs : List Str} {t : Kd} (h : Dta g xs t) (hd : g ≤ d) (hz : sb g ≤ z) : Bd d z xs t := ⟨by have := h.dp; omega, by have := h.sz; omega, h.op⟩
theorem Bd.fn {d z d' z' : Nat} {xs : List Str} {a b : Kd} (ha : Bd d' z' xs a) (hb : Bd d z xs b) (hd : d' ≤ d) : Bd (d + 1) (z + (z' + 1)) xs (.fn a b) := by
  refine ⟨?_, ?_, fun x hx => ?_⟩
  · have := ha.dp
    have := hb.dp
    show max a.dp b.dp + 1 ≤ _
    omega
  · have := ha.sz
    have := hb.sz
    rw [Kd.size_fn]
    omega
  · rcases List.mem_append.mp (show x ∈ a.opens ++ b.opens from hx) with z | z
    · exact ha.op x z
    · exact hb.op x z
theorem Bd.mono {d z d' z' : Nat} {xs : List Str} {t : Kd} (h : Bd d z xs t) (hd : d ≤ d') (hz : z ≤ z') : Bd d' z' xs t := ⟨by have := h.dp; omega, by have := h.sz; omega, h.op⟩
abbrev tHanded : Stmt := tp 55
abbrev psTwo : List Str := ["_law_deck_here", "_law_opens_here"]
section
variable {P : Program} {w : World} {K : PySem.W.Frag} {mg : Str → Option Value} {base : Heap}
theorem scHanded : FnScope ["_law_deck_here", "_law_opens_here", "_law_way", "_law_kind_here", "_law_k"] psTwo (defScope tHanded) := ⟨rfl, rfl, rfl, by decide +kernel, rfl, by decide +kernel, by decide +kernel⟩
def spHanded : Sp := fun vs H Q _ => ∃ (d c o : Addr) (xs : List Str), vs = [.ref d, .ref o] ∧ Dk H d c ∧ H o = some (.lst (xs.map V.str)) ∧ o ≠ d ∧ o ≠ c ∧ xs.length ≤ 26 ∧ (∀ x ∈ xs, Nm x) ∧
  ∀ (v : V) (t : Kd) (G : Hp), Kp d c H G → Dk G d c → Rp0 G t v → Bd 3 11 xs t → Q v G
theorem okHanded {f fD fP fT : Addr} {fd fdD fdP fdT : FuncData} (F : Fun K "_law_handed" "_law_handed" tHanded f fd)
    (GD : FnOk P w K mg base CX0 6 fD fdD ["_law_deck_here", "_law_most"] spDraw) (bD : Binds K fdD ["_law_deck_here", "_law_most"] []) (gD : mg "_law_draw" = some (.ref fD)) (kD : PySem.W.keepIn K (.ref fD) = true)
    (GP : FnOk P w K mg base CX0 6 fP fdP psPick spPick) (bP : Binds K fdP psPick []) (gP : mg "_law_pick" = some (.ref fP)) (kP : PySem.W.keepIn K (.ref fP) = true)
    (GT : FnOk P w K mg base CX0 6 fT fdT psLData (spLData 4)) (bT : Binds K fdT psLData []) (gT : mg "_law_data" = some (.ref fT)) (kT : PySem.W.keepIn K (.ref fT) = true) (mi : mg "int" = none) (mr : mg "range" = none) : FnOk P w K mg base CX0 7 f fd psTwo spHanded := by
  refine F.ok scHanded (fun vs H Q E h => ?_) (fun cdv A outer s H vs Q E hr h => ?_)
  · obtain ⟨d, c, o, xs, rfl, _⟩ := h
    rfl
  obtain ⟨d, c, o, xs, rfl, dk, ho, od, oc, lx, hx, q⟩ := h
  refine ⟨_, pss_cons (ps_set (i := 2) scHanded.nd rfl (.inl rfl) (pe_call GD hr (by rfl) gD kD bD .nil pass0 (pa_cons (pv 0) (pa_cons pe_int pa_nil))))
    (pss_cons (ps_set (i := 3) scHanded.nd rfl (.inl rfl) (pe_ix ix_list (pe_lst (pa_cons (pe_tup (pa_cons pe_str pa_nil)) (pa_cons (pe_call GT hr (by rfl) gT kT bT .nil pass0 (pa_cons (pv 0) (pa_cons (pv 1) (pa_cons pe_int (pa_cons pe_bl pa_nil))))) pa_nil))) (pe_callTy call_int1 (by rfl) mi (by decide +kernel) (pa_cons (pe_cmpR op_eq (pv 2) pe_int (nomark _)) pa_nil)) (fun _ _ => rfl)))
    (C8.pss_cut (ps_if (PW.pt (pw_and (pt_cmpR op_lt (pv 2) pe_int (nomark _)) (pw_and1 (pt_cmpR (op_neD hr.units) (pv 1) (pe_lst pa_nil) (nomark _)))))
      (pss_one (ps_set (i := 3) scHanded.nd rfl (.inl rfl) (pe_tup (pa_cons pe_str (pa_cons (pe_call GP hr (by rfl) gP kP bP .nil pass0 (pa_cons (pv 0) (pa_cons (pv 1) pa_nil))) pa_nil))))) pss_nil)
    (pss_cons (ps_for PassesOwn.never rfl (pi_range1 (by rfl) mr (pa_cons (pe_op op_add pe_int (pe_call GD hr (by rfl) gD kD bD .nil pass0 (pa_cons (pv 0) (pa_cons pe_int pa_nil)))) pa_nil)) (pg_name (i := 4) scHanded.nd rfl (.inl rfl))
      (pss_one (ps_set (i := 3) scHanded.nd rfl (.inl rfl) (pe_tup (pa_cons pe_str (pa_cons (pe_call GT hr (by rfl) gT kT bT .nil pass0 (pa_cons (pv 0) (pa_cons (pv 1) (pa_cons (pe_call GD hr (by rfl) gD kD bD .nil pass0 (pa_cons (pv 0) (pa_cons pe_int pa_nil))) (pa_cons pe_bl pa_nil))))) (pa_cons (pv 3) pa_nil)))))))
    (pss_one (ps_ret (pv 3)))))), ?_⟩
  refine ⟨_, rfl, d, c, 8, rfl, dk, by decide, by decide, fun way G1 w0 w1 kp1 dk1 => ?_⟩
  have ho1 := kp1 o _ od oc ho
  refine ⟨(by show 1 ≤ sizeLine; decide), fun p1 n1 => ?_⟩
  have s1 := newS (o := .tup [.str "truth"]) n1
  refine ⟨_, rfl, _, rfl, d, c, o, xs, 1, false, rfl, by decide, dk1.same s1, s1 _ _ ho1, od, oc, lx, hx, fun va a G2 kp2 dk2 ra da => ?_⟩
  refine ⟨(by show 2 ≤ sizeLine; decide), fun l nl => ?_⟩
  have sl := newS (o := .lst [V.ref p1, va]) nl
  have h1 : G2 p1 = some (.tup [.str "truth"]) := Tk.kp kp2 (dk1.same s1) p1 _ upd_same
  have kpa : Kp d c H (upd G2 l (.lst [V.ref p1, va])) := ((kp1.trans (Kp.of s1)).trans kp2).trans (Kp.of sl)
  have dka := dk2.same sl
  have hoa := sl _ _ (kp2 o _ od oc (s1 _ _ ho1))
  obtain ⟨v, t, ev, rv, bv⟩ : ∃ (v : V) (t : Kd), atI [V.ref p1, va] (if decide (V.int way = V.int 7) then (1 : Int) else 0) = some v ∧ Rp0 (upd G2 l (.lst [V.ref p1, va])) t v ∧ Bd 1 3 xs t := by
    cases decide (V.int way = V.int 7)
    · exact ⟨.ref p1, .tru, rfl, ⟨p1, rfl, sl _ _ h1⟩, by decide, by decide, fun x z => (nomatch z)⟩
    · exact ⟨va, a, rfl, ra.tk (Tk.of sl), da.bd (by decide) (by decide)⟩
  refine ⟨_, rfl, rfl, .inr ⟨_, rfl, l, _, _, v, rfl, rfl, SqL.of upd_same, ev, ?_⟩⟩
  generalize upd G2 l (.lst [V.ref p1, va]) = G3 at kpa dka hoa rv
  refine ⟨fun σ G => ∃ v t, σ = [some (.ref d), some (.ref o), some (.int way), some v, none] ∧ Kp d c H G ∧ Dk G d c ∧ G o = some (.lst (xs.map V.str)) ∧ Rp0 G t v ∧ Bd 1 3 xs t, ?_, ?b2⟩
  · refine ⟨_, rfl, _, _, rfl, rfl, _, rfl, ?_⟩
    refine ite2 (fun _ => ⟨_, rfl, Nat.zero_le _, fun e ne => ⟨.list (xs.map PyData.str), .list [], .lst (SqL.of (newS ne _ _ hoa)) (dpStrs K _ xs), .lst (SqL.of upd_same) .nil, shStrs hx, rfl, _, rfl, ite2 (fun c1 => ?_) (fun _ => ⟨v, t, rfl, kpa.trans (Kp.of (newS ne)), dka.same (newS ne), newS ne _ _ hoa, rv.tk (Tk.of (newS ne)), bv⟩)⟩⟩) (fun _ => iteF ⟨v, t, rfl, kpa, dka, hoa, rv, bv⟩)
    have ho2 := newS (o := .lst []) ne _ _ hoa
    have dk2' := dka.same (newS (o := .lst []) ne)
    rw [eqvNil] at c1
    have l0 : 0 < xs.length := by
      cases xs with
      | nil => cases c1
      | cons x r => exact Nat.succ_pos _
    refine ⟨_, rfl, _, rfl, d, c, o, _, rfl, dk2', ho2, od, oc, by rw [List.length_map]; omega, by rw [List.length_map]; omega, fun u G4 kp4 dk4 hu => ?_⟩
    obtain ⟨x, hxm, rfl⟩ := List.mem_map.mp hu
    refine ⟨(by show 2 ≤ sizeLine; decide), fun p np => ⟨.ref p, .opn x, rfl, ((kpa.trans (Kp.of (newS ne))).trans kp4).trans (Kp.of (newS np)), dk4.same (newS np), newS np _ _ (kp4 o _ od oc ho2), ⟨p, rfl, upd_same⟩, ?_⟩⟩
    refine ⟨Nat.zero_le _, by show 1 ≤ 3; decide, fun y hy => ?_⟩
    rw [List.mem_singleton.mp hy]
    exact hxm
  case b2 =>
    rintro σ G ⟨v, t, rfl, kpG, dkG, hoG, rG, bG⟩
    refine ⟨_, rfl, d, c, 2, rfl, dkG, by decide, by decide, fun mm G4 mm0 mm1 kp4 dk4 => ⟨_, _, rfl, rfl, 1 + mm, rfl, by omega, by omega, ?_⟩⟩
    refine for_range (lo := 0) (n := (1 + mm).toNat) (fun i σ G => ∃ v t y, σ = [some (.ref d), some (.ref o), some (.int way), some v, y] ∧ Kp d c H G ∧ Dk G d c ∧ G o = some (.lst (xs.map V.str)) ∧ Rp0 G t v ∧ Bd (1 + i) (3 + 4 * i) xs t) ?_ (fun i σ G hi z => ?_) (fun σ G z => ?_)
    · exact ⟨v, t, none, rfl, kpG.trans kp4, dk4, kp4 o _ od oc hoG, rG.tk (Tk.kp kp4 dkG), bG⟩
    · obtain ⟨v, t, y, rfl, kpi, dki, hoi, ri, bi⟩ := z
      refine ⟨_, rfl, _, rfl, _, rfl, d, c, 2, rfl, dki, by decide, by decide, fun r G5 r0 r1 kp5 dk5 => ?_⟩
      have er : r = ((r.toNat : Nat) : Int) := by omega
      have eL : [V.ref d, V.ref o, V.int r, V.bl true] = [V.ref d, V.ref o, V.int ((r.toNat : Nat) : Int), V.bl true] := by rw [← er]
      refine ⟨d, c, o, xs, r.toNat, true, eL, by omega, dk5, kp5 o _ od oc hoi, od, oc, lx, hx, fun va a G6 kp6 dk6 ra da => ?_⟩
      refine ⟨_, rfl, (by show 3 ≤ sizeLine; decide), fun p np => ?_⟩
      have s := newS (o := .tup [.str "fun", va, v]) np
      refine ⟨.ref p, .fn a t, _, rfl, (((kpi.trans kp5).trans kp6).trans (Kp.of s)), dk6.same s, s _ _ (kp6 o _ od oc (kp5 o _ od oc hoi)), ⟨p, va, v, rfl, upd_same, ra.tk (Tk.of s), ((ri.tk (Tk.kp kp5 dki)).tk (Tk.kp kp6 dk5)).tk (Tk.of s)⟩, ?_⟩
      have hb : Bd 1 3 xs a := da.bd (by omega) (by
        have : r.toNat = 0 ∨ r.toNat = 1 := by omega
        rcases this with e | e <;> rw [e] <;> decide)
      exact (Bd.fn hb bi (by omega)).mono (by omega) (by omega)
    · obtain ⟨v, t, y, rfl, kpi, dki, hoi, ri, bi⟩ := z
      exact ⟨_, rfl, q v t G kpi dki ri (bi.mono (by omega) (by omega))⟩
end
end Kq

/-! _law_arguments, _law_led_to, _law_opens, _law_has_list -/
namespace Kq
open PySem PySem.Spec PyProof.Rows L2 Kf Kg Kv Kk
abbrev tLArgs : Stmt := tp 56
abbrev tLLed : Stmt := tp 57
abbrev tLOpens : Stmt := tp 63
abbrev tLHas : Stmt := tp 64
namespace Kd
def ledTo (ts : List Kd) (t : Kd) : Kd := ts.foldr Kd.fn t
/-- a list is in it -/
def hasL (t : Kd) : Bool := t.nodes.any isL
end Kd
section
variable {P : Program} {w : World} {K : PySem.W.Frag} {mg : Str → Option Value} {base : Heap}
theorem scLArgs : FnScope ["_law_kind_here", "_law_found"] ["_law_kind_here"] (defScope tLArgs) := ⟨rfl, rfl, rfl, by decide +kernel, rfl, by decide +kernel, by decide +kernel⟩
def spLArgs : Sp := fun vs H Q _ => ∃ (v : V) (t : Kd), vs = [v] ∧ Rp0 H t v ∧ t.size ≤ 900 ∧ ∀ (p l : Addr) (us : List V) (u : V) (G : Hp), Same H G → G p = some (.tup [.ref l, u]) → G l = some (.lst us) → RpL0 G t.args us → Rp0 G t.res u → Q (.ref p) G
theorem wFn (t : Kd) : decide (V.str t.word = V.str "fun") = t.isFn := by
  cases t <;> rfl
theorem okLArgs {f : Addr} {fd : FuncData} {k : Nat} (F : Fun K "_law_arguments" "_law_arguments" tLArgs f fd) : FnOk P w K mg base CX0 (k + 1) f fd ["_law_kind_here"] spLArgs := by
  refine F.ok scLArgs (fun vs H Q E h => ?_) (fun cdv A outer s H vs Q E hr h => ?_)
  · obtain ⟨v, t, rfl, _⟩ := h
    rfl
  obtain ⟨v, t, rfl, r, hz, q⟩ := h
  refine ⟨_, pss_cons (ps_set (i := 1) scLArgs.nd rfl (.inl rfl) (pe_lst pa_nil))
    (pss_cons (ps_while PassesOwn.never (pt_cmpR op_eq (pe_ix ix_tup (pv 0) pe_int (fun _ _ => rfl)) pe_str (nomark _))
      (pss_cons (ps_expr (pe_bm PySem.F.plainAttrs_list PySem.F.slot_list_append PySem.F.type_list_append mt_append (pv 1) (pa_cons (pe_ix ix_tup (pv 0) pe_int (fun _ _ => rfl)) pa_nil)))
      (pss_one (ps_set (i := 0) scLArgs.nd rfl (.inl rfl) (pe_ix ix_tup (pv 0) pe_int (fun _ _ => rfl))))))
    (pss_one (ps_ret (pe_tup (pa_cons (pv 1) (pa_cons (pv 0) pa_nil)))))), ?_⟩
  refine ⟨Nat.zero_le _, fun pa npa => ?_⟩
  refine ⟨fun m σ G => ∃ ts c us cv, m = c.size ∧ σ = [some cv, some (.ref pa)] ∧ Same H G ∧ G pa = some (.lst us) ∧ RpL0 G ts us ∧ Rp0 G c cv ∧ ts ++ c.args = t.args ∧ c.res = t.res,
    ⟨_, [], t, [], v, rfl, rfl, newS npa, upd_same, trivial, r.tk (Tk.of (newS npa)), rfl, rfl⟩, fun m σ G z => ?_⟩
  obtain ⟨ts, c, us, cv, rfl, rfl, sG, gp, rt, rc, ea, er⟩ := z
  obtain ⟨a0, vs0, rfl, h0, _⟩ := rc.see
  refine ⟨_, rfl, a0, _, _, _, rfl, rfl, SqT.of h0, atI_nat (j := 0) rfl, rfl, _, rfl, ?_⟩
  show if decide (V.str c.word = V.str "fun") = true then _ else _
  rw [wFn]
  refine ite2 (fun e => ?_) (fun e => ?_)
  · cases c with
    | fn a b =>
      obtain ⟨ca, x, y, ec, hc, ra, rb⟩ := rc
      obtain rfl : a0 = ca := V.ref.inj ec
      refine ⟨fun σ' G' => ∃ m', m' < (Kd.fn a b).size ∧ ∃ ts c us cv, m' = c.size ∧ σ' = [some cv, some (.ref pa)] ∧ Same H G' ∧ G' pa = some (.lst us) ∧ RpL0 G' ts us ∧ Rp0 G' c cv ∧ ts ++ c.args = t.args ∧ c.res = t.res, fun σ' G' z => z, ?_⟩
      have le : ts.length ≤ t.args.length := by
        rw [← ea, List.length_append]
        exact Nat.le_add_right _ _
      have l1 := rt.len
      have l2 := Kd.args_le t
      refine ⟨_, rfl, .inl ⟨rfl, _, SqL.of gp⟩, _, rfl, a0, _, _, x, rfl, rfl, SqT.of hc, atI_nat (j := 1) rfl, pa, _, _, rfl, rfl, gp, small1000 (by omega), ?_⟩
      have t1 : Tk G (upd G pa (.lst (us ++ [x]))) := Tk.rfl.put (fun _ z => by rw [gp] at z; cases z)
      refine ⟨_, rfl, a0, _, _, y, rfl, rfl, SqT.of (t1 _ _ hc), atI_nat (j := 2) rfl, ?_⟩
      refine ⟨_, ?_, ts ++ [a], b, us ++ [x], y, rfl, rfl, smk sG npa, upd_same, RpL0.app (us := [a]) (ws := [x]) (rt.tk t1) ⟨ra.tk t1, trivial⟩, rb.tk t1, ?_, er⟩
      · rw [Kd.size_fn]
        omega
      · rw [← ea, List.append_assoc]
        rfl
    | _ => cases e
  · have e0 : c.args = [] ∧ c.res = c := by
      cases c with
      | fn a b => exact absurd rfl e
      | _ => exact ⟨rfl, rfl⟩
    rw [e0.1, List.append_nil] at ea
    rw [e0.2] at er
    refine ⟨_, rfl, _, rfl, (by show 2 ≤ sizeLine; decide), fun p np => ?_⟩
    have sp := newS (o := .tup [V.ref pa, .ref a0]) np
    exact q p pa us _ _ (sG.trans sp) upd_same (sp _ _ gp) (by rw [← ea]; exact rt.tk (Tk.of sp)) (by rw [← er]; exact rc.tk (Tk.of sp))
/-! _law_led_to -/
theorem scLLed : FnScope ["_law_some", "_law_result", "_law_one"] ["_law_some", "_law_result"] (defScope tLLed) := ⟨rfl, rfl, rfl, by decide +kernel, rfl, by decide +kernel, by decide +kernel⟩
def spLLed : Sp := fun vs H Q _ => ∃ (a : Addr) (ts : List Kd) (us : List V) (t : Kd) (v : V), vs = [.ref a, v] ∧ H a = some (.lst us) ∧ RpL0 H ts us ∧ Rp0 H t v ∧ ∀ (u : V) (G : Hp), Same H G → Rp0 G (Kd.ledTo ts t) u → Q u G
theorem okLLed {f : Addr} {fd : FuncData} {k : Nat} (F : Fun K "_law_led_to" "_law_led_to" tLLed f fd) (mr : mg "reversed" = none) : FnOk P w K mg base CX0 (k + 1) f fd ["_law_some", "_law_result"] spLLed := by
  refine F.ok scLLed (fun vs H Q E h => ?_) (fun cdv A outer s H vs Q E hr h => ?_)
  · obtain ⟨a, ts, us, t, v, rfl, _⟩ := h
    rfl
  obtain ⟨a, ts, us, t, v, rfl, ha, rt, r, q⟩ := h
  refine ⟨_, pss_cons (ps_for PassesOwn.never rfl (RT.pi_revA (by rfl) mr (pv 0)) (pg_name (i := 2) scLLed.nd rfl (.inl rfl))
      (pss_one (ps_set (i := 1) scLLed.nd rfl (.inl rfl) (pe_tup (pa_cons pe_str (pa_cons (pv 2) (pa_cons (pv 1) pa_nil)))))))
    (pss_one (ps_ret (pv 1))), ?_⟩
  have l1 := rt.len
  refine ⟨_, rfl, a, us, rfl, .inl ⟨SqL.of ha, RT.for_Itv (xs := us) (fun i σ G => ∃ rv y, σ = [some (.ref a), some rv, y] ∧ Same H G ∧ i ≤ us.length ∧ Rp0 G (Kd.ledTo (ts.drop (us.length - i)) t) rv) ⟨v, none, rfl, Same.refl H, Nat.zero_le _, by rw [Nat.sub_zero, ← l1, List.drop_length]; exact r⟩ (fun i σ G z => ?_) (fun i x σ G hi hx z => ?_) (fun σ G z => ?_)⟩⟩
  · obtain ⟨rv, y, _, sG, _⟩ := z
    exact SqL.of (sG _ _ ha)
  · obtain ⟨rv, y, rfl, sG, _, rr⟩ := z
    refine ⟨_, rfl, _, rfl, (by show 3 ≤ sizeLine; decide), fun p np => ?_⟩
    obtain ⟨c, hc, rc⟩ := rt.get hx
    have s2 : Same G (upd G p (.tup [.str "fun", x, rv])) := newS np
    have lj : us.length - 1 - i < ts.length := by omega
    have e1 : ts[us.length - 1 - i] = c := Option.some.inj ((List.getElem?_eq_getElem lj).symm.trans hc)
    have e2 : ts.drop (us.length - (i + 1)) = c :: ts.drop (us.length - i) := by
      have z := List.drop_eq_getElem_cons lj
      rw [e1, show us.length - 1 - i + 1 = us.length - i by omega, show us.length - 1 - i = us.length - (i + 1) by omega] at z
      exact z
    refine ⟨_, _, rfl, sG.trans s2, hi, ?_⟩
    rw [e2]
    exact ⟨p, x, rv, rfl, upd_same, rc.tk ((Tk.of sG).trans (Tk.of s2)), rr.tk (Tk.of s2)⟩
  · obtain ⟨rv, y, rfl, sG, _, rr⟩ := z
    rw [Nat.sub_self, List.drop_zero] at rr
    exact ⟨_, rfl, q rv G sG rr⟩
end
end Kq

/-! _law_opens, _law_has_list -/
namespace Kq
open PySem PySem.Spec PyProof.Rows L2 Kf Kg Kv Kk
theorem opens_kids {t : Kd} (h : t.isOp = false) : t.opens = t.kids.flatMap Kd.opens := by
  cases t with
  | opn x => cases h
  | _ => simp [Kd.opens, Kd.kids]
theorem hasL_kids (t : Kd) : t.hasL = (t.isL || t.kids.any Kd.hasL) := by
  unfold Kd.hasL
  rw [Kd.nodes_eq, List.any_cons, List.any_flatMap]
theorem kid_dp {t u : Kd} (h : u ∈ t.kids) : u.dp + 1 ≤ t.dp := by
  cases t with
  | opn x => cases h
  | num => cases h
  | tru => cases h
  | lst a =>
    rw [List.mem_singleton.mp h]
    exact Nat.le_refl _
  | pair a b =>
    rcases List.mem_cons.mp h with rfl | h
    · show _ ≤ max _ _ + 1; omega
    · rw [List.mem_singleton.mp h]; show _ ≤ max _ _ + 1; omega
  | eith a b =>
    rcases List.mem_cons.mp h with rfl | h
    · show _ ≤ max _ _ + 1; omega
    · rw [List.mem_singleton.mp h]; show _ ≤ max _ _ + 1; omega
  | fn a b =>
    rcases List.mem_cons.mp h with rfl | h
    · show _ ≤ max _ _ + 1; omega
    · rw [List.mem_singleton.mp h]; show _ ≤ max _ _ + 1; omega
theorem opens_size : ∀ t : Kd, t.opens.length ≤ t.size := fun t => by
  rw [← Kd.opens_nodes]
  exact List.length_filterMap_le _ _
theorem kid_size {t u : Kd} (h : u ∈ t.kids) : u.size + 1 ≤ t.size := by
  cases t with
  | opn x => cases h
  | num => cases h
  | tru => cases h
  | lst a =>
    rw [List.mem_singleton.mp h, (Kd.size2 a a).2.2]
    exact Nat.le_refl _
  | pair a b =>
    rw [(Kd.size2 a b).1]
    rcases List.mem_cons.mp h with rfl | h
    · omega
    · rw [List.mem_singleton.mp h]; omega
  | eith a b =>
    rw [(Kd.size2 a b).2.1]
    rcases List.mem_cons.mp h with rfl | h
    · omega
    · rw [List.mem_singleton.mp h]; omega
  | fn a b =>
    rw [Kd.size_fn]
    rcases List.mem_cons.mp h with rfl | h
    · omega
    · rw [List.mem_singleton.mp h]; omega
theorem wOp (t : Kd) : decide (V.str t.word = V.str "open") = t.isOp := by
  cases t <;> rfl
theorem wLs (t : Kd) : decide (V.str t.word = V.str "list") = t.isL := by
  cases t <;> rfl
section
variable {P : Program} {w : World} {K : PySem.W.Frag} {mg : Str → Option Value} {base : Heap}
abbrev psK : List Str := ["_law_kind_here"]
abbrev nLOpens : List Str := ["_law_kind_here", "_law_found", "_law_one"]
theorem scLOpens : FnScope nLOpens psK (defScope tLOpens) := ⟨rfl, rfl, rfl, by decide +kernel, rfl, by decide +kernel, by decide +kernel⟩
def spLOpens (n : Nat) : Sp := fun vs H Q _ => ∃ (v : V) (t : Kd), vs = [v] ∧ Rp0 H t v ∧ t.dp + 1 ≤ n ∧ t.size ≤ 900 ∧ ∀ (l : Addr) (G : Hp), Same H G → G l = some (.lst (t.opens.map V.str)) → Q (.ref l) G
theorem okLOpens1 {f : Addr} {fd : FuncData} {n k : Nat} (F : Fun K "_law_opens" "_law_opens" tLOpens f fd) (bF : Binds K fd psK []) (gF : mg "_law_opens" = some (.ref f))
    (GI : FnOk P w K mg base CX0 k f fd psK (spLOpens n)) : FnOk P w K mg base CX0 (k + 1) f fd psK (spLOpens (n + 1)) := by
  refine F.ok scLOpens (fun vs H Q E h => ?_) (fun cdv A outer s H vs Q E hr h => ?_)
  · obtain ⟨v, t, rfl, _⟩ := h
    rfl
  obtain ⟨v, t, rfl, r, hn, hz, q⟩ := h
  refine ⟨_, pss_cons (ps_if (pt_cmpR op_eq (pe_ix ix_tup (pv 0) pe_int (fun _ _ => rfl)) pe_str (nomark _)) (pss_one (ps_ret (pe_lst (pa_cons (pe_ix ix_tup (pv 0) pe_int (fun _ _ => rfl)) pa_nil)))) pss_nil)
    (pss_cons (ps_set (i := 1) scLOpens.nd rfl (.inl rfl) (pe_lst pa_nil))
    (pss_cons (ps_for PassesOwn.never rfl (pi_tup (pe_slice sl_tup (pv 0) (po_some pe_int) po_none)) (pg_name (i := 2) scLOpens.nd rfl (.inl rfl))
      (pss_one (ps_set (i := 1) scLOpens.nd rfl (.inl rfl) (pe_op op_cat (pv 1) (pe_call GI hr (by rfl) gF F.kp bF .nil pass0 (pa_cons (pv 2) pa_nil))))))
    (pss_one (ps_ret (pv 1))))), ?_⟩
  obtain ⟨a, us, rfl, ha, hu⟩ := r.see
  refine ⟨_, rfl, a, _, _, _, rfl, rfl, SqT.of ha, atI_nat (j := 0) rfl, rfl, _, rfl, ?_⟩
  show if decide (V.str t.word = V.str "open") = true then _ else _
  rw [wOp]
  refine ite2 (fun e => ?_) (fun e => ?_)
  · cases t with
    | opn x =>
      obtain ⟨a', ea, ha'⟩ := r
      obtain rfl : a = a' := V.ref.inj ea
      refine ⟨_, rfl, a, _, _, _, rfl, rfl, SqT.of ha', atI_nat (j := 1) rfl, (by show 1 ≤ sizeLine; decide), fun p np => q p _ (newS np) upd_same⟩
    | _ => cases e
  have no : t.isOp = false := Bool.eq_false_iff.mpr e
  have rk : RpL0 H t.kids us := by
    rcases hu with hu | ⟨x, rfl, _⟩
    · exact hu.2
    · cases no
  refine ⟨Nat.zero_le _, fun l0 nl0 => ?_⟩
  have s0 := newS (o := .lst []) nl0
  have g0 : (upd H l0 (.lst [])) l0 = some (.lst []) := upd_same
  generalize upd H l0 (.lst []) = H0 at s0 g0 ⊢
  refine ⟨_, rfl, 1, rfl, a, _, rfl, SqT.of (s0 _ _ ha), notWhole _ _, fun p np => ?_⟩
  rw [cutFrom1]
  have s1 := newS (o := .tup us) np
  have gp : (upd H0 p (.tup us)) p = some (.tup us) := upd_same
  have g1 := s1 _ _ g0
  generalize upd H0 p (.tup us) = H1 at s1 gp g1 ⊢
  have sH := s0.trans s1
  have rk1 := rk.tk (Tk.of sH)
  refine ⟨p, rfl, ⟨_, SqT.of gp⟩, for_tup (xs := us) (fun i σ G => ∃ l y, σ = [some (.ref a), some (.ref l), y] ∧ Same H1 G ∧ G l = some (.lst (((t.kids.take i).flatMap Kd.opens).map V.str))) ⟨l0, none, rfl, Same.refl _, g1⟩ (fun i σ G _ z => ?_) (fun i x σ G hx z => ?_) (fun σ G z => ?_)⟩
  · obtain ⟨_, _, _, sG, _⟩ := z
    exact SqT.of (sG _ _ gp)
  · obtain ⟨l, y, rfl, sG, gl⟩ := z
    obtain ⟨u, hu, ru⟩ := rk1.get hx
    have mu := List.mem_of_getElem? hu
    have d1 := kid_dp mu
    have z1 := kid_size mu
    have e1 : (t.kids.take (i + 1)).flatMap Kd.opens = (t.kids.take i).flatMap Kd.opens ++ u.opens := by
      rw [List.take_add_one, hu, List.flatMap_append]
      simp
    have l1 : ((t.kids.take i).flatMap Kd.opens).length + u.opens.length ≤ t.opens.length := by
      rw [opens_kids no, ← List.length_append, ← e1]
      conv => rhs; rw [← List.take_append_drop (i + 1) t.kids, List.flatMap_append, List.length_append]
      exact Nat.le_add_right _ _
    have l2 := opens_size t
    refine ⟨_, rfl, _, rfl, x, u, rfl, ru.tk (Tk.of sG), by omega, by omega, fun l2 G2 s2 gl2 => ⟨l, l2, _, _, rfl, rfl, s2 _ _ gl, gl2, sz (by rw [List.length_map, List.length_map]; omega), fun p3 n3 => ⟨p3, _, rfl, (sG.trans s2).trans (newS n3), ?_⟩⟩⟩
    rw [upd_same, e1, List.map_append]
  · obtain ⟨l, y, rfl, sG, gl⟩ := z
    rw [← rk1.len, List.take_length, ← opens_kids no] at gl
    exact ⟨_, rfl, q l G (sH.trans sG) gl⟩
theorem noFn44 {CX : CXT} {f : Addr} {fd : FuncData} {ps : List Str} {sp : Sp} {k : Nat} (no : ∀ vs H Q E, ¬ sp vs H Q E) : FnOk P w K mg base CX k f fd ps sp :=
  ⟨fun vs H Q E h => absurd h (no vs H Q E), fun A outer s H args us vs Q E _ _ _ _ h => absurd h (no vs H Q E)⟩
theorem okLOpens {f : Addr} {fd : FuncData} (F : Fun K "_law_opens" "_law_opens" tLOpens f fd) (bF : Binds K fd psK []) (gF : mg "_law_opens" = some (.ref f)) : ∀ n, FnOk P w K mg base CX0 (n + 1) f fd psK (spLOpens n)
  | 0 => noFn44 fun vs H Q E h => by
    obtain ⟨v, t, _, _, hn, _⟩ := h
    omega
  | n + 1 => okLOpens1 F bF gF (okLOpens F bF gF n)
/-! _law_has_list -/
theorem inV_true (bs : List Bool) : inV (.bl true) (bs.map V.bl) = bs.any id := by
  unfold inV
  rw [List.any_map]
  congr 1
  funext b
  cases b <;> rfl
abbrev nLHas : List Str := ["_law_kind_here", "_law_one"]
theorem scLHas : FnScope nLHas psK (defScope tLHas) := ⟨rfl, rfl, rfl, by decide +kernel, rfl, by decide +kernel, by decide +kernel⟩
def spLHas (n : Nat) : Sp := fun vs H Q _ => ∃ (v : V) (t : Kd), vs = [v] ∧ Rp0 H t v ∧ t.dp + 1 ≤ n ∧ ∀ G : Hp, Same H G → Q (.bl t.hasL) G
theorem okLHas1 {f : Addr} {fd : FuncData} {n k : Nat} (F : Fun K "_law_has_list" "_law_has_list" tLHas f fd) (bF : Binds K fd psK []) (gF : mg "_law_has_list" = some (.ref f))
    (GI : FnOk P w K mg base CX0 k f fd psK (spLHas n)) : FnOk P w K mg base CX0 (k + 1) f fd psK (spLHas (n + 1)) := by
  refine F.ok scLHas (fun vs H Q E h => ?_) (fun cdv A outer s H vs Q E hr h => ?_)
  · obtain ⟨v, t, rfl, _⟩ := h
    rfl
  obtain ⟨v, t, rfl, r, hn, q⟩ := h
  refine ⟨_, pss_cons (ps_if (pt_cmpR op_eq (pe_ix ix_tup (pv 0) pe_int (fun _ _ => rfl)) pe_str (nomark _)) (pss_one (ps_ret pe_bl)) pss_nil)
    (pss_one (ps_ret (pe_and (pe_cmpR op_ne (pe_ix ix_tup (pv 0) pe_int (fun _ _ => rfl)) pe_str (nomark _)) (pe_one (pe_cmpR op_in_seq pe_bl (pe_lc (own := [("_law_one", 1)]) (g := gName 1) (by rfl) scLHas.nd (pi_tup (pe_slice sl_tup (pv 0) (po_some pe_int) po_none)) (blkOk_by (own := [("_law_one", 1)]) (N := nLHas) (sc := defScope tLHas) (by decide +kernel))
      (fun _ _ _ _ _ => pg_name (i := 1) scLHas.nd rfl (.inl rfl)) (fun _ _ _ _ _ => pts_nil) (fun _ _ _ _ _ => pe_call GI hr (by rfl) gF F.kp bF .nil pass0 (pa_cons (pv 1) pa_nil))) rfl))))), ?_⟩
  obtain ⟨a, us, rfl, ha, hu⟩ := r.see
  refine ⟨_, rfl, a, _, _, _, rfl, rfl, SqT.of ha, atI_nat (j := 0) rfl, rfl, _, rfl, ?_⟩
  show if decide (V.str t.word = V.str "list") = true then _ else _
  rw [wLs]
  refine ite2 (fun e => ?_) (fun e => ?_)
  · have z : t.hasL = true := by rw [hasL_kids, e, Bool.true_or]
    have q := q H (Same.refl _)
    rw [z] at q
    exact q
  refine ⟨_, rfl, a, _, _, _, rfl, rfl, SqT.of ha, atI_nat (j := 0) rfl, rfl, _, rfl, ?_⟩
  show if (!decide (V.str t.word = V.str "open")) = true then _ else _
  rw [wOp]
  refine ite2 (fun e2 => ?_) (fun e2 => ?_)
  · have no : t.isOp = false := by simpa using e2
    have rk : RpL0 H t.kids us := by
      rcases hu with hu | ⟨x, rfl, _⟩
      · exact hu.2
      · cases no
    refine ⟨_, rfl, 1, rfl, a, _, rfl, SqT.of ha, notWhole _ _, fun p np => ?_⟩
    rw [cutFrom1]
    have s1 := newS (o := .tup us) np
    have gp : (upd H p (.tup us)) p = some (.tup us) := upd_same
    generalize upd H p (.tup us) = H1 at s1 gp ⊢
    have rk1 := rk.tk (Tk.of s1)
    refine ⟨p, rfl, ⟨_, SqT.of gp⟩, fun D nD => ?_⟩
    refine lc_tup (xs := us) (fun i G => Same H1 G ∧ G D = some (.lst (((t.kids.take i).map Kd.hasL).map V.bl))) ⟨newS nD, upd_same⟩ (fun i G _ z => SqT.of (z.1 _ _ gp)) (fun i x G hx z => ?_) (fun G z => ?_)
    · obtain ⟨sG, gD⟩ := z
      obtain ⟨u, hu, ru⟩ := rk1.get hx
      have d1 := kid_dp (List.mem_of_getElem? hu)
      refine ⟨rfl, _, rfl, x, u, rfl, ru.tk (Tk.of sG), by omega, fun G2 s2 => ⟨_, s2 _ _ gD, ?_, sPutS (sG.trans s2) nD, ?_⟩⟩
      · have l3 : t.kids.length ≤ 2 := by cases t <;> simp [Kd.kids]
        rw [List.length_map, List.length_map]
        have := List.length_take_le' i t.kids
        exact small1000 (by omega)
      · rw [upd_same, List.take_add_one, hu, List.map_append, List.map_append]
        rfl
    · obtain ⟨sG, gD⟩ := z
      rw [← rk1.len, List.take_length] at gD
      refine ⟨D, _, rfl, .inl (SqL.of gD), rfl, ?_, ?_⟩
      · rw [List.all_map]
        exact List.all_eq_true.mpr fun _ _ => rfl
      show Q (.bl (inV (.bl true) ((t.kids.map Kd.hasL).map V.bl))) G
      have z : t.hasL = t.kids.any Kd.hasL := by rw [hasL_kids, Bool.eq_false_iff.mpr e, Bool.false_or]
      have q := q G (s1.trans sG)
      rw [z] at q
      rw [inV_true, List.any_map]
      exact q
  · have z : t.hasL = false := by
      have o : t.isOp = true := by simpa using e2
      cases t with
      | opn x => rfl
      | _ => cases o
    have q := q H (Same.refl _)
    rw [z] at q
    exact q
theorem okLHas {f : Addr} {fd : FuncData} (F : Fun K "_law_has_list" "_law_has_list" tLHas f fd) (bF : Binds K fd psK []) (gF : mg "_law_has_list" = some (.ref f)) : ∀ n, FnOk P w K mg base CX0 (n + 1) f fd psK (spLHas n)
  | 0 => noFn44 fun vs H Q E h => by
    obtain ⟨v, t, _, _, hn, _⟩ := h
    omega
  | n + 1 => okLHas1 F bF gF (okLHas F bF gF n)
end
end Kq

/-! min(list of ints, default=None) -/
namespace Kmd
open PySem PySem.Spec PyProof.Rows L2 PySem.W
theorem dpI (K : PySem.W.Frag) (H : Hp) : ∀ ns : List Int, DpAll K H (ns.map V.int) (ns.map PyData.int)
  | [] => .nil
  | n :: ns => .cons (.int n) (dpI K H ns)
def rMinDef (K : PySem.W.Frag) : List V → List V → Hp → VK → Prop := fun vs zs H Q => ∃ (a : Addr) (ns : List Int), vs = [.ref a] ∧ zs = [.non] ∧ SqL K H a (ns.map V.int) ∧ (ns = [] → Q .non H) ∧ ∀ n ms, ns = n :: ms → Q (.int (ms.foldl min n)) H
theorem depthI : ∀ ns : List Int, PyData.depthAll (ns.map PyData.int) = 0
  | [] => by simp [PyData.depthAll]
  | n :: ns => by simp [PyData.depthAll, PyData.depth, depthI ns]
theorem cr_minDef {X : Cx} (hc : X.calm = true) (hu : X.A.units + 64 < cLine) : CallRK X (.builtin "min") [Str.ofString "default"] (rMinDef X.K) := by
  intro pins s σ H vs zs us ws Q I r rz h
  obtain ⟨a, ns, rfl, rfl, hs, q0, q1⟩ := h
  obtain ⟨its, rv, hl, _⟩ := I.list hs
  obtain rfl := Vals.ref1 r
  obtain ⟨w1, rfl, e1⟩ := vals1 rz
  obtain rfl : w1 = Value.none := e1
  obtain ⟨as, hr⟩ := Dp.readsAll I (ns.map PyData.int) (ns.map V.int) its (dpI _ _ ns) rv
  refine min_list_default (xs := ns.map PyData.int) (as := as) (I.ok.hd hc) hl.isList (by simpa using hr) ⟨?_, ?_⟩ (by rw [depthI]; omega) (fun e h' tk hk => ?_) (fun y ys i v h' tk bs e hv rd hk => ?_)
  · intro x hx y hy
    obtain ⟨i, _, rfl⟩ := List.mem_map.mp hx
    obtain ⟨j, _, rfl⟩ := List.mem_map.mp hy
    rfl
  · intro x hx
    obtain ⟨i, _, rfl⟩ := List.mem_map.mp hx
    exact fun z => by cases z
  · exact ⟨.non, H, I.kept hk, rfl, q0 (List.map_eq_nil_iff.mp e)⟩
  · cases ns with
    | nil => cases e
    | cons n ms =>
      obtain ⟨e1, e2⟩ := List.cons.inj e
      subst e1 e2
      rw [minD_ints] at rd
      have q := q1 n ms rfl
      cases rd
      exact ⟨.int (ms.foldl min n), H, I.kept hk, ⟨_, rfl⟩, q⟩
end Kmd

/-! _law_first_odd -/
namespace Kq
open PySem PySem.Spec PyProof.Rows L2 Kf Kg Kv Kk
theorem tupGK {X : Cx} (K : PySem.W.Frag) (h : X.K = K) {es : List Expr} {k : Nat} {t : TGs} {n : Nat} {pos : Pos} (hc : X.calm = true) (hp : PGs X es t)
    (hn : (assignEach es X.env).length = n := by rfl) (hst : (assignEach es X.env).findIdx? (·.1) = none := by rfl) : PG X (.Tuple es k pos) (gTup K n t) := by
  subst h
  exact pg_tup hc hp hn hst
theorem ixLK {X : Cx} (K : PySem.W.Frag) (h : X.K = K) : IxR X (rIxL K) := by
  subst h
  exact ix_list
abbrev tOdd : Stmt := tp 65
abbrev nOdd : List Str := ["_law_kind_here", "_law_looked_here", "_law_some", "_law_ends", "_law_makers", "_law_made", "_law_odd", "_law_k", "_law_one", "_law_bad", "_law_name"]
abbrev psOdd : List Str := ["_law_kind_here", "_law_looked_here"]
namespace Kd
def ati (as : List Kd) (i : Nat) : Kd := as.getD i .num
def mks (as : List Kd) (n : Nat) : List Nat := (List.range n).filter fun i => (ati as i).mk
def mde (as : List Kd) : List Str := (mks as as.length).map fun i => (ati as i).nmR
def od0 (as : List Kd) (lk : List Str) : List Nat := (mks as as.length).filter fun i => decide ((ati as i).nmR ∈ lk)
def bad (ms : List Str) (a : Kd) : Bool := (!a.res.opens.isEmpty || a.res.hasL) || a.opens.any fun x => decide (x ∈ ms)
def mor (as : List Kd) (i : Nat) : Bool := (ati as i).isFn && !(ati as i).mk && bad (mde as) (ati as i)
end Kd
theorem ati_get {as : List Kd} {i : Nat} {a : Kd} (h : as[i]? = some a) : Kd.ati as i = a := by
  unfold Kd.ati
  rw [List.getD_eq_getElem?_getD, h]
  rfl
theorem arg_size : ∀ {t a : Kd}, a ∈ t.args → a.size ≤ t.size
  | .fn b c, a, h => by
    rw [Kd.size_fn]
    rcases List.mem_cons.mp (show a ∈ b :: c.args from h) with rfl | h
    · omega
    · have := arg_size h
      omega
theorem arg_dp : ∀ {t a : Kd}, a ∈ t.args → a.dp + 1 ≤ t.dp
  | .fn b c, a, h => by
    show _ ≤ max b.dp c.dp + 1
    rcases List.mem_cons.mp (show a ∈ b :: c.args from h) with rfl | h
    · omega
    · have := arg_dp h
      omega
theorem res_dp : ∀ t : Kd, t.res.dp ≤ t.dp
  | .fn a b => by
    have := res_dp b
    show b.res.dp ≤ max a.dp b.dp + 1
    omega
  | .opn _ => Nat.le_refl _
  | .num => Nat.le_refl _
  | .tru => Nat.le_refl _
  | .pair _ _ => Nat.le_refl _
  | .eith _ _ => Nat.le_refl _
  | .lst _ => Nat.le_refl _
def intV (ns : List Nat) : List V := ns.map fun j => V.int (j : Nat)
theorem RpL0.at {H : Hp} : ∀ {ts : List Kd} {vs : List V} {i : Nat} {a : Kd}, RpL0 H ts vs → ts[i]? = some a → ∃ v, vs[i]? = some v ∧ Rp0 H a v
  | t :: _, w :: _, 0, a, h, e => ⟨w, rfl, by rw [← show t = a from Option.some.inj e]; exact h.1⟩
  | _ :: ts, _ :: vs, i + 1, a, h, e => RpL0.at (ts := ts) (vs := vs) (i := i) h.2 e
  | [], [], i, a, _, e => by simp at e
  | [], _ :: _, _, _, h, _ => h.elim
  | _ :: _, [], _, _, h, _ => h.elim
theorem bkN {H G : Hp} {p : Addr} (s : Same H G) (n : G p = none) : H p = none := by
  cases e : H p with
  | none => rfl
  | some o => rw [s _ _ e] at n; cases n
theorem inV_ints (i : Nat) (ns : List Nat) : inV (.int (i : Nat)) (intV ns) = decide (i ∈ ns) := by
  unfold inV intV
  rw [List.any_map]
  apply Bool.eq_iff_iff.mpr
  rw [List.any_eq_true, decide_eq_true_eq]
  constructor
  · rintro ⟨y, hy, e⟩
    have e : eqV (.int (y : Nat)) (.int (i : Nat)) = true := e
    have e : ((y : Nat) : Int) = ((i : Nat) : Int) := by simpa [eqV] using e
    have : y = i := by omega
    rw [← this]
    exact hy
  · exact fun h => ⟨i, h, by simp [eqV]⟩
theorem flatInt (ns : List Nat) : (intV ns).all flatV = true := by
  unfold intV
  rw [List.all_map]
  exact List.all_eq_true.mpr fun _ _ => rfl
theorem arg_op : ∀ {t a : Kd}, a ∈ t.args → ∀ x ∈ a.opens, x ∈ t.opens
  | .fn b c, a, h, x, hx => by
    rcases List.mem_cons.mp (show a ∈ b :: c.args from h) with rfl | h
    · exact List.mem_append.mpr (.inl hx)
    · exact List.mem_append.mpr (.inr (arg_op h x hx))
theorem res_op : ∀ {t : Kd}, ∀ x ∈ t.res.opens, x ∈ t.opens
  | .fn a b, x, hx => List.mem_append.mpr (.inr (res_op x hx))
  | .opn _, _, hx => hx
  | .num, _, hx => hx
  | .tru, _, hx => hx
  | .pair _ _, _, hx => hx
  | .eith _ _, _, hx => hx
  | .lst _, _, hx => hx
theorem mks_mem {as : List Kd} {j : Nat} (h : j ∈ Kd.mks as as.length) : ∃ a, as[j]? = some a ∧ a.mk = true ∧ Kd.ati as j = a := by
  obtain ⟨h1, h2⟩ := List.mem_filter.mp h
  have lt := List.mem_range.mp h1
  have e := List.getElem?_eq_getElem lt
  have ea := ati_get e
  rw [ea] at h2
  exact ⟨_, e, h2, ea⟩
theorem mks_memI {as : List Kd} {i : Nat} {a : Kd} (h : as[i]? = some a) : decide (i ∈ Kd.mks as as.length) = a.mk := by
  have lt : i < as.length := (List.getElem?_eq_some_iff.mp h).1
  apply Bool.eq_iff_iff.mpr
  rw [decide_eq_true_eq]
  unfold Kd.mks
  rw [List.mem_filter, ati_get h]
  exact ⟨fun z => z.2, fun z => ⟨List.mem_range.mpr lt, z⟩⟩
theorem intV_int (ns : List Nat) : intV ns = (ns.map fun j => ((j : Nat) : Int)).map V.int := by
  unfold intV
  rw [List.map_map]
  rfl
theorem fmin (x : Nat) : ∀ ms : List Nat, (ms.map fun j => ((j : Nat) : Int)).foldl min ((x : Nat) : Int) = ((ms.foldl min x : Nat) : Int) := by
  intro ms
  induction ms generalizing x with
  | nil => rfl
  | cons y ms ih =>
    rw [List.map_cons, List.foldl_cons, List.foldl_cons, ← ih]
    congr 1
    omega
theorem fmin_le : ∀ (ms : List Nat) (x : Nat), ms.foldl min x ≤ x ∧ ∀ y ∈ ms, ms.foldl min x ≤ y
  | [], x => ⟨Nat.le_refl _, fun _ h => by cases h⟩
  | z :: ms, x => by
    obtain ⟨h1, h2⟩ := fmin_le ms (min x z)
    rw [List.foldl_cons]
    refine ⟨by omega, fun y hy => ?_⟩
    rcases List.mem_cons.mp hy with rfl | hy
    · omega
    · exact h2 y hy
theorem fmin_mem : ∀ (ms : List Nat) (x : Nat), ms.foldl min x ∈ x :: ms
  | [], x => List.mem_cons_self
  | z :: ms, x => by
    rw [List.foldl_cons]
    rcases List.mem_cons.mp (fmin_mem ms (min x z)) with h | h
    · rw [h]
      rcases Nat.le_total x z with g | g
      · rw [Nat.min_eq_left g]; exact List.mem_cons_self
      · rw [Nat.min_eq_right g]; exact List.mem_cons_of_mem _ List.mem_cons_self
    · exact List.mem_cons_of_mem _ (List.mem_cons_of_mem _ h)
/-- the same tellings of what has no end -/
theorem mor_odd {t : Kd} {lk : List Str} {i : Nat} {a : Kd} (ha : t.args[i]? = some a) : i ∈ Kd.od0 t.args lk ++ (List.range t.args.length).filter (Kd.mor t.args) ↔ a.odd t.ms lk = true := by
  have lt : i < t.args.length := (List.getElem?_eq_some_iff.mp ha).1
  have ea := ati_get ha
  have hm : i ∈ Kd.mks t.args t.args.length ↔ a.mk = true := by
    rw [← mks_memI ha, decide_eq_true_eq]
  have hms : ∀ x, x ∈ Kd.mde t.args ↔ x ∈ t.ms := fun x => by
    unfold Kd.mde Kd.ms
    constructor
    · intro h
      obtain ⟨j, hj, rfl⟩ := List.mem_map.mp h
      obtain ⟨b, hb, mb, eb⟩ := mks_mem hj
      rw [eb]
      exact List.mem_map.mpr ⟨b, List.mem_filter.mpr ⟨List.mem_of_getElem? hb, mb⟩, rfl⟩
    · intro h
      obtain ⟨b, hb, rfl⟩ := List.mem_map.mp h
      obtain ⟨h1, h2⟩ := List.mem_filter.mp hb
      obtain ⟨j, hj⟩ := List.mem_iff_getElem?.mp h1
      refine List.mem_map.mpr ⟨j, ?_, by rw [ati_get hj]⟩
      have z := mks_memI hj
      rw [h2, decide_eq_true_eq] at z
      exact z
  rw [List.mem_append]
  unfold Kd.od0
  rw [List.mem_filter, List.mem_filter, hm, ea, decide_eq_true_eq]
  unfold Kd.mor
  rw [ea]
  have hop : ∀ k : Kd, (k.nodes.any fun p => p.isL || p.isOp) = (!k.opens.isEmpty || k.hasL) := fun k => by
    have e1 : (!k.opens.isEmpty) = k.nodes.any Kd.isOp := by
      rw [← Kd.opens_nodes]
      apply Bool.eq_iff_iff.mpr
      rw [List.any_eq_true]
      constructor
      · intro h
        cases hh : k.nodes.filterMap Kd.nm? with
        | nil => rw [hh] at h; cases h
        | cons x xs =>
          obtain ⟨y, hy, e⟩ := List.mem_filterMap.mp (show x ∈ k.nodes.filterMap Kd.nm? by rw [hh]; exact List.mem_cons_self)
          refine ⟨y, hy, ?_⟩
          cases y <;> first | rfl | cases e
      · rintro ⟨y, hy, e⟩
        cases y with
        | opn x =>
          have : x ∈ k.nodes.filterMap Kd.nm? := List.mem_filterMap.mpr ⟨_, hy, rfl⟩
          cases hh : k.nodes.filterMap Kd.nm? with
          | nil => rw [hh] at this; cases this
          | cons _ _ => rfl
        | _ => cases e
    rw [e1]
    unfold Kd.hasL
    induction k.nodes with
    | nil => rfl
    | cons y ys ih =>
      rw [List.any_cons, List.any_cons, List.any_cons, ih]
      cases y.isL <;> cases y.isOp <;> cases ys.any Kd.isOp <;> cases ys.any Kd.isL <;> rfl
  have hq : (a.opens.any fun x => decide (x ∈ Kd.mde t.args)) = a.opens.any fun x => decide (x ∈ t.ms) := by
    congr 1
    funext x
    exact decide_eq_decide.mpr (hms x)
  unfold Kd.odd Kd.hasEnd Kd.bad
  rw [hq]
  cases hmk : a.mk with
  | true =>
    have hfn : a.isFn = true := by
      unfold Kd.mk at hmk
      exact (Bool.and_eq_true_iff.mp hmk).1
    rw [hfn]
    simp
  | false =>
    rw [if_neg Bool.false_ne_true]
    unfold Kd.ask
    rw [hop a.res]
    cases a.isFn <;> cases (!a.res.opens.isEmpty) <;> cases a.res.hasL <;> cases (a.opens.any fun x => decide (x ∈ t.ms)) <;> simp [lt]
theorem ubd_min (t : Kd) (lk : List Str) : (Kd.od0 t.args lk ++ (List.range t.args.length).filter (Kd.mor t.args) = [] → t.ubd lk = none) ∧
    ∀ x ms, Kd.od0 t.args lk ++ (List.range t.args.length).filter (Kd.mor t.args) = x :: ms → t.ubd lk = some (ms.foldl min x) := by
  refine ⟨fun h => ?_, fun x ms h => ?_⟩
  · refine fi_none (Bool.eq_false_iff.mpr fun z => ?_)
    obtain ⟨a, ha, e⟩ := List.any_eq_true.mp z
    obtain ⟨i, hi⟩ := List.mem_iff_getElem?.mp ha
    have := (mor_odd (lk := lk) hi).mpr e
    rw [h] at this
    cases this
  · have hm := fmin_mem ms x
    have hle := fmin_le ms x
    rw [← h] at hm
    have lt : ms.foldl min x < t.args.length := by
      rcases List.mem_append.mp hm with z | z
      · have := (List.mem_filter.mp (List.mem_filter.mp z).1).1
        exact List.mem_range.mp this
      · exact List.mem_range.mp (List.mem_filter.mp z).1
    have hi := List.getElem?_eq_getElem lt
    refine fi_some (Bool.eq_false_iff.mpr fun z => ?_) hi ((mor_odd (lk := lk) hi).mp hm)
    obtain ⟨a, ha, e⟩ := List.any_eq_true.mp z
    obtain ⟨j, hj⟩ := List.mem_iff_getElem?.mp ha
    have lj : j < ms.foldl min x := by
      have := (List.getElem?_eq_some_iff.mp hj).1
      rw [List.length_take] at this
      omega
    rw [List.getElem?_take_of_lt lj] at hj
    have := (mor_odd (lk := lk) hj).mpr e
    rw [h] at this
    rcases List.mem_cons.mp this with rfl | z
    · omega
    · have := hle.2 j z
      omega
theorem Rp0.op {H : Hp} {t : Kd} {v : V} (r : Rp0 H t v) (e : t.isOp = true) : ∃ a, v = .ref a ∧ t.res = t ∧ H a = some (.tup [.str "open", .str t.nmR]) := by
  cases t with
  | opn x =>
    obtain ⟨a, e, g⟩ := r
    exact ⟨a, e, rfl, g⟩
  | _ => cases e
theorem res_res : ∀ t : Kd, t.res.res = t.res
  | .fn a b => res_res b
  | .opn _ => rfl
  | .num => rfl
  | .tru => rfl
  | .pair _ _ => rfl
  | .eith _ _ => rfl
  | .lst _ => rfl
theorem nmR_res (t : Kd) : t.res.nmR = t.nmR := by
  unfold Kd.nmR
  rw [res_res]
section
variable {P : Program} {w : World} {K : PySem.W.Frag} {mg : Str → Option Value} {base : Heap}
theorem scOdd : FnScope nOdd psOdd (defScope tOdd) := ⟨rfl, rfl, rfl, by decide +kernel, rfl, by decide +kernel, by decide +kernel⟩
/-- what is asked of a kind that is told of -/
structure Ok44 (t : Kd) : Prop where
  sz : t.size ≤ 900
  dp : t.dp ≤ 12
  four : t.args.length ≤ 4
  nm : ∀ x ∈ t.opens, Nm x
def spOdd : Sp := fun vs H Q _ => ∃ (v : V) (l : Addr) (t : Kd) (lk : List Str), vs = [v, .ref l] ∧ Rp0 H t v ∧ Ok44 t ∧ H l = some (.tup (lk.map V.str)) ∧ ∀ G : Hp, Same H G → Q (onV (t.ubd lk)) G
theorem okOdd {f fA fO fH : Addr} {fd fdA fdO fdH : FuncData} {k : Nat} (F : Fun K "_law_first_odd" "_law_first_odd" tOdd f fd)
    (GA : FnOk P w K mg base CX0 k fA fdA psK spLArgs) (bA : Binds K fdA psK []) (gA : mg "_law_arguments" = some (.ref fA)) (kA : PySem.W.keepIn K (.ref fA) = true)
    (GO : FnOk P w K mg base CX0 k fO fdO psK (spLOpens 14)) (bO : Binds K fdO psK []) (gO : mg "_law_opens" = some (.ref fO)) (kO : PySem.W.keepIn K (.ref fO) = true)
    (GH : FnOk P w K mg base CX0 k fH fdH psK (spLHas 14)) (bH : Binds K fdH psK []) (gH : mg "_law_has_list" = some (.ref fH)) (kH : PySem.W.keepIn K (.ref fH) = true)
    (me : mg "enumerate" = none) (mm : mg "min" = none) : FnOk P w K mg base CX0 (k + 1) f fd psOdd spOdd := by
  refine F.ok scOdd (fun vs H Q E h => ?_) (fun cdv A outer s H vs Q E hr h => ?_)
  · obtain ⟨v, l, t, lk, rfl, _⟩ := h
    rfl
  obtain ⟨v, l, t, lk, rfl, r, ok, hl, q⟩ := h
  refine ⟨_, pss_cons (ps_set (i := 2) scOdd.nd rfl (.inl rfl) (pe_ix ix_tup (pe_call GA hr (by rfl) gA kA bA .nil pass0 (pa_cons (pv 0) pa_nil)) pe_int (fun _ _ => rfl)))
    (pss_cons (ps_set (i := 3) scOdd.nd rfl (.inr rfl) (pe_lc (own := [("_law_one", 8)]) (g := gName 8) (by rfl) scOdd.nd (pi_list (pv 2)) (blkOk_by (own := [("_law_one", 8)]) (N := nOdd) (sc := defScope tOdd) (by decide +kernel))
      (fun _ _ _ _ _ => pg_name (i := 8) scOdd.nd rfl (.inl rfl)) (fun _ _ _ _ _ => pts_nil) (fun _ _ _ _ _ => pe_ix (ixTK K rfl) (pe_call GA hr (by rfl) gA kA bA .nil pass0 (pa_cons (pv 8) pa_nil)) pe_int (fun _ _ => rfl))))
    (pss_cons (ps_setLc (i := 4) (own := [("_law_k", 7), ("_law_one", 8)]) (g := gTup K 2 (gCons (gName 7) (gCons (gName 8) gNil))) (tt := _) (by rfl) scOdd.nd rfl rfl (sw_true rfl rfl rfl (by decide +kernel)) (pi_enum (by rfl) me (pa_cons (pv 2) pa_nil)) (blkOk_by (own := [("_law_k", 7), ("_law_one", 8)]) (N := nOdd) (sc := defScope tOdd) (by decide +kernel))
      (fun _ _ _ _ _ => tupGK K rfl rfl (pgs_cons (pg_name (i := 7) scOdd.nd rfl (.inl rfl)) (pgs_cons (pg_name (i := 8) scOdd.nd rfl (.inl rfl)) pgs_nil)))
      (fun _ _ _ _ _ => pts_one (PW.pt (pw_and (pt_cmpR op_eq (pe_ix (ixTK K rfl) (pv 8) pe_int (fun _ _ => rfl)) pe_str (nomark _)) (pw_and1 (pt_cmpR op_eq (pe_ix (ixTK K rfl) (pe_ix (ixLK K rfl) (pv 3) (pv 7) (fun _ _ => rfl)) pe_int (fun _ _ => rfl)) pe_str (nomark _))))))
      (fun _ _ _ _ _ => pv 7))
    (pss_cons (ps_set (i := 5) scOdd.nd rfl (.inr rfl) (pe_lc (own := [("_law_k", 7)]) (g := gName 7) (by rfl) scOdd.nd (pi_list (pv 4)) (blkOk_by (own := [("_law_k", 7)]) (N := nOdd) (sc := defScope tOdd) (by decide +kernel))
      (fun _ _ _ _ _ => pg_name (i := 7) scOdd.nd rfl (.inl rfl)) (fun _ _ _ _ _ => pts_nil) (fun _ _ _ _ _ => pe_ix (ixTK K rfl) (pe_ix (ixLK K rfl) (pv 3) (pv 7) (fun _ _ => rfl)) pe_int (fun _ _ => rfl))))
    (pss_cons (ps_setLc (i := 6) (own := [("_law_k", 7)]) (g := gName 7) (by rfl) scOdd.nd rfl rfl (sw_true rfl rfl rfl (by decide +kernel)) (pi_list (pv 4)) (blkOk_by (own := [("_law_k", 7)]) (N := nOdd) (sc := defScope tOdd) (by decide +kernel))
      (fun _ _ _ _ _ => pg_name (i := 7) scOdd.nd rfl (.inl rfl)) (fun _ _ _ _ _ => pts_one (pt_cmpR (op_in_seqK K rfl) (pe_ix (ixTK K rfl) (pe_ix (ixLK K rfl) (pv 3) (pv 7) (fun _ _ => rfl)) pe_int (fun _ _ => rfl)) (pv 1) rfl)) (fun _ _ _ _ _ => pv 7))
    (pss_cons (ps_for PassesOwn.never rfl (pi_enum (by rfl) me (pa_cons (pv 2) pa_nil)) (pg_tup rfl (pgs_cons (pg_name (i := 7) scOdd.nd rfl (.inl rfl)) (pgs_cons (pg_name (i := 8) scOdd.nd rfl (.inl rfl)) pgs_nil)))
      (pss_one (ps_if (PW.pt (pw_and (pt_cmpR op_eq (pe_ix ix_tup (pv 8) pe_int (fun _ _ => rfl)) pe_str (nomark _)) (pw_and1 (pt_cmpR op_notIn_seq (pv 7) (pv 4) rfl))))
        (C8.pss_cut (ps_set (i := 9) scOdd.nd rfl (.inl rfl) (pe_or (pe_cmpR (op_neD hr.units) (pe_call GO hr (by rfl) gO kO bO .nil pass0 (pa_cons (pe_ix ix_list (pv 3) (pv 7) (fun _ _ => rfl)) pa_nil)) (pe_lst pa_nil) (nomark _)) (pe_one (pe_call GH hr (by rfl) gH kH bH .nil pass0 (pa_cons (pe_ix ix_list (pv 3) (pv 7) (fun _ _ => rfl)) pa_nil)))))
        (pss_one (ps_if (PW.pt (pw_or (pt_val (pv 9)) (pw_or1 (pt_cmpR (op_neD hr.units) (pe_lc (own := [("_law_name", 10)]) (g := gName 10) (by rfl) scOdd.nd (pi_list (pe_call GO hr (by rfl) gO kO bO .nil pass0 (pa_cons (pv 8) pa_nil))) (blkOk_by (own := [("_law_name", 10)]) (N := nOdd) (sc := defScope tOdd) (by decide +kernel))
            (fun _ _ _ _ _ => pg_name (i := 10) scOdd.nd rfl (.inl rfl)) (fun _ _ _ _ _ => pts_one (pt_cmpR (op_in_seqK K rfl) (pv 10) (pv 5) rfl)) (fun _ _ _ _ _ => pv 10)) (pe_lst pa_nil) (nomark _)))))
          (pss_one (ps_expr (pe_bm PySem.F.plainAttrs_list PySem.F.slot_list_append PySem.F.type_list_append mt_append (pv 6) (pa_cons (pv 7) pa_nil)))) pss_nil))) pss_nil)))
    (pss_one (ps_ret (pe_callBK (Kmd.cr_minDef rfl hr.units) (by rfl) mm (by decide +kernel) (pa_cons (pv 6) pa_nil) (pk_cons pe_non pk_nil))))))))), ?_⟩
  refine ⟨_, rfl, v, t, rfl, r, ok.sz, fun p l0 us u G1 s1 gp gl0 ra rr => ⟨p, _, _, .ref l0, rfl, rfl, SqT.of gp, atI_nat (j := 0) rfl, ?_⟩⟩
  have l4 := ok.four
  have lus := ra.len
  -- ends
  refine ⟨_, rfl, l0, rfl, ⟨_, SqL.of gl0⟩, fun D nD => ?_⟩
  refine lc_list (xs := us) (fun i G => Same G1 G ∧ ∃ es, G D = some (.lst es) ∧ RpL0 G ((t.args.take i).map Kd.res) es) ⟨newS nD, [], upd_same, trivial⟩ (fun i G _ z => SqL.of (z.1 _ _ gl0)) (fun i x G hx z => ?_) (fun G z => ?_)
  · obtain ⟨sG, es, gD, re⟩ := z
    obtain ⟨a, ha, rx⟩ := ra.get hx
    have le := re.len
    rw [List.length_map] at le
    have lt := List.length_take_le' i t.args
    refine ⟨rfl, _, rfl, x, a, rfl, rx.tk (Tk.of sG), Nat.le_trans (arg_size (List.mem_of_getElem? ha)) ok.sz, fun p2 l2 us2 u2 G2 s2 gp2 gl2 ra2 rr2 => ⟨p2, _, _, u2, rfl, rfl, SqT.of gp2, atI_nat (j := 1) rfl, es, s2 _ _ gD, small1000 (by omega), sPutS (sG.trans s2) nD, es ++ [u2], upd_same, ?_⟩⟩
    have tk2 : Tk G2 (upd G2 D (.lst (es ++ [u2]))) := Tk.rfl.put (fun _ z => by rw [s2 _ _ gD] at z; cases z)
    rw [List.take_add_one, ha, List.map_append]
    exact RpL0.app (us := [a.res]) (ws := [u2]) ((re.tk (Tk.of s2)).tk tk2) ⟨rr2.tk tk2, trivial⟩
  obtain ⟨sE, es, gD, re⟩ := z
  rw [← lus, List.take_length] at re
  have gl1 := sE _ _ gl0
  have ra1 := ra.tk (Tk.of sE)
  have sH2 := s1.trans sE
  -- makers
  refine ⟨_, rfl, l0, us, rfl, SqL.of gl1, fun D2 nD2 => ?_⟩
  have lre := re.len
  rw [List.length_map] at lre
  refine lc_it (walk_enum (K := K) (a := l0) (xs := us)) (fun i F => Same G F ∧ F D2 = some (.lst (intV (Kd.mks t.args i)))) ⟨newS nD2, upd_same⟩ (fun i F _ z => SqL.of (z.1 _ _ gl1)) (fun i x F F' hi z y => ?_) (fun F z => ?_)
  · obtain ⟨sF, gD2⟩ := z
    obtain ⟨T, x1, x2, rfl, nT, rfl, e1, e2⟩ := y
    cases e1
    have e2 : us[i]? = some x2 := e2
    obtain ⟨a, ha, rx⟩ := ra1.get e2
    obtain ⟨e, he, rE⟩ := re.at (i := i) (a := a.res) (by rw [List.getElem?_map, ha]; rfl)
    have sT := newS (o := .tup [V.int (i : Nat), x2]) nT
    have gT : (upd F T (.tup [V.int (i : Nat), x2])) T = some (.tup [V.int (i : Nat), x2]) := upd_same
    have sFT := sF.trans sT
    have gD2T := sT _ _ gD2
    generalize upd F T (.tup [V.int (i : Nat), x2]) = F2 at sT gT sFT gD2T ⊢
    obtain ⟨pa, ws, rfl, hpa, _⟩ := (rx.tk (Tk.of sFT)).see
    obtain ⟨pe, wes, rfl, hpe, _⟩ := (rE.tk (Tk.of sFT)).see
    have ea := ati_get ha
    have em : Kd.mks t.args (i + 1) = Kd.mks t.args i ++ (if a.mk then [i] else []) := by
      unfold Kd.mks
      rw [List.range_succ, List.filter_append, List.filter_cons, ea]
      cases a.mk <;> rfl
    refine ⟨T, _, rfl, SqT.of gT, rfl, _, _, rfl, _, _, rfl, rfl, rfl, ?_⟩
    refine ⟨_, rfl, pa, _, _, _, rfl, rfl, SqT.of hpa, atI_nat (j := 0) rfl, rfl, _, rfl, ?_⟩
    show if decide (V.str a.word = V.str "fun") = true then _ else _
    rw [wFn]
    have lm : (Kd.mks t.args i).length ≤ i := Nat.le_trans (List.length_filter_le _ _) (by rw [List.length_range]; exact Nat.le_refl _)
    refine ite2 (fun ef => ?_) (fun ef => ?_)
    · refine ⟨_, rfl, _, rfl, D, _, _, .ref pe, rfl, rfl, .inl (.inl (sFT _ _ gD)), atI_nat he, pe, _, _, _, rfl, rfl, SqT.of hpe, atI_nat (j := 0) rfl, rfl, _, rfl, ?_⟩
      show if decide (V.str a.res.word = V.str "open") = true then _ else _
      rw [wOp]
      refine ite2 (fun eo => ?_) (fun eo => ?_)
      · have mk : a.mk = true := by
          unfold Kd.mk
          rw [ef, eo]
          rfl
        refine ⟨_, rfl, _, gD2T, ?_, sPutS sFT nD2, ?_⟩
        · rw [intV, List.length_map]
          exact small1000 (by omega)
        · rw [upd_same, em, mk, intV, intV, List.map_append]
          rfl
      · have mk : a.mk = false := by
          unfold Kd.mk
          rw [ef, Bool.eq_false_iff.mpr eo]
          rfl
        exact ⟨sFT, by rw [em, mk]; simpa using gD2T⟩
    · have mk : a.mk = false := by
        unfold Kd.mk
        rw [Bool.eq_false_iff.mpr ef]
        rfl
      exact ⟨sFT, by rw [em, mk]; simpa using gD2T⟩
  obtain ⟨sM, gM⟩ := z
  rw [← lus] at gM
  have sH3 := sH2.trans sM
  have gD3 := sM _ _ gD
  have re3 := re.tk (Tk.of sM)
  have lmk : (Kd.mks t.args t.args.length).length ≤ 4 := Nat.le_trans (List.length_filter_le _ _) (by rw [List.length_range]; exact l4)
  have lmkV : (intV (Kd.mks t.args t.args.length)).length = (Kd.mks t.args t.args.length).length := by rw [intV, List.length_map]
  -- what stands at a maker's place
  have atM : ∀ (i : Nat) (x : V), (intV (Kd.mks t.args t.args.length))[i]? = some x → ∃ (j : Nat) (pe : Addr), (Kd.mks t.args t.args.length)[i]? = some j ∧ x = .int (j : Nat) ∧ es[j]? = some (.ref pe) ∧ F pe = some (.tup [.str "open", .str (Kd.ati t.args j).nmR]) := fun i x hx => by
    rw [intV, List.getElem?_map] at hx
    obtain ⟨j, hj, rfl⟩ := Option.map_eq_some_iff.mp hx
    obtain ⟨a, ha, hmk, ea⟩ := mks_mem (List.mem_of_getElem? hj)
    obtain ⟨e, he, rE⟩ := re3.at (i := j) (a := a.res) (by rw [List.getElem?_map, ha]; rfl)
    obtain ⟨pe, rfl, _, hpe⟩ := rE.op (by unfold Kd.mk at hmk; exact (Bool.and_eq_true_iff.mp hmk).2)
    rw [nmR_res] at hpe
    exact ⟨j, pe, hj, rfl, he, by rw [ea]; exact hpe⟩
  -- made
  refine ⟨_, rfl, D2, rfl, ⟨_, SqL.of gM⟩, fun D3 nD3 => ?_⟩
  refine lc_list (xs := intV (Kd.mks t.args t.args.length)) (fun i G' => Same F G' ∧ G' D3 = some (.lst ((((Kd.mks t.args t.args.length).take i).map fun j => (Kd.ati t.args j).nmR).map V.str))) ⟨newS nD3, upd_same⟩ (fun i G' _ z => SqL.of (z.1 _ _ gM)) (fun i x G' hx z => ?_) (fun G' z => ?_)
  · obtain ⟨sG, g3⟩ := z
    obtain ⟨j, pe, hj, rfl, he, hpe⟩ := atM i x hx
    refine ⟨rfl, _, rfl, _, rfl, D, _, _, .ref pe, rfl, rfl, .inl (.inl (sG _ _ gD3)), atI_nat he, pe, _, _, _, rfl, rfl, SqT.of (sG _ _ hpe), atI_nat (j := 1) rfl, _, g3, ?_, sPutS sG nD3, ?_⟩
    · rw [List.length_map, List.length_map]
      have := List.length_take_le' i (Kd.mks t.args t.args.length)
      exact small1000 (by omega)
    · rw [upd_same, List.take_add_one, hj, List.map_append, List.map_append]
      rfl
  obtain ⟨sA, gA3⟩ := z
  rw [lmkV, List.take_length] at gA3
  have gA3 : G' D3 = some (.lst ((Kd.mde t.args).map V.str)) := gA3
  have sH4 := sH3.trans sA
  have gM4 := sA _ _ gM
  have gD4 := sA _ _ gD3
  -- odd, of makers
  refine ⟨_, rfl, D2, rfl, ⟨_, SqL.of gM4⟩, fun D4 nD4 => ?_⟩
  refine lc_list (xs := intV (Kd.mks t.args t.args.length)) (fun i G2 => Same G' G2 ∧ G2 D4 = some (.lst (intV (((Kd.mks t.args t.args.length).take i).filter fun j => decide ((Kd.ati t.args j).nmR ∈ lk))))) ⟨newS nD4, upd_same⟩ (fun i G2 _ z => SqL.of (z.1 _ _ gM4)) (fun i x G2 hx z => ?_) (fun G2 z => ?_)
  · obtain ⟨sG, g4⟩ := z
    obtain ⟨j, pe, hj, rfl, he, hpe⟩ := atM i x hx
    have hl2 := sG _ _ (sH4 _ _ hl)
    refine ⟨rfl, _, rfl, _, rfl, D, _, _, .ref pe, rfl, rfl, .inl (.inl (sG _ _ gD4)), atI_nat he, pe, _, _, _, rfl, rfl, SqT.of (sG _ _ (sA _ _ hpe)), atI_nat (j := 1) rfl, _, rfl, l, _, rfl, .inr (SqT.of hl2), rfl, allFlat lk, _, rfl, ?_⟩
    show if inV (V.str (Kd.ati t.args j).nmR) (lk.map V.str) = true then _ else _
    rw [inV_strs]
    have e1 : ((Kd.mks t.args t.args.length).take (i + 1)).filter (fun j => decide ((Kd.ati t.args j).nmR ∈ lk)) = ((Kd.mks t.args t.args.length).take i).filter (fun j => decide ((Kd.ati t.args j).nmR ∈ lk)) ++ [j].filter (fun j => decide ((Kd.ati t.args j).nmR ∈ lk)) := by
      rw [List.take_add_one, hj, List.filter_append]
      rfl
    refine ite2 (fun e => ?_) (fun e => ?_)
    · refine ⟨_, rfl, _, g4, ?_, sPutS sG nD4, ?_⟩
      · rw [intV, List.length_map]
        have := List.length_filter_le (fun j => decide ((Kd.ati t.args j).nmR ∈ lk)) ((Kd.mks t.args t.args.length).take i)
        have := List.length_take_le' i (Kd.mks t.args t.args.length)
        exact small1000 (by omega)
      · rw [upd_same, e1, List.filter_cons, if_pos e, intV, intV, List.map_append]
        rfl
    · refine ⟨sG, ?_⟩
      rw [e1, List.filter_cons, if_neg e]
      simpa using g4
  obtain ⟨sB, gB⟩ := z
  rw [lmkV, List.take_length] at gB
  have gB : G2 D4 = some (.lst (intV (Kd.od0 t.args lk))) := gB
  have sH5 := sH4.trans sB
  have nD4H : H D4 = none := bkN sH4 nD4
  have gl5 := sB _ _ (sA _ _ (sM _ _ gl1))
  have ra5 := ra1.tk (Tk.of ((sM.trans sA).trans sB))
  have re5 := re3.tk (Tk.of (sA.trans sB))
  have gD5 := sB _ _ gD4
  have gM5 := sB _ _ gM4
  have gA5 := sB _ _ gA3
  have n40 : l0 ≠ D4 := ne_of_none (sA _ _ (sM _ _ gl1)) nD4
  have n4D : D ≠ D4 := ne_of_none gD4 nD4
  have n4M : D2 ≠ D4 := ne_of_none gM4 nD4
  have n4A : D3 ≠ D4 := ne_of_none gA3 nD4
  refine ⟨_, rfl, l0, us, rfl, SqL.of gl5, for_it (walk_enum (K := K) (a := l0) (xs := us)) (fun i σ G => ∃ y7 y8 y9, σ = [some v, some (.ref l), some (.ref l0), some (.ref D), some (.ref D2), some (.ref D3), some (.ref D4), y7, y8, y9, none] ∧ (∀ b o, b ≠ D4 → G2 b = some o → G b = some o) ∧ G D4 = some (.lst (intV (Kd.od0 t.args lk ++ (List.range i).filter (Kd.mor t.args)))))
    ⟨none, none, none, rfl, fun _ _ _ e => e, by simpa using gB⟩ (fun i σ G _ z => ?_) (fun i v0 σ G G3 hi z yy => ?_) (fun σ G z => ?_)⟩
  · obtain ⟨_, _, _, _, sK, _⟩ := z
    exact SqL.of (sK _ _ n40 gl5)
  · obtain ⟨y7, y8, y9, rfl, sK, g4⟩ := z
    obtain ⟨T, x1, x2, rfl, nT, rfl, e1, e2⟩ := yy
    cases e1
    have e2 : us[i]? = some x2 := e2
    obtain ⟨a, ha, rx⟩ := ra5.get e2
    obtain ⟨e, he, rE⟩ := re5.at (i := i) (a := a.res) (by rw [List.getElem?_map, ha]; rfl)
    have ma := List.mem_of_getElem? ha
    have sT := newS (o := .tup [V.int (i : Nat), x2]) nT
    have gT : (upd G T (.tup [V.int (i : Nat), x2])) T = some (.tup [V.int (i : Nat), x2]) := upd_same
    have sKT : ∀ b o, b ≠ D4 → G2 b = some o → (upd G T (.tup [V.int (i : Nat), x2])) b = some o := fun b o n h => sT _ _ (sK b o n h)
    have g4T := sT _ _ g4
    generalize upd G T (.tup [V.int (i : Nat), x2]) = F2 at sT gT sKT g4T ⊢
    have ea := ati_get ha
    have li : i < t.args.length := (List.getElem?_eq_some_iff.mp ha).1
    have tkK : ∀ F3 : Hp, (∀ b o, b ≠ D4 → G2 b = some o → F3 b = some o) → Tk G2 F3 := fun F3 k b xs e => k b _ (fun z => by rw [z, gB] at e; cases e) e
    obtain ⟨pa, ws, rfl, hpa0, _⟩ := rx.see
    have hpa := (tkK F2 sKT) _ _ hpa0
    have step : ∀ b : Bool, Kd.mor t.args i = b → intV (Kd.od0 t.args lk ++ (List.range (i + 1)).filter (Kd.mor t.args)) = intV (Kd.od0 t.args lk ++ (List.range i).filter (Kd.mor t.args)) ++ (if b then [V.int (i : Nat)] else []) := fun b hb => by
      rw [List.range_succ, List.filter_append, List.filter_cons, hb, ← List.append_assoc, intV, List.map_append]
      cases b <;> rfl
    have len4 : (intV (Kd.od0 t.args lk ++ (List.range i).filter (Kd.mor t.args))).length ≤ 1000 := by
      rw [intV, List.length_map, List.length_append]
      have h1 : (Kd.od0 t.args lk).length ≤ 4 := Nat.le_trans (List.length_filter_le _ _) lmk
      have h2 := List.length_filter_le (Kd.mor t.args) (List.range i)
      rw [List.length_range] at h2
      omega
    have dpa := arg_dp ma
    have dpt := ok.dp
    have sza := arg_size ma
    have szt := ok.sz
    have rsd := res_dp a
    have rsz := res_size a
    refine ⟨T, _, rfl, SqT.of gT, rfl, _, _, rfl, _, _, rfl, rfl, ?_⟩
    refine ⟨_, rfl, pa, _, _, _, rfl, rfl, SqT.of hpa, atI_nat (j := 0) rfl, rfl, _, rfl, ?_⟩
    show if decide (V.str a.word = V.str "fun") = true then _ else _
    rw [wFn]
    refine ite2 (fun ef => ?_) (fun ef => ⟨_, _, _, rfl, sKT, by rw [step false (by unfold Kd.mor; rw [ea, Bool.eq_false_iff.mpr ef]; rfl)]; simpa using g4T⟩)
    refine ⟨_, rfl, _, rfl, D2, _, rfl, .inl (SqL.of (sKT _ _ n4M gM5)), rfl, flatInt _, _, rfl, ?_⟩
    show if (!inV (V.int ((i : Nat) : Int)) (intV (Kd.mks t.args t.args.length))) = true then _ else _
    rw [inV_ints, mks_memI ha]
    refine ite2 (fun em => ?_) (fun em => ⟨_, _, _, rfl, sKT, by rw [step false (by unfold Kd.mor; rw [ea, Bool.eq_false_iff.mpr em, Bool.and_false]; rfl)]; simpa using g4T⟩)
    have emor : Kd.mor t.args i = Kd.bad (Kd.mde t.args) a := by
      unfold Kd.mor
      rw [ea, ef, em]
      rfl
    refine ⟨fun σ G' => σ = [some v, some (.ref l), some (.ref l0), some (.ref D), some (.ref D2), some (.ref D3), some (.ref D4), some (.int ((i : Nat) : Int)), some (.ref pa), some (.bl (!a.res.opens.isEmpty || a.res.hasL)), none] ∧ (∀ b o, b ≠ D4 → G2 b = some o → G' b = some o) ∧ G' D4 = some (.lst (intV (Kd.od0 t.args lk ++ (List.range i).filter (Kd.mor t.args)))), ?_, ?_⟩
    · refine ⟨_, rfl, _, rfl, D, _, _, e, rfl, rfl, .inl (.inl (sKT _ _ n4D gD5)), atI_nat he, e, a.res, rfl, rE.tk (tkK F2 sKT), by omega, by omega, fun lO GO1 sO gO1 => ⟨Nat.zero_le _, fun e0 ne0 => ?_⟩⟩
      have s0 := newS (o := .lst []) ne0
      refine ⟨.list (a.res.opens.map PyData.str), .list [], .lst (SqL.of (s0 _ _ gO1)) (dpStrs K _ _), .lst (SqL.of upd_same) .nil, shStrs (fun x hx => ok.nm x (arg_op ma x (res_op x hx))), rfl, _, rfl, ?_⟩
      rw [eqvNil]
      have sK1 : ∀ b o, b ≠ D4 → G2 b = some o → (upd GO1 e0 (.lst [])) b = some o := fun b o n h => s0 _ _ (sO _ _ (sKT b o n h))
      have g41 := s0 _ _ (sO _ _ g4T)
      refine ite2 (fun c => ⟨?_, sK1, g41⟩) (fun c => ?_)
      · rw [c, Bool.true_or]
        rfl
      · refine ⟨_, rfl, _, rfl, D, _, _, e, rfl, rfl, .inl (.inl (sK1 _ _ n4D gD5)), atI_nat he, e, a.res, rfl, rE.tk (tkK _ sK1), by omega, fun G3 s3 => ⟨?_, fun b o n h => s3 _ _ (sK1 b o n h), s3 _ _ g41⟩⟩
        rw [Bool.eq_false_iff.mpr c, Bool.false_or]
        rfl
    · rintro σ G' ⟨rfl, sK1, g41⟩
      have app : ∀ G5 : Hp, (∀ b o, b ≠ D4 → G2 b = some o → G5 b = some o) → G5 D4 = some (.lst (intV (Kd.od0 t.args lk ++ (List.range i).filter (Kd.mor t.args)))) → Kd.bad (Kd.mde t.args) a = true →
          (∀ b o, b ≠ D4 → G2 b = some o → (upd G5 D4 (.lst (intV (Kd.od0 t.args lk ++ (List.range i).filter (Kd.mor t.args)) ++ [V.int ((i : Nat) : Int)]))) b = some o) ∧ (upd G5 D4 (.lst (intV (Kd.od0 t.args lk ++ (List.range i).filter (Kd.mor t.args)) ++ [V.int ((i : Nat) : Int)]))) D4 = some (.lst (intV (Kd.od0 t.args lk ++ (List.range (i + 1)).filter (Kd.mor t.args)))) := fun G5 k5 g5 hb =>
        ⟨fun b o n h => by rw [upd_ne n]; exact k5 b o n h, by rw [upd_same, step true (by rw [emor]; exact hb)]; rfl⟩
      refine ⟨_, rfl, _, rfl, ite2 (fun eb => ?_) (fun eb => ?_)⟩
      · obtain ⟨k6, g6⟩ := app G' sK1 g41 (by unfold Kd.bad; rw [eb]; rfl)
        exact ⟨_, rfl, .inl ⟨rfl, _, .inl (.inl g41)⟩, _, rfl, D4, _, _, rfl, rfl, g41, small1000 len4, _, _, _, rfl, k6, g6⟩
      · refine ⟨_, rfl, .ref pa, a, rfl, rx.tk (tkK _ sK1), by omega, by omega, fun lO G5 s5 g5 => ⟨lO, rfl, ⟨_, SqL.of g5⟩, fun D5 nD5 => ?_⟩⟩
        have sK5 : ∀ b o, b ≠ D4 → G2 b = some o → G5 b = some o := fun b o n h => s5 _ _ (sK1 b o n h)
        have g45 := s5 _ _ g41
        refine lc_list (xs := a.opens.map V.str) (fun j F => Same G5 F ∧ F D5 = some (.lst (((a.opens.take j).filter fun x => decide (x ∈ Kd.mde t.args)).map V.str))) ⟨newS nD5, upd_same⟩ (fun j F _ z => SqL.of (z.1 _ _ g5)) (fun j x F hx z => ?_) (fun F z => ?_)
        · obtain ⟨sF, gF5⟩ := z
          rw [List.getElem?_map] at hx
          obtain ⟨y, hy, rfl⟩ := Option.map_eq_some_iff.mp hx
          have e1 : (a.opens.take (j + 1)).filter (fun x => decide (x ∈ Kd.mde t.args)) = (a.opens.take j).filter (fun x => decide (x ∈ Kd.mde t.args)) ++ [y].filter (fun x => decide (x ∈ Kd.mde t.args)) := by
            rw [List.take_add_one, hy, List.filter_append]
            rfl
          refine ⟨rfl, _, rfl, _, rfl, D3, _, rfl, .inl (SqL.of (sF _ _ (sK5 _ _ n4A gA5))), rfl, allFlat _, _, rfl, ?_⟩
          show if inV (V.str y) ((Kd.mde t.args).map V.str) = true then _ else _
          rw [inV_strs]
          refine ite2 (fun ey => ?_) (fun ey => ?_)
          · refine ⟨_, rfl, _, gF5, ?_, sPutS sF nD5, ?_⟩
            · rw [List.length_map]
              have h1 := List.length_filter_le (fun x => decide (x ∈ Kd.mde t.args)) (a.opens.take j)
              have h2 := List.length_take_le' j a.opens
              have h3 := opens_size a
              exact small1000 (by omega)
            · rw [upd_same, e1, List.filter_cons, if_pos ey, List.map_append]
              rfl
          · refine ⟨sF, ?_⟩
            rw [e1, List.filter_cons, if_neg ey]
            simpa using gF5
        · obtain ⟨sF, gF5⟩ := z
          rw [List.length_map, List.take_length] at gF5
          refine ⟨Nat.zero_le _, fun e0 ne0 => ?_⟩
          have s0 := newS (o := .lst []) ne0
          have sK7 : ∀ b o, b ≠ D4 → G2 b = some o → (upd F e0 (.lst [])) b = some o := fun b o n h => s0 _ _ (sF _ _ (sK5 b o n h))
          have g47 := s0 _ _ (sF _ _ g45)
          refine ⟨.list ((a.opens.filter fun x => decide (x ∈ Kd.mde t.args)).map PyData.str), .list [], .lst (SqL.of (s0 _ _ gF5)) (dpStrs K _ _), .lst (SqL.of upd_same) .nil, shStrs (fun x hx => ok.nm x (arg_op ma x (List.mem_filter.mp hx).1)), rfl, _, rfl, ?_⟩
          rw [eqvNil]
          have em2 : (!(a.opens.filter fun x => decide (x ∈ Kd.mde t.args)).isEmpty) = a.opens.any fun x => decide (x ∈ Kd.mde t.args) := by
            induction a.opens with
            | nil => rfl
            | cons y ys ih =>
              rw [List.filter_cons, List.any_cons]
              cases decide (y ∈ Kd.mde t.args) <;> simp_all
          have ebad : Kd.bad (Kd.mde t.args) a = !(a.opens.filter fun x => decide (x ∈ Kd.mde t.args)).isEmpty := by
            unfold Kd.bad
            rw [Bool.eq_false_iff.mpr eb, Bool.false_or, em2]
          refine ite2 (fun c => ?_) (fun c => ?_)
          · obtain ⟨k6, g6⟩ := app _ sK7 g47 (by rw [ebad]; exact c)
            exact ⟨_, rfl, .inl ⟨rfl, _, .inl (.inl g47)⟩, _, rfl, D4, _, _, rfl, rfl, g47, small1000 len4, _, _, _, rfl, k6, g6⟩
          · exact ⟨_, _, _, rfl, sK7, by rw [step false (by rw [emor, ebad]; exact Bool.eq_false_iff.mpr c)]; simpa using g47⟩
  · obtain ⟨y7, y8, y9, rfl, sK, g4⟩ := z
    have sG : Same H G := fun b o e => sK b o (ne_of_none e nD4H) (sH5 _ _ e)
    rw [← lus] at g4
    have q := q G sG
    rw [intV_int] at g4
    obtain ⟨u1, u2⟩ := ubd_min t lk
    refine ⟨_, rfl, D4, _, rfl, rfl, .inl (.inl g4), fun e => ?_, fun n ms e => ?_⟩
    · rw [u1 (List.map_eq_nil_iff.mp e)] at q
      exact q
    · cases hx : Kd.od0 t.args lk ++ (List.range t.args.length).filter (Kd.mor t.args) with
      | nil => rw [hx] at e; cases e
      | cons x xs =>
        rw [hx, List.map_cons] at e
        obtain ⟨rfl, rfl⟩ := List.cons.inj e
        rw [u2 x xs hx] at q
        rw [fmin]
        exact q
end
end Kq

/-! isinstance(e, T) and isinstance(e, (A, B, ..)) of an exception that is pinned -/
namespace Ke
open PySem PySem.Spec PyProof.Rows L2
theorem clsV_eq {c : V} {u v : Value} (h : ClsV c u) (r : RelV c v) : v = u := by
  cases h <;> exact r
theorem paired_eq : ∀ {cs : List V} {us its : List Value}, PySem.Paired ClsV cs us → Vals cs its → its = us
  | [], _, _, .nil, h => by cases h; rfl
  | _ :: _, _, _, .cons p ps, h => by
    cases h with
    | cons q qs => rw [clsV_eq p q, paired_eq ps qs]
def rIsET (K : PySem.W.Frag) (D a : Addr) : List V → Hp → VK → Prop := fun xs H Q => ∃ (tp : Addr) (cs : List V) (us : List Value) (b : Bool), xs = [.ref a, .ref tp] ∧ H tp = some (.tup cs) ∧ PySem.Paired ClsV cs us ∧ PySem.W.kitAny K (.ref D) us = some b ∧ Q (.bl b) H
theorem call_isET {X : Cx} {a D : Addr} {oe : Obj} (C : ExcC X.K D) (hm : (a, oe) ∈ X.pn) (hz : Zc (.ref D) none oe) (hf : ∃ vs, oe.data = .fields vs) : CallR X (.builtin "isinstance") (rIsET X.K D a) := by
  intro pins s σ H xs us Q hI hv hr
  obtain ⟨tp, cs, cu, b, rfl, ht, hp, hk, hQ⟩ := hr
  obtain ⟨vs, hf⟩ := hf
  have hg : s.heap.get? a = some oe := (hI.pin _ (List.mem_append_left _ hm)).1
  cases hv with
  | cons h1 h2 =>
    cases h2 with
    | cons h3 h4 =>
      cases h4
      cases h1
      cases h3
      obtain ⟨its, hvs, ⟨⟨cc, dd, dt, sl⟩, hT, rfl, n, rfl⟩, -⟩ := hI.tuple (show SqT X.K H tp cs from .inl (.inl ht))
      have := paired_eq hp hvs
      subst this
      refine PySem.W.kia_tup (PySem.W.handS_kitx_exc (ox := oe) C.hg C.hk C.hs C.hd C.ha C.hn C.ht C.hm) hI.kIn ?_ hT hk (fun h => by cases h) fun tk => ⟨.bl b, _, hI.tok tk, rfl, hQ⟩
      exact ⟨hg, hz.1, by unfold PySem.W.notCls; rw [hf], by rw [hz.2]; trivial⟩
def rIsE1 (K : PySem.W.Frag) (D a : Addr) : List V → Hp → VK → Prop := fun xs H Q => ∃ (c : V) (cv : Value) (b : Bool), xs = [.ref a, c] ∧ (∀ u, RelV c u → u = cv) ∧ PySem.W.kitOne K (.ref D) cv = some b ∧ Q (.bl b) H
theorem call_isE1 {X : Cx} {a D : Addr} {oe : Obj} (C : ExcC X.K D) (hm : (a, oe) ∈ X.pn) (hz : Zc (.ref D) none oe) (hf : ∃ vs, oe.data = .fields vs) : CallR X (.builtin "isinstance") (rIsE1 X.K D a) := by
  intro pins s σ H xs us Q hI hv hr
  obtain ⟨c, cv, b, rfl, ht, hk, hQ⟩ := hr
  obtain ⟨vs, hf⟩ := hf
  have hg : s.heap.get? a = some oe := (hI.pin _ (List.mem_append_left _ hm)).1
  cases hv with
  | cons h1 h2 =>
    cases h2 with
    | cons h3 h4 =>
      cases h4
      cases h1
      have := ht _ h3
      subst this
      refine PySem.W.kia_one (PySem.W.handS_kitx_exc (ox := oe) C.hg C.hk C.hs C.hd C.ha C.hn C.ht C.hm) hI.kIn ?_ hk (fun h => by cases h) fun tk => ⟨.bl b, _, hI.tok tk, rfl, hQ⟩
      exact ⟨hg, hz.1, by unfold PySem.W.notCls; rw [hf], by rw [hz.2]; trivial⟩
end Ke

/-! defs that are handed the exception under way -/
namespace Kx8
open PySem PySem.Spec PyProof.Rows L2 LamX L2H
/-- a def's promise, called where p is pinned (an exception that is handled); the promise may speak of p -/
structure FnX (P : Program) (w : World) (K : PySem.W.Frag) (mg : Str → Option Value) (base : Heap) (CX : CXT) (k : Nat) (f : Addr) (fd : FuncData) (ps : List Str) (sp : Addr × Obj → Sp) : Prop where
  cnt : ∀ p vs H Q E, sp p vs H Q E → vs.length = ps.length
  go : ∀ (A : Around) (o : List Env) (s : Shared) (H : Hp) (r : Args) (us : List Value) (vs : List V) (Q : VK) (E : XK) (p : Addr × Obj), RoomH k A → PinOk o H s p → Env0 P w K mg base A o s H → BindsTo s fd r (ps.zip us) → Vals vs us → sp p vs H Q E →
    codeAny (model P w) A (.call (.ref f) r) (CR CX o P w H s Q E) s
section
variable {P : Program} {w : World} {K : PySem.W.Frag} {mg : Str → Option Value} {base : Heap} {CX : CXT}
theorem fnX_of {k : Nat} {f : Addr} {nm ql : Str} {prm : Arguments} {bd : List Stmt} {sco : Scope} {dV kV doc pm cdv ct oc : Value} {an od : Option Addr} {sl : Array (Option Value)} {N ps : List Str} {sp : Addr × Obj → Sp}
    (at' : K.lookup f = some ⟨oc, od, .func (PySem.W.fnOf nm ql prm bd sco dV kV doc pm an cdv ct), sl⟩) (hc : PySem.W.codeIn K cdv ql = true) (S : FnScope N ps sco) (cnt : ∀ p vs H Q E, sp p vs H Q E → vs.length = ps.length)
    (body : ∀ (A : Around) (o : List Env) (s : Shared) (H : Hp) (vs : List V) (Q : VK) (E : XK) (p : Addr × Obj), RoomH k (A.deeper (envOfC ql sco s.heap.objs.size f cdv)) → sp p vs H Q E →
      ∃ t, PSs (cxH CX P w K mg base N ql sco f cdv A o s H E p) bd t ∧ t { nx := fun _ G => Q .non G, rt := Q } (start N vs) H) : FnX P w K mg base CX (k + 1) f (PySem.W.fnOf nm ql prm bd sco dV kV doc pm an cdv ct) ps sp where
  cnt := cnt
  go := by
    intro A o s H r us vs Q E p room pin e0 binds vals hsp
    have hold := fun b u (z : base.get? b = some u) => (e0.bs b u z).1
    have kx := e0.mod.kin.keeps hold
    have par : ∀ z ∈ ps.zip us, sco.names.lookup z.1 = some .local ∨ (sco.names.lookup z.1 = some .cell ∧ ((cellsFrom (s.heap.objs.size + 1) sco.names []).lookup z.1).isSome = true) := by
      intro z hz
      have hm : z.1 ∈ ps := (List.of_mem_zip (a := z.1) (b := z.2) hz).1
      exact (S.par z.1 hm).imp id fun q => ⟨q, PySem.W.cellsFrom_some _ _ _ (.inl q)⟩
    refine codeAny_call_function room.depth (kx _ _ at') rfl S.co S.gen rfl (PySem.W.codeRec_of kx hc) (binds _ _ _ _ (wpAny_newFunctionEnv_cells S.kind par ?_))
    rintro env rfl s1 x
    refine ⟨(e0.mod.nolimit.keeps hold).keeps x.toInCall.keep, codeAny_func ?_⟩
    obtain ⟨t, ht, hq⟩ := body A o s H vs Q E p (room.deeper _) hsp
    refine wpAny_mono (ht.run [] s1 (start N vs) H _ (inv_startH S pin e0 (cnt _ _ _ _ _ hsp) vals x) hq) ?_ (fun _ _ z => z)
    intro fl s2 z
    match fl, z with
    | .ret u, ⟨v, _, G, J, rv, q⟩ => exact ⟨v, G, J.os, J.bare, J.base, J.hok, rv, q⟩
    | .next, ⟨_, G, J, q⟩ => exact ⟨V.non, G, J.os, J.bare, J.base, J.hok, rfl, q⟩
    | .brk, ⟨_, _, _, q⟩ => exact q.elim
    | .cont, ⟨_, _, _, q⟩ => exact q.elim
end
section
variable {X : Cx} {CX : CXT} {k : Nat} {f : Addr} {fd : FuncData} {ps : List Str} {sp : Addr × Obj → Sp} {E : L2.St → XK} {x : Str} {q0 pos : Pos} {e : Expr} {es : List Expr} {t : TA} {p : Addr × Obj}
theorem goX {pins : List (Addr × Obj)} {σ : L2.St} {H : Hp} {s : Shared} {Q : VK} {us : List Value} {vs : List V} (F : FnX X.prog X.w X.K X.mg X.base CX k f fd ps sp) (hr : RoomH k X.A) (hp : p ∈ X.pn) (hb : Binds X.K fd ps []) (hx : PassesAt CX X σ (E σ)) (I : Inv X pins σ H s) (rv : Vals vs us)
    (h : sp p vs H Q (E σ)) : wpAny (model X.prog X.w) X.A (call (.ref f) us) (EP X pins σ Q) X.xe s := by
  have n : us.length = ps.length := rv.length.symm.trans (F.cnt _ _ _ _ _ h)
  have bb := hb s us I.kIn (by rw [List.append_nil]; exact n)
  rw [List.append_nil] at bb
  refine wpAny_call (codeAny_mono (F.go X.A X.stack s H ⟨us, []⟩ _ _ Q (E σ) p hr ?_ I.env0 bb rv h) ?_)
  · obtain ⟨h1, h2, h3, h4, h5⟩ := I.pin p (List.mem_append_left _ hp)
    refine ⟨h1, h2, ?_, h5⟩
    rcases I.ok.stk with e | ⟨e, ef⟩
    · rw [e]; exact h4
    · rw [e]
      unfold frs
      simp only [List.filterMap_cons, ef, List.mem_cons, not_or]
      exact ⟨h3, h4⟩
  intro r s2 z
  match r, z with
  | .error u, z => exact hx pins H s u s2 I z
  | .ok (.ret u), z => exact I.after z
  | .ok .next, z => exact z.elim
  | .ok .brk, z => exact z.elim
  | .ok .cont, z => exact z.elim
/-- f(e, ..), p handled -/
theorem pe_callX (F : FnX X.prog X.w X.K X.mg X.base CX k f fd ps sp) (hr : RoomH k X.A) (hp : p ∈ X.pn) (hg : Gl X x) (hm : X.mg x = some (.ref f)) (hk : PySem.W.keepIn X.K (.ref f) = true) (hb : Binds X.K fd ps []) (hx : ∀ σ, PassesAt CX X σ (E σ)) (ha : PA X (e :: es) t)
    (hn : (x == ("__debug__" : Str)) = false := by decide) (h1 : starEach (e :: es) X.env = (false, eval e X.env) :: starEach es X.env := by rfl) (h2 : (backTo pos (starEach es X.env)).any (·.1) = false := by rfl) : PE X (.Call (.Name x q0) (e :: es) [] pos) (tCallS (sp p) E t) := by
  constructor
  intro pins s σ H Q I h
  refine wpAny_Call_Name_kw (ld_glob I hg hm (PySem.W.callWith_K (h₀ := X.base) I.ok.mod.kin hk (thn (ha.run pos pins s σ H _ I h) ?_) h1 h2) hn)
  rintro us s2 ⟨vs, G, J, rv, q⟩
  exact ⟨J.kIn, goX F hr hp hb (hx σ) J rv q⟩
end
end Kx8

/-! the same, the class told by the reading, the written part named -/
namespace Ke
open PySem PySem.Spec PyProof.Rows L2
theorem call_isETK {X : Cx} {a D : Addr} {oe : Obj} {cls : Value} {d : Option Addr} (K : PySem.W.Frag) (h : X.K = K) (C : ExcC K D) (hm : (a, oe) ∈ X.pn) (hz : Zc cls d oe) (hf : ∃ vs, oe.data = .fields vs) :
    CallR X (.builtin "isinstance") (fun xs H Q => cls = .ref D ∧ d = none ∧ rIsET K D a xs H Q) := by
  subst h
  intro pins s σ H xs us Q hI hv hr
  obtain ⟨rfl, rfl, hr⟩ := hr
  exact call_isET C hm hz hf pins s σ H xs us Q hI hv hr
theorem call_isE1K {X : Cx} {a D : Addr} {oe : Obj} {cls : Value} {d : Option Addr} (K : PySem.W.Frag) (h : X.K = K) (C : ExcC K D) (hm : (a, oe) ∈ X.pn) (hz : Zc cls d oe) (hf : ∃ vs, oe.data = .fields vs) :
    CallR X (.builtin "isinstance") (fun xs H Q => cls = .ref D ∧ d = none ∧ rIsE1 K D a xs H Q) := by
  subst h
  intro pins s σ H xs us Q hI hv hr
  obtain ⟨rfl, rfl, hr⟩ := hr
  exact call_isE1 C hm hz hf pins s σ H xs us Q hI hv hr
end Ke

/-! an exception that is pinned, its dict there or not: isinstance, its fields -/
namespace Ksi
open PySem PySem.Spec PyProof.Rows L2
/-- the dict stands, if there is one -/
def Xd (d : Option Addr) (H : Hp) : Prop := ∀ b, d = some b → ∃ fs, H b = some (.xd fs)
theorem Xd.same {d : Option Addr} {H G : Hp} (x : Xd d H) (s : ∀ b o, H b = some o → G b = some o) : Xd d G := fun b e => by
  obtain ⟨fs, h⟩ := x b e
  exact ⟨fs, s _ _ h⟩
theorem xdNone {H : Hp} : Xd none H := fun _ e => nomatch e
section
variable {X : Cx} {a D : Addr} {oe : Obj} {cls : Value} {d : Option Addr}
theorem instD {pins : List (Addr × Obj)} {σ : L2.St} {H : Hp} {s : Shared} (I : Inv X pins σ H s) (hm : (a, oe) ∈ X.pn) (hz : Zc (.ref D) d oe) (hf : ∃ vs, oe.data = .fields vs) (x : Xd d H) : ∃ od, PySem.W.InstAt s.heap a oe D od := by
  have g := (I.pin _ (List.mem_append_left _ hm)).1
  obtain ⟨vs, hv⟩ := hf
  have nc : PySem.W.notCls oe = true := by unfold PySem.W.notCls; rw [hv]
  cases d with
  | none => exact ⟨none, g, hz.1, nc, by rw [hz.2]; trivial⟩
  | some b =>
    obtain ⟨fs, hb⟩ := x b rfl
    obtain ⟨mA, ⟨o, es, ep, ho, _⟩, _⟩ := (show ObjOk X.prog X.w H s.heap b (.xd fs) from I.hok b _ hb)
    exact ⟨some o, g, hz.1, nc, by rw [hz.2]; exact ho⟩
theorem call_isD (K : PySem.W.Frag) (hK : X.K = K) (C : ExcC K D) (hm : (a, oe) ∈ X.pn) (hz : Zc (.ref D) d oe) (hf : ∃ vs, oe.data = .fields vs) : CallR X (.builtin "isinstance") (fun xs H Q => Xd d H ∧ Ke.rIsE1 K D a xs H Q) := by
  subst hK
  rintro pins s σ H xs us Q I hv ⟨x, c, cv, b, rfl, ht, hk, q⟩
  obtain ⟨od, J⟩ := instD I hm hz hf x
  match us, hv with
  | [_, u], .cons (h1 : _ = Value.ref a) (.cons h3 .nil) =>
    subst h1
    obtain rfl := ht u h3
    have hc : (PySem.W.clsIn X.K D).isSome = true := by
      obtain ⟨cd, e, _⟩ := PySem.W.any_some C.hd
      rw [e]
      rfl
    exact PySem.W.kia_one (PySem.W.kitx_exc (ox := oe) (od := od) hc C.hg C.hk C.hs C.ha C.hn C.ht C.hm) I.kIn J hk (fun h => nomatch h) fun tk => ⟨.bl b, _, I.tok tk, rfl, q⟩
/-- e.n -/
theorem pe_xfP {e : Expr} {te : TE} {pos : Pos} {n : Str} (T : XfC X.K D) (hno : PySem.W.findIn X.K (.ref D) n = some none) (hm : (a, oe) ∈ X.pn) (hz : Zc (.ref D) d oe) (hf : ∃ vs, oe.data = .fields vs) (he : PE X e te) (hb : attributeBase e n X.env (eval e X.env) = eval e X.env := by rfl) :
    PE X (.Attribute e n pos) (fun σ H Q => te σ H fun x G => x = .ref a ∧ ∃ (b : Addr) (fs : List (Str × V)) (v : V), d = some b ∧ G b = some (.xd fs) ∧ fs.lookup n = some v ∧ Q v G) := by
  constructor
  intro pins s σ H Q I h
  refine attr_of hb (thn (he.run pins s σ H _ I h) ?_)
  rintro u s1 ⟨x, G, J, ru, ex, b, fs, v, rfl, gb, l, q⟩
  subst ex
  obtain rfl : u = Value.ref a := ru
  obtain ⟨mA, hns, hr⟩ := (show ObjOk X.prog X.w G s1.heap b (.xd fs) from J.hok b _ gb)
  obtain ⟨od, ho, hl⟩ := lookIn_ns hns
  have z := hr n
  rw [l] at z
  obtain ⟨y, hy, ry⟩ := RelO.some_of (v := v) (o := mA n) z
  obtain ⟨vs, hv⟩ := hf
  refine HandSPX.exc_get J.kIn (od := some od) ⟨(J.pin _ (List.mem_append_left _ hm)).1, hz.1, by unfold PySem.W.notCls; rw [hv], by rw [hz.2]; exact ho⟩ T.ga T.gg T.exC (PySem.W.findObj_own T.hdC hno rfl (by rw [hl, hy])) (handed_of ry) ⟨v, G, J.tok _, ry, q⟩
end
end Ksi

/-! _law_refused -/
namespace Ksi
open PySem PySem.Spec PyProof.Rows L2
theorem call_isDR {X : Cx} {a D : Addr} {oe : Obj} {cls : Value} {d : Option Addr} (K : PySem.W.Frag) (hK : X.K = K) (C : ExcC K D) (hm : (a, oe) ∈ X.pn) (hz : Zc cls d oe) (hf : ∃ vs, oe.data = .fields vs) :
    CallR X (.builtin "isinstance") (fun xs H Q => cls = .ref D ∧ Xd d H ∧ Ke.rIsE1 K D a xs H Q) := by
  rintro pins s σ H xs us Q I hv ⟨rfl, h⟩
  exact call_isD K hK C hm hz hf pins s σ H xs us Q I hv h
theorem call_isTD {X : Cx} {a D : Addr} {oe : Obj} {cls : Value} {d : Option Addr} (K : PySem.W.Frag) (hK : X.K = K) (C : ExcC K D) (hm : (a, oe) ∈ X.pn) (hz : Zc cls d oe) (hf : ∃ vs, oe.data = .fields vs) :
    CallR X (.builtin "isinstance") (fun xs H Q => cls = .ref D ∧ Xd d H ∧ Ke.rIsET K D a xs H Q) := by
  subst hK
  rintro pins s σ H xs us Q I hv ⟨rfl, x, tp, cs, cu, b, rfl, ht, hp, hk, q⟩
  obtain ⟨od, J⟩ := instD I hm hz hf x
  match us, hv with
  | [_, _], .cons (h1 : _ = Value.ref a) (.cons (h3 : _ = Value.ref tp) .nil) =>
    subst h1 h3
    obtain ⟨its, hvs, ⟨⟨cc, dd, dt, sl⟩, hT, rfl, n, rfl⟩, -⟩ := I.tuple (show SqT X.K H tp cs from .inl (.inl ht))
    have := Ke.paired_eq hp hvs
    subst this
    have hc : (PySem.W.clsIn X.K D).isSome = true := by
      obtain ⟨cd, e, _⟩ := PySem.W.any_some C.hd
      rw [e]
      rfl
    exact PySem.W.kia_tup (PySem.W.kitx_exc (ox := oe) (od := od) hc C.hg C.hk C.hs C.ha C.hn C.ht C.hm) I.kIn J hT hk (fun h => nomatch h) fun tk => ⟨.bl b, _, I.tok tk, rfl, q⟩
theorem pe_xfR {X : Cx} {a D : Addr} {oe : Obj} {cls : Value} {d : Option Addr} {e : Expr} {te : TE} {pos : Pos} {n : Str} (K : PySem.W.Frag) (hK : X.K = K) (T : XfC K D) (hno : PySem.W.findIn K (.ref D) n = some none) (hm : (a, oe) ∈ X.pn) (hz : Zc cls d oe) (hf : ∃ vs, oe.data = .fields vs) (he : PE X e te) (hb : attributeBase e n X.env (eval e X.env) = eval e X.env := by rfl) :
    PE X (.Attribute e n pos) (fun σ H Q => cls = .ref D ∧ te σ H fun x G => x = .ref a ∧ ∃ (b : Addr) (fs : List (Str × V)) (v : V), d = some b ∧ G b = some (.xd fs) ∧ fs.lookup n = some v ∧ Q v G) := by
  subst hK
  constructor
  rintro pins s σ H Q I ⟨rfl, h⟩
  exact (pe_xfP T hno hm hz hf he hb).run pins s σ H Q I h
end Ksi
namespace Kq
open PySem PySem.Spec PyProof.Rows L2 Kf Kg Kv Kk
abbrev tRefd : Stmt := tp 66
/-- the classes that a refusal is held against -/
structure TUI (K : PySem.W.Frag) (mg : Str → Option Value) (cU cK : Addr) : Prop where
  tu : TU K mg cU
  ec : ExcC K cU
  xf : XfC K cU
  na : PySem.W.findIn K (.ref cU) "argument" = some none
  gK : mg "KindError" = some (.ref cK)
  eP : PySem.W.exmOne K (.ref cU) (.ref cK) = some true
  nn : PySem.W.kitOne K (.ref cU) (.ref cU) = some true
  nv : PySem.W.kitOne K (.ref cU) (.type "ValueError") = some true
  g1 : ∃ c1 c2 c3 c4 c5 c6 c7 c8 c9 c10 : Addr, mg "NoBack" = some (.ref c1) ∧ mg "NoKind" = some (.ref c2) ∧ mg "NoLead" = some (.ref c3) ∧ mg "NoName" = some (.ref c4) ∧ mg "NoRow" = some (.ref c5) ∧ mg "NoText" = some (.ref c6) ∧ mg "Ring" = some (.ref c7) ∧ mg "Taken" = some (.ref c8) ∧ mg "TooMany" = some (.ref c9) ∧ mg "TooMuch" = some (.ref c10) ∧
    PySem.W.kitAny K (.ref cU) [.ref c1, .ref c2, .ref c3, .ref c4, .ref c5, .ref c6, .ref c7, .ref c8, .ref c9, .ref c10] = some false
abbrev nRefd : List Str := ["_law_kind_here", "_law_looked_here", "_law_bound", "_law_due", "_law_good", "e", "_law_others"]
abbrev psRefd : List Str := ["_law_kind_here", "_law_looked_here", "_law_bound", "_law_due"]
section
variable {P : Program} {w : World} {K : PySem.W.Frag} {mg : Str → Option Value} {base : Heap} {T : List Addr} {cU cK : Addr}
theorem scRefd : FnScope nRefd psRefd (defScope tRefd) := ⟨rfl, rfl, rfl, by decide +kernel, rfl, by decide +kernel, by decide +kernel⟩
def spRefd (K : PySem.W.Frag) (T : List Addr) : Sp := fun vs H Q _ => ∃ (v b : V) (l : Addr) (t : Kd) (lk : List Str) (i : Nat), vs = [v, .ref l, b, .int (i : Nat)] ∧ Rp K H t v ∧ t.size ≤ 900 ∧ (∀ a ∈ t.args, Few a) ∧ t.args.length ≤ 4 ∧ H l = some (.tup (lk.map V.str)) ∧ TbS T H ∧ t.ubd lk = some i ∧
  ∀ G : Hp, Sm T H G → Q (.bl true) G
theorem int_shw {i : Nat} (h : i ≤ 4) : Shw 2 (.int ((i : Nat) : Int)) := by
  have z : i = 0 ∨ i = 1 ∨ i = 2 ∨ i = 3 ∨ i = 4 := by omega
  rcases z with rfl | rfl | rfl | rfl | rfl <;> exact ⟨by decide +kernel, by decide +kernel, by decide +kernel⟩
theorem okRefd {f fT : Addr} {fd fdT : FuncData} {k : Nat} (F : Fun K "_law_refused" "_law_refused" tRefd f fd) (ni : TUI K mg cU cK)
    (GT : FnOk P w K mg base (L2.CX P w) k fT fdT psTries (spTries K T cU)) (bT : Binds K fdT psTries []) (gT : mg "tries_of" = some (.ref fT)) (kT : PySem.W.keepIn K (.ref fT) = true)
    (mi : mg "isinstance" = none) (mv : mg "ValueError" = none) (mp : mg "repr" = none) : FnG P w K mg base CX0 (k + 1) f fd psRefd (spRefd K T) := by
  refine okG F scRefd (fun vs H Q E h => ?_) (fun cdv A outer s H vs Q E still hr h => ?_)
  · obtain ⟨_, _, _, _, _, _, rfl, _⟩ := h
    rfl
  obtain ⟨v, b, l, t, lk, i, rfl, r, hz0, few, h4, hl, tb, hu, q⟩ := h
  obtain ⟨c1, c2, c3, c4, c5, c6, c7, c8, c9, c10, m1, m2, m3, m4, m5, m6, m7, m8, m9, m10, hk⟩ := ni.g1
  have hun : (cxOf CX0 P w K mg base nRefd "_law_refused" (defScope tRefd) f cdv A outer s H E).nox.A.units + (2 + 1) < cLine := by
    have := hr.un
    show (A.deeper _).units + 3 < cLine
    omega
  refine ⟨_, pss_cons (ps_set (i := 4) scRefd.nd rfl (.inl rfl) pe_bl)
    (pss_cons (ps_try_as (i := 5) (c := .ref cK) rfl rfl scRefd.nd rfl rfl ⟨rfl, by decide, .inl ni.gK⟩ takes0
      (fun W pn xe tk _ => pss_one (ps_expr (pe_callS GT hr (by rfl) gT kT bT (fun σ => passAt tk σ) (pa_cons (pv 0) (pa_cons (pv 1) (pa_cons (pv 2) pa_nil))))))
      (fun a oe cls d pn hz hf => pss_cons (ps_set (i := 6) scRefd.nd rfl (.inl rfl) (pe_callB (Ksi.call_isTD K rfl ni.ec List.mem_cons_self hz hf) (by rfl) mi PyProof.Rows.boot_isinstance (pa_cons (pv 5) (pa_cons (pe_tup (pa_cons (pe_glob (v := .ref c1) (by rfl) m1 rfl) (pa_cons (pe_glob (v := .ref c2) (by rfl) m2 rfl) (pa_cons (pe_glob (v := .ref c3) (by rfl) m3 rfl) (pa_cons (pe_glob (v := .ref c4) (by rfl) m4 rfl) (pa_cons (pe_glob (v := .ref c5) (by rfl) m5 rfl) (pa_cons (pe_glob (v := .ref c6) (by rfl) m6 rfl) (pa_cons (pe_glob (v := .ref c7) (by rfl) m7 rfl) (pa_cons (pe_glob (v := .ref c8) (by rfl) m8 rfl) (pa_cons (pe_glob (v := .ref c9) (by rfl) m9 rfl) (pa_cons (pe_glob (v := .ref c10) (by rfl) m10 rfl) pa_nil))))))))))) pa_nil))))
        (pss_cons (ps_set (i := 4) scRefd.nd rfl (.inl rfl) (pe_and (pe_callB (Ksi.call_isDR K rfl ni.ec List.mem_cons_self hz hf) (by rfl) mi PyProof.Rows.boot_isinstance (pa_cons (pv 5) (pa_cons (pe_glob (v := .ref cU) (by rfl) ni.tu.gP rfl) pa_nil)))
          (pe_and (pe_callB (Ksi.call_isDR K rfl ni.ec List.mem_cons_self hz hf) (by rfl) mi PyProof.Rows.boot_isinstance (pa_cons (pv 5) (pa_cons (pe_bltn (v := .ty "ValueError") (by rfl) mv (by decide +kernel) rfl) pa_nil))) (pe_one (pe_not (pv 6))))))
        (pss_one (ps_set (i := 4) scRefd.nd rfl (.inl rfl) (pe_and (pv 4) (pe_one (pe_cmpR op_eq (pe_callB (call_showU (n := 2) still hun) (by rfl) mp PyProof.Rows.boot_repr (pa_cons (Ksi.pe_xfR K rfl ni.xf ni.na List.mem_cons_self hz hf (pv 5)) pa_nil)) (pe_callB (call_showU (n := 2) still hun) (by rfl) mp PyProof.Rows.boot_repr (pa_cons (pv 3) pa_nil)) (nomark _)))))))))
    (pss_one (ps_ret (pv 4)))), ?_⟩
  have hi := fi_lt hu
  refine ⟨_, rfl, _, rfl, _, rfl, v, b, l, t, lk, i, rfl, r, hz0, few, h4, hl, tb, hu, fun x G sG gx => ⟨true, ni.eP, fun _ a ha => ?_, fun q => nomatch q⟩⟩
  have xd : Ksi.Xd (some x) G := fun b e => by
    cases e
    exact ⟨_, gx⟩
  refine ⟨_, rfl, (by show 10 ≤ sizeLine; decide), fun t1 nt1 => ?_⟩
  have s1 := newS (o := .tup [V.ref c1, .ref c2, .ref c3, .ref c4, .ref c5, .ref c6, .ref c7, .ref c8, .ref c9, .ref c10]) nt1
  refine ⟨rfl, xd.same s1, t1, _, _, false, rfl, upd_same, .cons (.own _) (.cons (.own _) (.cons (.own _) (.cons (.own _) (.cons (.own _) (.cons (.own _) (.cons (.own _) (.cons (.own _) (.cons (.own _) (.cons (.own _) .nil))))))))), hk, ?_⟩
  refine ⟨_, rfl, rfl, xd.same s1, _, _, true, rfl, (fun u h => h), ni.nn, _, rfl, iteT ⟨_, rfl, rfl, xd.same s1, _, _, true, rfl, (fun u h => h), ni.nv, _, rfl, iteT ⟨_, rfl, _, rfl, ?_⟩⟩⟩
  refine ⟨_, rfl, _, rfl, iteT ⟨rfl, _, rfl, rfl, x, _, _, rfl, s1 _ _ gx, rfl, _, .int ((i : Nat) : Int), rfl, .int _, int_shw (by omega), _, rfl, _, .int ((i : Nat) : Int), rfl, .int _, int_shw (by omega), rfl, _, rfl, ?_⟩⟩
  have e : (V.bl (decide (V.str (Dt.int ((i : Nat) : Int)).toP.shown = V.str (Dt.int ((i : Nat) : Int)).toP.shown))) = .bl true := by rw [decide_eq_true rfl]
  exact (congrArg (fun v => Q v _) e).mpr (q _ (sG.trans (Sm.of s1 sG.2)))
end
end Kq

/-! _law_size -/
namespace Kq
open PySem PySem.Spec PyProof.Rows L2 Kf Kg Kv Kk
abbrev tSize : Stmt := tp 58
theorem isiK {X : Cx} (K : PySem.W.Frag) (h : X.K = K) : CallR X (.builtin "isinstance") (rIsi K) := by
  subst h
  exact call_isi
theorem rp0_ty {K : PySem.W.Frag} {H : Hp} {k : Kd} {v : V} (r : Rp0 H k v) : ∃ x : Dt, x.isTup = true ∧ TyX K H v (.type x.cls) := by
  obtain ⟨a, vs, rfl, h, _⟩ := r.see
  refine ⟨.tup [], rfl, ?_⟩
  exact .base (.tup h)
theorem kids_sum {t : Kd} : (t.kids.map Kd.size).sum + 1 = t.size := by
  cases t with
  | opn x => rfl
  | num => rfl
  | tru => rfl
  | lst a => rw [(Kd.size2 a a).2.2]; simp [Kd.kids]
  | pair a b => rw [(Kd.size2 a b).1]; simp [Kd.kids]
  | eith a b => rw [(Kd.size2 a b).2.1]; simp [Kd.kids]
  | fn a b => rw [Kd.size_fn]; simp [Kd.kids]
theorem sum_cast : ∀ xs : List Nat, (xs.map fun n : Nat => ((n : Nat) : Int)).sum = ((xs.sum : Nat) : Int)
  | [] => rfl
  | x :: xs => by
    rw [List.map_cons, List.sum_cons, List.sum_cons, sum_cast xs]
    omega
section
variable {P : Program} {w : World} {K : PySem.W.Frag} {mg : Str → Option Value} {base : Heap}
abbrev nSize : List Str := ["_law_kind_here", "_law_one"]
theorem scSize : FnScope nSize psK (defScope tSize) := ⟨rfl, rfl, rfl, by decide +kernel, rfl, by decide +kernel, by decide +kernel⟩
def spSize (n : Nat) : Sp := fun vs H Q _ => ∃ (v : V) (t : Kd), vs = [v] ∧ Rp0 H t v ∧ t.dp + 1 ≤ n ∧ ∀ G : Hp, Same H G → Q (.int (t.size : Nat)) G
theorem okSize1 {f : Addr} {fd : FuncData} {n k : Nat} (F : Fun K "_law_size" "_law_size" tSize f fd) (bF : Binds K fd psK []) (gF : mg "_law_size" = some (.ref f)) (mi : mg "isinstance" = none) (mt : mg "tuple" = none) (ms : mg "sum" = none)
    (GI : FnOk P w K mg base CX0 k f fd psK (spSize n)) : FnOk P w K mg base CX0 (k + 1) f fd psK (spSize (n + 1)) := by
  refine F.ok scSize (fun vs H Q E h => ?_) (fun cdv A outer s H vs Q E hr h => ?_)
  · obtain ⟨v, t, rfl, _⟩ := h
    rfl
  obtain ⟨v, t, rfl, r, hn, q⟩ := h
  refine ⟨_, pss_one (ps_ret (pe_op op_add pe_int (pe_callB (cr_sum rfl) (by rfl) ms (by decide +kernel) (pa_cons (pe_lc (own := [("_law_one", 1)]) (g := gName 1) (by rfl) scSize.nd (pi_tup (pe_slice sl_tup (pv 0) (po_some pe_int) po_none)) (blkOk_by (own := [("_law_one", 1)]) (N := nSize) (sc := defScope tSize) (by decide +kernel))
      (fun _ _ _ _ _ => pg_name (i := 1) scSize.nd rfl (.inl rfl)) (fun _ _ _ _ _ => pts_one (pt_val (pe_callB (isiK K rfl) (by rfl) mi PyProof.Rows.boot_isinstance (pa_cons (pv 1) (pa_cons (pe_bltn (v := .ty "tuple") (by rfl) mt PyProof.Rows.boot_tuple rfl) pa_nil))))) (fun _ _ _ _ _ => pe_call GI hr (by rfl) gF F.kp bF .nil pass0 (pa_cons (pv 1) pa_nil))) pa_nil)))), ?_⟩
  obtain ⟨a, us, rfl, ha, hu⟩ := r.see
  refine ⟨_, rfl, 1, rfl, a, _, rfl, SqT.of ha, notWhole _ _, fun p np => ?_⟩
  rw [cutFrom1]
  have s1 := newS (o := .tup us) np
  have gp : (upd H p (.tup us)) p = some (.tup us) := upd_same
  generalize upd H p (.tup us) = H1 at s1 gp ⊢
  refine ⟨p, rfl, ⟨_, SqT.of gp⟩, fun D nD => ?_⟩
  refine lc_tup (xs := us) (fun i G => Same H1 G ∧ G D = some (.lst (((t.kids.take i).map fun u => ((u.size : Nat) : Int)).map V.int))) ⟨newS nD, upd_same⟩ (fun i G _ z => SqT.of (z.1 _ _ gp)) (fun i x G hx z => ?_) (fun G z => ?_)
  · obtain ⟨sG, gD⟩ := z
    rcases hu with ⟨no, rk⟩ | ⟨y, rfl, rfl⟩
    · obtain ⟨u, hu, ru⟩ := (rk.tk (Tk.of (s1.trans sG))).get hx
      have d1 := kid_dp (List.mem_of_getElem? hu)
      obtain ⟨dx, hdx, ty⟩ := rp0_ty (K := K) ru
      refine ⟨rfl, _, rfl, _, .ty "tuple", _, _, _, rfl, .ty "tuple", ty, kTup K dx, _, rfl, ?_⟩
      rw [hdx]
      refine iteT ⟨_, rfl, x, u, rfl, ru, by omega, fun G2 s2 => ⟨_, s2 _ _ gD, ?_, sPutS (sG.trans s2) nD, ?_⟩⟩
      · have l3 : t.kids.length ≤ 2 := by cases t <;> simp [Kd.kids]
        rw [List.length_map, List.length_map]
        have := List.length_take_le' i t.kids
        exact small1000 (by omega)
      · rw [upd_same, List.take_add_one, hu, List.map_append, List.map_append]
        rfl
    · obtain ⟨rfl, rfl⟩ : i = 0 ∧ x = .str y := by
        cases i with
        | zero => exact ⟨rfl, (Option.some.inj hx).symm⟩
        | succ i => simp at hx
      refine ⟨rfl, _, rfl, _, .ty "tuple", _, _, _, rfl, .ty "tuple", (Dd.str (N := fun _ => False) (H := G) y).ty, kTup K (.str y), _, rfl, iteF ⟨sG, gD⟩⟩
  · obtain ⟨sG, gD⟩ := z
    have el : t.kids.take us.length = t.kids := by
      rcases hu with ⟨no, rk⟩ | ⟨y, rfl, rfl⟩
      · rw [← rk.len, List.take_length]
      · rfl
    rw [el] at gD
    refine ⟨D, _, rfl, .inl (.inl gD), ?_⟩
    refine ⟨_, _, rfl, rfl, ?_⟩
    have q := q G (s1.trans sG)
    have e : (1 : Int) + (t.kids.map fun u => ((u.size : Nat) : Int)).sum = ((t.size : Nat) : Int) := by
      have z := sum_cast (t.kids.map Kd.size)
      rw [List.map_map] at z
      rw [← kids_sum (t := t), show (t.kids.map fun u => ((u.size : Nat) : Int)) = t.kids.map ((fun n : Nat => ((n : Nat) : Int)) ∘ Kd.size) from rfl, z]
      omega
    exact (congrArg (fun n => Q (.int n) G) e).mpr q
theorem okSize {f : Addr} {fd : FuncData} (F : Fun K "_law_size" "_law_size" tSize f fd) (bF : Binds K fd psK []) (gF : mg "_law_size" = some (.ref f)) (mi : mg "isinstance" = none) (mt : mg "tuple" = none) (ms : mg "sum" = none) : ∀ n, FnOk P w K mg base CX0 (n + 1) f fd psK (spSize n)
  | 0 => noFn44 fun vs H Q E h => by
    obtain ⟨v, t, _, _, hn, _⟩ := h
    omega
  | n + 1 => okSize1 F bF gF mi mt ms (okSize F bF gF mi mt ms n)
end
end Kq

/-! _law_led_few -/
namespace Kq
open PySem PySem.Spec PyProof.Rows L2 Kf Kg Kv Kk
abbrev tFew : Stmt := tp 59
theorem cut4 (us : List V) : cutV us none (some 4) = us.take 4 := by
  unfold cutV HT.sIx
  simp
  try omega
theorem cutL (us : List V) (h : 1 ≤ us.length) : cutV us none (some (-1)) = us.take (us.length - 1) := by
  unfold cutV HT.sIx
  simp
  try omega
theorem takeRp {H : Hp} : ∀ {ts : List Kd} {vs : List V} {m : Nat}, RpL0 H ts vs → RpL0 H (ts.take m) (vs.take m)
  | _, _, 0, _ => by
    rw [List.take_zero, List.take_zero]
    trivial
  | [], [], _ + 1, _ => trivial
  | _ :: ts, _ :: vs, m + 1, h => ⟨h.1, takeRp (ts := ts) (vs := vs) (m := m) h.2⟩
  | [], _ :: _, _ + 1, h => h.elim
  | _ :: _, [], _ + 1, h => h.elim
section
variable {P : Program} {w : World} {K : PySem.W.Frag} {mg : Str → Option Value} {base : Heap}
abbrev psFew : List Str := ["_law_some", "_law_result"]
theorem scFew : FnScope psFew psFew (defScope tFew) := ⟨rfl, rfl, rfl, by decide +kernel, rfl, by decide +kernel, by decide +kernel⟩
def spFew (N : Nat) : Sp := fun vs H Q _ => ∃ (a : Addr) (ts : List Kd) (us : List V) (t : Kd) (v : V), vs = [.ref a, v] ∧ H a = some (.lst us) ∧ RpL0 H ts us ∧ Rp0 H t v ∧ (∀ n, n ≤ 4 → (Kd.ledTo (ts.take n) t).dp + 1 ≤ N) ∧
  ∀ (u : V) (G : Hp) (n : Nat), Same H G → n ≤ 4 → Rp0 G (Kd.ledTo (ts.take n) t) u → Q u G
theorem okFew {f fL fS : Addr} {fd fdL fdS : FuncData} {k N : Nat} (F : Fun K "_law_led_few" "_law_led_few" tFew f fd)
    (GL : FnOk P w K mg base CX0 k fL fdL ["_law_some", "_law_result"] spLLed) (bL : Binds K fdL ["_law_some", "_law_result"] []) (gL : mg "_law_led_to" = some (.ref fL)) (kL : PySem.W.keepIn K (.ref fL) = true)
    (GS : FnOk P w K mg base CX0 k fS fdS psK (spSize N)) (bS : Binds K fdS psK []) (gS : mg "_law_size" = some (.ref fS)) (kS : PySem.W.keepIn K (.ref fS) = true) (ml : mg "len" = none) : FnOk P w K mg base CX0 (k + 1) f fd psFew (spFew N) := by
  refine F.ok scFew (fun vs H Q E h => ?_) (fun cdv A outer s H vs Q E hr h => ?_)
  · obtain ⟨_, _, _, _, _, rfl, _⟩ := h
    rfl
  obtain ⟨a, ts, us, t, v, rfl, ha, rt, r, hN, q⟩ := h
  refine ⟨_, pss_cons (ps_set (i := 0) scFew.nd rfl (.inl rfl) (pe_slice sl_list (pv 0) po_none (po_some pe_int)))
    (pss_cons (ps_while PassesOwn.never (PW.pt (pw_and (pt_cmpR op_gt (pe_callB call_len (by rfl) ml (by decide +kernel) (pa_cons (pv 0) pa_nil)) pe_int (nomark _)) (pw_and1 (pt_cmpR op_gt (pe_call GS hr (by rfl) gS kS bS .nil pass0 (pa_cons (pe_call GL hr (by rfl) gL kL bL .nil pass0 (pa_cons (pv 0) (pa_cons (pv 1) pa_nil))) pa_nil)) pe_int (nomark _)))))
      (pss_one (ps_set (i := 0) scFew.nd rfl (.inl rfl) (pe_slice sl_list (pv 0) po_none (po_some (pe_un un_neg pe_int))))))
    (pss_one (ps_ret (pe_call GL hr (by rfl) gL kL bL .nil pass0 (pa_cons (pv 0) (pa_cons (pv 1) pa_nil)))))), ?_⟩
  refine ⟨_, rfl, 4, rfl, a, us, rfl, SqL.of ha, fun b nb => ?_⟩
  rw [cut4]
  have l1 := rt.len
  have e4 : us.take 4 = us.take (min 4 us.length) := by
    rcases Nat.le_total 4 us.length with h | h
    · rw [Nat.min_eq_left h]
    · rw [Nat.min_eq_right h, List.take_length, List.take_of_length_le h]
  refine ⟨fun m σ G => ∃ b, m ≤ 4 ∧ m ≤ us.length ∧ σ = [some (.ref b), some v] ∧ Same H G ∧ G b = some (.lst (us.take m)), ⟨min 4 us.length, b, by omega, by omega, rfl, newS nb, by rw [upd_same, e4]⟩, fun m σ G z => ?_⟩
  obtain ⟨b, m4, ml', rfl, sG, gb⟩ := z
  have lm : (us.take m).length = m := by rw [List.length_take]; omega
  have rtm : RpL0 G (ts.take m) (us.take m) := takeRp (rt.tk (Tk.of sG))
  have fin : ∀ G2 : Hp, Same G G2 → (∃ (a : Addr) (ts2 : List Kd) (us2 : List V) (t2 : Kd) (v2 : V), [V.ref b, v] = [.ref a, v2] ∧ G2 a = some (.lst us2) ∧ RpL0 G2 ts2 us2 ∧ Rp0 G2 t2 v2 ∧ ∀ (u : V) (G3 : Hp), Same G2 G3 → Rp0 G3 (Kd.ledTo ts2 t2) u → Q u G3) := fun G2 s2 =>
    ⟨b, ts.take m, us.take m, t, v, rfl, s2 _ _ gb, rtm.tk (Tk.of s2), r.tk (Tk.of (sG.trans s2)), fun u G3 s3 ru => q u G3 m ((sG.trans s2).trans s3) m4 ru⟩
  refine ⟨_, rfl, _, ((us.take m).length : Nat), rfl, .inl ⟨_, SqL.of gb, rfl⟩, _, _, rfl, rfl, _, rfl, ite2 (fun e => ?_) (fun e => ⟨_, rfl, _, rfl, fin G (Same.refl _)⟩)⟩
  refine ⟨_, rfl, _, rfl, b, ts.take m, us.take m, t, v, rfl, gb, rtm, r.tk (Tk.of sG), fun u G2 s2 ru => ⟨u, _, rfl, ru, hN m m4, fun G3 s3 => ⟨_, _, rfl, rfl, _, rfl, ite2 (fun e2 => ?_) (fun e2 => ⟨_, rfl, _, rfl, fin G3 (s2.trans s3)⟩)⟩⟩⟩
  have e := of_decide_eq_true e
  rw [lm] at e
  have sG3 := sG.trans (s2.trans s3)
  have gb3 := (s2.trans s3) _ _ gb
  refine ⟨fun σ' G' => ∃ m', m' < m ∧ ∃ b, m' ≤ 4 ∧ m' ≤ us.length ∧ σ' = [some (.ref b), some v] ∧ Same H G' ∧ G' b = some (.lst (us.take m')), fun σ' G' z => z, ?_⟩
  refine ⟨_, rfl, _, rfl, _, rfl, b, _, rfl, SqL.of gb3, fun b2 nb2 => ⟨m - 1, by omega, b2, by omega, by omega, rfl, sG3.trans (newS nb2), ?_⟩⟩
  rw [upd_same]
  have z : cutV (us.take m) none (some (-1)) = us.take (m - 1) := by
    rw [cutL _ (by omega), lm, List.take_take, Nat.min_eq_left (by omega)]
  exact congrArg (fun l => some (HO.lst l)) z
end
end Kq

/-! _law_looked -/
namespace Kq
open PySem PySem.Spec PyProof.Rows L2 Kf Kg Kv Kk
abbrev tLook : Stmt := tp 60
section
variable {P : Program} {w : World} {K : PySem.W.Frag} {mg : Str → Option Value} {base : Heap}
abbrev nLook : List Str := ["_law_deck_here", "_law_opens_here", "_law_bits", "_law_k", "_law_name"]
theorem scLook : FnScope nLook psTwo (defScope tLook) := ⟨rfl, rfl, rfl, by decide +kernel, rfl, by decide +kernel, by decide +kernel⟩
def spLook : Sp := fun vs H Q _ => ∃ (d c o : Addr) (xs : List Str), vs = [.ref d, .ref o] ∧ Dk H d c ∧ H o = some (.lst (xs.map V.str)) ∧ o ≠ d ∧ o ≠ c ∧ xs.length ≤ 26 ∧
  ∀ (p : Addr) (lk : List Str) (G : Hp), Kp d c H G → Dk G d c → G p = some (.tup (lk.map V.str)) → Q (.ref p) G
theorem okLook {f fD : Addr} {fd fdD : FuncData} {k : Nat} (F : Fun K "_law_looked" "_law_looked" tLook f fd)
    (GD : FnOk P w K mg base CX0 k fD fdD ["_law_deck_here", "_law_most"] spDraw) (bD : Binds K fdD ["_law_deck_here", "_law_most"] []) (gD : mg "_law_draw" = some (.ref fD)) (kD : PySem.W.keepIn K (.ref fD) = true)
    (me : mg "enumerate" = none) (mt : mg "tuple" = none) (ms : mg "sorted" = none) : FnOk P w K mg base CX0 (k + 1) f fd psTwo spLook := by
  refine F.ok scLook (fun vs H Q E h => ?_) (fun cdv A outer s H vs Q E hr h => ?_)
  · obtain ⟨_, _, _, _, rfl, _⟩ := h
    rfl
  obtain ⟨d, c, o, xs, rfl, dk, ho, od, oc, lx, q⟩ := h
  refine ⟨_, pss_cons (ps_set (i := 2) scLook.nd rfl (.inr rfl) (pe_call GD hr (by rfl) gD kD bD .nil pass0 (pa_cons (pv 0) (pa_cons pe_int pa_nil))))
    (pss_one (ps_ret (pe_callTy call_tuple_of (by rfl) mt PyProof.Rows.boot_tuple (pa_cons (pe_callB cr_sortedS (by rfl) ms (by decide +kernel) (pa_cons (pe_lc (own := [("_law_k", 3), ("_law_name", 4)]) (g := gTup K 2 (gCons (gName 3) (gCons (gName 4) gNil))) (by rfl) scLook.nd (pi_enum (by rfl) me (pa_cons (pv 1) pa_nil)) (blkOk_by (own := [("_law_k", 3), ("_law_name", 4)]) (N := nLook) (sc := defScope tLook) (by decide +kernel))
      (fun _ _ _ _ _ => tupGK K rfl rfl (pgs_cons (pg_name (i := 3) scLook.nd rfl (.inl rfl)) (pgs_cons (pg_name (i := 4) scLook.nd rfl (.inl rfl)) pgs_nil)))
      (fun _ _ _ _ _ => pts_one (pt_cmpR op_eq (pe_op op_mod (pe_op op_fdiv (pv 2) (pe_op op_shl pe_int (pv 3))) pe_int) pe_int (nomark _))) (fun _ _ _ _ _ => pv 4)) pa_nil)) pa_nil)))), ?_⟩
  refine ⟨_, rfl, d, c, 32, rfl, dk, by decide, by decide, fun bits G1 b0 b1 kp1 dk1 => ?_⟩
  have ho1 := kp1 o _ od oc ho
  refine ⟨_, rfl, o, _, rfl, SqL.of ho1, fun D nD => ?_⟩
  refine lc_it (walk_enum (K := K) (a := o) (xs := xs.map V.str)) (fun i F => Same G1 F ∧ ∃ ys : List Str, ys.length ≤ i ∧ F D = some (.lst (ys.map V.str))) ⟨newS nD, [], Nat.le_refl _, upd_same⟩ (fun i F _ z => SqL.of (z.1 _ _ ho1)) (fun i x F F' hi z y => ?_) (fun F z => ?_)
  · obtain ⟨sF, ys, ly, gD4⟩ := z
    obtain ⟨X, x1, x2, rfl, nX, rfl, e1, e2⟩ := y
    cases e1
    have e2 : (xs.map V.str)[i]? = some x2 := e2
    rw [List.getElem?_map] at e2
    obtain ⟨n, hn, rfl⟩ := Option.map_eq_some_iff.mp e2
    have sX := newS (o := .tup [V.int (i : Nat), V.str n]) nX
    have gX : (upd F X (.tup [V.int (i : Nat), V.str n])) X = some (.tup [V.int (i : Nat), V.str n]) := upd_same
    have sFX := sF.trans sX
    have gDX := sX _ _ gD4
    generalize upd F X (.tup [V.int (i : Nat), V.str n]) = F2 at sX gX sFX gDX ⊢
    have hi26 : i < 26 := by
      rw [List.length_map] at hi
      omega
    have pw : (0 : Int) < 1 * 2 ^ (((i : Nat) : Int)).toNat ∧ (1 : Int) * 2 ^ (((i : Nat) : Int)).toNat < 1073741824 := by
      rw [Int.toNat_natCast, Int.one_mul]
      have h1 : 2 ^ i ≤ 2 ^ 25 := Nat.pow_le_pow_right (by decide) (by omega)
      have h2 : 0 < 2 ^ i := Nat.pow_pos (by decide)
      have e : ((2 : Int) ^ i) = ((2 ^ i : Nat) : Int) := by push_cast; rfl
      rw [e]
      have h3 : (2 : Nat) ^ 25 = 33554432 := by decide
      omega
    refine ⟨X, _, rfl, SqT.of gX, rfl, _, _, rfl, _, _, rfl, rfl, rfl, ?_⟩
    refine ⟨_, rfl, _, rfl, _, _, rfl, rfl, ⟨by omega, by omega, by decide⟩, _, _, rfl, rfl, pw, _, _, rfl, rfl, (show (0 : Int) < 2 by decide), rfl, _, rfl, ite2 (fun _ => ?_) (fun _ => ⟨sFX, ys, by omega, gDX⟩)⟩
    refine ⟨_, rfl, _, gDX, ?_, sPutS sFX nD, ys ++ [n], ?_, ?_⟩
    · rw [List.length_map]
      exact small1000 (by omega)
    · rw [List.length_append]
      show ys.length + 1 ≤ _
      omega
    · rw [upd_same, List.map_append]
      rfl
  · obtain ⟨sF, ys, ly, gD4⟩ := z
    rw [List.length_map] at ly
    refine ⟨D, ys, rfl, .inl (.inl gD4), by omega, fun zs p pm srt np => ?_⟩
    have sp := newS (o := .lst (zs.map V.str)) np
    refine ⟨p, _, rfl, .inl ⟨SqL.of upd_same, fun l nl => ?_⟩⟩
    have sl := newS (o := .tup (zs.map V.str)) nl
    exact q l zs _ ((kp1.trans (Kp.of sF)).trans ((Kp.of sp).trans (Kp.of sl))) (((dk1.same sF).same sp).same sl) upd_same
end
end Kq

/-! _law_kind -/
namespace Kq
open PySem PySem.Spec PyProof.Rows L2 Kf Kg Kv Kk
abbrev tKind : Stmt := tp 62
theorem led_args (t : Kd) (nf : t.isFn = false) : ∀ ts : List Kd, (Kd.ledTo ts t).args = ts ∧ (Kd.ledTo ts t).res = t
  | [] => by cases t <;> first | exact ⟨rfl, rfl⟩ | cases nf
  | a :: ts => by
    obtain ⟨h1, h2⟩ := led_args t nf ts
    exact ⟨congrArg (a :: ·) h1, h2⟩
theorem led_dp (t : Kd) (d : Nat) (ht : t.dp ≤ d) : ∀ ts : List Kd, (∀ a ∈ ts, a.dp ≤ d) → (Kd.ledTo ts t).dp ≤ d + ts.length
  | [], _ => by
    show t.dp ≤ d + 0
    omega
  | a :: ts, h => by
    have h1 := led_dp t d ht ts fun b hb => h b (List.mem_cons_of_mem _ hb)
    have h2 := h a List.mem_cons_self
    show max a.dp (Kd.ledTo ts t).dp + 1 ≤ d + (ts.length + 1)
    omega
theorem led_size (t : Kd) (z : Nat) : ∀ ts : List Kd, (∀ a ∈ ts, a.size ≤ z) → (Kd.ledTo ts t).size ≤ t.size + ts.length * (z + 1)
  | [], _ => by
    show t.size ≤ t.size + 0 * _
    omega
  | a :: ts, h => by
    have h1 := led_size t z ts fun b hb => h b (List.mem_cons_of_mem _ hb)
    have h2 := h a List.mem_cons_self
    show (Kd.fn a (Kd.ledTo ts t)).size ≤ t.size + (ts.length + 1) * (z + 1)
    rw [Kd.size_fn, Nat.add_mul]
    omega
theorem led_op (t : Kd) (xs : List Str) (ht : ∀ x ∈ t.opens, x ∈ xs) : ∀ ts : List Kd, (∀ a ∈ ts, ∀ x ∈ a.opens, x ∈ xs) → ∀ x ∈ (Kd.ledTo ts t).opens, x ∈ xs
  | [], _ => ht
  | a :: ts, h => fun x hx => by
    rcases List.mem_append.mp (show x ∈ a.opens ++ (Kd.ledTo ts t).opens from hx) with z | z
    · exact h a List.mem_cons_self x z
    · exact led_op t xs ht ts (fun b hb => h b (List.mem_cons_of_mem _ hb)) x z
end Kq

/-! _law_kind -/
namespace Kq
open PySem PySem.Spec PyProof.Rows L2 Kf Kg Kv Kk
/-- a kind of at most four arguments, as drawn -/
def Drn (xs : List Str) (t : Kd) : Prop := ∃ (ts : List Kd) (r : Kd), t = Kd.ledTo ts r ∧ ts.length ≤ 4 ∧ (∀ a ∈ ts, Bd 6 60 xs a) ∧ Dta 1 xs r
section
variable {P : Program} {w : World} {K : PySem.W.Frag} {mg : Str → Option Value} {base : Heap}
abbrev nKind : List Str := ["_law_deck_here", "_law_opens_here", "_law_some", "_law_k", "_law_handed_here"]
theorem scKind : FnScope nKind psTwo (defScope tKind) := ⟨rfl, rfl, rfl, by decide +kernel, rfl, by decide +kernel, by decide +kernel⟩
def spKind : Sp := fun vs H Q _ => ∃ (d c o : Addr) (xs : List Str), vs = [.ref d, .ref o] ∧ Dk H d c ∧ H o = some (.lst (xs.map V.str)) ∧ o ≠ d ∧ o ≠ c ∧ xs.length ≤ 26 ∧ (∀ x ∈ xs, Nm x) ∧
  ∀ (v : V) (t : Kd) (G : Hp), Kp d c H G → Dk G d c → Rp0 G t v → Drn xs t → Q v G
theorem okKind {f fD fT fH fF : Addr} {fd fdD fdT fdH fdF : FuncData} {k : Nat} (F : Fun K "_law_kind" "_law_kind" tKind f fd)
    (GD : FnOk P w K mg base CX0 k fD fdD ["_law_deck_here", "_law_most"] spDraw) (bD : Binds K fdD ["_law_deck_here", "_law_most"] []) (gD : mg "_law_draw" = some (.ref fD)) (kD : PySem.W.keepIn K (.ref fD) = true)
    (GT : FnOk P w K mg base CX0 k fT fdT psLData (spLData 4)) (bT : Binds K fdT psLData []) (gT : mg "_law_data" = some (.ref fT)) (kT : PySem.W.keepIn K (.ref fT) = true)
    (GH : FnOk P w K mg base CX0 k fH fdH psTwo spHanded) (bH : Binds K fdH psTwo []) (gH : mg "_law_handed" = some (.ref fH)) (kH : PySem.W.keepIn K (.ref fH) = true)
    (GF : FnOk P w K mg base CX0 k fF fdF psFew (spFew 12)) (bF : Binds K fdF psFew []) (gF : mg "_law_led_few" = some (.ref fF)) (kF : PySem.W.keepIn K (.ref fF) = true)
    (mr : mg "range" = none) : FnOk P w K mg base CX0 (k + 1) f fd psTwo spKind := by
  refine F.ok scKind (fun vs H Q E h => ?_) (fun cdv A outer s H vs Q E hr h => ?_)
  · obtain ⟨_, _, _, _, rfl, _⟩ := h
    rfl
  obtain ⟨d, c, o, xs, rfl, dk, ho, od, oc, lx, hx, q⟩ := h
  refine ⟨_, pss_cons (ps_set (i := 2) scKind.nd rfl (.inl rfl) (pe_lst pa_nil))
    (pss_cons (ps_for PassesOwn.never rfl (pi_range1 (by rfl) mr (pa_cons (pe_op op_add pe_int (pe_call GD hr (by rfl) gD kD bD .nil pass0 (pa_cons (pv 0) (pa_cons pe_int pa_nil)))) pa_nil)) (pg_name (i := 3) scKind.nd rfl (.inl rfl))
      (pss_cons (ps_set (i := 4) scKind.nd rfl (.inl rfl) (pe_cmpR op_gt (pe_call GD hr (by rfl) gD kD bD .nil pass0 (pa_cons (pv 0) (pa_cons pe_int pa_nil))) pe_int (nomark _)))
      (pss_one (ps_expr (pe_bm PySem.F.plainAttrs_list PySem.F.slot_list_append PySem.F.type_list_append mt_append (pv 2) (pa_cons (pe_ifExp (pt_val (pv 4)) (pe_call GH hr (by rfl) gH kH bH .nil pass0 (pa_cons (pv 0) (pa_cons (pv 1) pa_nil))) (pe_call GT hr (by rfl) gT kT bT .nil pass0 (pa_cons (pv 0) (pa_cons (pv 1) (pa_cons (pe_call GD hr (by rfl) gD kD bD .nil pass0 (pa_cons (pv 0) (pa_cons pe_int pa_nil))) (pa_cons pe_bl pa_nil)))))) pa_nil))))))
    (pss_one (ps_ret (pe_call GF hr (by rfl) gF kF bF .nil pass0 (pa_cons (pv 2) (pa_cons (pe_call GT hr (by rfl) gT kT bT .nil pass0 (pa_cons (pv 0) (pa_cons (pv 1) (pa_cons pe_int (pa_cons pe_bl pa_nil))))) pa_nil)))))), ?_⟩
  refine ⟨Nat.zero_le _, fun s ns => ?_⟩
  have s0 := newS (o := .lst []) ns
  have off := dk.off ns
  have g0 : (upd H s (.lst [])) s = some (.lst []) := upd_same
  have kp0 : Kp d c H (upd H s (.lst [])) := Kp.of s0
  have dk0 := dk.same s0
  have ho0 := s0 _ _ ho
  generalize upd H s (.lst []) = H0 at s0 g0 kp0 dk0 ho0 ⊢
  have nso : s ≠ o := fun z => by rw [z, ho] at ns; cases ns
  refine ⟨_, rfl, d, c, 4, rfl, dk0, by decide, by decide, fun mm G1 m0 m1 kp1 dk1 => ⟨_, _, rfl, rfl, 1 + mm, rfl, by omega, by omega, ?_⟩⟩
  refine for_range (lo := 0) (n := (1 + mm).toNat) (fun i σ G => ∃ y3 y4 ts us, σ = [some (.ref d), some (.ref o), some (.ref s), y3, y4] ∧ Kp d c H G ∧ Dk G d c ∧ G o = some (.lst (xs.map V.str)) ∧ G s = some (.lst us) ∧ RpL0 G ts us ∧ ts.length ≤ i ∧ ∀ a ∈ ts, Bd 6 60 xs a)
    ⟨none, none, [], [], rfl, kp0.trans kp1, dk1, kp1 o _ od oc ho0, kp1 s _ off.1 off.2 g0, trivial, Nat.le_refl _, fun _ z => by cases z⟩ (fun i σ G hi z => ?_) (fun σ G z => ?_)
  · obtain ⟨y3, y4, ts, us, rfl, kpG, dkG, hoG, gs, rt, lt, bt⟩ := z
    refine ⟨_, rfl, d, c, 4, rfl, dkG, by decide, by decide, fun r G2 r0 r1 kp2 dk2 => ?_⟩
    have fin : ∀ (v : V) (a : Kd) (G4 : Hp), Kp d c G2 G4 → Dk G4 d c → Rp0 G4 a v → Bd 6 60 xs a → G4 s = some (.lst us) ∧ us.length ≤ 1000 ∧ (Kp d c H (upd G4 s (.lst (us ++ [v])))) ∧ Dk (upd G4 s (.lst (us ++ [v]))) d c ∧ (upd G4 s (.lst (us ++ [v]))) o = some (.lst (xs.map V.str)) ∧ RpL0 (upd G4 s (.lst (us ++ [v]))) (ts ++ [a]) (us ++ [v]) := fun v a G4 kp4 dk4 ra ba => by
      have g4 := kp4 s _ off.1 off.2 (kp2 s _ off.1 off.2 gs)
      have tk4 : Tk G4 (upd G4 s (.lst (us ++ [v]))) := Tk.rfl.put (fun _ z => by rw [g4] at z; cases z)
      have l1 := rt.len
      refine ⟨g4, by omega, ((kpG.trans kp2).trans kp4).mk ns, dk4.put off.1 off.2, by rw [upd_ne (Ne.symm nso)]; exact kp4 o _ od oc (kp2 o _ od oc hoG), ?_⟩
      exact RpL0.app (us := [a]) (ws := [v]) (((rt.tk (Tk.kp kp2 dkG)).tk (Tk.kp kp4 dk2)).tk tk4) ⟨ra.tk tk4, trivial⟩
    have bt2 : ∀ a : Kd, Bd 6 60 xs a → ∀ b ∈ ts ++ [a], Bd 6 60 xs b := fun a ba b hb => by
      rcases List.mem_append.mp hb with h | h
      · exact bt b h
      · rw [List.mem_singleton.mp h]; exact ba
    have ho2 := kp2 o _ od oc hoG
    have gs2 := kp2 s _ off.1 off.2 gs
    refine ⟨_, _, rfl, rfl, _, rfl, .inl ⟨rfl, _, .inl (.inl gs2)⟩, _, rfl, _, rfl, ite2 (fun e => ?_) (fun e => ?_)⟩
    · refine ⟨_, rfl, _, rfl, d, c, o, xs, rfl, dk2, ho2, od, oc, lx, hx, fun v a G4 kp4 dk4 ra ba => ?_⟩
      have ba := ba.mono (d' := 6) (z' := 60) (by decide) (by decide)
      obtain ⟨f1, f2, f3, f4, f5, f6⟩ := fin v a G4 kp4 dk4 ra ba
      exact ⟨s, _, _, rfl, rfl, f1, small1000 f2, _, _, ts ++ [a], us ++ [v], rfl, f3, f4, f5, upd_same, f6, by rw [List.length_append]; show ts.length + 1 ≤ _; omega, bt2 a ba⟩
    · refine ⟨_, rfl, _, rfl, _, rfl, d, c, 2, rfl, dk2, by decide, by decide, fun g G3 gg0 gg1 kp3 dk3 => ?_⟩
      have eL : [V.ref d, V.ref o, V.int g, V.bl false] = [V.ref d, V.ref o, V.int ((g.toNat : Nat) : Int), V.bl false] := by
        rw [Int.toNat_of_nonneg gg0]
      refine ⟨d, c, o, xs, g.toNat, false, eL, by omega, dk3, kp3 o _ od oc ho2, od, oc, lx, hx, fun v a G4 kp4 dk4 ra da => ?_⟩
      have ba : Bd 6 60 xs a := da.bd (by omega) (by
        have : g.toNat = 0 ∨ g.toNat = 1 := by omega
        rcases this with e | e <;> rw [e] <;> decide)
      obtain ⟨f1, f2, f3, f4, f5, f6⟩ := fin v a G4 (kp3.trans kp4) dk4 ra ba
      exact ⟨s, _, _, rfl, rfl, f1, small1000 f2, _, _, ts ++ [a], us ++ [v], rfl, f3, f4, f5, upd_same, f6, by rw [List.length_append]; show ts.length + 1 ≤ _; omega, bt2 a ba⟩
  · obtain ⟨y3, y4, ts, us, rfl, kpG, dkG, hoG, gs, rt, lt, bt⟩ := z
    refine ⟨_, rfl, _, rfl, _, rfl, d, c, o, xs, 1, false, rfl, by decide, dkG, hoG, od, oc, lx, hx, fun v a G4 kp4 dk4 ra da => ?_⟩
    refine ⟨s, ts, us, a, v, rfl, kp4 s _ off.1 off.2 gs, rt.tk (Tk.kp kp4 dkG), ra, fun n hn => ?_, fun u G5 n s5 hn ru => ?_⟩
    · have h1 := led_dp a 6 (by have := da.dp; omega) (ts.take n) fun b hb => (bt b (List.mem_of_mem_take hb)).dp
      have h2 : (ts.take n).length ≤ n := by rw [List.length_take]; omega
      omega
    · exact q u _ G5 ((kpG.trans kp4).trans (Kp.of s5)) (dk4.same s5) ru ⟨ts.take n, a, rfl, by rw [List.length_take]; omega, fun b hb => bt b (List.mem_of_mem_take hb), da⟩
end
end Kq

/-! _law_ended_kind -/
namespace Kq
open PySem PySem.Spec PyProof.Rows L2 Kf Kg Kv Kk
section
variable {X : Cx} {e : Expr}
def tCutT (t : TT) : TT := fun σ H Q => ∃ Mid : Bool → Hp → Prop, t σ H Mid ∧ ∀ v H', Mid v H' → Q v H'
theorem pt_cut {t : TT} (h : PT X e t) : PT X e (tCutT t) := by
  refine ⟨fun pins s σ H Q I z => ?_⟩
  obtain ⟨Mid, h1, h2⟩ := z
  exact thn (h.run pins s σ H Mid I h1) fun b s1 ⟨H1, I1, q⟩ => ⟨H1, I1, h2 _ _ q⟩
end
theorem notInK {X : Cx} (K : PySem.W.Frag) (h : X.K = K) : OpR X (compareOp .NotIn) (rIn K true) := by
  subst h
  exact op_notIn_seq
@[elab_as_elim] theorem objG {H : Hp} {p : Addr} {u : HO} {motive : Hp → Prop} (np : H p = none) (q : ∀ G, Same H G → G p = some u → motive G) : motive (upd H p u) := q _ (newS np) upd_same
theorem pickN {v : V} {n : Nat} : ∀ {ks : List Nat}, v ∈ ks.map (fun k => V.int ((k : Nat) : Int)) → (∀ k ∈ ks, 1 ≤ k ∧ k ≤ n) → ∃ k : Nat, v = .int (k : Nat) ∧ 1 ≤ k ∧ k ≤ n := fun {ks} hv h => by
  obtain ⟨k, hk, rfl⟩ := List.mem_map.mp hv
  exact ⟨k, rfl, h k hk⟩
theorem flatStr (ns : List Str) : (ns.map V.str).all flatV = true := by
  rw [List.all_map]
  exact List.all_eq_true.mpr fun _ _ => rfl
/-- kinds led to: how deep, how great -/
theorem Bd.led {xs : List Str} {t : Kd} (ht : Bd 1 3 xs t) : ∀ {ts : List Kd}, (∀ a ∈ ts, Bd 1 3 xs a) → ts.length ≤ 4 → Bd 6 60 xs (Kd.ledTo ts t) := fun {ts} h hl => by
  refine ⟨?_, ?_, led_op t xs ht.op ts fun a ha => (h a ha).op⟩
  · have := led_dp t 1 ht.dp ts fun a ha => (h a ha).dp
    omega
  · have h1 := led_size t 3 ts fun a ha => (h a ha).sz
    have := ht.sz
    have h2 : ts.length * (3 + 1) ≤ 4 * 4 := Nat.mul_le_mul hl (Nat.le_refl _)
    omega
section
variable {P : Program} {w : World} {K : PySem.W.Frag} {mg : Str → Option Value} {base : Heap}
def Okd (P : Program) (w : World) (K : PySem.W.Frag) (mg : Str → Option Value) (base : Heap) (CX : CXT) (k : Nat) (nm : Str) (ps : List Str) (sp : Sp) : Prop :=
  ∃ (f : Addr) (fd : FuncData), FnOk P w K mg base CX k f fd ps sp ∧ Binds K fd ps [] ∧ mg nm = some (.ref f) ∧ PySem.W.keepIn K (.ref f) = true
abbrev tEnded : Stmt := tp 61
abbrev nEnded : List Str := ["_law_deck_here", "_law_opens_here", "_law_name", "_law_marks", "_law_mark", "_law_made", "_law_others", "_law_looked_here", "_law_some", "_law_k", "_law_way", "_law_many", "_law_j", "_law_few", "_law_two"]
abbrev psEnded : List Str := ["_law_deck_here", "_law_opens_here"]
theorem scEnded : FnScope nEnded psEnded (defScope tEnded) := ⟨rfl, rfl, rfl, by decide +kernel, rfl, by decide +kernel, by decide +kernel⟩
def spEnded : Sp := fun vs H Q _ => ∃ (d c o : Addr) (xs : List Str), vs = [.ref d, .ref o] ∧ Dk H d c ∧ H o = some (.lst (xs.map V.str)) ∧ o ≠ d ∧ o ≠ c ∧ xs.length ≤ 26 ∧ (∀ x ∈ xs, Nm x) ∧
  ∀ (p l : Addr) (v : V) (t : Kd) (lk : List Str) (G : Hp), Kp d c H G → Dk G d c → G p = some (.tup [v, .ref l]) → G l = some (.tup (lk.map V.str)) → Rp0 G t v → Drn xs t → Q (.ref p) G
theorem okEnded {f : Addr} {fd : FuncData} {k : Nat} (F : Fun K "_law_ended_kind" "_law_ended_kind" tEnded f fd)
    (DF : Okd P w K mg base CX0 (k) "_law_led_few" ["_law_some", "_law_result"] (spFew 12))
    (DT : Okd P w K mg base CX0 (k) "_law_data" ["_law_deck_here", "_law_opens_here", "_law_deep", "_law_small"] (spLData 4))
    (DP : Okd P w K mg base CX0 (k) "_law_pick" ["_law_deck_here", "_law_some"] spPick)
    (DL : Okd P w K mg base CX0 (k) "_law_led_to" ["_law_some", "_law_result"] spLLed)
    (DD : Okd P w K mg base CX0 (k) "_law_draw" ["_law_deck_here", "_law_most"] spDraw)
    (m_range : mg "range" = none)
    (m_sorted : mg "sorted" = none)
    (m_tuple : mg "tuple" = none)
    (m_zip : mg "zip" = none) : FnOk P w K mg base CX0 (k + 1) f fd psEnded spEnded := by
  obtain ⟨fF, fdF, GF, bF, gF, kF⟩ := DF
  obtain ⟨fT, fdT, GT, bT, gT, kT⟩ := DT
  obtain ⟨fP, fdP, GP, bP, gP, kP⟩ := DP
  obtain ⟨fL, fdL, GL, bL, gL, kL⟩ := DL
  obtain ⟨fD, fdD, GD, bD, gD, kD⟩ := DD
  refine F.ok scEnded (fun vs H Q E h => ?_) (fun cdv A outer s H vs Q E hr h => ?_)
  · obtain ⟨d, c, o, xs, rfl, _⟩ := h
    rfl
  obtain ⟨d, c, o, xs, rfl, dk, ho, od, oc, lx, hx, q⟩ := h
  refine ⟨_, pss_cons (ps_setLc (i := 3) (own := [("_law_name", 2)]) (g := gName 2) (by rfl) scEnded.nd rfl rfl (sw_true rfl rfl rfl (by decide +kernel)) (pi_list (pv 1)) (blkOk_by (own := [("_law_name", 2)]) (N := nEnded) (sc := defScope tEnded) (by decide +kernel)) (fun _ _ _ _ _ => (pg_name (i := 2) scEnded.nd rfl (.inl rfl))) (fun _ _ _ _ _ => pts_nil) (fun _ _ _ _ _ => (pe_call GD hr (by rfl) gD kD bD .nil pass0 (pa_cons (pv 0) (pa_cons pe_int pa_nil)))))
    (pss_cons (ps_set (i := 5) scEnded.nd rfl (.inr rfl) (pe_lc (own := [("_law_name", 2), ("_law_mark", 4)]) (g := gTup K 2 (gCons (gName 2) (gCons (gName 4) gNil))) (tt := _) (by rfl) scEnded.nd (pi_zip (by rfl) m_zip (pa_cons (pv 1) (pa_cons (pv 3) pa_nil))) (blkOk_by (own := [("_law_name", 2), ("_law_mark", 4)]) (N := nEnded) (sc := defScope tEnded) (by decide +kernel)) (fun _ _ _ _ _ => (tupGK K rfl rfl (pgs_cons (pg_name (i := 2) scEnded.nd rfl (.inl rfl)) (pgs_cons (pg_name (i := 4) scEnded.nd rfl (.inl rfl)) pgs_nil)))) (fun _ _ _ _ _ => pts_one (pt_cmpR op_eq (pv 4) pe_int (nomark _))) (fun _ _ _ _ _ => (pv 2))))
    (pss_cons (ps_set (i := 6) scEnded.nd rfl (.inr rfl) (pe_lc (own := [("_law_name", 2)]) (g := gName 2) (tt := _) (by rfl) scEnded.nd (pi_list (pv 1)) (blkOk_by (own := [("_law_name", 2)]) (N := nEnded) (sc := defScope tEnded) (by decide +kernel)) (fun _ _ _ _ _ => (pg_name (i := 2) scEnded.nd rfl (.inl rfl))) (fun _ _ _ _ _ => pts_one (pt_cmpR (notInK K rfl) (pv 2) (pv 5) rfl)) (fun _ _ _ _ _ => (pv 2))))
    (pss_cons (ps_set (i := 7) scEnded.nd rfl (.inl rfl) (pe_callTy call_tuple_of (by rfl) m_tuple PyProof.Rows.boot_tuple (pa_cons (pe_callB cr_sortedS (by rfl) m_sorted (by decide +kernel) (pa_cons (pe_lc (own := [("_law_name", 2), ("_law_mark", 4)]) (g := gTup K 2 (gCons (gName 2) (gCons (gName 4) gNil))) (tt := _) (by rfl) scEnded.nd (pi_zip (by rfl) m_zip (pa_cons (pv 1) (pa_cons (pv 3) pa_nil))) (blkOk_by (own := [("_law_name", 2), ("_law_mark", 4)]) (N := nEnded) (sc := defScope tEnded) (by decide +kernel)) (fun _ _ _ _ _ => (tupGK K rfl rfl (pgs_cons (pg_name (i := 2) scEnded.nd rfl (.inl rfl)) (pgs_cons (pg_name (i := 4) scEnded.nd rfl (.inl rfl)) pgs_nil)))) (fun _ _ _ _ _ => pts_one (pt_cmpR op_eq (pv 4) pe_int (nomark _))) (fun _ _ _ _ _ => (pv 2))) pa_nil)) pa_nil)))
    (pss_cons (ps_set (i := 8) scEnded.nd rfl (.inl rfl) (pe_lst pa_nil))
    (pss_cons (ps_for PassesOwn.never rfl (pi_range1 (by rfl) m_range (pa_cons (pe_call GP hr (by rfl) gP kP bP .nil pass0 (pa_cons (pv 0) (pa_cons (pe_lst (pa_cons pe_int (pa_cons pe_int (pa_cons pe_int (pa_cons pe_int (pa_cons pe_int (pa_cons pe_int pa_nil))))))) pa_nil))) pa_nil)) (pg_name (i := 9) scEnded.nd rfl (.inl rfl))
      (pss_cons (ps_set (i := 10) scEnded.nd rfl (.inl rfl) (pe_call GD hr (by rfl) gD kD bD .nil pass0 (pa_cons (pv 0) (pa_cons pe_int pa_nil))))
    (pss_cons (ps_set (i := 11) scEnded.nd rfl (.inl rfl) (pe_call GP hr (by rfl) gP kP bP .nil pass0 (pa_cons (pv 0) (pa_cons (pe_lst (pa_cons pe_int (pa_cons pe_int (pa_cons pe_int (pa_cons pe_int (pa_cons pe_int (pa_cons pe_int (pa_cons pe_int (pa_cons pe_int pa_nil))))))))) pa_nil))))
    (pss_one (ps_if (pt_cut (PW.pt (pw_and (pt_cmpR op_eq (pv 10) pe_int (nomark _)) (pw_and1 (pt_cmpR (op_neD hr.units) (pv 5) (pe_lst pa_nil) (nomark _)))))) (pss_cons (ps_setLc (i := 13) (own := [("_law_j", 12)]) (g := gName 12) (by rfl) scEnded.nd rfl rfl (sw_true rfl rfl rfl (by decide +kernel)) (pi_range1 (by rfl) m_range (pa_cons (pv 11) pa_nil)) (blkOk_by (own := [("_law_j", 12)]) (N := nEnded) (sc := defScope tEnded) (by decide +kernel)) (fun _ _ _ _ _ => (pg_name (i := 12) scEnded.nd rfl (.inl rfl))) (fun _ _ _ _ _ => pts_nil) (fun _ _ _ _ _ => (pe_call GT hr (by rfl) gT kT bT .nil pass0 (pa_cons (pv 0) (pa_cons (pv 1) (pa_cons (pe_call GD hr (by rfl) gD kD bD .nil pass0 (pa_cons (pv 0) (pa_cons pe_int pa_nil))) (pa_cons pe_bl pa_nil)))))))
    (pss_one (ps_expr (pe_bm PySem.F.plainAttrs_list PySem.F.slot_list_append PySem.F.type_list_append mt_append (pv 8) (pa_cons (pe_call GL hr (by rfl) gL kL bL .nil pass0 (pa_cons (pv 13) (pa_cons (pe_tup (pa_cons pe_str (pa_cons (pe_call GP hr (by rfl) gP kP bP .nil pass0 (pa_cons (pv 0) (pa_cons (pv 5) pa_nil))) pa_nil))) pa_nil))) pa_nil))))) (pss_one (ps_if (pt_cmpR op_lt (pv 10) pe_int (nomark _)) (pss_cons (ps_setLc (i := 13) (own := [("_law_j", 12)]) (g := gName 12) (by rfl) scEnded.nd rfl rfl (sw_true rfl rfl rfl (by decide +kernel)) (pi_range1 (by rfl) m_range (pa_cons (pv 11) pa_nil)) (blkOk_by (own := [("_law_j", 12)]) (N := nEnded) (sc := defScope tEnded) (by decide +kernel)) (fun _ _ _ _ _ => (pg_name (i := 12) scEnded.nd rfl (.inl rfl))) (fun _ _ _ _ _ => pts_nil) (fun _ _ _ _ _ => (pe_call GT hr (by rfl) gT kT bT .nil pass0 (pa_cons (pv 0) (pa_cons (pv 6) (pa_cons (pe_call GD hr (by rfl) gD kD bD .nil pass0 (pa_cons (pv 0) (pa_cons pe_int pa_nil))) (pa_cons pe_bl pa_nil)))))))
    (pss_cons (ps_set (i := 14) scEnded.nd rfl (.inl rfl) (pe_lst (pa_cons (pe_tup (pa_cons pe_str (pa_cons (pe_tup (pa_cons pe_str pa_nil)) (pa_cons (pe_tup (pa_cons pe_str pa_nil)) pa_nil)))) (pa_cons (pe_tup (pa_cons pe_str (pa_cons (pe_tup (pa_cons pe_str pa_nil)) (pa_cons (pe_tup (pa_cons pe_str pa_nil)) pa_nil)))) pa_nil))))
    (pss_one (ps_expr (pe_bm PySem.F.plainAttrs_list PySem.F.slot_list_append PySem.F.type_list_append mt_append (pv 8) (pa_cons (pe_call GL hr (by rfl) gL kL bL .nil pass0 (pa_cons (pv 13) (pa_cons (pe_call GP hr (by rfl) gP kP bP .nil pass0 (pa_cons (pv 0) (pa_cons (pe_op op_cat (pe_lst (pa_cons (pe_tup (pa_cons pe_str pa_nil)) (pa_cons (pe_tup (pa_cons pe_str pa_nil)) (pa_cons (pe_tup (pa_cons pe_str pa_nil)) pa_nil)))) (pv 14)) pa_nil))) pa_nil))) pa_nil)))))) (pss_one (ps_expr (pe_bm PySem.F.plainAttrs_list PySem.F.slot_list_append PySem.F.type_list_append mt_append (pv 8) (pa_cons (pe_call GT hr (by rfl) gT kT bT .nil pass0 (pa_cons (pv 0) (pa_cons (pv 1) (pa_cons (pe_call GD hr (by rfl) gD kD bD .nil pass0 (pa_cons (pv 0) (pa_cons pe_int pa_nil))) (pa_cons pe_bl pa_nil))))) pa_nil)))))))))))
    (pss_one (ps_ret (pe_tup (pa_cons (pe_call GF hr (by rfl) gF kF bF .nil pass0 (pa_cons (pv 8) (pa_cons (pe_call GT hr (by rfl) gT kT bT .nil pass0 (pa_cons (pv 0) (pa_cons (pv 1) (pa_cons pe_int (pa_cons pe_bl pa_nil))))) pa_nil))) (pa_cons (pv 7) pa_nil)))))))))), ?_⟩
  refine ⟨_, rfl, o, rfl, ⟨_, SqL.of ho⟩, fun D nD => ?_⟩
  have oD := dk.off nD
  refine lc_list (xs := xs.map V.str) (fun i G => Kp d c H G ∧ Dk G d c ∧ ∃ ms : List Int, ms.length = i ∧ G D = some (.lst (ms.map V.int))) ⟨Kp.of (newS nD), dk.same (newS nD), [], rfl, upd_same⟩ (fun i G _ z => SqL.of (z.1 o _ od oc ho)) (fun i x G hx z => ?_) (fun G z => ?_)
  · obtain ⟨kpG, dkG, ms, lm, gD⟩ := z
    have li := (List.getElem?_eq_some_iff.mp hx).1
    rw [List.length_map] at li
    refine ⟨rfl, _, rfl, d, c, 3, rfl, dkG, by decide, by decide, fun r G2 r0 r1 kp2 dk2 => ⟨_, kp2 _ _ oD.1 oD.2 gD, ?_, (kpG.trans kp2).mk nD, dk2.put oD.1 oD.2, ms ++ [r], ?_, ?_⟩⟩
    · rw [List.length_map]
      exact small1000 (by omega)
    · rw [List.length_append, lm]
      rfl
    · rw [upd_same, List.map_append]
      rfl
  obtain ⟨kp1, dk1, ms, lm, gD⟩ := z
  rw [List.length_map] at lm
  have ho1 := kp1 o _ od oc ho
  refine ⟨_, rfl, _, rfl, o, D, _, _, rfl, SqL.of ho1, SqL.of gD, fun M nM => ?_⟩
  have oM := dk1.off nM
  refine lc_it (walk_zip (K := K) (a := o) (b := D) (xs := xs.map V.str) (ys := ms.map V.int) (n := xs.length) (by rw [List.length_map, List.length_map]; omega)) (fun i F => Same G F ∧ ∃ ys : List Str, ys.length ≤ i ∧ (∀ y ∈ ys, y ∈ xs) ∧ F M = some (.lst (ys.map V.str))) ⟨newS nM, [], Nat.le_refl _, (fun _ z => nomatch z), upd_same⟩ (fun i F _ z => ⟨SqL.of (z.1 _ _ ho1), SqL.of (z.1 _ _ gD)⟩) (fun i x F F' hi z y => ?_) (fun F z => ?_)
  · obtain ⟨sF, ys, ly, ym, gM⟩ := z
    obtain ⟨X, x1, x2, rfl, nX, rfl, e1, e2⟩ := y
    have e1 : (xs.map V.str)[i]? = some x1 := e1
    have e2 : (ms.map V.int)[i]? = some x2 := e2
    rw [List.getElem?_map] at e1 e2
    obtain ⟨n, hn, rfl⟩ := Option.map_eq_some_iff.mp e1
    obtain ⟨m, hm, rfl⟩ := Option.map_eq_some_iff.mp e2
    refine objG nX fun F2 s2 gX => ?_
    have sF2 := sF.trans s2
    have gM2 := s2 _ _ gM
    refine ⟨X, _, rfl, SqT.of gX, rfl, _, _, rfl, _, _, rfl, rfl, rfl, ?_⟩
    refine ⟨_, rfl, rfl, _, rfl, ite2 (fun _ => ?_) (fun _ => ⟨sF2, ys, by omega, ym, gM2⟩)⟩
    refine ⟨_, rfl, _, gM2, ?_, sPutS sF2 nM, ys ++ [n], ?_, ?_, ?_⟩
    · rw [List.length_map]
      exact small1000 (by omega)
    · rw [List.length_append]
      show ys.length + 1 ≤ _
      omega
    · intro y hy
      rcases List.mem_append.mp hy with h | h
      · exact ym y h
      · rw [List.mem_singleton.mp h]
        exact List.mem_of_getElem? hn
    · rw [upd_same, List.map_append]
      rfl
  obtain ⟨s1, ys, ly, ym, gM⟩ := z
  replace kp1 := kp1.trans (.of s1)
  replace dk1 := dk1.same s1
  replace ho1 := s1 _ _ ho1
  replace gD := s1 _ _ gD
  have ym2 : ∀ x ∈ ys, Nm x := fun x h => hx x (ym x h)
  refine ⟨_, rfl, o, rfl, ⟨_, SqL.of ho1⟩, fun O nO => ?_⟩
  have oO := dk1.off nO
  refine lc_list (xs := xs.map V.str) (fun i G => Same F G ∧ ∃ zs : List Str, zs.length ≤ i ∧ (∀ y ∈ zs, y ∈ xs) ∧ G O = some (.lst (zs.map V.str))) ⟨newS nO, [], Nat.le_refl _, (fun _ z => nomatch z), upd_same⟩ (fun i G _ z => SqL.of (z.1 _ _ ho1)) (fun i x G hx' z => ?_) (fun G z => ?_)
  · obtain ⟨sG, zs, lz, zm, gO⟩ := z
    rw [List.getElem?_map] at hx'
    obtain ⟨n, hn, rfl⟩ := Option.map_eq_some_iff.mp hx'
    have li := (List.getElem?_eq_some_iff.mp hn).1
    refine ⟨rfl, _, rfl, _, rfl, M, _, rfl, .inl (SqL.of (sG _ _ gM)), rfl, flatStr ys, _, rfl, ite2 (fun _ => ?_) (fun _ => ⟨sG, zs, by omega, zm, gO⟩)⟩
    refine ⟨_, rfl, _, gO, ?_, sPutS sG nO, zs ++ [n], ?_, ?_, ?_⟩
    · rw [List.length_map]
      exact small1000 (by omega)
    · rw [List.length_append]
      show zs.length + 1 ≤ _
      omega
    · intro y hy
      rcases List.mem_append.mp hy with h | h
      · exact zm y h
      · rw [List.mem_singleton.mp h]
        exact List.mem_of_getElem? hn
    · rw [upd_same, List.map_append]
      rfl
  obtain ⟨s2, zs, lz, zm, gO⟩ := z
  rw [List.length_map] at lz
  replace kp1 := kp1.trans (.of s2)
  replace dk1 := dk1.same s2
  replace ho1 := s2 _ _ ho1
  replace gD := s2 _ _ gD
  replace gM := s2 _ _ gM
  have zm2 : ∀ x ∈ zs, Nm x := fun x h => hx x (zm x h)
  refine ⟨_, rfl, _, rfl, o, D, _, _, rfl, SqL.of ho1, SqL.of gD, fun L nL => ?_⟩
  have oL := dk1.off nL
  refine lc_it (walk_zip (K := K) (a := o) (b := D) (xs := xs.map V.str) (ys := ms.map V.int) (n := xs.length) (by rw [List.length_map, List.length_map]; omega)) (fun i F => Same G F ∧ ∃ ys : List Str, ys.length ≤ i ∧ (∀ y ∈ ys, y ∈ xs) ∧ F L = some (.lst (ys.map V.str))) ⟨newS nL, [], Nat.le_refl _, (fun _ z => nomatch z), upd_same⟩ (fun i F _ z => ⟨SqL.of (z.1 _ _ ho1), SqL.of (z.1 _ _ gD)⟩) (fun i x F F' hi z y => ?_) (fun F z => ?_)
  · obtain ⟨sF, ys, ly, ym, gM⟩ := z
    obtain ⟨X, x1, x2, rfl, nX, rfl, e1, e2⟩ := y
    have e1 : (xs.map V.str)[i]? = some x1 := e1
    have e2 : (ms.map V.int)[i]? = some x2 := e2
    rw [List.getElem?_map] at e1 e2
    obtain ⟨n, hn, rfl⟩ := Option.map_eq_some_iff.mp e1
    obtain ⟨m, hm, rfl⟩ := Option.map_eq_some_iff.mp e2
    refine objG nX fun F2 s2 gX => ?_
    have sF2 := sF.trans s2
    have gM2 := s2 _ _ gM
    refine ⟨X, _, rfl, SqT.of gX, rfl, _, _, rfl, _, _, rfl, rfl, rfl, ?_⟩
    refine ⟨_, rfl, rfl, _, rfl, ite2 (fun _ => ?_) (fun _ => ⟨sF2, ys, by omega, ym, gM2⟩)⟩
    refine ⟨_, rfl, _, gM2, ?_, sPutS sF2 nL, ys ++ [n], ?_, ?_, ?_⟩
    · rw [List.length_map]
      exact small1000 (by omega)
    · rw [List.length_append]
      show ys.length + 1 ≤ _
      omega
    · intro y hy
      rcases List.mem_append.mp hy with h | h
      · exact ym y h
      · rw [List.mem_singleton.mp h]
        exact List.mem_of_getElem? hn
    · rw [upd_same, List.map_append]
      rfl
  obtain ⟨s3, ks, lk, km, gL⟩ := z
  refine ⟨L, ks, rfl, .inl (.inl gL), by omega, fun ws p pm srt np => ?_⟩
  refine objG np fun F2 s4 gp => ⟨p, _, rfl, .inl ⟨SqL.of gp, fun l nl => ?_⟩⟩
  refine objG nl fun F3 s5 gl => ?_
  have s35 := (s3.trans s4).trans s5
  replace kp1 := kp1.trans (.of s35)
  replace dk1 := dk1.same s35
  replace ho1 := s35 _ _ ho1
  replace gM := s35 _ _ gM
  replace gO := s35 _ _ gO
  have oo : o ≠ d ∧ o ≠ c := ⟨od, oc⟩
  refine ⟨Nat.zero_le _, fun S nS => ?_⟩
  have oS := dk1.off nS
  have nSH := kp1.free dk1 nS
  have So : S ≠ o := fun z => by rw [z, ho1] at nS; cases nS
  have SM : S ≠ M := fun z => by rw [z, gM] at nS; cases nS
  have SO : S ≠ O := fun z => by rw [z, gO] at nS; cases nS
  have Sl : S ≠ l := fun z => by rw [z, gl] at nS; cases nS
  refine objG nS fun F4 s6 gS => ?_
  replace kp1 := kp1.trans (.of s6)
  replace dk1 := dk1.same s6
  replace ho1 := s6 _ _ ho1
  replace gM := s6 _ _ gM
  replace gO := s6 _ _ gO
  replace gl := s6 _ _ gl
  -- the arguments
  refine ⟨_, rfl, (by show 6 ≤ sizeLine; decide), fun lm1 nlm1 => ?_⟩
  have olm1 := dk1.off nlm1
  refine objG nlm1 fun K1 ss1 glm1 => ?_
  replace kp1 := kp1.trans (.of ss1)
  replace dk1 := dk1.same ss1
  replace ho1 := ss1 _ _ ho1
  replace gM := ss1 _ _ gM
  replace gO := ss1 _ _ gO
  replace gl := ss1 _ _ gl
  replace gS := ss1 _ _ gS
  refine ⟨d, c, lm1, _, rfl, dk1, glm1, olm1.1, olm1.2, by decide, by decide, fun vmany K2 kk2 ee2 hv => ?_⟩
  replace kp1 := kp1.trans kk2
  replace ho1 := kk2 _ _ oo.1 oo.2 ho1
  replace gM := kk2 _ _ oM.1 oM.2 gM
  replace gO := kk2 _ _ oO.1 oO.2 gO
  replace gl := Tk.kp kk2 dk1 _ _ gl
  replace gS := kk2 _ _ oS.1 oS.2 gS
  replace glm1 := kk2 _ _ olm1.1 olm1.2 glm1
  replace dk1 := ee2
  obtain ⟨many, rfl, many0, many1⟩ := pickN (n := 4) (ks := [1, 2, 2, 3, 3, 4]) hv (by decide)
  refine ⟨_, rfl, by omega, by omega, ?_⟩
  refine for_range (lo := 0) (n := ((many : Nat) : Int).toNat) (fun i σ G => ∃ y2 y3 y4 y9 y10 y11 y12 y13 y14 ts us, σ = [some (.ref d), some (.ref o), y2, y3, y4, some (.ref M), some (.ref O), some (.ref l), some (.ref S), y9, y10, y11, y12, y13, y14] ∧ Kp d c H G ∧ Dk G d c ∧ G o = some (.lst (xs.map V.str)) ∧ G M = some (.lst (ys.map V.str)) ∧ G O = some (.lst (zs.map V.str)) ∧ G l = some (.tup (ws.map V.str)) ∧ G S = some (.lst us) ∧ RpL0 G ts us ∧ ts.length ≤ i ∧ ∀ a ∈ ts, Bd 6 60 xs a) ⟨_, _, _, _, _, _, _, _, _, [], [], rfl, kp1, dk1, ho1, gM, gO, gl, gS, trivial, Nat.le_refl _, fun _ z => (nomatch z)⟩ (fun i σ G hi z => ?_) (fun σ G z => ?_)
  · skip
    obtain ⟨y2, y3, y4, y9, y10, y11, y12, y13, y14, ts, us, rfl, kpi, dk1, ho1, gM, gO, gl, gS, rt, lt, bt⟩ := z
    clear kp1
    have ho10 := ho1
    have gM0 := gM
    have gO0 := gO
    have gS0 := gS
    have gl0 := gl
    have dk0 := dk1
    have lus := rt.len
    have kp1 : Kp d c G G := Kp.rfl
    have i4 : i < 4 := by omega
    have fin : ∀ (v : V) (a : Kd) (G4 : Hp), Kp d c G G4 → Dk G4 d c → Rp0 G4 a v → Bd 6 60 xs a → G4 S = some (.lst us) ∧ us.length < sizeLine ∧ Kp d c H (upd G4 S (.lst (us ++ [v]))) ∧ Dk (upd G4 S (.lst (us ++ [v]))) d c ∧ (upd G4 S (.lst (us ++ [v]))) o = some (.lst (xs.map V.str)) ∧ (upd G4 S (.lst (us ++ [v]))) M = some (.lst (ys.map V.str)) ∧ (upd G4 S (.lst (us ++ [v]))) O = some (.lst (zs.map V.str)) ∧ (upd G4 S (.lst (us ++ [v]))) l = some (.tup (ws.map V.str)) ∧ (upd G4 S (.lst (us ++ [v]))) S = some (.lst (us ++ [v])) ∧ RpL0 (upd G4 S (.lst (us ++ [v]))) (ts ++ [a]) (us ++ [v]) ∧ (ts ++ [a]).length ≤ i + 1 ∧ ∀ b ∈ ts ++ [a], Bd 6 60 xs b := fun v a G4 k4 d4 ra ba => by
      have g4 := k4 _ _ oS.1 oS.2 gS
      have tk4 : Tk G4 (upd G4 S (.lst (us ++ [v]))) := Tk.rfl.put (fun _ z => by rw [g4] at z; cases z)
      refine ⟨g4, small1000 (by omega), (kpi.trans k4).mk nSH, d4.put oS.1 oS.2, ?_, ?_, ?_, ?_, upd_same, ?_, ?_, fun b hb => ?_⟩
      · rw [upd_ne (Ne.symm So)]; exact k4 _ _ od oc ho1
      · rw [upd_ne (Ne.symm SM)]; exact k4 _ _ oM.1 oM.2 gM
      · rw [upd_ne (Ne.symm SO)]; exact k4 _ _ oO.1 oO.2 gO
      · exact tk4 _ _ (Tk.kp k4 dk1 _ _ gl)
      · exact RpL0.app (us := [a]) (ws := [v]) ((rt.tk (Tk.kp k4 dk1)).tk tk4) ⟨ra.tk tk4, trivial⟩
      · rw [List.length_append]; show ts.length + 1 ≤ _; omega
      · rcases List.mem_append.mp hb with h | h
        · exact bt b h
        · rw [List.mem_singleton.mp h]; exact ba
    refine ⟨_, rfl, d, c, 5, rfl, dk1, by decide, by decide, fun way K3 way0 way1 kk3 ee3 => ?_⟩
    replace kp1 := kp1.trans kk3
    replace ho1 := kk3 _ _ oo.1 oo.2 ho1
    replace gM := kk3 _ _ oM.1 oM.2 gM
    replace gO := kk3 _ _ oO.1 oO.2 gO
    replace gl := Tk.kp kk3 dk1 _ _ gl
    replace gS := kk3 _ _ oS.1 oS.2 gS
    replace dk1 := ee3
    refine ⟨_, rfl, (by show 8 ≤ sizeLine; decide), fun lm2 nlm2 => ?_⟩
    have olm2 := dk1.off nlm2
    refine objG nlm2 fun K4 ss4 glm2 => ?_
    replace kp1 := kp1.trans (.of ss4)
    replace dk1 := dk1.same ss4
    replace ho1 := ss4 _ _ ho1
    replace gM := ss4 _ _ gM
    replace gO := ss4 _ _ gO
    replace gl := ss4 _ _ gl
    replace gS := ss4 _ _ gS
    refine ⟨d, c, lm2, _, rfl, dk1, glm2, olm2.1, olm2.2, by decide, by decide, fun vmm K5 kk5 ee5 hv => ?_⟩
    replace kp1 := kp1.trans kk5
    replace ho1 := kk5 _ _ oo.1 oo.2 ho1
    replace gM := kk5 _ _ oM.1 oM.2 gM
    replace gO := kk5 _ _ oO.1 oO.2 gO
    replace gl := Tk.kp kk5 dk1 _ _ gl
    replace gS := kk5 _ _ oS.1 oS.2 gS
    replace glm2 := kk5 _ _ olm2.1 olm2.2 glm2
    replace dk1 := ee5
    obtain ⟨mm, rfl, mm0, mm1⟩ := pickN (n := 4) (ks := [1, 1, 2, 1, 1, 2, 3, 4]) hv (by decide)
    refine ⟨fun b F => Same K5 F ∧ (b = true → 0 < ys.length), ?_, fun b F z => ?_⟩
    · refine ⟨_, rfl, rfl, _, rfl, ite2 (fun _ => ?_) (fun _ => ⟨Same.refl _, fun w => nomatch w⟩)⟩
      refine ⟨_, rfl, Nat.zero_le _, fun e ne => ⟨.list (ys.map PyData.str), .list [], .lst (SqL.of (newS ne _ _ gM)) (dpStrs K _ ys), .lst (SqL.of upd_same) .nil, shStrs ym2, rfl, _, rfl, newS ne, fun w => ?_⟩⟩
      rw [eqvNil] at w
      cases ys with
      | nil => cases w
      | cons x r => exact Nat.succ_pos _
    obtain ⟨sb0, hb⟩ := z
    replace kp1 := kp1.trans (.of sb0)
    replace dk1 := dk1.same sb0
    replace ho1 := sb0 _ _ ho1
    replace gM := sb0 _ _ gM
    replace gO := sb0 _ _ gO
    replace gl := sb0 _ _ gl
    replace gS := sb0 _ _ gS
    refine ite2 (fun e => ?_) (fun e => ?_)
    · skip
      refine ⟨_, rfl, _, rfl, by omega, by omega, fun E nE => ?_⟩
      have oE := dk1.off nE
      refine lc_range (lo := 0) (n := ((mm : Nat) : Int).toNat) (fun i F => Kp d c G F ∧ Dk F d c ∧ ∃ tE uE, F E = some (.lst uE) ∧ RpL0 F tE uE ∧ tE.length = i ∧ ∀ a ∈ tE, Bd 1 3 xs a) ⟨kp1.mk (kp1.free dk1 nE), dk1.put oE.1 oE.2, [], [], upd_same, trivial, rfl, fun _ z => nomatch z⟩ (fun i F hi z => ?_) (fun F z => ?_)
      · obtain ⟨kq, dq, tE, uE, gE, rE, lE, bE⟩ := z
        have lu := rE.len
        refine ⟨rfl, _, rfl, _, rfl, _, rfl, d, c, 2, rfl, dq, by decide, by decide, fun g F2 g0 g1 k2 d2 => ?_⟩
        have eL : [V.ref d, V.ref o, V.int g, V.bl true] = [V.ref d, V.ref o, V.int ((g.toNat : Nat) : Int), V.bl true] := by
          rw [Int.toNat_of_nonneg g0]
        refine ⟨d, c, o, xs, g.toNat, true, eL, by omega, d2, k2 _ _ oo.1 oo.2 (kq _ _ oo.1 oo.2 (ho10)), oo.1, oo.2, lx, hx, fun v a F3 k3 d3 ra da => ?_⟩
        have ba : Bd 1 3 xs a := da.bd (by omega) (by
          have : g.toNat = 0 ∨ g.toNat = 1 := by omega
          rcases this with e | e <;> rw [e] <;> decide)
        have g3 := k3 _ _ oE.1 oE.2 (k2 _ _ oE.1 oE.2 gE)
        have tk3 : Tk F3 (upd F3 E (.lst (uE ++ [v]))) := Tk.rfl.put (fun _ z => by rw [g3] at z; cases z)
        refine ⟨_, g3, small1000 (by omega), ((kq.trans k2).trans k3).mk (kp1.free dk1 nE), d3.put oE.1 oE.2, tE ++ [a], uE ++ [v], upd_same, RpL0.app (us := [a]) (ws := [v]) (((rE.tk (Tk.kp k2 dq)).tk (Tk.kp k3 d2)).tk tk3) ⟨ra.tk tk3, trivial⟩, by rw [List.length_append, lE]; rfl, fun b hb => ?_⟩
        rcases List.mem_append.mp hb with h | h
        · exact bE b h
        · rw [List.mem_singleton.mp h]; exact ba
      obtain ⟨kq, dq, tE, uE, gE, rE, lE, bE⟩ := z
      have lE4 : tE.length ≤ 4 := by omega
      replace ho1 := kq _ _ oo.1 oo.2 ho10
      replace gM := kq _ _ oM.1 oM.2 gM0
      replace gO := kq _ _ oO.1 oO.2 gO0
      replace gS := kq _ _ oS.1 oS.2 gS0
      replace gl := Tk.kp kq dk0 _ _ gl0
      replace kp1 := kq
      replace dk1 := dq
      refine ⟨_, rfl, .inl ⟨rfl, _, .inl (.inl gS)⟩, _, rfl, ?_⟩
      refine ⟨_, rfl, _, rfl, d, c, M, _, rfl, dk1, gM, oM.1, oM.2, by rw [List.length_map]; exact hb e, by rw [List.length_map]; omega, fun vm K6 kk6 ee6 hv => ?_⟩
      replace kp1 := kp1.trans kk6
      replace ho1 := kk6 _ _ oo.1 oo.2 ho1
      replace gM := kk6 _ _ oM.1 oM.2 gM
      replace gO := kk6 _ _ oO.1 oO.2 gO
      replace gl := Tk.kp kk6 dk1 _ _ gl
      replace gS := kk6 _ _ oS.1 oS.2 gS
      replace gE := kk6 _ _ oE.1 oE.2 gE
      replace rE := rE.tk (Tk.kp kk6 dk1)
      replace dk1 := ee6
      obtain ⟨xm, hxm, rfl⟩ := List.mem_map.mp hv
      refine ⟨(by show 2 ≤ sizeLine; decide), fun po npo => ?_⟩
      refine objG npo fun K7 ss7 gpo => ?_
      replace kp1 := kp1.trans (.of ss7)
      replace dk1 := dk1.same ss7
      replace ho1 := ss7 _ _ ho1
      replace gM := ss7 _ _ gM
      replace gO := ss7 _ _ gO
      replace gl := ss7 _ _ gl
      replace gS := ss7 _ _ gS
      replace gE := ss7 _ _ gE
      replace rE := rE.tk (Tk.of ss7)
      refine ⟨E, tE, uE, .opn xm, .ref po, rfl, gE, rE, ⟨po, rfl, gpo⟩, fun u F9 s9 ru => ?_⟩
      have ba : Bd 6 60 xs (Kd.ledTo tE (.opn xm)) := Bd.led ⟨Nat.zero_le _, (by show 1 ≤ 3; decide), fun y hy => by rw [List.mem_singleton.mp hy]; exact ym xm hxm⟩ bE lE4
      obtain ⟨f1, f2, f3, f4, f5, f6, f7, f8, f9, f10, f11, f12⟩ := fin u _ F9 (kp1.trans (.of s9)) (dk1.same s9) ru ba
      refine ⟨S, _, _, rfl, rfl, f1, f2, _, _, _, _, _, _, _, _, _, ts ++ [_], us ++ [u], rfl, f3, f4, f5, f6, f7, f8, f9, f10, f11, f12⟩
    · skip
      refine ⟨_, rfl, _, _, rfl, rfl, _, rfl, ite2 (fun _ => ?_) (fun _ => ?_)⟩
      · skip
        refine ⟨_, rfl, _, rfl, by omega, by omega, fun E nE => ?_⟩
        have oE := dk1.off nE
        refine lc_range (lo := 0) (n := ((mm : Nat) : Int).toNat) (fun i F => Kp d c G F ∧ Dk F d c ∧ ∃ tE uE, F E = some (.lst uE) ∧ RpL0 F tE uE ∧ tE.length = i ∧ ∀ a ∈ tE, Bd 1 3 xs a) ⟨kp1.mk (kp1.free dk1 nE), dk1.put oE.1 oE.2, [], [], upd_same, trivial, rfl, fun _ z => nomatch z⟩ (fun i F hi z => ?_) (fun F z => ?_)
        · obtain ⟨kq, dq, tE, uE, gE, rE, lE, bE⟩ := z
          have lu := rE.len
          refine ⟨rfl, _, rfl, _, rfl, _, rfl, d, c, 2, rfl, dq, by decide, by decide, fun g F2 g0 g1 k2 d2 => ?_⟩
          have eL : [V.ref d, V.ref O, V.int g, V.bl true] = [V.ref d, V.ref O, V.int ((g.toNat : Nat) : Int), V.bl true] := by
            rw [Int.toNat_of_nonneg g0]
          refine ⟨d, c, O, zs, g.toNat, true, eL, by omega, d2, k2 _ _ oO.1 oO.2 (kq _ _ oO.1 oO.2 (gO0)), oO.1, oO.2, by omega, zm2, fun v a F3 k3 d3 ra da => ?_⟩
          have ba : Bd 1 3 xs a := (fun h1 h2 => (⟨Nat.le_trans da.dp h1, Nat.le_trans da.sz h2, fun x hx => zm x (da.op x hx)⟩ : Bd 1 3 xs a)) (by omega) (by
            have : g.toNat = 0 ∨ g.toNat = 1 := by omega
            rcases this with e | e <;> rw [e] <;> decide)
          have g3 := k3 _ _ oE.1 oE.2 (k2 _ _ oE.1 oE.2 gE)
          have tk3 : Tk F3 (upd F3 E (.lst (uE ++ [v]))) := Tk.rfl.put (fun _ z => by rw [g3] at z; cases z)
          refine ⟨_, g3, small1000 (by omega), ((kq.trans k2).trans k3).mk (kp1.free dk1 nE), d3.put oE.1 oE.2, tE ++ [a], uE ++ [v], upd_same, RpL0.app (us := [a]) (ws := [v]) (((rE.tk (Tk.kp k2 dq)).tk (Tk.kp k3 d2)).tk tk3) ⟨ra.tk tk3, trivial⟩, by rw [List.length_append, lE]; rfl, fun b hb => ?_⟩
          rcases List.mem_append.mp hb with h | h
          · exact bE b h
          · rw [List.mem_singleton.mp h]; exact ba
        obtain ⟨kq, dq, tE, uE, gE, rE, lE, bE⟩ := z
        have lE4 : tE.length ≤ 4 := by omega
        replace ho1 := kq _ _ oo.1 oo.2 ho10
        replace gM := kq _ _ oM.1 oM.2 gM0
        replace gO := kq _ _ oO.1 oO.2 gO0
        replace gS := kq _ _ oS.1 oS.2 gS0
        replace gl := Tk.kp kq dk0 _ _ gl0
        replace kp1 := kq
        replace dk1 := dq
        refine ⟨(by show 1 ≤ sizeLine; decide), fun t1 nt1 => ?_⟩
        refine objG nt1 fun K8 ss8 gt1 => ?_
        replace kp1 := kp1.trans (.of ss8)
        replace dk1 := dk1.same ss8
        replace ho1 := ss8 _ _ ho1
        replace gM := ss8 _ _ gM
        replace gO := ss8 _ _ gO
        replace gl := ss8 _ _ gl
        replace gS := ss8 _ _ gS
        replace gE := ss8 _ _ gE
        replace rE := rE.tk (Tk.of ss8)
        refine ⟨(by show 1 ≤ sizeLine; decide), fun t2 nt2 => ?_⟩
        refine objG nt2 fun K9 ss9 gt2 => ?_
        replace kp1 := kp1.trans (.of ss9)
        replace dk1 := dk1.same ss9
        replace ho1 := ss9 _ _ ho1
        replace gM := ss9 _ _ gM
        replace gO := ss9 _ _ gO
        replace gl := ss9 _ _ gl
        replace gS := ss9 _ _ gS
        replace gE := ss9 _ _ gE
        replace rE := rE.tk (Tk.of ss9)
        replace gt1 := ss9 _ _ gt1
        refine ⟨(by show 3 ≤ sizeLine; decide), fun p1 np1 => ?_⟩
        refine objG np1 fun K10 ss10 gp1 => ?_
        replace kp1 := kp1.trans (.of ss10)
        replace dk1 := dk1.same ss10
        replace ho1 := ss10 _ _ ho1
        replace gM := ss10 _ _ gM
        replace gO := ss10 _ _ gO
        replace gl := ss10 _ _ gl
        replace gS := ss10 _ _ gS
        replace gE := ss10 _ _ gE
        replace rE := rE.tk (Tk.of ss10)
        replace gt1 := ss10 _ _ gt1
        replace gt2 := ss10 _ _ gt2
        refine ⟨(by show 1 ≤ sizeLine; decide), fun t3 nt3 => ?_⟩
        refine objG nt3 fun K11 ss11 gt3 => ?_
        replace kp1 := kp1.trans (.of ss11)
        replace dk1 := dk1.same ss11
        replace ho1 := ss11 _ _ ho1
        replace gM := ss11 _ _ gM
        replace gO := ss11 _ _ gO
        replace gl := ss11 _ _ gl
        replace gS := ss11 _ _ gS
        replace gE := ss11 _ _ gE
        replace rE := rE.tk (Tk.of ss11)
        replace gt1 := ss11 _ _ gt1
        replace gt2 := ss11 _ _ gt2
        replace gp1 := ss11 _ _ gp1
        refine ⟨(by show 1 ≤ sizeLine; decide), fun t4 nt4 => ?_⟩
        refine objG nt4 fun K12 ss12 gt4 => ?_
        replace kp1 := kp1.trans (.of ss12)
        replace dk1 := dk1.same ss12
        replace ho1 := ss12 _ _ ho1
        replace gM := ss12 _ _ gM
        replace gO := ss12 _ _ gO
        replace gl := ss12 _ _ gl
        replace gS := ss12 _ _ gS
        replace gE := ss12 _ _ gE
        replace rE := rE.tk (Tk.of ss12)
        replace gt1 := ss12 _ _ gt1
        replace gt2 := ss12 _ _ gt2
        replace gp1 := ss12 _ _ gp1
        replace gt3 := ss12 _ _ gt3
        refine ⟨(by show 3 ≤ sizeLine; decide), fun p2 np2 => ?_⟩
        refine objG np2 fun K13 ss13 gp2 => ?_
        replace kp1 := kp1.trans (.of ss13)
        replace dk1 := dk1.same ss13
        replace ho1 := ss13 _ _ ho1
        replace gM := ss13 _ _ gM
        replace gO := ss13 _ _ gO
        replace gl := ss13 _ _ gl
        replace gS := ss13 _ _ gS
        replace gE := ss13 _ _ gE
        replace rE := rE.tk (Tk.of ss13)
        replace gt1 := ss13 _ _ gt1
        replace gt2 := ss13 _ _ gt2
        replace gp1 := ss13 _ _ gp1
        replace gt3 := ss13 _ _ gt3
        replace gt4 := ss13 _ _ gt4
        refine ⟨(by show 2 ≤ sizeLine; decide), fun tw ntw => ?_⟩
        have otw := dk1.off ntw
        refine objG ntw fun K14 ss14 gtw => ?_
        replace kp1 := kp1.trans (.of ss14)
        replace dk1 := dk1.same ss14
        replace ho1 := ss14 _ _ ho1
        replace gM := ss14 _ _ gM
        replace gO := ss14 _ _ gO
        replace gl := ss14 _ _ gl
        replace gS := ss14 _ _ gS
        replace gE := ss14 _ _ gE
        replace rE := rE.tk (Tk.of ss14)
        replace gt1 := ss14 _ _ gt1
        replace gt2 := ss14 _ _ gt2
        replace gp1 := ss14 _ _ gp1
        replace gt3 := ss14 _ _ gt3
        replace gt4 := ss14 _ _ gt4
        replace gp2 := ss14 _ _ gp2
        refine ⟨_, rfl, .inl ⟨rfl, _, .inl (.inl gS)⟩, _, rfl, _, rfl, ?_⟩
        refine ⟨(by show 1 ≤ sizeLine; decide), fun t5 nt5 => ?_⟩
        refine objG nt5 fun K15 ss15 gt5 => ?_
        replace kp1 := kp1.trans (.of ss15)
        replace dk1 := dk1.same ss15
        replace ho1 := ss15 _ _ ho1
        replace gM := ss15 _ _ gM
        replace gO := ss15 _ _ gO
        replace gl := ss15 _ _ gl
        replace gS := ss15 _ _ gS
        replace gE := ss15 _ _ gE
        replace rE := rE.tk (Tk.of ss15)
        replace gt1 := ss15 _ _ gt1
        replace gt2 := ss15 _ _ gt2
        replace gp1 := ss15 _ _ gp1
        replace gt3 := ss15 _ _ gt3
        replace gt4 := ss15 _ _ gt4
        replace gp2 := ss15 _ _ gp2
        replace gtw := ss15 _ _ gtw
        refine ⟨(by show 1 ≤ sizeLine; decide), fun t6 nt6 => ?_⟩
        refine objG nt6 fun K16 ss16 gt6 => ?_
        replace kp1 := kp1.trans (.of ss16)
        replace dk1 := dk1.same ss16
        replace ho1 := ss16 _ _ ho1
        replace gM := ss16 _ _ gM
        replace gO := ss16 _ _ gO
        replace gl := ss16 _ _ gl
        replace gS := ss16 _ _ gS
        replace gE := ss16 _ _ gE
        replace rE := rE.tk (Tk.of ss16)
        replace gt1 := ss16 _ _ gt1
        replace gt2 := ss16 _ _ gt2
        replace gp1 := ss16 _ _ gp1
        replace gt3 := ss16 _ _ gt3
        replace gt4 := ss16 _ _ gt4
        replace gp2 := ss16 _ _ gp2
        replace gtw := ss16 _ _ gtw
        replace gt5 := ss16 _ _ gt5
        refine ⟨(by show 1 ≤ sizeLine; decide), fun t7 nt7 => ?_⟩
        refine objG nt7 fun K17 ss17 gt7 => ?_
        replace kp1 := kp1.trans (.of ss17)
        replace dk1 := dk1.same ss17
        replace ho1 := ss17 _ _ ho1
        replace gM := ss17 _ _ gM
        replace gO := ss17 _ _ gO
        replace gl := ss17 _ _ gl
        replace gS := ss17 _ _ gS
        replace gE := ss17 _ _ gE
        replace rE := rE.tk (Tk.of ss17)
        replace gt1 := ss17 _ _ gt1
        replace gt2 := ss17 _ _ gt2
        replace gp1 := ss17 _ _ gp1
        replace gt3 := ss17 _ _ gt3
        replace gt4 := ss17 _ _ gt4
        replace gp2 := ss17 _ _ gp2
        replace gtw := ss17 _ _ gtw
        replace gt5 := ss17 _ _ gt5
        replace gt6 := ss17 _ _ gt6
        refine ⟨(by show 3 ≤ sizeLine; decide), fun th nth => ?_⟩
        have oth := dk1.off nth
        refine objG nth fun K18 ss18 gth => ?_
        replace kp1 := kp1.trans (.of ss18)
        replace dk1 := dk1.same ss18
        replace ho1 := ss18 _ _ ho1
        replace gM := ss18 _ _ gM
        replace gO := ss18 _ _ gO
        replace gl := ss18 _ _ gl
        replace gS := ss18 _ _ gS
        replace gE := ss18 _ _ gE
        replace rE := rE.tk (Tk.of ss18)
        replace gt1 := ss18 _ _ gt1
        replace gt2 := ss18 _ _ gt2
        replace gp1 := ss18 _ _ gp1
        replace gt3 := ss18 _ _ gt3
        replace gt4 := ss18 _ _ gt4
        replace gp2 := ss18 _ _ gp2
        replace gtw := ss18 _ _ gtw
        replace gt5 := ss18 _ _ gt5
        replace gt6 := ss18 _ _ gt6
        replace gt7 := ss18 _ _ gt7
        refine ⟨_, rfl, th, tw, _, _, rfl, rfl, gth, gtw, (by show 5 ≤ sizeLine; decide), fun fv nfv => ?_⟩
        have ofv := dk1.off nfv
        refine objG nfv fun K19 ss19 gfv => ?_
        replace kp1 := kp1.trans (.of ss19)
        replace dk1 := dk1.same ss19
        replace ho1 := ss19 _ _ ho1
        replace gM := ss19 _ _ gM
        replace gO := ss19 _ _ gO
        replace gl := ss19 _ _ gl
        replace gS := ss19 _ _ gS
        replace gE := ss19 _ _ gE
        replace rE := rE.tk (Tk.of ss19)
        replace gt1 := ss19 _ _ gt1
        replace gt2 := ss19 _ _ gt2
        replace gp1 := ss19 _ _ gp1
        replace gt3 := ss19 _ _ gt3
        replace gt4 := ss19 _ _ gt4
        replace gp2 := ss19 _ _ gp2
        replace gtw := ss19 _ _ gtw
        replace gt5 := ss19 _ _ gt5
        replace gt6 := ss19 _ _ gt6
        replace gt7 := ss19 _ _ gt7
        replace gth := ss19 _ _ gth
        refine ⟨d, c, fv, _, rfl, dk1, gfv, ofv.1, ofv.2, by show 1 ≤ 5; decide, by show 5 ≤ 100; decide, fun vm K20 kk20 ee20 hv => ?_⟩
        replace kp1 := kp1.trans kk20
        replace ho1 := kk20 _ _ oo.1 oo.2 ho1
        replace gM := kk20 _ _ oM.1 oM.2 gM
        replace gO := kk20 _ _ oO.1 oO.2 gO
        replace gl := Tk.kp kk20 dk1 _ _ gl
        replace gS := kk20 _ _ oS.1 oS.2 gS
        replace gE := kk20 _ _ oE.1 oE.2 gE
        replace rE := rE.tk (Tk.kp kk20 dk1)
        replace gt1 := Tk.kp kk20 dk1 _ _ gt1
        replace gt2 := Tk.kp kk20 dk1 _ _ gt2
        replace gp1 := Tk.kp kk20 dk1 _ _ gp1
        replace gt3 := Tk.kp kk20 dk1 _ _ gt3
        replace gt4 := Tk.kp kk20 dk1 _ _ gt4
        replace gp2 := Tk.kp kk20 dk1 _ _ gp2
        replace gtw := kk20 _ _ otw.1 otw.2 gtw
        replace gt5 := Tk.kp kk20 dk1 _ _ gt5
        replace gt6 := Tk.kp kk20 dk1 _ _ gt6
        replace gt7 := Tk.kp kk20 dk1 _ _ gt7
        replace gth := kk20 _ _ oth.1 oth.2 gth
        replace gfv := kk20 _ _ ofv.1 ofv.2 gfv
        replace dk1 := ee20
        obtain ⟨a, ra, ba⟩ : ∃ a, Rp0 K20 a vm ∧ Bd 1 3 xs a := by
          rcases List.mem_cons.mp hv with h | hv
          · rw [h]; exact ⟨.tru, ⟨_, rfl, gt5⟩, by decide, by decide, fun x z => nomatch z⟩
          rcases List.mem_cons.mp hv with h | hv
          · rw [h]; exact ⟨.tru, ⟨_, rfl, gt6⟩, by decide, by decide, fun x z => nomatch z⟩
          rcases List.mem_cons.mp hv with h | hv
          · rw [h]; exact ⟨.num, ⟨_, rfl, gt7⟩, by decide, by decide, fun x z => nomatch z⟩
          rcases List.mem_cons.mp hv with h | hv
          · rw [h]; exact ⟨.pair .tru .tru, ⟨_, _, _, rfl, gp1, ⟨_, rfl, gt1⟩, ⟨_, rfl, gt2⟩⟩, by decide, by decide, fun x z => nomatch z⟩
          · rw [List.mem_singleton.mp hv]; exact ⟨.eith .tru .num, ⟨_, _, _, rfl, gp2, ⟨_, rfl, gt3⟩, ⟨_, rfl, gt4⟩⟩, by decide, by decide, fun x z => nomatch z⟩
        refine ⟨E, tE, uE, a, vm, rfl, gE, rE, ra, fun u F9 s9 ru => ?_⟩
        have ba := Bd.led ba bE lE4
        obtain ⟨f1, f2, f3, f4, f5, f6, f7, f8, f9, f10, f11, f12⟩ := fin u _ F9 (kp1.trans (.of s9)) (dk1.same s9) ru ba
        refine ⟨S, _, _, rfl, rfl, f1, f2, _, _, _, _, _, _, _, _, _, ts ++ [_], us ++ [u], rfl, f3, f4, f5, f6, f7, f8, f9, f10, f11, f12⟩
      · skip
        refine ⟨_, rfl, .inl ⟨rfl, _, .inl (.inl gS)⟩, _, rfl, _, rfl, _, rfl, d, c, 2, rfl, dk1, by decide, by decide, fun g F2 g0 g1 k2 d2 => ?_⟩
        have eL : [V.ref d, V.ref o, V.int g, V.bl false] = [V.ref d, V.ref o, V.int ((g.toNat : Nat) : Int), V.bl false] := by
          rw [Int.toNat_of_nonneg g0]
        refine ⟨d, c, o, xs, g.toNat, false, eL, by omega, d2, k2 _ _ od oc ho1, od, oc, lx, hx, fun u a F9 k3 d3 ru da => ?_⟩
        have ba : Bd 6 60 xs a := da.bd (by omega) (by
          have : g.toNat = 0 ∨ g.toNat = 1 := by omega
          rcases this with e | e <;> rw [e] <;> decide)
        obtain ⟨f1, f2, f3, f4, f5, f6, f7, f8, f9, f10, f11, f12⟩ := fin u _ F9 ((kp1.trans k2).trans k3) d3 ru ba
        refine ⟨S, _, _, rfl, rfl, f1, f2, _, _, _, _, _, _, _, _, _, ts ++ [_], us ++ [u], rfl, f3, f4, f5, f6, f7, f8, f9, f10, f11, f12⟩
  obtain ⟨y2, y3, y4, y9, y10, y11, y12, y13, y14, ts, us, rfl, kpG, dkG, ho2, gM2, gO2, gl2, gS2, rt, lt, bt⟩ := z
  refine ⟨_, rfl, _, rfl, _, rfl, d, c, o, xs, 1, false, rfl, by decide, dkG, ho2, od, oc, lx, hx, fun v a G4 kp4 dk4 ra da => ?_⟩
  refine ⟨S, ts, us, a, v, rfl, kp4 S _ oS.1 oS.2 gS2, rt.tk (Tk.kp kp4 dkG), ra, fun n hn => ?_, fun u G5 n s5 hn ru => ?_⟩
  · have h1 := led_dp a 6 (by have := da.dp; omega) (ts.take n) fun b hb => (bt b (List.mem_of_mem_take hb)).dp
    have h2 : (ts.take n).length ≤ n := by rw [List.length_take]; omega
    omega
  · refine ⟨_, rfl, (by show 2 ≤ sizeLine; decide), fun p np => objG np fun G6 s6 gp => ?_⟩
    exact q p l u _ ws G6 ((kpG.trans kp4).trans (.of (s5.trans s6))) (dk4.same (s5.trans s6)) gp (s6 _ _ (s5 _ _ (Tk.kp kp4 dkG _ _ gl2))) (ru.tk (Tk.of s6)) ⟨ts.take n, a, rfl, by rw [List.length_take]; omega, fun b hb => bt b (List.mem_of_mem_take hb), da⟩
end
end Kq

/-! law -/
namespace Kq
open PySem PySem.Spec PyProof.Rows L2 Kf Kg Kv Kk
theorem TbS.kp {T : List Addr} {H G : Hp} {d c : Addr} (t : TbS T H) (k : Kp d c H G) (x : Dk H d c) : TbS T G := fun p hp => by
  obtain ⟨ps, h1, h2⟩ := t p hp
  obtain ⟨n, ⟨a, b, e⟩, ⟨ns, f, l⟩⟩ := x
  refine ⟨ps, k p _ (fun z => ?_) (fun z => ?_) h1, h2⟩
  · rw [z, e] at h1
    cases h1
  · rw [z, f] at h1
    cases h1
theorem Dk.sm {T : List Addr} {H G : Hp} {d c : Addr} (x : Dk H d c) (t : TbS T H) (s : Sm T H G) : Dk G d c := by
  obtain ⟨n, ⟨a, b, e⟩, ⟨ns, f, l⟩⟩ := x
  exact ⟨n, ⟨a, b, s.at t e fun _ z => by cases z⟩, ⟨ns, s.at t f (fun _ z => by cases z), l⟩⟩
/-- what is drawn goes -/
theorem Drn.ok {xs : List Str} {t : Kd} (h : Drn xs t) (lx : xs.length ≤ 4) (hx : ∀ x ∈ xs, Nm x) (nd : xs.Nodup) : Ok44 t ∧ ∀ a ∈ t.args, Few a := by
  obtain ⟨ts, r, rfl, l4, ba, dr⟩ := h
  have nf : r.isFn = false := by
    have := dr.da
    cases r <;> first | rfl | cases this
  obtain ⟨e1, e2⟩ := led_args r nf ts
  have h1 := led_size r 60 ts fun a ha => (ba a ha).sz
  have h2 := dr.sz
  have h2 : r.size ≤ 3 := h2
  have h3 : ts.length * (60 + 1) ≤ 4 * 61 := Nat.mul_le_mul l4 (Nat.le_refl _)
  have h4 := led_dp r 6 (by have := dr.dp; omega) ts fun a ha => (ba a ha).dp
  have h5 := led_op r xs dr.op ts fun a ha => (ba a ha).op
  refine ⟨⟨by omega, by omega, by rw [e1]; exact l4, fun x hx' => hx x (h5 x hx')⟩, fun a ha => ?_⟩
  rw [e1] at ha
  exact ⟨by have := (ba a ha).sz; omega, xs, nd, by omega, (ba a ha).op⟩
def onD : Option Nat → Dt
  | some i => .int (i : Nat)
  | none => .non
theorem onDd {N : Addr → Prop} {H : Hp} : ∀ o : Option Nat, Dd N H (onD o) (onV o)
  | some _ => .int _
  | none => .non
theorem onShw : ∀ o : Option Nat, (∀ i, o = some i → i ≤ 4) → Shw 2 (onD o)
  | some i, h => int_shw (h i rfl)
  | none, _ => ⟨by decide +kernel, by decide +kernel, by decide +kernel⟩
section
variable {P : Program} {w : World} {K : PySem.W.Frag} {mg : Str → Option Value} {base : Heap} {T : List Addr}
def OkdG (P : Program) (w : World) (K : PySem.W.Frag) (mg : Str → Option Value) (base : Heap) (CX : CXT) (k : Nat) (nm : Str) (ps : List Str) (sp : Sp) : Prop :=
  ∃ (f : Addr) (fd : FuncData), FnG P w K mg base CX k f fd ps sp ∧ Binds K fd ps [] ∧ mg nm = some (.ref f) ∧ PySem.W.keepIn K (.ref f) = true
abbrev tLaw : Stmt := tp 67
abbrev nLaw : List Str := ["_law_script", "_law_deck_here", "_law_turn", "_law_way", "_law_bound", "_law_opens_here", "_law_kind_here", "_law_looked_here", "_law_due"]
abbrev psLaw : List Str := ["_law_script"]
theorem scLaw : FnScope nLaw psLaw (defScope tLaw) := ⟨rfl, rfl, rfl, by decide +kernel, rfl, by decide +kernel, by decide +kernel⟩
def spLaw (K : PySem.W.Frag) (T : List Addr) : Sp := fun vs H Q _ => ∃ (a : Addr) (ns : List Int), vs = [.ref a] ∧ SqL K H a (ns.map V.int) ∧ ns.length ≤ 63 ∧ TbS T H ∧ ∀ G : Hp, TbS T G → Q (.bl true) G
theorem okLaw {f : Addr} {fd : FuncData} {k : Nat} (F : Fun K "law" "law" tLaw f fd)
    (DR : OkdG P w K mg base CX0 (k) "_law_refused" psRefd (spRefd K T))
    (DU : Okd P w K mg base CX0 (k) "unbounded_at" ["kind", "looked"] (spUnb K T))
    (DO : Okd P w K mg base CX0 (k) "_law_first_odd" ["_law_kind_here", "_law_looked_here"] spOdd)
    (DD : Okd P w K mg base CX0 (k) "_law_draw" ["_law_deck_here", "_law_most"] spDraw)
    (DL : Okd P w K mg base CX0 (k) "_law_looked" ["_law_deck_here", "_law_opens_here"] spLook)
    (DE : Okd P w K mg base CX0 (k) "_law_ended_kind" ["_law_deck_here", "_law_opens_here"] spEnded)
    (DT : Okd P w K mg base CX0 (k) "_law_kind" ["_law_deck_here", "_law_opens_here"] spKind)
    (DN : Okd P w K mg base CX0 (k) "_law_names" ["_law_deck_here", "_law_many"] spNames)
    (DK : Okd P w K mg base CX0 (k) "_law_deck" ["_law_script"] (spDeck K))
    (m_len : mg "len" = none)
    (m_max : mg "max" = none)
    (m_min : mg "min" = none)
    (m_range : mg "range" = none)
    (m_repr : mg "repr" = none) : FnG P w K mg base CX0 (k + 1) f fd psLaw (spLaw K T) := by
  obtain ⟨fR, fdR, GR, bR, gR, kR⟩ := DR
  obtain ⟨fU, fdU, GU, bU, gU, kU⟩ := DU
  obtain ⟨fO, fdO, GO, bO, gO, kO⟩ := DO
  obtain ⟨fD, fdD, GD, bD, gD, kD⟩ := DD
  obtain ⟨fL, fdL, GL, bL, gL, kL⟩ := DL
  obtain ⟨fE, fdE, GE, bE, gE, kE⟩ := DE
  obtain ⟨fT, fdT, GT, bT, gT, kT⟩ := DT
  obtain ⟨fN, fdN, GN, bN, gN, kN⟩ := DN
  obtain ⟨fK, fdK, GK, bK, gK, kK⟩ := DK
  refine okG F scLaw (fun vs H Q E h => ?_) (fun cdv A outer s H vs Q E still hr h => ?_)
  · obtain ⟨a, ns, rfl, _⟩ := h
    rfl
  obtain ⟨a, ns, rfl, hS, hl, tb, q⟩ := h
  have hu : (cxOf CX0 P w K mg base nLaw "law" (defScope tLaw) f cdv A outer s H E).nox.A.units + (2 + 1) < cLine := by
    have := hr.un
    show (A.deeper _).units + (2 + 1) < cLine
    omega
  refine ⟨_, pss_cons (ps_set (i := 1) scLaw.nd rfl (.inl rfl) (pe_call GK hr (by rfl) gK kK bK .nil pass0 (pa_cons (pv 0) pa_nil)))
    (pss_cons (ps_for PassesOwn.never rfl (pi_range1 (by rfl) m_range (pa_cons (pe_callB (call_max2 rfl) (by rfl) m_max PyProof.Rows.boot_max (pa_cons pe_int (pa_cons (pe_callB (call_min2 rfl) (by rfl) m_min PyProof.Rows.boot_min (pa_cons (pe_callB call_len_seq (by rfl) m_len PySem.boot_len (pa_cons (pv 0) pa_nil)) (pa_cons pe_int pa_nil))) pa_nil))) pa_nil)) (pg_name (i := 2) scLaw.nd rfl (.inl rfl))
      (pss_cons (ps_set (i := 3) scLaw.nd rfl (.inl rfl) (pe_call GD hr (by rfl) gD kD bD .nil pass0 (pa_cons (pv 1) (pa_cons pe_int pa_nil))))
    (pss_cons (ps_set (i := 4) scLaw.nd rfl (.inl rfl) (pe_call GD hr (by rfl) gD kD bD .nil pass0 (pa_cons (pv 1) (pa_cons pe_int pa_nil))))
    (pss_cons (ps_set (i := 5) scLaw.nd rfl (.inl rfl) (pe_call GN hr (by rfl) gN kN bN .nil pass0 (pa_cons (pv 1) (pa_cons (pe_op op_add pe_int (pe_call GD hr (by rfl) gD kD bD .nil pass0 (pa_cons (pv 1) (pa_cons pe_int pa_nil)))) pa_nil))))
    (C8.pss_cut (ps_if (pt_cmpR op_eq (pv 3) pe_int (nomark _)) (pss_cons (ps_asg (pe_call GE hr (by rfl) gE kE bE .nil pass0 (pa_cons (pv 1) (pa_cons (pv 5) pa_nil))) (pg_tup rfl (pgs_cons (pg_name (i := 6) scLaw.nd rfl (.inl rfl)) (pgs_cons (pg_name (i := 7) scLaw.nd rfl (.inl rfl)) pgs_nil))))
    (pss_one (ps_if (pt_cmpR op_eq (pe_call GD hr (by rfl) gD kD bD .nil pass0 (pa_cons (pv 1) (pa_cons pe_int pa_nil))) pe_int (nomark _)) (pss_one (ps_set (i := 7) scLaw.nd rfl (.inl rfl) (pe_call GL hr (by rfl) gL kL bL .nil pass0 (pa_cons (pv 1) (pa_cons (pv 5) pa_nil))))) pss_nil))) (pss_cons (ps_set (i := 6) scLaw.nd rfl (.inl rfl) (pe_call GT hr (by rfl) gT kT bT .nil pass0 (pa_cons (pv 1) (pa_cons (pv 5) pa_nil))))
    (pss_one (ps_set (i := 7) scLaw.nd rfl (.inl rfl) (pe_call GL hr (by rfl) gL kL bL .nil pass0 (pa_cons (pv 1) (pa_cons (pv 5) pa_nil)))))))
    (pss_cons (ps_set (i := 8) scLaw.nd rfl (.inl rfl) (pe_call GO hr (by rfl) gO kO bO .nil pass0 (pa_cons (pv 6) (pa_cons (pv 7) pa_nil))))
    (pss_cons (ps_if (pt_cmpR op_ne (pe_callB (call_showU (n := 2) still hu) (by rfl) m_repr PyProof.Rows.boot_repr (pa_cons (pe_call GU hr (by rfl) gU kU bU .nil pass0 (pa_cons (pv 6) (pa_cons (pv 7) pa_nil))) pa_nil)) (pe_callB (call_showU (n := 2) still hu) (by rfl) m_repr PyProof.Rows.boot_repr (pa_cons (pv 8) pa_nil)) (nomark _)) (pss_one (ps_ret pe_bl)) pss_nil)
    (pss_one (ps_if (PW.pt (pw_and (pt_cmpR op_notN (pv 8) pe_non (nomark _)) (pw_and1 (pt_not (pt_val (pe_callG GR still hr (by rfl) gR kR bR .nil pass0 (pa_cons (pv 6) (pa_cons (pv 7) (pa_cons (pv 4) (pa_cons (pv 8) pa_nil)))))))))) (pss_one (ps_ret pe_bl)) pss_nil)))))))))
    (pss_one (ps_ret pe_bl))), ?_⟩
  refine ⟨_, rfl, a, ns, rfl, hS, hl, fun d c H1 s1 nd nc dk1 => ?_⟩
  have tb1 := tb.same s1
  have hS1 : SqL K H1 a (ns.map V.int) := hS.ext s1
  refine ⟨_, rfl, a, _, rfl, .inl hS1, _, _, rfl, _, _, rfl, _, rfl, (by (repeat' split) <;> omega), (by (repeat' split) <;> omega), ?_⟩
  refine for_range (lo := 0) (fun i σ F => ∃ y2 y3 y4 y5 y6 y7 y8, σ = [some (.ref a), some (.ref d), y2, y3, y4, y5, y6, y7, y8] ∧ Dk F d c ∧ TbS T F) ⟨_, _, _, _, _, _, _, rfl, dk1, tb1⟩ (fun i σ F hi z => ?_) (fun σ F z => ?_)
  · obtain ⟨y2, y3, y4, y5, y6, y7, y8, rfl, dk, tb⟩ := z
    refine ⟨_, rfl, d, c, 2, rfl, dk, by decide, by decide, fun way G2 w0 w1 k2 d2 => ?_⟩
    replace tb := TbS.kp tb k2 dk
    refine ⟨_, rfl, d, c, 4, rfl, d2, by decide, by decide, fun bd G3 b0 b1 k3 d3 => ?_⟩
    replace tb := TbS.kp tb k3 d2
    refine ⟨_, rfl, _, rfl, d, c, 4, rfl, d3, by decide, by decide, fun mm G4 m0 m1 k4 d4 => ?_⟩
    replace tb := TbS.kp tb k4 d3
    refine ⟨_, _, rfl, rfl, d, c, 1 + mm, rfl, d4, by omega, by omega, fun o xs G5 k5 d5 no go lx hx nd5 hL => ?_⟩
    replace tb := TbS.kp tb k5 d4
    have oo : o ≠ d ∧ o ≠ c := d4.off no
    have l4 : xs.length ≤ 4 := by omega
    refine ⟨fun σ G => ∃ (v : V) (t : Kd) (l : Addr) (lk : List Str), ∃ z2 z3 z5 z8, σ = [some (.ref a), some (.ref d), z2, z3, some (.int bd), z5, some v, some (.ref l), z8] ∧ Dk G d c ∧ TbS T G ∧ Rp0 G t v ∧ G l = some (.tup (lk.map V.str)) ∧ Drn xs t, ?_, fun σ G z => ?_⟩
    · refine ⟨_, rfl, rfl, _, rfl, ite2 (fun _ => ?_) (fun _ => ?_)⟩
      · refine ⟨_, rfl, _, rfl, d, c, o, xs, rfl, d5, go, oo.1, oo.2, by omega, hx, fun p l v t lk G6 k6 d6 gp gl rt dr => ?_⟩
        replace tb := TbS.kp tb k6 d5
        refine ⟨p, _, rfl, SqT.of gp, rfl, _, _, rfl, _, _, rfl, rfl, ?_⟩
        refine ⟨_, rfl, d, c, 4, rfl, d6, by decide, by decide, fun r G7 r0 r1 k7 d7 => ?_⟩
        replace tb := TbS.kp tb k7 d6
        refine ⟨rfl, _, rfl, ite2 (fun _ => ?_) (fun _ => ⟨v, t, l, lk, _, _, _, _, rfl, d7, tb, rt.tk (Tk.kp k7 d6), Tk.kp k7 d6 _ _ gl, dr⟩)⟩
        refine ⟨_, rfl, _, rfl, d, c, o, xs, rfl, d7, k7 _ _ oo.1 oo.2 (k6 _ _ oo.1 oo.2 go), oo.1, oo.2, by omega, fun l2 lk2 G8 k8 d8 gl2 => ?_⟩
        exact ⟨v, t, l2, lk2, _, _, _, _, rfl, d8, TbS.kp tb k8 d7, (rt.tk (Tk.kp k7 d6)).tk (Tk.kp k8 d7), gl2, dr⟩
      · refine ⟨_, rfl, _, rfl, d, c, o, xs, rfl, d5, go, oo.1, oo.2, by omega, hx, fun v t G6 k6 d6 rt dr => ?_⟩
        replace tb := TbS.kp tb k6 d5
        refine ⟨_, rfl, _, rfl, d, c, o, xs, rfl, d6, k6 _ _ oo.1 oo.2 go, oo.1, oo.2, by omega, fun l2 lk2 G8 k8 d8 gl2 => ?_⟩
        exact ⟨v, t, l2, lk2, _, _, _, _, rfl, d8, TbS.kp tb k8 d6, rt.tk (Tk.kp k8 d6), gl2, dr⟩
    obtain ⟨v, t, l, lk, z2, z3, z5, z8, rfl, dk6, tb6, rt, gl, dr⟩ := z
    obtain ⟨ok, few⟩ := dr.ok l4 hx nd5
    have lub : ∀ i, t.ubd lk = some i → i ≤ 4 := fun i h => by
      have := fi_lt h
      have := ok.four
      omega
    refine ⟨_, rfl, _, rfl, v, l, t, lk, rfl, rt, ok, gl, fun G7 s7 => ?_⟩
    refine ⟨_, rfl, _, rfl, v, l, t, lk, rfl, rp0_rp (rt.tk (Tk.of s7)), ok.sz, few, s7 _ _ gl, tb6.same s7, fun G8 s8 => ?_⟩
    have tk8 : Tk G G8 := fun b ys e => s8.at (tb6.same s7) (s7 _ _ e) (fun _ z => by cases z)
    have d8 := (dk6.same s7).sm (tb6.same s7) s8
    refine ⟨_, onD (t.ubd lk), rfl, onDd _, onShw _ lub, _, rfl, _, onD (t.ubd lk), rfl, onDd _, onShw _ lub, rfl, _, rfl, ite2 (fun c => ?_) (fun _ => ?_)⟩
    · simp at c
    · skip
      refine ⟨_, rfl, rfl, _, rfl, ?_⟩
      cases hub : t.ubd lk with
      | none =>
        exact iteF (iteF ⟨_, _, _, _, _, _, _, rfl, d8, s8.2⟩)
      | some i =>
        refine iteT ?_
        refine ⟨_, rfl, _, rfl, _, rfl, _, rfl, v, _, l, t, lk, i, rfl, rp0_rp (rt.tk tk8), ok.sz, few, ok.four, tk8 _ _ gl, s8.2, hub, fun G9 s9 => ?_⟩
        exact ⟨_, rfl, iteF ⟨_, _, _, _, _, _, _, rfl, d8.sm s8.2 s9, s9.2⟩⟩
  · obtain ⟨y2, y3, y4, y5, y6, y7, y8, rfl, dk, tb⟩ := z
    exact q F tb
end
end Kq

/-! the end where some of the defs hold generator expressions -/
namespace Kg
open PySem PySem.Spec PyProof.Rows L2 LamX
/-- the def's code object, its table: empty -/
def TabOf (mg : Str → Option Value) (h : Heap) (x : Str) : Prop := ∃ (a : Addr) (o : Obj) (fd : FuncData) (c p : Addr), mg x = some (.ref a) ∧ h.get? a = some o ∧ o.data = .func fd ∧ fd.code = .ref c ∧ h.IsCode c p #[] ∧ h.TableAt c p #[]
theorem walk_ofNs {l : PySem.W.OpenLaw} {n k : Nat} {q : Program} {loose : List Str} {XP : (Str → Option Value) → Heap → Prop} {YP : World → Heap → Prop} {d : DefRec} {K : Params → PySem.W.Frag} {CX : World → CXT} {x : Str} (names : List Str)
    (hn : l.most = some n) (hn2 : n ≤ sizeLine) (hdf : d.params.defaults = []) (hr : Room k callerA) (hrec : (names.all fun y => (recsOf q).any fun e => e.name == y) = true) (hY : ∀ (w : World) (h : Heap), YP w h → (K w.params).In h)
    (F : ∀ (w : World) (mg : Str → Option Value) (fa : Addr) (h : Heap), YP w h → (K w.params).In h → h.Ns mainGlobals mg → mg d.name = some (.ref fa) → (∀ y ∈ names, TabOf mg h y) → LawAtS l w (K w.params) (CX w) k n x mg fa h)
    (hCX : ∀ (w : World) (H : Hp) (s : Shared) (e : Value) (s' : Shared), CX w [] H s (fun _ _ _ => False) e s' → False) :
    PySem.W.WalkO q loose XP YP l.row.toRowW d [] (fun f vs => PySem.call f vs) := by
  refine Att.attach_callB hn hdf fun w s₀ s₁ mg mb fa o pm cd doc a vs ns G Y ho hd hcd hmg hobj hints hlen hbits hg => ?_
  have KX := hY w _ Y
  have own : ∀ y ∈ names, TabOf mg s₁.heap y := fun y hy => by
    obtain ⟨dL, hm, hn1⟩ := List.any_eq_true.mp (List.all_eq_true.mp hrec y hy)
    have hn2 : dL.name = y := beq_iff_eq.mp hn1
    obtain ⟨a', o', fd', c', P', h1, h2, h3, h4, h5, h6⟩ := G.T.tab dL hm
    exact ⟨a', o', fd', c', P', by rw [← hn2]; exact h1, h2, h3, h4, h5, h6⟩
  obtain ⟨fd, cs, sp, hT, nT, C, hb, hsp, hF⟩ := F w mg fa _ Y KX G.T.g hmg own
  exact law_callTs KX G.T.g G.T.b G.T.builtins G.T.nolimit hg hT nT C G.T.bmain hobj hints (Nat.le_trans hlen hn2) hr hF hb (fun H hH hS => hsp H a ns hlen hbits hH hS) fun H e s' => hCX w H s₁ e s'
/-- such a def by what is written of it -/
theorem tabOf_at {K : PySem.W.Frag} {mg : Str → Option Value} {h : Heap} {x name qual : Str} {f c p : Addr} {params : Arguments} {body : List Stmt} {scope : Scope} {oc dV kV doc pm ct e : Value} {od an dd : Option Addr} {sl sl' : Array (Option Value)} {vs : Array Value} (X : K.In h) (T : TabOf mg h x) (g : mg x = some (.ref f))
    (l : K.lookup f = some ⟨oc, od, .func (PySem.W.fnOf name qual params body scope dV kV doc pm an (.ref c) ct), sl⟩) (t : K.lookup c = some ⟨e, dd, .fields vs, sl'⟩) (v : vs[11]? = some (.ref p)) :
    h.get? p = some { cls := .none, data := .fields #[] } ∧ PySem.W.CodeHd h c p := by
  obtain ⟨a', o', fd', c', P', h1, h2, h3, h4, h5, h6⟩ := T
  rw [g] at h1
  cases h1
  rw [X _ _ l] at h2
  cases h2
  cases h3
  cases h4
  obtain ⟨⟨oc', vc, e1, e2, e3, e4⟩, hP⟩ := id h6
  rw [X _ _ t] at e1
  cases e1
  cases e3
  rw [v] at e4
  cases e4
  exact ⟨hP, .of h5 h6⟩
end Kg

/-! classes held against one another, by what is written of them -/
namespace Kq
open PySem PySem.Spec PyProof.Rows L2 Kf Kg Kv GxR Kk
section
variable {K : PySem.W.Frag} {t : Value} {n C : Addr} {b : Bool}
theorem kit_self : PySem.W.kitOne K (.ref n) (.ref n) = some true := by
  unfold PySem.W.kitOne
  rw [if_pos (by simp)]
theorem kit_cl (iC : PySem.W.isClsIn K C = true) (tC : PySem.W.typeIn K (.ref C) = some (.type "type")) (s : PySem.W.subIn K t (.ref C) = some b) : PySem.W.kitCls K t (.ref C) = some b := by
  unfold PySem.W.isClsIn at iC
  show (if ((PySem.W.clsIn K C).isSome && PySem.W.typeIn K (.ref C) == some (.type "type")) = true then PySem.W.subIn K t (.ref C) else none) = _
  rw [if_pos (by rw [iC, tC]; simp)]
  exact s
theorem kit_no (ne : (Value.ref n == Value.ref C) = false) (iC : PySem.W.isClsIn K C = true) (tC : PySem.W.typeIn K (.ref C) = some (.type "type")) (s : PySem.W.subIn K (.ref n) (.ref C) = some false) : PySem.W.kitOne K (.ref n) (.ref C) = some false := by
  unfold PySem.W.kitOne
  rw [if_neg (by rw [ne]; exact Bool.false_ne_true)]
  exact kit_cl iC tC s
theorem kit_tyV (s : PySem.W.subIn K (.ref n) (.type "ValueError") = some true) : PySem.W.kitOne K (.ref n) (.type "ValueError") = some true := by
  unfold PySem.W.kitOne
  rw [if_neg (show ¬ (Value.ref n == Value.type "ValueError") = true from Bool.false_ne_true)]
  show (if PySem.W.kitMeta "ValueError" = true then PySem.W.subIn K (.ref n) (.type "ValueError") else none) = _
  rw [if_pos (by decide +kernel)]
  exact s
theorem any_no {c : Value} {r : List Value} (h : PySem.W.kitOne K t c = some false) (k : PySem.W.kitAny K t r = some false) : PySem.W.kitAny K t (c :: r) = some false := by
  unfold PySem.W.kitAny
  rw [h]
  exact k
theorem exm_yes {c : Value} (sB : PySem.W.subIn K (.ref C) (.type "BaseException") = some true) (iC : PySem.W.isClsIn K C = true) (tC : PySem.W.typeIn K (.ref C) = some (.type "type")) (s : PySem.W.subIn K c (.ref C) = some true) : PySem.W.exmOne K c (.ref C) = some true := by
  unfold PySem.W.exmOne
  rw [if_pos (by rw [sB]; simp)]
  exact kit_cl iC tC s
end
end Kq

namespace Kq
open PySem PySem.Spec PyProof.Rows L2 Kf Kg Kv GxR Kk NdefX
theorem tt_of {x : Str} {q : Program} {mg : Str → Option Value} {h : Heap} (hrec : ((recsOf q).any fun e => e.name == x) = true)
    (tabs : ∀ e ∈ recsOf q, ∃ (a : Addr) (o : Obj) (fd : FuncData) (c p : Addr), mg e.name = some (.ref a) ∧ h.get? a = some o ∧ o.data = .func fd ∧ fd.code = .ref c ∧ h.IsCode c p #[] ∧ h.TableAt c p #[]) : Kg.TabOf mg h x := by
  obtain ⟨dL, hm, hn1⟩ := List.any_eq_true.mp hrec
  obtain ⟨a', o', fd', c', P', h1, h2, h3, h4, h5, h6⟩ := tabs dL hm
  exact ⟨a', o', fd', c', P', by rw [← (beq_iff_eq.mp hn1)]; exact h1, h2, h3, h4, h5, h6⟩
theorem tabX {base : Heap} {mg : Str → Option Value} {c p : Addr} (t : LamX.TabB base mg c p) : GxR.TabB base mg c p := ⟨t.code, t.bm, t.gP⟩
theorem upOk {P : Program} {w : World} {K : PySem.W.Frag} {mg : Str → Option Value} {base : Heap} {CX : CXT} {j k : Nat} {f : Addr} {fd : FuncData} {ps : List Str} {sp : Sp} (F : FnOk P w K mg base CX j f fd ps sp) (h : j ≤ k) : FnOk P w K mg base CX k f fd ps sp := F.mono h

theorem all_mk {l : PySem.W.OpenLaw} {w : World} {K : PySem.W.Frag} {h : Heap} {mg : Str → Option Value} {fa cU cK fIU cIU ccU NU x_NoBack x_NoKind x_NoLead x_NoName x_NoRow x_NoText x_Ring x_Taken x_TooMany x_TooMuch f1 f2 f3 f4 f5 f6 f7 f8 f9 f10 f11 f12 f13 f14 f15 f16 f17 f18 f19 f20 f21 f22 f23 f24 f25 f26 f27 f28 f29 c8 p8 : Addr} (X : K.In h) (G : h.Ns mainGlobals mg) (hfa : mg "law" = some (.ref fa))
    (TT8 : Kg.TabOf mg h "is_askers")
    {od1 an1 od2 an2 od3 an3 od4 an4 od5 an5 od6 an6 od7 an7 od8 an8 od9 an9 od10 an10 od11 an11 od12 an12 od13 an13 od14 an14 od15 an15 od16 an16 od17 an17 od18 an18 od19 an19 od20 an20 od21 an21 od22 an22 od23 an23 od24 an24 od25 an25 od26 an26 od27 an27 od28 an28 od29 an29 dd8 : Option Addr} {sl1 sl2 sl3 sl4 sl5 sl6 sl7 sl8 sl9 sl10 sl11 sl12 sl13 sl14 sl15 sl16 sl17 sl18 sl19 sl20 sl21 sl22 sl23 sl24 sl25 sl26 sl27 sl28 sl29 sm8 : Array (Option Value)} {oc1 kV1 dc1 pm1 ct1 oc2 kV2 dc2 pm2 ct2 oc3 kV3 dc3 pm3 ct3 oc4 kV4 dc4 pm4 ct4 oc5 kV5 dc5 pm5 ct5 oc6 kV6 dc6 pm6 ct6 oc7 kV7 dc7 pm7 ct7 oc8 kV8 dc8 pm8 ct8 oc9 kV9 dc9 pm9 ct9 oc10 kV10 dc10 pm10 ct10 oc11 kV11 dc11 pm11 ct11 oc12 kV12 dc12 pm12 ct12 oc13 kV13 dc13 pm13 ct13 oc14 kV14 dc14 pm14 ct14 oc15 kV15 dc15 pm15 ct15 oc16 kV16 dc16 pm16 ct16 oc17 kV17 dc17 pm17 ct17 oc18 kV18 dc18 pm18 ct18 oc19 kV19 dc19 pm19 ct19 oc20 kV20 dc20 pm20 ct20 oc21 kV21 dc21 pm21 ct21 oc22 kV22 dc22 pm22 ct22 oc23 kV23 dc23 pm23 ct23 oc24 kV24 dc24 pm24 ct24 oc25 kV25 dc25 pm25 ct25 oc26 kV26 dc26 pm26 ct26 oc27 kV27 dc27 pm27 ct27 oc28 kV28 dc28 pm28 ct28 oc29 kV29 dc29 pm29 ct29 cd1 cd2 cd3 cd4 cd5 cd6 cd7 cd9 cd10 cd11 cd12 cd13 cd14 cd15 cd16 cd17 cd18 cd19 cd20 cd21 cd22 cd23 cd24 cd25 cd26 cd27 cd28 cd29 e8 : Value} {vs8 : Array Value}
    {oIU cDU cEU ddU : Option Addr} {sIU sCU sEU : Array (Option Value)} {uIU dcIU pmIU ctIU uCU uEU : Value} {nmCU qCU fileU : Str} {bsU bmU subU : List Value} {snU : List Str} {abU : Bool} {colU : Option Bool} {kaU kbU kcU kdU keU : Option Value} {vsU : Array Value} {tfU : Tok}
    (a1 : PySem.W.nsIn K mainGlobals "leads" = some (some (.ref f1)))
    (l1 : K.lookup f1 = some ⟨oc1, od1, .func (PySem.W.fnOf "leads" "leads" (defArgs tLeads) (defBody tLeads) (defScope tLeads) .none kV1 dc1 pm1 an1 cd1 ct1), sl1⟩)
    (q1 : PySem.W.codeIn K cd1 "leads" = true)
    (k1 : PySem.W.keepIn K (.ref f1) = true)
    (a2 : PySem.W.nsIn K mainGlobals "kinds_within" = some (some (.ref f2)))
    (l2 : K.lookup f2 = some ⟨oc2, od2, .func (PySem.W.fnOf "kinds_within" "kinds_within" (defArgs tWithinT) (defBody tWithinT) (defScope tWithinT) .none kV2 dc2 pm2 an2 cd2 ct2), sl2⟩)
    (q2 : PySem.W.codeIn K cd2 "kinds_within" = true)
    (k2 : PySem.W.keepIn K (.ref f2) = true)
    (a3 : PySem.W.nsIn K mainGlobals "parts_of" = some (some (.ref f3)))
    (l3 : K.lookup f3 = some ⟨oc3, od3, .func (PySem.W.fnOf "parts_of" "parts_of" (defArgs tParts) (defBody tParts) (defScope tParts) .none kV3 dc3 pm3 an3 cd3 ct3), sl3⟩)
    (q3 : PySem.W.codeIn K cd3 "parts_of" = true)
    (k3 : PySem.W.keepIn K (.ref f3) = true)
    (a4 : PySem.W.nsIn K mainGlobals "arguments_of" = some (some (.ref f4)))
    (l4 : K.lookup f4 = some ⟨oc4, od4, .func (PySem.W.fnOf "arguments_of" "arguments_of" (defArgs tArgs) (defBody tArgs) (defScope tArgs) .none kV4 dc4 pm4 an4 cd4 ct4), sl4⟩)
    (q4 : PySem.W.codeIn K cd4 "arguments_of" = true)
    (k4 : PySem.W.keepIn K (.ref f4) = true)
    (a5 : PySem.W.nsIn K mainGlobals "result_of" = some (some (.ref f5)))
    (l5 : K.lookup f5 = some ⟨oc5, od5, .func (PySem.W.fnOf "result_of" "result_of" (defArgs tRes) (defBody tRes) (defScope tRes) .none kV5 dc5 pm5 an5 cd5 ct5), sl5⟩)
    (q5 : PySem.W.codeIn K cd5 "result_of" = true)
    (k5 : PySem.W.keepIn K (.ref f5) = true)
    (a6 : PySem.W.nsIn K mainGlobals "opens_in" = some (some (.ref f6)))
    (l6 : K.lookup f6 = some ⟨oc6, od6, .func (PySem.W.fnOf "opens_in" "opens_in" (defArgs tOpens) (defBody tOpens) (defScope tOpens) .none kV6 dc6 pm6 an6 cd6 ct6), sl6⟩)
    (q6 : PySem.W.codeIn K cd6 "opens_in" = true)
    (k6 : PySem.W.keepIn K (.ref f6) = true)
    (a7 : PySem.W.nsIn K mainGlobals "is_makers" = some (some (.ref f7)))
    (l7 : K.lookup f7 = some ⟨oc7, od7, .func (PySem.W.fnOf "is_makers" "is_makers" (defArgs tMakers) (defBody tMakers) (defScope tMakers) .none kV7 dc7 pm7 an7 cd7 ct7), sl7⟩)
    (q7 : PySem.W.codeIn K cd7 "is_makers" = true)
    (k7 : PySem.W.keepIn K (.ref f7) = true)
    (a8 : PySem.W.nsIn K mainGlobals "is_askers" = some (some (.ref f8)))
    (l8 : K.lookup f8 = some ⟨oc8, od8, .func (PySem.W.fnOf "is_askers" "is_askers" (defArgs tAskers) (defBody tAskers) (defScope tAskers) .none kV8 dc8 pm8 an8 (.ref c8) ct8), sl8⟩)
    (q8 : PySem.W.codeIn K (.ref c8) "is_askers" = true)
    (k8 : PySem.W.keepIn K (.ref f8) = true)
    (a9 : PySem.W.nsIn K mainGlobals "has_end" = some (some (.ref f9)))
    (l9 : K.lookup f9 = some ⟨oc9, od9, .func (PySem.W.fnOf "has_end" "has_end" (defArgs tEnd) (defBody tEnd) (defScope tEnd) .none kV9 dc9 pm9 an9 cd9 ct9), sl9⟩)
    (q9 : PySem.W.codeIn K cd9 "has_end" = true)
    (k9 : PySem.W.keepIn K (.ref f9) = true)
    (a10 : PySem.W.nsIn K mainGlobals "unbounded_at" = some (some (.ref f10)))
    (l10 : K.lookup f10 = some ⟨oc10, od10, .func (PySem.W.fnOf "unbounded_at" "unbounded_at" (defArgs tUnb) (defBody tUnb) (defScope tUnb) .none kV10 dc10 pm10 an10 cd10 ct10), sl10⟩)
    (q10 : PySem.W.codeIn K cd10 "unbounded_at" = true)
    (k10 : PySem.W.keepIn K (.ref f10) = true)
    (a11 : PySem.W.nsIn K mainGlobals "tries_of" = some (some (.ref f11)))
    (l11 : K.lookup f11 = some ⟨oc11, od11, .func (PySem.W.fnOf "tries_of" "tries_of" (defArgs tTries) (defBody tTries) (defScope tTries) .none kV11 dc11 pm11 an11 cd11 ct11), sl11⟩)
    (q11 : PySem.W.codeIn K cd11 "tries_of" = true)
    (k11 : PySem.W.keepIn K (.ref f11) = true)
    (a12 : PySem.W.nsIn K mainGlobals "_law_deck" = some (some (.ref f12)))
    (l12 : K.lookup f12 = some ⟨oc12, od12, .func (PySem.W.fnOf "_law_deck" "_law_deck" (defArgs tDeck) (defBody tDeck) (defScope tDeck) .none kV12 dc12 pm12 an12 cd12 ct12), sl12⟩)
    (q12 : PySem.W.codeIn K cd12 "_law_deck" = true)
    (k12 : PySem.W.keepIn K (.ref f12) = true)
    (a13 : PySem.W.nsIn K mainGlobals "_law_draw" = some (some (.ref f13)))
    (l13 : K.lookup f13 = some ⟨oc13, od13, .func (PySem.W.fnOf "_law_draw" "_law_draw" (defArgs tDraw) (defBody tDraw) (defScope tDraw) .none kV13 dc13 pm13 an13 cd13 ct13), sl13⟩)
    (q13 : PySem.W.codeIn K cd13 "_law_draw" = true)
    (k13 : PySem.W.keepIn K (.ref f13) = true)
    (a14 : PySem.W.nsIn K mainGlobals "_law_pick" = some (some (.ref f14)))
    (l14 : K.lookup f14 = some ⟨oc14, od14, .func (PySem.W.fnOf "_law_pick" "_law_pick" (defArgs tPick) (defBody tPick) (defScope tPick) .none kV14 dc14 pm14 an14 cd14 ct14), sl14⟩)
    (q14 : PySem.W.codeIn K cd14 "_law_pick" = true)
    (k14 : PySem.W.keepIn K (.ref f14) = true)
    (a15 : PySem.W.nsIn K mainGlobals "_law_names" = some (some (.ref f15)))
    (l15 : K.lookup f15 = some ⟨oc15, od15, .func (PySem.W.fnOf "_law_names" "_law_names" (defArgs tNames) (defBody tNames) (defScope tNames) .none kV15 dc15 pm15 an15 cd15 ct15), sl15⟩)
    (q15 : PySem.W.codeIn K cd15 "_law_names" = true)
    (k15 : PySem.W.keepIn K (.ref f15) = true)
    (a16 : PySem.W.nsIn K mainGlobals "_law_data" = some (some (.ref f16)))
    (l16 : K.lookup f16 = some ⟨oc16, od16, .func (PySem.W.fnOf "_law_data" "_law_data" (defArgs tLData) (defBody tLData) (defScope tLData) .none kV16 dc16 pm16 an16 cd16 ct16), sl16⟩)
    (q16 : PySem.W.codeIn K cd16 "_law_data" = true)
    (k16 : PySem.W.keepIn K (.ref f16) = true)
    (a17 : PySem.W.nsIn K mainGlobals "_law_handed" = some (some (.ref f17)))
    (l17 : K.lookup f17 = some ⟨oc17, od17, .func (PySem.W.fnOf "_law_handed" "_law_handed" (defArgs tHanded) (defBody tHanded) (defScope tHanded) .none kV17 dc17 pm17 an17 cd17 ct17), sl17⟩)
    (q17 : PySem.W.codeIn K cd17 "_law_handed" = true)
    (k17 : PySem.W.keepIn K (.ref f17) = true)
    (a18 : PySem.W.nsIn K mainGlobals "_law_arguments" = some (some (.ref f18)))
    (l18 : K.lookup f18 = some ⟨oc18, od18, .func (PySem.W.fnOf "_law_arguments" "_law_arguments" (defArgs tLArgs) (defBody tLArgs) (defScope tLArgs) .none kV18 dc18 pm18 an18 cd18 ct18), sl18⟩)
    (q18 : PySem.W.codeIn K cd18 "_law_arguments" = true)
    (k18 : PySem.W.keepIn K (.ref f18) = true)
    (a19 : PySem.W.nsIn K mainGlobals "_law_led_to" = some (some (.ref f19)))
    (l19 : K.lookup f19 = some ⟨oc19, od19, .func (PySem.W.fnOf "_law_led_to" "_law_led_to" (defArgs tLLed) (defBody tLLed) (defScope tLLed) .none kV19 dc19 pm19 an19 cd19 ct19), sl19⟩)
    (q19 : PySem.W.codeIn K cd19 "_law_led_to" = true)
    (k19 : PySem.W.keepIn K (.ref f19) = true)
    (a20 : PySem.W.nsIn K mainGlobals "_law_size" = some (some (.ref f20)))
    (l20 : K.lookup f20 = some ⟨oc20, od20, .func (PySem.W.fnOf "_law_size" "_law_size" (defArgs tSize) (defBody tSize) (defScope tSize) .none kV20 dc20 pm20 an20 cd20 ct20), sl20⟩)
    (q20 : PySem.W.codeIn K cd20 "_law_size" = true)
    (k20 : PySem.W.keepIn K (.ref f20) = true)
    (a21 : PySem.W.nsIn K mainGlobals "_law_led_few" = some (some (.ref f21)))
    (l21 : K.lookup f21 = some ⟨oc21, od21, .func (PySem.W.fnOf "_law_led_few" "_law_led_few" (defArgs tFew) (defBody tFew) (defScope tFew) .none kV21 dc21 pm21 an21 cd21 ct21), sl21⟩)
    (q21 : PySem.W.codeIn K cd21 "_law_led_few" = true)
    (k21 : PySem.W.keepIn K (.ref f21) = true)
    (a22 : PySem.W.nsIn K mainGlobals "_law_looked" = some (some (.ref f22)))
    (l22 : K.lookup f22 = some ⟨oc22, od22, .func (PySem.W.fnOf "_law_looked" "_law_looked" (defArgs tLook) (defBody tLook) (defScope tLook) .none kV22 dc22 pm22 an22 cd22 ct22), sl22⟩)
    (q22 : PySem.W.codeIn K cd22 "_law_looked" = true)
    (k22 : PySem.W.keepIn K (.ref f22) = true)
    (a23 : PySem.W.nsIn K mainGlobals "_law_ended_kind" = some (some (.ref f23)))
    (l23 : K.lookup f23 = some ⟨oc23, od23, .func (PySem.W.fnOf "_law_ended_kind" "_law_ended_kind" (defArgs tEnded) (defBody tEnded) (defScope tEnded) .none kV23 dc23 pm23 an23 cd23 ct23), sl23⟩)
    (q23 : PySem.W.codeIn K cd23 "_law_ended_kind" = true)
    (k23 : PySem.W.keepIn K (.ref f23) = true)
    (a24 : PySem.W.nsIn K mainGlobals "_law_kind" = some (some (.ref f24)))
    (l24 : K.lookup f24 = some ⟨oc24, od24, .func (PySem.W.fnOf "_law_kind" "_law_kind" (defArgs tKind) (defBody tKind) (defScope tKind) .none kV24 dc24 pm24 an24 cd24 ct24), sl24⟩)
    (q24 : PySem.W.codeIn K cd24 "_law_kind" = true)
    (k24 : PySem.W.keepIn K (.ref f24) = true)
    (a25 : PySem.W.nsIn K mainGlobals "_law_opens" = some (some (.ref f25)))
    (l25 : K.lookup f25 = some ⟨oc25, od25, .func (PySem.W.fnOf "_law_opens" "_law_opens" (defArgs tLOpens) (defBody tLOpens) (defScope tLOpens) .none kV25 dc25 pm25 an25 cd25 ct25), sl25⟩)
    (q25 : PySem.W.codeIn K cd25 "_law_opens" = true)
    (k25 : PySem.W.keepIn K (.ref f25) = true)
    (a26 : PySem.W.nsIn K mainGlobals "_law_has_list" = some (some (.ref f26)))
    (l26 : K.lookup f26 = some ⟨oc26, od26, .func (PySem.W.fnOf "_law_has_list" "_law_has_list" (defArgs tLHas) (defBody tLHas) (defScope tLHas) .none kV26 dc26 pm26 an26 cd26 ct26), sl26⟩)
    (q26 : PySem.W.codeIn K cd26 "_law_has_list" = true)
    (k26 : PySem.W.keepIn K (.ref f26) = true)
    (a27 : PySem.W.nsIn K mainGlobals "_law_first_odd" = some (some (.ref f27)))
    (l27 : K.lookup f27 = some ⟨oc27, od27, .func (PySem.W.fnOf "_law_first_odd" "_law_first_odd" (defArgs tOdd) (defBody tOdd) (defScope tOdd) .none kV27 dc27 pm27 an27 cd27 ct27), sl27⟩)
    (q27 : PySem.W.codeIn K cd27 "_law_first_odd" = true)
    (k27 : PySem.W.keepIn K (.ref f27) = true)
    (a28 : PySem.W.nsIn K mainGlobals "_law_refused" = some (some (.ref f28)))
    (l28 : K.lookup f28 = some ⟨oc28, od28, .func (PySem.W.fnOf "_law_refused" "_law_refused" (defArgs tRefd) (defBody tRefd) (defScope tRefd) .none kV28 dc28 pm28 an28 cd28 ct28), sl28⟩)
    (q28 : PySem.W.codeIn K cd28 "_law_refused" = true)
    (k28 : PySem.W.keepIn K (.ref f28) = true)
    (a29 : PySem.W.nsIn K mainGlobals "law" = some (some (.ref f29)))
    (l29 : K.lookup f29 = some ⟨oc29, od29, .func (PySem.W.fnOf "law" "law" (defArgs tLaw) (defBody tLaw) (defScope tLaw) .none kV29 dc29 pm29 an29 cd29 ct29), sl29⟩)
    (q29 : PySem.W.codeIn K cd29 "law" = true)
    (k29 : PySem.W.keepIn K (.ref f29) = true)
    (t8 : K.lookup c8 = some ⟨e8, dd8, .fields vs8, sm8⟩)
    (v8 : vs8[11]? = some (.ref p8))
    (n8 : K.lookup p8 = none)
    (z1 : PySem.W.nsIn K mainGlobals "len" = some none)
    (z2 : PySem.W.nsIn K mainGlobals "list" = some none)
    (z3 : PySem.W.nsIn K mainGlobals "range" = some none)
    (z4 : PySem.W.nsIn K mainGlobals "reversed" = some none)
    (z5 : PySem.W.nsIn K mainGlobals "sum" = some none)
    (z6 : PySem.W.nsIn K mainGlobals "int" = some none)
    (z7 : PySem.W.nsIn K mainGlobals "repr" = some none)
    (z8 : PySem.W.nsIn K mainGlobals "isinstance" = some none)
    (z9 : PySem.W.nsIn K mainGlobals "tuple" = some none)
    (z10 : PySem.W.nsIn K mainGlobals "max" = some none)
    (z11 : PySem.W.nsIn K mainGlobals "min" = some none)
    (z12 : PySem.W.nsIn K mainGlobals "zip" = some none)
    (z13 : PySem.W.nsIn K mainGlobals "any" = some none)
    (z14 : PySem.W.nsIn K mainGlobals "sorted" = some none)
    (z15 : PySem.W.nsIn K mainGlobals "enumerate" = some none)
    (z16 : PySem.W.nsIn K mainGlobals "ValueError" = some none)
    (z17 : PySem.W.nsIn K mainGlobals "super" = some none)
    (aK : PySem.W.nsIn K mainGlobals "KindError" = some (some (.ref cK)))
    (bK : PySem.W.subIn K (.ref cK) (.type "BaseException") = some true)
    (iK : PySem.W.isClsIn K cK = true)
    (tK : PySem.W.typeIn K (.ref cK) = some (.type "type"))
    (sX : PySem.W.specialIn K (.builtin "object.__class__") "__get__" = some (some (.builtin "getset_descriptor.__get__")))
    (uX : PySem.W.takesIn K (.builtin "object.__class__") = some true)
    (xaU : PySem.W.nsIn K mainGlobals "Unbounded" = some (some (.ref cU)))
    (xgU : PySem.W.findIn K (.ref cU) "__getattribute__" = some (some (.builtin "BaseException.__getattribute__")))
    (xhU : PySem.W.findIn K (.ref cU) "__getattr__" = some none)
    (xbU : PySem.W.subIn K (.ref cU) (.type "BaseException") = some true)
    (xdU : PySem.W.hasDictIn K cU = true)
    (xcU : PySem.W.findIn K (.ref cU) "__class__" = some (some (.builtin "object.__class__")))
    (xmU : PySem.W.mroIn K cU (.type "object") = some true)
    (xtU : PySem.W.typeIn K (.ref cU) = some (.type "type"))
    (xkU : PySem.W.keepIn K (.ref cU) = true)
    (xvU : PySem.W.subIn K (.ref cU) (.type "ValueError") = some true)
    (xsU : PySem.W.subIn K (.ref cU) (.ref cK) = some true)
    (lCU : K.lookup cU = some (excClassObj nmCU qCU cU NU bsU bmU true snU subU abU colU ddU kaU kbU kcU kdU keU "ValueError.__new__"))
    (rCU : PySem.HandSPX.refsVE bmU = true)
    (saU : PySem.W.findIn K (.ref cU) "__setattr__" = some (some (.builtin "object.__setattr__")))
    (naU : PySem.W.findIn K (.ref cU) "argument" = some none)
    (iIU : PySem.W.findIn K (.ref cU) "__init__" = some (some (.ref fIU)))
    (tIU : PySem.W.typeIn K (.ref fIU) = some (.type "function"))
    (lIU : K.lookup fIU = some (⟨uIU, oIU, .func (PySem.W.fnX "__init__" "Unbounded.__init__" (defArgs (ini 12)) (defBody (ini 12)) (defScope (ini 12)) [(("__class__" : Str), ccU)] .none .none dcIU pmIU none (.ref cIU) ctIU), sIU⟩ : Obj))
    (qIU : PySem.W.codeIn K (.ref cIU) "Unbounded.__init__" = true)
    (lcU : K.lookup ccU = some (⟨uCU, cDU, .cell (some (.ref cU)), sCU⟩ : Obj))
    (leU : K.lookup cIU = some (⟨uEU, cEU, .fields vsU, sEU⟩ : Obj))
    (lvU : vsU[2]? = some (.str fileU tfU))
    (lfU : ((l.prog.main.file : Str) == fileU) = true)
    (msU : PySem.W.mroIn K cU (.ref cU) = some true)
    (kiU : PySem.W.ks_superIn K cU cU "__init__" = some (some (.builtin "ValueError.__init__")))
    (tp : (l.prog.main.scope.names.lookup ("super" : Str)).isSome = false)
    (oq : PySem.W.nsIn K cStatics "thirdparty.any" = some none)
    (ya_NoBack : PySem.W.nsIn K mainGlobals "NoBack" = some (some (.ref x_NoBack)))
    (yi_NoBack : PySem.W.isClsIn K x_NoBack = true)
    (yt_NoBack : PySem.W.typeIn K (.ref x_NoBack) = some (.type "type"))
    (yw_NoBack : (Value.ref cU == Value.ref x_NoBack) = false)
    (ys_NoBack : PySem.W.subIn K (.ref cU) (.ref x_NoBack) = some false)
    (ya_NoKind : PySem.W.nsIn K mainGlobals "NoKind" = some (some (.ref x_NoKind)))
    (yi_NoKind : PySem.W.isClsIn K x_NoKind = true)
    (yt_NoKind : PySem.W.typeIn K (.ref x_NoKind) = some (.type "type"))
    (yw_NoKind : (Value.ref cU == Value.ref x_NoKind) = false)
    (ys_NoKind : PySem.W.subIn K (.ref cU) (.ref x_NoKind) = some false)
    (ya_NoLead : PySem.W.nsIn K mainGlobals "NoLead" = some (some (.ref x_NoLead)))
    (yi_NoLead : PySem.W.isClsIn K x_NoLead = true)
    (yt_NoLead : PySem.W.typeIn K (.ref x_NoLead) = some (.type "type"))
    (yw_NoLead : (Value.ref cU == Value.ref x_NoLead) = false)
    (ys_NoLead : PySem.W.subIn K (.ref cU) (.ref x_NoLead) = some false)
    (ya_NoName : PySem.W.nsIn K mainGlobals "NoName" = some (some (.ref x_NoName)))
    (yi_NoName : PySem.W.isClsIn K x_NoName = true)
    (yt_NoName : PySem.W.typeIn K (.ref x_NoName) = some (.type "type"))
    (yw_NoName : (Value.ref cU == Value.ref x_NoName) = false)
    (ys_NoName : PySem.W.subIn K (.ref cU) (.ref x_NoName) = some false)
    (ya_NoRow : PySem.W.nsIn K mainGlobals "NoRow" = some (some (.ref x_NoRow)))
    (yi_NoRow : PySem.W.isClsIn K x_NoRow = true)
    (yt_NoRow : PySem.W.typeIn K (.ref x_NoRow) = some (.type "type"))
    (yw_NoRow : (Value.ref cU == Value.ref x_NoRow) = false)
    (ys_NoRow : PySem.W.subIn K (.ref cU) (.ref x_NoRow) = some false)
    (ya_NoText : PySem.W.nsIn K mainGlobals "NoText" = some (some (.ref x_NoText)))
    (yi_NoText : PySem.W.isClsIn K x_NoText = true)
    (yt_NoText : PySem.W.typeIn K (.ref x_NoText) = some (.type "type"))
    (yw_NoText : (Value.ref cU == Value.ref x_NoText) = false)
    (ys_NoText : PySem.W.subIn K (.ref cU) (.ref x_NoText) = some false)
    (ya_Ring : PySem.W.nsIn K mainGlobals "Ring" = some (some (.ref x_Ring)))
    (yi_Ring : PySem.W.isClsIn K x_Ring = true)
    (yt_Ring : PySem.W.typeIn K (.ref x_Ring) = some (.type "type"))
    (yw_Ring : (Value.ref cU == Value.ref x_Ring) = false)
    (ys_Ring : PySem.W.subIn K (.ref cU) (.ref x_Ring) = some false)
    (ya_Taken : PySem.W.nsIn K mainGlobals "Taken" = some (some (.ref x_Taken)))
    (yi_Taken : PySem.W.isClsIn K x_Taken = true)
    (yt_Taken : PySem.W.typeIn K (.ref x_Taken) = some (.type "type"))
    (yw_Taken : (Value.ref cU == Value.ref x_Taken) = false)
    (ys_Taken : PySem.W.subIn K (.ref cU) (.ref x_Taken) = some false)
    (ya_TooMany : PySem.W.nsIn K mainGlobals "TooMany" = some (some (.ref x_TooMany)))
    (yi_TooMany : PySem.W.isClsIn K x_TooMany = true)
    (yt_TooMany : PySem.W.typeIn K (.ref x_TooMany) = some (.type "type"))
    (yw_TooMany : (Value.ref cU == Value.ref x_TooMany) = false)
    (ys_TooMany : PySem.W.subIn K (.ref cU) (.ref x_TooMany) = some false)
    (ya_TooMuch : PySem.W.nsIn K mainGlobals "TooMuch" = some (some (.ref x_TooMuch)))
    (yi_TooMuch : PySem.W.isClsIn K x_TooMuch = true)
    (yt_TooMuch : PySem.W.typeIn K (.ref x_TooMuch) = some (.type "type"))
    (yw_TooMuch : (Value.ref cU == Value.ref x_TooMuch) = false)
    (ys_TooMuch : PySem.W.subIn K (.ref cU) (.ref x_TooMuch) = some false) :
    LawG l w K CX0 18 63 "_law_script" mg fa h := by
  have e := hfa.symm.trans (PySem.W.mg_of X G a29)
  cases e
  have F1 := fun_mk (st := tLeads) l1 q1 k1
  have b1 := F1.binds (ps := ["kind"]) fun _ _ _ _ _ _ us hl => match us, hl with | [_], _ => rfl
  have g_1 := PySem.W.mg_of X G a1
  have F2 := fun_mk (st := tWithinT) l2 q2 k2
  have b2 := F2.binds (ps := ["kind"]) fun _ _ _ _ _ _ us hl => match us, hl with | [_], _ => rfl
  have g_2 := PySem.W.mg_of X G a2
  have F3 := fun_mk (st := tParts) l3 q3 k3
  have b3 := F3.binds (ps := ["kind"]) fun _ _ _ _ _ _ us hl => match us, hl with | [_], _ => rfl
  have g_3 := PySem.W.mg_of X G a3
  have F4 := fun_mk (st := tArgs) l4 q4 k4
  have b4 := F4.binds (ps := ["kind"]) fun _ _ _ _ _ _ us hl => match us, hl with | [_], _ => rfl
  have g_4 := PySem.W.mg_of X G a4
  have F5 := fun_mk (st := tRes) l5 q5 k5
  have b5 := F5.binds (ps := ["kind"]) fun _ _ _ _ _ _ us hl => match us, hl with | [_], _ => rfl
  have g_5 := PySem.W.mg_of X G a5
  have F6 := fun_mk (st := tOpens) l6 q6 k6
  have b6 := F6.binds (ps := ["kind"]) fun _ _ _ _ _ _ us hl => match us, hl with | [_], _ => rfl
  have g_6 := PySem.W.mg_of X G a6
  have F7 := fun_mk (st := tMakers) l7 q7 k7
  have b7 := F7.binds (ps := ["argument"]) fun _ _ _ _ _ _ us hl => match us, hl with | [_], _ => rfl
  have g_7 := PySem.W.mg_of X G a7
  have F8 := fun_mk (st := tAskers) l8 q8 k8
  have b8 := F8.binds (ps := nAsk) fun _ _ _ _ _ _ us hl => match us, hl with | [_, _], _ => rfl
  have g_8 := PySem.W.mg_of X G a8
  have F9 := fun_mk (st := tEnd) l9 q9 k9
  have b9 := F9.binds (ps := nEnd) fun _ _ _ _ _ _ us hl => match us, hl with | [_, _, _], _ => rfl
  have g_9 := PySem.W.mg_of X G a9
  have F10 := fun_mk (st := tUnb) l10 q10 k10
  have b10 := F10.binds (ps := psUnb) fun _ _ _ _ _ _ us hl => match us, hl with | [_, _], _ => rfl
  have g_10 := PySem.W.mg_of X G a10
  have F11 := fun_mk (st := tTries) l11 q11 k11
  have b11 := F11.binds (ps := psTries) fun _ _ _ _ _ _ us hl => match us, hl with | [_, _, _], _ => rfl
  have g_11 := PySem.W.mg_of X G a11
  have F12 := fun_mk (st := tDeck) l12 q12 k12
  have b12 := F12.binds (ps := ["_law_script"]) fun _ _ _ _ _ _ us hl => match us, hl with | [_], _ => rfl
  have g_12 := PySem.W.mg_of X G a12
  have F13 := fun_mk (st := tDraw) l13 q13 k13
  have b13 := F13.binds (ps := ["_law_deck_here", "_law_most"]) fun _ _ _ _ _ _ us hl => match us, hl with | [_, _], _ => rfl
  have g_13 := PySem.W.mg_of X G a13
  have F14 := fun_mk (st := tPick) l14 q14 k14
  have b14 := F14.binds (ps := psPick) fun _ _ _ _ _ _ us hl => match us, hl with | [_, _], _ => rfl
  have g_14 := PySem.W.mg_of X G a14
  have F15 := fun_mk (st := tNames) l15 q15 k15
  have b15 := F15.binds (ps := ["_law_deck_here", "_law_many"]) fun _ _ _ _ _ _ us hl => match us, hl with | [_, _], _ => rfl
  have g_15 := PySem.W.mg_of X G a15
  have F16 := fun_mk (st := tLData) l16 q16 k16
  have b16 := F16.binds (ps := psLData) fun _ _ _ _ _ _ us hl => match us, hl with | [_, _, _, _], _ => rfl
  have g_16 := PySem.W.mg_of X G a16
  have F17 := fun_mk (st := tHanded) l17 q17 k17
  have b17 := F17.binds (ps := psTwo) fun _ _ _ _ _ _ us hl => match us, hl with | [_, _], _ => rfl
  have g_17 := PySem.W.mg_of X G a17
  have F18 := fun_mk (st := tLArgs) l18 q18 k18
  have b18 := F18.binds (ps := psK) fun _ _ _ _ _ _ us hl => match us, hl with | [_], _ => rfl
  have g_18 := PySem.W.mg_of X G a18
  have F19 := fun_mk (st := tLLed) l19 q19 k19
  have b19 := F19.binds (ps := ["_law_some", "_law_result"]) fun _ _ _ _ _ _ us hl => match us, hl with | [_, _], _ => rfl
  have g_19 := PySem.W.mg_of X G a19
  have F20 := fun_mk (st := tSize) l20 q20 k20
  have b20 := F20.binds (ps := psK) fun _ _ _ _ _ _ us hl => match us, hl with | [_], _ => rfl
  have g_20 := PySem.W.mg_of X G a20
  have F21 := fun_mk (st := tFew) l21 q21 k21
  have b21 := F21.binds (ps := psFew) fun _ _ _ _ _ _ us hl => match us, hl with | [_, _], _ => rfl
  have g_21 := PySem.W.mg_of X G a21
  have F22 := fun_mk (st := tLook) l22 q22 k22
  have b22 := F22.binds (ps := psTwo) fun _ _ _ _ _ _ us hl => match us, hl with | [_, _], _ => rfl
  have g_22 := PySem.W.mg_of X G a22
  have F23 := fun_mk (st := tEnded) l23 q23 k23
  have b23 := F23.binds (ps := psTwo) fun _ _ _ _ _ _ us hl => match us, hl with | [_, _], _ => rfl
  have g_23 := PySem.W.mg_of X G a23
  have F24 := fun_mk (st := tKind) l24 q24 k24
  have b24 := F24.binds (ps := psTwo) fun _ _ _ _ _ _ us hl => match us, hl with | [_, _], _ => rfl
  have g_24 := PySem.W.mg_of X G a24
  have F25 := fun_mk (st := tLOpens) l25 q25 k25
  have b25 := F25.binds (ps := psK) fun _ _ _ _ _ _ us hl => match us, hl with | [_], _ => rfl
  have g_25 := PySem.W.mg_of X G a25
  have F26 := fun_mk (st := tLHas) l26 q26 k26
  have b26 := F26.binds (ps := psK) fun _ _ _ _ _ _ us hl => match us, hl with | [_], _ => rfl
  have g_26 := PySem.W.mg_of X G a26
  have F27 := fun_mk (st := tOdd) l27 q27 k27
  have b27 := F27.binds (ps := psOdd) fun _ _ _ _ _ _ us hl => match us, hl with | [_, _], _ => rfl
  have g_27 := PySem.W.mg_of X G a27
  have F28 := fun_mk (st := tRefd) l28 q28 k28
  have b28 := F28.binds (ps := psRefd) fun _ _ _ _ _ _ us hl => match us, hl with | [_, _, _, _], _ => rfl
  have g_28 := PySem.W.mg_of X G a28
  have F29 := fun_mk (st := tLaw) l29 q29 k29
  have m_len := PySem.W.mg_none_of X G z1
  have m_list := PySem.W.mg_none_of X G z2
  have m_range := PySem.W.mg_none_of X G z3
  have m_reversed := PySem.W.mg_none_of X G z4
  have m_sum := PySem.W.mg_none_of X G z5
  have m_int := PySem.W.mg_none_of X G z6
  have m_repr := PySem.W.mg_none_of X G z7
  have m_isinstance := PySem.W.mg_none_of X G z8
  have m_tuple := PySem.W.mg_none_of X G z9
  have m_max := PySem.W.mg_none_of X G z10
  have m_min := PySem.W.mg_none_of X G z11
  have m_zip := PySem.W.mg_none_of X G z12
  have m_any := PySem.W.mg_none_of X G z13
  have m_sorted := PySem.W.mg_none_of X G z14
  have m_enumerate := PySem.W.mg_none_of X G z15
  have m_ValueError := PySem.W.mg_none_of X G z16
  have m_super := PySem.W.mg_none_of X G z17
  have C8 := Kg.funC_mk (st := tAskers) l8 q8
  obtain ⟨h8, hc8⟩ := Kg.tabOf_at X TT8 g_8 l8 t8 v8
  refine ⟨PySem.W.fnOf "law" "law" (defArgs tLaw) (defBody tLaw) (defScope tLaw) .none kV29 dc29 pm29 an29 cd29 ct29, [(c8, p8)], (spLaw K [p8]), ?T, fun s v => .of_eq rfl, fun H a ns hl _ hH hS => ⟨a, ns, rfl, hS, hl, ?S, fun _ _ => rfl⟩, fun base _ _ TB => ?_⟩
  case T =>
    intro p hp
    · rw [List.mem_singleton.mp hp]; exact ⟨h8, n8, hc8⟩
  case S =>
    intro p hp
    have q : ∀ p ∈ [p8], H p = some (.tbl #[]) := by
      intro p hp
      · rw [List.mem_singleton.mp hp]; exact hH (c8, p8) (by simp)
    exact ⟨#[], q p hp, True.intro⟩
  have T8 := tabX (TB (c8, p8) (by simp))
  have M8 : p8 ∈ [p8] := by simp
  have OEU : OexC K cU := ⟨⟨_, _, _, _, _, _, _, _, _, _, _, _, _, _, _, lCU, rCU⟩, saU, xbU, xtU, xkU⟩
  have ECU : ExcC K cU := ⟨xgU, xhU, xbU, xdU, xcU, sX, uX, xmU⟩
  have XFU : XfC K cU := ⟨xgU, xhU, xbU, xdU⟩
  have EPU : PySem.W.exmOne K (.ref cU) (.ref cK) = some true := exm_yes bK iK tK xsU
  have NVU : PySem.W.kitOne K (.ref cU) (.type "ValueError") = some true := kit_tyV xvU
  have SU : Ksi.SupC l.prog K (NF.mk "__init__" "Unbounded.__init__" (defArgs (ini 12)) (defBody (ini 12)) (defScope (ini 12)) [(("__class__" : Str), ccU)] cIU) cU "self" := ⟨OEU, ⟨ccU, _, _, _, rfl, lcU⟩, ⟨_, rfl, rfl⟩, ⟨_, _, _, _, _, _, leU, lvU, lfU⟩, tp, msU, kiU, xvU, oq, rfl⟩
  have IU : ∀ k, Ini l.prog w K mg base (k + 1) cU "argument" "argument" := fun k => ini12 (k := k) _ rfl lIU qIU SU m_super naU iIU tIU
  have TUU : TU K mg cU := ⟨PySem.W.mg_of X G xaU, OEU⟩
  have ni : TUI K mg cU cK := ⟨TUU, ECU, XFU, naU, PySem.W.mg_of X G aK, EPU, kit_self, NVU, ⟨x_NoBack, x_NoKind, x_NoLead, x_NoName, x_NoRow, x_NoText, x_Ring, x_Taken, x_TooMany, x_TooMuch, PySem.W.mg_of X G ya_NoBack, PySem.W.mg_of X G ya_NoKind, PySem.W.mg_of X G ya_NoLead, PySem.W.mg_of X G ya_NoName, PySem.W.mg_of X G ya_NoRow, PySem.W.mg_of X G ya_NoText, PySem.W.mg_of X G ya_Ring, PySem.W.mg_of X G ya_Taken, PySem.W.mg_of X G ya_TooMany, PySem.W.mg_of X G ya_TooMuch, (any_no (kit_no yw_NoBack yi_NoBack yt_NoBack ys_NoBack) (any_no (kit_no yw_NoKind yi_NoKind yt_NoKind ys_NoKind) (any_no (kit_no yw_NoLead yi_NoLead yt_NoLead ys_NoLead) (any_no (kit_no yw_NoName yi_NoName yt_NoName ys_NoName) (any_no (kit_no yw_NoRow yi_NoRow yt_NoRow ys_NoRow) (any_no (kit_no yw_NoText yi_NoText yt_NoText ys_NoText) (any_no (kit_no yw_Ring yi_Ring yt_Ring ys_Ring) (any_no (kit_no yw_Taken yi_Taken yt_Taken ys_Taken) (any_no (kit_no yw_TooMany yi_TooMany yt_TooMany ys_TooMany) (any_no (kit_no yw_TooMuch yi_TooMuch yt_TooMuch ys_TooMuch) rfl))))))))))⟩⟩
  have D0 : ∀ k, FnOk l.prog w K mg base CX0 (k + 1) f13 _ ["_law_deck_here", "_law_most"] spDraw := fun k => okDraw F13
  have P0 := okPick (P := l.prog) (w := w) (base := base) (k := 0) F14 (D0 0) b13 g_13 F13.kp m_len
  have LE := okLeads (P := l.prog) (w := w) (mg := mg) (base := base) (k := 2) F1
  have PA := okParts (P := l.prog) (w := w) (base := base) (k := 0) F3 F2 b2 g_2
  have AR := okArgs (P := l.prog) (w := w) (base := base) (k := 0) F4 F1 b1 g_1 m_tuple
  have RE := okRes (P := l.prog) (w := w) (base := base) (k := 0) F5 F1 b1 g_1
  have OP := okOpens (P := l.prog) (w := w) (base := base) (k := 0) F6 PA b3 g_3 F3.kp m_tuple m_sorted
  have MK := okMakers (P := l.prog) (w := w) (base := base) (k := 3) F7 LE b1 g_1 F1.kp (upOk RE (by decide)) b5 g_5 F5.kp
  have AS := okAskers (P := l.prog) (w := w) (base := base) (k := 3) (T := [p8]) C8 T8 M8 (upOk PA (by decide)) b3 g_3 F3.kp (upOk RE (by decide)) b5 g_5 F5.kp OP b6 g_6 F6.kp m_any
  have EN := okEnd (P := l.prog) (w := w) (base := base) (k := 4) (T := [p8]) F9 MK b7 g_7 F7.kp (upOk RE (by decide)) b5 g_5 F5.kp AS b8 g_8 F8.kp
  have UB := okUnb (P := l.prog) (w := w) (base := base) (k := 5) (T := [p8]) F10 (upOk AR (by decide)) b4 g_4 F4.kp (upOk MK (by decide)) b7 g_7 F7.kp (upOk RE (by decide)) b5 g_5 F5.kp (upOk LE (by decide)) b1 g_1 F1.kp EN b9 g_9 F9.kp m_enumerate
  have TR := okTries (P := l.prog) (w := w) (base := base) (k := 5) (T := [p8]) F11 TUU (IU 4) UB b10 g_10 F10.kp
  have RF := okRefd (P := l.prog) (w := w) (base := base) (k := 16) (T := [p8]) F28 ni (upOk TR (by decide)) b11 g_11 F11.kp m_isinstance m_ValueError m_repr
  have DA := okLData (P := l.prog) (w := w) (base := base) F16 b16 g_16 F13 b13 g_13 F14 b14 g_14 m_int m_len 4
  have HA := okHanded (P := l.prog) (w := w) (base := base) F17 (D0 5) b13 g_13 F13.kp (upOk P0 (by decide)) b14 g_14 F14.kp DA b16 g_16 F16.kp m_int m_range
  have LA := okLArgs (P := l.prog) (w := w) (mg := mg) (base := base) (k := 14) F18
  have LL := okLLed (P := l.prog) (w := w) (base := base) (k := 12) F19 m_reversed
  have SZ := okSize (P := l.prog) (w := w) (base := base) F20 b20 g_20 m_isinstance m_tuple m_sum 12
  have FE := okFew (P := l.prog) (w := w) (base := base) (k := 13) (N := 12) F21 LL b19 g_19 F19.kp SZ b20 g_20 F20.kp m_len
  have KI := okKind (P := l.prog) (w := w) (base := base) (k := 14) F24 (D0 13) b13 g_13 F13.kp (upOk DA (by decide)) b16 g_16 F16.kp (upOk HA (by decide)) b17 g_17 F17.kp FE b21 g_21 F21.kp m_range
  have LK := okLook (P := l.prog) (w := w) (base := base) (k := 1) F22 (D0 0) b13 g_13 F13.kp m_enumerate m_tuple m_sorted
  have EK := okEnded (P := l.prog) (w := w) (base := base) (k := 14) F23 ⟨_, _, FE, b21, g_21, F21.kp⟩ ⟨_, _, upOk DA (by decide), b16, g_16, F16.kp⟩ ⟨_, _, upOk P0 (by decide), b14, g_14, F14.kp⟩ ⟨_, _, upOk LL (by decide), b19, g_19, F19.kp⟩ ⟨_, _, D0 13, b13, g_13, F13.kp⟩ m_range m_sorted m_tuple m_zip
  have LO := okLOpens (P := l.prog) (w := w) (base := base) F25 b25 g_25 14
  have LH := okLHas (P := l.prog) (w := w) (base := base) F26 b26 g_26 14
  have OD := okOdd (P := l.prog) (w := w) (base := base) (k := 15) F27 LA b18 g_18 F18.kp LO b25 g_25 F25.kp LH b26 g_26 F26.kp m_enumerate m_min
  have NM := okNames (P := l.prog) (w := w) (base := base) (k := 0) F15 (D0 0) b13 g_13 F13.kp m_len m_range
  exact okLaw (k := 17) (T := [p8]) F29 (DR := ⟨_, _, RF, b28, g_28, F28.kp⟩) (DK := ⟨_, _, okDeck (k := 16) F12 m_list m_reversed m_sum m_len, b12, g_12, F12.kp⟩) (DD := ⟨_, _, D0 16, b13, g_13, F13.kp⟩) (DN := ⟨_, _, upOk NM (by decide), b15, g_15, F15.kp⟩) (DE := ⟨_, _, upOk EK (by decide), b23, g_23, F23.kp⟩) (DL := ⟨_, _, upOk LK (by decide), b22, g_22, F22.kp⟩) (DT := ⟨_, _, upOk KI (by decide), b24, g_24, F24.kp⟩) (DO := ⟨_, _, upOk OD (by decide), b27, g_27, F27.kp⟩) (DU := ⟨_, _, upOk UB (by decide), b10, g_10, F10.kp⟩) (m_range := m_range) (m_max := m_max) (m_min := m_min) (m_len := m_len) (m_repr := m_repr)
end Kq
open PySem PySem.W PyProof.Rows
set_option maxRecDepth 100000 in
set_option maxHeartbeats 0 in
theorem PySem.Challenge.cw_kindalone_k44_tries_with_an_end_holds : PySem.Challenge.rw_kindalone_k44_tries_with_an_end.Holds := by
  w_on; o_law; k_head; (case hw => w_witness2)
  k_fill
  refine Kf.walk_ofG (l := PySem.Challenge.rw_kindalone_k44_tries_with_an_end) (n := 63) (k := 18) (x := "_law_script") (CX := fun _ => L2.CX0) rfl (by decide) rfl ⟨rfl, by decide, by decide⟩ (fun w h Y => PySem.W.kIn_of Y) ?F (fun _ _ _ _ _ h => h)
  case F =>
    intro w mg fa h Y KX G hmg tabs
    have TT8 : Kg.TabOf mg h "is_askers" := by
      refine Kq.tt_of ?_ tabs
      decide +kernel
    refine' Kq.all_mk KX G hmg TT8 ?a1 ?l1 ?q1 ?k1 ?a2 ?l2 ?q2 ?k2 ?a3 ?l3 ?q3 ?k3 ?a4 ?l4 ?q4 ?k4 ?a5 ?l5 ?q5 ?k5 ?a6 ?l6 ?q6 ?k6 ?a7 ?l7 ?q7 ?k7 ?a8 ?l8 ?q8 ?k8 ?a9 ?l9 ?q9 ?k9 ?a10 ?l10 ?q10 ?k10 ?a11 ?l11 ?q11 ?k11 ?a12 ?l12 ?q12 ?k12 ?a13 ?l13 ?q13 ?k13 ?a14 ?l14 ?q14 ?k14 ?a15 ?l15 ?q15 ?k15 ?a16 ?l16 ?q16 ?k16 ?a17 ?l17 ?q17 ?k17 ?a18 ?l18 ?q18 ?k18 ?a19 ?l19 ?q19 ?k19 ?a20 ?l20 ?q20 ?k20 ?a21 ?l21 ?q21 ?k21 ?a22 ?l22 ?q22 ?k22 ?a23 ?l23 ?q23 ?k23 ?a24 ?l24 ?q24 ?k24 ?a25 ?l25 ?q25 ?k25 ?a26 ?l26 ?q26 ?k26 ?a27 ?l27 ?q27 ?k27 ?a28 ?l28 ?q28 ?k28 ?a29 ?l29 ?q29 ?k29 ?t8 ?v8 ?n8 ?z1 ?z2 ?z3 ?z4 ?z5 ?z6 ?z7 ?z8 ?z9 ?z10 ?z11 ?z12 ?z13 ?z14 ?z15 ?z16 ?z17 ?aK ?bK ?iK ?tK ?sX ?uX ?xaU ?xgU ?xhU ?xbU ?xdU ?xcU ?xmU ?xtU ?xkU ?xvU ?xsU ?lCU ?rCU ?saU ?naU ?iIU ?tIU ?lIU ?qIU ?lcU ?leU ?lvU ?lfU ?msU ?kiU ?tp ?oq ?ya_NoBack ?yi_NoBack ?yt_NoBack ?yw_NoBack ?ys_NoBack ?ya_NoKind ?yi_NoKind ?yt_NoKind ?yw_NoKind ?ys_NoKind ?ya_NoLead ?yi_NoLead ?yt_NoLead ?yw_NoLead ?ys_NoLead ?ya_NoName ?yi_NoName ?yt_NoName ?yw_NoName ?ys_NoName ?ya_NoRow ?yi_NoRow ?yt_NoRow ?yw_NoRow ?ys_NoRow ?ya_NoText ?yi_NoText ?yt_NoText ?yw_NoText ?ys_NoText ?ya_Ring ?yi_Ring ?yt_Ring ?yw_Ring ?ys_Ring ?ya_Taken ?yi_Taken ?yt_Taken ?yw_Taken ?ys_Taken ?ya_TooMany ?yi_TooMany ?yt_TooMany ?yw_TooMany ?ys_TooMany ?ya_TooMuch ?yi_TooMuch ?yt_TooMuch ?yw_TooMuch ?ys_TooMuch
    (case a1 => k_is)
    (case l1 => k_is)
    (case q1 => k_is)
    (case k1 => k_is)
    (case a2 => k_is)
    (case l2 => k_is)
    (case q2 => k_is)
    (case k2 => k_is)
    (case a3 => k_is)
    (case l3 => k_is)
    (case q3 => k_is)
    (case k3 => k_is)
    (case a4 => k_is)
    (case l4 => k_is)
    (case q4 => k_is)
    (case k4 => k_is)
    (case a5 => k_is)
    (case l5 => k_is)
    (case q5 => k_is)
    (case k5 => k_is)
    (case a6 => k_is)
    (case l6 => k_is)
    (case q6 => k_is)
    (case k6 => k_is)
    (case a7 => k_is)
    (case l7 => k_is)
    (case q7 => k_is)
    (case k7 => k_is)
    (case a8 => k_is)
    (case l8 => k_is)
    (case q8 => k_is)
    (case k8 => k_is)
    (case a9 => k_is)
    (case l9 => k_is)
    (case q9 => k_is)
    (case k9 => k_is)
    (case a10 => k_is)
    (case l10 => k_is)
    (case q10 => k_is)
    (case k10 => k_is)
    (case a11 => k_is)
    (case l11 => k_is)
    (case q11 => k_is)
    (case k11 => k_is)
    (case a12 => k_is)
    (case l12 => k_is)
    (case q12 => k_is)
    (case k12 => k_is)
    (case a13 => k_is)
    (case l13 => k_is)
    (case q13 => k_is)
    (case k13 => k_is)
    (case a14 => k_is)
    (case l14 => k_is)
    (case q14 => k_is)
    (case k14 => k_is)
    (case a15 => k_is)
    (case l15 => k_is)
    (case q15 => k_is)
    (case k15 => k_is)
    (case a16 => k_is)
    (case l16 => k_is)
    (case q16 => k_is)
    (case k16 => k_is)
    (case a17 => k_is)
    (case l17 => k_is)
    (case q17 => k_is)
    (case k17 => k_is)
    (case a18 => k_is)
    (case l18 => k_is)
    (case q18 => k_is)
    (case k18 => k_is)
    (case a19 => k_is)
    (case l19 => k_is)
    (case q19 => k_is)
    (case k19 => k_is)
    (case a20 => k_is)
    (case l20 => k_is)
    (case q20 => k_is)
    (case k20 => k_is)
    (case a21 => k_is)
    (case l21 => k_is)
    (case q21 => k_is)
    (case k21 => k_is)
    (case a22 => k_is)
    (case l22 => k_is)
    (case q22 => k_is)
    (case k22 => k_is)
    (case a23 => k_is)
    (case l23 => k_is)
    (case q23 => k_is)
    (case k23 => k_is)
    (case a24 => k_is)
    (case l24 => k_is)
    (case q24 => k_is)
    (case k24 => k_is)
    (case a25 => k_is)
    (case l25 => k_is)
    (case q25 => k_is)
    (case k25 => k_is)
    (case a26 => k_is)
    (case l26 => k_is)
    (case q26 => k_is)
    (case k26 => k_is)
    (case a27 => k_is)
    (case l27 => k_is)
    (case q27 => k_is)
    (case k27 => k_is)
    (case a28 => k_is)
    (case l28 => k_is)
    (case q28 => k_is)
    (case k28 => k_is)
    (case a29 => k_is)
    (case l29 => k_is)
    (case q29 => k_is)
    (case k29 => k_is)
    (case t8 => k_is)
    (case v8 => rfl)
    (case n8 => rfl)
    (case z1 => k_is)
    (case z2 => k_is)
    (case z3 => k_is)
    (case z4 => k_is)
    (case z5 => k_is)
    (case z6 => k_is)
    (case z7 => k_is)
    (case z8 => k_is)
    (case z9 => k_is)
    (case z10 => k_is)
    (case z11 => k_is)
    (case z12 => k_is)
    (case z13 => k_is)
    (case z14 => k_is)
    (case z15 => k_is)
    (case z16 => k_is)
    (case z17 => k_is)
    (case aK => k_is)
    (case bK => k_is)
    (case iK => k_is)
    (case tK => k_is)
    (case sX => k_is)
    (case uX => k_is)
    (case xaU => k_is)
    (case xgU => k_is)
    (case xhU => k_is)
    (case xbU => k_is)
    (case xdU => k_is)
    (case xcU => k_is)
    (case xmU => k_is)
    (case xtU => k_is)
    (case xkU => k_is)
    (case xvU => k_is)
    (case xsU => k_is)
    (case lCU => k_is)
    (case rCU => rfl)
    (case saU => k_is)
    (case naU => k_is)
    (case iIU => k_is)
    (case tIU => k_is)
    (case lIU => k_is)
    (case qIU => k_is)
    (case lcU => k_is)
    (case leU => k_is)
    (case lvU => rfl)
    (case lfU => first | rfl | decide +kernel)
    (case msU => k_is)
    (case kiU => first | ks_is | k_is | kernel_rfl)
    (case tp => first | rfl | decide +kernel)
    (case oq => k_is)
    (case ya_NoBack => k_is)
    (case yi_NoBack => k_is)
    (case yt_NoBack => k_is)
    (case yw_NoBack => rfl)
    (case ys_NoBack => k_is)
    (case ya_NoKind => k_is)
    (case yi_NoKind => k_is)
    (case yt_NoKind => k_is)
    (case yw_NoKind => rfl)
    (case ys_NoKind => k_is)
    (case ya_NoLead => k_is)
    (case yi_NoLead => k_is)
    (case yt_NoLead => k_is)
    (case yw_NoLead => rfl)
    (case ys_NoLead => k_is)
    (case ya_NoName => k_is)
    (case yi_NoName => k_is)
    (case yt_NoName => k_is)
    (case yw_NoName => rfl)
    (case ys_NoName => k_is)
    (case ya_NoRow => k_is)
    (case yi_NoRow => k_is)
    (case yt_NoRow => k_is)
    (case yw_NoRow => rfl)
    (case ys_NoRow => k_is)
    (case ya_NoText => k_is)
    (case yi_NoText => k_is)
    (case yt_NoText => k_is)
    (case yw_NoText => rfl)
    (case ys_NoText => k_is)
    (case ya_Ring => k_is)
    (case yi_Ring => k_is)
    (case yt_Ring => k_is)
    (case yw_Ring => rfl)
    (case ys_Ring => k_is)
    (case ya_Taken => k_is)
    (case yi_Taken => k_is)
    (case yt_Taken => k_is)
    (case yw_Taken => rfl)
    (case ys_Taken => k_is)
    (case ya_TooMany => k_is)
    (case yi_TooMany => k_is)
    (case yt_TooMany => k_is)
    (case yw_TooMany => rfl)
    (case ys_TooMany => k_is)
    (case ya_TooMuch => k_is)
    (case yi_TooMuch => k_is)
    (case yt_TooMuch => k_is)
    (case yw_TooMuch => rfl)
    (case ys_TooMuch => k_is)
