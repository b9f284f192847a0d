import PyProof.Rows.All
import Wide.All
import OpenK.AllK
import Wide.FinOn
import HandS.ForMost
import HandS.Rev
import HandS.StrMore
import HandS.IsInst
import HandS.Replace
import HandS.Codes
import HandS.Wide
import HandS.GenList
import HandS.AnyAll
import HandS.EndOwn
import HandS.ExcOwn
import PyProof.ReprRoads
import HandS.Walk
import HandS.Dict
import HandS.TupAny
import HandS.Style
import KE.KDictPairs
import KE.GoesMore
import HandS.Iter
import KE.KRevSl
import PyProof.Draws
import PyProof.EnumMake
import PyProof.EqKinds
import HandS.More
import PyProof.Rows.IntBool
import PyProof.CallStr
import PyProof.IsRules
import PyProof.ReprLen
import PyProof.FitsInt
import PyProof.StrLawsRepr
import HandS.FStrTup
import PyProof.Rows.RegReprOcc
import HandS.Zip
import HandS.Set
import HandS.SetBool
import HandS.TupSets
import HandS.SetFor
import HandS.DeepEq
import HandS.DictTup
import PyProof.DictUpdate
import HandS.Comp
import PyProof.Rows.RuleB_bool
import PyProof.Rows.FloatCmp
import HandS.RaiseMore
import HandS.TryOnly
import HandS.ForExc
import HandS.FStr
import HandS.IterVal
import HandS.Defaults
import HandS.ExcIs
import HandS.Flow
import KE.KExcIs
import KE.KIsAll
import HandS.CallSlots
import KE.KDictZip
import PyProof.ZipIter
import PySem.Challenge.RW_kindalone_k20_own_names_of_builts
set_option Elab.async false
set_option linter.all false
set_option maxRecDepth 100000
set_option maxHeartbeats 4000000
namespace Kr
open PySem PySem.Spec PyProof.Rows L2 RT
section
variable {prog : Program} {w : World} {A : Around} {E : Value → Shared → Prop} {s : Shared}
/-- a list grows by what a walk from behind over another list gives -/
theorem growRev {R : Result → Shared → Prop} {it l S : Addr} {its : Array Value} {res : Value} {c0 : Nat} (hh : A.handled = none) (hit : s.heap.IsRevIter it l ((its.size : Int) - 1))
    (hl : s.heap.IsList l its) (hne : l ≠ it) (hn : its.size ≤ sizeLine) (hS : s.heap.get? S = some { cls := .type "list", data := .seq #[] c0 }) (hSi : S ≠ it) (hSl : S ≠ l)
    (hR : ∀ (h' : Heap) (tk : Nat) (acc : Array Value) (c : Nat), (∀ b o, b ≠ it → b ≠ S → s.heap.get? b = some o → h'.get? b = some o) →
      h'.get? S = some { cls := .type "list", dict := none, data := .seq acc c, slots := #[] } → ItemsOf (fun i v => its[its.size - 1 - i]? = some v) acc its.size → R (.ok (.ret res)) { s with heap := h', toks := tk }) :
    wpAny (model prog w) A.in1 (Builtin.List.listExtendWith (.ref S) (.ref it) res)
      (fun fin s' => match fin with
        | .done f => R (.ok f) s'
        | .again c' => c'.quiet = true ∧ codeAny (model prog w) A c' R s') (fun e s' => R (.error e) s') s := by
  have W := (Walks.listRev (prog := prog) (w := w) (A := A.in1) hh it l hne its).toS
  have out : S ∉ [it, l] := by
    intro z
    rcases List.mem_cons.mp z with z | z
    · exact hSi z
    · exact hSl (List.mem_singleton.mp z)
  have ty : s.TypeIs (.ref it) "list_reverseiterator" := hit.typeIs
  have no : Builtin.List.listSameRef (.ref S) (.ref it) = false := by
    simp [Builtin.List.listSameRef, hSi]
  unfold Builtin.List.listExtendWith
  refine wpAny_bind (wpAny_typeOf ty ?_)
  rw [if_neg (by rw [no]; decide)]
  refine wpAny_bind (wpAny_pyIter_revIter hit ?_)
  refine wpAny_bind (wpAny_holding ?_)
  unfold Builtin.List.listLengthHint
  refine wpAny_bind (wpAny_specialOf ty RT.nolen_lri ?_)
  show wpAny _ A.in1 (specialOf (.ref it) (Str.ofString "__length_hint__") >>= _) _ _ _
  refine wpAny_bind (wpAny_specialOf ty RT.hint_lri ?_)
  generalize hid : ("list_reverseiterator.__length_hint__" : String) = nm
  wp_delta
  have sp : splitId nm = some ("list_reverseiterator", "__length_hint__") := by
    subst hid
    decide +kernel
  rw [sp]
  subst hid
  refine wpAny_bind (wpAny_isInstance (b := true) ty (by rw [isSubtype_type]; kernel_rfl) ?_)
  refine wpAny_pure ?_
  rw [if_neg (by decide)]
  have z0 : ((its.size : Nat) : Int) - 1 - ((0 : Nat) : Int) = (its.size : Int) - 1 := by omega
  have st0 : s.heap.IsRevIter it l ((its.size : Int) - 1 - ((0 : Nat) : Int)) := by rw [z0]; exact hit
  refine wpAny_pure ⟨plainId_quiet F.plain_extend_loop _, ?_⟩
  refine codeAny_extend_loopS W hn S out res its.size 0 _ _ _ rfl (Nat.zero_le _) ⟨Nat.zero_le _, st0, hl⟩ hS (ItemsOf.nil _) (fun s' acc' c' mv hS' hacc => ?_)
  rw [Moved.eq_with mv]
  refine hR s'.heap s'.toks acc' c' (fun b o h1 h2 e => mv.heap b o (fun z => ?_) e) hS' hacc
  rcases List.mem_cons.mp z with z | z
  · exact h2 z
  · exact h1 (List.mem_singleton.mp z)
theorem call_list_rev {Q : Value → Shared → Prop} {it l : Addr} {its : Array Value} (hh : A.handled = none) (hit : s.heap.IsRevIter it l ((its.size : Int) - 1)) (hl : s.heap.IsList l its) (hne : l ≠ it) (hn : its.size ≤ sizeLine)
    (hQ : ∀ (h' : Heap) (tk : Nat) (acc : Array Value) (c : Nat), (∀ b o, b ≠ it → s.heap.get? b = some o → h'.get? b = some o) →
      h'.get? s.heap.objs.size = some { cls := .type "list", dict := none, data := .seq acc c, slots := #[] } → ItemsOf (fun i v => its[its.size - 1 - i]? = some v) acc its.size → Q (.ref s.heap.objs.size) { s with heap := h', toks := tk }) :
    wpAny (model prog w) A (call (.type "list") [.ref it]) Q E s := by
  obtain ⟨oi, hoi, _⟩ := id hit
  obtain ⟨ol, hol, _⟩ := id hl
  have n1 : s.heap.objs.size ≠ it := Nat.ne_of_gt (Heap.lt_size hoi)
  have n2 : s.heap.objs.size ≠ l := Nat.ne_of_gt (Heap.lt_size hol)
  refine callType_codes (Q₁ := fun obj s₁ => obj = .ref s.heap.objs.size ∧ s₁ = { s with heap := s.heap.push { cls := .type "list", data := .seq #[] } })
    F.called_list (F.typeCall_list_1 _) F.entry_list_init (code_list_new _ ⟨rfl, rfl⟩) (fun obj s₁ h₁ => ?_)
  obtain ⟨rfl, rfl⟩ := h₁
  have hS : (s.heap.push { cls := .type "list", data := .seq #[] }).get? s.heap.objs.size
      = some { cls := .type "list", data := .seq #[] } := Heap.get?_push_size _ rfl
  refine ⟨⟨_, hS, rfl⟩, F.args_list_init_2 _ _, ?_⟩
  show wpAny _ _ (do
    let old ← Builtin.List.listItems (.ref s.heap.objs.size)
    Builtin.List.listUpdate (.ref s.heap.objs.size) (fun _ => #[])
    letGo old.toList.reverse
    Builtin.List.listExtendWith (.ref s.heap.objs.size) (.ref it) .none) _ _ _
  refine wpAny_bind ?_
  unfold Builtin.List.listItems
  refine wpAny_bind (wpAny_seqItems hS rfl (wpAny_pure ?_))
  show wpAny _ _ (do
    updateSeq s.heap.objs.size (fun _ => #[])
    letGo (#[] : Array Value).toList.reverse
    Builtin.List.listExtendWith (.ref s.heap.objs.size) (.ref it) .none) _ _ _
  refine wpAny_bind (wpAny_updateSeq hS rfl ?_)
  have hS2 := Heap.get?_update_self (Obj.mapSeq fun _ => (#[] : Array Value)) hS rfl
  refine wpAny_bind (wpAny_letGo ?_)
  generalize hh2 : (s.heap.push { cls := .type "list", data := .seq #[] }).update s.heap.objs.size (Obj.mapSeq fun _ => (#[] : Array Value)) = h2 at hS2 ⊢
  have kp : ∀ b o, s.heap.get? b = some o → h2.get? b = some o := fun b o e => by
    rw [← hh2, Heap.get?_update_other _ _ (Nat.ne_of_gt (Heap.lt_size e))]
    exact Heap.get?_push_of_some _ e
  have hl2 : h2.IsList l its := by
    obtain ⟨o, e, r⟩ := id hl
    exact ⟨o, kp _ _ e, r⟩
  refine growRev (A := A.in1) (s := { s with heap := h2 }) hh (hit.at fun o e => kp _ _ e) hl2 hne hn hS2 n1 n2 (fun h' tk acc c k e i => ?_)
  exact ⟨rfl, hQ h' tk acc c (fun b o hb hbo => k b o hb (Nat.ne_of_lt (Heap.lt_size hbo)) (kp b o hbo)) e i⟩
end
/-- list(reversed(x)), x a list -/
def tListRev (K : PySem.W.Frag) (te : TE) : TE := fun σ H Q => te σ H fun v G => ∃ (a : Addr) (xs : List V), v = .ref a ∧ SqL K G a xs ∧ ∀ q, G q = none → Q (.ref q) (upd G q (.lst xs.reverse))
theorem pe_listRev {X : Cx} {e : Expr} {te : TE} {p p2 pos pos2 : Pos} (hc : X.calm = true) (hg : Gl X "list") (hm : X.mg "list" = none) (hg2 : Gl X "reversed") (hm2 : X.mg "reversed" = none) (he : PE X e te)
    (hs : starEach [e] X.env = (false, eval e X.env) :: starEach [] X.env := by rfl)
    (hs2 : starEach [.Call (.Name "reversed" p2) [e] [] pos2] X.env = (false, eval (.Call (.Name "reversed" p2) [e] [] pos2) X.env) :: starEach [] X.env := by rfl) :
    PE X (.Call (.Name "list" p) [.Call (.Name "reversed" p2) [e] [] pos2] [] pos) (tListRev X.K te) := by
  refine ⟨fun pins s σ H Q I h => ?_⟩
  have inner := fun (Q' : Value → Shared → Prop) (k : ∀ (a : Addr) (xs : List V) (its : List Value) (s1 : Shared) (G : Hp), Inv X pins σ G s1 → SqL X.K G a xs → Vals xs its → PlainL s1.heap a its.toArray → xs.length ≤ sizeLine →
      (∀ q, G q = none → Q (.ref q) (upd G q (.lst xs.reverse))) → Q' (.ref s1.heap.objs.size) { s1 with heap := s1.heap.push (revObj a ((its.toArray.size : Int) - 1)) }) =>
    show wpAny (model X.prog X.w) X.A (eval (.Call (.Name "reversed" p2) [e] [] pos2) X.env) Q' X.xe s from
      Call_ (ld_blt I hg2 hm2 PyProof.Rows.boot_reversed (PyProof.Rows.callWith_type1 (args_cons (thn (he.run pins s σ H _ I h) fun u s1 ⟨v, G, I1, r1, a, xs, ev, hq, q⟩ => args_nil (by
        subst ev
        obtain rfl : u = Value.ref a := r1
        obtain ⟨its, rv, pl, hz⟩ := I1.list hq
        exact call_reversed_list pl.isList (k a xs its s1 G I1 hq rv pl hz q))) hs) hs rfl))
  refine Call_ (ld_blt I hg hm boot_list (PyProof.Rows.callWith_type1 (args_cons (inner _ fun a xs its s1 G I1 hq rv pl hz q => args_nil ?_) hs2) hs2 rfl))
  have k0 : ∀ b o, s1.heap.get? b = some o → (s1.heap.push (revObj a ((its.toArray.size : Int) - 1))).get? b = some o := fun b o z => Heap.get?_push_of_some _ z
  obtain ⟨ol, hol, _⟩ := id pl.isList
  have hne : a ≠ s1.heap.objs.size := Nat.ne_of_lt (Heap.lt_size hol)
  have hn : its.toArray.size ≤ sizeLine := by rw [List.size_toArray, ← rv.length]; exact hz
  generalize hh3 : s1.heap.push (revObj a ((its.toArray.size : Int) - 1)) = h3 at k0 ⊢
  have it3 : h3.IsRevIter s1.heap.objs.size a ((its.toArray.size : Int) - 1) := by
    rw [← hh3]
    exact ⟨_, Heap.get?_push_size _ rfl, rfl, rfl⟩
  have l3 : h3.IsList a its.toArray := by
    rw [← hh3]
    exact pl.isList.push _
  have lt3 : s1.heap.objs.size < h3.objs.size := by
    obtain ⟨o, e, _⟩ := id it3
    exact Heap.lt_size e
  refine call_list_rev (s := { s1 with heap := h3 }) (I1.ok.hd hc) it3 l3 hne hn fun h' tk acc c hk hS hi => ?_
  have hgo : G h3.objs.size = none := I1.hok.fresh (Nat.le_of_lt lt3)
  refine ⟨.ref h3.objs.size, upd G h3.objs.size (.lst xs.reverse), I1.laid (t' := tk) (fun b o z => hk b o (Nat.ne_of_lt (Heap.lt_size z)) (k0 b o z)) (Nat.le_of_lt lt3)
    (show ObjOk X.prog X.w _ _ _ (.lst xs.reverse) from ⟨by rw [List.length_reverse]; exact hz, acc.toList, c, vals_rev rv hi, by rw [Array.toArray_toList]; exact hS⟩), rfl, q _ hgo⟩
/-- xs.extend(t), t a tuple -/
def rExtT (K : PySem.W.Frag) : V → List V → Hp → VK → Prop := fun x vs H Q => ∃ l b xs zs, x = .ref l ∧ vs = [.ref b] ∧ H l = some (.lst xs) ∧ SqT K H b zs ∧ xs.length + zs.length ≤ sizeLine ∧ Q .non (upd H l (.lst (xs ++ zs)))
theorem mt_extT {X : Cx} : MtM X "list.extend" (rExtT X.K) := by
  intro pins s σ H x vs v us Q I rx rv h
  obtain ⟨l, b, xs, zs, rfl, rfl, hl, hb, hz, q⟩ := h
  cases rx
  obtain ⟨u, rfl, ru⟩ := rv.one
  cases ru
  obtain ⟨z1, its, n, r1, _, e1⟩ := I.lstM hl
  obtain ⟨jts, r2, ⟨o, eo, oc, m, od⟩, z2⟩ := I.tuple hb
  have n1 := r1.length
  have n2 := r2.length
  have sm : its.toArray.size + jts.toArray.size ≤ sizeLine := by
    rw [List.size_toArray, List.size_toArray]
    omega
  have ty : s.TypeIs (.ref b) "tuple" := ⟨o, eo, oc⟩
  refine wpAny_call_entry F.slot_list_extend ⟨_, e1, rfl⟩ F.entry_list_extend ?_ (F.args_list_extend_2 _ _)
  show wpAny _ _ (Builtin.List.listExtendWith (.ref l) (.ref b) .none) _ _ _
  unfold Builtin.List.listExtendWith
  refine wpAny_bind (wpAny_typeOf ty ?_)
  have yes : (Builtin.List.listSameRef (.ref l) (.ref b) || Value.type "tuple" == Value.type "list" || Value.type "tuple" == Value.type "tuple") = true := by simp
  rw [if_pos yes]
  refine wpAny_bind ?_
  unfold Builtin.List.listItems
  refine wpAny_bind (wpAny_seqItems eo od (wpAny_pure ?_))
  refine wpAny_bind ?_
  refine wpAny_bind (wpAny_seqItems e1 rfl (wpAny_pure ?_))
  have long : (!its.toArray.isEmpty && Builtin.List.listTooLong (its.toArray.size + jts.toArray.size)) = false := by
    rw [notLongL sm, Bool.and_false]
  rw [if_neg (by rw [long]; exact Bool.false_ne_true)]
  refine wpAny_bind ?_
  show wpAny _ _ (updateSeq l (· ++ jts.toArray)) _ _ _
  refine wpAny_updateSeq e1 rfl ?_ (by rw [List.size_toArray]; omega) (by rw [Array.size_append]; omega)
  refine wpAny_pure ⟨_, rfl, ?_⟩
  refine ⟨.non, _, I.lset (its' := its ++ jts) hl e1 (by simp) (r1.append r2) ?_, rfl, q⟩
  rw [List.length_append]
  exact hz
end Kr

namespace Kq
open PySem PySem.Spec PyProof.Rows L2
/-! the program's defs, by their places -/
def tp (i : Nat) : Stmt := PySem.Challenge.pw_kindalone_k20_own_names_of_builts.main.body.getD i (.Pass ⟨0, 0, 0, 0⟩)
/-! heaps -/
theorem newS {H : Hp} {p : Addr} {o : HO} (h : H p = none) : Same H (upd H p o) := fun b u e => by
  rw [upd_ne (ne_of_none e h)]
  exact e
/-- but for d and c all that stood stands -/
def Kp (d c : Addr) (H G : Hp) : Prop := ∀ b o, b ≠ d → b ≠ c → H b = some o → G b = some o
theorem Kp.rfl {d c : Addr} {H : Hp} : Kp d c H H := fun _ _ _ _ e => e
theorem Kp.trans {d c : Addr} {H G F : Hp} (a : Kp d c H G) (b : Kp d c G F) : Kp d c H F := fun x o h1 h2 e => b x o h1 h2 (a x o h1 h2 e)
theorem Kp.of {d c : Addr} {H G : Hp} (a : Same H G) : Kp d c H G := fun x o _ _ e => a x o e
theorem Kp.at1 {d c : Addr} {H : Hp} {o : HO} : Kp d c H (upd H d o) := fun x u h1 _ e => by rw [upd_ne h1]; exact e
theorem Kp.at2 {d c : Addr} {H : Hp} {o : HO} : Kp d c H (upd H c o) := fun x u _ h2 e => by rw [upd_ne h2]; exact e
/-- the deck of drawn cells -/
structure Dk (H : Hp) (d c : Addr) : Prop where
  ne : d ≠ c
  dd : ∃ seed k : Int, H d = some (.lst [.ref c, .int seed, .int k])
  cc : ∃ ns : List Int, H c = some (.lst (ns.map V.int)) ∧ ns.length ≤ 63
theorem Dk.same {H G : Hp} {d c : Addr} (x : Dk H d c) (s : Same H G) : Dk G d c := by
  obtain ⟨n, ⟨a, b, e⟩, ⟨ns, f, l⟩⟩ := x
  exact ⟨n, ⟨a, b, s _ _ e⟩, ⟨ns, s _ _ f, l⟩⟩
theorem sz {n : Nat} (h : n ≤ 1000) : n ≤ sizeLine := Nat.le_of_lt (small1000 h)
theorem Kp.mk {d c p : Addr} {H G : Hp} {o : HO} (a : Kp d c H G) (h : H p = none) : Kp d c H (upd G p o) := fun b u h1 h2 e => by
  rw [upd_ne (ne_of_none e h)]
  exact a b u h1 h2 e
theorem Dk.put {G : Hp} {d c p : Addr} {o : HO} (x : Dk G d c) (h : p ≠ d) (h' : p ≠ c) : Dk (upd G p o) d c := by
  obtain ⟨n, ⟨a, b, e⟩, ⟨ns, f, l⟩⟩ := x
  exact ⟨n, ⟨a, b, by rw [upd_ne h.symm]; exact e⟩, ⟨ns, by rw [upd_ne h'.symm]; exact f, l⟩⟩
theorem Dk.off {H : Hp} {d c p : Addr} (x : Dk H d c) (h : H p = none) : p ≠ d ∧ p ≠ c := by
  obtain ⟨n, ⟨a, b, e⟩, ⟨ns, f, l⟩⟩ := x
  exact ⟨(ne_of_none e h).symm, (ne_of_none f h).symm⟩
/-! texts of letters -/
def lets : Str := "abcdefghijklmnopqrstuvwxyz"
def sg (i : Nat) : Str := ⟨#[97 + i]⟩
theorem lets_at : ∀ i : Fin 26, lets.cps.toList[i.val]? = some (97 + i.val) := by decide +kernel
theorem lets_ix : ∀ i : Fin 26, Builtin.Str.occurrences lets (sg i.val) 0 lets.length 1 = [i.val] := by decide +kernel
structure Nm (x : Str) : Prop where
  low : ∀ c ∈ x.cps.toList, 97 ≤ c ∧ c < 123
  few : x.cps.toList.length ≤ 8
  one : 1 ≤ x.cps.toList.length
theorem app_cps (x y : Str) : (x ++ y).cps.toList = x.cps.toList ++ y.cps.toList := by
  show (x.cps ++ y.cps).toList = _
  rw [Array.toList_append]
theorem join_low : ∀ ks : List Nat, (∀ k ∈ ks, k < 26) → (∀ c ∈ (Txt.join (Str.ofString "") (ks.map sg)).cps.toList, 97 ≤ c ∧ c < 123) ∧ (Txt.join (Str.ofString "") (ks.map sg)).cps.toList.length = ks.length := by
  intro ks h
  rw [show ∀ a b, Txt.join a b = Str.join a b from TL.join_eq]
  induction ks with
  | nil => exact ⟨fun c z => absurd z (by simp [Str.join, Str.empty]), by simp [Str.join, Str.empty]⟩
  | cons k ks ih =>
    have hk := h k List.mem_cons_self
    have ih := ih fun j hj => h j (List.mem_cons_of_mem _ hj)
    cases ks with
    | nil =>
      refine ⟨fun c z => ?_, rfl⟩
      have e : c = 97 + k := by simpa [Str.join, sg] using z
      omega
    | cons j r =>
      have e : Str.join (Str.ofString "") ((k :: j :: r).map sg) = sg k ++ Str.ofString "" ++ Str.join (Str.ofString "") ((j :: r).map sg) := rfl
      rw [e, app_cps, app_cps]
      have e0 : (Str.ofString "").cps.toList = [] := by decide
      rw [e0, List.append_nil]
      refine ⟨fun c z => ?_, ?_⟩
      · rcases List.mem_append.mp z with z | z
        · have e : c = 97 + k := by simpa [sg] using z
          omega
        · exact ih.1 c z
      · rw [List.length_append, ih.2]
        show 1 + _ = _
        simp only [List.length_cons]
        omega
theorem join_nm {ks : List Nat} (h : ∀ k ∈ ks, k < 26) (h1 : 1 ≤ ks.length) (h8 : ks.length ≤ 8) : Nm (Txt.join (Str.ofString "") (ks.map sg)) := by
  obtain ⟨a, b⟩ := join_low ks h
  exact ⟨a, by omega, by omega⟩
theorem cutTo {xs : List V} {j : Nat} (h : j ≤ xs.length) : cutV xs none (some (j : Int)) = xs.take j := by
  unfold cutV
  rw [HT.sIx_nat, HT.sIx_none, Nat.min_eq_left h]
  rfl
theorem Kp.free {d c p : Addr} {H G : Hp} (a : Kp d c H G) (k : Dk G d c) (h : G p = none) : H p = none := by
  obtain ⟨h1, h2⟩ := k.off h
  cases e : H p with
  | none => rfl
  | some o =>
    rw [a p o h1 h2 e] at h
    cases h
theorem sg_len (ks : List Nat) : ((ks.map sg).map (·.length)).sum = ks.length := by
  induction ks with
  | nil => rfl
  | cons k ks ih =>
    rw [List.map_cons, List.map_cons, List.sum_cons, ih, List.length_cons]
    show 1 + ks.length = _
    omega
theorem lets_get {r : Int} (h0 : 0 ≤ r) (h1 : r < 26) : atI lets.cps.toList r = some (97 + r.toNat) := by
  have e : r = ((r.toNat : Nat) : Int) := by omega
  have q := atI_nat (lets_at ⟨r.toNat, by omega⟩)
  rw [← show r = (((⟨r.toNat, by omega⟩ : Fin 26).val : Nat) : Int) from e] at q
  exact q
theorem cutKs {ks : List Nat} {j : Nat} (h : j ≤ ks.length) : cutV ((ks.map sg).map V.str) none (some (j : Int)) = ((ks.take j).map sg).map V.str := by
  rw [cutTo (by rw [List.length_map, List.length_map]; exact h), List.map_take, List.map_take]
theorem lets_len : lets.length ≤ sizeLine := by decide
/-! rules for the inside of a comprehension, the written part named -/
theorem slK {X : Cx} (K : PySem.W.Frag) (h : X.K = K) : SlR X (rSlL K) := by
  subst h
  exact sl_list
def rJn (K : PySem.W.Frag) : V → List V → Hp → VK → Prop := fun x xs H Q => ∃ a p, ∃ ys : List Str, x = .str a ∧ xs = [.ref p] ∧ (SqL K H p (ys.map V.str) ∨ SqT K H p (ys.map V.str)) ∧ (ys.map (·.length)).sum + ys.length * a.length ≤ 16777216 ∧ Q (.str (Txt.join a ys)) H
theorem pe_joinK {X : Cx} (K : PySem.W.Frag) (h : X.K = K) {o e : Expr} {apos pos : Pos} {to te : TE} (ho : PE X o to) (he : PE X e te) (hbase : attributeBase o "join" X.env (eval o X.env) = eval o X.env := by rfl) (hline : (apos.endLine == pos.line) = true := by rfl)
    (hs : starEach [e] X.env = [(false, eval e X.env)] := by rfl) : PE X (.Call (.Attribute o "join" apos) [e] [] pos) (tM1 (rJn K) to te) := by
  subst h
  exact pe_join ho he hs hbase hline
theorem dpInts (K : PySem.W.Frag) (H : Hp) : ∀ ns : List Int, DpAll K H (ns.map V.int) (ns.map PyData.int)
  | [] => .nil
  | n :: ns => .cons (.int n) (dpInts K H ns)

theorem ixNat {n j : Nat} (hj : j < n) : ixN n (j : Int) = some j := by
  have h1 : (0 : Int) ≤ (j : Int) := by omega
  have h2 : (j : Int) < (n : Int) := by omega
  simp [ixN, h1, h2]
theorem join_cps : ∀ ks : List Nat, (Txt.join (Str.ofString "") (ks.map sg)).cps.toList = ks.map (97 + ·) := by
  intro ks
  rw [show ∀ a b, Txt.join a b = Str.join a b from TL.join_eq]
  induction ks with
  | nil => rfl
  | cons k ks ih =>
    cases ks with
    | nil => rfl
    | cons j r =>
      have e : Str.join (Str.ofString "") ((k :: j :: r).map sg) = sg k ++ Str.ofString "" ++ Str.join (Str.ofString "") ((j :: r).map sg) := rfl
      rw [e, app_cps, app_cps, ih]
      rfl
theorem nodupR {f : Nat → Str} : ∀ n, (∀ i j, i < n → j < n → f i = f j → i = j) → ((List.range n).map f).Nodup
  | 0, _ => List.nodup_nil
  | n + 1, h => by
    rw [List.range_succ, List.map_append]
    refine List.nodup_append.mpr ⟨nodupR n fun i j hi hj e => h i j (by omega) (by omega) e, (by simp), fun x hx y hy e => ?_⟩
    obtain ⟨i, hi, rfl⟩ := List.mem_map.mp hx
    have ey : y = f n := List.mem_singleton.mp hy
    rw [ey] at e
    have hi := List.mem_range.mp hi
    have := h i n (by omega) (by omega) e
    omega
abbrev tDeck : Stmt := tp 81
abbrev tDraw : Stmt := tp 82
section
variable {P : Program} {w : World} {K : PySem.W.Frag} {mg : Str → Option Value} {base : Heap}
theorem scDraw : FnScope ["_law_deck_here", "_law_most", "_law_cell", "_law_number"] ["_law_deck_here", "_law_most"] (defScope tDraw) := ⟨rfl, rfl, rfl, by decide +kernel, rfl, by decide +kernel, by decide +kernel⟩
def spDraw : Sp := fun vs H Q _ => ∃ (d c : Addr) (m : Int), vs = [.ref d, .int m] ∧ Dk H d c ∧ 0 < m ∧ m < 1298074214633706907132624082305024 ∧ ∀ (r : Int) (G : Hp), 0 ≤ r → r < m → Kp d c H G → Dk G d c → Q (.int r) G
theorem okDraw {f : Addr} {fd : FuncData} {k : Nat} (F : Fun K "_law_draw" "_law_draw" tDraw f fd) : FnOk P w K mg base CX0 (k + 1) f fd ["_law_deck_here", "_law_most"] spDraw := by
  refine F.ok scDraw (fun vs H Q E h => ?_) (fun cdv A outer s H vs Q E hr h => ?_)
  · obtain ⟨d, c, m, rfl, _⟩ := h
    rfl
  obtain ⟨d, c, m, rfl, ⟨ndc, ⟨seed, k0, hd⟩, ⟨ns, hc, hl⟩⟩, m0, m1, q⟩ := h
  refine ⟨_, pss_cons (ps_asg (pe_op op_add (pe_ix ix_list (pv 0) pe_int (fun _ _ => rfl)) pe_int) (pg_sub (pv 0) pe_int set_list))
    (C8.pss_cut (ps_set (i := 2) scDraw.nd rfl (.inl rfl) (pe_ifExp (pt_cmpR (op_eqD hr.units) (pe_ix ix_list (pv 0) pe_int (fun _ _ => rfl)) (pe_lst pa_nil) (nomark _)) (pe_ix ix_list (pv 0) pe_int (fun _ _ => rfl)) (pe_bm0 PySem.F.plainAttrs_list PySem.F.slot_list_pop PySem.F.type_list_pop mt_pop (pe_ix ix_list (pv 0) pe_int (fun _ _ => rfl)))))
    (pss_cons (ps_if (pt_cmpR op_ge (pv 2) (pe_op op_pow pe_int pe_int) (nomark _))
      (pss_cons (ps_expr (pe_bm PySem.F.plainAttrs_list PySem.F.slot_list_append PySem.F.type_list_append mt_append (pe_ix ix_list (pv 0) pe_int (fun _ _ => rfl)) (pa_cons (pe_op op_fdivW (pv 2) (pv 1)) pa_nil)))
      (pss_one (ps_ret (pe_op op_mod (pv 2) (pv 1))))) pss_nil)
    (pss_cons (ps_set (i := 3) scDraw.nd rfl (.inl rfl) (pe_op op_mod (pe_op op_mul (pe_op op_add (pe_op op_add (pe_op op_mod (pv 2) pe_int) (pe_op op_mul pe_int (pe_ix ix_list (pv 0) pe_int (fun _ _ => rfl)))) pe_int) pe_int) pe_int))
    (pss_cons (ps_set (i := 3) scDraw.nd rfl (.inl rfl) (pe_op op_mod (pe_op op_add (pe_op op_add (pe_op op_mul (pv 3) (pv 3)) (pe_op op_mul pe_int (pe_ix ix_list (pv 0) pe_int (fun _ _ => rfl)))) pe_int) pe_int))
    (pss_one (ps_ret (pe_op op_mod (pe_op op_fdiv (pe_op op_mod (pe_op op_mul (pv 3) (pe_op op_add (pe_op op_fdiv (pv 3) pe_int) pe_int)) pe_int) pe_int) (pv 1)))))))), ?_⟩
  refine ⟨_, rfl, d, _, _, _, rfl, rfl, SqL.of hd, atI_nat (j := 2) rfl, _, _, rfl, rfl, _, rfl, d, _, _, 2, rfl, rfl, hd, rfl, ?_⟩
  generalize hH1 : upd H d _ = H1
  have d1 : H1 d = some (.lst [.ref c, .int seed, .int (k0 + 1)]) := by rw [← hH1, upd_same]; rfl
  have c1 : H1 c = some (.lst (ns.map V.int)) := by rw [← hH1, upd_ne ndc.symm]; exact hc
  have p1 : Kp d c H H1 := by rw [← hH1]; exact Kp.at1
  clear hH1
  refine ⟨fun σ G => ∃ (cell : Int) (ms : List Int), σ = [some (.ref d), some (.int m), some (.int cell), none] ∧ Kp d c H G ∧ G d = some (.lst [.ref c, .int seed, .int (k0 + 1)]) ∧ G c = some (.lst (ms.map V.int)) ∧ ms.length ≤ 62, ?_, ?b2⟩
  · refine ⟨_, rfl, d, _, _, _, rfl, rfl, SqL.of d1, atI_nat (j := 0) rfl, Nat.zero_le _, fun p np => ?_⟩
    have sp : Same H1 (upd H1 p (.lst [])) := newS np
    have d2 := sp _ _ d1
    have c2 := sp _ _ c1
    have p2 : Kp d c H (upd H1 p (.lst [])) := p1.trans (.of sp)
    refine ⟨.list (ns.map PyData.int), .list [], .lst (SqL.of c2) (dpInts K _ ns), .lst (SqL.of upd_same) .nil, PySem.W.ke_shaped_ints ns, rfl, _, rfl, ?_⟩
    generalize upd H1 p (.lst []) = H2 at d2 c2 p2
    refine ite2 (fun he => ?_) (fun hne => ?_)
    · have n0 : ns = [] := by
        cases ns with
        | nil => rfl
        | cons a b => simp [PyData.eqv, PyData.eqvAll] at he
      subst n0
      exact ⟨_, rfl, d, _, _, _, rfl, rfl, SqL.of d2, atI_nat (j := 1) rfl, seed, [], rfl, p2, d2, c2, Nat.zero_le _⟩
    · have nn : ns ≠ [] := fun z => hne (by rw [z]; rfl)
      obtain ⟨n, hn⟩ : ∃ n, (ns.map V.int)[(ns.map V.int).length - 1]? = some (.int n) := by
        have h0 : 0 < ns.length := List.length_pos_iff.mpr nn
        rw [List.length_map, List.getElem?_map, List.getElem?_eq_getElem (by omega)]
        exact ⟨_, rfl⟩
      have ed : (ns.map V.int).dropLast = ns.dropLast.map V.int := by rw [List.map_dropLast]
      refine ⟨_, rfl, d, _, _, _, rfl, rfl, SqL.of d2, atI_nat (j := 0) rfl, .inl ⟨rfl, _, SqL.of c2⟩, c, _, _, rfl, rfl, c2, hn, ?_⟩
      rw [ed]
      refine ⟨n, ns.dropLast, rfl, p2.trans Kp.at2, by rw [upd_ne ndc]; exact d2, upd_same, ?_⟩
      rw [List.length_dropLast]
      omega
  case b2 =>
    rintro σ G ⟨cell, ms, rfl, kp, gd, gc, lm⟩
    refine ⟨_, rfl, _, _, rfl, rfl, ⟨by decide, by decide, by decide⟩, _, _, rfl, rfl, _, rfl, ite2 (fun _ => ?_) (fun _ => ?_)⟩
    · refine ⟨_, rfl, d, _, _, _, rfl, rfl, SqL.of gd, atI_nat (j := 0) rfl, .inl ⟨rfl, _, SqL.of gc⟩, _, rfl, _, rfl, _, _, rfl, rfl, wide_div m0 (b := 120) (by show m.natAbs < 1329227995784915872903807060280344576; omega) (by decide) (by decide), c, _, _, rfl, rfl, gc, (by rw [List.length_map]; exact small1000 (by omega)), ?_⟩
      refine ⟨_, rfl, _, rfl, _, _, rfl, rfl, m0, q _ _ (Int.emod_nonneg _ (by omega)) (Int.emod_lt_of_pos _ m0) (kp.trans Kp.at2) ⟨ndc, ⟨seed, k0 + 1, (by rw [upd_ne ndc]; exact gd)⟩, ⟨ms ++ [cell / m], ?_, ?_⟩⟩⟩
      · rw [upd_same, List.map_append]
        rfl
      · rw [List.length_append]
        show _ + 1 ≤ 63
        omega
    · refine ⟨_, rfl, _, _, rfl, rfl, (by show (0 : Int) < 2147483629; decide), _, rfl, d, _, _, _, rfl, rfl, SqL.of gd, atI_nat (j := 2) rfl, _, _, rfl, rfl, .inl ⟨by decide, by decide⟩, _, _, rfl, rfl, _, _, rfl, rfl, _, _, rfl, rfl, .inr ⟨by decide, by decide⟩, _, _, rfl, rfl, (by show (0 : Int) < 2147483647; decide), ?_⟩
      generalize hx : (cell % 2147483629 + 104729 * (k0 + 1) + 1) * 48271 % 2147483647 = x
      have x0 : 0 ≤ x := by rw [← hx]; exact Int.emod_nonneg _ (by decide)
      have x1 : x < 2147483647 := by rw [← hx]; exact Int.emod_lt_of_pos _ (by decide)
      refine ⟨_, rfl, _, rfl, _, _, rfl, rfl, .inl ⟨by omega, by omega⟩, _, rfl, d, _, _, _, rfl, rfl, SqL.of gd, atI_nat (j := 2) rfl, _, _, rfl, rfl, .inl ⟨by decide, by decide⟩, _, _, rfl, rfl, _, _, rfl, rfl, _, _, rfl, rfl, (by show (0 : Int) < 2147483587; decide), ?_⟩
      generalize hy : (x * x + 69621 * (k0 + 1) + 7) % 2147483587 = y
      have y0 : 0 ≤ y := by rw [← hy]; exact Int.emod_nonneg _ (by decide)
      have y1 : y < 2147483587 := by rw [← hy]; exact Int.emod_lt_of_pos _ (by decide)
      refine ⟨_, rfl, _, rfl, _, _, rfl, rfl, ⟨by decide, by decide⟩, _, _, rfl, rfl, _, _, rfl, rfl, .inl ⟨by omega, by omega⟩, _, _, rfl, rfl, (by show (0 : Int) < 2305843009213693951; decide), _, _, rfl, rfl, ⟨by decide, by decide⟩, _, rfl, _, _, rfl, rfl, m0, ?_⟩
      exact q _ _ (Int.emod_nonneg _ (by omega)) (Int.emod_lt_of_pos _ m0) kp ⟨ndc, ⟨_, _, gd⟩, ⟨ms, gc, by omega⟩⟩
/-! _law_deck -/
theorem scDeck : FnScope ["_law_script", "_law_cells"] ["_law_script"] (defScope tDeck) := ⟨rfl, rfl, rfl, by decide +kernel, rfl, by decide +kernel, by decide +kernel⟩
def spDeck (K : PySem.W.Frag) : Sp := fun vs H Q _ => ∃ (a : Addr) (ns : List Int), vs = [.ref a] ∧ SqL K H a (ns.map V.int) ∧ ns.length ≤ 63 ∧ ∀ (d c : Addr) (G : Hp), Same H G → H d = none → H c = none → Dk G d c → Q (.ref d) G
theorem okDeck {f : Addr} {fd : FuncData} {k : Nat} (F : Fun K "_law_deck" "_law_deck" tDeck f fd) (ml : mg "list" = none) (mr : mg "reversed" = none) (ms : mg "sum" = none) (mn : mg "len" = none) : FnOk P w K mg base CX0 (k + 1) f fd ["_law_script"] (spDeck K) := by
  refine F.ok scDeck (fun vs H Q E h => ?_) (fun cdv A outer s H vs Q E hr h => ?_)
  · obtain ⟨a, ns, rfl, _⟩ := h
    rfl
  obtain ⟨a, ns, rfl, hS, hl, q⟩ := h
  refine ⟨_, pss_cons (ps_set (i := 1) scDeck.nd rfl (.inl rfl) (Kr.pe_listRev rfl (by rfl) ml (by rfl) mr (pe_slice sl_list (pv 0) po_none (po_some pe_int))))
    (pss_one (ps_ret (pe_lst (pa_cons (pv 1) (pa_cons (pe_op op_add (pe_op op_mod (pe_callB (cr_sum rfl) (by rfl) ms PyProof.Rows.boot_sum (pa_cons (pv 1) pa_nil)) pe_int) (pe_op op_mul pe_int (pe_callB call_len_seq (by rfl) mn PySem.boot_len (pa_cons (pv 1) pa_nil)))) (pa_cons pe_int pa_nil)))))), ?_⟩
  refine ⟨_, rfl, 63, rfl, a, _, rfl, hS, fun p np => ?_⟩
  refine ⟨p, _, rfl, SqL.of upd_same, fun c nc => ?_⟩
  have e0 : cutV (ns.map V.int) none (some 63) = (ns.take 63).map V.int := by
    rw [List.take_of_length_le hl]
    unfold cutV
    rw [HT.sIx_none, show HT.sIx (ns.map V.int).length (ns.map V.int).length (some 63) = min 63 (ns.map V.int).length from HT.sIx_nat _ _ 63, List.drop_zero, List.take_of_length_le]
    rw [List.length_map]
    omega
  rw [e0, ← List.map_reverse]
  generalize hm : (ns.take 63).reverse = ms'
  have lm : ms'.length ≤ 63 := by rw [← hm, List.length_reverse, List.length_take]; omega
  generalize hG : upd (upd H p _) c (.lst (ms'.map V.int)) = G
  have gc : G c = some (.lst (ms'.map V.int)) := by rw [← hG, upd_same]
  have hc : H c = none := (newS np).free nc
  have hcp : c ≠ p := fun z => by
    rw [z, upd_same] at nc
    cases nc
  have sG : Same H G := by
    rw [← hG]
    exact (newS np).trans (newS (by rw [upd_ne hcp]; exact hc))
  refine ⟨_, rfl, _, rfl, c, _, rfl, SqL.of gc, _, _, rfl, rfl, (by show (0 : Int) < 2147483629; decide), _, rfl, c, _, rfl, .inl (SqL.of gc), _, _, rfl, rfl, .inl ⟨by decide, by decide⟩, _, _, rfl, rfl, (by show 3 ≤ sizeLine; decide), fun d nd => q d c _ (sG.trans (newS nd)) (sG.free nd) hc ⟨(ne_of_none gc nd).symm, ⟨_, _, upd_same⟩, ⟨ms', ?_, lm⟩⟩⟩
  rw [upd_ne (ne_of_none gc nd)]
  exact gc
end
end Kq

namespace Kq
open PySem PySem.Spec PyProof.Rows L2
/-- the tuples stay -/
def Tk (H G : Hp) : Prop := ∀ b xs, H b = some (.tup xs) → G b = some (.tup xs)
theorem Tk.of {H G : Hp} (s : Same H G) : Tk H G := fun b xs e => s b _ e
theorem Tk.rfl {H : Hp} : Tk H H := fun _ _ e => e
theorem Tk.trans {H G F : Hp} (a : Tk H G) (b : Tk G F) : Tk H F := fun x o e => b x o (a x o e)
theorem Tk.kp {H G : Hp} {d c : Addr} (a : Kp d c H G) (k : Dk H d c) : Tk H G := fun b xs e => by
  obtain ⟨n, ⟨s, k0, hd⟩, ⟨ns, hc, _⟩⟩ := k
  refine a b _ (fun z => ?_) (fun z => ?_) e
  · rw [z, hd] at e
    cases e
  · rw [z, hc] at e
    cases e
theorem Tk.put {H G : Hp} {p : Addr} {o : HO} (a : Tk H G) (h : ∀ xs, H p ≠ some (.tup xs)) : Tk H (upd G p o) := fun b xs e => by
  rw [upd_ne (fun z => h xs (by rw [← z]; exact e))]
  exact a b xs e
theorem cutFrom1 (x : V) (vs : List V) : cutV (x :: vs) (some 1) none = vs := by
  unfold cutV
  rw [show HT.sIx (x :: vs).length 0 (some 1) = min 1 (x :: vs).length from HT.sIx_nat _ _ 1, HT.sIx_none, List.length_cons, Nat.min_eq_left (by omega)]
  show (vs.take (vs.length + 1 - 1)) = vs
  rw [Nat.add_sub_cancel, List.take_length]
theorem notWhole (x : V) (vs : List V) : ¬ (HT.sIx (x :: vs).length 0 (some 1) = 0 ∧ HT.sIx (x :: vs).length (x :: vs).length none = (x :: vs).length) := by
  rw [show HT.sIx (x :: vs).length 0 (some 1) = min 1 (x :: vs).length from HT.sIx_nat _ _ 1, List.length_cons, Nat.min_eq_left (by omega)]
  rintro ⟨h, _⟩
  cases h
theorem smk {H G : Hp} {p : Addr} {o : HO} (a : Same H G) (h : H p = none) : Same H (upd G p o) := fun b u e => by
  rw [upd_ne (ne_of_none e h)]
  exact a b u e
theorem Nm.ok {x : Str} (h : Nm x) : PyData.strOk x = true := by
  unfold PyData.strOk
  rw [← Array.all_toList, List.all_eq_true]
  intro c hc
  have := (h.low c hc).2
  exact decide_eq_true (by omega)
theorem dpStrs (K : PySem.W.Frag) (H : Hp) : ∀ xs : List Str, DpAll K H (xs.map V.str) (xs.map PyData.str)
  | [] => .nil
  | x :: xs => .cons (.str x) (dpStrs K H xs)
theorem layStrs : ∀ xs : List Str, (∀ x ∈ xs, Nm x) → PyData.canLayAll0 (xs.map PyData.str) = true ∧ PyData.depthAll (xs.map PyData.str) = 0
  | [], _ => ⟨by simp [PyData.canLayAll0], by simp [PyData.depthAll]⟩
  | x :: xs, h => by
    obtain ⟨a, b⟩ := layStrs xs fun y hy => h y (List.mem_cons_of_mem _ hy)
    have c := (h x List.mem_cons_self).ok
    exact ⟨by simp [PyData.canLayAll0, PyData.canLay0, a, c], by simp [PyData.depthAll, PyData.depth, b]⟩
theorem shStrs {xs : List Str} (h : ∀ x ∈ xs, Nm x) : SeqAt.shaped (.list (xs.map PyData.str)) = true := by
  obtain ⟨a, b⟩ := layStrs xs h
  simp [SeqAt.shaped, PyData.canLay0, PyData.depth, a, b]
theorem eqvNil (xs : List Str) : PyData.eqv (.list (xs.map PyData.str)) (.list []) = xs.isEmpty := by
  cases xs <;> simp [PyData.eqv, PyData.eqvAll]
theorem isiK {X : Cx} (K : PySem.W.Frag) (h : X.K = K) : CallR X (.builtin "isinstance") (rIsi K) := by
  subst h
  exact call_isi
theorem ixTK {X : Cx} (K : PySem.W.Frag) (h : X.K = K) : IxR X (rIxT K) := by
  subst h
  exact ix_tup
section
variable {P : Program} {w : World} {K : PySem.W.Frag} {mg : Str → Option Value} {base : Heap}
theorem noFn {f : Addr} {fd : FuncData} {ps : List Str} {sp : Sp} {k : Nat} (no : ∀ vs H Q E, ¬ sp vs H Q E) : FnOk P w K mg base CX0 k f fd ps sp :=
  ⟨fun vs H Q E h => absurd h (no vs H Q E), fun A outer s H args us vs Q E _ _ _ _ h => absurd h (no vs H Q E)⟩
end
end Kq

/-! all(..) of a generator expression whose element may call defs -/
namespace Kg
open PySem PySem.Spec PyProof.Rows L2 GenW GxR
open Sem (wp)
theorem over_startC {A : Around} {elt t it : Expr} {ifs : List Expr} {scope : Scope} {pos : Pos} {iv acc : Value} {env : Env} : A.over (.compStart (.GeneratorExp elt [⟨t, it, ifs, 0⟩] scope pos) 0 iv acc env) [] = A.deeper env := by
  first
    | rfl
    | (obtain ⟨hd, d, fr, gs, u⟩ := A; simp [Around.over, Around.deeper, marksOver, frameCount, unitsOf, envsOf, guardsOf, pushEnvs, pushGuards, Code.envs, Code.env?, Code.isFrame, Code.guards, Code.isGuard, Code.weight, Code.frames, Code.isCreation, Code.isCaller, Code.cUnits])
theorem over_loopC {A : Around} {elt t it : Expr} {ifs : List Expr} {scope : Scope} {pos : Pos} {iv acc : Value} {env : Env} : A.over (.compLoop (.GeneratorExp elt [⟨t, it, ifs, 0⟩] scope pos) 0 iv acc env) [] = A.deeper env := by
  first
    | rfl
    | (obtain ⟨hd, d, fr, gs, u⟩ := A; simp [Around.over, Around.deeper, marksOver, frameCount, unitsOf, envsOf, guardsOf, pushEnvs, pushGuards, Code.envs, Code.env?, Code.isFrame, Code.guards, Code.isGuard, Code.weight, Code.frames, Code.isCreation, Code.isCaller, Code.cUnits])
/-- the scope of a generator expression within a def: its own names, those that it captures (with their places in N) -/
structure GxS (N : List Str) (sc scope : Scope) (own : List Str) (caps : List (Str × Nat)) : Prop where
  kind : scope.kind = .function
  co : scope.isCoroutine = false
  cell : ∀ y ∈ scope.names, y.2 ≠ .cell
  dot : scope.names.lookup (".0" : Str) = some NameKind.local
  nd : (own ++ caps.map (·.1)).Nodup
  caps : ∀ p ∈ caps, N[p.2]? = some p.1 ∧ scope.names.lookup p.1 = some .free
  free : ∀ y ∈ scope.names, y.2 = .free → sc.names.lookup y.1 = some .cell ∨ sc.names.lookup y.1 = some .free
  uniq : ∀ y ∈ scope.names, scope.names.lookup y.1 = some y.2
abbrev gxN (own : List Str) (caps : List (Str × Nat)) : List Str := own ++ caps.map (·.1)
abbrev gxSt (own : List Str) (caps : List (Str × Nat)) (σ : L2.St) : L2.St := own.map (fun _ => none) ++ caps.map (fun p => (σ[p.2]?).join)
abbrev gxEnv (X : Cx) (scope : Scope) (C : Addr) (code : Value) : Env := genEnv scope (cloFrom X.env.cells scope.names []) C code builtinsNs X.env
/-- the context of its frame -/
abbrev gcx (X : Cx) (A : Around) (N : List Str) (s : Shared) (H : Hp) (cenv : Env) (fp : List Addr) : Cx :=
  { X with A := A.deeper cenv, N := N, s_0 := s, H_0 := H, env := cenv, outer := X.stack, stack := cenv :: X.stack, ex := fp, fn := fun _ => false, calm := true, pn := [], xe := fun _ _ => False }
section
variable {X : Cx} {pins : List (Addr × Obj)} {σ : L2.St} {H : Hp} {s : Shared}
theorem gx_start {A : Around} {scope : Scope} {own : List Str} {caps : List (Str × Nat)} {fp : List Addr} {code : Value} {m0 : Str → Option Value} {s1 : Shared} (I : Inv X pins σ H s) (S : GxS X.N X.env.scope scope own caps) (hh : A.handled = none) (hfr : A.frames = some X.stack)
    (hfp : ∀ b ∈ fp, FpOk X pins H b ∧ b < s.heap.objs.size) (hns : s1.heap.Ns s.heap.objs.size m0) (kp : ∀ b o, s.heap.get? b = some o → s1.heap.get? b = some o) (hos : s1.os = s.os) (hb : AllBare s1.gens) :
    Inv (gcx X A (gxN own caps) s H (gxEnv X scope s.heap.objs.size code) fp) [] (gxSt own caps σ) H s1 := by
  have hfree : ∀ y ∈ scope.names, y.2 = .free → ∃ c, X.env.cells.lookup y.1 = some c := fun y hy e => by
    rcases S.free y hy e with k | k
    · exact I.ok.has _ (.inl k)
    · exact I.ok.has _ (.inr k)
  have cm : ∀ {y c}, (y, c) ∈ cloFrom X.env.cells scope.names [] → X.env.cells.lookup y = some c ∧ c < s.heap.objs.size := fun {y c} hm => by
    rcases cloFrom_mem hm with hm | ⟨h1, rfl⟩
    · cases hm
    · obtain ⟨c, hc⟩ := hfree _ h1 rfl
      rw [hc]
      obtain ⟨w, z⟩ := I.cell _ _ hc
      exact ⟨rfl, z.lt⟩
  have mem : ∀ {y c}, (cloFrom X.env.cells scope.names []).lookup y = some c → X.env.cells.lookup y = some c ∧ c < s.heap.objs.size := fun {y c} e => cm (PySem.mem_of_lookup e)
  have look : ∀ {y}, scope.names.lookup y = some .free → ∃ c, (cloFrom X.env.cells scope.names []).lookup y = some c := fun {y} hl => by
    have hy : (y, NameKind.free) ∈ scope.names := PySem.mem_of_lookup hl
    exact mem_lookup (cloFrom_has (cells := X.env.cells) (acc := []) hy)
  have nfs : ∀ b o, X.base.get? b = some o → b ∉ frs X.stack := fun b o e z => by
    rcases List.mem_cons.mp (I.stkSub b z) with z | z
    · have h1 := Heap.lt_size e
      have h2 := Nat.le_trans I.ok.bsz I.ok.above
      rw [z] at h1
      exact absurd (Nat.lt_of_lt_of_le h1 h2) (Nat.lt_irrefl _)
    · exact I.ok.nofr e z
  have okB : (gcx X A (gxN own caps) s H (gxEnv X scope s.heap.objs.size code) fp).Ok := by
    refine ⟨I.ok.mod, S.kind, I.ok.glob, rfl, Nat.le_refl _, fun y z c e1 e2 => I.ok.inj y z c (mem e1).1 (mem e2).1, fun y hy => ?_, fun y c z e => ?_, fun _ => hh, ?_, .inr ⟨rfl, rfl⟩, fun b hb => ⟨Nat.ne_of_lt (hfp b hb).2, fun y c e z => (hfp b hb).1.2.2.2.2.1 y c (mem e).1 z⟩,
      I.bs, Nat.le_trans I.ok.bsz I.sz, fun b o e hb => ?_, fun b hb z => ?_, I.stack, I.stkFree⟩
    · have hy : scope.names.lookup y = some .cell ∨ scope.names.lookup y = some .free := hy
      rcases hy with hy | hy
      · exact absurd rfl (S.cell _ (PySem.mem_of_lookup hy))
      · exact look hy
    · cases z
    · exact Around.frames_deeper hfr
    · rcases (hfp b hb).1.2.2.2.1 with z | z
      · exact I.ok.noex b o e z
      · exact absurd (Nat.lt_of_lt_of_le (Heap.lt_size e) (Nat.le_trans I.ok.bsz z)) (Nat.lt_irrefl _)
    · rcases List.mem_cons.mp (I.stkSub b z) with z | z
      · exact (hfp b hb).1.2.1 z
      · exact (hfp b hb).1.2.2.1 z
  refine ⟨okB, hos, hb, Un.kept kp, ⟨m0, hns, fun i y av e1 e2 e3 => ?_⟩, fun y c e => ?_, I.hok.fresh (Nat.le_refl _), fun y c e => ?_, fun p hp => ?_, I.hok.kept kp, ?_⟩
  · have e1 : (own ++ caps.map (·.1))[i]? = some y := e1
    have e2 : (own.map (fun _ => (none : Option V)) ++ caps.map (fun p => (σ[p.2]?).join))[i]? = some (some av) := e2
    by_cases hi : i < own.length
    · rw [List.getElem?_append_left (by rw [List.length_map]; exact hi), List.getElem?_map, List.getElem?_eq_getElem hi] at e2
      cases e2
    · rw [List.getElem?_append_right (by rw [List.length_map]; omega), List.length_map, List.getElem?_map] at e2
      rw [List.getElem?_append_right (by omega), List.getElem?_map] at e1
      cases hc : caps[i - own.length]? with
      | none => rw [hc] at e1; cases e1
      | some p =>
        rw [hc] at e1 e2
        have e1 : p.1 = y := Option.some.inj e1
        have e2 : (σ[p.2]?).join = some av := Option.some.inj e2
        obtain ⟨hN, hf⟩ := S.caps p (List.mem_of_getElem? hc)
        have hσ : σ[p.2]? = some (some av) := by
          cases q : σ[p.2]? with
          | none => rw [q] at e2; cases e2
          | some o => rw [q] at e2; exact congrArg some e2
        have hv : X.env.scope.names.lookup p.1 = some .cell ∨ X.env.scope.names.lookup p.1 = some .free := S.free (p.1, .free) (PySem.mem_of_lookup hf) rfl
        obtain ⟨m, hm, hl⟩ := I.loc
        obtain ⟨u, ru, lk⟩ := hl p.2 p.1 av hN hσ (.inr hv)
        subst e1
        refine ⟨u, ru, .inr ⟨.inr hf, ?_⟩⟩
        obtain ⟨c, hc'⟩ := look hf
        refine ⟨c, hc', ?_⟩
        rcases lk with ⟨h1, _⟩ | ⟨_, c2, h2, h3⟩
        · have h1 : X.env.scope.names.lookup p.1 = some .local := h1
          rcases hv with hv | hv
          · rw [hv] at h1; cases h1
          · rw [hv] at h1; cases h1
        · rw [(mem hc').1] at h2
          cases h2
          obtain ⟨o, ho, hd⟩ := h3
          exact ⟨o, kp _ _ ho, hd⟩
  · obtain ⟨v, o, ho, hd⟩ := I.cell y c (mem e).1
    exact ⟨v, o, kp _ _ ho, hd⟩
  · exact I.freeC y c (mem e).1
  · exact absurd (show p ∈ ([] : List (Addr × Obj)) ++ [] from hp) (by simp)
  · show (own.map (fun _ => (none : Option V)) ++ caps.map (fun p => (σ[p.2]?).join)).length = (own ++ caps.map (·.1)).length
    simp
end
/-! the protocol -/
/-- behind the whole: only the table of generators has turned, things may be new -/
def Done (Qf : Value → Shared → Prop) (b : Bool) (s : Shared) : Prop := ∀ s' : Shared, (∀ x o, s.heap.get? x = some o → s'.heap.get? x = some o) → s'.os = s.os → AllBare s'.gens → Qf (.bool b) s'
def GEndA (Qf : Value → Shared → Prop) : Nat → Shared → Shared → Prop := fun _ _ s => AllBare s.gens ∧ Done Qf true s
def GProto (Qf : Value → Shared → Prop) (a : Addr) (g : Nat) : Protocol := fun _ _ v s kap =>
  ∃ b : Bool, v = .bool b ∧ s.heap.IsGen a g ∧ s.heap.NoLimit ∧ AllBare s.gens ∧ (b = true → ∀ s' : Shared, s'.heap = s.heap → s'.os = s.os → AllBare s'.gens → kap (.send .none) s') ∧ (b = false → Done Qf false s)
section
variable {P : Program} {w : World} {A : Around} {Qf : Value → Shared → Prop} {a : Addr} {g : Nat}
/-- all's own loop -/
theorem all_drain (hh : A.handled = none) (hd : A.depth < recursionLimit) : ∀ (n : Nat) (s : Shared), s.heap.IsGen a g → s.heap.NoLimit →
    (∃ gs, s.gens[g]? = some gs ∧ gs.Goes (model P w) A.in1.in1 (fun n s₀ r s₁ => r = .ok .next ∧ GEndA Qf n s₀ s₁) (GProto Qf a g) n (.send .none) (s.setGen g .running)) →
    codeAny (model P w) A (.builtin "all.loop" ⟨[.ref a], []⟩) (fun r s' => ∃ b : Bool, r = .ok (.ret (.bool b)) ∧ Qf (.bool b) s') s := by
  intro n
  induction n with
  | zero =>
    intro s hg hl ⟨gs, hgs, hgo⟩
    refine codeAny_builtin F.entry_all_loop ?_
    rw [Around.under_plainId F.plain_all_loop _]
    show wpAny _ A.in1 (pyNext (.ref a) >>= _) _ _ s
    refine wpAny_bind (wpAny_pyNext_genexpQ (A := A.in1) (P := GEndA Qf) hh hl hd hg hgs hgo (fun v s₁ gs' hbare hv => ?_) (fun s₁ hp h' hk => ?_))
    · obtain ⟨b, rfl, hg1, hl1, hb1, ht, hf⟩ := hv
      cases b with
      | true => exact False.elim (ht rfl s₁ rfl rfl hb1)
      | false =>
        refine wpAny_bind (wpAny_holding (wpAny_truthy_bool ?_))
        refine wpAny_bind (wpAny_letGo ?_)
        simp only [Bool.false_eq_true, if_false]
        refine wpAny_bind (wpAny_rule (wpAny_pure ⟨false, rfl, hf rfl _ (fun x o e => e) rfl (allBare_setGen hb1 hbare)⟩))
    · refine wpAny_bind (wpAny_rule (wpAny_pure ⟨true, rfl, hp.2 _ hk rfl (allBare_setGen hp.1 rfl)⟩))
  | succ n ih =>
    intro s hg hl ⟨gs, hgs, hgo⟩
    have hgl : g < s.gens.size := (Array.getElem?_eq_some_iff.mp hgs).1
    refine codeAny_builtin F.entry_all_loop ?_
    rw [Around.under_plainId F.plain_all_loop _]
    show wpAny _ A.in1 (pyNext (.ref a) >>= _) _ _ s
    refine wpAny_bind (wpAny_gsz (n := g + 1) hgl (wpAny_pyNext_genexpQ (A := A.in1) (P := GEndA Qf) hh hl hd hg hgs hgo (fun v s₁ gs' hbare hv => ?_) (fun s₁ hp h' hk => ?_)))
    · intro hsz
      have hsz1 : g < s₁.gens.size := by
        have q : (s₁.setGen g gs').gens.size = s₁.gens.size := setGen_size _ _ _
        have hsz' : g + 1 ≤ (s₁.setGen g gs').gens.size := hsz
        omega
      obtain ⟨b, rfl, hg1, hl1, hb1, ht, hf⟩ := hv
      refine wpAny_bind (wpAny_holding (wpAny_truthy_bool ?_))
      refine wpAny_bind (wpAny_letGo ?_)
      cases b with
      | true =>
        simp only [if_true]
        refine wpAny_pure ⟨plainId_quiet F.plain_all_loop _, ih _ hg1 hl1 ⟨gs', setGen_at hsz1, ?_⟩⟩
        exact ht rfl _ rfl rfl (allBare_setGen (s := s₁.setGen g gs') (allBare_setGen hb1 hbare) rfl)
      | false =>
        simp only [Bool.false_eq_true, if_false]
        refine wpAny_bind (wpAny_rule (wpAny_pure ⟨false, rfl, hf rfl _ (fun x o e => e) rfl (allBare_setGen hb1 hbare)⟩))
    · intro hsz
      refine wpAny_bind (wpAny_rule (wpAny_pure ⟨true, rfl, hp.2 _ hk rfl (allBare_setGen hp.1 rfl)⟩))
theorem call_all_gen {E : Value → Shared → Prop} {n : Nat} {s : Shared} (hh : A.handled = none) (hd : A.depth < recursionLimit) (hg : s.heap.IsGen a g) (hl : s.heap.NoLimit)
    (hgo : ∃ gs, s.gens[g]? = some gs ∧ gs.Goes (model P w) A.in1.in1 (fun n s₀ r s₁ => r = .ok .next ∧ GEndA Qf n s₀ s₁) (GProto Qf a g) n (.send .none) (s.setGen g .running)) : wpAny (model P w) A (call (.builtin "all") [.ref a]) Qf E s := by
  refine call_function_tree F.kind_all F.plain_all F.entry_all (F.args_all1 _) ?_
  unfold Builtin.«all»
  refine wpAny_bind (m := oneArg "all" _) (wpAny_pure ?_)
  refine wpAny_bind (wpAny_pyIter_gen hg ?_)
  refine wpAny_pure ⟨plainId_quiet F.plain_all_loop _, codeAny_mono (all_drain hh hd n s hg hl hgo) fun r s' h => ?_⟩
  obtain ⟨b, rfl, q⟩ := h
  exact q
end
end Kg

namespace Kg
open PySem PySem.Spec PyProof.Rows L2 GenW GxR
open Sem (wp)
theorem inv_same {G : Cx} {pins : List (Addr × Obj)} {σ : L2.St} {H : Hp} {s s' : Shared} (I : Inv G pins σ H s) (hk : ∀ x o, s.heap.get? x = some o → s'.heap.get? x = some o) (ho : s'.os = s.os) (hb : AllBare s'.gens) : Inv G pins σ H s' :=
  I.call' (ch := []) ho (Un.kept hk) (I.hok.kept hk) hb fun b z => by simp at z
/-- a turn's wish -/
def Turns (J : It) (σ0 : L2.St) (vs : List Nat) (g : TG) (te : TE) (Qe : Bool → Hp → Prop) (W : Nat → Nat → Hp → Prop) : Prop :=
  ∀ i m H, W i m H → (J.stop i H ∧ Qe true H) ∨ (J.go i H ∧ ∃ Nx : Hp → Prop, (∀ H', Nx H' → ∃ m', m' < m ∧ W (i + 1) m' H') ∧ ∀ x H', J.yld i H x H' → g x σ0 H' fun σ2 H2 => wipe σ2 vs = σ0 ∧ te σ2 H2 fun y H4 => ∃ b, y = .bl b ∧ if b = true then Nx H4 else Qe false H4)
section
variable {X : Cx} {A : Around} {N : List Str} {s4 : Shared} {H0 : Hp} {cenv : Env} {fp : List Addr} {tg elt iter : Expr} {scope : Scope} {pos : Pos} {it a : Addr} {gi : Nat} {go : Obj} {J : It} {tn : Nat → Heap → Prop} {σ0 : L2.St} {vs : List Nat} {g : TG} {te : TE} {Qe : Bool → Hp → Prop} {W : Nat → Nat → Hp → Prop} {Qf : Value → Shared → Prop}
theorem gx_loop (hh : A.handled = none) (hco : cenv.scope.isCoroutine = false) (T : Turn X.prog X.w X.K tg J fp it tn) (haf : a ∉ fp) (hgen : ∀ h : Heap, h.get? a = some go → h.IsGen a gi)
    (pg : PG (gcx X A N s4 H0 cenv fp) tg g) (pe : PE (gcx X A N s4 H0 cenv fp) elt te) (turn : Turns J σ0 vs g te Qe W)
    (hfin : ∀ b s H', Inv (gcx X A N s4 H0 cenv fp) [(a, go)] σ0 H' s → Qe b H' → Done Qf b s) :
    ∀ (m n i : Nat) (H : Hp) (s₀ s : Shared), m < n → W i m H → Inv (gcx X A N s4 H0 cenv fp) [(a, go)] σ0 H s → tn i s.heap → (∀ b ∈ fp, H b = none) →
      Seg (model X.prog X.w) A (fun n s₀ r s₁ => r = .ok .next ∧ GEndA Qf n s₀ s₁) (GProto Qf a gi) n s₀ (.compLoop (.GeneratorExp elt [⟨tg, iter, [], 0⟩] scope pos) 0 (.ref it) .none cenv)
        ((model X.prog X.w).den (.compLoop (.GeneratorExp elt [⟨tg, iter, [], 0⟩] scope pos) 0 (.ref it) .none cenv)) [] s := by
  have stat : ∀ {σ' : L2.St} {H' : Hp} {s' : Shared}, Inv (gcx X A N s4 H0 cenv fp) [(a, go)] σ' H' s' → (∀ b ∈ fp, H' b = none) → ∀ b ∈ fp, FpOk (gcx X A N s4 H0 cenv fp) [(a, go)] H' b := fun {σ' H' s'} I' hn b hb =>
    ⟨hn b hb, (I'.ok.exf b hb).1, I'.ok.exfs b hb, .inl hb, fun x c e => (I'.ok.exf b hb).2 x c e, fun p hp z => by
      have hp : p ∈ [(a, go)] := hp
      rw [List.mem_singleton.mp hp] at z
      have z : a = b := z
      exact haf (by rw [z]; exact hb)⟩
  have hy : ∀ v, yieldOut cenv v = yieldValue v := fun v => by simp only [yieldOut, hco, Bool.false_eq_true, if_false]
  intro m
  induction m using Nat.strongRecOn with
  | ind m ih =>
    intro n i H s₀ s hmn hW I hst hn
    obtain ⟨n, rfl⟩ : ∃ k, n = k + 1 := ⟨n - 1, by omega⟩
    show Seg _ A _ _ _ s₀ _ ((compTurn (.GeneratorExp elt [⟨tg, iter, [], 0⟩] scope pos) 0 (.ref it) .none cenv).onRaise (leaving cenv)) [] s
    rw [compTurn_gen, Sem.onRaise_eq_wrap]
    refine seg_bind_wrap (wpAny_standAt ?_)
    rcases turn i m H hW with ⟨stop, qq⟩ | ⟨hgo, Nx, hNx, step⟩
    · refine seg_bind_wrap ?_
      rw [over_loopC]
      refine thn (T.done (gcx X A N s4 H0 cenv fp) rfl rfl rfl rfl i [(a, go)] s _ H _ I (stat I hn) hst stop) fun r s6 ⟨hr, I6⟩ => ?_
      subst hr
      exact seg_end (.ok .next) ⟨rfl, I6.bare, hfin true s6 H I6 qq⟩
    · refine seg_bind_wrap ?_
      rw [over_loopC]
      refine thn (T.item (gcx X A N s4 H0 cenv fp) rfl rfl rfl rfl i [(a, go)] s _ H _ I (stat I hn) hst hgo) fun r s6 ⟨u, hr, h6⟩ => ?_
      subst hr
      refine seg_bind_wrap ?_
      rw [over_loopC]
      refine thn h6 fun _ s7 ⟨x, H7, I7, r7, y7, st7, n7⟩ => ?_
      have I7' := I7.pinned (stat I7 n7) (T.obj _ _ st7)
      refine seg_bind_wrap ?_
      rw [over_loopC]
      refine wpAny_mono (pg.run _ s7 _ H7 x u _ I7' r7 (step x H7 y7)) (fun _ s8 ⟨σ8, H8, I8, hw8, q8⟩ => ?_) fun _ _ e => e.elim
      have fin : ∀ {s' : Shared} {H' : Hp}, Inv (gcx X A N s4 H0 cenv fp) ([(a, go)] ++ pinsAt fp s7.heap) σ8 H' s' → Inv (gcx X A N s4 H0 cenv fp) [(a, go)] σ0 H' s' ∧ tn (i + 1) s'.heap ∧ ∀ b ∈ fp, H' b = none := fun {s' H'} I' => by
        have pin' : ∀ b ∈ fp, ∀ o, s7.heap.get? b = some o → s'.heap.get? b = some o ∧ H' b = none := fun b hb o e =>
          let z := I'.pin (b, o) (List.mem_append_right _ (List.mem_append_right _ (mem_pinsAt hb e)))
          ⟨z.1, z.2.1⟩
        have hl : σ0.length = σ8.length := by rw [← hw8, wipe_length]
        refine ⟨(I'.unpinned (pins := [(a, go)])).weak hl (fun j v e => ?_), T.keep _ _ _ st7 fun b hb o e => (pin' b hb o e).1, fun b hb => ?_⟩
        · rw [← hw8] at e
          exact (wipe_some e).1
        · obtain ⟨o, e, _⟩ := T.obj _ _ st7 b hb
          exact (pin' b hb o e).2
      simp only [List.forIn_nil]
      refine seg_bind_wrap (wpAny_pure ?_)
      simp only [if_true]
      simp only [hy]
      rw [Sem.bind_eq_wrap', Sem.bind_eq_wrap', Sem.wrap_wrap, Sem.wrap_wrap]
      refine seg_wrap ?_
      rw [over_loopC]
      refine wpAny_mono (pe.run _ s8 σ8 H8 _ I8 q8) (fun v s10 ⟨y, H10, I10, r10, b, hyb, q10⟩ => ?_) fun _ _ e => e.elim
      subst hyb
      obtain rfl : v = Value.bool b := r10
      obtain ⟨J1, J2, J3⟩ := fin I10
      have hga : s10.heap.IsGen a gi := hgen _ (J1.pin (a, go) (List.mem_append_right _ (List.mem_singleton.mpr rfl))).1
      refine seg_at (seg_yield rfl rfl rfl ⟨b, rfl, hga, J1.nolimit, J1.bare, fun hb s'' e1 e2 e3 => ?_, fun hb => ?_⟩)
      · subst hb
        rw [if_pos rfl] at q10
        obtain ⟨m', hm', w'⟩ := hNx H10 q10
        refine seg_again rfl (ih m' hm' n (i + 1) H10 s'' s'' (by omega) w' (inv_same J1 (fun x o e => by rw [e1]; exact e) e2 e3) (by rw [e1]; exact J2) J3)
      · subst hb
        rw [if_neg Bool.false_ne_true] at q10
        exact hfin false s10 H10 J1 q10
theorem gx_begin (hh : A.handled = none) (hco : cenv.scope.isCoroutine = false) (T : Turn X.prog X.w X.K tg J fp it tn) (haf : a ∉ fp) (hgen : ∀ h : Heap, h.get? a = some go → h.IsGen a gi)
    (pg : PG (gcx X A N s4 H0 cenv fp) tg g) (pe : PE (gcx X A N s4 H0 cenv fp) elt te) (turn : Turns J σ0 vs g te Qe W)
    (hfin : ∀ b s H', Inv (gcx X A N s4 H0 cenv fp) [(a, go)] σ0 H' s → Qe b H' → Done Qf b s) {m : Nat} {H : Hp} {s : Shared} (w0 : W 0 m H) (I : Inv (gcx X A N s4 H0 cenv fp) [(a, go)] σ0 H s) (hst : tn 0 s.heap) (hn : ∀ b ∈ fp, H b = none) :
    Seg (model X.prog X.w) A (fun n s₀ r s₁ => r = .ok .next ∧ GEndA Qf n s₀ s₁) (GProto Qf a gi) (m + 1) s (.compStart (.GeneratorExp elt [⟨tg, iter, [], 0⟩] scope pos) 0 (.ref it) .none cenv)
      ((model X.prog X.w).den (.compStart (.GeneratorExp elt [⟨tg, iter, [], 0⟩] scope pos) 0 (.ref it) .none cenv)) [] s := by
  have loop := gx_loop (iter := iter) (scope := scope) (pos := pos) hh hco T haf hgen pg pe turn hfin m (m + 1) 0 H s s (Nat.lt_succ_self _) w0 I hst hn
  show Seg _ A _ _ _ s _ ((compStart (.GeneratorExp elt [⟨tg, iter, [], 0⟩] scope pos) 0 (.ref it) .none cenv).onRaise (leaving cenv)) [] s
  unfold compStart
  rw [Sem.onRaise_eq_wrap]
  show Seg _ A _ _ _ s _ ((ask >>= _).wrap _ _ _ _) [] s
  refine seg_bind_wrap (wpAny_askSetting ?_)
  split
  · exact seg_again rfl loop
  · first
      | exact seg_bind_wrap (wpAny_rule (seg_bind_wrap (wpAny_standAt (seg_bind_wrap (T.self _ 0 s _ _ hst (seg_again rfl loop))))))
      | (refine seg_bind_wrap (wpAny_rule ?_); show Seg _ A _ _ _ s _ ((standAt iter.pos >>= _).wrap _ _ _ _) [] s; exact seg_bind_wrap (wpAny_standAt (seg_bind_wrap (T.self _ 0 s _ _ hst (seg_again rfl loop)))))
end
/-! the rule -/
section
variable {X : Cx}
/-- all(elt for tg in iter) -/
def tAllG (P : Addr) (wi : TI) (own : List Str) (caps : List (Str × Nat)) (vs : List Nat) (g : TG) (te : TE) : TE := fun σ H Q => wi σ H fun J H1 => TabG H1 P ∧ ∀ H2, Tabbed P H1 H2 → ∃ W : Nat → Nat → Hp → Prop, (∃ m, W 0 m H2) ∧ Turns J (gxSt own caps σ) vs g te (fun b H' => Q (.bl b) H') W
theorem pe_allG {c P : Addr} {elt tg iter : Expr} {p pos gpos : Pos} {scope : Scope} {own : List Str} {caps : List (Str × Nat)} {vs : List Nat} {wi : TI} {g : TG} {te : TE} {k : Nat}
    (hr : Room k X.A) (hg : Gl X "all") (hm : X.mg "all" = none) (TB : TabB X.base X.mg c P) (hcode : X.env.code = .ref c) (S : GxS X.N X.env.scope scope own caps) (hi : PI X tg iter wi)
    (pg : ∀ (s : Shared) (H : Hp) (C : Addr) (cd : Value) (fp : List Addr), PG (gcx X X.A.in1.in1 (gxN own caps) s H (gxEnv X scope C cd) fp) tg g)
    (pe : ∀ (s : Shared) (H : Hp) (C : Addr) (cd : Value) (fp : List Addr), PE (gcx X X.A.in1.in1 (gxN own caps) s H (gxEnv X scope C cd) fp) elt te)
    (hs : ∀ v, genFold iter X.env v = pure v := by intro _; rfl)
    (he : starEach [.GeneratorExp elt [⟨tg, iter, [], 0⟩] scope gpos] X.env = (false, eval (.GeneratorExp elt [⟨tg, iter, [], 0⟩] scope gpos) X.env) :: starEach [] X.env := by rfl) :
    PE X (.Call (.Name "all" p) [.GeneratorExp elt [⟨tg, iter, [], 0⟩] scope gpos] [] pos) (tAllG P wi own caps vs g te) := by
  refine ⟨fun pins s σ H Q I h => ?_⟩
  have hfree : ∀ y ∈ scope.names, y.2 = .free → ∃ c, X.env.cells.lookup y.1 = some c := fun y hy e => by
    rcases S.free y hy e with k | k
    · exact I.ok.has _ (.inl k)
    · exact I.ok.has _ (.inr k)
  refine wpAny_Call_Name_kw (ld_blt I hg hm PyProof.Rows.boot_all ?_)
  refine PyProof.Rows.callWith_builtin1 ?_ he (by rfl)
  rw [he]
  show wpAny _ _ (spliced ((false, eval (.GeneratorExp elt [⟨tg, iter, [], 0⟩] scope gpos) X.env) :: backTo pos (starEach [] X.env))) _ _ s
  refine Calls.spliced_cons ?_
  refine wpAny_GeneratorExp_make S.co (closure_ok hfree) S.cell S.dot S.kind (by have := hr.dp; omega) ?_ hs
  refine thn (hi.run pins s σ H _ I h) fun xv s1 hx => thn hx fun itv s2 h2 => ?_
  obtain ⟨it, fp, tn, J, H1, rfl, I2, T, st2, f2, ⟨ps, hP, ht⟩, q⟩ := h2
  refine ⟨I2.nolimit, ?_⟩
  have hPs : s2.heap.get? P = some { cls := .none, data := .fields ps } := I2.hok P _ hP
  have cd : PySem.W.CodeHd s2.heap c P := TB.code.keeps I2.bk
  have sz2 : ∀ b ∈ fp, b < s2.heap.objs.size := fun b hb => by
    obtain ⟨o, e, _⟩ := T.obj _ _ st2 b hb
    exact Heap.lt_size e
  have cont : ∀ (code : Value) (h3 : Heap) (tk : Nat) (ps' more : Array Value), Heap.ExtBut P s2.heap h3 → s2.heap.objs.size ≤ h3.objs.size → h3.get? P = some { cls := .none, data := .fields ps' } → ps' = ps ++ more → TriplesOk ps'.toList →
      wpAny (model X.prog X.w) X.A (builtinsFor X.env.globals X.env.builtins) (fun bi s₄ =>
        ∀ h', h'.Ns s₄.heap.objs.size (fun y => if y = ".0" then some (.ref it) else none) → Heap.SameBut s₄.heap.objs.size (s₄.heap.push { cls := .type "frame", data := .dict #[] }) h' →
          wpAny (model X.prog X.w) X.A (spliced (backTo pos (starEach [] X.env))) (fun us s' => wpAny (model X.prog X.w) X.A (call (.builtin "all") (.ref h'.objs.size :: us)) (EP X pins σ Q) X.xe s') X.xe { s₄ with
            gens := s₄.gens.push (.fresh (.compStart (.GeneratorExp elt [⟨tg, iter, [], 0⟩] scope gpos) 0 (.ref it) .none (genEnv scope (cloFrom X.env.cells scope.names []) s₄.heap.objs.size code bi X.env))),
            toks := s₄.toks + 1 + 1 + 1,
            heap := h'.push { cls := .type "generator", data := .fields #[.int s₄.gens.size 0, .str "<genexpr>" (s₄.toks + 1), .str (X.env.qual ++ "<genexpr>") (s₄.toks + 1 + 1)] } }) X.xe { s2 with heap := h3, toks := tk } := by
    intro code h3 tk ps' more hx hsz hP3 hmore ht3
    obtain ⟨bm, ob, e1, e2, e3, e4, e5, e6, e7, e8⟩ := TB.bm
    have keep3 : ∀ b u, b ≠ P → s2.heap.get? b = some u → h3.get? b = some u := fun b u hb e => hx b u hb e
    refine wpAny_builtinsFor (m := X.mg) (by rw [I2.ok.glob]; exact (I2.mod.glob.keeps I2.bk).extBut hx TB.gP) e1 e2 (keep3 _ _ e4 (I2.bk _ _ e5)) e6 e7 e8 ?_
    intro h' hns hsb
    have I3 : Inv X pins σ (upd H1 P (.tbl (ps ++ more))) { s2 with heap := h3, toks := tk } := inv_tab (more := more) (g' := s2.gens) (d' := s2.drawn) (t' := tk) I2 hP keep3 (by rw [← hmore]; exact hP3) I2.bare
    have hT : Tabbed P H1 (upd H1 P (.tbl (ps ++ more))) := ⟨⟨ps ++ more, upd_same, by rw [← hmore]; exact ht3⟩, fun b hb => upd_ne hb⟩
    obtain ⟨W, ⟨m, w0⟩, turn⟩ := q _ hT
    have nP : ∀ b ∈ fp, b ≠ P := fun b hb z => by
      have := (f2 b hb).1
      rw [z, hP] at this
      cases this
    have f3 : ∀ b ∈ fp, FpOk X pins (upd H1 P (.tbl (ps ++ more))) b ∧ b < h3.objs.size := fun b hb => ⟨⟨by rw [upd_ne (nP b hb)]; exact (f2 b hb).1, (f2 b hb).2⟩, Nat.lt_of_lt_of_le (sz2 b hb) hsz⟩
    generalize upd H1 P (.tbl (ps ++ more)) = H3 at I3 w0 f3
    have hsz' : h'.objs.size = h3.objs.size + 1 := by rw [hsb.1, Heap.size_push]
    have keep' : ∀ b o, h3.get? b = some o → h'.get? b = some o := fun b o e => hsb.extBut b o (Nat.ne_of_lt (Heap.lt_size e)) (Heap.get?_push_of_some _ e)
    refine Calls.spliced_nil ?_
    generalize hgo : ({ cls := .type "generator", data := .fields #[.int s2.gens.size 0, .str "<genexpr>" (tk + 1), .str (X.env.qual ++ "<genexpr>") (tk + 1 + 1)] } : Obj) = go
    have hgen : ∀ hp : Heap, hp.get? h'.objs.size = some go → hp.IsGen h'.objs.size s2.gens.size := fun hp e => ⟨go, _, _, e, by rw [← hgo], by rw [← hgo], by rw [← hgo]⟩
    have hput : (h'.push go).get? h'.objs.size = some go := Heap.get?_push_size _ (by rw [← hgo]; rfl)
    have hgd : ∀ v, go.data ≠ .cell v := fun v z => by rw [← hgo] at z; cases z
    show wpAny _ _ (call (.builtin "all") [.ref h'.objs.size]) _ _ { s2 with gens := s2.gens.push (.fresh (.compStart (.GeneratorExp elt [⟨tg, iter, [], 0⟩] scope gpos) 0 (.ref it) .none (gxEnv X scope h3.objs.size code))), toks := tk + 1 + 1 + 1, heap := h'.push go }
    have keep5 : ∀ b o, h3.get? b = some o → (h'.push go).get? b = some o := fun b o e => Heap.get?_push_of_some _ (keep' b o e)
    have hb5 : AllBare (s2.gens.push (.fresh (.compStart (.GeneratorExp elt [⟨tg, iter, [], 0⟩] scope gpos) 0 (.ref it) .none (gxEnv X scope h3.objs.size code)))) := I2.bare.push rfl
    have hrun : AllBare (({ s2 with gens := s2.gens.push (.fresh (.compStart (.GeneratorExp elt [⟨tg, iter, [], 0⟩] scope gpos) 0 (.ref it) .none (gxEnv X scope h3.objs.size code))), toks := tk + 1 + 1 + 1, heap := h'.push go } : Shared).setGen s2.gens.size .running).gens := allBare_setGen hb5 rfl
    have G0 : Inv (gcx X X.A.in1.in1 (gxN own caps) { s2 with heap := h3, toks := tk } H3 (gxEnv X scope h3.objs.size code) fp) [] (gxSt own caps σ) H3 (({ s2 with gens := s2.gens.push (.fresh (.compStart (.GeneratorExp elt [⟨tg, iter, [], 0⟩] scope gpos) 0 (.ref it) .none (gxEnv X scope h3.objs.size code))), toks := tk + 1 + 1 + 1, heap := h'.push go } : Shared).setGen s2.gens.size .running) :=
      gx_start (s := { s2 with heap := h3, toks := tk }) I3 S hr.hd I3.ok.frames f3 (hns.push go) keep5 rfl hrun
    have hna : H3 h'.objs.size = none := I3.hok.fresh (by show h3.objs.size ≤ h'.objs.size; omega)
    have G1 : Inv (gcx X X.A.in1.in1 (gxN own caps) { s2 with heap := h3, toks := tk } H3 (gxEnv X scope h3.objs.size code) fp) [(h'.objs.size, go)] (gxSt own caps σ) H3 (({ s2 with gens := s2.gens.push (.fresh (.compStart (.GeneratorExp elt [⟨tg, iter, [], 0⟩] scope gpos) 0 (.ref it) .none (gxEnv X scope h3.objs.size code))), toks := tk + 1 + 1 + 1, heap := h'.push go } : Shared).setGen s2.gens.size .running) :=
      G0.pins_of fun p hp => by
        rw [List.mem_singleton.mp hp]
        refine ⟨hput, hna, ?_, fun z => ?_, hgd⟩
        · show h'.objs.size ≠ h3.objs.size
          omega
        · have z : h'.objs.size ∈ frs X.stack := z
          rcases List.mem_cons.mp (I3.stkSub _ z) with z | z
          · have h1 := I3.lt
            rw [← z] at h1
            have h1 : h'.objs.size < h3.objs.size := h1
            omega
          · exact I3.nofs (show h3.objs.size ≤ h'.objs.size by omega) z
    have st5 : tn 0 (h'.push go) := T.keep _ _ _ st2 fun b hb o e => keep5 b o (keep3 b o (nP b hb) e)
    refine call_all_gen (n := m + 1) hr.hd (by have := hr.dp; omega) (hgen _ hput) (I3.nolimit.keeps keep5) ⟨_, Array.getElem?_push_size .., rfl, ?_⟩
    refine gx_begin (A := X.A.in1.in1) (N := gxN own caps) (σ0 := gxSt own caps σ) (vs := vs) (g := g) (te := te) (Qe := fun b H' => Q (.bl b) H') (W := W) hr.hd S.co T (fun z => ?_) hgen (pg _ _ _ _ _) (pe _ _ _ _ _) turn (fun b s6 H6 J6 q6 s7 k7 o7 b7 => ?_) w0 G1 st5 (fun b hb => (f3 b hb).1.1)
    · have z2 : h'.objs.size < h3.objs.size := (f3 _ z).2
      rw [hsz'] at z2
      exact absurd z2 (by omega)
    · have I6 : Inv X pins σ H6 s6 := I3.call' (ch := fp) J6.os J6.base J6.hok J6.bare fun b hb => ⟨(f3 b hb).1.2.2.2.1, (f3 b hb).1.2.1, (f3 b hb).1.2.2.2.2.1, (f3 b hb).1.2.2.2.2.2⟩
      exact ⟨.bl b, H6, inv_same I6 k7 o7 b7, rfl, q6⟩
  cases hf : codeAmong gpos ps.toList with
  | none =>
    refine wpAny_genexprCodeX hcode (cd.code hPs ht) (cd.tab hPs) hf fun c' h' tk hx hge hlt hco' _ htab' _ => ?_
    obtain ⟨o1, vs, f1, tf, fl, tg, inF, tx, tt, op, _, _, _, _, _, _, _, _, _, htr, _⟩ := hco'
    exact cont _ h' tk _ _ hx (Nat.le_trans hge (Nat.le_of_lt hlt)) htab'.2 rfl htr
  | some cv =>
    refine wpAny_genexprCode_hit hcode (cd.code hPs ht) hf ?_
    exact cont cv s2.heap s2.toks ps #[] (Heap.ExtBut.refl _ _) (Nat.le_refl _) hPs (by simp) ht
end
end Kg

/-! defs that are called where no repr is under way -/
namespace Kf
open PySem PySem.Spec PyProof.Rows L2 LamX
/-- no repr is under way -/
abbrev Still (A : Around) : Prop := A.guards = some []
/-- a def's promise, called where no repr is under way -/
structure FnG (P : Program) (w : World) (K : PySem.W.Frag) (mg : Str → Option Value) (base : Heap) (CX : CXT) (k : Nat) (f : Addr) (fd : FuncData) (ps : List Str) (sp : Sp) : Prop where
  cnt : ∀ vs H Q E, sp vs H Q E → vs.length = ps.length
  go : ∀ (A : Around) (o : List Env) (s : Shared) (H : Hp) (r : Args) (us : List Value) (vs : List V) (Q : VK) (E : XK), Still A → Room k A → Env0 P w K mg base A o s H → BindsTo s fd r (ps.zip us) → Vals vs us → sp vs H Q E →
    codeAny (model P w) A (.call (.ref f) r) (CR CX o P w H s Q E) s
section
variable {P : Program} {w : World} {K : PySem.W.Frag} {mg : Str → Option Value} {base : Heap} {CX : CXT}
theorem FnG.of {k : Nat} {f : Addr} {fd : FuncData} {ps : List Str} {sp : Sp} (F : FnOk P w K mg base CX k f fd ps sp) : FnG P w K mg base CX k f fd ps sp :=
  ⟨F.len, fun A o s H r us vs Q E _ => F.run A o s H r us vs Q E⟩
theorem FnG.up {j k : Nat} {f : Addr} {fd : FuncData} {ps : List Str} {sp : Sp} (F : FnG P w K mg base CX j f fd ps sp) (h : j ≤ k) : FnG P w K mg base CX k f fd ps sp :=
  ⟨F.cnt, fun A o s H r us vs Q E g hr => F.go A o s H r us vs Q E g (hr.mono h)⟩
/-- a def by its body -/
theorem fnG_of {k : Nat} {f : Addr} {nm ql : Str} {prm : Arguments} {bd : List Stmt} {sco : Scope} {dV kV doc pm cdv ct oc : Value} {an od : Option Addr} {sl : Array (Option Value)} {N ps : List Str} {sp : Sp}
    (at' : K.lookup f = some ⟨oc, od, .func (PySem.W.fnOf nm ql prm bd sco dV kV doc pm an cdv ct), sl⟩) (hc : PySem.W.codeIn K cdv ql = true) (S : FnScope N ps sco) (cnt : ∀ vs H Q E, sp vs H Q E → vs.length = ps.length)
    (body : ∀ (A : Around) (o : List Env) (s : Shared) (H : Hp) (vs : List V) (Q : VK) (E : XK), Still A → Room k (A.deeper (envOfC ql sco s.heap.objs.size f cdv)) → sp vs H Q E →
      ∃ t, PSs (cxOf CX P w K mg base N ql sco f cdv A o s H E) bd t ∧ t { nx := fun _ G => Q .non G, rt := Q } (start N vs) H) : FnG P w K mg base CX (k + 1) f (PySem.W.fnOf nm ql prm bd sco dV kV doc pm an cdv ct) ps sp where
  cnt := cnt
  go := by
    intro A o s H r us vs Q E still room e0 binds vals hsp
    have hold := fun b u (z : base.get? b = some u) => (e0.bs b u z).1
    have kx := e0.mod.kin.keeps hold
    have par : ∀ z ∈ ps.zip us, sco.names.lookup z.1 = some .local ∨ (sco.names.lookup z.1 = some .cell ∧ ((cellsFrom (s.heap.objs.size + 1) sco.names []).lookup z.1).isSome = true) := by
      intro z hz
      have hm : z.1 ∈ ps := (List.of_mem_zip (a := z.1) (b := z.2) hz).1
      exact (S.par z.1 hm).imp id fun q => ⟨q, PySem.W.cellsFrom_some _ _ _ (.inl q)⟩
    refine codeAny_call_function room.depth (kx _ _ at') rfl S.co S.gen rfl (PySem.W.codeRec_of kx hc) (binds _ _ _ _ (wpAny_newFunctionEnv_cells S.kind par ?_))
    rintro env rfl s1 x
    refine ⟨(e0.mod.nolimit.keeps hold).keeps x.toInCall.keep, codeAny_func ?_⟩
    obtain ⟨t, ht, hq⟩ := body A o s H vs Q E still (room.deeper _) hsp
    refine wpAny_mono (ht.run [] s1 (start N vs) H _ (inv_start S room.hd e0 (cnt _ _ _ _ hsp) vals x) hq) ?_ (fun _ _ z => z)
    intro fl s2 z
    match fl, z with
    | .ret u, ⟨v, _, G, J, rv, q⟩ => exact ⟨v, G, J.os, J.bare, J.base, J.hok, rv, q⟩
    | .next, ⟨_, G, J, q⟩ => exact ⟨V.non, G, J.os, J.bare, J.base, J.hok, rfl, q⟩
    | .brk, ⟨_, _, _, q⟩ => exact q.elim
    | .cont, ⟨_, _, _, q⟩ => exact q.elim
/-- a def of the text that lets nothing out -/
theorem okG {x ql : Str} {st : Stmt} {f : Addr} {fd : FuncData} {N ps : List Str} {k : Nat} {sp : Sp} (F : Fun K x ql st f fd) (S : FnScope N ps (defScope st)) (cnt : ∀ vs H Q E, sp vs H Q E → vs.length = ps.length)
    (body : ∀ (cdv : Value) (A : Around) (o : List Env) (s : Shared) (H : Hp) (vs : List V) (Q : VK) (E : XK), Still A → Room k (A.deeper (envOfC ql (defScope st) s.heap.objs.size f cdv)) → sp vs H Q E →
      ∃ t, PSs (cxOf CX0 P w K mg base N ql (defScope st) f cdv A o s H E).nox (defBody st) t ∧ t { nx := fun _ G => Q .non G, rt := Q } (start N vs) H) : FnG P w K mg base CX0 (k + 1) f fd ps sp := by
  obtain ⟨oc, od, kV, doc, pm, an, cdv, ct, sl, rfl, hl, hc⟩ := F.ex
  exact fnG_of hl hc S cnt fun A o s H vs Q E g hr h => (body cdv A o s H vs Q E g hr h).imp fun t z => ⟨z.1.nox, z.2⟩
end
section
variable {X : Cx} {CX : CXT} {k : Nat} {f : Addr} {fd : FuncData} {ps : List Str} {sp : Sp} {dvs : List V} {ds : List Value} {E : XK} {x : Str} {p pos : Pos} {e : Expr} {es : List Expr} {t : TA}
theorem goG {pins : List (Addr × Obj)} {σ : L2.St} {H : Hp} {s : Shared} {Q : VK} {us : List Value} {vs : List V} (F : FnG X.prog X.w X.K X.mg X.base CX k f fd ps sp) (g : Still X.A) (hr : Room k X.A) (hb : Binds X.K fd ps ds) (hd : Vals dvs ds) (hx : Passes CX X E) (I : Inv X pins σ H s) (rv : Vals vs us)
    (h : sp (vs ++ dvs) H Q E) : wpAny (model X.prog X.w) X.A (call (.ref f) us) (EP X pins σ Q) X.xe s := by
  have both := rv.append hd
  have n : (us ++ ds).length = ps.length := both.length.symm.trans (F.cnt _ _ _ _ h)
  refine wpAny_call (codeAny_mono (F.go X.A X.stack s H ⟨us, []⟩ _ _ Q E g hr I.env0 (hb s us I.kIn n) both h) ?_)
  intro r s2 z
  match r, z with
  | .error u, z => exact hx pins σ H s u s2 I z
  | .ok (.ret u), z => exact I.after z
  | .ok .next, z => exact z.elim
  | .ok .brk, z => exact z.elim
  | .ok .cont, z => exact z.elim
/-- f(e, ..) -/
theorem pe_callG (F : FnG X.prog X.w X.K X.mg X.base CX k f fd ps sp) (g : Still X.A) (hr : Room k X.A) (hg : Gl X x) (hm : X.mg x = some (.ref f)) (hk : PySem.W.keepIn X.K (.ref f) = true) (hb : Binds X.K fd ps ds) (hd : Vals dvs ds) (hx : Passes CX X E) (ha : PA X (e :: es) t)
    (hn : (x == ("__debug__" : Str)) = false := by decide) (h1 : starEach (e :: es) X.env = (false, eval e X.env) :: starEach es X.env := by rfl) (h2 : (backTo pos (starEach es X.env)).any (·.1) = false := by rfl) : PE X (.Call (.Name x p) (e :: es) [] pos) (tCall sp dvs E t) := by
  constructor
  intro pins s σ H Q I h
  refine wpAny_Call_Name_kw (ld_glob I hg hm (PySem.W.callWith_K (h₀ := X.base) I.ok.mod.kin hk (thn (ha.run pos pins s σ H _ I h) ?_) h1 h2) hn)
  rintro us s2 ⟨vs, G, J, rv, q⟩
  exact ⟨J.kIn, goG F g hr hb hd hx J rv q⟩
end
end Kf

/-! repr of data -/
namespace Kf
open PySem PySem.Spec PyProof.Rows L2
/-- data that shows as it is, of at most so many in one another -/
structure Shows (n : Nat) (d : PyData) : Prop where
  ok : d.showable = true
  nd : d.hasDict = false
  dp : d.depth ≤ n
  sz : d.shown.length ≤ sizeLine
def rShow (K : PySem.W.Frag) (n : Nat) : List V → Hp → VK → Prop := fun xs H Q => ∃ (a : Addr) (d : PyData), xs = [.ref a] ∧ Dp K H (.ref a) d ∧ Shows n d ∧ Q (.str d.shown) H
theorem call_show {X : Cx} {n : Nat} (g : Still X.A) (hu : X.A.units + (n + 1) < cLine) : CallR X (.builtin "repr") (rShow X.K n) := by
  intro pins s σ H xs us Q I r h
  obtain ⟨a, d, rfl, hd, sh, q⟩ := h
  rw [Vals.ref1 r]
  obtain ⟨as, rd⟩ := Dp.reads I d _ (.ref a) hd rfl
  exact repr_of_reads' rd sh.ok (PyData.noDict_hsm sh.nd) g (by have := sh.dp; omega) (fun _ _ e => e) (fun h' u tk hk => ⟨.str d.shown, H, I.kept hk, ⟨u, rfl⟩, q⟩) sh.sz
end Kf

/-! things of anything: none, truths, numbers, texts, tuples, lists, the empty dict -/
namespace Kv
open PySem PySem.Spec PyProof.Rows L2 Kf
inductive Dt where
  | non
  | bl (b : Bool)
  | int (i : Int)
  | str (x : Str)
  | tup (xs : List Dt)
  | lst (xs : List Dt)
  | dct (kvs : List (Str × Int))
/-- a dict of texts with numbers -/
def dkv (kvs : List (Str × Int)) : List (Key × V) := kvs.map fun p => (.inr p.1, .int p.2)
def dkp (kvs : List (Str × Int)) : List (PyData × PyData) := kvs.map fun p => (.str p.1, .int p.2)
mutual
/-- the thing stands at v; its lists and dicts at places N -/
inductive Dd (N : Addr → Prop) (H : Hp) : Dt → V → Prop
  | non : Dd N H .non .non
  | bl (b : Bool) : Dd N H (.bl b) (.bl b)
  | int (i : Int) : Dd N H (.int i) (.int i)
  | str (x : Str) : Dd N H (.str x) (.str x)
  | tup {a : Addr} {xs : List Dt} {vs : List V} : H a = some (.tup vs) → DdL N H xs vs → Dd N H (.tup xs) (.ref a)
  | lst {a : Addr} {xs : List Dt} {vs : List V} : N a → H a = some (.lst vs) → DdL N H xs vs → Dd N H (.lst xs) (.ref a)
  | dct {a : Addr} {kvs : List (Str × Int)} : N a → H a = some (.dK (dkv kvs)) → Dd N H (.dct kvs) (.ref a)
inductive DdL (N : Addr → Prop) (H : Hp) : List Dt → List V → Prop
  | nil : DdL N H [] []
  | cons {x : Dt} {xs : List Dt} {v : V} {vs : List V} : Dd N H x v → DdL N H xs vs → DdL N H (x :: xs) (v :: vs)
end
/-- what stood of tuples, and of lists and dicts at N, stands -/
structure Kn (N : Addr → Prop) (H G : Hp) : Prop where
  tup : ∀ b xs, H b = some (.tup xs) → G b = some (.tup xs)
  lst : ∀ b xs, N b → H b = some (.lst xs) → G b = some (.lst xs)
  dic : ∀ b xs, N b → H b = some (.dK xs) → G b = some (.dK xs)
theorem Kn.of {N : Addr → Prop} {H G : Hp} (s : Same H G) : Kn N H G := ⟨fun b _ e => s b _ e, fun b _ _ e => s b _ e, fun b _ _ e => s b _ e⟩
theorem Kn.trans {N : Addr → Prop} {H G F : Hp} (a : Kn N H G) (b : Kn N G F) : Kn N H F := ⟨fun x _ e => b.tup x _ (a.tup x _ e), fun x _ n e => b.lst x _ n (a.lst x _ n e), fun x _ n e => b.dic x _ n (a.dic x _ n e)⟩
theorem Kn.rfl {N : Addr → Prop} {H : Hp} : Kn N H H := ⟨fun _ _ e => e, fun _ _ _ e => e, fun _ _ _ e => e⟩
theorem Kn.sub {N M : Addr → Prop} {H G : Hp} (k : Kn N H G) (h : ∀ b, M b → N b) : Kn M H G := ⟨k.tup, fun b xs n e => k.lst b xs (h b n) e, fun b xs n e => k.dic b xs (h b n) e⟩
/-- another list, dict or the like is put at p -/
theorem Kn.put {N : Addr → Prop} {H G : Hp} {p : Addr} {o : HO} (k : Kn N H G) (n : ¬ N p) (h : ∀ xs, H p ≠ some (.tup xs)) : Kn N H (upd G p o) := by
  refine ⟨fun b xs e => ?_, fun b u hb e => ?_, fun b u hb e => ?_⟩
  · rw [upd_ne (fun z => h xs (by rw [← z]; exact e))]
    exact k.tup b xs e
  · rw [upd_ne (fun z => n (by rw [← z]; exact hb))]
    exact k.lst b u hb e
  · rw [upd_ne (fun z => n (by rw [← z]; exact hb))]
    exact k.dic b u hb e
/-- what was free is put at p -/
theorem Kn.new {N : Addr → Prop} {H G : Hp} {p : Addr} {o : HO} (k : Kn N H G) (h : H p = none) : Kn N H (upd G p o) := by
  refine ⟨fun b xs e => ?_, fun b u hb e => ?_, fun b u hb e => ?_⟩
  · rw [upd_ne (ne_of_none e h)]
    exact k.tup b xs e
  · rw [upd_ne (ne_of_none e h)]
    exact k.lst b u hb e
  · rw [upd_ne (ne_of_none e h)]
    exact k.dic b u hb e
mutual
theorem Dd.kn {N : Addr → Prop} {H G : Hp} (k : Kn N H G) : ∀ {x : Dt} {v : V}, Dd N H x v → Dd N G x v
  | _, _, .non => .non
  | _, _, .bl b => .bl b
  | _, _, .int i => .int i
  | _, _, .str x => .str x
  | _, _, .tup h t => .tup (k.tup _ _ h) (t.kn k)
  | _, _, .lst n h t => .lst n (k.lst _ _ n h) (t.kn k)
  | _, _, .dct n h => .dct n (k.dic _ _ n h)
theorem DdL.kn {N : Addr → Prop} {H G : Hp} (k : Kn N H G) : ∀ {xs : List Dt} {vs : List V}, DdL N H xs vs → DdL N G xs vs
  | _, _, .nil => .nil
  | _, _, .cons h t => .cons (h.kn k) (t.kn k)
end
mutual
/-- at fewer, or other places, where the heap has nothing elsewhere -/
theorem Dd.at {N M : Addr → Prop} {H : Hp} (k : ∀ b u, N b → H b = some u → M b) : ∀ {x : Dt} {v : V}, Dd N H x v → Dd M H x v
  | _, _, .non => .non
  | _, _, .bl b => .bl b
  | _, _, .int i => .int i
  | _, _, .str x => .str x
  | _, _, .tup h t => .tup h (t.at k)
  | _, _, .lst n h t => .lst (k _ _ n h) h (t.at k)
  | _, _, .dct n h => .dct (k _ _ n h) h
theorem DdL.at {N M : Addr → Prop} {H : Hp} (k : ∀ b u, N b → H b = some u → M b) : ∀ {xs : List Dt} {vs : List V}, DdL N H xs vs → DdL M H xs vs
  | _, _, .nil => .nil
  | _, _, .cons h t => .cons (h.at k) (t.at k)
end
/-- at any places -/
abbrev Any : Addr → Prop := fun _ => True
theorem Dd.any {N : Addr → Prop} {H : Hp} {x : Dt} {v : V} (h : Dd N H x v) : Dd Any H x v := h.at fun _ _ _ _ => trivial
theorem DdL.any {N : Addr → Prop} {H : Hp} {x : List Dt} {v : List V} (h : DdL N H x v) : DdL Any H x v := h.at fun _ _ _ _ => trivial
theorem Dd.same {N : Addr → Prop} {H G : Hp} {x : Dt} {v : V} (h : Dd N H x v) (s : Same H G) : Dd N G x v := h.kn (.of s)
theorem DdL.same {N : Addr → Prop} {H G : Hp} {x : List Dt} {v : List V} (h : DdL N H x v) (s : Same H G) : DdL N G x v := h.kn (.of s)
section
variable {N : Addr → Prop} {H : Hp}
theorem DdL.len : ∀ {xs : List Dt} {vs : List V}, DdL N H xs vs → xs.length = vs.length
  | _, _, .nil => rfl
  | _, _, .cons _ t => congrArg (· + 1) t.len
theorem DdL.app : ∀ {xs ys : List Dt} {vs ws : List V}, DdL N H xs vs → DdL N H ys ws → DdL N H (xs ++ ys) (vs ++ ws)
  | _, _, _, _, .nil, h => h
  | _, _, _, _, .cons h t, k => .cons h (t.app k)
theorem DdL.get : ∀ {xs : List Dt} {vs : List V} {i : Nat} {v : V}, DdL N H xs vs → vs[i]? = some v → ∃ x, xs[i]? = some x ∧ Dd N H x v
  | _, _, i, v, .nil, e => by simp at e
  | _, _, 0, v, .cons (x := x) (v := w) h t, e => ⟨x, rfl, by rw [← show w = v from Option.some.inj e]; exact h⟩
  | _, _, i + 1, v, .cons h t, e => DdL.get (i := i) t e
theorem DdL.get' : ∀ {xs : List Dt} {vs : List V} {i : Nat} {x : Dt}, DdL N H xs vs → xs[i]? = some x → ∃ v, vs[i]? = some v ∧ Dd N H x v
  | _, _, i, v, .nil, e => by simp at e
  | _, _, 0, v, .cons (x := w) (v := y) h t, e => ⟨y, rfl, by rw [← show w = v from Option.some.inj e]; exact h⟩
  | _, _, i + 1, v, .cons h t, e => DdL.get' (i := i) t e
theorem DdL.drop : ∀ {xs : List Dt} {vs : List V} (n : Nat), DdL N H xs vs → DdL N H (xs.drop n) (vs.drop n)
  | _, _, 0, h => h
  | _, _, n + 1, .nil => .nil
  | _, _, n + 1, .cons _ t => t.drop n
theorem DdL.take : ∀ {xs : List Dt} {vs : List V} (n : Nat), DdL N H xs vs → DdL N H (xs.take n) (vs.take n)
  | _, _, 0, h => .nil
  | _, _, n + 1, .nil => .nil
  | _, _, n + 1, .cons h t => .cons h (t.take n)
theorem DdL.rev : ∀ {xs : List Dt} {vs : List V}, DdL N H xs vs → DdL N H xs.reverse vs.reverse
  | _, _, .nil => .nil
  | _, _, .cons (x := x) (xs := xs) (v := v) (vs := vs) h t => by
    rw [List.reverse_cons, List.reverse_cons]
    exact t.rev.app (.cons h .nil)
theorem DdL.last : ∀ {xs : List Dt} {vs : List V}, DdL N H xs vs → vs ≠ [] → ∃ ys y ws w, xs = ys ++ [y] ∧ vs = ws ++ [w] ∧ DdL N H ys ws ∧ Dd N H y w
  | _, _, .nil, n => absurd rfl n
  | _, _, .cons (x := x) (v := v) h .nil, _ => ⟨[], x, [], v, rfl, rfl, .nil, h⟩
  | _, _, .cons (x := x) (v := v) h (.cons h' t'), _ => by
    obtain ⟨ys, y, ws, w, e1, e2, k, r⟩ := DdL.last (.cons h' t') (by simp)
    exact ⟨x :: ys, y, v :: ws, w, by rw [e1]; rfl, by rw [e2]; rfl, .cons h k, r⟩
theorem DdL.strs : ∀ (xs : List Str), DdL N H (xs.map Dt.str) (xs.map V.str)
  | [] => .nil
  | x :: xs => .cons (.str x) (DdL.strs xs)
theorem DdL.ints : ∀ (xs : List Int), DdL N H (xs.map Dt.int) (xs.map V.int)
  | [] => .nil
  | x :: xs => .cons (.int x) (DdL.ints xs)
end
/-! their classes -/
def Dt.cls : Dt → String
  | .non => "NoneType"
  | .bl _ => "bool"
  | .int _ => "int"
  | .str _ => "str"
  | .tup _ => "tuple"
  | .lst _ => "list"
  | .dct _ => "dict"
theorem Dd.ty {K : PySem.W.Frag} {N : Addr → Prop} {H : Hp} {x : Dt} {v : V} (h : Dd N H x v) : TyX K H v (.type x.cls) := by
  cases h with
  | non => exact .base .non
  | bl b => exact .base (.bl b)
  | int i => exact .base (.int i)
  | str x => exact .base (.str x)
  | tup h _ => exact .base (.tup h)
  | lst _ h _ => exact .base (.lst h)
  | dct _ h => exact .base (.dK h)
def Dt.isTup : Dt → Bool
  | .tup _ => true
  | _ => false
def Dt.isStr : Dt → Bool
  | .str _ => true
  | _ => false
def Dt.isBl : Dt → Bool
  | .bl _ => true
  | _ => false
def Dt.isInt : Dt → Bool
  | .bl _ => true
  | .int _ => true
  | _ => false
def Dt.isLst : Dt → Bool
  | .lst _ => true
  | _ => false
/-- isinstance of such a thing: the answers -/
theorem kTup (K : PySem.W.Frag) : ∀ x : Dt, PySem.W.kitOne K (.type x.cls) (.type "tuple") = some x.isTup := by
  intro x
  cases x <;> (refine kit_ty ?_; simp only [Dt.cls, Dt.isTup]; decide +kernel)
theorem kStr (K : PySem.W.Frag) : ∀ x : Dt, PySem.W.kitOne K (.type x.cls) (.type "str") = some x.isStr := by
  intro x
  cases x <;> (refine kit_ty ?_; simp only [Dt.cls, Dt.isStr]; decide +kernel)
theorem kBl (K : PySem.W.Frag) : ∀ x : Dt, PySem.W.kitOne K (.type x.cls) (.type "bool") = some x.isBl := by
  intro x
  cases x <;> (refine kit_ty ?_; simp only [Dt.cls, Dt.isBl]; decide +kernel)
theorem kInt (K : PySem.W.Frag) : ∀ x : Dt, PySem.W.kitOne K (.type x.cls) (.type "int") = some x.isInt := by
  intro x
  cases x <;> (refine kit_ty ?_; simp only [Dt.cls, Dt.isInt]; decide +kernel)
theorem kLst (K : PySem.W.Frag) : ∀ x : Dt, PySem.W.kitOne K (.type x.cls) (.type "list") = some x.isLst := by
  intro x
  cases x <;> (refine kit_ty ?_; simp only [Dt.cls, Dt.isLst]; decide +kernel)
/-! as data, shown -/
mutual
def Dt.toP : Dt → PyData
  | .non => .none
  | .bl b => .bool b
  | .int i => .int i
  | .str x => .str x
  | .tup xs => .tuple (Dt.toPs xs)
  | .lst xs => .list (Dt.toPs xs)
  | .dct kvs => .dict (dkp kvs)
def Dt.toPs : List Dt → List PyData
  | [] => []
  | x :: xs => x.toP :: Dt.toPs xs
end
section
variable {X : Cx} {pins : List (Addr × Obj)} {σ : L2.St} {H : Hp} {s : Shared} {N : Addr → Prop}
theorem reads_pairs {P : Program} {w : World} {h : Heap} : ∀ {kvs : List (Str × Int)} {vs : List (Key × Value)} {es : List DictEntry}, KV (dkv kvs) vs → Pairs (mixKind P w) es vs → ReadsAll h (es.map (·.key)) ((dkp kvs).map (·.1)) [] ∧ ReadsAll h (es.map (·.val)) ((dkp kvs).map (·.2)) []
  | [], _, _, r, p => by
    unfold KV at r
    cases r
    cases p
    exact ⟨.nil, .nil⟩
  | (x, i) :: kvs, _, _, r, p => by
    unfold KV at r
    cases r with
    | cons hh t =>
      cases p with
      | cons h1 h2 t2 =>
        rename_i q qs e es
        obtain ⟨a, b⟩ := reads_pairs (P := P) (w := w) (h := h) (kvs := kvs) (by unfold KV; exact t) t2
        obtain ⟨g1, tk, g2⟩ := hh
        have h1 : keyIs q.1 e.key = true := h1
        rw [← g1] at h1
        rcases keyIs_shape h1 with ⟨j, u, z, _⟩ | ⟨y, u, z, ek⟩
        · cases z
        cases z
        obtain ⟨k0, v0⟩ := e
        cases ek
        have ev := h2.trans g2
        dsimp only at ev
        subst ev
        exact ⟨.cons (.str _ u) a, .cons (as := []) (.int _ tk) b⟩
/-- a dict, as an object -/
theorem dct_obj (I : Inv X pins σ H s) {a : Addr} {kvs : List (Str × Int)} (h : H a = some (.dK (dkv kvs))) : ∃ o es n, s.heap.get? a = some o ∧ o.cls = .type "dict" ∧ o.data = .dict es n ∧ (a == sysModules) = false ∧ ReadsAll s.heap (es.toList.map (·.key)) ((dkp kvs).map (·.1)) [] ∧ ReadsAll s.heap (es.toList.map (·.val)) ((dkp kvs).map (·.2)) [] := by
  obtain ⟨_, low, vs, kv, o, es, ep, ho, hx, hd, _, pr, _⟩ := dk_of I.hok h
  obtain ⟨r1, r2⟩ := reads_pairs (h := s.heap) kv pr
  exact ⟨o, es, ep, ho, hx.1, hd, low, r1, r2⟩
mutual
theorem Dd.reads (I : Inv X pins σ H s) : ∀ {x : Dt} {v : V}, Dd N H x v → ∀ {u : Value}, RelV v u → ∃ as, Reads s.heap u x.toP as
  | _, _, .non, _, r => by
    cases r
    exact ⟨_, .none⟩
  | _, _, .bl b, _, r => by
    cases r
    exact ⟨_, .bool b⟩
  | _, _, .int i, _, r => by
    obtain ⟨t, rfl⟩ := r
    exact ⟨_, .int i t⟩
  | _, _, .str x, _, r => by
    obtain ⟨t, rfl⟩ := r
    exact ⟨_, .str x t⟩
  | _, _, .tup h t, _, r => by
    cases r
    obtain ⟨its, rv, ⟨o, ho, hc, n, hd⟩, _⟩ := I.tuple (SqT.of h)
    obtain ⟨as, ra⟩ := t.reads I rv
    exact ⟨_, .tuple ho hc hd ra⟩
  | _, _, .lst _ h t, _, r => by
    cases r
    obtain ⟨its, rv, ⟨o, n, ho, hc, _, hd⟩, _⟩ := I.list (SqL.of h)
    obtain ⟨as, ra⟩ := t.reads I rv
    exact ⟨_, .list ho hc hd ra⟩
  | _, _, .dct _ h, _, r => by
    cases r
    obtain ⟨o, es, n, ho, hc, hd, _, h4, h5⟩ := dct_obj I h
    exact ⟨_, .dict ho hc hd h4 h5⟩
theorem DdL.reads (I : Inv X pins σ H s) : ∀ {xs : List Dt} {vs : List V}, DdL N H xs vs → ∀ {us : List Value}, Vals vs us → ∃ as, ReadsAll s.heap us (Dt.toPs xs) as
  | _, _, .nil, _, r => by
    cases r
    exact ⟨_, .nil⟩
  | _, _, .cons h t, _, r => by
    cases r with
    | cons r1 r2 =>
      obtain ⟨as, ra⟩ := h.reads I r1
      obtain ⟨bs, rb⟩ := t.reads I r2
      exact ⟨_, .cons ra rb⟩
end
theorem shownAll_le {xs : List PyData} {n : Nat} (h : ∀ t ∈ PyData.shownAll xs, t.length ≤ n) : ∀ t ∈ PyData.shownAll xs, t.length ≤ n := h
mutual
theorem Dd.reprK (I : Inv X pins σ H s) : ∀ {x : Dt} {v : V}, Dd N H x v → ∀ {u : Value}, RelV v u → x.toP.showable = true → x.toP.shown.length ≤ sizeLine → ∃ bs, ReadAtMost s.heap x.toP.depth bs ∧ ReprK X.prog X.w bs s.heap x.toP.depth u x.toP.shown
  | _, _, .non, _, r, _, _ => by
    cases r
    exact ⟨[], (fun _ h => nomatch h), by simp only [Dt.toP, PyData.shown]; exact .of_is ReprIs.none _ _ _⟩
  | _, _, .bl b, _, r, _, _ => by
    cases r
    exact ⟨[], (fun _ h => nomatch h), by simp only [Dt.toP, PyData.shown]; exact .of_is (ReprIs.bool b) _ _ _⟩
  | _, _, .int i, _, r, hs, _ => by
    obtain ⟨t, rfl⟩ := r
    exact ⟨[], (fun _ h => nomatch h), by simp only [Dt.toP, PyData.shown]; exact .of_is (ReprIs.int t (by simpa [Dt.toP, PyData.showable] using hs)) _ _ _⟩
  | _, _, .str x, _, r, _, hz => by
    obtain ⟨t, rfl⟩ := r
    exact ⟨[], (fun _ h => nomatch h), by simp only [Dt.toP, PyData.shown]; exact .of_is (ReprIs.str x t (by simpa only [Dt.toP, PyData.shown] using hz)) _ _ _⟩
  | _, _, .tup (a := a) (xs := xs) h t, _, r, hs, hz => by
    cases r
    obtain ⟨its, rv, ⟨o, ho, hc, n, hd⟩, _⟩ := I.tuple (SqT.of h)
    have hz' : (tupleText (PyData.shownAll (Dt.toPs xs))).length ≤ sizeLine := by simpa only [Dt.toP, PyData.shown] using hz
    obtain ⟨as, ra⟩ := t.reads I rv
    obtain ⟨bs, hb, hk⟩ := t.reprK I rv (by simpa [Dt.toP, PyData.showable] using hs) (fun t ht => Nat.le_trans (tupleText_mem_le ht) hz')
    have rd : Reads s.heap (.ref a) (.tuple (Dt.toPs xs)) _ := .tuple ho hc hd ra
    have na : a ∉ bs := not_mem_of_deeper rd (by simp only [PyData.depth]; omega) hb
    have le : PyData.depthAll (Dt.toPs xs) ≤ (PyData.tuple (Dt.toPs xs)).depth := by simp only [PyData.depth]; omega
    exact ⟨a :: bs, ReadAtMost.cons rd le hb, by simp only [Dt.toP, PyData.depth, PyData.shown]; exact ReprK.tuple ho hc hd na hk⟩
  | _, _, .lst (a := a) (xs := xs) (vs := vs) _ h t, _, r, hs, hz => by
    cases r
    obtain ⟨its, rv, ⟨o, n, ho, hc, _, hd⟩, _⟩ := I.list (SqL.of h)
    have hz' : (listText (PyData.shownAll (Dt.toPs xs))).length ≤ sizeLine := by simpa only [Dt.toP, PyData.shown] using hz
    obtain ⟨as, ra⟩ := t.reads I rv
    obtain ⟨bs, hb, hk⟩ := t.reprK I rv (by simpa [Dt.toP, PyData.showable] using hs) (fun t ht => Nat.le_trans (listText_mem_le ht) hz')
    have rd : Reads s.heap (.ref a) (.list (Dt.toPs xs)) _ := .list ho hc hd ra
    have na : a ∉ bs := not_mem_of_deeper rd (by simp only [PyData.depth]; omega) hb
    have le : PyData.depthAll (Dt.toPs xs) ≤ (PyData.list (Dt.toPs xs)).depth := by simp only [PyData.depth]; omega
    refine ⟨a :: bs, ReadAtMost.cons rd le hb, ?_⟩
    simp only [Dt.toP, PyData.depth, PyData.shown]
    cases its with
    | nil =>
      cases rv
      cases t
      simp only [Dt.toPs, PyData.shownAll, listText_nil]
      exact ReprK.listEmpty ho hc hd
    | cons y l => exact ReprK.list ho hc hd na (by simpa using hk.length_eq) (fun i y e => hk.item i y (by simpa using e))
  | _, _, .dct (a := a) (kvs := kvs) _ h, _, r, hs, hz => by
    cases r
    obtain ⟨o, es, n, ho, hc, hd, low, h4, h5⟩ := dct_obj I h
    have rd : Reads s.heap (.ref a) (.dict (dkp kvs)) _ := .dict ho hc hd h4 h5
    have hz' : (dictText (PyData.shownKv (dkp kvs))).length ≤ sizeLine := by simpa only [Dt.toP, PyData.shown] using hz
    obtain ⟨hs1, hs2⟩ := PyData.showableKv_split (dkp kvs) (by simpa [Dt.toP, PyData.showable] using hs)
    obtain ⟨b1, hb1, k1⟩ := ReprAllK.of_readsAll (prog := X.prog) (w := X.w) h4 hs1 (fun _ hm => nomatch hm) (fun t ht => let ⟨p, hp, hl⟩ := PyData.shownKv_key_le _ t ht; Nat.le_trans hl (Nat.le_trans (dictText_mem_le hp) hz'))
    obtain ⟨b2, hb2, k2⟩ := ReprAllK.of_readsAll (prog := X.prog) (w := X.w) h5 hs2 (fun _ hm => nomatch hm) (fun t ht => let ⟨p, hp, hl⟩ := PyData.shownKv_val_le _ t ht; Nat.le_trans hl (Nat.le_trans (dictText_mem_le hp) hz'))
    have hb : ReadAtMost s.heap (PyData.depthKv (dkp kvs)) (b1 ++ b2) := (hb1.mono (PyData.depthAll_keys_le _)).append (hb2.mono (PyData.depthAll_vals_le _))
    have le : PyData.depthKv (dkp kvs) ≤ (PyData.dict (dkp kvs)).depth := by simp only [PyData.depth]; omega
    have hna : a ∉ b1 ++ b2 := not_mem_of_deeper rd (by simp only [PyData.depth]; omega) hb
    refine ⟨a :: (b1 ++ b2), ReadAtMost.cons rd le hb, ?_⟩
    simp only [Dt.toP, PyData.depth, PyData.shown, PyData.shownKv_eq]
    exact ReprK.dict ho hc hd low hna (ReprEntriesK.of_two es.toList _ _ (k1.more_le (fun b hb => List.mem_append_left _ hb) (PyData.depthAll_keys_le _)) (k2.more_le (fun b hb => List.mem_append_right _ hb) (PyData.depthAll_vals_le _)))
theorem DdL.reprK (I : Inv X pins σ H s) : ∀ {xs : List Dt} {vs : List V}, DdL N H xs vs → ∀ {us : List Value}, Vals vs us → PyData.showableAll (Dt.toPs xs) = true → (∀ t ∈ PyData.shownAll (Dt.toPs xs), t.length ≤ sizeLine) →
    ∃ bs, ReadAtMost s.heap (PyData.depthAll (Dt.toPs xs)) bs ∧ ReprAllK X.prog X.w bs s.heap (PyData.depthAll (Dt.toPs xs)) us (PyData.shownAll (Dt.toPs xs))
  | _, _, .nil, _, r, _, _ => by
    cases r
    exact ⟨[], (fun _ h => nomatch h), .nil⟩
  | _, _, .cons (x := x) (xs := xs) h t, _, r, hs, hz => by
    cases r with
    | cons r1 r2 =>
      have hs' : x.toP.showable = true ∧ PyData.showableAll (Dt.toPs xs) = true := by simpa [Dt.toPs, PyData.showableAll] using hs
      obtain ⟨as, ha, ka⟩ := h.reprK I r1 hs'.1 (hz _ (by simp [Dt.toPs, PyData.shownAll]))
      obtain ⟨bs, hb, kb⟩ := t.reprK I r2 hs'.2 (fun t ht => hz _ (by simp [Dt.toPs, PyData.shownAll, ht]))
      have m1 : x.toP.depth ≤ PyData.depthAll (Dt.toPs (x :: xs)) := by simp only [Dt.toPs, PyData.depthAll]; omega
      have m2 : PyData.depthAll (Dt.toPs xs) ≤ PyData.depthAll (Dt.toPs (x :: xs)) := by simp only [Dt.toPs, PyData.depthAll]; omega
      refine ⟨as ++ bs, (ha.mono m1).append (hb.mono m2), ?_⟩
      simp only [Dt.toPs, PyData.shownAll]
      exact .cons ((ka.more fun b hb => List.mem_append_left _ hb).level_le m1) (kb.more_le (fun b hb => List.mem_append_right _ hb) m2)
end
/-- it is shown: within the bounds -/
structure Shw (n : Nat) (x : Dt) : Prop where
  ok : x.toP.showable = true
  dp : x.toP.depth ≤ n
  sz : x.toP.shown.length ≤ sizeLine
def rShowU (n : Nat) : List V → Hp → VK → Prop := fun xs H Q => ∃ (v : V) (x : Dt), xs = [v] ∧ Dd Any H x v ∧ Shw n x ∧ Q (.str x.toP.shown) H
theorem call_showU {n : Nat} (g : Still X.A) (hu : X.A.units + (n + 1) < cLine) : CallR X (.builtin "repr") (rShowU n) := by
  intro pins s σ H xs us Q I r h
  obtain ⟨v, x, rfl, hd, sh, q⟩ := h
  cases r with
  | cons r1 r2 =>
    cases r2
    have done : ∀ (h' : Heap) (u tk : Tok), (∀ b o, s.heap.get? b = some o → h'.get? b = some o) → EP X pins σ Q (.str x.toP.shown u) { s with heap := h', toks := tk } := fun h' u tk hk => ⟨.str _, H, I.kept hk, ⟨u, rfl⟩, q⟩
    have dpx := sh.dp
    cases hd with
    | non =>
      cases r1
      exact PySem.P.repr_of_none (done s.heap _ _ fun _ _ e => e)
    | bl b =>
      cases r1
      exact PySem.P.repr_of_bool (by simpa only [Dt.toP, PyData.shown] using done s.heap _ _ fun _ _ e => e)
    | int i =>
      obtain ⟨t, rfl⟩ := r1
      exact PySem.P.repr_of_int (by simpa [Dt.toP, PyData.showable] using sh.ok) (by simpa only [Dt.toP, PyData.shown] using done s.heap _ _ fun _ _ e => e)
    | str y =>
      obtain ⟨t, rfl⟩ := r1
      exact PySem.P.repr_of_str (by simpa only [Dt.toP, PyData.shown] using done s.heap _ _ fun _ _ e => e) (by simpa only [Dt.toP, PyData.shown] using sh.sz)
    | tup h t =>
      rename_i a ys ws
      cases r1
      obtain ⟨its, rv, ⟨o, ho, hc, m, hd⟩, _⟩ := I.tuple (SqT.of h)
      have hz' : (tupleText (PyData.shownAll (Dt.toPs ys))).length ≤ sizeLine := by simpa only [Dt.toP, PyData.shown] using sh.sz
      obtain ⟨as, ra⟩ := t.reads I rv
      obtain ⟨bs, hb, hk⟩ := t.reprK I rv (by simpa [Dt.toP, PyData.showable] using sh.ok) (fun t ht => Nat.le_trans (tupleText_mem_le ht) hz')
      have rd : Reads s.heap (.ref a) (.tuple (Dt.toPs ys)) _ := .tuple ho hc hd ra
      have na : a ∉ bs := not_mem_of_deeper rd (by simp only [PyData.depth]; omega) hb
      have dp : PyData.depthAll (Dt.toPs ys) + 1 ≤ n := by simpa only [Dt.toP, PyData.depth, Nat.add_comm] using dpx
      exact call_repr_slot (by omega) ⟨o, ho, hc⟩ PySem.F.slot_tuple_repr (call_tuple_reprK ho hc hd na hk (A := X.A.in1) g (fun b _ => Clear.nil b) (by show X.A.units + 1 + _ < cLine; omega) (fun _ _ e => e) (fun h' u tk hk' => ⟨_, _, rfl, by simpa only [Dt.toP, PyData.shown] using done h' u tk hk'⟩) hz')
    | lst _ h t =>
      rename_i a ys ws _
      cases r1
      obtain ⟨its, rv, ⟨o, m, ho, hc, _, hd⟩, _⟩ := I.list (SqL.of h)
      have hz' : (listText (PyData.shownAll (Dt.toPs ys))).length ≤ sizeLine := by simpa only [Dt.toP, PyData.shown] using sh.sz
      obtain ⟨as, ra⟩ := t.reads I rv
      obtain ⟨bs, hb, hk⟩ := t.reprK I rv (by simpa [Dt.toP, PyData.showable] using sh.ok) (fun t ht => Nat.le_trans (listText_mem_le ht) hz')
      have rd : Reads s.heap (.ref a) (.list (Dt.toPs ys)) _ := .list ho hc hd ra
      have na : a ∉ bs := not_mem_of_deeper rd (by simp only [PyData.depth]; omega) hb
      have dp : PyData.depthAll (Dt.toPs ys) + 1 ≤ n := by simpa only [Dt.toP, PyData.depth, Nat.add_comm] using dpx
      cases its with
      | nil =>
        cases rv
        cases t
        exact call_repr_slot (by omega) ⟨o, ho, hc⟩ PySem.F.slot_list_repr.toG (call_list_repr_empty ⟨o, ho, hc⟩ ho hd ⟨_, _, rfl, by
          have z := done s.heap s.toks (s.toks + 1) fun _ _ e => e
          simp only [Dt.toP, Dt.toPs, PyData.shown, PyData.shownAll, listText_nil] at z
          exact z⟩)
      | cons y l =>
        exact call_repr_slot (by omega) ⟨o, ho, hc⟩ PySem.F.slot_list_repr.toG (call_list_reprK ho hc hd na (by simpa using hk.length_eq) (fun i y e => hk.item i y (by simpa using e)) (A := X.A.in1) g (fun b _ => Clear.nil b) (by show X.A.units + 1 + _ < cLine; omega) (fun _ _ e => e) (fun h' u tk hk' => ⟨_, _, rfl, by simpa only [Dt.toP, PyData.shown] using done h' u tk hk'⟩) hz')
    | dct _ h =>
      rename_i a kvs _
      cases r1
      obtain ⟨o, es, m, ho, hc, hd, low, h4, h5⟩ := dct_obj I h
      have rd : Reads s.heap (.ref a) (.dict (dkp kvs)) _ := .dict ho hc hd h4 h5
      have hz' : (dictText (PyData.shownKv (dkp kvs))).length ≤ sizeLine := by simpa only [Dt.toP, PyData.shown] using sh.sz
      obtain ⟨hs1, hs2⟩ := PyData.showableKv_split (dkp kvs) (by simpa [Dt.toP, PyData.showable] using sh.ok)
      obtain ⟨b1, hb1, k1⟩ := ReprAllK.of_readsAll (prog := X.prog) (w := X.w) h4 hs1 (fun _ hm => nomatch hm) (fun t ht => let ⟨p, hp, hl⟩ := PyData.shownKv_key_le _ t ht; Nat.le_trans hl (Nat.le_trans (dictText_mem_le hp) hz'))
      obtain ⟨b2, hb2, k2⟩ := ReprAllK.of_readsAll (prog := X.prog) (w := X.w) h5 hs2 (fun _ hm => nomatch hm) (fun t ht => let ⟨p, hp, hl⟩ := PyData.shownKv_val_le _ t ht; Nat.le_trans hl (Nat.le_trans (dictText_mem_le hp) hz'))
      have hb : ReadAtMost s.heap (PyData.depthKv (dkp kvs)) (b1 ++ b2) := (hb1.mono (PyData.depthAll_keys_le _)).append (hb2.mono (PyData.depthAll_vals_le _))
      have hna : a ∉ b1 ++ b2 := not_mem_of_deeper rd (by simp only [PyData.depth]; omega) hb
      have dp : PyData.depthKv (dkp kvs) + 1 ≤ n := by simpa only [Dt.toP, PyData.depth, Nat.add_comm] using dpx
      exact call_repr_slot (by omega) ⟨o, ho, hc⟩ PySem.F.slot_dict_repr (call_dict_reprK ho hc hd low hna (ReprEntriesK.of_two es.toList _ _ (k1.more_le (fun b hb => List.mem_append_left _ hb) (PyData.depthAll_keys_le _)) (k2.more_le (fun b hb => List.mem_append_right _ hb) (PyData.depthAll_vals_le _))) (A := X.A.in1) g (fun b _ => Clear.nil b) (by show X.A.units + 1 + _ < cLine; omega) (fun _ _ e => e) (fun h' u tk hk => ⟨_, _, rfl, by simpa only [Dt.toP, PyData.shown, PyData.shownKv_eq] using done h' u tk hk⟩) (by rw [← PyData.shownKv_eq]; exact hz'))
end
end Kv

namespace Kg
open PySem PySem.Spec PyProof.Rows L2 GxR
/-- a def whose code object is known -/
structure FunC (K : PySem.W.Frag) (x qual : Str) (st : Stmt) (f : Addr) (fd : FuncData) (c : Addr) : Prop where
  ex : ∃ (oc : Value) (od : Option Addr) (kV doc pm : Value) (an : Option Addr) (ct : Value) (osl : Array (Option Value)),
    fd = PySem.W.fnOf x qual (defArgs st) (defBody st) (defScope st) .none kV doc pm an (.ref c) ct ∧ K.lookup f = some ⟨oc, od, .func fd, osl⟩ ∧ PySem.W.codeIn K (.ref c) qual = true
section
variable {P : Program} {w : World} {K : PySem.W.Frag} {mg : Str → Option Value} {base : Heap}
theorem FunC.ok {x qual : Str} {st : Stmt} {f : Addr} {fd : FuncData} {c : Addr} {N ps : List Str} {k : Nat} {sp : Sp} (F : FunC K x qual st f fd c) (S : FnScope N ps (defScope st)) (len : ∀ vs H Q E, sp vs H Q E → vs.length = ps.length)
    (hbody : ∀ (A : Around) (outer : List Env) (s : Shared) (H : Hp) (vs : List V) (Q : VK) (E : XK), Room k (A.deeper (envOfC qual (defScope st) s.heap.objs.size f (.ref c))) → sp vs H Q E →
      ∃ t, PSs (cxOf CX0 P w K mg base N qual (defScope st) f (.ref c) A outer s H E).nox (defBody st) t ∧ t { nx := fun _ H' => Q .non H', rt := Q } (start N vs) H) : FnOk P w K mg base CX0 (k + 1) f fd ps sp := by
  obtain ⟨oc, od, kV, doc, pm, an, ct, osl, rfl, lk, hcd⟩ := F.ex
  refine fn_of lk hcd S len fun A outer s H vs Q E hr hsp => ?_
  obtain ⟨t, h, q⟩ := hbody A outer s H vs Q E hr hsp
  exact ⟨t, h.nox, q⟩
theorem funC_mk {x qual : Str} {st : Stmt} {f c : Addr} {oc : Value} {od an : Option Addr} {osl : Array (Option Value)} {kV doc pm ct : Value} (l : K.lookup f = some ⟨oc, od, .func (PySem.W.fnOf x qual (defArgs st) (defBody st) (defScope st) .none kV doc pm an (.ref c) ct), osl⟩)
    (h : PySem.W.codeIn K (.ref c) qual = true) : FunC K x qual st f (PySem.W.fnOf x qual (defArgs st) (defBody st) (defScope st) .none kV doc pm an (.ref c) ct) c := ⟨⟨oc, od, kV, doc, pm, an, ct, osl, rfl, l, h⟩⟩
end
def gxSB (N : List Str) (sc scope : Scope) (own : List Str) (caps : List (Str × Nat)) : Bool :=
  decide (scope.kind = .function) && !scope.isCoroutine && scope.names.all (fun y => !decide (y.2 = .cell)) && decide (scope.names.lookup (".0" : Str) = some NameKind.local) && decide ((own ++ caps.map (·.1)).Nodup) &&
  caps.all (fun p => decide (N[p.2]? = some p.1) && decide (scope.names.lookup p.1 = some .free)) && scope.names.all (fun y => !decide (y.2 = .free) || decide (sc.names.lookup y.1 = some .cell) || decide (sc.names.lookup y.1 = some .free)) && scope.names.all fun y => decide (scope.names.lookup y.1 = some y.2)
theorem gxS_by {N : List Str} {sc scope : Scope} {own : List Str} {caps : List (Str × Nat)} (h : gxSB N sc scope own caps = true) : GxS N sc scope own caps := by
  unfold gxSB at h
  simp only [Bool.and_eq_true, Bool.or_eq_true, Bool.not_eq_true', decide_eq_true_eq, decide_eq_false_iff_not, List.all_eq_true] at h
  obtain ⟨⟨⟨⟨⟨⟨⟨h1, h2⟩, h3⟩, h4⟩, h5⟩, h6⟩, h7⟩, h8⟩ := h
  refine ⟨h1, h2, h3, h4, h5, h6, fun y hy e => ?_, h8⟩
  rcases h7 y hy with (z | z) | z
  · exact absurd e z
  · exact .inl z
  · exact .inr z
/-! the tables of code objects -/
def TbS (T : List Addr) (H : Hp) : Prop := ∀ p ∈ T, TabG H p
/-- all but the tables stands; they are tables -/
def Sm (T : List Addr) (H G : Hp) : Prop := (∀ b u, b ∉ T → H b = some u → G b = some u) ∧ TbS T G
theorem TbS.same {T : List Addr} {H G : Hp} (t : TbS T H) (s : Same H G) : TbS T G := fun p hp => by
  obtain ⟨ps, h1, h2⟩ := t p hp
  exact ⟨ps, s _ _ h1, h2⟩
theorem Sm.refl {T : List Addr} {H : Hp} (t : TbS T H) : Sm T H H := ⟨fun _ _ _ e => e, t⟩
theorem Sm.of {T : List Addr} {H G : Hp} (s : Same H G) (t : TbS T H) : Sm T H G := ⟨fun b u _ e => s b u e, t.same s⟩
theorem Sm.trans {T : List Addr} {H G F : Hp} (a : Sm T H G) (b : Sm T G F) : Sm T H F := ⟨fun x u h e => b.1 x u h (a.1 x u h e), b.2⟩
theorem Sm.tab {T : List Addr} {H G : Hp} {p : Addr} (hp : p ∈ T) (t : TbS T H) (h : Tabbed p H G) : Sm T H G := by
  refine ⟨fun b u hb e => ?_, fun q hq => ?_⟩
  · rw [h.2 b (fun z => hb (by rw [z]; exact hp))]
    exact e
  · by_cases z : q = p
    · rw [z]
      exact h.1
    · obtain ⟨ps, h1, h2⟩ := t q hq
      exact ⟨ps, by rw [h.2 q z]; exact h1, h2⟩
theorem TbS.off {T : List Addr} {H : Hp} {b : Addr} {u : HO} (t : TbS T H) (e : H b = some u) (n : ∀ ps, u ≠ .tbl ps) : b ∉ T := fun hb => by
  obtain ⟨ps, h1, _⟩ := t b hb
  rw [e] at h1
  exact n ps (Option.some.inj h1)
theorem Sm.at {T : List Addr} {H G : Hp} (a : Sm T H G) (t : TbS T H) {b : Addr} {u : HO} (e : H b = some u) (n : ∀ ps, u ≠ .tbl ps) : G b = some u := a.1 b u (t.off e n) e
theorem Sm.free {T : List Addr} {H G : Hp} {p : Addr} (a : Sm T H G) (h : G p = none) : H p = none := by
  cases e : H p with
  | none => rfl
  | some u =>
    by_cases hp : p ∈ T
    · obtain ⟨ps, h1, _⟩ := a.2 p hp
      rw [h] at h1
      cases h1
    · rw [a.1 p u hp e] at h
      cases h
/-! all over a list, over a tuple -/
section
variable {K : PySem.W.Frag} {a : Addr} {xs : List V} {g : TG} {te : TE} {vs : List Nat} {σ0 : L2.St} {G : Hp} {Qe : Bool → Hp → Prop}
theorem all_list (Pv : Nat → Hp → Prop) (h0 : Pv 0 G) (hl : ∀ i H, i ≤ xs.length → Pv i H → SqL K H a xs)
    (hs : ∀ i x H, xs[i]? = some x → Pv i H → g x σ0 H fun σ2 H2 => wipe σ2 vs = σ0 ∧ te σ2 H2 fun y H4 => ∃ b, y = .bl b ∧ if b = true then Pv (i + 1) H4 else Qe false H4) (hd : ∀ H, Pv xs.length H → Qe true H) :
    ∃ W : Nat → Nat → Hp → Prop, (∃ m, W 0 m G) ∧ Turns (Itl K a) σ0 vs g te Qe W := by
  refine ⟨fun i m F => m = xs.length - i ∧ i ≤ xs.length ∧ Pv i F, ⟨_, rfl, Nat.zero_le _, h0⟩, fun i m F z => ?_⟩
  obtain ⟨rfl, hi, p⟩ := z
  have q := hl i F hi p
  by_cases lt : i < xs.length
  · refine .inr ⟨⟨xs, xs[i], q, List.getElem?_eq_getElem lt⟩, Pv (i + 1), fun F' p' => ⟨xs.length - (i + 1), by omega, rfl, lt, p'⟩, fun x F' y => ?_⟩
    obtain ⟨e, y⟩ := y
    subst e
    exact hs i x _ (y xs q) p
  · have e : i = xs.length := by omega
    subst e
    exact .inl ⟨⟨xs, q, Nat.le_refl _⟩, hd F p⟩
theorem all_tup (Pv : Nat → Hp → Prop) (h0 : Pv 0 G) (hl : ∀ i H, i ≤ xs.length → Pv i H → SqT K H a xs)
    (hs : ∀ i x H, xs[i]? = some x → Pv i H → g x σ0 H fun σ2 H2 => wipe σ2 vs = σ0 ∧ te σ2 H2 fun y H4 => ∃ b, y = .bl b ∧ if b = true then Pv (i + 1) H4 else Qe false H4) (hd : ∀ H, Pv xs.length H → Qe true H) :
    ∃ W : Nat → Nat → Hp → Prop, (∃ m, W 0 m G) ∧ Turns (Itt K a) σ0 vs g te Qe W := by
  refine ⟨fun i m F => m = xs.length - i ∧ i ≤ xs.length ∧ Pv i F, ⟨_, rfl, Nat.zero_le _, h0⟩, fun i m F z => ?_⟩
  obtain ⟨rfl, hi, p⟩ := z
  have q := hl i F hi p
  by_cases lt : i < xs.length
  · refine .inr ⟨⟨xs, xs[i], q, List.getElem?_eq_getElem lt⟩, Pv (i + 1), fun F' p' => ⟨xs.length - (i + 1), by omega, rfl, lt, p'⟩, fun x F' y => ?_⟩
    obtain ⟨e, y⟩ := y
    subst e
    exact hs i x _ (y xs q) p
  · have e : i = xs.length := by omega
    subst e
    exact .inl ⟨⟨xs, q, Nat.le_refl _⟩, hd F p⟩
/-- all over what walks -/
theorem all_it {J : It} {n : Nat} {I : Hp → Prop} {Y : Nat → Hp → V → Hp → Prop} (w : Walk J n I Y) (Pv : Nat → Hp → Prop) (h0 : Pv 0 G) (hl : ∀ i H, i ≤ n → Pv i H → I H)
    (hs : ∀ i x H H', i < n → Pv i H → Y i H x H' → g x σ0 H' fun σ2 H2 => wipe σ2 vs = σ0 ∧ te σ2 H2 fun y H4 => ∃ b, y = .bl b ∧ if b = true then Pv (i + 1) H4 else Qe false H4) (hd : ∀ H, Pv n H → Qe true H) :
    ∃ W : Nat → Nat → Hp → Prop, (∃ m, W 0 m G) ∧ Turns J σ0 vs g te Qe W := by
  refine ⟨fun i m F => m = n - i ∧ i ≤ n ∧ Pv i F, ⟨_, rfl, Nat.zero_le _, h0⟩, fun i m F z => ?_⟩
  obtain ⟨rfl, hi, p⟩ := z
  have q := hl i F hi p
  by_cases lt : i < n
  · exact .inr ⟨w.goes i F lt q, Pv (i + 1), fun F' p' => ⟨n - (i + 1), by omega, rfl, lt, p'⟩, fun x F' y => hs i x F F' lt p (w.yields i F x F' lt q y)⟩
  · have e : i = n := by omega
    subst e
    exact .inl ⟨w.stops F q, hd F p⟩
theorem Sm.kn {T : List Addr} {N : Addr → Prop} {H G : Hp} (a : Sm T H G) (t : TbS T H) : Kv.Kn N H G :=
  ⟨fun b xs e => a.at t e (fun ps z => by cases z), fun b xs _ e => a.at t e (fun ps z => by cases z), fun b xs _ e => a.at t e (fun ps z => by cases z)⟩
theorem Sm.new {T : List Addr} {H G : Hp} {p : Addr} {o : HO} (a : Sm T H G) (h : H p = none) (tb : TbS T H) : Sm T H (upd G p o) := by
  refine ⟨fun b u hb e => ?_, fun q hq => ?_⟩
  · rw [upd_ne (ne_of_none e h)]
    exact a.1 b u hb e
  · obtain ⟨ps, h1, h2⟩ := a.2 q hq
    obtain ⟨ps0, h10, _⟩ := tb q hq
    exact ⟨ps, by rw [upd_ne (ne_of_none h10 h)]; exact h1, h2⟩
end
end Kg

/-! dict(..) of a tuple of pairs, a tuple of two turned about -/
namespace Kt
open PySem PySem.Spec PyProof.Rows L2
section
variable {X : Cx}
/-- tuple(l): the object is known -/
theorem call_tupleF : CallR X (.type "tuple") (fun xs H Q => ∃ p ys, xs = [.ref p] ∧ SqL X.K H p ys ∧ ∀ l (o : Obj), H l = none → o.dict = none → o.cls = .type "tuple" → Q (.ref l) (upd H l (.frz o (.tup ys)))) := by
  intro pins s σ H xs us Q I r h
  obtain ⟨p, ys, rfl, hq, q⟩ := h
  obtain ⟨u, rfl, rx⟩ := vals1 r
  cases rx
  obtain ⟨its, r', pl, hz⟩ := I.list hq
  have hlen := r'.length
  refine call_tuple_list pl.isList (fun h' kp => ?_) (by simp only [List.size_toArray] <;> omega)
  have I1 : Inv X pins σ H { s with heap := h' } := I.kept (t' := s.toks) kp
  have I2 : Inv X pins σ (upd H h'.objs.size (.frz { cls := .type "tuple", data := .seq its.toArray } (.tup ys))) { s with heap := h'.push { cls := .type "tuple", data := .seq its.toArray } } :=
    I1.laid (t' := s.toks) (fun b o e => Heap.get?_push_of_some _ e) (Nat.le_refl _) (show ObjOk X.prog X.w _ _ _ (.frz _ (.tup ys)) from ⟨Heap.get?_push_size _ rfl, hz, its, r', IsTup.new _ _⟩)
  exact ⟨.ref h'.objs.size, _, I2, rfl, q _ _ (I1.hok.fresh (Nat.le_refl _)) rfl rfl⟩
/-- () -/
def tTup0 : TE := fun _ H Q => ∀ p (o : Obj), H p = none → o.dict = none → o.cls = .type "tuple" → Q (.ref p) (upd H p (.frz o (.tup [])))
theorem pe_tup0 {x1 : Nat} {pos : Pos} : PE X (.Tuple [] x1 pos) tTup0 := by
  refine ⟨fun pins s σ H Q I h => ?_⟩
  refine wpAny_Tuple_spliced (thn ((pa_nil (X := X)).run pos pins s σ H (fun xs H1 => xs = [] ∧ H1 = H) I ⟨rfl, rfl⟩) fun us s1 ⟨xs, H1, I1, r, e1, e2⟩ => ?_)
  subst e1 e2
  cases r
  refine ⟨Nat.zero_le _, ?_⟩
  refine ⟨.ref s1.heap.objs.size, _, I1.laid (t' := s1.toks) (o := .frz { cls := .type "tuple", data := .seq ([] : List Value).toArray } (.tup [])) (fun b u e => Heap.get?_push_of_some _ e) (Nat.le_refl _) ?_, rfl, h _ _ (I1.hok.fresh (Nat.le_refl _)) rfl rfl⟩
  exact ⟨Heap.get?_push_size _ rfl, Nat.zero_le _, [], .nil, IsTup.new _ _⟩
theorem raws_of {pins : List (Addr × Obj)} {σ : L2.St} {H : Hp} {s : Shared} (I : Inv X pins σ H s) : ∀ {ps : List Addr} {kvs : List (Key × V)}, Paired (fun p kv => SqT X.K H p [kV kv.1, kv.2]) ps kvs →
    ∃ (prs : List (Key × Value)) (raws : List (Value × Value)), KV kvs prs ∧ prs.length = ps.length ∧ raws.length = ps.length ∧ ∀ (j : Nat) (u v : Value), raws[j]? = some (u, v) → ∃ (b : Addr) (k : Key), ps[j]? = some b ∧ IsTup s.heap b #[u, v] ∧ prs[j]? = some (k, v) ∧ keyIs k u = true
  | _, _, .nil => ⟨[], [], .nil, rfl, rfl, fun j u v e => by simp at e⟩
  | _, _, .cons (a := p) (b := kv) h t => by
    obtain ⟨prs, raws, r, hl, hl2, hp⟩ := raws_of I t
    obtain ⟨its, rv, ht, _⟩ := I.tuple h
    obtain ⟨u, y, ei, ru, ry⟩ := vals2 rv
    subst ei
    refine ⟨(kv.1, y) :: prs, (u, y) :: raws, .cons ⟨rfl, ry⟩ r, by rw [List.length_cons, List.length_cons, hl], by rw [List.length_cons, List.length_cons, hl2], fun j u' v' e => ?_⟩
    cases j with
    | zero =>
      have e' : (u, y) = (u', v') := Option.some.inj e
      cases e'
      exact ⟨p, kv.1, rfl, ht, rfl, kV_is (P := X.prog) (w := X.w) ru⟩
    | succ j =>
      obtain ⟨b, k, e1, e2, e3, e4⟩ := hp j u' v' (by simpa using e)
      exact ⟨b, k, by simpa using e1, e2, by simpa using e3, e4⟩
/-- dict(t) of a tuple of pairs -/
theorem call_dictF (hcalm : X.calm = true) : CallR X (.type "dict") (fun xs H Q => ∃ (a : Addr) (o : Obj) (ps : List Addr) (kvs : List (Key × V)), xs = [.ref a] ∧ H a = some (.frz o (.tup (ps.map V.ref))) ∧ o.dict = none ∧ o.cls = .type "tuple" ∧ Paired (fun p kv => SqT X.K H p [kV kv.1, kv.2]) ps kvs ∧
    ∀ p, H p = none → Q (.ref p) (upd H p (.dK (mergeK [] kvs)))) := by
  intro pins s σ H xs us Q I r q
  obtain ⟨a, o, ps, kvs, ex, hq, hod, hoc, hp, q⟩ := q
  subst ex
  obtain ⟨u, eu, rx⟩ := vals1 r
  subst eu
  cases rx
  obtain ⟨ho, hz, its, rv, o2, ho2, hc2, n2, hdat⟩ := I.hok a _ hq
  rw [ho] at ho2
  cases ho2
  have ei := refs_at rv
  subst ei
  rw [List.length_map] at hz
  obtain ⟨prs, raws, rel, hl, hl2, hpr⟩ := raws_of I hp
  have PA := PairArg.tuple (prog := X.prog) (w := X.w) a (ps.map Value.ref).toArray (fun j => (ps[j]?).getD 0) raws
  refine PySem.call_dict_pairs (knd := mixKind X.prog X.w) (kvs := prs) PA (I.ok.hd hcalm) ⟨⟨o, n2, ho, hoc, hod, hdat⟩, by simp [hl2], fun j k v e => ?_⟩ ⟨by rw [hl, hl2], fun i key v e => ?_⟩ (by rw [hl2]; exact hz) fun h' tk hd' k => ?_
  · obtain ⟨b, kk, e1, e2, e3, e4⟩ := hpr j k v e
    refine ⟨by simp [e1], .inl ?_⟩
    show s.heap.IsTuple ((ps[j]?).getD 0) #[k, v]
    rw [e1]
    exact e2
  · obtain ⟨b, kk, e1, e2, e3, e4⟩ := hpr i key v e
    exact ⟨kk, e3, e4⟩
  · have hm : (s.heap.objs.size == sysModules) = false := beq_eq_false_iff_ne.mpr (Nat.ne_of_gt I.big)
    have hlen : (mergeK [] kvs).length ≤ sizeLine := by
      refine Nat.le_trans (length_mergeK kvs []) ?_
      rw [List.length_nil, Nat.zero_add, rel.length, hl]
      exact hz
    exact ⟨.ref s.heap.objs.size, upd H s.heap.objs.size (.dK (mergeK [] kvs)), I.laid (t' := tk) (fun b o e => k b o (by simp) e) (Nat.le_refl _) (show ObjOk X.prog X.w _ _ _ (.dK (mergeK [] kvs)) from ⟨hlen, hm, merged [] prs, KV.merge rel .nil, hd'⟩), rfl, q _ (I.hok.fresh (Nat.le_refl _))⟩
end
/-! t[::-1], t of two -/
section
variable {prog : Program} {w : World} {A : Around} {E : Value → Shared → Prop} {s : Shared}
theorem getItem_two {t sl : Addr} {x y vl vu vs : Value} {Q : Value → Shared → Prop} (ht : IsTup s.heap t #[x, y]) (hs : s.heap.IsSliceOf sl vl vu vs) (pl : IsPart vl none) (pu : IsPart vu none) (ps : IsPart vs (some (-1)))
    (h : Q (.ref s.heap.objs.size) { s with heap := s.heap.push { cls := .type "tuple", data := .seq #[y, x] } }) : wpAny (model prog w) A (getItem (.ref t) (.ref sl)) Q E s := by
  have htake : sizeOk (.seq #[y, x]) := by
    show 2 ≤ sizeLine
    decide
  obtain ⟨os, hos, hcs, hds⟩ := id hs
  have hTs : s.TypeIs (.ref sl) "slice" := ⟨os, hos, hcs⟩
  unfold getItem
  try with_reducible refine wpAny_holding ?_
  first | refine wpAny_bind (wpAny_pure ?_) | skip
  refine wpAny_bind (wpAny_sequenceKey ht.typeIs (by decide) ?_)
  refine wpAny_bind (wpAny_callSpecial?_slot (name := Str.ofString "__getitem__") ht.typeIs PyProof.Rows.slot_tuple_getitem
    (wpAny_call_entry PyProof.Rows.slot_tuple_getitem ht.typeIs entry_tuple_getitem ?_ (args_tuple_getitem _ _)))
  show wpAny _ _ (Builtin.Tuple.tupleItemsOf (.ref t) >>= _) _ _ s
  refine wpAny_bind (tupleItemsOf_ ht ?_)
  refine wpAny_bind (wpAny_typeOf hTs ?_)
  rw [if_pos (by decide)]
  refine wpAny_bind ?_
  unfold Builtin.Slice.sliceApplied Builtin.Slice.sliceFields
  refine wpAny_bind (wpAny_bind (wpAny_field hos hds (x := vl) rfl (wpAny_bind (wpAny_field hos hds (x := vu) rfl (wpAny_bind (wpAny_field hos hds (x := vs) rfl (wpAny_pure ?_)))))))
  refine wpAny_bind (HT.slicePart_ ps ?_)
  show wpAny _ _ (if ((-1 : Int) == 0) = true then _ else _) _ _ s
  rw [if_neg (by decide)]
  refine wpAny_bind (HT.slicePart_ pl (wpAny_bind (HT.slicePart_ pu (wpAny_bind (wpAny_pure ?_)))))
  refine wpAny_pure ?_
  show wpAny _ _ (if (((1 : Int) == 0 && (-1 : Int) == 1 && (2 : Nat) == 2) = true) then _ else _) _ _ s
  rw [if_neg (by decide)]
  generalize hA : (List.filterMap _ (List.range _)).toArray = arr
  have eA : arr = #[y, x] := by
    rw [← hA]
    first
      | rfl
      | kernel_rfl
      | with_unfolding_all rfl
  subst eA
  show wpAny _ _ (Builtin.Tuple.tupleExact #[y, x] >>= fun v => ret v) _ _ s
  have e : ((List.range 2).filterMap fun (m : Nat) => (#[x, y] : Array Value)[((1 : Int) + (m : Int) * (-1)).toNat]?).toArray = #[y, x] := rfl
  first
    | exact wpAny_bind (m := Builtin.Tuple.tupleExact _) (wpAny_newObj_type (wpAny_pure ⟨_, rfl, wpAny_pure h⟩) htake)
    | exact wpAny_bind (m := Builtin.Tuple.tupleExact _) (wpAny_newObj_type (wpAny_bind (wpAny_pure (wpAny_pure ⟨_, rfl, wpAny_pure h⟩))) htake)
    | exact wpAny_bind (wpAny_bind (m := Builtin.Tuple.tupleExact _) (wpAny_newObj_type (wpAny_pure (wpAny_pure ⟨_, rfl, wpAny_pure h⟩)) htake))
    | exact wpAny_bind (wpAny_bind (m := Builtin.Tuple.tupleExact _) (wpAny_newObj_type (wpAny_pure ⟨_, rfl, wpAny_pure h⟩) htake))
end
section
variable {X : Cx}
def tRev2 (K : PySem.W.Frag) (te : TE) : TE := fun σ H Q => te σ H fun x H1 => ∃ a y z, x = .ref a ∧ SqT K H1 a [y, z] ∧ ∀ p, H1 p = none → Q (.ref p) (upd H1 p (.tup [z, y]))
theorem pe_rev2 {e : Expr} {te : TE} {k : Nat} {p1 p2 p3 pos : Pos} (he : PE X e te) : PE X (.Subscript e (.Slice none none (some (.UnaryOp .USub (.Constant (.int 1) k p1) p2)) p3) pos) (tRev2 X.K te) := by
  refine ⟨fun pins s σ H Q I h => ?_⟩
  refine Subscript_ (thn (he.run pins s σ H _ I h) fun v s1 ⟨x, H1, I1, r1, q1⟩ => ?_)
  obtain ⟨a, y, z, ex, hx, q⟩ := q1
  subst ex
  cases r1
  have hst : PO X (some (.UnaryOp .USub (.Constant (.int 1) k p1) p2)) (tPart (tUn (rU fun i => .int (-i)) (tC (.int 1)))) := po_some (pe_un un_neg pe_int)
  refine wpAny_Slice (thn (po_none.run pins s1 σ H1 (fun o H2 => o = none ∧ H2 = H1) I1 ⟨rfl, rfl⟩) fun vl s2 ⟨l, H2, I2, pl, el, e2⟩ => ?_)
  subst el e2
  refine thn (po_none.run pins s2 σ H2 (fun o H3 => o = none ∧ H3 = H2) I2 ⟨rfl, rfl⟩) fun vu s3 ⟨u, H3, I3, pu, eu, e3⟩ => ?_
  subst eu e3
  refine thn (hst.run pins s3 σ H3 (fun o H4 => o = some (-1) ∧ H4 = H3) I3 ⟨1, rfl, -1, rfl, rfl, rfl⟩) fun vs s4 ⟨o, H4, I4, ps, eo, e4⟩ => ?_
  subst eo e4
  have I5 : Inv X pins σ H4 { s4 with heap := s4.heap.push { cls := .type "slice", data := .fields #[vl, vu, vs] } } := I4.kept (t' := s4.toks) fun b ob q => Heap.get?_push_of_some _ q
  obtain ⟨its, r, ht, hz⟩ := I5.tuple hx
  obtain ⟨yv, zv, ei, ry, rz⟩ := vals2 r
  subst ei
  show wpAny (model X.prog X.w) X.A (subscriptTail e (.Slice none none (some (.UnaryOp .USub (.Constant (.int 1) k p1) p2)) p3) (.ref a) (.ref s4.heap.objs.size)) (EP X pins σ Q) X.xe { s4 with heap := s4.heap.push { cls := .type "slice", data := .fields #[vl, vu, vs] } }
  refine tail_any (ops := [.ref a, .ref s4.heap.objs.size]) ht.typeIs (PyProof.Rows.slot_tuple_getitem.lookup) ?_ (by with_unfolding_all rfl)
  refine getItem_two ht (Heap.IsSliceOf.new _ vl vu vs) pl pu ps ?_
  refine ⟨.ref _, _, I5.laid (t' := s4.toks) (o := .tup [z, y]) (fun b ob q => Heap.get?_push_of_some _ q) (Nat.le_refl _) ?_, rfl, q _ (I5.hok.fresh (Nat.le_refl _))⟩
  exact ⟨by show 2 ≤ sizeLine; decide, [zv, yv], .cons rz (.cons ry .nil), IsTup.new _ _⟩
end
end Kt

/-! further rules: == of tuples by texts, enumerate of a tuple, a text many times, a tuple turned about -/
namespace Kv
open PySem PySem.Spec PyProof.Rows L2 Kf
theorem vals_at : ∀ {xs : List V} {us : List Value} {i : Nat} (h : i < us.length), Vals xs us → ∃ x, xs[i]? = some x ∧ RelV x us[i]
  | _, _, i, h, .nil => absurd h (Nat.not_lt_zero _)
  | _, _, 0, h, .cons r t => ⟨_, rfl, r⟩
  | _, _, i + 1, h, .cons r t => by
    obtain ⟨x, e, q⟩ := vals_at (i := i) (Nat.lt_of_succ_lt_succ h) t
    exact ⟨x, e, q⟩
/-- at places that both have stand texts -/
def BothTxt (xs ys : List V) : Prop := ∀ (i : Nat) (u v : V), xs[i]? = some u → ys[i]? = some v → ∃ a b : Str, u = .str a ∧ v = .str b
def rEqTT (K : PySem.W.Frag) : R2 := fun x y H Q => ∃ (a b : Addr) (xs ys : List V), x = .ref a ∧ y = .ref b ∧ SqT K H a xs ∧ SqT K H b ys ∧ BothTxt xs ys ∧ Q (.bl (decide (xs = ys))) H
theorem op_eqTT {X : Cx} (hu : X.A.units + 64 < cLine) : OpR X (compareOp .Eq) (rEqTT X.K) := by
  intro pins s σ H x y v u Q I rx ry h
  obtain ⟨a, b, xs, ys, rfl, rfl, ha, hb, bt, q⟩ := h
  cases rx
  cases ry
  obtain ⟨is, r1, ⟨o1, h1, c1, n1, d1⟩, _⟩ := I.tuple ha
  obtain ⟨js, r2, ⟨o2, h2, c2, n2, d2⟩, _⟩ := I.tuple hb
  have l1 := r1.length
  have l2 := r2.length
  refine PySem.SeqAt.eq_tupleAt (e := fun i => decide (xs[i]? = ys[i]?)) ⟨o1, h1, c1, n1, d1⟩ ⟨o2, h2, c2, n2, d2⟩ (by omega) (fun j j1 j2 => ?_) ?_
  · have j1' : j < is.length := by simpa using j1
    have j2' : j < js.length := by simpa using j2
    obtain ⟨p, ep, rp⟩ := vals_at j1' r1
    obtain ⟨p', ep', rp'⟩ := vals_at j2' r2
    obtain ⟨sa, sb, rfl, rfl⟩ := bt j p p' ep ep'
    obtain ⟨t1, e1⟩ := rp
    obtain ⟨t2, e2⟩ := rp'
    have z := PySem.SeqAt.EqAt.str_str (A := X.A.in1) (s := s) sa t1 sb t2
    simp only [List.getElem_toArray, e1, e2, ep, ep']
    have e : decide (some (V.str sa) = some (V.str sb)) = (sa == sb) := by
      by_cases c : sa = sb
      · subst c
        simp
      · have : ¬ some (V.str sa) = some (V.str sb) := fun z => c (V.str.inj (Option.some.inj z))
        rw [decide_eq_false this]
        exact (beq_eq_false_iff_ne.mpr c).symm
    rw [e]
    exact z
  · have e : ((List.range (min is.toArray.size js.toArray.size)).all (fun i => decide (xs[i]? = ys[i]?)) && is.toArray.size == js.toArray.size) = decide (xs = ys) := by
      rw [List.size_toArray, List.size_toArray, ← l1, ← l2]
      by_cases c : xs = ys
      · subst c
        simp
      · rw [decide_eq_false c]
        by_cases cl : xs.length = ys.length
        · rw [Bool.and_eq_false_iff]
          left
          rw [← Bool.not_eq_true, List.all_eq_true]
          intro all
          refine c (List.ext_getElem? fun i => ?_)
          by_cases hi : i < xs.length
          · exact of_decide_eq_true (all i (List.mem_range.mpr (by omega)))
          · rw [List.getElem?_eq_none (by omega), List.getElem?_eq_none (by omega)]
        · rw [Bool.and_eq_false_iff]
          right
          exact beq_eq_false_iff_ne.mpr cl
    rw [e]
    exact ⟨.bl _, H, I, rfl, q⟩
/-! a text many times -/
theorem fold_app : ∀ (l : List (Array Nat)) (acc : Array Nat), (l.foldl (· ++ ·) acc).toList = acc.toList ++ (l.map Array.toList).flatten
  | [], acc => by simp
  | x :: l, acc => by
    rw [List.foldl_cons, fold_app l]
    simp [Array.toList_append, List.append_assoc]
theorem mul_cps (z : Str) (n : Nat) : (∀ c ∈ (Txt.mul z (n : Int)).cps.toList, c ∈ z.cps.toList) ∧ (Txt.mul z (n : Int)).cps.toList.length ≤ z.cps.toList.length * n := by
  unfold Txt.mul
  by_cases h1 : (n : Int) < 1
  · rw [if_pos h1]
    exact ⟨fun c h => absurd h (by simp [Str.empty]), by simp [Str.empty]⟩
  rw [if_neg h1]
  by_cases h2 : ((n : Int) == 1 || z.length == 0) = true
  · rw [if_pos h2]
    exact ⟨fun c h => h, Nat.le_mul_of_pos_right _ (by omega)⟩
  rw [if_neg h2]
  show (∀ c ∈ ((List.replicate (n : Int).toNat z.cps).foldl (· ++ ·) #[]).toList, c ∈ z.cps.toList) ∧ ((List.replicate (n : Int).toNat z.cps).foldl (· ++ ·) #[]).toList.length ≤ _
  rw [fold_app, Int.toNat_natCast, List.map_replicate]
  refine ⟨fun c h => ?_, ?_⟩
  · have h' : c ∈ (List.replicate n z.cps.toList).flatten := by simpa using h
    obtain ⟨l, hl, hc⟩ := List.mem_flatten.mp h'
    rw [(List.mem_replicate.mp hl).2] at hc
    exact hc
  · have e : ((#[] : Array Nat).toList ++ (List.replicate n z.cps.toList).flatten).length = n * z.cps.toList.length := by simp
    rw [e, Nat.mul_comm]
    exact Nat.le_refl _
def rMulS : R2 := fun x y H Q => ∃ (z : Str) (n : Nat), x = .str z ∧ y = .int (n : Int) ∧ n ≤ 1000 ∧ z.length ≤ sizeLine ∧ z.length * n ≤ sizeLine ∧ Q (.str (Txt.mul z (n : Int))) H
theorem op_mulS {X : Cx} : OpR X (binaryOp .Mult) rMulS := by
  intro pins s σ H x y v u Q I rx ry h
  obtain ⟨z, n, rfl, rfl, hn, hz0, hz1, q⟩ := h
  have hz : z.length ≤ 16777216 := hz0
  obtain ⟨t1, rfl⟩ := rx
  obtain ⟨t2, rfl⟩ := ry
  refine SB.mul (x := z) (n := (n : Int)) ⟨?_, fun h1 _ => ?_, fun h1 _ => ?_⟩ fun t' k => ⟨.str _, H, I.tok _, ⟨t', rfl⟩, q⟩
  · have a : decide ((n : Int) < -(2 ^ 63 : Int)) = false := decide_eq_false (by omega)
    have b : decide ((n : Int) ≥ 2 ^ 63) = false := decide_eq_false (by omega)
    rw [a, b]
    rfl
  · have h0 : (0 : Int) < (n : Int) := by omega
    have h3 : (16777216 : Int) ≤ (2 ^ 63 - 1) / (n : Int) := by
      rw [Int.le_ediv_iff_mul_le h0]
      omega
    omega
  · have le : z.length * (n : Int).toNat ≤ 16777216 := by
      rw [Int.toNat_natCast]
      exact hz1
    unfold Builtin.Str.tooLong
    exact decide_eq_false (by have : sizeLine = 16777216 := rfl; omega)
/-! a tuple turned about -/
theorem fm_congr {α β : Type} {f g : α → Option β} : ∀ {l : List α}, (∀ x ∈ l, f x = g x) → l.filterMap f = l.filterMap g
  | [], _ => rfl
  | x :: l, h => by
    rw [List.filterMap_cons, List.filterMap_cons, h x List.mem_cons_self, fm_congr fun y hy => h y (List.mem_cons_of_mem _ hy)]
section
variable {prog : Program} {w : World} {A : Around} {E : Value → Shared → Prop} {s : Shared}
theorem getItem_back {t sl : Addr} {its : Array Value} {vl vu vs : Value} {Q : Value → Shared → Prop} (ht : IsTup s.heap t its) (hz : its.size ≤ sizeLine) (hs : s.heap.IsSliceOf sl vl vu vs) (pl : IsPart vl none) (pu : IsPart vu none) (ps : IsPart vs (some (-1)))
    (h : Q (.ref s.heap.objs.size) { s with heap := s.heap.push { cls := .type "tuple", data := .seq its.toList.reverse.toArray } }) : wpAny (model prog w) A (getItem (.ref t) (.ref sl)) Q E s := by
  have htake : sizeOk (.seq its.toList.reverse.toArray) := by
    show its.toList.reverse.toArray.size ≤ sizeLine
    simpa using hz
  obtain ⟨os, hos, hcs, hds⟩ := id hs
  have hTs : s.TypeIs (.ref sl) "slice" := ⟨os, hos, hcs⟩
  unfold getItem
  try with_reducible refine wpAny_holding ?_
  first | refine wpAny_bind (wpAny_pure ?_) | skip
  refine wpAny_bind (wpAny_sequenceKey ht.typeIs (by decide) ?_)
  refine wpAny_bind (wpAny_callSpecial?_slot (name := Str.ofString "__getitem__") ht.typeIs PyProof.Rows.slot_tuple_getitem
    (wpAny_call_entry PyProof.Rows.slot_tuple_getitem ht.typeIs entry_tuple_getitem ?_ (args_tuple_getitem _ _)))
  show wpAny _ _ (Builtin.Tuple.tupleItemsOf (.ref t) >>= _) _ _ s
  refine wpAny_bind (tupleItemsOf_ ht ?_)
  refine wpAny_bind (wpAny_typeOf hTs ?_)
  rw [if_pos (by decide)]
  refine wpAny_bind ?_
  unfold Builtin.Slice.sliceApplied Builtin.Slice.sliceFields
  refine wpAny_bind (wpAny_bind (wpAny_field hos hds (x := vl) rfl (wpAny_bind (wpAny_field hos hds (x := vu) rfl (wpAny_bind (wpAny_field hos hds (x := vs) rfl (wpAny_pure ?_)))))))
  refine wpAny_bind (HT.slicePart_ ps ?_)
  show wpAny _ _ (if ((-1 : Int) == 0) = true then _ else _) _ _ s
  rw [if_neg (by decide)]
  refine wpAny_bind (HT.slicePart_ pl (wpAny_bind (HT.slicePart_ pu (wpAny_bind (wpAny_pure ?_)))))
  refine wpAny_pure ?_
  have en : Builtin.Slice.slicePlaces ((its.size : Int) - 1) (-1) (-1) = its.size := by
    unfold Builtin.Slice.slicePlaces
    simp only [show ¬ ((-1 : Int) > 0) by decide, if_false, show (- -1 : Int) = 1 by decide, Int.ediv_one]
    split <;> omega
  show wpAny _ _ (if ((((its.size : Int) - 1) == 0 && (-1 : Int) == 1 && Builtin.Slice.slicePlaces ((its.size : Int) - 1) (-1) (-1) == its.size) = true) then _ else _) _ _ s
  rw [if_neg (by simp)]
  generalize hA : (List.filterMap _ (List.range _)).toArray = arr
  have hA' : (List.filterMap (fun k : Nat => its[(((its.size : Int) - 1) + (k : Int) * (-1)).toNat]?) (List.range (Builtin.Slice.slicePlaces ((its.size : Int) - 1) (-1) (-1)))).toArray = arr := hA
  have eA : arr = its.toList.reverse.toArray := by
    rw [← hA', en]
    have e : List.filterMap (fun k : Nat => its[(((its.size : Int) - 1) + (k : Int) * (-1)).toNat]?) (List.range its.size) = List.filterMap (its[·]?) ((List.range its.size).map fun k => its.size - 1 - k) := by
      rw [List.filterMap_map]
      refine fm_congr fun k hk => ?_
      have := List.mem_range.mp hk
      show its[(((its.size : Int) - 1) + (k : Int) * (-1)).toNat]? = its[its.size - 1 - k]?
      have e2 : (((its.size : Int) - 1) + (k : Int) * (-1)).toNat = its.size - 1 - k := by omega
      rw [e2]
    rw [e, PySem.W.krv_range, List.filterMap_reverse, PySem.W.krv_all]
  subst eA
  show wpAny _ _ (Builtin.Tuple.tupleExact its.toList.reverse.toArray >>= fun v => ret v) _ _ s
  first
    | exact wpAny_bind (m := Builtin.Tuple.tupleExact _) (wpAny_newObj_type (wpAny_pure ⟨_, rfl, wpAny_pure h⟩) htake)
    | exact wpAny_bind (m := Builtin.Tuple.tupleExact _) (wpAny_newObj_type (wpAny_bind (wpAny_pure (wpAny_pure ⟨_, rfl, wpAny_pure h⟩))) htake)
end
section
variable {X : Cx}
def tRevT (K : PySem.W.Frag) (te : TE) : TE := fun σ H Q => te σ H fun x H1 => ∃ (a : Addr) (xs : List V), x = .ref a ∧ SqT K H1 a xs ∧ ∀ p, H1 p = none → Q (.ref p) (upd H1 p (.tup xs.reverse))
theorem pe_revT {e : Expr} {te : TE} {k : Nat} {p1 p2 p3 pos : Pos} (he : PE X e te) : PE X (.Subscript e (.Slice none none (some (.UnaryOp .USub (.Constant (.int 1) k p1) p2)) p3) pos) (tRevT X.K te) := by
  refine ⟨fun pins s σ H Q I h => ?_⟩
  refine Subscript_ (thn (he.run pins s σ H _ I h) fun v s1 ⟨x, H1, I1, r1, q1⟩ => ?_)
  obtain ⟨a, xs, ex, hx, q⟩ := q1
  subst ex
  cases r1
  have hst : PO X (some (.UnaryOp .USub (.Constant (.int 1) k p1) p2)) (tPart (tUn (rU fun i => .int (-i)) (tC (.int 1)))) := po_some (pe_un un_neg pe_int)
  refine wpAny_Slice (thn (po_none.run pins s1 σ H1 (fun o H2 => o = none ∧ H2 = H1) I1 ⟨rfl, rfl⟩) fun vl s2 ⟨l, H2, I2, pl, el, e2⟩ => ?_)
  subst el e2
  refine thn (po_none.run pins s2 σ H2 (fun o H3 => o = none ∧ H3 = H2) I2 ⟨rfl, rfl⟩) fun vu s3 ⟨u, H3, I3, pu, eu, e3⟩ => ?_
  subst eu e3
  refine thn (hst.run pins s3 σ H3 (fun o H4 => o = some (-1) ∧ H4 = H3) I3 ⟨1, rfl, -1, rfl, rfl, rfl⟩) fun vs s4 ⟨o, H4, I4, ps, eo, e4⟩ => ?_
  subst eo e4
  have I5 : Inv X pins σ H4 { s4 with heap := s4.heap.push { cls := .type "slice", data := .fields #[vl, vu, vs] } } := I4.kept (t' := s4.toks) fun b ob q => Heap.get?_push_of_some _ q
  obtain ⟨its, r, ht, hz⟩ := I5.tuple hx
  have lr := r.length
  show wpAny (model X.prog X.w) X.A (subscriptTail e (.Slice none none (some (.UnaryOp .USub (.Constant (.int 1) k p1) p2)) p3) (.ref a) (.ref s4.heap.objs.size)) (EP X pins σ Q) X.xe { s4 with heap := s4.heap.push { cls := .type "slice", data := .fields #[vl, vu, vs] } }
  refine tail_any (ops := [.ref a, .ref s4.heap.objs.size]) ht.typeIs (PyProof.Rows.slot_tuple_getitem.lookup) ?_ (by with_unfolding_all rfl)
  refine getItem_back ht (by rw [List.size_toArray]; omega) (Heap.IsSliceOf.new _ vl vu vs) pl pu ps ?_
  refine ⟨.ref _, _, I5.laid (t' := s4.toks) (o := .tup xs.reverse) (fun b ob q => Heap.get?_push_of_some _ q) (Nat.le_refl _) ?_, rfl, q _ (I5.hok.fresh (Nat.le_refl _))⟩
  exact ⟨by rw [List.length_reverse]; exact hz, its.reverse, r.reverse, IsTup.new _ _⟩
end
/-! a list == the empty list -/
def rEqL0 (K : PySem.W.Frag) : R2 := fun x y H Q => ∃ (a b : Addr) (xs : List V), x = .ref a ∧ y = .ref b ∧ SqL K H a xs ∧ SqL K H b [] ∧ Q (.bl xs.isEmpty) H
theorem op_eqL0 {X : Cx} (hu : X.A.units + 64 < cLine) : OpR X (compareOp .Eq) (rEqL0 X.K) := by
  intro pins s σ H x y v u Q I rx ry h
  obtain ⟨a, b, xs, rfl, rfl, ha, hb, q⟩ := h
  cases rx
  cases ry
  obtain ⟨is, r1, ⟨o1, n1, h1, c1, _, d1⟩, _⟩ := I.list ha
  obtain ⟨js, r2, ⟨o2, n2, h2, c2, _, d2⟩, _⟩ := I.list hb
  cases r2
  cases r1 with
  | nil => exact PySem.SeqAt.eq_listAt (e := fun _ => true) ⟨o1, h1, c1, n1, d1⟩ ⟨o2, h2, c2, n2, d2⟩ rfl (by omega) (fun j j1 _ => absurd j1 (Nat.not_lt_zero _)) ⟨.bl true, H, I, rfl, q⟩
  | cons r t => exact PySem.SeqAt.eq_list_lengthsAt ⟨o1, h1, c1, n1, d1⟩ ⟨o2, h2, c2, n2, d2⟩ (by simp) (by omega) ⟨.bl false, H, I, rfl, q⟩
end Kv

/-! enumerate of a tuple -/
namespace PySem
open Sem (wp)
open AutoSeq1 (wpAny_loadPart')
theorem enumT_new (l : Addr) (its : Array Value) :
    Meets (Builtin.«enumerate.__new__» ⟨[.type "enumerate", .ref l], []⟩) (fun _ R s => s.heap.IsTuple l its ∧
      R (.ok (.ret (.ref (s.heap.push { cls := .type "tuple_iterator", data := .fields #[.ref l, .int 0 0] }).objs.size)))
        { s with heap := (s.heap.push { cls := .type "tuple_iterator", data := .fields #[.ref l, .int 0 0] }).push { cls := .type "enumerate", data := .fields #[.none, .bool false, .ref s.heap.objs.size, rawInt 0, .none, .none] } }) :=
  .of_wp fun prog w A R s h => by
    obtain ⟨hp, g, d, tk, os⟩ := s
    obtain ⟨hT, h⟩ := h
    obtain ⟨o, ho, hc, n, hd⟩ := id hT
    have ff := sub_enumerate
    wp_walk using wpAny_loadPart' ho
    refine wpAny_stack_any fun st => wpAny_pure ?_
    split
    · rename_i c _ _ _ _ _
      cases (c == Value.type "enumerate")
      · wp_walk using wpAny_loadPart' ho, wpAny_pyIter_tuple hT
        exact ⟨_, rfl, h⟩
      · wp_walk using wpAny_loadPart' ho, wpAny_pyIter_tuple hT
        exact ⟨_, rfl, h⟩
    · wp_walk using wpAny_loadPart' ho, wpAny_pyIter_tuple hT
      exact ⟨_, rfl, h⟩
end PySem
namespace Kv
open PySem PySem.Spec PyProof.Rows L2 Kf
/-- the tuple at a, each item in a new pair -/
def IteT (K : PySem.W.Frag) (a : Addr) : It where
  go := fun i H => ∃ (xs : List V) (x : V), SqT K H a xs ∧ xs[i]? = some x
  yld := fun i H v G => ∃ T x, v = .ref T ∧ H T = none ∧ G = upd H T (.tup [.int (i : Nat), x]) ∧ ∀ xs, SqT K H a xs → xs[i]? = some x
  stop := fun i H => ∃ xs : List V, SqT K H a xs ∧ xs.length ≤ i
theorem turn_enumT {P : Program} {w : World} {K : PySem.W.Frag} {elts : List Expr} {kk : Nat} {tpos : Pos} (a e it : Addr) :
    Turn P w K (.Tuple elts kk tpos) (IteT K a) [e, it] e (fun i h => (∃ old, IsEnum h e it ((i : Nat) : Int) old) ∧ h.IsTupleIter it a i ∧ e ≠ it) where
  mem := by simp
  obj := by
    intro i h st b hb
    obtain ⟨⟨old, he⟩, ⟨o, ho, hc, hd⟩, _⟩ := st
    rcases (by simpa using hb : b = e ∨ b = it) with rfl | rfl
    · exact ⟨_, he, fun v q => nomatch q⟩
    · exact ⟨o, ho, fun v q => by rw [hd] at q; cases q⟩
  keep := fun i h h' st k => let ⟨⟨old, he⟩, hi, hne⟩ := st; ⟨⟨old, k e (by simp) _ he⟩, hi.at fun o q => k it (by simp) o q, hne⟩
  item := by
    intro X hP hw hK hc i pins s σ H E I hf st hg
    subst hP hw hK
    obtain ⟨⟨old, he⟩, hit, hne⟩ := st
    obtain ⟨xs, x, hq, hx⟩ := hg
    obtain ⟨its, rv, tp, hz⟩ := I.tuple hq
    obtain ⟨u, hu, ru⟩ := rv.get hx
    obtain ⟨oi, hoi, hci, hdi⟩ := id hit
    obtain ⟨ot, hot, hct, nt, hdt⟩ := id tp
    have lt : i < its.length := (List.getElem?_eq_some_iff.mp hu).1
    have ai : a ≠ it := fun z => by
      rw [z, hoi] at hot
      cases hot
      rw [hci] at hct
      exact absurd (Value.type.inj hct) (by decide)
    have ea : e ≠ a := fun z => by
      rw [← z, he] at hot
      cases hot
      exact absurd (Value.type.inj hct) (by decide)
    have hel : e < s.heap.objs.size := Heap.lt_size he
    have hil : it < s.heap.objs.size := Heap.lt_size hoi
    refine wpAny_pyNext_enum_itemD (Draws.tuple (A := X.A.in1) (I.ok.hd hc) it a ai its.toArray) he ⟨hit, ⟨ot, hot, hct, nt, hdt⟩⟩ (by simpa using lt) hne (by simp [hne, ea]) ?_
    intro u' h1 tk hu' ho hst hT hsz hk
    have eu : u' = u := by
      have z : its[i]? = some u' := by simpa using hu'
      rw [hu] at z
      exact (Option.some.inj z).symm
    subst eu
    refine ⟨_, rfl, wpAny_letOwnedTupleGo_enum (s := { s with heap := h1, toks := tk + 1 }) ho ?_⟩
    intro h2 he' sb
    have hT2 : h2.get? s.heap.objs.size = some { cls := .type "tuple", data := .seq #[.int i tk, u'] } := (sb.2 _ (Nat.ne_of_gt hel)).trans hT
    have new : ObjOk X.prog X.w (upd H s.heap.objs.size (.tup [.int (i : Nat), x])) h2 s.heap.objs.size (.tup [.int (i : Nat), x]) := ⟨by show 2 ≤ sizeLine; decide, [.int i tk, u'], .cons ⟨_, rfl⟩ (.cons ru .nil), ⟨_, hT2, rfl, _, rfl⟩⟩
    have J : Inv X pins σ (upd H s.heap.objs.size (.tup [.int (i : Nat), x])) { s with heap := h2, toks := tk + 1 } :=
      I.turnedNew (ch := [e, it]) (fun b ob hb q => (sb.2 b (fun z => hb (by simp [z]))).trans (hk b ob (fun z => hb (by simp [z])) (fun z => hb (by simp [z])) q)) hf (Nat.le_refl _) new
    refine ⟨.ref s.heap.objs.size, _, J, rfl, ⟨_, x, rfl, I.hok.fresh (Nat.le_refl _), rfl, fun ys hy => by rw [I.tuple_inj hy hq]; exact hx⟩, ⟨⟨u', ?_⟩, hst.1.at fun o q => (sb.2 it (Ne.symm hne)).trans q, hne⟩, fun b hb => ?_⟩
    · rw [show ((i + 1 : Nat) : Int) = (i : Int) + 1 by omega]
      exact he'
    · have lb : b < s.heap.objs.size := by
        rcases (by simpa using hb : b = e ∨ b = it) with rfl | rfl
        · exact hel
        · exact hil
      rw [upd_ne (Nat.ne_of_lt lb)]
      exact (hf b hb).1
  done := by
    intro X hP hw hK hc i pins s σ H E I hf st hg
    subst hP hw hK
    obtain ⟨⟨old, he⟩, hit, hne⟩ := st
    obtain ⟨xs, hq, hx⟩ := hg
    obtain ⟨its, rv, tp, hz⟩ := I.tuple hq
    obtain ⟨oi, hoi, hci, hdi⟩ := id hit
    obtain ⟨ot, hot, hct, nt, hdt⟩ := id tp
    have ai : a ≠ it := fun z => by
      rw [z, hoi] at hot
      cases hot
      rw [hci] at hct
      exact absurd (Value.type.inj hct) (by decide)
    obtain ⟨f0, f1, f2, f3, f4, f5⟩ := hf it (by simp)
    have hl := rv.length
    have none : its.toArray[i]? = none := by
      rw [List.getElem?_toArray]
      exact List.getElem?_eq_none (by omega)
    have D : Draws X.prog X.w X.A.in1 it [it, a] i (fun _ _ => True) (fun j h => j = i ∧ h.IsTupleIter it a i ∧ h.IsTuple a its.toArray) :=
      { live := fun _ _ st => let ⟨o, ho, _⟩ := st.2.1; ⟨o, ho⟩
        frame := fun _ _ _ st hk => ⟨st.1, st.2.1.at fun o e => hk it (by simp) o e, st.2.2.at fun o e => hk a (by simp) o e⟩
        item := fun j s Q E hj st _ => absurd st.1 (Nat.ne_of_lt hj)
        done := fun s Q E st hE => wpAny_nextOf_tuple_end (I.ok.hd hc) st.2.1 st.2.2 none hE }
    exact wpAny_pyNext_enum_endD D he ⟨rfl, hit, ⟨ot, hot, hct, nt, hdt⟩⟩ fun h1 eb => ⟨rfl, I.turned (t' := s.toks) (fun b o hb q => eb b o hb q) f0 f1 f3 f4 f5⟩
  self := fun A i s Q E st h => let ⟨⟨_, he⟩, _⟩ := st; wpAny_pyIter_enum he h
def iEnumT (K : PySem.W.Frag) (ta : TA) : TI := fun σ H R => ta σ H fun vs G => ∃ (a : Addr) (xs : List V), vs = [.ref a] ∧ SqT K G a xs ∧ R (IteT K a) G
theorem pi_enumT {X : Cx} {e : Expr} {ta : TA} {p pos tpos : Pos} {elts : List Expr} {kk : Nat} (hg : Gl X "enumerate") (hm : X.mg "enumerate" = none) (ha : PA X [e] ta) (hs : starEach [e] X.env = [(false, eval e X.env)] := by rfl) :
    PI X (.Tuple elts kk tpos) (.Call (.Name "enumerate" p) [e] [] pos) (iEnumT X.K ta) := by
  constructor
  intro pins s σ H R I h
  refine Call_ (ld_blt I hg hm boot_enumerate (PyProof.Rows.callWith_type1 (thn (ha.run pos pins s σ H _ I h) ?_) hs rfl))
  rintro us s1 ⟨vs, G, J, r, a, xs, rfl, hq, q⟩
  rw [Vals.ref1 r]
  obtain ⟨its, rv, tp, hz⟩ := J.tuple hq
  have IT : s1.heap.IsTuple a its.toArray := let ⟨o, ho, hc, n, hd⟩ := tp; ⟨o, ho, hc, n, hd⟩
  have sz1 : (s1.heap.push { cls := .type "tuple_iterator", data := .fields #[.ref a, .int 0 0] }).objs.size = s1.heap.objs.size + 1 := Heap.size_push ..
  refine callType_new F.called_enumerate (by decide) (F.typeCall_enumerate_1 _) (F.newCall_enumerate_1 _) (fun obj => F.args_object_init_2 obj _) F.entry_enumerate_new (enumT_new a its.toArray) ⟨IT, ?_⟩
  show _ ∧ _
  rw [sz1]
  have he := Heap.get?_push_size (s1.heap.push { cls := .type "tuple_iterator", data := .fields #[.ref a, .int 0 0] }) (o := { cls := .type "enumerate", data := .fields #[.none, .bool false, .ref s1.heap.objs.size, rawInt 0, .none, .none] }) rfl
  rw [sz1] at he
  refine ⟨⟨_, he, rfl⟩, wpAny_pyIter_enum he ?_⟩
  have J2 := J.kept (h' := (s1.heap.push { cls := .type "tuple_iterator", data := .fields #[.ref a, .int 0 0] }).push { cls := .type "enumerate", data := .fields #[.none, .bool false, .ref s1.heap.objs.size, rawInt 0, .none, .none] }) (t' := s1.toks) (fun b o x => Heap.get?_push_of_some _ (Heap.get?_push_of_some _ x))
  refine ⟨s1.heap.objs.size + 1, [s1.heap.objs.size + 1, s1.heap.objs.size], _, _, G, rfl, J2, turn_enumT a (s1.heap.objs.size + 1) s1.heap.objs.size, ⟨⟨.none, he⟩, ⟨_, Heap.get?_push_of_some _ (Heap.get?_push_size _ rfl), rfl, rfl⟩, Nat.succ_ne_self _⟩, fun b hb => ?_, q⟩
  have le : s1.heap.objs.size ≤ b := by
    rcases (by simpa using hb : b = s1.heap.objs.size + 1 ∨ b = s1.heap.objs.size) with rfl | rfl
    · exact Nat.le_add_right _ _
    · exact Nat.le_refl _
  exact J.fpOk le (J.hok.fresh le)
theorem walk_enumT {K : PySem.W.Frag} {a : Addr} {xs : List V} : Walk (IteT K a) xs.length (fun H => SqT K H a xs) (YPair (fun i => some (.int (i : Nat))) (fun i => xs[i]?)) := by
  refine ⟨fun i _ hi q => ⟨xs, xs[i], q, by simp [hi]⟩, fun _ q => ⟨xs, q, Nat.le_refl _⟩, fun i H v G _ q y => ?_⟩
  obtain ⟨T, x, h1, h2, h3, h4⟩ := y
  exact ⟨T, .int (i : Nat), x, h1, h2, h3, rfl, h4 xs q⟩
end Kv

/-! a thing of anything == a text -/
namespace PySem.SeqAt
theorem sub_str_dic : isSubtype (.type "str") (.type "dict") = pure false := by kernel_rfl
theorem dic_declines (l : Addr) (es : Array DictEntry) (n : Nat) (dd : Option Addr) (sl : Array (Option Value)) (b : Str) (u : Tok) :
    Meets (Builtin.«dict.__eq__» ⟨[.ref l, .str b u], []⟩) (fun _ R s => s.heap.get? l = some { cls := .type "dict", dict := dd, data := .dict es n, slots := sl } ∧ R (.ok (.ret .notImplemented)) s) :=
  .of_wp fun prog w A R s h => by
    obtain ⟨hp, g, d, tk, os⟩ := s
    obtain ⟨hl, h⟩ := h
    have f1 := sub_str_dic
    wp_walk using AutoSeq1.wpAny_loadPart' hl
    exact ⟨_, rfl, h⟩
theorem str_declines_dic (b : Str) (u : Tok) (l : Addr) (es : Array DictEntry) (n : Nat) (dd : Option Addr) (sl : Array (Option Value)) :
    Meets (Builtin.«str.__eq__» ⟨[.str b u, .ref l], []⟩) (fun _ R s => s.heap.get? l = some { cls := .type "dict", dict := dd, data := .dict es n, slots := sl } ∧ R (.ok (.ret .notImplemented)) s) :=
  .of_wp fun prog w A R s h => by
    obtain ⟨hp, g, d, tk, os⟩ := s
    obtain ⟨hl, h⟩ := h
    wp_walk using AutoSeq1.wpAny_loadPart' hl, wpAny_load hl
    exact ⟨_, rfl, h⟩
theorem dic_str {A : Around} {s : Shared} {l : Addr} {o : Obj} {es : Array DictEntry} {n : Nat} (b : Str) (u : Tok) (ho : s.heap.get? l = some o) (hc : o.cls = .type "dict") (hd : o.data = .dict es n) (hu : A.units < cLine) : RcAt A s (.ref l) (.str b u) false := fun prog w E Q h => by
  obtain ⟨cls, dd, data, sl⟩ := o
  simp only at hc hd
  subst hc hd
  exact rc_eq_decline_or (k := false) ⟨_, ho, rfl⟩ (typeIs_str s b u) (by decide) sub_str_dic F.slot_dict_eq F.slot_str_eq_refl
    (fun _ hq => call_meets F.slot_dict_eq ⟨_, ho, rfl⟩ F.entry_dict_eq (F.args_dict_eq_2 _ _) (dic_declines l es n dd sl b u) ⟨ho, hq⟩)
    (fun _ hq => call_meets F.slot_str_eq_refl (typeIs_str s b u) F.entry_str_eq (F.args_str_eq_2 _ _) (str_declines_dic b u l es n dd sl) ⟨ho, hq⟩)
    (fun _ hq => wpAny_of_eq (rfl : isSame (.ref l) (.str b u) = pure false) hq) (.inr hu) h
end PySem.SeqAt
namespace Kv
open PySem PySem.Spec PyProof.Rows L2 Kf
def Dt.isS (x : Dt) (z : Str) : Bool := match x with
  | .str y => decide (y = z)
  | _ => false
def rEqUS : R2 := fun x y H Q => ∃ (d : Dt) (z : Str), Dd Any H d x ∧ y = .str z ∧ Q (.bl (d.isS z)) H
theorem op_eqUS {X : Cx} (hu : X.A.units + 64 < cLine) : OpR X (compareOp .Eq) rEqUS := by
  intro pins s σ H x y v u Q I rx ry h
  obtain ⟨d, z, hd, rfl, q⟩ := h
  obtain ⟨t2, rfl⟩ := ry
  have no : d.isS z = false → EP X pins σ Q (.bool false) s := fun e => by
    rw [e] at q
    exact ⟨.bl false, H, I, rfl, q⟩
  cases hd with
  | non =>
    cases rx
    exact SeqAt.RcAt.none_str z t2 _ _ _ _ (no rfl)
  | bl b =>
    cases rx
    exact SeqAt.RcAt.bool_str b z t2 _ _ _ _ (no rfl)
  | int i =>
    obtain ⟨t1, rfl⟩ := rx
    exact SeqAt.RcAt.int_str i t1 z t2 _ _ _ _ (no rfl)
  | str y =>
    obtain ⟨t1, rfl⟩ := rx
    refine SeqAt.RcAt.str_str y t1 z t2 _ _ _ _ ?_
    have e : (y == z) = (Dt.str y).isS z := by
      show (y == z) = decide (y = z)
      by_cases c : y = z
      · subst c
        simp
      · rw [decide_eq_false c]
        exact beq_eq_false_iff_ne.mpr c
    rw [e]
    exact ⟨.bl _, H, I, rfl, q⟩
  | tup h t =>
    cases rx
    obtain ⟨its, rv, ⟨o, ho, hc, n, hd⟩, _⟩ := I.tuple (SqT.of h)
    exact SeqAt.RcAt.tuple_str z t2 ⟨o, ho, hc, n, hd⟩ (by omega) _ _ _ _ (no rfl)
  | lst _ h t =>
    cases rx
    obtain ⟨its, rv, ⟨o, n, ho, hc, _, hd⟩, _⟩ := I.list (SqL.of h)
    exact SeqAt.RcAt.list_str z t2 ⟨o, ho, hc, n, hd⟩ (by omega) _ _ _ _ (no rfl)
  | dct _ h =>
    cases rx
    obtain ⟨o, es, n, ho, hc, hd, _, _, _⟩ := dct_obj I h
    exact SeqAt.dic_str z t2 ho hc hd (by omega) _ _ _ _ (no rfl)
end Kv

/-! numbers and truths reckoned with; a thing is a truth; None among things -/
namespace Kv
open PySem PySem.Spec PyProof.Rows L2 Kf
/-- a number, or a truth as a number -/
def nu : V → Option Int
  | .int i => some i
  | .bl b => some (if b = true then (1 : Int) else 0)
  | _ => none
section
variable {X : Cx}
theorem op_addU : OpR X (binaryOp .Add) (fun x y H Q => ∃ i j, nu x = some i ∧ y = .int j ∧ Q (.int (i + j)) H) := by
  intro pins s σ H x y v u Q I rx ry h
  obtain ⟨i, j, hx, rfl, q⟩ := h
  obtain ⟨t2, rfl⟩ := ry
  cases x with
  | int a =>
    obtain ⟨t1, rfl⟩ := rx
    cases hx
    exact (op_add (X := X)) pins s σ H (.int i) (.int j) _ _ Q I ⟨t1, rfl⟩ ⟨t2, rfl⟩ ⟨i, j, rfl, rfl, q⟩
  | bl b =>
    cases rx
    cases hx
    exact PySem.IntBool.add_bool_int ⟨.int _, H, I.tok _, ⟨_, rfl⟩, q⟩
  | _ => cases hx
theorem op_subU : OpR X (binaryOp .Sub) (fun x y H Q => ∃ i j, nu x = some i ∧ y = .int j ∧ Q (.int (i - j)) H) := by
  intro pins s σ H x y v u Q I rx ry h
  obtain ⟨i, j, hx, rfl, q⟩ := h
  obtain ⟨t2, rfl⟩ := ry
  cases x with
  | int a =>
    obtain ⟨t1, rfl⟩ := rx
    cases hx
    exact (op_sub (X := X)) pins s σ H (.int i) (.int j) _ _ Q I ⟨t1, rfl⟩ ⟨t2, rfl⟩ ⟨i, j, rfl, rfl, q⟩
  | bl b =>
    cases rx
    cases hx
    exact PySem.IntBool.sub_bool_int ⟨.int _, H, I.tok _, ⟨_, rfl⟩, q⟩
  | _ => cases hx
theorem op_subV : OpR X (binaryOp .Sub) (fun x y H Q => ∃ i j, x = .int i ∧ nu y = some j ∧ Q (.int (i - j)) H) := by
  intro pins s σ H x y v u Q I rx ry h
  obtain ⟨i, j, rfl, hy, q⟩ := h
  obtain ⟨t1, rfl⟩ := rx
  cases y with
  | int a =>
    obtain ⟨t2, rfl⟩ := ry
    cases hy
    exact (op_sub (X := X)) pins s σ H (.int i) (.int j) _ _ Q I ⟨t1, rfl⟩ ⟨t2, rfl⟩ ⟨i, j, rfl, rfl, q⟩
  | bl b =>
    cases ry
    cases hy
    exact PySem.IntBool.sub_int_bool ⟨.int _, H, I.tok _, ⟨_, rfl⟩, q⟩
  | _ => cases hy
theorem op_eqU1 : OpR X (compareOp .Eq) (fun x y H Q => ∃ i j, nu x = some i ∧ y = .int j ∧ ∀ b : Bool, Q (.bl b) H) := by
  intro pins s σ H x y v u Q I rx ry h
  obtain ⟨i, j, hx, rfl, q⟩ := h
  obtain ⟨t2, rfl⟩ := ry
  cases x with
  | int a =>
    obtain ⟨t1, rfl⟩ := rx
    exact SeqAt.RcAt.int_int a t1 j t2 _ _ _ _ ⟨.bl _, H, I, rfl, q _⟩
  | bl b =>
    cases rx
    exact SeqAt.RcAt.bool_int b j t2 _ _ _ _ ⟨.bl _, H, I, rfl, q _⟩
  | _ => cases hx
theorem call_strU : CallR X (.type "str") (fun xs H Q => ∃ x i, xs = [x] ∧ nu x = some i ∧ i.natAbs < 10 ^ 45 ∧ ∀ z : Str, z.length ≤ 50 → (∀ c ∈ z.cps.toList, c < 16 ^ 8) → Q (.str z) H) := by
  intro pins s σ H xs us Q I r h
  obtain ⟨x, i, rfl, hx, hi, q⟩ := h
  obtain ⟨u, rfl, rx⟩ := vals1 r
  cases x with
  | int a =>
    obtain ⟨t, rfl⟩ := rx
    cases hx
    have hl : i.natAbs.log2 < 1920 := by
      by_cases z : i.natAbs = 0
      · rw [z]
        decide
      · have : i.natAbs.log2 < 150 := (Nat.log2_lt z).mpr (Nat.lt_of_lt_of_le hi (by decide))
        omega
    refine PySem.P.str_of_int hl ⟨.str _, H, I.tok _, ⟨_, rfl⟩, q _ ?_ ?_⟩
    · have z := int_text_length_le10 (a := i) (k := 45) (by decide) hi
      have e : (Str.ofString (toString i)).length = (toString i).length := PySem.ofString_length _
      show (Str.ofString (toString i)).length ≤ 50
      rw [e]
      omega
    · intro c hc
      have hc : c ∈ (Str.ofString (toString i)).cps.toList := hc
      rw [Str.ofString_eq_toList] at hc
      simp only [List.mem_map] at hc
      obtain ⟨ch, _, rfl⟩ := hc
      exact ch.val.toNat_lt
  | bl b =>
    cases rx
    refine PySem.P.str_of_bool ⟨.str _, H, I.tok _, ⟨_, rfl⟩, q _ ?_ ?_⟩
    · cases b <;> decide +kernel
    · cases b <;> decide +kernel
  | _ => cases hx
/-- a thing is this truth -/
def Dt.isB (x : Dt) (b : Bool) : Bool := match x with
  | .bl c => decide (c = b)
  | _ => false
theorem op_isU : OpR X (compareOp .Is) (fun x y H Q => ∃ (d : Dt) (b : Bool), Dd Any H d x ∧ y = .bl b ∧ Q (.bl (d.isB b)) H) := by
  intro pins s σ H x y v u Q I rx ry h
  obtain ⟨d, b, hd, rfl, q⟩ := h
  cases ry
  have no : d.isB b = false → EP X pins σ Q (.bool false) s := fun e => by
    rw [e] at q
    exact ⟨.bl false, H, I, rfl, q⟩
  cases hd with
  | non =>
    cases rx
    exact wpAny_is_other rfl (fun z => by cases z) (no rfl)
  | bl c =>
    cases rx
    by_cases e : c = b
    · subst e
      exact wpAny_is_self rfl ⟨.bl true, H, I, rfl, by simpa [Dt.isB] using q⟩
    · exact wpAny_is_other rfl (fun z => e (Value.bool.inj z)) (no (by simp [Dt.isB, e]))
  | int i =>
    obtain ⟨t1, rfl⟩ := rx
    exact wpAny_is_other rfl (fun z => by cases z) (no rfl)
  | str y =>
    obtain ⟨t1, rfl⟩ := rx
    exact wpAny_is_other rfl (fun z => by cases z) (no rfl)
  | tup h t =>
    cases rx
    exact wpAny_is_other rfl (fun z => by cases z) (no rfl)
  | lst _ h t =>
    cases rx
    exact wpAny_is_other rfl (fun z => by cases z) (no rfl)
  | dct _ h =>
    cases rx
    exact wpAny_is_other rfl (fun z => by cases z) (no rfl)
/-- None, a number, a truth, a tuple -/
def Plainy (H : Hp) (z : V) : Prop := z = .non ∨ (∃ i, z = .int i) ∨ (∃ b, z = .bl b) ∨ ∃ a xs, z = .ref a ∧ H a = some (.tup xs)
theorem isNone_pl {z : V} {u : Value} {H : Hp} (r : RelV z u) (f : Plainy H z) : PySem.Numpy.isNone u = isNon z := by
  rcases f with rfl | ⟨i, rfl⟩ | ⟨b, rfl⟩ | ⟨a, xs, rfl, _⟩
  · cases r; rfl
  · obtain ⟨t, rfl⟩ := r; rfl
  · cases r; rfl
  · cases r; rfl
theorem any_pl {H : Hp} : ∀ {xs : List V} {us : List Value}, Vals xs us → (∀ z ∈ xs, Plainy H z) → us.any PySem.Numpy.isNone = xs.any isNon
  | _, _, .nil, _ => rfl
  | y :: xs, u :: us, .cons r t, f => by
    rw [List.any_cons, List.any_cons, isNone_pl r (f y (List.mem_cons_self ..)), any_pl t fun z hz => f z (List.mem_cons_of_mem _ hz)]
theorem pl_eq {A : Around} {pins : List (Addr × Obj)} {σ : L2.St} {H : Hp} {s : Shared} (I : Inv X pins σ H s) (hu : A.units < cLine) {z : V} {u : Value} (r : RelV z u) (f : Plainy H z) : SeqAt.EqAt A s u .none (PySem.Numpy.isNone u) := by
  rcases f with rfl | ⟨i, rfl⟩ | ⟨b, rfl⟩ | ⟨a, xs, rfl, h⟩
  · cases r
    exact SeqAt.EqAt.same _
  · obtain ⟨t, rfl⟩ := r
    exact SeqAt.EqAt.int_none i t
  · cases r
    exact SeqAt.EqAt.bool_none b
  · cases r
    obtain ⟨its, rv, ⟨o, ho, hc, n, hd⟩, _⟩ := I.tuple (SqT.of h)
    exact SeqAt.EqAt.tuple_none ⟨o, ho, hc, n, hd⟩ hu
theorem mem_pl {A : Around} {pins : List (Addr × Obj)} {σ : L2.St} {H : Hp} {s : Shared} (I : Inv X pins σ H s) (hu : A.units < cLine) : ∀ {xs : List V} {us : List Value}, Vals xs us → (∀ z ∈ xs, Plainy H z) → ∀ u ∈ us, SeqAt.EqAt A s u .none (PySem.Numpy.isNone u)
  | _, _, .nil, _ => fun u hu' => by cases hu'
  | y :: xs, u :: us, .cons r t, f => fun u' hu' => by
    rcases List.mem_cons.mp hu' with e | hu'
    · subst e
      exact pl_eq I hu r (f y (List.mem_cons_self ..))
    · exact mem_pl I hu t (fun z hz => f z (List.mem_cons_of_mem _ hz)) u' hu'
def rNoneInU (K : PySem.W.Frag) : R2 := fun x y H Q => ∃ p xs, x = .non ∧ y = .ref p ∧ SqL K H p xs ∧ (∀ z ∈ xs, Plainy H z) ∧ Q (.bl (xs.any isNon)) H
theorem op_noneInU (hu : X.A.units + 64 < cLine) : OpR X (compareOp .In) (rNoneInU X.K) := by
  intro pins s σ H x y v u Q I rx ry h
  obtain ⟨p, xs, rfl, rfl, hq, f, q⟩ := h
  cases rx
  cases ry
  obtain ⟨its, rv, hl, _⟩ := I.list hq
  have hu1 : X.A.in1.units < cLine := by show X.A.units + 1 < cLine; omega
  refine SeqAt.in_listAt PySem.Numpy.isNone hl.isList (fun z hz => mem_pl I hu1 rv f z (by simpa using hz)) ⟨.bl _, H, I, rfl, ?_⟩
  rw [show its.toArray.any PySem.Numpy.isNone = its.any PySem.Numpy.isNone by simp, any_pl rv f]
  exact q
end
end Kv

/-! things of anything: how great they are -/
namespace Kv
open PySem PySem.Spec PyProof.Rows L2 Kf
mutual
def Dt.sz : Dt → Nat
  | .tup xs => 1 + Dt.szs xs
  | .lst xs => 1 + Dt.szs xs
  | .dct kvs => 1 + 3 * kvs.length
  | _ => 1
def Dt.szs : List Dt → Nat
  | [] => 0
  | x :: xs => x.sz + Dt.szs xs
end
theorem sz_mem : ∀ {xs : List Dt} {x : Dt}, x ∈ xs → x.sz ≤ Dt.szs xs
  | y :: ys, x, h => by
    rcases List.mem_cons.mp h with rfl | h
    · exact Nat.le_add_right _ _
    · exact Nat.le_trans (sz_mem h) (Nat.le_add_left _ _)
theorem szs_app : ∀ (xs ys : List Dt), Dt.szs (xs ++ ys) = Dt.szs xs + Dt.szs ys
  | [], ys => by show _ = 0 + _; rw [Nat.zero_add]; rfl
  | x :: xs, ys => by
    show x.sz + Dt.szs (xs ++ ys) = x.sz + Dt.szs xs + Dt.szs ys
    rw [szs_app xs ys, Nat.add_assoc]
mutual
def Dt.dp : Dt → Nat
  | .tup xs => Dt.dps xs + 1
  | .lst xs => Dt.dps xs + 1
  | .dct _ => 1
  | _ => 0
def Dt.dps : List Dt → Nat
  | [] => 0
  | x :: xs => max x.dp (Dt.dps xs)
end
def kwt : List (Str × Int) → Nat
  | [] => 3
  | p :: r => 10 * p.1.length + 60 + kwt r
mutual
def Dt.wt : Dt → Nat
  | .non => 4
  | .bl _ => 5
  | .int _ => 52
  | .str x => 10 * x.length + 2
  | .tup xs => Dt.wts xs + 3
  | .lst xs => Dt.wts xs + 3
  | .dct kvs => kwt kvs
def Dt.wts : List Dt → Nat
  | [] => 0
  | x :: xs => x.wt + 2 + Dt.wts xs
end
mutual
def Dt.fine (B : Nat) : Dt → Prop
  | .int i => i.natAbs < B
  | .str x => ∀ c ∈ x.cps.toList, c < 16 ^ 8
  | .tup xs => Dt.fines B xs
  | .lst xs => Dt.fines B xs
  | .dct kvs => ∀ p ∈ kvs, (∀ c ∈ p.1.cps.toList, c < 16 ^ 8) ∧ p.2.natAbs < B
  | _ => True
def Dt.fines (B : Nat) : List Dt → Prop
  | [] => True
  | x :: xs => x.fine B ∧ Dt.fines B xs
end
theorem int_shw {B : Nat} (hB : B ≤ 10 ^ 45) (i : Int) (h : i.natAbs < B) : (PyData.int i).showable = true ∧ (PyData.int i).depth = 0 ∧ (PyData.int i).shown.length ≤ 52 := by
  have h : i.natAbs < 10 ^ 45 := Nat.lt_of_lt_of_le h hB
  refine ⟨?_, by simp [PyData.depth], ?_⟩
  · simp only [PyData.showable]
    refine decide_eq_true ?_
    by_cases z : i.natAbs = 0
    · rw [z]
      decide
    · have : i.natAbs.log2 < 150 := (Nat.log2_lt z).mpr (Nat.lt_of_lt_of_le h (by decide))
      omega
  · have z := int_text_length_le10 (a := i) (k := 45) (by decide) h
    simp only [PyData.shown]
    have e : (Str.ofString (toString i)).length = (toString i).length := PySem.ofString_length _
    rw [e]
    omega
theorem dct_shw {B : Nat} (hB : B ≤ 10 ^ 45) : ∀ (kvs : List (Str × Int)), (∀ p ∈ kvs, (∀ c ∈ p.1.cps.toList, c < 16 ^ 8) ∧ p.2.natAbs < B) → PyData.showableKv (dkp kvs) = true ∧ PyData.depthKv (dkp kvs) = 0 ∧ ((PyData.shownKv (dkp kvs)).map (·.length)).sum + 2 * (PyData.shownKv (dkp kvs)).length + 3 ≤ kwt kvs
  | [], _ => ⟨by simp [dkp, PyData.showableKv], by simp [dkp, PyData.depthKv], by simp [dkp, PyData.shownKv, kwt]⟩
  | (x, i) :: kvs, h => by
    obtain ⟨a, b, c⟩ := dct_shw hB kvs fun p hp => h p (List.mem_cons_of_mem _ hp)
    obtain ⟨f1, f2⟩ := h (x, i) List.mem_cons_self
    obtain ⟨i1, i2, i3⟩ := int_shw hB i f2
    have e : dkp ((x, i) :: kvs) = (.str x, .int i) :: dkp kvs := rfl
    rw [e]
    refine ⟨by simp only [PyData.showableKv, a, i1]; simp [PyData.showable], by simp only [PyData.depthKv, b, i2]; simp [PyData.depth], ?_⟩
    have z : (PyData.str x).shown.length ≤ 10 * x.length + 2 := by simp only [PyData.shown]; exact PySem.StrLaws.reprText_len x f1
    have e2 : ((": " : Str)).length = 2 := by decide +kernel
    simp only [PyData.shownKv, List.map_cons, List.sum_cons, List.length_cons, kwt, strLen_append, e2]
    omega
mutual
theorem Dt.shw {B : Nat} (hB : B ≤ 10 ^ 45) : ∀ (x : Dt), x.fine B → x.toP.showable = true ∧ x.toP.depth = x.dp ∧ x.toP.shown.length ≤ x.wt
  | .non, _ => ⟨by simp [Dt.toP, PyData.showable], by simp [Dt.toP, PyData.depth, Dt.dp], by simp only [Dt.toP, PyData.shown, Dt.wt]; decide⟩
  | .bl b, _ => ⟨by simp [Dt.toP, PyData.showable], by simp [Dt.toP, PyData.depth, Dt.dp], by cases b <;> (simp only [Dt.toP, PyData.shown, Dt.wt]; decide)⟩
  | .int i, h => by
    have h : i.natAbs < B := by simpa only [Dt.fine] using h
    have h : i.natAbs < 10 ^ 45 := Nat.lt_of_lt_of_le h hB
    refine ⟨?_, by simp [Dt.toP, PyData.depth, Dt.dp], ?_⟩
    · simp only [Dt.toP, PyData.showable]
      refine decide_eq_true ?_
      by_cases z : i.natAbs = 0
      · rw [z]
        decide
      · have : i.natAbs.log2 < 150 := (Nat.log2_lt z).mpr (Nat.lt_of_lt_of_le h (by decide))
        omega
    · have z := int_text_length_le10 (a := i) (k := 45) (by decide) h
      simp only [Dt.toP, PyData.shown, Dt.wt]
      have e : (Str.ofString (toString i)).length = (toString i).length := PySem.ofString_length _
      rw [e]
      omega
  | .str x, h => by
    have h : ∀ c ∈ x.cps.toList, c < 16 ^ 8 := by simpa only [Dt.fine] using h
    exact ⟨by simp [Dt.toP, PyData.showable], by simp [Dt.toP, PyData.depth, Dt.dp], by simp only [Dt.toP, PyData.shown, Dt.wt]; exact PySem.StrLaws.reprText_len x h⟩
  | .tup xs, h => by
    obtain ⟨a, b, c⟩ := Dt.shws hB xs (by simpa only [Dt.fine] using h)
    refine ⟨by simpa only [Dt.toP, PyData.showable] using a, by simp only [Dt.toP, PyData.depth, Dt.dp]; omega, ?_⟩
    simp only [Dt.toP, PyData.shown, Dt.wt]
    have := tupleText_len_le (PyData.shownAll (Dt.toPs xs))
    omega
  | .lst xs, h => by
    obtain ⟨a, b, c⟩ := Dt.shws hB xs (by simpa only [Dt.fine] using h)
    refine ⟨by simpa only [Dt.toP, PyData.showable] using a, by simp only [Dt.toP, PyData.depth, Dt.dp]; omega, ?_⟩
    simp only [Dt.toP, PyData.shown, Dt.wt]
    have := listText_len_le (PyData.shownAll (Dt.toPs xs))
    omega
  | .dct kvs, h => by
    obtain ⟨a, b, c⟩ := dct_shw hB kvs (by simpa only [Dt.fine] using h)
    refine ⟨by simp only [Dt.toP, PyData.showable, a], by simp only [Dt.toP, PyData.depth, b, Dt.dp], ?_⟩
    simp only [Dt.toP, PyData.shown, Dt.wt]
    have := dictText_len_le (PyData.shownKv (dkp kvs))
    omega
theorem Dt.shws {B : Nat} (hB : B ≤ 10 ^ 45) : ∀ (xs : List Dt), Dt.fines B xs → PyData.showableAll (Dt.toPs xs) = true ∧ PyData.depthAll (Dt.toPs xs) = Dt.dps xs ∧ ((PyData.shownAll (Dt.toPs xs)).map (·.length)).sum + 2 * (PyData.shownAll (Dt.toPs xs)).length ≤ Dt.wts xs
  | [], _ => ⟨by simp [Dt.toPs, PyData.showableAll], by simp [Dt.toPs, PyData.depthAll, Dt.dps], by simp [Dt.toPs, PyData.shownAll]⟩
  | x :: xs, h => by
    have h : x.fine B ∧ Dt.fines B xs := by simpa only [Dt.fines] using h
    obtain ⟨a, b, c⟩ := x.shw hB h.1
    obtain ⟨a', b', c'⟩ := Dt.shws hB xs h.2
    refine ⟨by simp [Dt.toPs, PyData.showableAll, a, a'], by simp [Dt.toPs, PyData.depthAll, Dt.dps, b, b'], ?_⟩
    simp only [Dt.toPs, PyData.shownAll, List.map_cons, List.sum_cons, List.length_cons, Dt.wts]
    omega
end
/-- it is fine, and within the bounds -/
structure Fine (B n W : Nat) (x : Dt) : Prop where
  ok : x.fine B
  dp : x.dp ≤ n
  wt : x.wt ≤ W
theorem Fine.shw {B n W : Nat} {x : Dt} (h : Fine B n W x) (hB : B ≤ 10 ^ 45) (hW : W ≤ sizeLine) : Shw n x := by
  obtain ⟨a, b, c⟩ := x.shw hB h.ok
  exact ⟨a, by rw [b]; exact h.dp, Nat.le_trans c (Nat.le_trans h.wt hW)⟩
mutual
theorem Dt.fine_up {B C : Nat} (h : B ≤ C) : ∀ {x : Dt}, x.fine B → x.fine C
  | .non, _ => by simp only [Dt.fine]
  | .bl _, _ => by simp only [Dt.fine]
  | .int i, f => by
    simp only [Dt.fine] at f ⊢
    omega
  | .str x, f => by
    simp only [Dt.fine] at f ⊢
    exact f
  | .tup xs, f => by
    simp only [Dt.fine] at f ⊢
    exact Dt.fines_up h f
  | .lst xs, f => by
    simp only [Dt.fine] at f ⊢
    exact Dt.fines_up h f
  | .dct kvs, f => by
    simp only [Dt.fine] at f ⊢
    exact fun p hp => ⟨(f p hp).1, Nat.lt_of_lt_of_le (f p hp).2 h⟩
theorem Dt.fines_up {B C : Nat} (h : B ≤ C) : ∀ {xs : List Dt}, Dt.fines B xs → Dt.fines C xs
  | [], _ => by simp only [Dt.fines]
  | x :: xs, f => by
    simp only [Dt.fines] at f ⊢
    exact ⟨Dt.fine_up h f.1, Dt.fines_up h f.2⟩
end
theorem Fine.mono {A B n W m V : Nat} {x : Dt} (h : Fine A n W x) (ha : A ≤ B) (hn : n ≤ m) (hw : W ≤ V) : Fine B m V x := ⟨Dt.fine_up ha h.ok, Nat.le_trans h.dp hn, Nat.le_trans h.wt hw⟩
mutual
theorem Dt.sz_wt : ∀ x : Dt, x.sz ≤ x.wt
  | .non => by simp only [Dt.sz, Dt.wt]; omega
  | .bl _ => by simp only [Dt.sz, Dt.wt]; omega
  | .int _ => by simp only [Dt.sz, Dt.wt]; omega
  | .str _ => by simp only [Dt.sz, Dt.wt]; omega
  | .tup xs => by
    have := Dt.szs_wts xs
    simp only [Dt.sz, Dt.wt]
    omega
  | .lst xs => by
    have := Dt.szs_wts xs
    simp only [Dt.sz, Dt.wt]
    omega
  | .dct kvs => by
    have : ∀ l : List (Str × Int), 1 + 3 * l.length ≤ kwt l := by
      intro l
      induction l with
      | nil => simp [kwt]
      | cons p r ih => simp only [kwt, List.length_cons]; omega
    simp only [Dt.sz, Dt.wt]
    exact this kvs
theorem Dt.szs_wts : ∀ xs : List Dt, Dt.szs xs ≤ Dt.wts xs
  | [] => by simp only [Dt.szs, Dt.wts]; omega
  | x :: xs => by
    have := x.sz_wt
    have := Dt.szs_wts xs
    simp only [Dt.szs, Dt.wts]
    omega
end
theorem len_szs : ∀ xs : List Dt, xs.length ≤ Dt.szs xs
  | [] => Nat.zero_le _
  | x :: xs => by
    have := len_szs xs
    have : 1 ≤ x.sz := by cases x <;> simp only [Dt.sz] <;> omega
    simp only [Dt.szs, List.length_cons]
    omega
theorem wts_app : ∀ (xs ys : List Dt), Dt.wts (xs ++ ys) = Dt.wts xs + Dt.wts ys
  | [], ys => by simp only [List.nil_append, Dt.wts]; omega
  | x :: xs, ys => by
    simp only [List.cons_append, Dt.wts]
    rw [wts_app xs ys]
    omega
theorem dps_app : ∀ (xs ys : List Dt), Dt.dps (xs ++ ys) = max (Dt.dps xs) (Dt.dps ys)
  | [], ys => by simp only [List.nil_append, Dt.dps]; omega
  | x :: xs, ys => by
    simp only [List.cons_append, Dt.dps]
    rw [dps_app xs ys]
    omega
theorem fines_app {B : Nat} : ∀ (xs ys : List Dt), Dt.fines B (xs ++ ys) ↔ Dt.fines B xs ∧ Dt.fines B ys
  | [], ys => by simp only [List.nil_append, Dt.fines, true_and]
  | x :: xs, ys => by
    simp only [List.cons_append, Dt.fines]
    rw [fines_app xs ys, and_assoc]
end Kv

/-! the end of a law whose defs show things -/
namespace Kf
open PySem PySem.Spec PyProof.Rows L2 LamX
/-- the heap at the law's call: the written part, the tables cs, the script -/
structure Beg (h : Heap) (K : PySem.W.Frag) (mg : Str → Option Value) (cs : List (Addr × Addr)) (a : Addr) (us : Array Value) : Prop where
  kin : K.In h
  gl : h.Ns mainGlobals mg
  bl : ∃ m, h.Ns builtinsNs m ∧ ∀ y : Str, y ≠ "__name__" → m y = bootBuiltins y
  nl : h.NoLimit
  tb : ∀ p ∈ cs, h.get? p.2 = some { cls := .none, data := .fields #[] }
  nk : ∀ p ∈ cs, K.lookup p.2 = none
  cd : ∀ p ∈ cs, PySem.W.CodeHd h p.1 p.2
  bm : ∃ (z : Addr) (q : Obj), mg "__builtins__" = some (.ref z) ∧ z ≠ builtinsNs ∧ h.get? z = some q ∧ q.cls = .type "module" ∧ q.dict = some builtinsNs ∧ q.data = .plain
  sc : h.get? a = some { cls := .type "list", data := .seq us }
/-- tracked are the tables, and perhaps the script -/
structure Fit (H : Hp) (K : PySem.W.Frag) (cs : List (Addr × Addr)) (a : Addr) : Prop where
  tb : ∀ p ∈ cs, H p.2 = some (.tbl #[])
  no : ∀ b u, H b = some u → (∃ p ∈ cs, p.2 = b ∧ u = .tbl #[]) ∨ (b = a ∧ K.lookup a = none ∧ ∃ o xs, u = .frz o (.lst xs))
section
variable {h : Heap} {K : PySem.W.Frag} {mg : Str → Option Value} {cs : List (Addr × Addr)} {a : Addr} {us : Array Value} {H : Hp}
theorem Fit.off (F : Fit H K cs a) (B : Beg h K mg cs a us) {b : Addr} {o : Obj} (e : h.get? b = some o) (n1 : ∀ vs n, o.data ≠ .seq vs n) (n2 : o.data ≠ .fields #[]) : H b = none := by
  match q : H b with
  | none => rfl
  | some u =>
    rcases F.no b u q with ⟨p, hp, rfl, _⟩ | ⟨rfl, _⟩
    · have z := (B.tb p hp).symm.trans e
      exact absurd (congrArg Obj.data (Option.some.inj z)).symm n2
    · have z := B.sc.symm.trans e
      exact absurd (congrArg Obj.data (Option.some.inj z)).symm (n1 _ _)
theorem Fit.dic (F : Fit H K cs a) (B : Beg h K mg cs a us) {b : Addr} {m : Str → Option Value} (N : h.Ns b m) : (hidT h H).Ns b m := by
  obtain ⟨o, es, n, e, d, r⟩ := N
  refine ⟨o, es, n, hidT_get e (F.off B e ?_ ?_), d, r⟩
  · intro vs k z
    rw [d] at z
    cases z
  · intro z
    rw [d] at z
    cases z
theorem Fit.kin (F : Fit H K cs a) (B : Beg h K mg cs a us) : K.In (hidT h H) := fun b o e => hidT_get (B.kin b o e) <| by
  match q : H b with
  | none => rfl
  | some u =>
    rcases F.no b u q with ⟨p, hp, rfl, _⟩ | ⟨rfl, n, _⟩
    · rw [B.nk p hp] at e
      cases e
    · rw [n] at e
      cases e
theorem Fit.mod (F : Fit H K cs a) (B : Beg h K mg cs a us) : L2.Mod K mg (hidT h H) := by
  obtain ⟨m, m1, m2⟩ := B.bl
  obtain ⟨c, c1, c2⟩ := B.nl
  exact ⟨F.kin B, F.dic B B.gl, ⟨m, F.dic B m1, m2⟩, ⟨c, F.dic B c1, c2⟩⟩
theorem Fit.tabs (F : Fit H K cs a) (B : Beg h K mg cs a us) : ∀ p ∈ cs, TabB (hidT h H) mg p.1 p.2 := by
  intro p hp
  have tp := B.tb p hp
  have gP : mainGlobals ≠ p.2 := by
    intro z
    obtain ⟨o, es, n, e, d, _⟩ := B.gl
    rw [z, tp] at e
    cases e
    cases d
  refine ⟨?_, ?_, gP⟩
  · obtain ⟨o, vs, fl, tf, fg, tg, iF, tx, tt, e, r1, r2, r3, r⟩ := B.cd p hp
    refine ⟨o, vs, fl, tf, fg, tg, iF, tx, tt, hidT_get e (F.off B e (fun vs n z => ?_) (fun z => ?_)), r1, r2, r3, r⟩
    · rw [r2] at z
      cases z
    · rw [r2] at z
      cases z
      simp at r3
  · obtain ⟨z, q, b1, b2, b3, b4, b5, b6⟩ := B.bm
    refine ⟨z, q, b1, b2, fun y => ?_, fun y => ?_, hidT_get b3 (F.off B b3 (fun vs n y => ?_) (fun y => ?_)), b4, b5, b6⟩
    · obtain ⟨o, es, n, e, d, _⟩ := B.gl
      rw [← y, b3] at e
      cases e
      rw [b6] at d
      cases d
    · rw [y, tp] at b3
      cases b3
      cases b6
    · rw [b6] at y
      cases y
    · rw [b6] at y
      cases y
/-- what stood stands, behind the call -/
theorem Fit.old (F : Fit H K cs a) (B : Beg h K mg cs a us) {P : Program} {w : World} {G : Hp} {h' : Heap} (U : Un [] [] H G h h') (o1 : HOk P w H h) (o2 : HOk P w G h') : OldK h h' := by
  have tab : ∀ p ∈ cs, ∃ m : Array Value, h'.get? p.2 = some { cls := .none, data := .fields m } := fun p hp => by
    obtain ⟨m, z⟩ := U.tbls p.2 #[] (F.tb p hp)
    exact ⟨_, o2 p.2 _ z⟩
  have rest : ∀ b o, h.get? b = some o → (∃ p ∈ cs, p.2 = b) ∨ h'.get? b = some o := fun b o e => by
    match q : H b with
    | none => exact .inr (U.keep b o e q (by simp) (by simp))
    | some u =>
      rcases F.no b u q with ⟨p, hp, z, _⟩ | ⟨_, _, ob, xs, rfl⟩
      · exact .inl ⟨p, hp, z⟩
      · have e1 := (o1 b _ q).1
        have e2 := (o2 b _ (U.frzs b ob _ q)).1
        rw [e] at e1
        cases e1
        exact .inr e2
  constructor
  · intro b o e
    rcases rest b o e with ⟨p, hp, rfl⟩ | z
    · obtain ⟨m, hm⟩ := tab p hp
      have tp := B.tb p hp
      rw [tp] at e
      cases e
      exact .inr (.inl ⟨((B.cd p hp).tab tp).isCodeTable, rfl, #[], m, rfl, by rw [Array.empty_append]; exact hm⟩)
    · exact .inl z
  · intro b o e
    rcases rest b o e with ⟨p, hp, rfl⟩ | z
    · obtain ⟨m, hm⟩ := tab p hp
      exact ⟨_, hm⟩
    · exact ⟨o, z⟩
end
/-- such a heap there is -/
theorem fit_of {h : Heap} {K : PySem.W.Frag} {mg : Str → Option Value} {cs : List (Addr × Addr)} {a : Addr} {vs : List Value} {ns : List Int} (P : Program) (w : World) (B : Beg h K mg cs a vs.toArray) (hi : IntsAre vs ns) (hl : ns.length ≤ sizeLine) :
    ∃ H : Hp, Fit H K cs a ∧ SqL K H a (ns.map V.int) ∧ HOk P w H h := by
  have lv := hi.length
  have isT : ∀ b, (∃ p ∈ cs, p.2 = b) → h.get? b = some { cls := .none, data := .fields #[] } := by
    rintro b ⟨p, hp, rfl⟩
    exact B.tb p hp
  have na : ¬ ∃ p ∈ cs, p.2 = a := fun z => by
    have y := congrArg Obj.data (Option.some.inj ((isT a z).symm.trans B.sc))
    cases y
  open Classical in
  let T : Hp := fun b => if ∃ p ∈ cs, p.2 = b then some (.tbl #[]) else none
  have Ty : ∀ p ∈ cs, T p.2 = some (.tbl #[]) := fun p hp => if_pos ⟨p, hp, rfl⟩
  have Tn : ∀ b u, T b = some u → (∃ p ∈ cs, p.2 = b) ∧ u = .tbl #[] := fun b u z => by
    by_cases c : ∃ p ∈ cs, p.2 = b
    · exact ⟨c, (Option.some.inj ((if_pos c).symm.trans z)).symm⟩
    · have y := (if_neg c).symm.trans z
      cases y
  match hk : K.lookup a with
  | some o =>
    have e := B.kin a o hk
    rw [B.sc] at e
    cases e
    refine ⟨T, ⟨Ty, fun b u z => ?_⟩, .inr ⟨_, vs.toArray, _, hk, rfl, rfl, rfl, by rw [List.size_toArray, lv]; exact hl, by simpa using vals_ints hi⟩, fun b u z => ?_⟩
    · obtain ⟨⟨p, hp, e⟩, e2⟩ := Tn b u z
      exact .inl ⟨p, hp, e, e2⟩
    · obtain ⟨c, rfl⟩ := Tn b u z
      exact isT b c
  | none =>
    refine ⟨upd T a (.frz { cls := .type "list", data := .seq vs.toArray } (.lst (ns.map V.int))), ⟨fun p hp => ?_, fun b u z => ?_⟩, .inl (.inr ⟨_, upd_same⟩), fun b u z => ?_⟩
    · rw [upd_ne (fun y => na ⟨p, hp, y⟩)]
      exact Ty p hp
    · by_cases c : b = a
      · subst c
        rw [upd_same] at z
        cases z
        exact .inr ⟨rfl, hk, _, _, rfl⟩
      · rw [upd_ne c] at z
        obtain ⟨⟨p, hp, e⟩, e2⟩ := Tn b u z
        exact .inl ⟨p, hp, e, e2⟩
    · by_cases c : b = a
      · subst c
        rw [upd_same] at z
        cases z
        exact ⟨B.sc, by rw [List.length_map]; exact hl, vs, _, vals_ints hi, B.sc⟩
      · rw [upd_ne c] at z
        obtain ⟨c, rfl⟩ := Tn b u z
        exact isT b c
/-- what is known of the law's promise at the head's heap -/
def LawG (l : PySem.W.OpenLaw) (w : World) (K : PySem.W.Frag) (CX : CXT) (k n : Nat) (x : Str) (mg : Str → Option Value) (fa : Addr) (h : Heap) : Prop :=
  ∃ (fd : FuncData) (cs : List (Addr × Addr)) (sp : Sp), (∀ p ∈ cs, h.get? p.2 = some { cls := .none, data := .fields #[] } ∧ K.lookup p.2 = none ∧ PySem.W.CodeHd h p.1 p.2) ∧ (∀ (s : Shared) (u : Value), BindsTo s fd ⟨[u], []⟩ [(x, u)]) ∧
    (∀ (H : Hp) (a : Addr) (ns : List Int), ns.length ≤ n → (∀ z ∈ ns, Builtin.Int.intBits z ≤ 1048576) → (∀ p ∈ cs, H p.2 = some (.tbl #[])) → SqL K H a (ns.map V.int) → sp [.ref a] H (fun v _ => v = .bl true) E0) ∧
    ∀ base : Heap, K.In base → base.Ns mainGlobals mg → (∀ p ∈ cs, TabB base mg p.1 p.2) → FnG l.prog w K mg base CX k fa fd [x] sp
/-- the end; names: the defs with generator expressions -/
theorem walk_ofG {l : PySem.W.OpenLaw} {n k : Nat} {q : Program} {loose : List Str} {XP : (Str → Option Value) → Heap → Prop} {YP : World → Heap → Prop} {d : DefRec} {K : Params → PySem.W.Frag} {CX : World → CXT} {x : Str}
    (hn : l.most = some n) (hz : n ≤ sizeLine) (hdf : d.params.defaults = []) (hr : Room k callerA) (hY : ∀ (w : World) (h : Heap), YP w h → (K w.params).In h)
    (F : ∀ (w : World) (mg : Str → Option Value) (fa : Addr) (h : Heap), YP w h → (K w.params).In h → h.Ns mainGlobals mg → mg d.name = some (.ref fa) →
      (∀ e ∈ recsOf q, ∃ (a : Addr) (o : Obj) (fd : FuncData) (c p : Addr), mg e.name = some (.ref a) ∧ h.get? a = some o ∧ o.data = .func fd ∧ fd.code = .ref c ∧ h.IsCode c p #[] ∧ h.TableAt c p #[]) → LawG l w (K w.params) (CX w) k n x mg fa h)
    (hX : ∀ (w : World) (H : Hp) (s : Shared) (e : Value) (t : Shared), CX w [] H s E0 e t → False) :
    PySem.W.WalkO q loose XP YP l.row.toRowW d [] (fun f vs => PySem.call f vs) := by
  refine Att.attach_callB hn hdf ?_
  intro w s₀ s mg mb fa o pm cd doc a vs ns G Y _ _ _ hmg ha hi hlen bits hg
  have KX := hY w _ Y
  obtain ⟨fd, cs, sp, tabs, bind, start, run⟩ := F w mg fa _ Y KX G.T.g hmg fun e he => G.T.tab e he
  have B : Beg s.heap (K w.params) mg cs a vs.toArray := ⟨KX, G.T.g, ⟨mb, G.T.b, G.T.builtins⟩, G.T.nolimit, fun p hp => (tabs p hp).1, fun p hp => (tabs p hp).2.1, fun p hp => (tabs p hp).2.2, G.T.bmain, ha⟩
  obtain ⟨H, Ft, sq, ok⟩ := fit_of l.prog w B hi (Nat.le_trans hlen hz)
  have e0 : Env0 l.prog w (K w.params) mg (hidT s.heap H) callerA [] s H := ⟨rfl, Ft.mod B, fun b u e => of_hidT e, Nat.le_of_eq (hidT_size _ _), trivial, by simp [frs], ok, .of_eq hg⟩
  refine codeAny_mono ((run _ (Ft.kin B) (Ft.dic B G.T.g) (Ft.tabs B)).go callerA [] s H ⟨[.ref a], []⟩ [.ref a] [.ref a] _ E0 rfl hr e0 (bind s (.ref a)) (.cons rfl .nil) (start H a ns hlen bits Ft.tb sq)) ?_
  intro r t z
  match r, z with
  | .error e, z => exact (hX w H s e t z).elim
  | .ok .next, z => exact z.elim
  | .ok .brk, z => exact z.elim
  | .ok .cont, z => exact z.elim
  | .ok (.ret u), ⟨v, G', os, bare, un, ok', rv, e⟩ =>
    have e : v = .bl true := e
    subst e
    obtain rfl : u = Value.bool true := rv
    exact ⟨rfl, Ft.old B un ok ok', os, bare⟩
end Kf

/-! the signs of a repr: texts of letters, tuples -/
namespace Kf
open PySem PySem.Spec PyProof.Rows L2 PySem.Builtin.Str
/-- of small letters alone -/
def Low (x : Str) : Prop := ∀ c ∈ x.cps.toList, 97 ≤ c ∧ c < 123
theorem ch_low : ∀ i : Fin 26, reprChar 39 (97 + i.val) = [97 + i.val] := by decide +kernel
theorem ch_low' {c : Nat} (h : 97 ≤ c ∧ c < 123) : reprChar 39 c = [c] := by
  have z := ch_low ⟨c - 97, by omega⟩
  have e : 97 + (c - 97) = c := by omega
  simp only [e] at z
  exact z
theorem fold_low : ∀ (l : List Nat) (acc : Array Nat), (∀ c ∈ l, 97 ≤ c ∧ c < 123) → (l.foldl (fun out c => out ++ (reprChar 39 c).toArray) acc).toList = acc.toList ++ l
  | [], acc, _ => by simp
  | c :: l, acc, h => by
    rw [List.foldl_cons, fold_low l _ fun d hd => h d (List.mem_cons_of_mem _ hd), ch_low' (h c List.mem_cons_self)]
    simp
theorem quote_low {x : Str} (h : Low x) : reprQuote x = 39 := by
  unfold reprQuote
  have e : x.cps.contains 39 = false := by
    rw [← Bool.not_eq_true]
    intro z
    have m : (39 : Nat) ∈ x.cps := by simpa using z
    have := h 39 (Array.mem_def.mp m)
    omega
  rw [e]
  rfl
theorem repr_low {x : Str} (h : Low x) : (reprText x).cps.toList = 39 :: (x.cps.toList ++ [39]) := by
  unfold reprText
  rw [quote_low h, ← Array.foldl_toList, Array.toList_push, fold_low _ _ h]
  rfl
theorem cnt_low {x : Str} (h : Low x) : cnt 40 (reprText x).cps.toList = 0 := by
  rw [repr_low h, cnt_cons, cnt_append]
  have z : ∀ l : List Nat, (∀ c ∈ l, 97 ≤ c ∧ c < 123) → cnt 40 l = 0 := by
    intro l
    induction l with
    | nil => intro _; rfl
    | cons c l ih =>
      intro h
      rw [cnt_cons, ih fun d hd => h d (List.mem_cons_of_mem _ hd)]
      have := h c List.mem_cons_self
      rw [if_neg (by omega)]
      rfl
  rw [z _ h]
  decide
theorem len_low {x : Str} (h : Low x) : (reprText x).length = x.cps.toList.length + 2 := by
  show (reprText x).cps.size = _
  rw [← Array.length_toList, repr_low h]
  simp
theorem cps_app (x y : Str) : (x ++ y).cps.toList = x.cps.toList ++ y.cps.toList := by
  show (x.cps ++ y.cps).toList = _
  rw [Array.toList_append]
theorem cnt_tup (ts : List Str) : cnt 40 (tupleText ts).cps.toList = 1 + (ts.map fun t => cnt 40 t.cps.toList).sum := by
  unfold tupleText
  rw [cps_app, cps_app, cnt_append, cnt_append, cnt_join_sum]
  have e1 : cnt 40 (("(" : Str)).cps.toList = 1 := by decide +kernel
  have e2 : cnt 40 ((", " : Str)).cps.toList = 0 := by decide +kernel
  have e3 : cnt 40 (((if ts.length == 1 then ",)" else ")" : String) : Str)).cps.toList = 0 := by split <;> decide +kernel
  rw [e1, e2, e3, Int.mul_zero]
  omega
theorem count_par (x : Str) : Txt.count x "(" = cnt 40 x.cps.toList := by
  have e : (("(" : String) : Str) = ⟨#[40]⟩ := by decide +kernel
  rw [e]
  exact count_cnt x 40
end Kf

namespace Kq
open PySem PySem.Spec PyProof.Rows L2 Kf Kg Kv GxR
/-! what is a data kind, a kind -/
def isLo (c : Nat) : Bool := decide (c ∈ lets.cps.toList)
def nmS (x : Str) : Bool := decide (1 ≤ x.length) && decide (x.length ≤ 8) && x.cps.toList.all isLo
def nmD : Dt → Bool
  | .str x => nmS x
  | _ => false
def ar (w : Str) : Option Nat :=
  if w = "open" then some 1 else if w = "num" then some 0 else if w = "truth" then some 0 else if w = "pair" then some 2 else if w = "either" then some 2 else if w = "list" then some 1 else if w = "fun" then some 2 else none
def nm1 : List Dt → Bool
  | x :: _ => nmD x
  | [] => false
/-- the form alone -/
def frm : Dt → Bool
  | .tup (.str w :: xs) => !decide (w = "fun") && (match ar w with | some k => decide (xs.length = k) | none => false) && (!decide (w = "open") || nm1 xs)
  | _ => false
/-- the parts that are kinds -/
def prt : Dt → List Dt
  | .tup (.str w :: xs) => if w = "open" then [] else xs
  | _ => []
theorem prt_sz : ∀ x : Dt, Dt.szs (prt x) + 1 ≤ x.sz
  | .tup [] => Nat.le_refl _
  | .tup (.str w :: xs) => by
    have e : (Dt.tup (.str w :: xs)).sz = 1 + (1 + Dt.szs xs) := by simp only [Dt.sz, Dt.szs]
    rw [e]
    show Dt.szs (if w = "open" then [] else xs) + 1 ≤ _
    by_cases h : w = "open"
    · rw [if_pos h]
      simp only [Dt.szs]
      omega
    · rw [if_neg h]
      omega
  | .tup (.non :: xs) => by show 0 + 1 ≤ 1 + _; omega
  | .tup (.bl _ :: xs) => by show 0 + 1 ≤ 1 + _; omega
  | .tup (.int _ :: xs) => by show 0 + 1 ≤ 1 + _; omega
  | .tup (.tup _ :: xs) => by show 0 + 1 ≤ 1 + _; omega
  | .tup (.lst _ :: xs) => by show 0 + 1 ≤ 1 + _; omega
  | .tup (.dct _ :: xs) => by show 0 + 1 ≤ 1 + _; omega
  | .lst xs => by show 0 + 1 ≤ 1 + _; omega
  | .non => Nat.le_refl _
  | .bl _ => Nat.le_refl _
  | .int _ => Nat.le_refl _
  | .str _ => Nat.le_refl _
  | .dct _ => by show 0 + 1 ≤ 1 + _; omega
theorem sz_pos : ∀ x : Dt, 1 ≤ x.sz := fun x => by
  have := prt_sz x
  omega
/-- a data kind: the form, and the parts are so -/
def dat (x : Dt) : Bool := frm x && (prt x).attach.all fun y => dat y.1
termination_by x.sz
decreasing_by
  have h1 := prt_sz x
  have h2 := sz_mem y.2
  omega
theorem dat_eq (x : Dt) : dat x = (frm x && (prt x).all dat) := by
  rw [dat]
  congr 1
  rw [List.all_subtype (g := dat)]
  · simp
  · intro x h
    rfl
end Kq

namespace Kq
open PySem PySem.Spec PyProof.Rows L2 Kf Kg Kv GxR
abbrev tName : Stmt := tp 18
abbrev tTagged : Stmt := tp 22
theorem take_allL {α : Type} {f : α → Bool} {xs : List α} {i : Nat} {x : α} (hx : xs[i]? = some x) (h : (xs.take i).all f = true) (e : f x = true) : (xs.take (i + 1)).all f = true := by
  rw [List.take_add_one, hx, List.all_append, h]
  simp [e]
theorem not_allL {α : Type} {f : α → Bool} {xs : List α} {i : Nat} {x : α} (hx : xs[i]? = some x) (e : f x = false) : xs.all f = false := by
  rw [← Bool.not_eq_true, List.all_eq_true]
  intro z
  rw [z x (List.mem_of_getElem? hx)] at e
  cases e
section
variable {P : Program} {w : World} {K : PySem.W.Frag} {mg : Str → Option Value} {base : Heap}
/-! is_name -/
theorem scName : FnScope ["thing"] ["thing"] (defScope tName) := ⟨rfl, rfl, rfl, by decide +kernel, rfl, by decide +kernel, by decide +kernel⟩
def spName (T : List Addr) : Sp := fun vs H Q _ => ∃ (v : V) (x : Dt), vs = [v] ∧ Dd Any H x v ∧ x.wt ≤ sizeLine ∧ TbS T H ∧ ∀ G : Hp, Sm T H G → Q (.bl (nmD x)) G
theorem okName {f c p : Addr} {fd : FuncData} {k : Nat} {T : List Addr} {u1 u2 : Value} (F : FunC K "is_name" "is_name" tName f fd c) (TB : TabB base mg c p) (hp : p ∈ T)
    (gL : mg "LETTERS" = some u1) (rL : RelV (.str lets) u1) (gN : mg "LONGEST_NAME" = some u2) (rN : RelV (.int 8) u2)
    (ma : mg "all" = none) (mi : mg "isinstance" = none) (ms : mg "str" = none) (ml : mg "len" = none) : FnOk P w K mg base CX0 (k + 4) f fd ["thing"] (spName T) := by
  refine F.ok scName (fun vs H Q E h => ?_) (fun A outer s H vs Q E hr h => ?_)
  · obtain ⟨v, x, rfl, _⟩ := h
    rfl
  obtain ⟨v, x, rfl, hd, hw, tb, q⟩ := h
  refine ⟨_, pss_cons (ps_if (PW.pt (pw_or (pt_not (pt_val (pe_callB (isiK K rfl) (by rfl) mi PyProof.Rows.boot_isinstance (pa_cons (pv 0) (pa_cons (pe_bltn (v := .ty "str") (by rfl) ms PyProof.Rows.boot_str rfl) pa_nil)))))
      (pw_or1 (pt_not (pt_chain op_le op_le pe_int (pe_callB call_len_str (by rfl) ml PySem.boot_len (pa_cons (pv 0) pa_nil)) (pe_glob (v := .int 8) (by rfl) gN rN))))))
      (pss_one (ps_ret pe_bl)) pss_nil)
    (pss_one (ps_ret (pe_allG (c := c) (P := p) (own := ["letter"]) (caps := []) (vs := [0]) (g := gName 0) hr (by rfl) ma TB rfl
    (gxS_by (N := ["thing"]) (sc := defScope tName) (by decide +kernel)) (pi_str (pv 0))
    (fun _ _ _ _ _ => pg_name (i := 0) (show (["letter"] : List Str).Nodup by decide +kernel) rfl (.inl rfl)) (fun _ _ _ _ _ => pe_cmpR op_in_sign (pv 0) (pe_glob (v := .str lets) (by rfl) gL rL) rfl)))), ?_⟩
  refine ⟨_, rfl, _, _, _, _, x.isStr, rfl, .ty "str", hd.ty, kStr K x, _, rfl, ?_⟩
  refine ite2 (fun e => iteT ?_) (fun e => ?_)
  · have e1 : nmD x = false := by
      cases x <;> first | rfl | cases e
    have z := q _ (Sm.refl tb)
    rw [e1] at z
    exact z
  obtain ⟨y, rfl⟩ : ∃ y, x = .str y := by
    cases x with
    | str y => exact ⟨y, rfl⟩
    | _ => exact absurd rfl e
  cases hd
  have hl : y.length ≤ sizeLine := by
    have : (Dt.str y).wt = 10 * y.length + 2 := by simp only [Dt.wt]
    omega
  have no : (decide (1 ≤ y.length) && decide (y.length ≤ 8)) = false → Q (.bl false) H := fun e => by
    have z := q _ (Sm.refl tb)
    have e2 : nmD (.str y) = false := by
      show (decide (1 ≤ y.length) && decide (y.length ≤ 8) && _) = false
      rw [e, Bool.false_and]
    rw [e2] at z
    exact z
  refine ⟨_, rfl, y, rfl, hl, _, _, rfl, rfl, _, rfl, ite2 (fun e1 => ?_) (fun e1 => ?_)⟩
  rotate_left
  · refine ⟨_, rfl, iteT (no ?_)⟩
    have : ¬ ((1 : Int) ≤ (y.length : Int)) := fun z => e1 (decide_eq_true z)
    rw [decide_eq_false (show ¬ 1 ≤ y.length by omega), Bool.false_and]
  have h1 : 1 ≤ y.length := by
    have : (1 : Int) ≤ (y.length : Int) := of_decide_eq_true e1
    omega
  refine ⟨_, _, rfl, rfl, _, rfl, ite2 (fun e2 => no ?_) (fun e2 => ?_)⟩
  · have : ¬ ((y.length : Int) ≤ 8) := fun z => by
      rw [decide_eq_true z] at e2
      cases e2
    rw [decide_eq_false (show ¬ y.length ≤ 8 by omega), Bool.and_false]
  have h2 : y.length ≤ 8 := by
    have : (y.length : Int) ≤ 8 := by
      by_cases z : (y.length : Int) ≤ 8
      · exact z
      · rw [decide_eq_false z] at e2
        exact absurd rfl e2
    omega
  have et : nmD (.str y) = y.cps.toList.all isLo := by
    show (decide (1 ≤ y.length) && decide (y.length ≤ 8) && _) = _
    rw [decide_eq_true h1, decide_eq_true h2]
    rfl
  refine ⟨_, rfl, y, rfl, tb p hp, fun H2 htab => ?_⟩
  have s2 : Sm T H H2 := Sm.tab hp tb htab
  refine all_it walk_str (fun i F => Sm T H F ∧ (y.cps.toList.take i).all isLo = true) ⟨s2, rfl⟩ (fun i F _ _ => trivial) (fun i x F F' hi z yy => ?_) (fun F z => ?_)
  · obtain ⟨sF, al⟩ := z
    obtain ⟨rfl, c, hc, rfl⟩ := yy
    have hc' : y.cps.toList[i]? = some c := by rw [Array.getElem?_toList]; exact hc
    refine ⟨rfl, _, rfl, c, lets, rfl, rfl, _, rfl, ite2 (fun e => ⟨sF, take_allL hc' al e⟩) (fun e => ?_)⟩
    have z := q _ sF
    rw [et, not_allL hc' (by simpa [isLo] using e)] at z
    exact z
  · obtain ⟨sF, al⟩ := z
    have el : y.cps.toList.take y.cps.size = y.cps.toList := by
      rw [← Array.length_toList, List.take_length]
    rw [el] at al
    have z := q _ sF
    rw [et, al] at z
    exact z
end
end Kq

namespace Kq
open PySem PySem.Spec PyProof.Rows L2 Kf Kg Kv GxR
abbrev tForm : Stmt := tp 27
abbrev tWithin : Stmt := tp 28
/-- this word and so many parts behind it -/
def tagD (x : Dt) (z : Str) (m : Nat) : Bool := match x with
  | .tup (y :: ys) => decide (ys.length = m) && y.isS z
  | _ => false
theorem Dd.tupS {N : Addr → Prop} {H : Hp} {xs : List Dt} {v : V} (h : Dd N H (.tup xs) v) : ∃ a vs, v = .ref a ∧ H a = some (.tup vs) ∧ DdL N H xs vs := by
  cases h with
  | tup h t => exact ⟨_, _, rfl, h, t⟩
theorem DdL.see {N : Addr → Prop} {H : Hp} {xs : List Dt} {vs : List V} (h : DdL N H xs vs) : (xs = [] ∧ vs = []) ∨ ∃ y ys w ws, xs = y :: ys ∧ vs = w :: ws ∧ Dd N H y w ∧ DdL N H ys ws := by
  cases h with
  | nil => exact .inl ⟨rfl, rfl⟩
  | cons h t => exact .inr ⟨_, _, _, _, rfl, rfl, h, t⟩
/-- the table of forms -/
structure Forms (K : PySem.W.Frag) (w : World) (dA : Addr) (es : Array DictEntry) (n : Nat) : Prop where
  dict : KDict K w dA es n
  no : ∀ z : Str, ar z = none → PySem.W.nsIn K dA z = some none
  yes : ∀ (z : Str) (m : Nat), ar z = some m → ∃ (t : Addr) (ys : List V), PySem.W.nsIn K dA z = some (some (.ref t)) ∧ ys.length = m ∧ ∀ G : Hp, SqT K G t ys
section
variable {P : Program} {w : World} {K : PySem.W.Frag} {mg : Str → Option Value} {base : Heap}
/-! is_tagged -/
theorem scTagged : FnScope ["thing", "word", "many"] ["thing", "word", "many"] (defScope tTagged) := ⟨rfl, rfl, rfl, by decide +kernel, rfl, by decide +kernel, by decide +kernel⟩
def spTagged : Sp := fun vs H Q _ => ∃ (v : V) (x : Dt) (z : Str) (m : Nat), vs = [v, .str z, .int (m : Int)] ∧ Dd Any H x v ∧ Q (.bl (tagD x z m)) H
theorem okTagged {f : Addr} {fd : FuncData} {k : Nat} (F : Fun K "is_tagged" "is_tagged" tTagged f fd) (mi : mg "isinstance" = none) (mt : mg "tuple" = none) (ml : mg "len" = none) : FnOk P w K mg base CX0 (k + 1) f fd ["thing", "word", "many"] spTagged := by
  refine F.ok scTagged (fun vs H Q E h => ?_) (fun cdv A outer s H vs Q E hr h => ?_)
  · obtain ⟨v, x, z, m, rfl, _⟩ := h
    rfl
  obtain ⟨v, x, z, m, rfl, hd, q⟩ := h
  refine ⟨_, pss_one (ps_ret (pe_and (pe_callB (isiK K rfl) (by rfl) mi PyProof.Rows.boot_isinstance (pa_cons (pv 0) (pa_cons (pe_bltn (v := .ty "tuple") (by rfl) mt PyProof.Rows.boot_tuple rfl) pa_nil)))
    (pe_and (pe_cmpR op_eq (pe_callB call_len_seq (by rfl) ml PySem.boot_len (pa_cons (pv 0) pa_nil)) (pe_op op_add (pv 2) pe_int) (nomark _))
    (pe_one (pe_cmpR (op_eqUS hr.units) (pe_ix ix_tup (pv 0) pe_int (fun _ _ => rfl)) (pv 1) (nomark _)))))), ?_⟩
  refine ⟨_, rfl, _, _, _, _, x.isTup, rfl, .ty "tuple", hd.ty, kTup K x, _, rfl, ite2 (fun e => ?_) (fun e => ?_)⟩
  rotate_left
  · have e1 : tagD x z m = false := by
      cases x <;> first | rfl | exact absurd rfl e
    rw [e1] at q
    exact q
  obtain ⟨xs, rfl⟩ : ∃ xs, x = .tup xs := by
    cases x with
    | tup xs => exact ⟨xs, rfl⟩
    | _ => cases e
  obtain ⟨a, us, rfl, ha, hL⟩ := Dd.tupS hd
  have ll := hL.len
  refine ⟨_, rfl, a, us, rfl, .inr (SqT.of ha), _, rfl, _, _, rfl, rfl, rfl, _, rfl, ite2 (fun e => ?_) (fun e => ?_)⟩
  · have e1 : (us.length : Int) = (m : Int) + 1 := V.int.inj (of_decide_eq_true e)
    rcases DdL.see hL with ⟨rfl, rfl⟩ | ⟨y, ys, w, ws, rfl, rfl, h, t⟩
    · have : ((0 : Nat) : Int) = (m : Int) + 1 := e1
      omega
    · refine ⟨_, rfl, a, _, _, _, rfl, rfl, SqT.of ha, atI_nat (j := 0) rfl, _, rfl, y, z, h, rfl, ?_⟩
      have l2 := t.len
      have e2 : tagD (.tup (y :: ys)) z m = y.isS z := by
        show (decide (ys.length = m) && _) = _
        rw [List.length_cons] at e1
        rw [decide_eq_true (by omega), Bool.true_and]
      rw [e2] at q
      exact q
  · have e1 : ¬ (us.length : Int) = (m : Int) + 1 := fun z => e (decide_eq_true (by rw [z]))
    have e2 : tagD (.tup xs) z m = false := by
      cases xs with
      | nil => rfl
      | cons y ys =>
        show (decide (ys.length = m) && _) = _
        rw [List.length_cons] at ll
        rw [decide_eq_false (by omega), Bool.false_and]
    rw [e2] at q
    exact q
/-! kinds_within -/
theorem scWithin : FnScope ["kind"] ["kind"] (defScope tWithin) := ⟨rfl, rfl, rfl, by decide +kernel, rfl, by decide +kernel, by decide +kernel⟩
def spWithin (N : Addr → Prop) : Sp := fun vs H Q _ => ∃ (v : V) (x : Dt), vs = [v] ∧ Dd N H x v ∧ frm x = true ∧ ∀ (p : Addr) (us : List V) (G : Hp), Same H G → G p = some (.tup us) → DdL N G (prt x) us → Q (.ref p) G
theorem okWithin {f : Addr} {fd : FuncData} {k : Nat} {N : Addr → Prop} (F : Fun K "kinds_within" "kinds_within" tWithin f fd) : FnOk P w K mg base CX0 (k + 1) f fd ["kind"] (spWithin N) := by
  refine F.ok scWithin (fun vs H Q E h => ?_) (fun cdv A outer s H vs Q E hr h => ?_)
  · obtain ⟨v, t, rfl, _⟩ := h
    rfl
  obtain ⟨v, x, rfl, hd, hf, q⟩ := h
  obtain ⟨wd, xs, rfl⟩ : ∃ wd xs, x = .tup (.str wd :: xs) := by
    unfold frm at hf
    split at hf
    · exact ⟨_, _, rfl⟩
    · cases hf
  obtain ⟨a, us, rfl, ha, hL⟩ := Dd.tupS hd
  obtain ⟨us, rfl, hL2⟩ : ∃ ys, us = .str wd :: ys ∧ DdL N H xs ys := by
    cases hL with
    | cons h t =>
      cases h
      exact ⟨_, rfl, t⟩
  refine ⟨_, pss_cons (ps_if (pt_cmpR op_eq (pe_ix ix_tup (pv 0) pe_int (fun _ _ => rfl)) pe_str (nomark _)) (pss_one (ps_ret (pe_tup pa_nil))) pss_nil)
    (pss_one (ps_ret (pe_slice sl_tup (pv 0) (po_some pe_int) po_none))), ?_⟩
  have ep : prt (.tup (.str wd :: xs)) = if wd = "open" then [] else xs := rfl
  rw [ep] at q
  refine ⟨_, rfl, a, _, _, _, rfl, rfl, SqT.of ha, atI_nat (j := 0) rfl, rfl, _, rfl, ?_⟩
  refine ite2 (fun e => ?_) (fun e => ?_)
  · have e1 : wd = "open" := V.str.inj (of_decide_eq_true e)
    rw [if_pos e1] at q
    exact ⟨Nat.zero_le _, fun p np => q p [] _ (newS np) upd_same .nil⟩
  · have e1 : ¬ wd = "open" := fun z => e (decide_eq_true (by rw [z]))
    rw [if_neg e1] at q
    refine ⟨_, rfl, 1, rfl, a, _, rfl, SqT.of ha, notWhole _ _, fun p np => ?_⟩
    rw [cutFrom1]
    exact q p us _ (newS np) upd_same (hL2.same (newS np))
end
end Kq

namespace Kq
open PySem PySem.Spec PyProof.Rows L2 Kf Kg Kv GxR
theorem frm_eq (wd : Str) (xs : List Dt) : frm (.tup (.str wd :: xs)) = (!decide (wd = "fun") && (match ar wd with | some k => decide (xs.length = k) | none => false) && (!decide (wd = "open") || nm1 xs)) := rfl
def u0s (ws : List V) : Nat := ws.length + 1
section
variable {P : Program} {w : World} {K : PySem.W.Frag} {mg : Str → Option Value} {base : Heap}
theorem scForm : FnScope ["thing", "word"] ["thing"] (defScope tForm) := ⟨rfl, rfl, rfl, by decide +kernel, rfl, by decide +kernel, by decide +kernel⟩
def spForm (T : List Addr) : Sp := fun vs H Q _ => ∃ (v : V) (x : Dt), vs = [v] ∧ Dd Any H x v ∧ x.wt ≤ sizeLine ∧ TbS T H ∧ ∀ G : Hp, Sm T H G → Q (.bl (frm x)) G
theorem okForm {f fN dA : Addr} {fd fdN : FuncData} {k : Nat} {T : List Addr} {es : Array DictEntry} {n : Nat} (F : Fun K "has_data_form" "has_data_form" tForm f fd)
    (GN : FnOk P w K mg base CX0 (k + 4) fN fdN ["thing"] (spName T)) (bN : Binds K fdN ["thing"] []) (gN : mg "is_name" = some (.ref fN)) (kN : PySem.W.keepIn K (.ref fN) = true)
    (gD : mg "KIND_FORMS" = some (.ref dA)) (hD : Forms K w dA es n)
    (mi : mg "isinstance" = none) (mt : mg "tuple" = none) (ms : mg "str" = none) (ml : mg "len" = none) : FnOk P w K mg base CX0 (k + 5) f fd ["thing"] (spForm T) := by
  refine F.ok scForm (fun vs H Q E h => ?_) (fun cdv A outer s H vs Q E hr h => ?_)
  · obtain ⟨v, x, rfl, _⟩ := h
    rfl
  obtain ⟨v, x, rfl, hd, hw, tb, q⟩ := h
  refine ⟨_, pss_cons (ps_if (PW.pt (pw_or (pt_not (pt_val (pe_callB (isiK K rfl) (by rfl) mi PyProof.Rows.boot_isinstance (pa_cons (pv 0) (pa_cons (pe_bltn (v := .ty "tuple") (by rfl) mt PyProof.Rows.boot_tuple rfl) pa_nil)))))
      (pw_or (pt_not (pt_truth (pv 0) (by intro _; rfl)))
      (pw_or1 (pt_not (pt_val (pe_callB (isiK K rfl) (by rfl) mi PyProof.Rows.boot_isinstance (pa_cons (pe_ix ix_tup (pv 0) pe_int (fun _ _ => rfl)) (pa_cons (pe_bltn (v := .ty "str") (by rfl) ms PyProof.Rows.boot_str rfl) pa_nil)))))))))
      (pss_one (ps_ret pe_bl)) pss_nil)
    (pss_cons (ps_set (i := 1) scForm.nd rfl (.inl rfl) (pe_ix ix_tup (pv 0) pe_int (fun _ _ => rfl)))
    (pss_cons (ps_if (PW.pt (pw_or (pt_cmpR op_eq (pv 1) pe_str (nomark _)) (pw_or (pt_cmpR (op_notIn_kd hD.dict) (pv 1) (pe_glob (v := .ref dA) (by rfl) gD rfl) rfl)
      (pw_or1 (pt_cmpR op_ne (pe_callB call_len_seq (by rfl) ml PySem.boot_len (pa_cons (pv 0) pa_nil)) (pe_op op_add (pe_callB call_len_seq (by rfl) ml PySem.boot_len (pa_cons (pe_ix ix_kdict (pe_glob (v := .ref dA) (by rfl) gD rfl) (pv 1) (fun _ _ => rfl)) pa_nil)) pe_int) (nomark _))))))
      (pss_one (ps_ret pe_bl)) pss_nil)
    (pss_one (ps_ret (pe_or (pe_cmpR op_ne (pv 1) pe_str (nomark _)) (pe_one (pe_call GN hr (by rfl) gN kN bN .nil pass0 (pa_cons (pe_ix ix_tup (pv 0) pe_int (fun _ _ => rfl)) pa_nil)))))))), ?_⟩
  have no : frm x = false → Q (.bl false) H := fun e => by
    have z := q _ (Sm.refl tb)
    rw [e] at z
    exact z
  refine ⟨_, rfl, _, _, _, _, x.isTup, rfl, .ty "tuple", hd.ty, kTup K x, _, rfl, ite2 (fun e => iteT (no ?_)) (fun e => ?_)⟩
  · cases x <;> first | rfl | cases e
  obtain ⟨xs, rfl⟩ : ∃ xs, x = .tup xs := by
    cases x with
    | tup xs => exact ⟨xs, rfl⟩
    | _ => exact absurd rfl e
  obtain ⟨a, us, rfl, ha, hL⟩ := Dd.tupS hd
  refine ⟨_, rfl, _, .inr (.inl ⟨us, SqT.of ha, rfl⟩), ite2 (fun e => iteT (no ?_)) (fun e => ?_)⟩
  · rcases DdL.see hL with ⟨rfl, rfl⟩ | ⟨y, ys, w, ws, rfl, rfl, h, t⟩
    · rfl
    · cases e
  rcases DdL.see hL with ⟨rfl, rfl⟩ | ⟨y, ys, u0, ws, rfl, rfl, hy, hys⟩
  · exact absurd rfl e
  have hix : atI (u0 :: ws) 0 = some u0 := atI_nat (j := 0) rfl
  refine ⟨_, rfl, a, _, _, _, rfl, rfl, SqT.of ha, hix, _, _, _, _, y.isStr, rfl, .ty "str", hy.ty, kStr K y, _, rfl, ite2 (fun e => no ?_) (fun e => ?_)⟩
  · cases y <;> first | rfl | cases e
  obtain ⟨wd, rfl⟩ : ∃ z, y = .str z := by
    cases y with
    | str z => exact ⟨z, rfl⟩
    | _ => exact absurd rfl e
  cases hy
  refine ⟨_, rfl, a, _, _, _, rfl, rfl, SqT.of ha, hix, ?_⟩
  refine ⟨_, rfl, rfl, _, rfl, ite2 (fun e => iteT (no ?_)) (fun e => ?_)⟩
  · have e1 : wd = "fun" := V.str.inj (of_decide_eq_true e)
    rw [frm_eq, decide_eq_true e1]
    rfl
  have e1 : ¬ wd = "fun" := fun z => e (decide_eq_true (by rw [z]))
  cases har : ar wd with
  | none =>
    refine ⟨_, rfl, wd, none, rfl, rfl, hD.no wd har, _, rfl, iteT (iteT (no ?_))⟩
    rw [frm_eq, har, Bool.and_false]
    rfl
  | some m =>
    obtain ⟨t, zs, ht, lz, hs⟩ := hD.yes wd m har
    refine ⟨_, rfl, wd, _, rfl, rfl, ht, _, rfl, iteF ?_⟩
    have ly := hys.len
    refine ⟨_, rfl, a, _, rfl, .inr (SqT.of ha), _, rfl, dA, wd, .ref t, rfl, rfl, ⟨es, n, _, hD.dict.at_, hD.dict.lit, ht, rfl⟩, t, zs, rfl, .inr (hs _), _, _, rfl, rfl, rfl, _, rfl, ite2 (fun e => no ?_) (fun e => ?_)⟩
    · have e2 : ¬ ys.length = m := fun z => by
        have : ((u0s ws : Nat) : Int) = (zs.length : Int) + 1 := by
          unfold u0s
          omega
        rw [show decide (V.int ((V.str wd :: ws).length : Int) = _) = true from decide_eq_true (congrArg V.int this)] at e
        cases e
      rw [frm_eq, har]
      show (_ && decide (ys.length = m) && _) = false
      rw [decide_eq_false e2, Bool.and_false, Bool.false_and]
    have e2 : ys.length = m := by
      by_cases z : ys.length = m
      · exact z
      · refine absurd ?_ e
        have : ¬ ((u0s ws : Nat) : Int) = (zs.length : Int) + 1 := by
          unfold u0s
          omega
        rw [show decide (V.int ((V.str wd :: ws).length : Int) = _) = false from decide_eq_false (fun h => this (V.int.inj h))]
        rfl
    have ef : frm (.tup (.str wd :: ys)) = (!decide (wd = "open") || nm1 ys) := by
      rw [frm_eq, har, decide_eq_false e1]
      show (true && decide (ys.length = m) && _) = _
      rw [decide_eq_true e2]
      rfl
    refine ⟨_, rfl, rfl, _, rfl, ite2 (fun e => ?_) (fun e => ?_)⟩
    · have z := q _ (Sm.refl tb)
      have e3 : ¬ wd = "open" := fun z => by
        rw [z] at e
        revert e
        decide
      rw [ef, decide_eq_false e3] at z
      exact z
    · have e3 : wd = "open" := by
        by_cases z : wd = "open"
        · exact z
        · refine absurd ?_ e
          rw [decide_eq_false (fun h => z (V.str.inj h))]
          rfl
      subst e3
      have hm : m = 1 := by
        have : ar "open" = some 1 := by decide +kernel
        rw [this] at har
        exact (Option.some.inj har).symm
      rcases DdL.see hys with ⟨rfl, rfl⟩ | ⟨y, ys', u1, ws', rfl, rfl, hy, _⟩
      · rw [hm] at e2
        cases e2
      have hwy : y.wt ≤ sizeLine := by
        have : (Dt.tup (.str "open" :: y :: ys')).wt = Dt.wts (.str "open" :: y :: ys') + 3 := by simp only [Dt.wt]
        have : Dt.wts (.str "open" :: y :: ys') = (Dt.str "open").wt + 2 + (y.wt + 2 + Dt.wts ys') := by simp only [Dt.wts]
        omega
      refine ⟨_, rfl, a, _, _, _, rfl, rfl, SqT.of ha, atI_nat (j := 1) rfl, u1, y, rfl, hy, hwy, tb, fun G sG => ?_⟩
      have z := q _ sG
      rw [ef] at z
      exact z
end
end Kq

namespace Kq
open PySem PySem.Spec PyProof.Rows L2 Kf Kg Kv GxR
abbrev tIsData : Stmt := tp 26
theorem prt_wt (x : Dt) : Dt.wts (prt x) ≤ x.wt := by
  unfold prt
  split
  · rename_i w xs
    have e : (Dt.tup (.str w :: xs)).wt = (Dt.str w).wt + 2 + Dt.wts xs + 3 := by simp only [Dt.wt, Dt.wts]
    by_cases h : w = "open"
    · rw [if_pos h]
      simp only [Dt.wts]
      omega
    · rw [if_neg h]
      omega
  · simp only [Dt.wts]
    omega
theorem szs1 (x : Dt) : Dt.szs [x] = x.sz := by simp only [Dt.szs, Nat.add_zero]
theorem wts1 (x : Dt) : Dt.wts [x] = x.wt + 2 := by simp only [Dt.wts, Nat.add_zero]
/-- the places of a heap -/
abbrev Pl (H : Hp) : Addr → Prop := fun b => ∃ u, H b = some u
theorem _root_.Kv.Dd.pl {N : Addr → Prop} {H : Hp} {x : Dt} {v : V} (h : Dd N H x v) : Dd (Pl H) H x v := h.at fun b u _ e => ⟨u, e⟩
theorem _root_.Kv.DdL.pl {N : Addr → Prop} {H : Hp} {x : List Dt} {v : List V} (h : DdL N H x v) : DdL (Pl H) H x v := h.at fun b u _ e => ⟨u, e⟩
section
variable {P : Program} {w : World} {K : PySem.W.Frag} {mg : Str → Option Value} {base : Heap}
theorem scIsData : FnScope ["thing", "waiting", "part"] ["thing"] (defScope tIsData) := ⟨rfl, rfl, rfl, by decide +kernel, rfl, by decide +kernel, by decide +kernel⟩
def spIsData (T : List Addr) : Sp := fun vs H Q _ => ∃ (v : V) (x : Dt), vs = [v] ∧ Dd Any H x v ∧ x.wt + 2 ≤ sizeLine ∧ TbS T H ∧ ∀ G : Hp, Sm T H G → Q (.bl (dat x)) G
theorem okIsData {f fF fW : Addr} {fd fdF fdW : FuncData} {k : Nat} {T : List Addr} (F : Fun K "is_data" "is_data" tIsData f fd)
    (GF : FnOk P w K mg base CX0 (k + 5) fF fdF ["thing"] (spForm T)) (bF : Binds K fdF ["thing"] []) (gF : mg "has_data_form" = some (.ref fF)) (kF : PySem.W.keepIn K (.ref fF) = true)
    (GW : ∀ N : Addr → Prop, FnOk P w K mg base CX0 (k + 5) fW fdW ["kind"] (spWithin N)) (bW : Binds K fdW ["kind"] []) (gW : mg "kinds_within" = some (.ref fW)) (kW : PySem.W.keepIn K (.ref fW) = true) : FnOk P w K mg base CX0 (k + 6) f fd ["thing"] (spIsData T) := by
  refine F.ok scIsData (fun vs H Q E h => ?_) (fun cdv A outer s H vs Q E hr h => ?_)
  · obtain ⟨v, x, rfl, _⟩ := h
    rfl
  obtain ⟨v, x, rfl, hd, hw, tb, q⟩ := h
  refine ⟨_, pss_cons (ps_set (i := 1) scIsData.nd rfl (.inl rfl) (pe_lst (pa_cons (pv 0) pa_nil)))
    (pss_cons (ps_while PassesOwn.never (pt_truth (pv 1) (by intro _; rfl))
      (pss_cons (ps_set (i := 2) scIsData.nd rfl (.inl rfl) (pe_bm0 PySem.F.plainAttrs_list PySem.F.slot_list_pop PySem.F.type_list_pop mt_pop (pv 1)))
      (pss_cons (ps_if (pt_not (pt_val (pe_call GF hr (by rfl) gF kF bF .nil pass0 (pa_cons (pv 2) pa_nil)))) (pss_one (ps_ret pe_bl)) pss_nil)
      (pss_one (ps_expr (pe_bm PySem.F.plainAttrs_list PySem.F.slot_list_extend PySem.F.type_list_extend Kr.mt_extT (pv 1) (pa_cons (pe_call (GW (Pl H)) hr (by rfl) gW kW bW .nil pass0 (pa_cons (pv 2) pa_nil)) pa_nil)))))))
    (pss_one (ps_ret pe_bl))), ?_⟩
  refine ⟨_, rfl, (by show 1 ≤ sizeLine; decide), fun wa nwa => ?_⟩
  have nW : ¬ Pl H wa := fun ⟨u, e⟩ => by
    rw [nwa] at e
    cases e
  let Iv : Nat → L2.St → Hp → Prop := fun m σ G => ∃ ws vs y, m = Dt.szs ws ∧ σ = [some v, some (.ref wa), y] ∧ Sm T H G ∧ G wa = some (.lst vs) ∧ DdL (Pl H) G ws vs ∧ Dt.wts ws ≤ x.wt + 2 ∧ dat x = ws.all dat
  have I0 : Iv (Dt.szs [x]) [some v, some (.ref wa), none] (upd H wa (.lst [v])) := ⟨[x], [v], none, rfl, rfl, (Sm.refl tb).new nwa tb, upd_same, .cons (hd.pl.same (newS nwa)) .nil, by rw [wts1]; omega, by simp⟩
  refine ⟨Iv, ⟨_, I0⟩, fun m σ G z => ?_⟩
  obtain ⟨ws, vs, y, rfl, rfl, sG, gw, rL, hwt, hdat⟩ := z
  refine ⟨_, rfl, _, .inl ⟨vs, SqL.of gw, rfl⟩, ?_⟩
  refine ite2 (fun e => ?_) (fun e => ?_)
  · have nn : vs ≠ [] := fun z => by
      rw [z] at e
      cases e
    obtain ⟨xs, u, zs, p, rfl, rfl, rx, ru⟩ := rL.last nn
    refine ⟨fun σ' G' => ∃ m', m' < _ ∧ Iv m' σ' G', fun σ' G' z => z, ?_⟩
    refine ⟨_, rfl, .inl ⟨rfl, _, SqL.of gw⟩, wa, _, p, rfl, rfl, gw, ?_, ?_⟩
    · rw [List.length_append, List.length_singleton, Nat.add_sub_cancel, List.getElem?_concat_length]
    rw [List.dropLast_concat]
    have ntG : ∀ xs, G wa ≠ some (.tup xs) := fun _ z => by rw [gw] at z; cases z
    have k1 : Kn (Pl H) G (upd G wa (.lst zs)) := Kn.rfl.put nW ntG
    have s1 : Sm T H (upd G wa (.lst zs)) := sG.new nwa tb
    rw [wts_app, wts1] at hwt
    refine ⟨_, rfl, p, u, rfl, (ru.kn k1).any, by omega, s1.2, fun G2 s2 => ⟨_, rfl, ite2 (fun e => ?_) (fun e => ?_)⟩⟩
    · have z := q _ (s1.trans s2)
      have ed : dat x = false := by
        rw [hdat, List.all_append, List.all_cons, dat_eq u, show frm u = false by simpa using e]
        simp
      rw [ed] at z
      exact z
    have hf : frm u = true := by simpa using e
    have k2 : Kn (Pl H) (upd G wa (.lst zs)) G2 := s2.kn s1.2
    have gw2 : G2 wa = some (.lst zs) := s2.at s1.2 upd_same (fun ps z => by cases z)
    refine ⟨_, rfl, .inl ⟨rfl, _, SqL.of gw2⟩, _, rfl, p, u, rfl, (ru.kn k1).kn k2, hf, fun pa us G3 s3 gp rp => ?_⟩
    have gw3 := s3 _ _ gw2
    have lx := rx.len
    have lp := rp.len
    have l1 := len_szs xs
    have l2 := Dt.szs_wts xs
    have l3 := len_szs (prt u)
    have l4 := Dt.szs_wts (prt u)
    have l5 := prt_wt u
    have l6 := prt_sz u
    refine ⟨wa, pa, zs, us, rfl, rfl, gw3, SqT.of gp, by omega, ?_⟩
    have nt3 : ∀ xs, G3 wa ≠ some (.tup xs) := fun _ z => by rw [gw3] at z; cases z
    have k3 : Kn (Pl H) G2 G3 := .of s3
    have k4 : Kn (Pl H) G3 (upd G3 wa (.lst (zs ++ us))) := Kn.rfl.put nW nt3
    have s4 : Sm T H (upd G3 wa (.lst (zs ++ us))) := ((s1.trans s2).trans (Sm.of s3 s2.2)).new nwa tb
    refine ⟨Dt.szs (xs ++ prt u), ?_, xs ++ prt u, zs ++ us, _, rfl, rfl, s4, upd_same, ?_, ?_, ?_⟩
    · rw [szs_app, szs_app, szs1]
      omega
    · exact ((((rx.kn k1).kn k2).kn k3).kn k4).app (rp.kn k4)
    · rw [wts_app]
      omega
    · rw [hdat, List.all_append, List.all_append, List.all_cons, dat_eq u, hf]
      simp
  · have ev : vs = [] := by
      cases vs with
      | nil => rfl
      | cons a b => exact absurd rfl e
    subst ev
    cases rL
    have z := q _ sG
    rw [hdat] at z
    exact z
end
end Kq

namespace Kq
open PySem PySem.Spec PyProof.Rows L2 Kf Kg Kv GxR
abbrev tIsFirst : Stmt := tp 29
abbrev tIsArg : Stmt := tp 30
/-- from arguments of p to a data kind -/
def chD (p : Dt → Bool) (x : Dt) : Bool := match x with
  | .tup [.str z, a, b] => if z = "fun" then p a && chD p b else dat x
  | _ => dat x
termination_by x.sz
decreasing_by
  simp only [Dt.sz, Dt.szs]
  omega
theorem chD_fn (p : Dt → Bool) (a b : Dt) : chD p (.tup [.str "fun", a, b]) = (p a && chD p b) := by
  rw [chD]
  exact if_pos rfl
theorem tag_fn {x : Dt} (h : tagD x "fun" 2 = true) : ∃ a b, x = .tup [.str "fun", a, b] := by
  unfold tagD at h
  split at h
  · rename_i y ys
    obtain ⟨h1, h2⟩ := Bool.and_eq_true_iff.mp h
    have h1 := of_decide_eq_true h1
    obtain ⟨a, b, rfl⟩ : ∃ a b, ys = [a, b] := by
      match ys, h1 with
      | [a, b], _ => exact ⟨a, b, rfl⟩
    cases y with
    | str z => exact ⟨a, b, by rw [show z = "fun" from of_decide_eq_true h2]⟩
    | _ => cases h2
  · cases h
theorem tag_fn' (a b : Dt) : tagD (.tup [.str "fun", a, b]) "fun" 2 = true := by
  show (decide ([a, b].length = 2) && decide (("fun" : Str) = "fun")) = true
  simp
theorem chD_no (p : Dt → Bool) {x : Dt} (h : tagD x "fun" 2 = false) : chD p x = dat x := by
  unfold chD
  split
  · rename_i z a b
    by_cases e : z = "fun"
    · subst e
      rw [tag_fn'] at h
      cases h
    · exact if_neg e
  · rfl
theorem dat_fn (a b : Dt) : dat (.tup [.str "fun", a, b]) = false := by
  rw [dat_eq]
  have : frm (.tup [.str "fun", a, b]) = false := by
    unfold frm
    simp
  rw [this]
  rfl
def fstD (x : Dt) : Bool := tagD x "fun" 2 && chD dat x
def argD (x : Dt) : Bool := dat x || fstD x
def kndD (x : Dt) : Bool := chD argD x
theorem wt3 (u a b : Dt) : (Dt.tup [u, a, b]).wt = u.wt + a.wt + b.wt + 9 := by
  simp only [Dt.wt, Dt.wts]
  omega
theorem sz3 (u a b : Dt) : (Dt.tup [u, a, b]).sz = u.sz + a.sz + b.sz + 1 := by
  simp only [Dt.sz, Dt.szs]
  omega
theorem Dd.tup3 {N : Addr → Prop} {H : Hp} {u a b : Dt} {v : V} (h : Dd N H (.tup [u, a, b]) v) : ∃ p x y z, v = .ref p ∧ H p = some (.tup [x, y, z]) ∧ Dd N H u x ∧ Dd N H a y ∧ Dd N H b z := by
  obtain ⟨p, vs, rfl, hp, hL⟩ := Dd.tupS h
  cases hL with
  | cons h1 t =>
    cases t with
    | cons h2 t =>
      cases t with
      | cons h3 t =>
        cases t
        exact ⟨p, _, _, _, rfl, hp, h1, h2, h3⟩
section
variable {P : Program} {w : World} {K : PySem.W.Frag} {mg : Str → Option Value} {base : Heap}
theorem scIsFirst : FnScope ["thing", "rest"] ["thing"] (defScope tIsFirst) := ⟨rfl, rfl, rfl, by decide +kernel, rfl, by decide +kernel, by decide +kernel⟩
def spYes (T : List Addr) (p : Dt → Bool) : Sp := fun vs H Q _ => ∃ (v : V) (x : Dt), vs = [v] ∧ Dd Any H x v ∧ x.wt + 2 ≤ sizeLine ∧ TbS T H ∧ ∀ G : Hp, Sm T H G → Q (.bl (p x)) G
theorem okIsFirst {f fT fD : Addr} {fd fdT fdD : FuncData} {k : Nat} {T : List Addr} (F : Fun K "is_first" "is_first" tIsFirst f fd)
    (GT : FnOk P w K mg base CX0 (k + 6) fT fdT ["thing", "word", "many"] spTagged) (bT : Binds K fdT ["thing", "word", "many"] []) (gT : mg "is_tagged" = some (.ref fT)) (kT : PySem.W.keepIn K (.ref fT) = true)
    (GD : FnOk P w K mg base CX0 (k + 6) fD fdD ["thing"] (spIsData T)) (bD : Binds K fdD ["thing"] []) (gD : mg "is_data" = some (.ref fD)) (kD : PySem.W.keepIn K (.ref fD) = true) : FnOk P w K mg base CX0 (k + 7) f fd ["thing"] (spYes T fstD) := by
  refine F.ok scIsFirst (fun vs H Q E h => ?_) (fun cdv A outer s H vs Q E hr h => ?_)
  · obtain ⟨v, x, rfl, _⟩ := h
    rfl
  obtain ⟨v, x, rfl, hd, hw, tb, q⟩ := h
  refine ⟨_, pss_cons (ps_if (pt_not (pt_val (pe_call GT hr (by rfl) gT kT bT .nil pass0 (pa_cons (pv 0) (pa_cons pe_str (pa_cons pe_int pa_nil)))))) (pss_one (ps_ret pe_bl)) pss_nil)
    (pss_cons (ps_set (i := 1) scIsFirst.nd rfl (.inl rfl) (pv 0))
    (pss_cons (ps_while PassesOwn.never (pt_val (pe_call GT hr (by rfl) gT kT bT .nil pass0 (pa_cons (pv 1) (pa_cons pe_str (pa_cons pe_int pa_nil)))))
      (pss_cons (ps_if (pt_not (pt_val (pe_call GD hr (by rfl) gD kD bD .nil pass0 (pa_cons (pe_ix ix_tup (pv 1) pe_int (fun _ _ => rfl)) pa_nil)))) (pss_one (ps_ret pe_bl)) pss_nil)
      (pss_one (ps_set (i := 1) scIsFirst.nd rfl (.inl rfl) (pe_ix ix_tup (pv 1) pe_int (fun _ _ => rfl))))))
    (pss_one (ps_ret (pe_call GD hr (by rfl) gD kD bD .nil pass0 (pa_cons (pv 1) pa_nil)))))), ?_⟩
  refine ⟨_, rfl, v, x, "fun", 2, rfl, hd, _, rfl, ite2 (fun e => ?_) (fun e => ?_)⟩
  · have z := q _ (Sm.refl tb)
    have e1 : fstD x = false := by
      unfold fstD
      rw [show tagD x "fun" 2 = false by simpa using e, Bool.false_and]
    rw [e1] at z
    exact z
  have et : fstD x = chD dat x := by
    unfold fstD
    rw [show tagD x "fun" 2 = true by simpa using e, Bool.true_and]
  let Iv : Nat → L2.St → Hp → Prop := fun m σ G => ∃ y u, m = y.sz ∧ σ = [some v, some u] ∧ Sm T H G ∧ Dd Any G y u ∧ y.wt ≤ x.wt ∧ chD dat x = chD dat y
  refine ⟨_, rfl, Iv, ⟨_, x, v, rfl, rfl, Sm.refl tb, hd, Nat.le_refl _, rfl⟩, fun m σ G z => ?_⟩
  obtain ⟨y, u, rfl, rfl, sG, hy, hyw, hc⟩ := z
  refine ⟨_, rfl, u, y, "fun", 2, rfl, hy, _, rfl, ite2 (fun e => ?_) (fun e => ?_)⟩
  · obtain ⟨a, b, rfl⟩ := tag_fn e
    obtain ⟨p, x0, y0, z0, rfl, hp, _, ha, hb⟩ := Dd.tup3 hy
    rw [wt3] at hyw
    refine ⟨fun σ' G' => ∃ m', m' < _ ∧ Iv m' σ' G', fun σ' G' z => z, ?_⟩
    refine ⟨_, rfl, p, _, _, _, rfl, rfl, SqT.of hp, atI_nat (j := 1) rfl, y0, a, rfl, ha, by omega, sG.2, fun G2 s2 => ⟨_, rfl, ite2 (fun e => ?_) (fun e => ?_)⟩⟩
    · have z := q _ (sG.trans s2)
      rw [et, hc, chD_fn, show dat a = false by simpa using e] at z
      exact z
    refine ⟨_, rfl, p, _, _, _, rfl, rfl, SqT.of (s2.at sG.2 hp fun ps z => by cases z), atI_nat (j := 2) rfl, b.sz, ?_, b, z0, rfl, rfl, sG.trans s2, hb.kn (s2.kn sG.2), by omega, ?_⟩
    · rw [sz3]
      omega
    · rw [hc, chD_fn, show dat a = true by simpa using e, Bool.true_and]
  · refine ⟨_, rfl, u, y, rfl, hy, by omega, sG.2, fun G2 s2 => ?_⟩
    have z := q _ (sG.trans s2)
    rw [et, hc, chD_no _ (by simpa using e)] at z
    exact z
theorem scIsArg : FnScope ["thing"] ["thing"] (defScope tIsArg) := ⟨rfl, rfl, rfl, by decide +kernel, rfl, by decide +kernel, by decide +kernel⟩
theorem okIsArg {f fT fD : Addr} {fd fdT fdD : FuncData} {k : Nat} {T : List Addr} (F : Fun K "is_argument" "is_argument" tIsArg f fd)
    (GT : FnOk P w K mg base CX0 (k + 7) fT fdT ["thing"] (spYes T fstD)) (bT : Binds K fdT ["thing"] []) (gT : mg "is_first" = some (.ref fT)) (kT : PySem.W.keepIn K (.ref fT) = true)
    (GD : FnOk P w K mg base CX0 (k + 7) fD fdD ["thing"] (spIsData T)) (bD : Binds K fdD ["thing"] []) (gD : mg "is_data" = some (.ref fD)) (kD : PySem.W.keepIn K (.ref fD) = true) : FnOk P w K mg base CX0 (k + 8) f fd ["thing"] (spYes T argD) := by
  refine F.ok scIsArg (fun vs H Q E h => ?_) (fun cdv A outer s H vs Q E hr h => ?_)
  · obtain ⟨v, x, rfl, _⟩ := h
    rfl
  obtain ⟨v, x, rfl, hd, hw, tb, q⟩ := h
  refine ⟨_, pss_one (ps_ret (pe_or (pe_call GD hr (by rfl) gD kD bD .nil pass0 (pa_cons (pv 0) pa_nil)) (pe_one (pe_call GT hr (by rfl) gT kT bT .nil pass0 (pa_cons (pv 0) pa_nil))))), ?_⟩
  refine ⟨_, rfl, v, x, rfl, hd, hw, tb, fun G sG => ⟨_, rfl, ite2 (fun e => ?_) (fun e => ?_)⟩⟩
  · have z := q _ sG
    unfold argD at z
    rw [e] at z
    exact z
  · refine ⟨_, rfl, v, x, rfl, hd.kn (sG.kn tb), hw, sG.2, fun G2 s2 => ?_⟩
    have z := q _ (sG.trans s2)
    unfold argD at z
    rw [show dat x = false by simpa using e, Bool.false_or] at z
    exact z
end
end Kq

namespace Kq
open PySem PySem.Spec PyProof.Rows L2 Kf Kg Kv GxR
def numD : Dt → Bool
  | .int i => decide (0 ≤ i)
  | _ => false
abbrev tTruth : Stmt := tp 19
abbrev tWhole : Stmt := tp 20
abbrev tNumber : Stmt := tp 21
section
variable {P : Program} {w : World} {K : PySem.W.Frag} {mg : Str → Option Value} {base : Heap}
def spYesS (p : Dt → Bool) : Sp := fun vs H Q _ => ∃ (v : V) (x : Dt), vs = [v] ∧ Dd Any H x v ∧ Q (.bl (p x)) H
theorem scTruth : FnScope ["thing"] ["thing"] (defScope tTruth) := ⟨rfl, rfl, rfl, by decide +kernel, rfl, by decide +kernel, by decide +kernel⟩
theorem okTruth {f : Addr} {fd : FuncData} {k : Nat} (F : Fun K "is_truth" "is_truth" tTruth f fd) (mi : mg "isinstance" = none) (mb : mg "bool" = none) : FnOk P w K mg base CX0 (k + 1) f fd ["thing"] (spYesS Dt.isBl) := by
  refine F.ok scTruth (fun vs H Q E h => ?_) (fun cdv A outer s H vs Q E hr h => ?_)
  · obtain ⟨v, x, rfl, _⟩ := h
    rfl
  obtain ⟨v, x, rfl, hd, q⟩ := h
  refine ⟨_, pss_one (ps_ret (pe_callB (isiK K rfl) (by rfl) mi PyProof.Rows.boot_isinstance (pa_cons (pv 0) (pa_cons (pe_bltn (v := .ty "bool") (by rfl) mb PyProof.Rows.boot_bool rfl) pa_nil)))), ?_⟩
  exact ⟨_, rfl, _, _, _, _, x.isBl, rfl, .ty "bool", hd.ty, kBl K x, q⟩
def whlD : Dt → Bool
  | .int _ => true
  | _ => false
theorem scWhole : FnScope ["thing"] ["thing"] (defScope tWhole) := ⟨rfl, rfl, rfl, by decide +kernel, rfl, by decide +kernel, by decide +kernel⟩
theorem okWhole {f : Addr} {fd : FuncData} {k : Nat} (F : Fun K "is_whole" "is_whole" tWhole f fd) (mi : mg "isinstance" = none) (mb : mg "bool" = none) (mn : mg "int" = none) : FnOk P w K mg base CX0 (k + 1) f fd ["thing"] (spYesS whlD) := by
  refine F.ok scWhole (fun vs H Q E h => ?_) (fun cdv A outer s H vs Q E hr h => ?_)
  · obtain ⟨v, x, rfl, _⟩ := h
    rfl
  obtain ⟨v, x, rfl, hd, q⟩ := h
  refine ⟨_, pss_one (ps_ret (pe_and (pe_callB (isiK K rfl) (by rfl) mi PyProof.Rows.boot_isinstance (pa_cons (pv 0) (pa_cons (pe_bltn (v := .ty "int") (by rfl) mn (by decide +kernel) rfl) pa_nil)))
    (pe_one (pe_not (pe_callB (isiK K rfl) (by rfl) mi PyProof.Rows.boot_isinstance (pa_cons (pv 0) (pa_cons (pe_bltn (v := .ty "bool") (by rfl) mb PyProof.Rows.boot_bool rfl) pa_nil))))))), ?_⟩
  refine ⟨_, rfl, _, _, _, _, x.isInt, rfl, .ty "int", hd.ty, kInt K x, _, rfl, ite2 (fun e => ?_) (fun e => ?_)⟩
  · refine ⟨_, rfl, _, _, _, _, x.isBl, rfl, .ty "bool", hd.ty, kBl K x, _, rfl, ?_⟩
    have e1 : (!x.isBl) = whlD x := by
      cases x <;> first | rfl | cases e
    rw [e1]
    exact q
  · have e1 : whlD x = false := by
      cases x <;> first | rfl | exact absurd rfl e
    rw [e1] at q
    exact q
theorem scNumber : FnScope ["thing"] ["thing"] (defScope tNumber) := ⟨rfl, rfl, rfl, by decide +kernel, rfl, by decide +kernel, by decide +kernel⟩
theorem okNumber {f fW : Addr} {fd fdW : FuncData} {k : Nat} (F : Fun K "is_number" "is_number" tNumber f fd)
    (GW : FnOk P w K mg base CX0 (k + 1) fW fdW ["thing"] (spYesS whlD)) (bW : Binds K fdW ["thing"] []) (gW : mg "is_whole" = some (.ref fW)) (kW : PySem.W.keepIn K (.ref fW) = true) : FnOk P w K mg base CX0 (k + 2) f fd ["thing"] (spYesS numD) := by
  refine F.ok scNumber (fun vs H Q E h => ?_) (fun cdv A outer s H vs Q E hr h => ?_)
  · obtain ⟨v, x, rfl, _⟩ := h
    rfl
  obtain ⟨v, x, rfl, hd, q⟩ := h
  refine ⟨_, pss_one (ps_ret (pe_and (pe_call GW hr (by rfl) gW kW bW .nil pass0 (pa_cons (pv 0) pa_nil)) (pe_one (pe_cmpR op_ge (pv 0) pe_int (nomark _))))), ?_⟩
  refine ⟨_, rfl, v, x, rfl, hd, _, rfl, ite2 (fun e => ?_) (fun e => ?_)⟩
  · obtain ⟨i, rfl⟩ : ∃ i, x = .int i := by
      cases x with
      | int i => exact ⟨i, rfl⟩
      | _ => cases e
    cases hd
    exact ⟨_, rfl, _, _, rfl, rfl, q⟩
  · have e1 : numD x = false := by
      cases x <;> first | rfl | exact absurd rfl e
    rw [e1] at q
    exact q
end
end Kq

namespace Kq
open PySem PySem.Spec PyProof.Rows L2 Kf Kg Kv GxR RZ
/-! all over two at once -/
section
variable {K : PySem.W.Frag} {a b : Addr} {xs ys : List V} {g : TG} {te : TE} {vs : List Nat} {σ0 : L2.St} {G : Hp} {Qe : Bool → Hp → Prop}
theorem all_zipL (Pv : Nat → Hp → Prop) (h0 : Pv 0 G) (hl : ∀ i H, Pv i H → SqL K H a xs ∧ SqL K H b ys)
    (hs : ∀ i x y T H, xs[i]? = some x → ys[i]? = some y → Pv i H → H T = none → g (.ref T) σ0 (upd H T (.tup [x, y])) fun σ2 H2 => wipe σ2 vs = σ0 ∧ te σ2 H2 fun y H4 => ∃ b, y = .bl b ∧ if b = true then Pv (i + 1) H4 else Qe false H4)
    (hd : ∀ H, Pv (min xs.length ys.length) H → Qe true H) : ∃ W : Nat → Nat → Hp → Prop, (∃ m, W 0 m G) ∧ Turns (Itz K a b) σ0 vs g te Qe W := by
  refine ⟨fun i m F => m = min xs.length ys.length - i ∧ i ≤ min xs.length ys.length ∧ Pv i F, ⟨_, rfl, Nat.zero_le _, h0⟩, fun i m F z => ?_⟩
  obtain ⟨rfl, hi, p⟩ := z
  obtain ⟨q1, q2⟩ := hl i F p
  by_cases lt : i < min xs.length ys.length
  · have l1 : i < xs.length := by omega
    have l2 : i < ys.length := by omega
    refine .inr ⟨⟨xs, ys, xs[i], ys[i], q1, q2, List.getElem?_eq_getElem l1, List.getElem?_eq_getElem l2⟩, Pv (i + 1), fun F' p' => ⟨min xs.length ys.length - (i + 1), by omega, rfl, lt, p'⟩, fun x F' y => ?_⟩
    obtain ⟨T, x1, y1, rfl, hT, rfl, e1, e2⟩ := y
    exact hs i x1 y1 T F (e1 xs q1) (e2 ys q2) p hT
  · have e : i = min xs.length ys.length := by omega
    subst e
    exact .inl ⟨⟨xs, ys, q1, q2, by omega⟩, hd F p⟩
theorem all_zipT (Pv : Nat → Hp → Prop) (h0 : Pv 0 G) (hl : ∀ i H, Pv i H → SqT K H a xs ∧ SqT K H b ys)
    (hs : ∀ i x y T H, xs[i]? = some x → ys[i]? = some y → Pv i H → H T = none → g (.ref T) σ0 (upd H T (.tup [x, y])) fun σ2 H2 => wipe σ2 vs = σ0 ∧ te σ2 H2 fun y H4 => ∃ b, y = .bl b ∧ if b = true then Pv (i + 1) H4 else Qe false H4)
    (hd : ∀ H, Pv (min xs.length ys.length) H → Qe true H) : ∃ W : Nat → Nat → Hp → Prop, (∃ m, W 0 m G) ∧ Turns (ItzT K a b) σ0 vs g te Qe W := by
  refine ⟨fun i m F => m = min xs.length ys.length - i ∧ i ≤ min xs.length ys.length ∧ Pv i F, ⟨_, rfl, Nat.zero_le _, h0⟩, fun i m F z => ?_⟩
  obtain ⟨rfl, hi, p⟩ := z
  obtain ⟨q1, q2⟩ := hl i F p
  by_cases lt : i < min xs.length ys.length
  · have l1 : i < xs.length := by omega
    have l2 : i < ys.length := by omega
    refine .inr ⟨⟨xs, ys, xs[i], ys[i], q1, q2, List.getElem?_eq_getElem l1, List.getElem?_eq_getElem l2⟩, Pv (i + 1), fun F' p' => ⟨min xs.length ys.length - (i + 1), by omega, rfl, lt, p'⟩, fun x F' y => ?_⟩
    obtain ⟨T, x1, y1, rfl, hT, rfl, e1, e2⟩ := y
    exact hs i x1 y1 T F (e1 xs q1) (e2 ys q2) p hT
  · have e : i = min xs.length ys.length := by omega
    subst e
    exact .inl ⟨⟨xs, ys, q1, q2, by omega⟩, hd F p⟩
end
/-! rising -/
theorem cutD1 (xs : List Str) : cutV (xs.map V.str) (some 1) none = (xs.drop 1).map V.str := by
  cases xs with
  | nil => rfl
  | cons x r => exact cutFrom1 (.str x) (r.map V.str)
def ltS (x y : Str) : Bool := decide (x.cps.toList < y.cps.toList)
def rising : List Str → Bool
  | x :: y :: r => ltS x y && rising (y :: r)
  | _ => true
theorem rising_at : ∀ {xs : List Str} {i : Nat} {x y : Str}, rising xs = true → xs[i]? = some x → xs[i + 1]? = some y → ltS x y = true
  | a :: b :: r, 0, x, y, h, e1, e2 => by
    obtain rfl := Option.some.inj e1
    obtain rfl := Option.some.inj e2
    exact (Bool.and_eq_true_iff.mp h).1
  | a :: b :: r, i + 1, x, y, h, e1, e2 => rising_at (xs := b :: r) (i := i) (Bool.and_eq_true_iff.mp h).2 e1 e2
  | [], _, _, _, _, e1, _ => by simp at e1
  | [_], 0, _, _, _, _, e2 => by simp at e2
  | [_], _ + 1, _, _, _, e1, _ => by simp at e1
theorem rising_of : ∀ {xs : List Str}, (∀ i x y, xs[i]? = some x → xs[i + 1]? = some y → ltS x y = true) → rising xs = true
  | [], _ => rfl
  | [_], _ => rfl
  | a :: b :: r, h => Bool.and_eq_true_iff.mpr ⟨h 0 a b rfl rfl, rising_of fun i x y e1 e2 => h (i + 1) x y e1 e2⟩
abbrev tRising : Stmt := tp 23
abbrev tTurns : Stmt := tp 40
abbrev tFills : Stmt := tp 41
abbrev tFill : Stmt := tp 42
section
variable {P : Program} {w : World} {K : PySem.W.Frag} {mg : Str → Option Value} {base : Heap}
theorem scRising : FnScope ["row"] ["row"] (defScope tRising) := ⟨rfl, rfl, rfl, by decide +kernel, rfl, by decide +kernel, by decide +kernel⟩
def spRising (T : List Addr) : Sp := fun vs H Q _ => ∃ (a : Addr) (xs : List Str), vs = [.ref a] ∧ H a = some (.lst (xs.map V.str)) ∧ TbS T H ∧ ∀ G : Hp, Sm T H G → Q (.bl (rising xs)) G
theorem okRising {f c p : Addr} {fd : FuncData} {k : Nat} {T : List Addr} (F : FunC K "is_rising" "is_rising" tRising f fd c) (TB : TabB base mg c p) (hp : p ∈ T)
    (ma : mg "all" = none) (mz : mg "zip" = none) : FnOk P w K mg base CX0 (k + 4) f fd ["row"] (spRising T) := by
  refine F.ok scRising (fun vs H Q E h => ?_) (fun A outer s H vs Q E hr h => ?_)
  · obtain ⟨a, xs, rfl, _⟩ := h
    rfl
  obtain ⟨a, xs, rfl, ha, tb, q⟩ := h
  refine ⟨_, pss_one (ps_ret (pe_allG (c := c) (P := p) (own := ["one", "other"]) (caps := []) (vs := [0, 1]) (g := gTup K 2 (gCons (gName 0) (gCons (gName 1) gNil))) hr (by rfl) ma TB rfl
      (gxS_by (N := ["row"]) (sc := defScope tRising) (by decide +kernel)) (pi_zipA (by rfl) mz (pa_cons (pv 0) (pa_cons (pe_slice sl_list (pv 0) (po_some pe_int) po_none) pa_nil)))
      (fun _ _ _ _ _ => pg_tup rfl (pgs_cons (pg_name (i := 0) (show (["one", "other"] : List Str).Nodup by decide +kernel) rfl (.inl rfl)) (pgs_cons (pg_name (i := 1) (show (["one", "other"] : List Str).Nodup by decide +kernel) rfl (.inl rfl)) pgs_nil)))
      (fun _ _ _ _ _ => pe_cmpR op_lt_str (pv 0) (pv 1) (nomark _)))), ?_⟩
  refine ⟨_, rfl, _, rfl, 1, rfl, a, _, rfl, SqL.of ha, fun b nb => ?_⟩
  have s1 := newS (o := .lst (cutV (xs.map V.str) (some 1) none)) nb
  have ec : cutV (xs.map V.str) (some 1) none = (xs.drop 1).map V.str := cutD1 xs
  rw [ec] at s1 ⊢
  have tb1 := tb.same s1
  refine ⟨a, b, _, _, rfl, .inl ⟨SqL.of (s1 _ _ ha), SqL.of upd_same, tb1 p hp, fun H2 htab => ?_⟩⟩
  have s2 : Sm T H H2 := (Sm.of s1 tb).trans (Sm.tab hp tb1 htab)
  have ga2 : H2 a = some (.lst (xs.map V.str)) := s2.at tb ha fun _ z => by cases z
  have gb2 : H2 b = some (.lst ((xs.drop 1).map V.str)) := (Sm.tab hp tb1 htab).at tb1 upd_same fun _ z => by cases z
  refine all_zipL (xs := xs.map V.str) (ys := (xs.drop 1).map V.str) (fun i F => Sm T H2 F ∧ ∀ j x y, j < i → xs[j]? = some x → xs[j + 1]? = some y → ltS x y = true) ⟨Sm.refl s2.2, fun j x y h => by omega⟩
    (fun i F z => ⟨SqL.of (z.1.at s2.2 ga2 fun _ z => by cases z), SqL.of (z.1.at s2.2 gb2 fun _ z => by cases z)⟩) (fun i x y To F hx hy z nT => ?_) (fun F z => ?_)
  · obtain ⟨sF, al⟩ := z
    rw [List.getElem?_map] at hx hy
    rw [List.getElem?_drop] at hy
    cases h1 : xs[i]? with
    | none => rw [h1] at hx; cases hx
    | some x1 =>
      rw [h1] at hx
      obtain rfl := Option.some.inj hx
      rw [Nat.add_comm 1 i] at hy
      cases h2 : xs[i + 1]? with
      | none => rw [h2] at hy; cases hy
      | some y1 =>
        rw [h2] at hy
        obtain rfl := Option.some.inj hy
        have sT := newS (o := .tup [V.str x1, .str y1]) nT
        refine ⟨To, _, rfl, SqT.of upd_same, rfl, _, _, rfl, _, _, rfl, rfl, rfl, _, rfl, _, rfl, _, _, rfl, rfl, _, rfl, ?_⟩
        refine ite2 (fun e => ⟨sF.trans (Sm.of sT sF.2), fun j x y hj e1 e2 => ?_⟩) (fun e => ?_)
        · by_cases c : j = i
          · subst c
            rw [h1] at e1
            rw [h2] at e2
            obtain rfl := Option.some.inj e1
            obtain rfl := Option.some.inj e2
            exact e
          · exact al j x y (by omega) e1 e2
        · have z := q _ ((s2.trans sF).trans (Sm.of sT sF.2))
          have er : rising xs = false := by
            cases c : rising xs with
            | false => rfl
            | true => exact absurd (rising_at c h1 h2) e
          rw [er] at z
          exact z
  · obtain ⟨sF, al⟩ := z
    have z := q _ (s2.trans sF)
    have er : rising xs = true := rising_of fun i x y e1 e2 => by
      refine al i x y ?_ e1 e2
      have := (List.getElem?_eq_some_iff.mp e2).1
      rw [List.length_map, List.length_map, List.length_drop]
      omega
    rw [er] at z
    exact z
end
end Kq

namespace Kq
open PySem PySem.Spec PyProof.Rows L2 Kf Kg Kv GxR RZ
def trnD : Dt → Bool
  | .int i => decide (1 ≤ i) && decide (i ≤ 30)
  | _ => false
def filD1 : Dt → Bool
  | .tup [n, k] => nmD n && dat k
  | _ => false
def nmOf : Dt → Str
  | .tup (.str n :: _) => n
  | _ => ""
def filD : Dt → Bool
  | .tup xs => xs.all filD1 && rising (xs.map nmOf)
  | _ => false
theorem wts_mem : ∀ {xs : List Dt} {x : Dt}, x ∈ xs → x.wt + 2 ≤ Dt.wts xs
  | y :: ys, x, h => by
    rcases List.mem_cons.mp h with rfl | h
    · simp only [Dt.wts]
      omega
    · have := wts_mem h
      simp only [Dt.wts]
      omega
theorem filD1_see {x : Dt} (h : filD1 x = true) : ∃ n k, x = .tup [.str n, k] ∧ nmS n = true ∧ dat k = true := by
  cases x with
  | tup xs =>
    match xs, h with
    | [n, k], h =>
      obtain ⟨h1, h2⟩ := Bool.and_eq_true_iff.mp h
      cases n with
      | str n => exact ⟨n, k, rfl, h1, h2⟩
      | _ => cases h1
  | _ => cases h
section
variable {P : Program} {w : World} {K : PySem.W.Frag} {mg : Str → Option Value} {base : Heap}
/-! is_turns -/
theorem scTurns : FnScope ["thing"] ["thing"] (defScope tTurns) := ⟨rfl, rfl, rfl, by decide +kernel, rfl, by decide +kernel, by decide +kernel⟩
theorem okTurns {f fW : Addr} {fd fdW : FuncData} {k : Nat} {u1 : Value} (F : Fun K "is_turns" "is_turns" tTurns f fd)
    (GW : FnOk P w K mg base CX0 (k + 1) fW fdW ["thing"] (spYesS whlD)) (bW : Binds K fdW ["thing"] []) (gW : mg "is_whole" = some (.ref fW)) (kW : PySem.W.keepIn K (.ref fW) = true)
    (gM : mg "MOST_TURNS" = some u1) (rM : RelV (.int 30) u1) : FnOk P w K mg base CX0 (k + 2) f fd ["thing"] (spYesS trnD) := by
  refine F.ok scTurns (fun vs H Q E h => ?_) (fun cdv A outer s H vs Q E hr h => ?_)
  · obtain ⟨v, x, rfl, _⟩ := h
    rfl
  obtain ⟨v, x, rfl, hd, q⟩ := h
  refine ⟨_, pss_one (ps_ret (pe_and (pe_call GW hr (by rfl) gW kW bW .nil pass0 (pa_cons (pv 0) pa_nil))
    (pe_one (pe_chain op_le op_le pe_int (pv 0) (pe_glob (v := .int 30) (by rfl) gM rM))))), ?_⟩
  refine ⟨_, rfl, v, x, rfl, hd, _, rfl, ite2 (fun e => ?_) (fun e => ?_)⟩
  · cases x with
    | int i =>
      cases hd
      refine ⟨_, rfl, _, _, rfl, rfl, _, rfl, ite2 (fun e1 => ?_) (fun e1 => ?_)⟩
      · have z := q
        have e2 : trnD (.int i) = decide (i ≤ 30) := by
          show (decide (1 ≤ i) && _) = _
          rw [show decide (1 ≤ i) = true from e1, Bool.true_and]
        rw [e2] at z
        exact ⟨_, _, rfl, rfl, z⟩
      · have z := q
        have e2 : trnD (.int i) = false := by
          show (decide (1 ≤ i) && _) = _
          rw [show decide (1 ≤ i) = false by simpa using e1, Bool.false_and]
        rw [e2] at z
        exact z
    | _ => cases e
  · have e1 : trnD x = false := by
      cases x <;> first | rfl | exact absurd rfl e
    rw [e1] at q
    exact q
/-! is_fill -/
theorem scFill : FnScope ["thing"] ["thing"] (defScope tFill) := ⟨rfl, rfl, rfl, by decide +kernel, rfl, by decide +kernel, by decide +kernel⟩
theorem okFill {f fN fD : Addr} {fd fdN fdD : FuncData} {k : Nat} {T : List Addr} (F : Fun K "is_fill" "is_fill" tFill f fd)
    (GN : FnOk P w K mg base CX0 k fN fdN ["thing"] (spName T)) (bN : Binds K fdN ["thing"] []) (gN : mg "is_name" = some (.ref fN)) (kN : PySem.W.keepIn K (.ref fN) = true)
    (GD : FnOk P w K mg base CX0 k fD fdD ["thing"] (spIsData T)) (bD : Binds K fdD ["thing"] []) (gD : mg "is_data" = some (.ref fD)) (kD : PySem.W.keepIn K (.ref fD) = true)
    (mi : mg "isinstance" = none) (mt : mg "tuple" = none) (ml : mg "len" = none) : FnOk P w K mg base CX0 (k + 1) f fd ["thing"] (spYes T filD1) := by
  refine F.ok scFill (fun vs H Q E h => ?_) (fun cdv A outer s H vs Q E hr h => ?_)
  · obtain ⟨v, x, rfl, _⟩ := h
    rfl
  obtain ⟨v, x, rfl, hd, hw, tb, q⟩ := h
  refine ⟨_, pss_one (ps_ret (pe_and (pe_callB (isiK K rfl) (by rfl) mi PyProof.Rows.boot_isinstance (pa_cons (pv 0) (pa_cons (pe_bltn (v := .ty "tuple") (by rfl) mt PyProof.Rows.boot_tuple rfl) pa_nil)))
    (pe_and (pe_cmpR op_eq (pe_callB call_len_seq (by rfl) ml PySem.boot_len (pa_cons (pv 0) pa_nil)) pe_int (nomark _))
    (pe_and (pe_call GN hr (by rfl) gN kN bN .nil pass0 (pa_cons (pe_ix ix_tup (pv 0) pe_int (fun _ _ => rfl)) pa_nil))
    (pe_one (pe_call GD hr (by rfl) gD kD bD .nil pass0 (pa_cons (pe_ix ix_tup (pv 0) pe_int (fun _ _ => rfl)) pa_nil))))))), ?_⟩
  have no : filD1 x = false → Q (.bl false) H := fun e => by
    have z := q _ (Sm.refl tb)
    rw [e] at z
    exact z
  refine ⟨_, rfl, _, _, _, _, x.isTup, rfl, .ty "tuple", hd.ty, kTup K x, _, rfl, ite2 (fun e => ?_) (fun e => ?_)⟩
  rotate_left
  · refine no ?_
    cases x <;> first | rfl | exact absurd rfl e
  obtain ⟨xs, rfl⟩ : ∃ xs, x = .tup xs := by
    cases x with
    | tup xs => exact ⟨xs, rfl⟩
    | _ => cases e
  obtain ⟨a, us, rfl, ha, hL⟩ := Dd.tupS hd
  have ll := hL.len
  refine ⟨_, rfl, a, _, rfl, .inr (SqT.of ha), rfl, _, rfl, ite2 (fun e => ?_) (fun e => ?_)⟩
  rotate_left
  · have e1 : ¬ us.length = 2 := fun z => e (decide_eq_true (by rw [z]; rfl))
    refine no ?_
    match xs, ll with
    | [], _ => rfl
    | [_], _ => rfl
    | [_, _], ll => exact absurd ll.symm e1
    | _ :: _ :: _ :: _, _ => rfl
  have e1 : us.length = 2 := by
    have := V.int.inj (of_decide_eq_true e)
    omega
  obtain ⟨y, z, u1, u2, rfl, rfl, hy, hz⟩ : ∃ y z u1 u2, xs = [y, z] ∧ us = [u1, u2] ∧ Dd Any H y u1 ∧ Dd Any H z u2 := by
    rcases DdL.see hL with ⟨rfl, rfl⟩ | ⟨y, ys, u1, ws, rfl, rfl, hy, hys⟩
    · cases e1
    rcases DdL.see hys with ⟨rfl, rfl⟩ | ⟨z, zs, u2, ws', rfl, rfl, hz, hzs⟩
    · cases e1
    rcases DdL.see hzs with ⟨rfl, rfl⟩ | ⟨z', zs, u3, ws', rfl, rfl, hz', hzs⟩
    · exact ⟨y, z, u1, u2, rfl, rfl, hy, hz⟩
    · simp at e1
  have hwt : y.wt + 2 + (z.wt + 2) ≤ (Dt.tup [y, z]).wt := by
    simp only [Dt.wt, Dt.wts]
    omega
  refine ⟨_, rfl, a, _, _, _, rfl, rfl, SqT.of ha, atI_nat (j := 0) rfl, u1, y, rfl, hy, by omega, tb, fun G sG => ⟨_, rfl, ite2 (fun e => ?_) (fun e => ?_)⟩⟩
  · have ha' := sG.at tb ha (fun _ z => by cases z)
    refine ⟨_, rfl, a, _, _, _, rfl, rfl, SqT.of ha', atI_nat (j := 1) rfl, u2, z, rfl, hz.kn (sG.kn tb), by omega, sG.2, fun G2 s2 => ?_⟩
    have z' := q _ (sG.trans s2)
    have e2 : filD1 (.tup [y, z]) = dat z := by
      show (nmD y && dat z) = _
      rw [show nmD y = true from e, Bool.true_and]
    rw [e2] at z'
    exact z'
  · have z' := q _ sG
    have e2 : filD1 (.tup [y, z]) = false := by
      show (nmD y && dat z) = _
      rw [show nmD y = false by simpa using e, Bool.false_and]
    rw [e2] at z'
    exact z'
end
end Kq

namespace Kq
open PySem PySem.Spec PyProof.Rows L2 Kf Kg Kv GxR RZ
abbrev tFits : Stmt := tp 39
def fitD (role : Str) (x : Dt) : Bool :=
  if role = "name" then nmD x else if role = "number" then numD x else if role = "truth" then x.isBl else if role = "turns" then trnD x else if role = "data" then dat x else if role = "argument" then argD x else (decide (role = "term") || filD x)
theorem Dd.tup2 {N : Addr → Prop} {H : Hp} {a b : Dt} {v : V} (h : Dd N H (.tup [a, b]) v) : ∃ p y z, v = .ref p ∧ H p = some (.tup [y, z]) ∧ Dd N H a y ∧ Dd N H b z := by
  obtain ⟨p, vs, rfl, hp, hL⟩ := Dd.tupS h
  rcases DdL.see hL with ⟨e, _⟩ | ⟨y, ys, u1, ws, e, rfl, hy, hys⟩
  · cases e
  cases e
  rcases DdL.see hys with ⟨e, _⟩ | ⟨z, zs, u2, ws', e, rfl, hz, hzs⟩
  · cases e
  cases e
  rcases DdL.see hzs with ⟨_, rfl⟩ | ⟨z, zs, u3, ws', e, _⟩
  · exact ⟨p, u1, u2, rfl, hp, hy, hz⟩
  · cases e
section
variable {P : Program} {w : World} {K : PySem.W.Frag} {mg : Str → Option Value} {base : Heap}
abbrev nFills : List Str := ["thing", "name", "kind"]
theorem scFills : FnScope nFills ["thing"] (defScope tFills) := ⟨rfl, rfl, rfl, by decide +kernel, rfl, by decide +kernel, by decide +kernel⟩
theorem okFills {f c p fF fR : Addr} {fd fdF fdR : FuncData} {k : Nat} {T : List Addr} (F : FunC K "is_fills" "is_fills" tFills f fd c) (TB : TabB base mg c p) (hp : p ∈ T)
    (GF : FnOk P w K mg base CX0 k fF fdF ["thing"] (spYes T filD1)) (bF : Binds K fdF ["thing"] []) (gF : mg "is_fill" = some (.ref fF)) (kF : PySem.W.keepIn K (.ref fF) = true)
    (GR : FnOk P w K mg base CX0 (k + 3) fR fdR ["row"] (spRising T)) (bR : Binds K fdR ["row"] []) (gR : mg "is_rising" = some (.ref fR)) (kR : PySem.W.keepIn K (.ref fR) = true)
    (ma : mg "all" = none) (mi : mg "isinstance" = none) (mt : mg "tuple" = none) : FnOk P w K mg base CX0 (k + 4) f fd ["thing"] (spYes T filD) := by
  refine F.ok scFills (fun vs H Q E h => ?_) (fun A outer s H vs Q E hr h => ?_)
  · obtain ⟨v, x, rfl, _⟩ := h
    rfl
  obtain ⟨v, x, rfl, hd, hw, tb, q⟩ := h
  refine ⟨_, pss_cons (ps_if (PW.pt (pw_or (pt_not (pt_val (pe_callB (isiK K rfl) (by rfl) mi PyProof.Rows.boot_isinstance (pa_cons (pv 0) (pa_cons (pe_bltn (v := .ty "tuple") (by rfl) mt PyProof.Rows.boot_tuple rfl) pa_nil)))))
      (pw_or1 (pt_not (pt_val (pe_allG (c := c) (P := p) (own := ["fill"]) (caps := []) (vs := [0]) (g := gName 0) hr (by rfl) ma TB rfl
        (gxS_by (N := nFills) (sc := defScope tFills) (by decide +kernel)) (pi_tup (pv 0))
        (fun _ _ _ _ _ => pg_name (i := 0) (show (["fill"] : List Str).Nodup by decide +kernel) rfl (.inl rfl))
        (fun _ _ _ _ _ => pe_call GF (Room.deeper hr.in1.in1 _) (by rfl) gF kF bF .nil pass0 (pa_cons (pv 0) pa_nil))))))))
      (pss_one (ps_ret pe_bl)) pss_nil)
    (pss_one (ps_ret (pe_call GR hr (by rfl) gR kR bR .nil pass0 (pa_cons (pe_lc (own := [("name", 1), ("kind", 2)]) (g := gTup K 2 (gCons (gName 1) (gCons (gName 2) gNil))) (by rfl) scFills.nd (pi_tup (pv 0)) (blkOk_by (own := [("name", 1), ("kind", 2)]) (N := nFills) (sc := defScope tFills) (by decide +kernel))
      (fun _ _ _ _ _ => pg_tup rfl (pgs_cons (pg_name (i := 1) scFills.nd rfl (.inl rfl)) (pgs_cons (pg_name (i := 2) scFills.nd rfl (.inl rfl)) pgs_nil))) (fun _ _ _ _ _ => pts_nil) (fun _ _ _ _ _ => pv 1)) pa_nil)))), ?_⟩
  have no : filD x = false → Q (.bl false) H := fun e => by
    have z := q _ (Sm.refl tb)
    rw [e] at z
    exact z
  refine ⟨_, rfl, _, _, _, _, x.isTup, rfl, .ty "tuple", hd.ty, kTup K x, _, rfl, ite2 (fun e => iteT (no ?_)) (fun e => ?_)⟩
  · cases x <;> first | rfl | cases e
  obtain ⟨xs, rfl⟩ : ∃ xs, x = .tup xs := by
    cases x with
    | tup xs => exact ⟨xs, rfl⟩
    | _ => exact absurd rfl e
  obtain ⟨a, us, rfl, ha, hL⟩ := Dd.tupS hd
  have ll := hL.len
  have hws : Dt.wts xs + 2 ≤ sizeLine := by
    have : Dt.wts xs ≤ (Dt.tup xs).wt := by
      simp only [Dt.wt]
      omega
    omega
  refine ⟨_, rfl, a, rfl, ⟨_, SqT.of ha⟩, tb p hp, fun H2 htab => ?_⟩
  have s2 : Sm T H H2 := Sm.tab hp tb htab
  refine all_tup (xs := us) (fun i F => Sm T H F ∧ (xs.take i).all filD1 = true) ⟨s2, rfl⟩ (fun i F _ z => SqT.of (z.1.at tb ha fun _ z => by cases z)) (fun i u F hu z => ?_) (fun F z => ?_)
  · obtain ⟨sF, al⟩ := z
    obtain ⟨d, hd', rd⟩ := hL.get hu
    have hwd := wts_mem (List.mem_of_getElem? hd')
    refine ⟨rfl, _, rfl, u, d, rfl, rd.kn (sF.kn tb), by omega, sF.2, fun F2 s3 => ⟨_, rfl, ?_⟩⟩
    have sF2 := sF.trans s3
    refine ite2 (fun e => ⟨sF2, take_allL hd' al e⟩) (fun e => ?_)
    refine ⟨_, rfl, ?_⟩
    have z := q _ sF2
    have e2 : filD (.tup xs) = false := by
      show (xs.all filD1 && _) = _
      rw [not_allL hd' (by simpa using e), Bool.false_and]
    rw [e2] at z
    exact z
  obtain ⟨sF, al⟩ := z
  rw [← ll, List.take_length] at al
  refine ⟨_, rfl, ?_⟩
  have ha' := sF.at tb ha (fun _ z => by cases z)
  have hL' := hL.kn (sF.kn tb)
  refine ⟨_, rfl, a, rfl, ⟨_, SqT.of ha'⟩, fun D nD => ?_⟩
  have aD : a ≠ D := ne_of_none ha' nD
  refine lc_tup (xs := us) (fun i G => Same F G ∧ G D = some (.lst (((xs.take i).map nmOf).map V.str))) ⟨newS nD, upd_same⟩ (fun i G _ z => SqT.of (z.1 _ _ ha')) (fun i u G hu z => ?_) (fun G z => ?_)
  · obtain ⟨sG, gD⟩ := z
    obtain ⟨d, hd', rd⟩ := hL'.get hu
    obtain ⟨n, kd, rfl, _, _⟩ := filD1_see (List.all_eq_true.mp al d (List.mem_of_getElem? hd'))
    obtain ⟨pp, y1, y2, rfl, hpp, h1, h2⟩ := Dd.tup2 rd
    cases h1
    refine ⟨pp, _, rfl, SqT.of (sG _ _ hpp), rfl, _, _, rfl, _, _, rfl, rfl, rfl, _, rfl, _, gD, ?_, ?_, ?_⟩
    · rw [List.length_map, List.length_map, List.length_take]
      have h3 := (List.getElem?_eq_some_iff.mp hd').1
      have := len_szs xs
      have := Dt.szs_wts xs
      have e0 : sizeLine = 16777216 := rfl
      omega
    · exact fun b o e => by
        rw [upd_ne (fun z => by
          rw [z] at e
          have := sF
          rw [nD] at e
          cases e)]
        exact sG b o e
    · rw [upd_same, List.take_add_one, hd', List.map_append, List.map_append]
      rfl
  · obtain ⟨sG, gD⟩ := z
    rw [← ll, List.take_length] at gD
    have sFG : Sm T H G := sF.trans (Sm.of sG sF.2)
    refine ⟨D, xs.map nmOf, rfl, gD, sFG.2, fun G2 s4 => ?_⟩
    have z := q _ (sFG.trans s4)
    have e2 : filD (.tup xs) = rising (xs.map nmOf) := by
      show (xs.all filD1 && _) = _
      rw [al, Bool.true_and]
    rw [e2] at z
    exact z
/-! fits -/
theorem scFits : FnScope ["role", "part"] ["role", "part"] (defScope tFits) := ⟨rfl, rfl, rfl, by decide +kernel, rfl, by decide +kernel, by decide +kernel⟩
def spFits (T : List Addr) : Sp := fun vs H Q _ => ∃ (r : Str) (v : V) (x : Dt), vs = [.str r, v] ∧ Dd Any H x v ∧ x.wt + 2 ≤ sizeLine ∧ TbS T H ∧ ∀ G : Hp, Sm T H G → Q (.bl (fitD r x)) G
theorem okFits {f f1 f2 f3 f4 f5 f6 f7 : Addr} {fd fd1 fd2 fd3 fd4 fd5 fd6 fd7 : FuncData} {k : Nat} {T : List Addr} (F : Fun K "fits" "fits" tFits f fd)
    (G1 : FnOk P w K mg base CX0 k f1 fd1 ["thing"] (spName T)) (b1 : Binds K fd1 ["thing"] []) (g1 : mg "is_name" = some (.ref f1)) (k1 : PySem.W.keepIn K (.ref f1) = true)
    (G2 : FnOk P w K mg base CX0 k f2 fd2 ["thing"] (spYesS numD)) (b2 : Binds K fd2 ["thing"] []) (g2 : mg "is_number" = some (.ref f2)) (k2 : PySem.W.keepIn K (.ref f2) = true)
    (G3 : FnOk P w K mg base CX0 k f3 fd3 ["thing"] (spYesS Dt.isBl)) (b3 : Binds K fd3 ["thing"] []) (g3 : mg "is_truth" = some (.ref f3)) (k3 : PySem.W.keepIn K (.ref f3) = true)
    (G4 : FnOk P w K mg base CX0 k f4 fd4 ["thing"] (spYesS trnD)) (b4 : Binds K fd4 ["thing"] []) (g4 : mg "is_turns" = some (.ref f4)) (k4 : PySem.W.keepIn K (.ref f4) = true)
    (G5 : FnOk P w K mg base CX0 k f5 fd5 ["thing"] (spIsData T)) (b5 : Binds K fd5 ["thing"] []) (g5 : mg "is_data" = some (.ref f5)) (k5 : PySem.W.keepIn K (.ref f5) = true)
    (G6 : FnOk P w K mg base CX0 k f6 fd6 ["thing"] (spYes T argD)) (b6 : Binds K fd6 ["thing"] []) (g6 : mg "is_argument" = some (.ref f6)) (k6 : PySem.W.keepIn K (.ref f6) = true)
    (G7 : FnOk P w K mg base CX0 k f7 fd7 ["thing"] (spYes T filD)) (b7 : Binds K fd7 ["thing"] []) (g7 : mg "is_fills" = some (.ref f7)) (k7 : PySem.W.keepIn K (.ref f7) = true) : FnOk P w K mg base CX0 (k + 1) f fd ["role", "part"] (spFits T) := by
  refine F.ok scFits (fun vs H Q E h => ?_) (fun cdv A outer s H vs Q E hr h => ?_)
  · obtain ⟨r, v, x, rfl, _⟩ := h
    rfl
  obtain ⟨r, v, x, rfl, hd, hw, tb, q⟩ := h
  refine ⟨_, pss_cons (ps_if (pt_cmpR op_eq (pv 0) pe_str (nomark _)) (pss_one (ps_ret (pe_call G1 hr (by rfl) g1 k1 b1 .nil pass0 (pa_cons (pv 1) pa_nil)))) pss_nil)
    (pss_cons (ps_if (pt_cmpR op_eq (pv 0) pe_str (nomark _)) (pss_one (ps_ret (pe_call G2 hr (by rfl) g2 k2 b2 .nil pass0 (pa_cons (pv 1) pa_nil)))) pss_nil)
    (pss_cons (ps_if (pt_cmpR op_eq (pv 0) pe_str (nomark _)) (pss_one (ps_ret (pe_call G3 hr (by rfl) g3 k3 b3 .nil pass0 (pa_cons (pv 1) pa_nil)))) pss_nil)
    (pss_cons (ps_if (pt_cmpR op_eq (pv 0) pe_str (nomark _)) (pss_one (ps_ret (pe_call G4 hr (by rfl) g4 k4 b4 .nil pass0 (pa_cons (pv 1) pa_nil)))) pss_nil)
    (pss_cons (ps_if (pt_cmpR op_eq (pv 0) pe_str (nomark _)) (pss_one (ps_ret (pe_call G5 hr (by rfl) g5 k5 b5 .nil pass0 (pa_cons (pv 1) pa_nil)))) pss_nil)
    (pss_cons (ps_if (pt_cmpR op_eq (pv 0) pe_str (nomark _)) (pss_one (ps_ret (pe_call G6 hr (by rfl) g6 k6 b6 .nil pass0 (pa_cons (pv 1) pa_nil)))) pss_nil)
    (pss_one (ps_ret (pe_or (pe_cmpR op_eq (pv 0) pe_str (nomark _)) (pe_one (pe_call G7 hr (by rfl) g7 k7 b7 .nil pass0 (pa_cons (pv 1) pa_nil))))))))))), ?_⟩
  have eqv : ∀ {z : Str}, decide (V.str r = V.str z) = true → r = z := fun e => V.str.inj (of_decide_eq_true e)
  have nev : ∀ {z : Str}, ¬ decide (V.str r = V.str z) = true → ¬ r = z := fun e h => e (decide_eq_true (by rw [h]))
  have e0 := Nat.le_trans (Nat.le_add_right x.wt 2) hw
  refine ⟨_, rfl, rfl, _, rfl, ite2 (fun e => ?_) (fun n1 => ?_)⟩
  · refine ⟨_, rfl, v, x, rfl, hd, e0, tb, fun G sG => ?_⟩
    have z := q _ sG
    unfold fitD at z
    rw [if_pos (eqv e)] at z
    exact z
  replace n1 := nev n1
  refine ⟨_, rfl, rfl, _, rfl, ite2 (fun e => ?_) (fun n2 => ?_)⟩
  · refine ⟨_, rfl, v, x, rfl, hd, ?_⟩
    have z := q _ (Sm.refl tb)
    unfold fitD at z
    rw [if_neg n1, if_pos (eqv e)] at z
    exact z
  replace n2 := nev n2
  refine ⟨_, rfl, rfl, _, rfl, ite2 (fun e => ?_) (fun n3 => ?_)⟩
  · refine ⟨_, rfl, v, x, rfl, hd, ?_⟩
    have z := q _ (Sm.refl tb)
    unfold fitD at z
    rw [if_neg n1, if_neg n2, if_pos (eqv e)] at z
    exact z
  replace n3 := nev n3
  refine ⟨_, rfl, rfl, _, rfl, ite2 (fun e => ?_) (fun n4 => ?_)⟩
  · refine ⟨_, rfl, v, x, rfl, hd, ?_⟩
    have z := q _ (Sm.refl tb)
    unfold fitD at z
    rw [if_neg n1, if_neg n2, if_neg n3, if_pos (eqv e)] at z
    exact z
  replace n4 := nev n4
  refine ⟨_, rfl, rfl, _, rfl, ite2 (fun e => ?_) (fun n5 => ?_)⟩
  · refine ⟨_, rfl, v, x, rfl, hd, hw, tb, fun G sG => ?_⟩
    have z := q _ sG
    unfold fitD at z
    rw [if_neg n1, if_neg n2, if_neg n3, if_neg n4, if_pos (eqv e)] at z
    exact z
  replace n5 := nev n5
  refine ⟨_, rfl, rfl, _, rfl, ite2 (fun e => ?_) (fun n6 => ?_)⟩
  · refine ⟨_, rfl, v, x, rfl, hd, hw, tb, fun G sG => ?_⟩
    have z := q _ sG
    unfold fitD at z
    rw [if_neg n1, if_neg n2, if_neg n3, if_neg n4, if_neg n5, if_pos (eqv e)] at z
    exact z
  replace n6 := nev n6
  have ef : fitD r x = (decide (r = "term") || filD x) := by
    unfold fitD
    rw [if_neg n1, if_neg n2, if_neg n3, if_neg n4, if_neg n5, if_neg n6]
  rw [ef] at q
  refine ⟨_, rfl, rfl, _, rfl, ite2 (fun e => ?_) (fun n7 => ?_)⟩
  · have z := q _ (Sm.refl tb)
    rw [decide_eq_true (eqv e), Bool.true_or] at z
    exact z
  · refine ⟨_, rfl, v, x, rfl, hd, hw, tb, fun G sG => ?_⟩
    have z := q _ sG
    rw [decide_eq_false (nev n7), Bool.false_or] at z
    exact z
end
end Kq

namespace Kq
open PySem PySem.Spec PyProof.Rows L2 Kf Kg Kv GxR RZ
abbrev tHasTerm : Stmt := tp 38
abbrev tIsTerm : Stmt := tp 37
abbrev tTermsIn : Stmt := tp 43
/-- the roles of a word's parts -/
def tblT : List (Str × List Str) := [("name", ["name"]), ("fun", ["name", "argument", "term"]), ("call", ["term", "term"]), ("num", ["number"]), ("plus", ["term", "term"]), ("less", ["term", "term"]), ("truth", ["truth"]), ("if", ["term", "term", "term"]), ("pair", ["term", "term"]), ("first", ["term"]), ("second", ["term"]), ("left", ["term", "data"]), ("right", ["data", "term"]), ("case", ["term", "name", "term", "name", "term"]), ("none", ["data"]), ("more", ["term", "term"]), ("fold", ["term", "term", "name", "name", "term"]), ("built", ["data", "name", "name", "name", "term"]), ("alike", ["term", "term"]), ("fault", ["data"]), ("rounds", ["turns", "term", "name", "term"]), ("told", ["name", "fills"])]
def rls (w : Str) : Option (List Str) := tblT.lookup w
def two (w : Str) : Bool := decide (w = "fold") || decide (w = "built")
/-- the names at the third and the fourth place are one -/
def same34 (xs : List Dt) : Bool := match xs[2]?, xs[3]? with
  | some (Dt.str a), some (Dt.str b) => decide (a = b)
  | _, _ => false
def tfm (w : Str) (xs : List Dt) : Bool := match rls w with
  | some rs => decide (xs.length = rs.length) && ((rs.zip xs).all fun p => fitD p.1 p.2) && (!two w || !same34 xs)
  | none => false
def tfrm : Dt → Bool
  | .tup (.str w :: xs) => tfm w xs
  | _ => false
def tpt (w : Str) (xs : List Dt) : List Dt := match rls w with
  | some rs => ((rs.zip xs).filter fun (p : Str × Dt) => decide (p.1 = ("term" : Str))).map (·.2)
  | none => []
def tprt : Dt → List Dt
  | .tup (.str w :: xs) => tpt w xs
  | _ => []
theorem szs_sub : ∀ {xs ys : List Dt}, xs.Sublist ys → Dt.szs xs ≤ Dt.szs ys ∧ Dt.wts xs ≤ Dt.wts ys
  | _, _, .slnil => ⟨Nat.le_refl _, Nat.le_refl _⟩
  | _, _, .cons a h => by
    obtain ⟨h1, h2⟩ := szs_sub h
    simp only [Dt.szs, Dt.wts]
    omega
  | _, _, .cons₂ a h => by
    obtain ⟨h1, h2⟩ := szs_sub h
    simp only [Dt.szs, Dt.wts]
    omega
theorem zip_snd : ∀ (rs : List Str) (xs : List Dt), ((rs.zip xs).map (·.2)).Sublist xs
  | [], xs => by simp
  | r :: rs, [] => by simp
  | r :: rs, x :: xs => by
    simp only [List.zip_cons_cons, List.map_cons]
    exact (zip_snd rs xs).cons₂ x
theorem tpt_sub (w : Str) (xs : List Dt) : (tpt w xs).Sublist xs := by
  unfold tpt
  split
  · rename_i rs _
    exact ((List.filter_sublist).map _).trans (zip_snd rs xs)
  · exact List.nil_sublist _
theorem tprt_sz : ∀ x : Dt, Dt.szs (tprt x) + 1 ≤ x.sz := fun x => by
  unfold tprt
  split
  · rename_i w xs
    have h := (szs_sub (tpt_sub w xs)).1
    have e : (Dt.tup (.str w :: xs)).sz = 1 + (1 + Dt.szs xs) := by simp only [Dt.sz, Dt.szs]
    rw [e]
    omega
  · have := sz_pos x
    simp only [Dt.szs]
    omega
theorem tprt_wt (x : Dt) : Dt.wts (tprt x) ≤ x.wt := by
  unfold tprt
  split
  · rename_i w xs
    have h := (szs_sub (tpt_sub w xs)).2
    simp only [Dt.wt, Dt.wts]
    omega
  · simp only [Dt.wts]
    omega
/-- a term: the form, and the terms within are so -/
def trm (x : Dt) : Bool := tfrm x && (tprt x).attach.all fun y => trm y.1
termination_by x.sz
decreasing_by
  have h1 := tprt_sz x
  have h2 := sz_mem y.2
  omega
theorem trm_eq (x : Dt) : trm x = (tfrm x && (tprt x).all trm) := by
  rw [trm]
  congr 1
  rw [List.all_subtype (g := trm)]
  · simp
  · intro x h
    rfl
theorem notInK {X : Cx} (K : PySem.W.Frag) (h : X.K = K) : OpR X (compareOp .NotIn) (rIn K true) := by
  subst h
  exact op_notIn_seq
theorem inFB (z : Str) : inV (V.str z) [V.str "fold", V.str "built"] = two z := by
  show ((("fold" : Str) == z) || ((("built" : Str) == z) || false)) = _
  rw [Bool.or_false]
  have e : ∀ a : Str, (a == z) = decide (z = a) := fun a => by
    by_cases h : z = a
    · subst h
      simp
    · rw [decide_eq_false h]
      exact beq_eq_false_iff_ne.mpr (Ne.symm h)
  rw [e, e]
  rfl
/-- the table of forms -/
structure TForms (K : PySem.W.Frag) (w : World) (dA : Addr) (es : Array DictEntry) (n : Nat) : Prop where
  dict : KDict K w dA es n
  no : ∀ z : Str, rls z = none → PySem.W.nsIn K dA z = some none
  yes : ∀ (z : Str) (rs : List Str), rls z = some rs → ∃ t : Addr, PySem.W.nsIn K dA z = some (some (.ref t)) ∧ ∀ G : Hp, SqT K G t (rs.map V.str)
section
variable {P : Program} {w : World} {K : PySem.W.Frag} {mg : Str → Option Value} {base : Heap}
theorem scHasTerm : FnScope ["thing", "word"] ["thing"] (defScope tHasTerm) := ⟨rfl, rfl, rfl, by decide +kernel, rfl, by decide +kernel, by decide +kernel⟩
theorem names34 {w : Str} {rs : List Str} {xs : List Dt} (hr : rls w = some rs) (ht : two w = true) (hl : xs.length = rs.length) (al : ((rs.zip xs).all fun p => fitD p.1 p.2) = true) : ∃ a b c d e, xs = [a, b, .str c, .str d, e] := by
  have hrs : ∃ r1 r2 r5 : Str, rs = [r1, r2, "name", "name", r5] := by
    unfold two at ht
    rcases Bool.or_eq_true_iff.mp ht with h | h
    · rw [of_decide_eq_true h] at hr
      have h2 : rls "fold" = some (["term", "term", "name", "name", "term"] : List Str) := by decide +kernel
      rw [h2] at hr
      exact ⟨_, _, _, (Option.some.inj hr).symm⟩
    · rw [of_decide_eq_true h] at hr
      have h2 : rls "built" = some (["data", "name", "name", "name", "term"] : List Str) := by decide +kernel
      rw [h2] at hr
      exact ⟨_, _, _, (Option.some.inj hr).symm⟩
  obtain ⟨r1, r2, r5, rfl⟩ := hrs
  match xs, hl, al with
  | [a, b, c, d, e], _, al =>
    simp only [List.zip_cons_cons, List.all_cons, Bool.and_eq_true] at al
    obtain ⟨_, _, h3, h4, _⟩ := al
    have f : ∀ x, fitD "name" x = nmD x := fun x => if_pos rfl
    rw [f] at h3 h4
    cases c with
    | str c =>
      cases d with
      | str d => exact ⟨a, b, c, d, e, rfl⟩
      | _ => cases h4
    | _ => cases h3
theorem okHasTerm {f c p fT dA : Addr} {fd fdT : FuncData} {k : Nat} {T : List Addr} {es : Array DictEntry} {n : Nat} (F : FunC K "has_term_form" "has_term_form" tHasTerm f fd c) (TB : TabB base mg c p) (hp : p ∈ T)
    (GT : FnOk P w K mg base CX0 k fT fdT ["role", "part"] (spFits T)) (bT : Binds K fdT ["role", "part"] []) (gT : mg "fits" = some (.ref fT)) (kT : PySem.W.keepIn K (.ref fT) = true)
    (gD : mg "TERM_FORMS" = some (.ref dA)) (hD : TForms K w dA es n)
    (ma : mg "all" = none) (mz : mg "zip" = none) (mi : mg "isinstance" = none) (mt : mg "tuple" = none) (ms : mg "str" = none) (ml : mg "len" = none) : FnOk P w K mg base CX0 (k + 4) f fd ["thing"] (spYes T tfrm) := by
  refine F.ok scHasTerm (fun vs H Q E h => ?_) (fun A outer s H vs Q E hr h => ?_)
  · obtain ⟨v, x, rfl, _⟩ := h
    rfl
  obtain ⟨v, x, rfl, hd, hw, tb, q⟩ := h
  refine ⟨_, pss_cons (ps_if (PW.pt (pw_or (pt_not (pt_val (pe_callB (isiK K rfl) (by rfl) mi PyProof.Rows.boot_isinstance (pa_cons (pv 0) (pa_cons (pe_bltn (v := .ty "tuple") (by rfl) mt PyProof.Rows.boot_tuple rfl) pa_nil)))))
      (pw_or (pt_not (pt_truth (pv 0) (by intro _; rfl)))
      (pw_or1 (pt_not (pt_val (pe_callB (isiK K rfl) (by rfl) mi PyProof.Rows.boot_isinstance (pa_cons (pe_ix ix_tup (pv 0) pe_int (fun _ _ => rfl)) (pa_cons (pe_bltn (v := .ty "str") (by rfl) ms PyProof.Rows.boot_str rfl) pa_nil)))))))))
      (pss_one (ps_ret pe_bl)) pss_nil)
    (pss_cons (ps_set (i := 1) scHasTerm.nd rfl (.inl rfl) (pe_ix ix_tup (pv 0) pe_int (fun _ _ => rfl)))
    (pss_cons (ps_if (PW.pt (pw_or (pt_cmpR (op_notIn_kd hD.dict) (pv 1) (pe_glob (v := .ref dA) (by rfl) gD rfl) rfl)
      (pw_or1 (pt_cmpR op_ne (pe_callB call_len_seq (by rfl) ml PySem.boot_len (pa_cons (pv 0) pa_nil)) (pe_op op_add (pe_callB call_len_seq (by rfl) ml PySem.boot_len (pa_cons (pe_ix ix_kdict (pe_glob (v := .ref dA) (by rfl) gD rfl) (pv 1) (fun _ _ => rfl)) pa_nil)) pe_int) (nomark _)))))
      (pss_one (ps_ret pe_bl)) pss_nil)
    (pss_cons (ps_if (pt_not (pt_val (pe_allG (c := c) (P := p) (own := ["role", "part"]) (caps := []) (vs := [0, 1]) (g := gTup K 2 (gCons (gName 0) (gCons (gName 1) gNil))) hr (by rfl) ma TB rfl
        (gxS_by (N := ["thing", "word"]) (sc := defScope tHasTerm) (by decide +kernel)) (pi_zipA (by rfl) mz (pa_cons (pe_ix ix_kdict (pe_glob (v := .ref dA) (by rfl) gD rfl) (pv 1) (fun _ _ => rfl)) (pa_cons (pe_slice sl_tup (pv 0) (po_some pe_int) po_none) pa_nil)))
        (fun _ _ _ _ _ => pg_tup rfl (pgs_cons (pg_name (i := 0) (show (["role", "part"] : List Str).Nodup by decide +kernel) rfl (.inl rfl)) (pgs_cons (pg_name (i := 1) (show (["role", "part"] : List Str).Nodup by decide +kernel) rfl (.inl rfl)) pgs_nil)))
        (fun _ _ _ _ _ => pe_call GT (Room.deeper hr.in1.in1 _) (by rfl) gT kT bT .nil pass0 (pa_cons (pv 0) (pa_cons (pv 1) pa_nil))))))
      (pss_one (ps_ret pe_bl)) pss_nil)
    (pss_one (ps_ret (pe_or (pe_cmpR (notInK K rfl) (pv 1) (pe_tup (pa_cons pe_str (pa_cons pe_str pa_nil))) rfl)
      (pe_one (pe_cmpR op_ne (pe_ix ix_tup (pv 0) pe_int (fun _ _ => rfl)) (pe_ix ix_tup (pv 0) pe_int (fun _ _ => rfl)) (nomark _))))))))), ?_⟩
  have no : tfrm x = false → Q (.bl false) H := fun e => by
    have z := q _ (Sm.refl tb)
    rw [e] at z
    exact z
  refine ⟨_, rfl, _, _, _, _, x.isTup, rfl, .ty "tuple", hd.ty, kTup K x, _, rfl, ite2 (fun e => iteT (no ?_)) (fun e => ?_)⟩
  · cases x <;> first | rfl | cases e
  obtain ⟨xs, rfl⟩ : ∃ xs, x = .tup xs := by
    cases x with
    | tup xs => exact ⟨xs, rfl⟩
    | _ => exact absurd rfl e
  obtain ⟨a, us, rfl, ha, hL⟩ := Dd.tupS hd
  refine ⟨_, rfl, _, .inr (.inl ⟨us, SqT.of ha, rfl⟩), ite2 (fun e => iteT (no ?_)) (fun e => ?_)⟩
  · rcases DdL.see hL with ⟨rfl, rfl⟩ | ⟨y, ys, w, ws, rfl, rfl, h, t⟩
    · rfl
    · cases e
  rcases DdL.see hL with ⟨rfl, rfl⟩ | ⟨y, ys, u0, ws, rfl, rfl, hy, hys⟩
  · exact absurd rfl e
  have hix : atI (u0 :: ws) 0 = some u0 := atI_nat (j := 0) rfl
  refine ⟨_, rfl, a, _, _, _, rfl, rfl, SqT.of ha, hix, _, _, _, _, y.isStr, rfl, .ty "str", hy.ty, kStr K y, _, rfl, ite2 (fun e => no ?_) (fun e => ?_)⟩
  · cases y <;> first | rfl | cases e
  obtain ⟨wd, rfl⟩ : ∃ z, y = .str z := by
    cases y with
    | str z => exact ⟨z, rfl⟩
    | _ => exact absurd rfl e
  cases hy
  have no : tfm wd ys = false → Q (.bl false) H := no
  refine ⟨_, rfl, a, _, _, _, rfl, rfl, SqT.of ha, hix, ?_⟩
  cases har : rls wd with
  | none =>
    refine ⟨_, rfl, wd, none, rfl, rfl, hD.no wd har, _, rfl, iteT (iteT (no ?_))⟩
    unfold tfm
    rw [har]
  | some rs =>
    obtain ⟨t, ht, hs⟩ := hD.yes wd rs har
    refine ⟨_, rfl, wd, _, rfl, rfl, ht, _, rfl, iteF ?_⟩
    have ly := hys.len
    have et : tfm wd ys = (decide (ys.length = rs.length) && ((rs.zip ys).all fun p => fitD p.1 p.2) && (!two wd || !same34 ys)) := by
      unfold tfm
      rw [har]
    refine ⟨_, rfl, a, _, rfl, .inr (SqT.of ha), _, rfl, dA, wd, .ref t, rfl, rfl, ⟨es, n, _, hD.dict.at_, hD.dict.lit, ht, rfl⟩, t, _, rfl, .inr (hs _), _, _, rfl, rfl, rfl, _, rfl, ite2 (fun e => no ?_) (fun e => ?_)⟩
    · have e2 : ¬ ys.length = rs.length := fun z => by
        have : (((V.str wd :: ws).length : Nat) : Int) = ((rs.map V.str).length : Int) + 1 := by
          rw [List.length_map, List.length_cons]
          omega
        rw [show decide (V.int ((V.str wd :: ws).length : Int) = _) = true from decide_eq_true (congrArg V.int this)] at e
        cases e
      rw [et, decide_eq_false e2, Bool.false_and, Bool.false_and]
    have e2 : ys.length = rs.length := by
      by_cases z : ys.length = rs.length
      · exact z
      · refine absurd ?_ e
        have : ¬ (((V.str wd :: ws).length : Nat) : Int) = ((rs.map V.str).length : Int) + 1 := by
          rw [List.length_map, List.length_cons]
          omega
        rw [show decide (V.int ((V.str wd :: ws).length : Int) = _) = false from decide_eq_false (fun h => this (V.int.inj h))]
        rfl
    rw [decide_eq_true e2, Bool.true_and] at et
    have hws : Dt.wts ys + 4 ≤ sizeLine := by
      have : Dt.wts ys + 4 ≤ (Dt.tup (.str wd :: ys)).wt + 2 := by
        simp only [Dt.wt, Dt.wts]
        omega
      omega
    refine ⟨_, rfl, dA, wd, .ref t, rfl, rfl, ⟨es, n, _, hD.dict.at_, hD.dict.lit, ht, rfl⟩, _, rfl, 1, rfl, a, _, rfl, SqT.of ha, notWhole _ _, fun b nb => ?_⟩
    rw [cutFrom1]
    have s1 := newS (o := .tup ws) nb
    have tb1 := tb.same s1
    refine ⟨t, b, _, _, rfl, .inr ⟨hs _, SqT.of upd_same, tb1 p hp, fun H2 htab => ?_⟩⟩
    have s2 : Sm T H H2 := (Sm.of s1 tb).trans (Sm.tab hp tb1 htab)
    have gb2 : H2 b = some (.tup ws) := (Sm.tab hp tb1 htab).at tb1 upd_same fun _ z => by cases z
    have hy2 := hys.kn (s2.kn tb)
    refine all_zipT (xs := rs.map V.str) (ys := ws) (fun i F => Sm T H2 F ∧ ((rs.zip ys).take i).all (fun p => fitD p.1 p.2) = true) ⟨Sm.refl s2.2, rfl⟩
      (fun i F z => ⟨hs _, SqT.of (z.1.at s2.2 gb2 fun _ z => by cases z)⟩) (fun i x u To F hx hu z nT => ?_) (fun F z => ?_)
    · obtain ⟨sF, al⟩ := z
      rw [List.getElem?_map] at hx
      cases h1 : rs[i]? with
      | none => rw [h1] at hx; cases hx
      | some r =>
        rw [h1] at hx
        obtain rfl := Option.some.inj hx
        obtain ⟨d, hd', rd⟩ := hy2.get hu
        have hz : (rs.zip ys)[i]? = some (r, d) := by
          rw [List.getElem?_zip_eq_some]
          exact ⟨h1, hd'⟩
        have sT := newS (o := .tup [V.str r, u]) nT
        have sFT := sF.trans (Sm.of sT sF.2)
        have hwd := wts_mem (List.mem_of_getElem? hd')
        refine ⟨To, _, rfl, SqT.of upd_same, rfl, _, _, rfl, _, _, rfl, rfl, rfl, _, rfl, _, rfl, r, u, d, rfl, (rd.kn (sFT.kn s2.2)), by omega, sFT.2, fun F2 s3 => ⟨_, rfl, ?_⟩⟩
        refine ite2 (fun e => ⟨sFT.trans s3, take_allL hz al e⟩) (fun e => ⟨_, rfl, ?_⟩)
        have z := q _ ((s2.trans sFT).trans s3)
        have e3 : tfrm (.tup (.str wd :: ys)) = false := by
          show tfm wd ys = false
          rw [et, not_allL (f := fun p : Str × Dt => fitD p.1 p.2) hz (by simpa using e), Bool.false_and]
        rw [e3] at z
        exact z
    · obtain ⟨sF, al⟩ := z
      have lz : (rs.zip ys).length = min (rs.map V.str).length ws.length := by
        rw [List.length_zip, List.length_map, ly]
      rw [← lz, List.take_length] at al
      rw [al, Bool.true_and] at et
      refine ⟨_, rfl, ?_⟩
      have s5 := s2.trans sF
      refine ⟨_, rfl, (by show 2 ≤ sizeLine; decide), fun p4 np4 => ?_⟩
      have s4 := newS (o := .tup [V.str "fold", V.str "built"]) np4
      have s6 := s5.trans (Sm.of s4 s5.2)
      refine ⟨p4, _, rfl, .inr (SqT.of upd_same), rfl, rfl, _, rfl, ?_⟩
      show if (!inV (V.str wd) [V.str "fold", V.str "built"]) = true then _ else _
      rw [inFB]
      refine ite2 (fun e => ?_) (fun e => ?_)
      · have z := q _ s6
        have e3 : tfrm (.tup (.str wd :: ys)) = true := by
          show tfm wd ys = true
          rw [et, e, Bool.true_or]
        rw [e3] at z
        exact z
      · have e1 : two wd = true := by simpa using e
        obtain ⟨d1, d2, n3, n4, d5, rfl⟩ := names34 har e1 e2 al
        have ha6 := s6.at tb ha (fun _ z => by cases z)
        obtain ⟨v1, v2, v5, rfl⟩ : ∃ v1 v2 v5, ws = [v1, v2, .str n3, .str n4, v5] := by
          rcases DdL.see hys with ⟨z1, _⟩ | ⟨_, _, v1, _, z1, rfl, _, hys⟩ <;> cases z1
          rcases DdL.see hys with ⟨z1, _⟩ | ⟨_, _, v2, _, z1, rfl, _, hys⟩ <;> cases z1
          rcases DdL.see hys with ⟨z1, _⟩ | ⟨_, _, v3, _, z1, rfl, h3, hys⟩ <;> cases z1
          rcases DdL.see hys with ⟨z1, _⟩ | ⟨_, _, v4, _, z1, rfl, h4, hys⟩ <;> cases z1
          rcases DdL.see hys with ⟨z1, _⟩ | ⟨_, _, v5, _, z1, rfl, _, hys⟩ <;> cases z1
          rcases DdL.see hys with ⟨_, rfl⟩ | ⟨_, _, v5, _, z1, rfl, _, hys⟩
          · cases h3
            cases h4
            exact ⟨_, _, _, rfl⟩
          · cases z1
        refine ⟨_, rfl, a, _, _, _, rfl, rfl, SqT.of ha6, atI_nat (j := 3) rfl, _, rfl, a, _, _, _, rfl, rfl, SqT.of ha6, atI_nat (j := 4) rfl, rfl, ?_⟩
        have z := q _ s6
        have e3 : tfrm (.tup (.str wd :: [d1, d2, .str n3, .str n4, d5])) = !decide (V.str n3 = V.str n4) := by
          show tfm wd _ = _
          rw [et, e1]
          have e4 : same34 [d1, d2, .str n3, .str n4, d5] = decide (n3 = n4) := rfl
          rw [e4, Bool.not_true, Bool.false_or]
          by_cases c : n3 = n4
          · rw [decide_eq_true c, decide_eq_true (congrArg V.str c)]
          · rw [decide_eq_false c, decide_eq_false (fun h => c (V.str.inj h))]
        rw [e3] at z
        exact z
end
end Kq

namespace Kq
open PySem PySem.Spec PyProof.Rows L2 Kf Kg Kv GxR RZ
theorem look_mem {α : Type} {z : Str} {v : α} : ∀ {l : List (Str × α)}, l.lookup z = some v → (z, v) ∈ l
  | (a, b) :: l, h => by
    rw [List.lookup_cons] at h
    cases c : (z == a) with
    | true =>
      rw [c] at h
      have e := beq_iff_eq.mp c
      subst e
      cases h
      exact List.mem_cons_self
    | false =>
      rw [c] at h
      exact List.mem_cons_of_mem _ (look_mem h)
theorem tblT_few : ∀ p ∈ tblT, p.2.length ≤ 5 := by decide +kernel
theorem rls_few {w : Str} {rs : List Str} (h : rls w = some rs) : rs.length ≤ 5 := tblT_few _ (look_mem h)
section
variable {P : Program} {w : World} {K : PySem.W.Frag} {mg : Str → Option Value} {base : Heap}
/-! a list over two tuples at once -/
theorem lc_zipT {K : PySem.W.Frag} {a b : Addr} {xs ys : List V} {g : TG} {tt : TT} {te : TE} {vs : List Nat} {σ : L2.St} {H1 : Hp} {D : Addr} {Qd : Hp → Prop} (Pv : Nat → Hp → Prop) (h0 : Pv 0 (upd H1 D (.lst []))) (hl : ∀ i H, Pv i H → SqT K H a xs ∧ SqT K H b ys)
    (hs : ∀ i x y T H, xs[i]? = some x → ys[i]? = some y → Pv i H → H T = none → g (.ref T) (wipe σ vs) (upd H T (.tup [x, y])) fun σ2 H2 => wipe σ2 vs = wipe σ vs ∧ tt σ2 H2 fun b H3 =>
      if b = true then te σ2 H3 fun y H4 => ∃ acc, H4 D = some (.lst acc) ∧ acc.length < sizeLine ∧ Pv (i + 1) (upd H4 D (.lst (acc ++ [y]))) else Pv (i + 1) H3) (hd : ∀ H, Pv (min xs.length ys.length) H → Qd H) :
    ∃ W : Nat → Nat → Hp → Prop, (∃ m, W 0 m (upd H1 D (.lst []))) ∧ ∀ i m H, W i m H →
      ((ItzT K a b).stop i H ∧ Qd H) ∨ ((ItzT K a b).go i H ∧ ∃ Nx : Hp → Prop, (∀ H', Nx H' → ∃ m', m' < m ∧ W (i + 1) m' H') ∧ ∀ x H', (ItzT K a b).yld i H x H' → g x (wipe σ vs) H' fun σ2 H2 => wipe σ2 vs = wipe σ vs ∧ tt σ2 H2 fun b H3 =>
        if b = true then te σ2 H3 fun y H4 => ∃ acc, H4 D = some (.lst acc) ∧ acc.length < sizeLine ∧ Nx (upd H4 D (.lst (acc ++ [y]))) else Nx H3) := by
  refine ⟨fun i m H => m = min xs.length ys.length - i ∧ i ≤ min xs.length ys.length ∧ Pv i H, ⟨_, rfl, Nat.zero_le _, h0⟩, ?_⟩
  rintro i m F ⟨rfl, hi, p⟩
  obtain ⟨q1, q2⟩ := hl i F p
  by_cases lt : i < min xs.length ys.length
  · have l1 : i < xs.length := by omega
    have l2 : i < ys.length := by omega
    refine .inr ⟨⟨xs, ys, xs[i], ys[i], q1, q2, List.getElem?_eq_getElem l1, List.getElem?_eq_getElem l2⟩, Pv (i + 1), fun F' p' => ⟨min xs.length ys.length - (i + 1), by omega, rfl, lt, p'⟩, fun x F' y => ?_⟩
    obtain ⟨T, x1, y1, rfl, hT, rfl, e1, e2⟩ := y
    exact hs i x1 y1 T F (e1 xs q1) (e2 ys q2) p hT
  · have e : i = min xs.length ys.length := by omega
    subst e
    exact .inl ⟨⟨xs, ys, q1, q2, by omega⟩, hd F p⟩
abbrev nTermsIn : List Str := ["term", "role", "part"]
theorem scTermsIn : FnScope nTermsIn ["term"] (defScope tTermsIn) := ⟨rfl, rfl, rfl, by decide +kernel, rfl, by decide +kernel, by decide +kernel⟩
def spTermsIn (N : Addr → Prop) : Sp := fun vs H Q _ => ∃ (v : V) (x : Dt), vs = [v] ∧ Dd N H x v ∧ tfrm x = true ∧ (∀ b, H b = none → ¬ N b) ∧ ∀ (p : Addr) (us : List V) (G : Hp), Same H G → H p = none → G p = some (.lst us) → DdL N G (tprt x) us → Q (.ref p) G
theorem okTermsIn {f dA : Addr} {fd : FuncData} {k : Nat} {N : Addr → Prop} {es : Array DictEntry} {n : Nat} (F : Fun K "terms_in" "terms_in" tTermsIn f fd) (gD : mg "TERM_FORMS" = some (.ref dA)) (hD : TForms K w dA es n) (mz : mg "zip" = none) : FnOk P w K mg base CX0 (k + 1) f fd ["term"] (spTermsIn N) := by
  refine F.ok scTermsIn (fun vs H Q E h => ?_) (fun cdv A outer s H vs Q E hr h => ?_)
  · obtain ⟨v, t, rfl, _⟩ := h
    rfl
  obtain ⟨v, x, rfl, hd, hf, hN, q⟩ := h
  obtain ⟨wd, xs, rfl⟩ : ∃ wd xs, x = .tup (.str wd :: xs) := by
    unfold tfrm at hf
    split at hf
    · exact ⟨_, _, rfl⟩
    · cases hf
  obtain ⟨a, us, rfl, ha, hL⟩ := Dd.tupS hd
  obtain ⟨us, rfl, hL2⟩ : ∃ ys, us = .str wd :: ys ∧ DdL N H xs ys := by
    cases hL with
    | cons h t =>
      cases h
      exact ⟨_, rfl, t⟩
  have hf : tfm wd xs = true := hf
  obtain ⟨rs, har, hlen⟩ : ∃ rs, rls wd = some rs ∧ xs.length = rs.length := by
    unfold tfm at hf
    cases h : rls wd with
    | none => rw [h] at hf; cases hf
    | some rs =>
      rw [h] at hf
      exact ⟨rs, rfl, of_decide_eq_true (Bool.and_eq_true_iff.mp (Bool.and_eq_true_iff.mp hf).1).1⟩
  obtain ⟨t, ht, hs⟩ := hD.yes wd rs har
  have few := rls_few har
  refine ⟨_, pss_one (ps_ret (pe_lc (own := [("role", 1), ("part", 2)]) (g := gTup K 2 (gCons (gName 1) (gCons (gName 2) gNil))) (by rfl) scTermsIn.nd (pi_zipA (by rfl) mz (pa_cons (pe_ix ix_kdict (pe_glob (v := .ref dA) (by rfl) gD rfl) (pe_ix ix_tup (pv 0) pe_int (fun _ _ => rfl)) (fun _ _ => rfl)) (pa_cons (pe_slice sl_tup (pv 0) (po_some pe_int) po_none) pa_nil)))
      (blkOk_by (own := [("role", 1), ("part", 2)]) (N := nTermsIn) (sc := defScope tTermsIn) (by decide +kernel))
      (fun _ _ _ _ _ => pg_tup rfl (pgs_cons (pg_name (i := 1) scTermsIn.nd rfl (.inl rfl)) (pgs_cons (pg_name (i := 2) scTermsIn.nd rfl (.inl rfl)) pgs_nil))) (fun _ _ _ _ _ => pts_one (pt_cmpR op_eq (pv 1) pe_str (nomark _))) (fun _ _ _ _ _ => pv 2))), ?_⟩
  refine ⟨_, rfl, a, _, _, _, rfl, rfl, SqT.of ha, atI_nat (j := 0) rfl, dA, wd, .ref t, rfl, rfl, ⟨es, n, _, hD.dict.at_, hD.dict.lit, ht, rfl⟩, _, rfl, 1, rfl, a, _, rfl, SqT.of ha, notWhole _ _, fun b nb => ?_⟩
  rw [cutFrom1]
  have s1 := newS (o := .tup us) nb
  refine ⟨t, b, _, _, rfl, .inr ⟨hs _, SqT.of upd_same, fun D nD => ?_⟩⟩
  have gb : (upd H b (.tup us)) b = some (.tup us) := upd_same
  have hLb := hL2.same s1
  generalize upd H b (.tup us) = H1 at nD s1 gb hLb
  have bD : b ≠ D := ne_of_none gb nD
  have ly := hL2.len
  refine lc_zipT (xs := rs.map V.str) (ys := us) (fun i G => Same H1 G ∧ ∃ ws, ws.length ≤ i ∧ G D = some (.lst ws) ∧ DdL N G ((((rs.zip xs).take i).filter fun (p : Str × Dt) => decide (p.1 = ("term" : Str))).map (·.2)) ws) ⟨newS nD, [], Nat.le_refl _, upd_same, .nil⟩ (fun i G z => ⟨hs _, SqT.of (z.1 _ _ gb)⟩) (fun i x u To G hx hu z nT => ?_) (fun G z => ?_)
  · obtain ⟨sG, ws, lw, gD', rL⟩ := z
    rw [List.getElem?_map] at hx
    cases h1 : rs[i]? with
    | none => rw [h1] at hx; cases hx
    | some r =>
      rw [h1] at hx
      obtain rfl := Option.some.inj hx
      obtain ⟨d, hd', rd⟩ := hLb.get hu
      have hz : (rs.zip xs)[i]? = some (r, d) := by
        rw [List.getElem?_zip_eq_some]
        exact ⟨h1, hd'⟩
      have li := (List.getElem?_eq_some_iff.mp h1).1
      have sT := newS (o := .tup [V.str r, u]) nT
      have tk : (rs.zip xs).take (i + 1) = (rs.zip xs).take i ++ [(r, d)] := by rw [List.take_add_one, hz]; rfl
      refine ⟨To, _, rfl, SqT.of upd_same, rfl, _, _, rfl, _, _, rfl, rfl, rfl, _, rfl, rfl, _, rfl, ite2 (fun e => ?_) (fun e => ?_)⟩
      · have er : r = "term" := V.str.inj (of_decide_eq_true e)
        have kn2 : Same H1 (upd (upd G To (.tup [V.str r, u])) D (.lst (ws ++ [u]))) := fun c o z => by
          rw [upd_ne (ne_of_none z nD)]
          exact sT _ _ (sG _ _ z)
        refine ⟨_, rfl, ws, sT _ _ gD', small1000 (by omega), kn2, ws ++ [u], by rw [List.length_append]; exact Nat.succ_le_succ lw, upd_same, ?_⟩
        rw [tk, List.filter_append, List.map_append]
        have hall : DdL N (upd (upd G To (.tup [V.str r, u])) D (.lst (ws ++ [u]))) ((((rs.zip xs).take i).filter fun (p : Str × Dt) => decide (p.1 = ("term" : Str))).map (·.2)) ws := by
          exact (rL.same sT).kn (Kn.rfl.put (hN D (s1.free nD)) (fun _ z => by rw [sT _ _ gD'] at z; cases z))
        refine hall.app ?_
        rw [List.filter_cons, if_pos (by exact decide_eq_true er)]
        exact .cons (rd.same kn2) .nil
      · have er : ¬ r = "term" := fun z => e (decide_eq_true (by rw [z]))
        refine ⟨sG.trans sT, ws, by omega, sT _ _ gD', ?_⟩
        rw [tk, List.filter_append, List.map_append, List.filter_cons, if_neg (by simpa using er)]
        show DdL N _ (_ ++ []) ws
        rw [List.append_nil]
        exact rL.same sT
  · obtain ⟨sG, ws, lw, gD', rL⟩ := z
    have lz : (rs.zip xs).length = min (rs.map V.str).length us.length := by
      rw [List.length_zip, List.length_map, ly]
    rw [← lz, List.take_length] at rL
    have ep : tprt (.tup (.str wd :: xs)) = ((rs.zip xs).filter fun (p : Str × Dt) => decide (p.1 = ("term" : Str))).map (·.2) := by
      show tpt wd xs = _
      unfold tpt
      rw [har]
    refine q D ws _ (s1.trans sG) (s1.free nD) gD' ?_
    rw [ep]
    exact rL
/-! is_term -/
theorem scIsTerm : FnScope ["thing", "waiting", "part"] ["thing"] (defScope tIsTerm) := ⟨rfl, rfl, rfl, by decide +kernel, rfl, by decide +kernel, by decide +kernel⟩
theorem okIsTerm {f fF fW : Addr} {fd fdF fdW : FuncData} {k : Nat} {T : List Addr} (F : Fun K "is_term" "is_term" tIsTerm f fd)
    (GF : FnOk P w K mg base CX0 k fF fdF ["thing"] (spYes T tfrm)) (bF : Binds K fdF ["thing"] []) (gF : mg "has_term_form" = some (.ref fF)) (kF : PySem.W.keepIn K (.ref fF) = true)
    (GW : ∀ N : Addr → Prop, FnOk P w K mg base CX0 k fW fdW ["term"] (spTermsIn N)) (bW : Binds K fdW ["term"] []) (gW : mg "terms_in" = some (.ref fW)) (kW : PySem.W.keepIn K (.ref fW) = true) : FnOk P w K mg base CX0 (k + 1) f fd ["thing"] (spYes T trm) := by
  refine F.ok scIsTerm (fun vs H Q E h => ?_) (fun cdv A outer s H vs Q E hr h => ?_)
  · obtain ⟨v, x, rfl, _⟩ := h
    rfl
  obtain ⟨v, x, rfl, hd, hw, tb, q⟩ := h
  refine ⟨_, pss_cons (ps_set (i := 1) scIsTerm.nd rfl (.inl rfl) (pe_lst (pa_cons (pv 0) pa_nil)))
    (pss_cons (ps_while PassesOwn.never (pt_truth (pv 1) (by intro _; rfl))
      (pss_cons (ps_set (i := 2) scIsTerm.nd rfl (.inl rfl) (pe_bm0 PySem.F.plainAttrs_list PySem.F.slot_list_pop PySem.F.type_list_pop mt_pop (pv 1)))
      (pss_cons (ps_if (pt_not (pt_val (pe_call GF hr (by rfl) gF kF bF .nil pass0 (pa_cons (pv 2) pa_nil)))) (pss_one (ps_ret pe_bl)) pss_nil)
      (pss_one (ps_expr (pe_bm PySem.F.plainAttrs_list PySem.F.slot_list_extend PySem.F.type_list_extend mt_extend (pv 1) (pa_cons (pe_call (GW (Pl H)) hr (by rfl) gW kW bW .nil pass0 (pa_cons (pv 2) pa_nil)) pa_nil)))))))
    (pss_one (ps_ret pe_bl))), ?_⟩
  refine ⟨_, rfl, (by show 1 ≤ sizeLine; decide), fun wa nwa => ?_⟩
  have nW : ¬ Pl H wa := fun ⟨u, e⟩ => by
    rw [nwa] at e
    cases e
  let Iv : Nat → L2.St → Hp → Prop := fun m σ G => ∃ ws vs y, m = Dt.szs ws ∧ σ = [some v, some (.ref wa), y] ∧ Sm T H G ∧ G wa = some (.lst vs) ∧ DdL (Pl H) G ws vs ∧ Dt.wts ws ≤ x.wt + 2 ∧ trm x = ws.all trm
  have I0 : Iv (Dt.szs [x]) [some v, some (.ref wa), none] (upd H wa (.lst [v])) := ⟨[x], [v], none, rfl, rfl, (Sm.refl tb).new nwa tb, upd_same, .cons (hd.pl.same (newS nwa)) .nil, by rw [wts1]; omega, by simp⟩
  refine ⟨Iv, ⟨_, I0⟩, fun m σ G z => ?_⟩
  obtain ⟨ws, vs, y, rfl, rfl, sG, gw, rL, hwt, hdat⟩ := z
  refine ⟨_, rfl, _, .inl ⟨vs, SqL.of gw, rfl⟩, ?_⟩
  refine ite2 (fun e => ?_) (fun e => ?_)
  · have nn : vs ≠ [] := fun z => by
      rw [z] at e
      cases e
    obtain ⟨xs, u, zs, p, rfl, rfl, rx, ru⟩ := rL.last nn
    refine ⟨fun σ' G' => ∃ m', m' < _ ∧ Iv m' σ' G', fun σ' G' z => z, ?_⟩
    refine ⟨_, rfl, .inl ⟨rfl, _, SqL.of gw⟩, wa, _, p, rfl, rfl, gw, ?_, ?_⟩
    · rw [List.length_append, List.length_singleton, Nat.add_sub_cancel, List.getElem?_concat_length]
    rw [List.dropLast_concat]
    have ntG : ∀ xs, G wa ≠ some (.tup xs) := fun _ z => by rw [gw] at z; cases z
    have k1 : Kn (Pl H) G (upd G wa (.lst zs)) := Kn.rfl.put nW ntG
    have s1 : Sm T H (upd G wa (.lst zs)) := sG.new nwa tb
    rw [wts_app, wts1] at hwt
    refine ⟨_, rfl, p, u, rfl, (ru.kn k1).any, by omega, s1.2, fun G2 s2 => ⟨_, rfl, ite2 (fun e => ?_) (fun e => ?_)⟩⟩
    · have z := q _ (s1.trans s2)
      have ed : trm x = false := by
        rw [hdat, List.all_append, List.all_cons, trm_eq u, show tfrm u = false by simpa using e]
        simp
      rw [ed] at z
      exact z
    have hf : tfrm u = true := by simpa using e
    have k2 : Kn (Pl H) (upd G wa (.lst zs)) G2 := s2.kn s1.2
    have gw2 : G2 wa = some (.lst zs) := s2.at s1.2 upd_same (fun ps z => by cases z)
    refine ⟨_, rfl, .inl ⟨rfl, _, SqL.of gw2⟩, _, rfl, p, u, rfl, (ru.kn k1).kn k2, hf, fun b hb ⟨o, e⟩ => ?_, fun pa us G3 s3 npa gp rp => ?_⟩
    · have := (s1.trans s2).free hb
      rw [this] at e
      cases e
    have gw3 := s3 _ _ gw2
    have lx := rx.len
    have lp := rp.len
    have l1 := len_szs xs
    have l2 := Dt.szs_wts xs
    have l3 := len_szs (tprt u)
    have l4 := Dt.szs_wts (tprt u)
    have l5 := tprt_wt u
    have l6 := tprt_sz u
    refine ⟨wa, pa, zs, us, rfl, rfl, gw3, gp, by omega, ?_⟩
    have nt3 : ∀ xs, G3 wa ≠ some (.tup xs) := fun _ z => by rw [gw3] at z; cases z
    have k3 : Kn (Pl H) G2 G3 := .of s3
    have k4 : Kn (Pl H) G3 (upd G3 wa (.lst (zs ++ us))) := Kn.rfl.put nW nt3
    have s4 : Sm T H (upd G3 wa (.lst (zs ++ us))) := ((s1.trans s2).trans (Sm.of s3 s2.2)).new nwa tb
    refine ⟨Dt.szs (xs ++ tprt u), ?_, xs ++ tprt u, zs ++ us, _, rfl, rfl, s4, upd_same, ?_, ?_, ?_⟩
    · rw [szs_app, szs_app, szs1]
      omega
    · exact ((((rx.kn k1).kn k2).kn k3).kn k4).app (rp.kn k4)
    · rw [wts_app]
      omega
    · rw [hdat, List.all_append, List.all_append, List.all_cons, trm_eq u, hf]
      simp
  · have ev : vs = [] := by
      cases vs with
      | nil => rfl
      | cons a b => exact absurd rfl e
    subst ev
    cases rL
    have z := q _ sG
    rw [hdat] at z
    exact z
end
end Kq

namespace Kq
open PySem PySem.Spec PyProof.Rows L2
/-! kinds as trees -/
inductive Kd where
  | opn (x : Str)
  | num
  | tru
  | pair (a b : Kd)
  | eith (a b : Kd)
  | lst (a : Kd)
  | fn (a b : Kd)
  deriving DecidableEq
namespace Kd
def word : Kd → Str
  | opn _ => "open"
  | num => "num"
  | tru => "truth"
  | pair _ _ => "pair"
  | eith _ _ => "either"
  | lst _ => "list"
  | fn _ _ => "fun"
def kids : Kd → List Kd
  | pair a b => [a, b]
  | eith a b => [a, b]
  | lst a => [a]
  | fn a b => [a, b]
  | _ => []
def isFn : Kd → Bool
  | fn _ _ => true
  | _ => false
def isOp : Kd → Bool
  | opn _ => true
  | _ => false
def nodes : Kd → List Kd
  | opn x => [opn x]
  | num => [num]
  | tru => [tru]
  | pair a b => pair a b :: (nodes a ++ nodes b)
  | eith a b => eith a b :: (nodes a ++ nodes b)
  | lst a => lst a :: nodes a
  | fn a b => fn a b :: (nodes a ++ nodes b)
def size (t : Kd) : Nat := t.nodes.length
def dp : Kd → Nat
  | pair a b => max a.dp b.dp + 1
  | eith a b => max a.dp b.dp + 1
  | lst a => a.dp + 1
  | fn a b => max a.dp b.dp + 1
  | _ => 0
def opens : Kd → List Str
  | opn x => [x]
  | num => []
  | tru => []
  | pair a b => opens a ++ opens b
  | eith a b => opens a ++ opens b
  | lst a => opens a
  | fn a b => opens a ++ opens b
def args : Kd → List Kd
  | fn a b => a :: args b
  | _ => []
def res : Kd → Kd
  | fn _ b => res b
  | t => t
def ledTo (ts : List Kd) (t : Kd) : Kd := ts.foldr fn t
theorem nodes_eq (t : Kd) : t.nodes = t :: t.kids.flatMap nodes := by
  cases t <;> simp [nodes, kids]
theorem isFn_word (t : Kd) : decide (V.str t.word = V.str "fun") = t.isFn := by
  cases t <;> rfl
theorem isOp_word (t : Kd) : decide (V.str t.word = V.str "open") = t.isOp := by
  cases t <;> rfl
end Kd
/-- a tuple, or one of the written part -/
def Sq (K : PySem.W.Frag) (H : Hp) (a : Addr) (xs : List V) : Prop := H a = some (.tup xs) ∨ ∀ G : Hp, SqT K G a xs
theorem Sq.t {K : PySem.W.Frag} {H : Hp} {a : Addr} {xs : List V} (h : Sq K H a xs) : SqT K H a xs := by
  rcases h with h | h
  · exact SqT.of h
  · exact h H
theorem Sq.tk {K : PySem.W.Frag} {H G : Hp} {a : Addr} {xs : List V} (h : Sq K H a xs) (k : Tk H G) : Sq K G a xs := by
  rcases h with h | h
  · exact .inl (k _ _ h)
  · exact .inr h
/-- the tree stands at v -/
def Rp (K : PySem.W.Frag) (H : Hp) : Kd → V → Prop
  | .opn x, v => ∃ a, v = .ref a ∧ Sq K H a [.str "open", .str x]
  | .num, v => ∃ a, v = .ref a ∧ Sq K H a [.str "num"]
  | .tru, v => ∃ a, v = .ref a ∧ Sq K H a [.str "truth"]
  | .pair s t, v => ∃ a x y, v = .ref a ∧ Sq K H a [.str "pair", x, y] ∧ Rp K H s x ∧ Rp K H t y
  | .eith s t, v => ∃ a x y, v = .ref a ∧ Sq K H a [.str "either", x, y] ∧ Rp K H s x ∧ Rp K H t y
  | .lst s, v => ∃ a x, v = .ref a ∧ Sq K H a [.str "list", x] ∧ Rp K H s x
  | .fn s t, v => ∃ a x y, v = .ref a ∧ Sq K H a [.str "fun", x, y] ∧ Rp K H s x ∧ Rp K H t y
def RpL (K : PySem.W.Frag) (H : Hp) : List Kd → List V → Prop
  | [], [] => True
  | t :: ts, v :: vs => Rp K H t v ∧ RpL K H ts vs
  | _, _ => False
theorem Rp.tk {K : PySem.W.Frag} {H G : Hp} (k : Tk H G) : ∀ {t : Kd} {v : V}, Rp K H t v → Rp K G t v := by
  intro t
  induction t with
  | opn x => exact fun ⟨a, e, h⟩ => ⟨a, e, h.tk k⟩
  | num => exact fun ⟨a, e, h⟩ => ⟨a, e, h.tk k⟩
  | tru => exact fun ⟨a, e, h⟩ => ⟨a, e, h.tk k⟩
  | pair s t i j => exact fun ⟨a, x, y, e, h, p, q⟩ => ⟨a, x, y, e, h.tk k, i p, j q⟩
  | eith s t i j => exact fun ⟨a, x, y, e, h, p, q⟩ => ⟨a, x, y, e, h.tk k, i p, j q⟩
  | lst s i => exact fun ⟨a, x, e, h, p⟩ => ⟨a, x, e, h.tk k, i p⟩
  | fn s t i j => exact fun ⟨a, x, y, e, h, p, q⟩ => ⟨a, x, y, e, h.tk k, i p, j q⟩
theorem RpL.tk {K : PySem.W.Frag} {H G : Hp} (k : Tk H G) : ∀ {ts : List Kd} {vs : List V}, RpL K H ts vs → RpL K G ts vs
  | [], [], _ => trivial
  | _ :: _, _ :: _, h => ⟨h.1.tk k, RpL.tk k h.2⟩
  | [], _ :: _, h => h.elim
  | _ :: _, [], h => h.elim
theorem RpL.len {K : PySem.W.Frag} {H : Hp} : ∀ {ts : List Kd} {vs : List V}, RpL K H ts vs → ts.length = vs.length
  | [], [], _ => rfl
  | _ :: _, _ :: _, h => congrArg (· + 1) (RpL.len h.2)
  | [], _ :: _, h => h.elim
  | _ :: _, [], h => h.elim
theorem RpL.app {K : PySem.W.Frag} {H : Hp} : ∀ {ts us : List Kd} {vs ws : List V}, RpL K H ts vs → RpL K H us ws → RpL K H (ts ++ us) (vs ++ ws)
  | [], _, [], _, _, h => h
  | _ :: _, _, _ :: _, _, h, k => ⟨h.1, RpL.app h.2 k⟩
  | [], _, _ :: _, _, h, _ => h.elim
  | _ :: _, _, [], _, h, _ => h.elim
theorem RpL.get {K : PySem.W.Frag} {H : Hp} : ∀ {ts : List Kd} {vs : List V} {i : Nat} {v : V}, RpL K H ts vs → vs[i]? = some v → ∃ t, ts[i]? = some t ∧ Rp K H t v
  | [], [], i, v, _, e => by simp at e
  | t :: _, w :: _, 0, v, h, e => ⟨t, rfl, by rw [← show w = v from Option.some.inj e]; exact h.1⟩
  | _ :: ts, _ :: vs, i + 1, v, h, e => RpL.get (ts := ts) (vs := vs) (i := i) h.2 e
  | [], _ :: _, _, _, h, _ => h.elim
  | _ :: _, [], _, _, h, _ => h.elim
theorem RpL.last {K : PySem.W.Frag} {H : Hp} : ∀ {ts : List Kd} {vs : List V}, RpL K H ts vs → vs ≠ [] → ∃ us u ws w, ts = us ++ [u] ∧ vs = ws ++ [w] ∧ RpL K H us ws ∧ Rp K H u w
  | [t], [v], h, _ => ⟨[], t, [], v, rfl, rfl, trivial, h.1⟩
  | t :: t' :: ts, v :: v' :: vs, h, _ => by
    obtain ⟨us, u, ws, w, e1, e2, k, r⟩ := RpL.last (ts := t' :: ts) (vs := v' :: vs) h.2 (by simp)
    exact ⟨t :: us, u, v :: ws, w, by rw [e1]; rfl, by rw [e2]; rfl, ⟨h.1, k⟩, r⟩
  | [], [], _, n => absurd rfl n
  | [], _ :: _, h, _ => h.elim
  | _ :: _, [], h, _ => h.elim
  | [_], _ :: _ :: _, h, _ => h.2.elim
  | _ :: _ :: _, [_], h, _ => h.2.elim
/-- the tuple at v: the word, and the rest -/
theorem Rp.see {K : PySem.W.Frag} {H : Hp} {t : Kd} {v : V} (h : Rp K H t v) : ∃ a vs, v = .ref a ∧ Sq K H a (.str t.word :: vs) ∧ ((t.isOp = false ∧ RpL K H t.kids vs) ∨ ∃ x, t = .opn x ∧ vs = [.str x]) := by
  cases t with
  | opn x =>
    obtain ⟨a, e, g⟩ := h
    exact ⟨a, _, e, g, .inr ⟨x, rfl, rfl⟩⟩
  | num =>
    obtain ⟨a, e, g⟩ := h
    exact ⟨a, [], e, g, .inl ⟨rfl, trivial⟩⟩
  | tru =>
    obtain ⟨a, e, g⟩ := h
    exact ⟨a, [], e, g, .inl ⟨rfl, trivial⟩⟩
  | pair s t =>
    obtain ⟨a, x, y, e, g, p, q⟩ := h
    exact ⟨a, _, e, g, .inl ⟨rfl, p, q, trivial⟩⟩
  | eith s t =>
    obtain ⟨a, x, y, e, g, p, q⟩ := h
    exact ⟨a, _, e, g, .inl ⟨rfl, p, q, trivial⟩⟩
  | lst s =>
    obtain ⟨a, x, e, g, p⟩ := h
    exact ⟨a, _, e, g, .inl ⟨rfl, p, trivial⟩⟩
  | fn s t =>
    obtain ⟨a, x, y, e, g, p, q⟩ := h
    exact ⟨a, _, e, g, .inl ⟨rfl, p, q, trivial⟩⟩
abbrev tWithinT : Stmt := tp 28
abbrev tLeads : Stmt := tp 31
abbrev tParts : Stmt := tp 32
section
variable {P : Program} {w : World} {K : PySem.W.Frag} {mg : Str → Option Value} {base : Heap}
/-! leads -/
theorem scLeads : FnScope ["kind"] ["kind"] (defScope tLeads) := ⟨rfl, rfl, rfl, by decide +kernel, rfl, by decide +kernel, by decide +kernel⟩
def spLeads (K : PySem.W.Frag) : Sp := fun vs H Q _ => ∃ (v : V) (t : Kd), vs = [v] ∧ Rp K H t v ∧ Q (.bl t.isFn) H
theorem okLeads {f : Addr} {fd : FuncData} {k : Nat} (F : Fun K "leads" "leads" tLeads f fd) : FnOk P w K mg base CX0 (k + 1) f fd ["kind"] (spLeads K) := by
  refine F.ok scLeads (fun vs H Q E h => ?_) (fun cdv A outer s H vs Q E hr h => ?_)
  · obtain ⟨v, t, rfl, _⟩ := h
    rfl
  obtain ⟨v, t, rfl, r, q⟩ := h
  obtain ⟨a, us, rfl, ha, _⟩ := r.see
  refine ⟨_, pss_one (ps_ret (pe_cmpR op_eq (pe_ix ix_tup (pv 0) pe_int (fun _ _ => rfl)) pe_str (nomark _))), ?_⟩
  refine ⟨_, rfl, a, _, _, _, rfl, rfl, ha.t, atI_nat (j := 0) rfl, rfl, ?_⟩
  rw [Kd.isFn_word]
  exact q
/-! kinds_within -/
theorem scWithinT : FnScope ["kind"] ["kind"] (defScope tWithinT) := ⟨rfl, rfl, rfl, by decide +kernel, rfl, by decide +kernel, by decide +kernel⟩
def spWithinT (K : PySem.W.Frag) : Sp := fun vs H Q _ => ∃ (v : V) (t : Kd), vs = [v] ∧ Rp K H t v ∧ ∀ (p : Addr) (us : List V) (G : Hp), Same H G → G p = some (.tup us) → RpL K G t.kids us → Q (.ref p) G
theorem okWithinT {f : Addr} {fd : FuncData} {k : Nat} (F : Fun K "kinds_within" "kinds_within" tWithinT f fd) : FnOk P w K mg base CX0 (k + 1) f fd ["kind"] (spWithinT K) := by
  refine F.ok scWithinT (fun vs H Q E h => ?_) (fun cdv A outer s H vs Q E hr h => ?_)
  · obtain ⟨v, t, rfl, _⟩ := h
    rfl
  obtain ⟨v, t, rfl, r, q⟩ := h
  obtain ⟨a, us, rfl, ha, hu⟩ := r.see
  refine ⟨_, pss_cons (ps_if (pt_cmpR op_eq (pe_ix ix_tup (pv 0) pe_int (fun _ _ => rfl)) pe_str (nomark _)) (pss_one (ps_ret (pe_tup pa_nil))) pss_nil)
    (pss_one (ps_ret (pe_slice sl_tup (pv 0) (po_some pe_int) po_none))), ?_⟩
  refine ⟨_, rfl, a, _, _, _, rfl, rfl, ha.t, atI_nat (j := 0) rfl, rfl, _, rfl, ?_⟩
  rw [Kd.isOp_word]
  refine ite2 (fun e => ?_) (fun e => ?_)
  · refine ⟨Nat.zero_le _, fun p np => q p [] _ (newS np) upd_same ?_⟩
    cases t with
    | opn x => trivial
    | _ => cases e
  · refine ⟨_, rfl, 1, rfl, a, _, rfl, ha.t, notWhole _ _, fun p np => ?_⟩
    rw [cutFrom1]
    refine q p us _ (newS np) upd_same ?_
    rcases hu with hu | ⟨x, rfl, _⟩
    · exact hu.2.tk (Tk.of (newS np))
    · exact absurd rfl e
/-! parts_of -/
theorem scParts : FnScope ["kind", "parts", "waiting", "part"] ["kind"] (defScope tParts) := ⟨rfl, rfl, rfl, by decide +kernel, rfl, by decide +kernel, by decide +kernel⟩
def spParts (K : PySem.W.Frag) : Sp := fun vs H Q _ => ∃ (v : V) (t : Kd), vs = [v] ∧ Rp K H t v ∧ t.size ≤ 900 ∧ ∀ (p : Addr) (ts : List Kd) (us : List V) (G : Hp), Same H G → G p = some (.lst us) → RpL K G ts us → ts.Perm t.nodes → Q (.ref p) G
theorem okParts {f fW : Addr} {fd fdW : FuncData} {k : Nat} (F : Fun K "parts_of" "parts_of" tParts f fd) (FW : Fun K "kinds_within" "kinds_within" tWithinT fW fdW) (bW : Binds K fdW ["kind"] []) (gW : mg "kinds_within" = some (.ref fW)) : FnOk P w K mg base CX0 (k + 2) f fd ["kind"] (spParts K) := by
  have GW : FnOk P w K mg base CX0 (k + 1) fW fdW ["kind"] (spWithinT K) := okWithinT FW
  refine F.ok scParts (fun vs H Q E h => ?_) (fun cdv A outer s H vs Q E hr h => ?_)
  · obtain ⟨v, t, rfl, _⟩ := h
    rfl
  obtain ⟨v, t, rfl, r, hz, q⟩ := h
  refine ⟨_, pss_cons (ps_set (i := 1) scParts.nd rfl (.inl rfl) (pe_lst pa_nil))
    (pss_cons (ps_set (i := 2) scParts.nd rfl (.inl rfl) (pe_lst (pa_cons (pv 0) pa_nil)))
    (pss_cons (ps_while PassesOwn.never (pt_truth (pv 2) (by intro _; rfl))
      (pss_cons (ps_set (i := 3) scParts.nd rfl (.inl rfl) (pe_bm0 PySem.F.plainAttrs_list PySem.F.slot_list_pop PySem.F.type_list_pop mt_pop (pv 2)))
      (pss_cons (ps_expr (pe_bm PySem.F.plainAttrs_list PySem.F.slot_list_append PySem.F.type_list_append mt_append (pv 1) (pa_cons (pv 3) pa_nil)))
      (pss_one (ps_expr (pe_bm PySem.F.plainAttrs_list PySem.F.slot_list_extend PySem.F.type_list_extend Kr.mt_extT (pv 2) (pa_cons (pe_call GW hr (by rfl) gW FW.kp bW .nil pass0 (pa_cons (pv 3) pa_nil)) pa_nil)))))))
    (pss_one (ps_ret (pv 1))))), ?_⟩
  refine ⟨Nat.zero_le _, fun pa npa => ?_⟩
  refine ⟨_, rfl, (by show 1 ≤ sizeLine; decide), fun wa nwa => ?_⟩
  have s2 : Same H (upd (upd H pa (.lst [])) wa (.lst [v])) := (newS npa).trans (newS nwa)
  have hpw : pa ≠ wa := fun z => by
    rw [z, upd_same] at nwa
    cases nwa
  have hwa : H wa = none := (newS npa).free nwa
  refine ⟨fun m σ G => ∃ ts ws us vs y, m = (ws.flatMap Kd.nodes).length ∧ σ = [some v, some (.ref pa), some (.ref wa), y] ∧ Same H G ∧ G pa = some (.lst us) ∧ G wa = some (.lst vs) ∧ RpL K G ts us ∧ RpL K G ws vs ∧ (ts ++ ws.flatMap Kd.nodes).Perm t.nodes,
    ⟨_, [], [t], [], [v], none, rfl, rfl, s2, ?_, upd_same, trivial, ⟨r.tk (Tk.of s2), trivial⟩, ?_⟩, fun m σ G z => ?_⟩
  · rw [upd_ne hpw, upd_same]
  · rw [List.flatMap_cons, List.flatMap_nil, List.append_nil, List.nil_append]
  obtain ⟨ts, ws, us, vs, y, rfl, rfl, sG, gp, gw, rt, rw', pm⟩ := z
  refine ⟨_, rfl, _, .inl ⟨vs, SqL.of gw, rfl⟩, ?_⟩
  have lens : ts.length + (ws.flatMap Kd.nodes).length = t.size := by
    have e := pm.length_eq
    rw [List.length_append] at e
    exact e
  refine ite2 (fun e => ?_) (fun e => ?_)
  · have nn : vs ≠ [] := fun z => by
      rw [z] at e
      cases e
    obtain ⟨xs, u, zs, x, rfl, rfl, rx, ru⟩ := rw'.last nn
    refine ⟨fun σ' G' => ∃ m', m' < _ ∧ (∃ ts ws us vs y, m' = (ws.flatMap Kd.nodes).length ∧ σ' = [some v, some (.ref pa), some (.ref wa), y] ∧ Same H G' ∧ G' pa = some (.lst us) ∧ G' wa = some (.lst vs) ∧ RpL K G' ts us ∧ RpL K G' ws vs ∧ (ts ++ ws.flatMap Kd.nodes).Perm t.nodes), fun σ' G' z => z, ?_⟩
    refine ⟨_, rfl, .inl ⟨rfl, _, SqL.of gw⟩, wa, _, x, rfl, rfl, gw, ?_, ?_⟩
    · rw [List.length_append, List.length_singleton, Nat.add_sub_cancel, List.getElem?_concat_length]
    rw [List.dropLast_concat]
    have t1 : Tk G (upd G wa (.lst zs)) := Tk.rfl.put (fun _ z => by rw [gw] at z; cases z)
    have gp1 : (upd G wa (.lst zs)) pa = some (.lst us) := by rw [upd_ne hpw]; exact gp
    refine ⟨_, rfl, .inl ⟨rfl, _, SqL.of gp1⟩, _, rfl, pa, _, _, rfl, rfl, gp1, ?_, ?_⟩
    · have := rt.len
      exact small1000 (by omega)
    have t2 : Tk G (upd (upd G wa (.lst zs)) pa (.lst (us ++ [x]))) := t1.put (fun _ z => by rw [gp] at z; cases z)
    have gw2 : (upd (upd G wa (.lst zs)) pa (.lst (us ++ [x]))) wa = some (.lst zs) := by rw [upd_ne hpw.symm, upd_same]
    have gp2 : (upd (upd G wa (.lst zs)) pa (.lst (us ++ [x]))) pa = some (.lst (us ++ [x])) := upd_same
    have s3 : Same H (upd (upd G wa (.lst zs)) pa (.lst (us ++ [x]))) := smk (smk sG hwa) npa
    generalize upd (upd G wa (.lst zs)) pa (.lst (us ++ [x])) = G2 at t2 gw2 gp2 s3
    refine ⟨_, rfl, .inl ⟨rfl, _, SqL.of gw2⟩, _, rfl, x, u, rfl, ru.tk t2, fun p ks G3 s4 gk rk => ?_⟩
    have lk : ks.length ≤ 2 := by
      rw [← rk.len]
      cases u <;> simp [Kd.kids]
    refine ⟨wa, p, _, _, rfl, rfl, s4 _ _ gw2, SqT.of gk, ?_, ?_⟩
    · have l1 := rx.len
      have l2 : xs.length ≤ ((xs ++ [u]).flatMap Kd.nodes).length := by
        clear lens pm gw nn e rw' l1 rx
        induction xs with
        | nil => exact Nat.zero_le _
        | cons a xs ih =>
          have : 1 ≤ a.nodes.length := by rw [Kd.nodes_eq]; exact Nat.succ_le_succ (Nat.zero_le _)
          simp only [List.cons_append, List.flatMap_cons, List.length_append, List.length_cons] at ih ⊢
          omega
      exact sz (by omega)
    have e4 := Kd.nodes_eq u
    have t4 : Tk G3 (upd G3 wa (.lst (zs ++ ks))) := Tk.rfl.put (fun _ z => by rw [s4 _ _ gw2] at z; cases z)
    refine ⟨_, ?_, ts ++ [u], xs ++ u.kids, us ++ [x], zs ++ ks, _, rfl, rfl, smk (s3.trans s4) hwa, ?_, upd_same, ?_, ?_, ?_⟩
    · simp only [List.flatMap_append, List.flatMap_cons, List.flatMap_nil, List.append_nil, List.length_append]
      rw [e4, List.length_cons]
      omega
    · rw [upd_ne hpw]
      exact s4 _ _ gp2
    · exact (RpL.app (us := [u]) (ws := [x]) (rt.tk t2) ⟨ru.tk t2, trivial⟩).tk ((Tk.of s4).trans t4)
    · exact ((rx.tk (t2.trans (Tk.of s4))).app rk).tk t4
    · refine List.Perm.trans ?_ pm
      simp only [List.flatMap_append, List.flatMap_cons, List.flatMap_nil, List.append_nil, List.append_assoc]
      refine List.Perm.append_left ts ?_
      rw [e4]
      show (u :: (xs.flatMap Kd.nodes ++ u.kids.flatMap Kd.nodes)).Perm (xs.flatMap Kd.nodes ++ (u :: u.kids.flatMap Kd.nodes))
      exact List.perm_middle.symm
  · have nv : vs = [] := by
      cases vs with
      | nil => rfl
      | cons a b => exact absurd rfl e
    subst nv
    cases ws with
    | cons a b => exact rw'.elim
    | nil =>
      rw [List.flatMap_nil, List.append_nil] at pm
      exact ⟨_, rfl, q pa ts us G sG gp rt pm⟩
end
end Kq

namespace Ks
open PySem PySem.Spec PyProof.Rows L2
/-! a set of texts -/
def tx (e : Int × Value) : Str := match e.2 with
  | .str x _ => x
  | _ => Str.empty
def GoodT (w : World) (e : Int × Value) : Prop := ∃ x t, e.2 = Value.str x t ∧ e.1 = hashStr w x
structure SetT (w : World) (es : Array (Int × Value)) (t : SetTable) (S : Str → Bool) (n : Nat) : Prop where
  good : ∀ e ∈ es.toList, GoodT w e
  nd : (es.toList.map tx).Nodup
  mem : ∀ k, S k = true ↔ k ∈ es.toList.map tx
  few : es.size < scanBound
  fit : t.fits es.size = true
  num : es.size = n
  ris : Ris t.place.toList
  led : w.params.followText "set-order" = true ∨ t.led = true
def SetS (w : World) (h : Heap) (a : Addr) (S : Str → Bool) (n : Nat) : Prop :=
  ∃ o es ep t, h.get? a = some o ∧ o.ExactSet ∧ o.data = .set es ep t ∧ SetT w es t S n
section
variable {P : Program} {w : World} {A : Around} {E : Value → Shared → Prop} {s : Shared} {a : Addr} {S : Str → Bool} {n : Nat}
theorem kis (x : Str) (t : Tok) : (PySem.strKind P w).is x (.str x t) = true := by
  show Value.isStrOf x (.str x t) = true
  simp [Value.isStrOf]
theorem goodElems {l : List (Int × Value)} (g : ∀ e ∈ l, GoodT w e) : ElemsOf (PySem.strKind P w) l := fun e he => by
  obtain ⟨x, t, h1, h2⟩ := g e he
  refine ⟨⟨x, ?_, h2⟩, ?_⟩
  · rw [h1]
    exact kis x t
  · rw [h1] <;> rfl
theorem goodMem {l : List (Int × Value)} (g : ∀ e ∈ l, GoodT w e) (k : Str) : k ∈ l.map tx ↔ ∃ e ∈ l, (PySem.strKind P w).is k e.2 = true := by
  have one : ∀ e ∈ l, ((PySem.strKind P w).is k e.2 = true ↔ tx e = k) := fun e he => by
    obtain ⟨x, t, h1, _⟩ := g e he
    unfold tx
    rw [h1]
    constructor
    · intro z
      obtain ⟨u, hu⟩ := Value.isStrOf_shape (show Value.isStrOf k (.str x t) = true from z)
      injection hu
    · intro z
      show (PySem.strKind P w).is k (.str x t) = true
      have z' : x = k := z
      rw [z']
      exact kis k t
  rw [List.mem_map]
  exact ⟨fun ⟨e, he, q⟩ => ⟨e, he, (one e he).2 q⟩, fun ⟨e, he, q⟩ => ⟨e, he, (one e he).1 q⟩⟩
theorem typ (R : SetS w s.heap a S n) : s.TypeIs (.ref a) "set" := by
  obtain ⟨o, es, ep, t, ho, hx, _⟩ := R
  exact ⟨o, ho, hx.1⟩
theorem after {h : Heap} {o : Obj} {es es' : Array (Int × Value)} {ep : Nat} {t t' : SetTable} (ho : h.get? a = some o) (hd : o.data = .set es ep t) :
    (h.update a (Obj.putSet es' t')).get? a = some { o with data := .set es' (ep + 1) t' } := by
  have q := Heap.get?_update_self (Obj.putSet es' t') ho (by rw [putSet_of es' t' hd]; rfl)
  rw [putSet_of es' t' hd] at q
  exact q
theorem tail {g : Bool → Sem Unit} (hg : ∀ (b : Bool) (s₁ : Shared) (Q' : Unit → Shared → Prop), Q' () s₁ → wpAny (model P w) A (g b) Q' E s₁)
    {o : Obj} {es : Array (Int × Value)} {ep : Nat} {t : SetTable} (ho : s.heap.get? a = some o) (hex : o.ExactSet) (hd : o.data = .set es ep t)
    {fs : Array (Int × Value)} {u : SetTable} {S' : Str → Bool} (T : SetT w fs u S' fs.size) {wd : Bool} {R : Option Bool → Shared → Prop}
    (hR : ∀ h', Heap.SameBut a s.heap h' → SetS w h' a S' fs.size → R (some true) { s with heap := h' }) :
    wpAny (model P w) A (do
        storeSet a fs u
        if (!wd && u.tooFull) = true then do
            g (relayAll u fs (SetTable.grown fs.size)).2.2
            storeSet a (relayAll u fs (SetTable.grown fs.size)).1 (relayAll u fs (SetTable.grown fs.size)).2.1
            pure (some true)
          else pure (some true)) R E s := by
  refine wpAny_bind (wpAny_storeSet_of ho hd ?_ (fits_of_scanBound T.few))
  have o1 := after (es' := fs) (t' := u) ho hd
  have sb := Heap.SameBut.update s.heap a (Obj.putSet fs u)
  split
  · have pm := relayAll_perm u fs (SetTable.grown fs.size)
    have f3 := relayAll_fits u fs (SetTable.grown fs.size)
    have r3 := relayAll_ris u fs (SetTable.grown fs.size)
    have l3 := relayAll_led u fs (SetTable.grown fs.size)
    generalize relayAll u fs (SetTable.grown fs.size) = Z at pm f3 r3 l3 ⊢
    obtain ⟨gs, v, gave⟩ := Z
    dsimp only at pm f3 r3 l3 ⊢
    have e : gs.size = fs.size := by
      rw [← Array.length_toList, pm.length_eq, Array.length_toList]
    have few : gs.size < scanBound := by
      rw [e]
      exact T.few
    refine wpAny_bind (hg _ _ _ ?_)
    refine wpAny_bind (wpAny_storeSet_of o1 rfl ?_ (fits_of_scanBound few))
    have o2 := after (es' := gs) (t' := v) o1 rfl
    refine wpAny_pure (hR _ (sb.trans (Heap.SameBut.update _ a _)) ⟨_, gs, _, v, o2, hex, rfl, ?_⟩)
    exact ⟨fun x hx => T.good x (pm.mem_iff.mp hx), (pm.map tx).nodup_iff.mpr T.nd, fun k => (T.mem k).trans (pm.map tx).mem_iff.symm, few, f3, e, r3, T.led.imp id fun z => by rw [l3]; exact z⟩
  · exact wpAny_pure (hR _ sb ⟨_, fs, _, u, o1, hex, rfl, T⟩)
theorem addHashed {k : Str} {tk : Tok} {Q : Bool → Shared → Prop} (R : SetS w s.heap a S n) (room : n + 1 < scanBound)
    (hQ : ∀ h', Heap.SameBut a s.heap h' → SetS w h' a (fun j => S j || decide (j = k)) (if S k = true then n else n + 1) → Q (!S k) { s with heap := h' }) :
    wpAny (model P w) A (setAddHashed a (.str k tk) ((PySem.strKind P w).hash k)) Q E s := by
  obtain ⟨o, es, ep, t, ho, hex, hd, T⟩ := R
  have key := kis (P := P) (w := w) k tk
  have sc : (Value.str k tk).scannable = true := rfl
  have el : ElemsOf (PySem.strKind P w) es.toList := goodElems T.good
  unfold setAddHashed setAddHashedIn
  refine wpAny_holding (wpAny_bind (wpAny_setState_of ho hd T.fit ?_))
  dsimp only
  rw [byScan_of sc T.few el]
  simp only [↓reduceIte]
  unfold setAddByScan
  refine wpAny_bind ?_
  refine wpAny_bind (wpAny_rule ?_)
  refine wpAny_bind (wpAny_setScan_of key ho hd T.fit el ?_)
  cases fi : List.findIdx? (fun e => (PySem.strKind P w).is k e.2) es.toList with
  | some j =>
    dsimp only
    obtain ⟨hj, pj, _⟩ := List.findIdx?_eq_some_iff_getElem.mp fi
    have yes : S k = true := (T.mem k).2 ((goodMem (P := P) T.good k).2 ⟨es.toList[j], List.getElem_mem hj, pj⟩)
    refine wpAny_pure (wpAny_pure ?_)
    have q := hQ s.heap (Heap.SameBut.refl a s.heap) ⟨o, es, ep, t, ho, hex, hd, T.good, T.nd, fun i => by
      rw [Bool.or_eq_true, decide_eq_true_eq, ← T.mem i]
      exact ⟨fun z => z.elim id (fun e => e ▸ yes), .inl⟩, T.few, T.fit, by rw [if_pos yes]; exact T.num, T.ris, T.led⟩
    rw [yes] at q
    exact q
  | none =>
    dsimp only
    have out : k ∉ es.toList.map tx := fun z => by
      obtain ⟨e, he, q⟩ := (goodMem (P := P) T.good k).1 z
      have c := List.findIdx?_eq_none_iff.mp fi e he
      rw [q] at c
      cases c
    have no : S k = false := by
      cases q : S k with
      | false => rfl
      | true => exact absurd ((T.mem k).1 q) out
    have gw : ∀ (b : Bool) {s₁ : Shared} {Q' : Unit → Shared → Prop}, Q' () s₁ → wpAny (model P w) A (match b with
        | true => rule "set.scan.the-table-gave-way"
        | false => pure ()) Q' E s₁ := fun b s₁ Q' q => by
      cases b
      · exact wpAny_pure q
      · exact wpAny_rule q
    have pm := layNew_perm t es ((PySem.strKind P w).hash k) (.str k tk)
    have f1 := layNew_fits t es ((PySem.strKind P w).hash k) (.str k tk)
    have r1 := layNew_ris t es ((PySem.strKind P w).hash k) (.str k tk) T.ris
    have l1 := layNew_led t es ((PySem.strKind P w).hash k) (.str k tk)
    generalize layNew t es ((PySem.strKind P w).hash k) (.str k tk) = Z at pm f1 r1 l1 ⊢
    obtain ⟨fs, u, wd, gave⟩ := Z
    dsimp only at pm f1 r1 l1 ⊢
    rw [Array.toList_push] at pm
    have pc : fs.toList.Perm (((PySem.strKind P w).hash k, Value.str k tk) :: es.toList) := pm.trans (List.perm_append_singleton _ _)
    have pk : (fs.toList.map tx).Perm (k :: es.toList.map tx) := pc.map tx
    have e1 : fs.size = n + 1 := by
      rw [← Array.length_toList, pc.length_eq, List.length_cons, Array.length_toList, T.num]
    have T1 : SetT w fs u (fun j => S j || decide (j = k)) fs.size := by
      refine ⟨fun e he => ?_, pk.nodup_iff.mpr (List.nodup_cons.mpr ⟨out, T.nd⟩), fun i => ?_, by rw [e1]; exact room, f1, rfl, r1, T.led.imp id fun z => by rw [l1]; exact z⟩
      · rcases List.mem_cons.mp (pc.mem_iff.mp he) with z | z
        · rw [z]
          exact ⟨k, tk, rfl, rfl⟩
        · exact T.good e z
      · rw [Bool.or_eq_true, decide_eq_true_eq, T.mem i, pk.mem_iff, List.mem_cons]
        exact Or.comm
    have fin : ∀ h', Heap.SameBut a s.heap h' → SetS w h' a (fun j => S j || decide (j = k)) fs.size → Q true { s with heap := h' } := fun h' sb r => by
      have q := hQ h' sb
      rw [no] at q
      rw [e1] at r
      exact q r
    refine wpAny_bind (gw _ ?_)
    split
    · refine wpAny_bind ?_
      rw [hashByValue_scannable 8 sc]
      refine wpAny_pure ?_
      have T2 : SetT w fs (if plainKind (.str k tk) = true then u else { u with plain := false }) (fun j => S j || decide (j = k)) fs.size := by
        split
        · exact T1
        · exact { T1 with fit := SetTable.fits_plain_off T1.fit, ris := T1.ris, led := T1.led }
      refine tail (S' := fun j => S j || decide (j = k)) ?_ ho hex hd T2 ?_
      · intro b s₁ Q' q
        exact gw b q
      · intro h' sb r
        dsimp only
        exact wpAny_pure (fin h' sb r)
    · refine wpAny_bind (wpAny_pure ?_)
      simp only [↓reduceIte]
      refine tail (S' := fun j => S j || decide (j = k)) ?_ ho hex hd T1 ?_
      · intro b s₁ Q' q
        exact gw b q
      · intro h' sb r
        dsimp only
        exact wpAny_pure (fin h' sb r)
/-- set.add of a text -/
theorem addCall {k : Str} {tk : Tok} {Q : Value → Shared → Prop} (R : SetS w s.heap a S n) (room : n + 1 < scanBound)
    (hQ : ∀ h', Heap.SameBut a s.heap h' → SetS w h' a (fun j => S j || decide (j = k)) (if S k = true then n else n + 1) → Q .none { s with heap := h', toks := s.toks + 1 }) :
    wpAny (model P w) A (call (.builtin "set.add") [.ref a, .str k tk]) Q E s := by
  refine wpAny_call_entry F.slot_set_add (typ R) F.entry_set_add ?_ (F.args_set_add_2 _ _)
  unfold Builtin.«set.add» Builtin.Frozenset.oneOther
  simp only [List.isEmpty_nil, bind_assoc]
  unfold Builtin.Frozenset.addrOf setAdd
  refine wpAny_bind (wpAny_pure ?_)
  try dsimp only
  refine wpAny_bind (wpAny_pure ?_)
  try dsimp only
  refine wpAny_bind ?_
  refine wpAny_holding ?_
  refine wpAny_bind ((PySem.strKind P w).pyHash (kis k tk) ?_)
  refine addHashed (s := { s with toks := s.toks + 1 }) R room (fun h' sb r => ?_)
  show wpAny _ _ (ret Value.none) _ _ _
  exact wpAny_pure ⟨_, rfl, hQ h' sb r⟩
theorem fresh {h : Heap} (w : World) : SetS w (h.push { cls := .type "set", dict := none, data := .set #[] 0 (.fresh 0 0 (!w.params.followText "set-order")) }) h.objs.size (fun _ => false) 0 := by
  refine ⟨_, #[], 0, _, Heap.get?_push_size _ rfl, ⟨rfl, rfl, rfl⟩, rfl, ⟨fun e he => ?_, ?_, fun k => ?_, ?_, ?_, rfl, List.Pairwise.nil, ?_⟩⟩
  · simp at he
  · simp
  · simp
  · decide
  · rfl
  · show _ ∨ (!w.params.followText "set-order") = true
    cases w.params.followText "set-order"
    · exact .inr rfl
    · exact .inl rfl
end
/-- the set of texts at a, as a tracked thing -/
def SetH (w : World) (a : Addr) (S : Str → Bool) (n : Nat) : HO := .ext fun h => SetS w h a S n
theorem setH_new {w : World} {P : Program} {H : Hp} {h : Heap} {a : Addr} {S : Str → Bool} {n : Nat} (R : SetS w h a S n) : ObjOk P w H h a (SetH w a S n) := by
  have ⟨o, es, ep, t, ho, r⟩ := R
  refine ⟨R, ⟨o, ho⟩, fun h1 h2 p k => ?_⟩
  obtain ⟨o, es, ep, t, ho, r⟩ := p
  exact ⟨o, es, ep, t, k o ho, r⟩
section
variable {X : Cx} {pins : List (Addr × Obj)} {σ : L2.St} {H : Hp} {s : Shared}
theorem setH_get {a : Addr} {S : Str → Bool} {n : Nat} (I : Inv X pins σ H s) (ha : H a = some (SetH X.w a S n)) : SetS X.w s.heap a S n := (I.hok a _ ha).1
theorem addIn {E : Value → Shared → Prop} {D : Addr} {S : Str → Bool} {n : Nat} {y : Str} {tk : Tok} {Q : Value → Shared → Prop} (I : Inv X pins σ H s) (hD : H D = some (SetH X.w D S n)) (room : n + 1 < scanBound)
    (h : ∀ s', Inv X pins σ (upd H D (SetH X.w D (fun j => S j || decide (j = y)) (if S y = true then n else n + 1))) s' → Q .none s') : wpAny (model X.prog X.w) X.A (call (.builtin "set.add") [.ref D, .str y tk]) Q E s := by
  refine addCall (setH_get I hD) room fun h' sb new => h _ ?_
  have he : ∃ u, h'.get? D = some u := let ⟨o, _, _, _, ho, _⟩ := new; ⟨o, ho⟩
  exact I.write (e := D) (t' := s.toks + 1) (by rw [hD]; trivial) (.inl rfl) (fun b u hb hu => (sb.2 b hb).trans hu) he (setH_new new)
end
end Ks

namespace Ks
open PySem PySem.Spec PyProof.Rows L2
section
variable {P : Program} {w : World} {A : Around} {E : Value → Shared → Prop} {s : Shared} {a : Addr} {S : Str → Bool} {n : Nat}
theorem strsOf {l : List Value} (h : ∀ v ∈ l, ∃ x t, v = Value.str x t) : ∃ xs, StrsAre l xs := by
  induction l with
  | nil => exact ⟨[], .nil⟩
  | cons v l ih =>
    obtain ⟨x, t, rfl⟩ := h v List.mem_cons_self
    obtain ⟨xs, hx⟩ := ih fun u hu => h u (List.mem_cons_of_mem _ hu)
    exact ⟨x :: xs, .cons x t hx⟩
def txv (v : Value) : Str := match v with
  | .str x _ => x
  | _ => Str.empty
theorem strs_eq {l : List Value} {xs : List Str} (h : StrsAre l xs) : xs = l.map txv := by
  induction h with
  | nil => rfl
  | cons x t _ ih =>
    rw [List.map_cons, ← ih]
    rfl
/-- sorted(a set of texts) -/
theorem sortedSet {Q : Value → Shared → Prop} (R : SetS w s.heap a S n) (hh : A.handled = none) (h64 : n < 64)
    (hQ : ∀ (s' : Shared) (p : Addr) (out : Array Value) (c : Nat) (ys : List Str), (∀ b o, s.heap.get? b = some o → s'.heap.get? b = some o) → s'.gens = s.gens → s'.os = s.os → s.heap.objs.size ≤ p →
      s'.heap.get? p = some (seqObj "list" out c) → StrsAre out.toList ys → sortedS ys = true → ys.Nodup → (∀ k, k ∈ ys ↔ S k = true) → ys.length = n → Q (.ref p) s') :
    wpAny (model P w) A (call (.builtin "sorted") [.ref a]) Q E s := by
  obtain ⟨o, es, ep, t, ho, hex, hd, T⟩ := R
  refine Calls.call_function_entry kind_sorted plain_sorted entry_sorted (args_sorted1 _) ?_
  unfold Builtin.«sorted»
  refine wpAny_bind (m := checkCount "sorted" 1 1 _) (wpAny_pure ?_)
  refine wpAny_bind (collect_set (A := A.in1) hh ⟨o, ho, hex.1, hd⟩ T.fit T.few T.ris T.led fun s1 vs k1 z1 g1 o1 pm => ?_)
  have len : vs.length = n := by
    rw [pm.length_eq, List.length_map, Array.length_toList]
    exact T.num
  obtain ⟨xs, hx⟩ := strsOf (l := vs) fun v hv => by
    obtain ⟨e, he, q⟩ := List.mem_map.mp (pm.mem_iff.mp hv)
    obtain ⟨x, t, h1, _⟩ := T.good e he
    exact ⟨x, t, by rw [← q]; exact h1⟩
  have px : xs.Perm (es.toList.map tx) := by
    have q := pm.map txv
    rw [List.map_map] at q
    rw [strs_eq hx]
    exact q
  refine wpAny_bind (wpAny_newList ?_ (by rw [len, sizeLine_eq]; omega))
  have oL : (s1.heap.push (seqObj "list" vs.toArray 0)).get? s1.heap.objs.size = some (seqObj "list" vs.toArray 0) := Heap.get?_push_size _ rfl
  refine wpAny_bind (wpAny_holding (wpAny_call_entry slot_list_sort ⟨_, oL, rfl⟩ entry_list_sort (list_sort_treeK strKind_oneLt oL hx.keysOf
    (fun v₁ v₂ rest e => keyKind_strs (by rw [← e]; exact hx)) (by rw [len]; exact h64) fun st' hp hs => ⟨_, rfl, ?_⟩) (args_list_sort _)))
  obtain ⟨ys, a1, a2, a3⟩ := sorted_out_str hx hp hs
  obtain ⟨c, hc⟩ := sortedHeap_at (vs := vs) (out := (arrOf st').map (·.2)) oL
  have py : ys.Perm (es.toList.map tx) := a2.trans px
  refine wpAny_pure ⟨_, rfl, hQ _ s1.heap.objs.size _ c ys (fun b u e => ?_) g1 o1 z1 hc a1 a3 (py.nodup_iff.mpr T.nd) (fun k => by rw [py.mem_iff, ← T.mem k]) ?_⟩
  · have q := k1 b u e
    have lt := Heap.lt_size q
    show (sortedHeap (s1.heap.push (seqObj "list" vs.toArray 0)) s1.heap.objs.size vs _).get? b = some u
    rw [sortedHeap_old (Nat.ne_of_lt lt) (by rw [size_push']; exact Nat.lt_succ_of_lt lt)]
    exact Heap.get?_push_of_some _ q
  · rw [py.length_eq, List.length_map, Array.length_toList]
    exact T.num
end
section
variable {X : Cx}
def rSortT (w : World) : List V → Hp → VK → Prop := fun vs H Q => ∃ (a : Addr) (S : Str → Bool) (n : Nat), vs = [V.ref a] ∧ H a = some (SetH w a S n) ∧ n < 64 ∧
  ∀ (ys : List Str) (p : Addr), sortedS ys = true → ys.Nodup → (∀ k : Str, k ∈ ys ↔ S k = true) → ys.length = n → H p = none → Q (.ref p) (upd H p (.lst (ys.map V.str)))
theorem cr_sortT (hc : X.calm = true) : CallR X (.builtin "sorted") (rSortT X.w) := by
  intro pins s σ H vs us Q I r h
  obtain ⟨a, S, n, rfl, ha, h64, q⟩ := h
  rw [Vals.ref1 r]
  refine sortedSet (setH_get I ha) (I.ok.hd hc) h64 fun s' p out c ys k g o hp hg hi hs hd hm hl => ?_
  have len : (ys.map V.str).length ≤ sizeLine := by
    rw [List.length_map, hl, sizeLine_eq]
    omega
  have hn : H p = none := I.hok.fresh hp
  have e : s' = { s with heap := s'.heap, gens := s'.gens, drawn := s'.drawn, toks := s'.toks } := by
    cases s'
    cases s
    cases o
    rfl
  have J : Inv X pins σ (upd H p (.lst (ys.map V.str))) { s with heap := s'.heap, gens := s'.gens, drawn := s'.drawn, toks := s'.toks } :=
    I.call (ch := []) (Un.laid k hp hn) (I.hok.laid k hp ⟨len, out.toList, c, vals_of_strs hi, hg⟩) (by rw [g]; exact I.bare) (fun _ z => nomatch z)
  rw [e]
  exact ⟨.ref p, _, J, rfl, q ys p hs hd hm hl hn⟩
end
end Ks

namespace Ks
open PySem PySem.Spec PyProof.Rows L2
def inL (l : List Str) : Str → Bool := fun k => decide (k ∈ l)
section
variable {P : Program} {w : World} {A : Around} {E : Value → Shared → Prop} {s : Shared}
theorem SetS.keep {h h' : Heap} {a : Addr} {S : Str → Bool} {n : Nat} (R : SetS w h a S n) (k : ∀ o, h.get? a = some o → h'.get? a = some o) : SetS w h' a S n := by
  obtain ⟨o, es, ep, t, ho, r⟩ := R
  exact ⟨o, es, ep, t, k o ho, r⟩
theorem SetS.as {h : Heap} {a : Addr} {S S' : Str → Bool} {n : Nat} (R : SetS w h a S n) (e : ∀ k, S' k = S k) : SetS w h a S' n := by
  have q : S' = S := funext e
  rw [q]
  exact R
theorem strGet {l : List Value} {xs : List Str} (h : StrsAre l xs) : ∀ (i : Nat) (v : Value), l[i]? = some v → ∃ x t, xs[i]? = some x ∧ v = .str x t := by
  induction h with
  | nil =>
    intro i v z
    simp at z
  | cons x t _ ih =>
    intro i v z
    cases i with
    | zero => exact ⟨x, t, rfl, (Option.some.inj z).symm⟩
    | succ i => exact ih i v z
/-- the loop of set.update over texts -/
theorem updLoop {I : Addr} {fp wr : List Addr} {G : Array GenState → Array GenState → Prop} {n : Nat} {Pv : Nat → Value → Prop} {St : Nat → Shared → Prop} {R : Result → Shared → Prop}
    (W : WalksS P w A.in1 I fp wr G n Pv St) (D : Addr) (hDf : D ∉ fp) (xs : List Str) (hn : n = xs.length) (few : n + 1 < scanBound) (hval : ∀ i v, Pv i v → ∃ x t, xs[i]? = some x ∧ v = .str x t) :
    ∀ (k i : Nat) (s : Shared), n - i = k → i ≤ n → St i s → (∃ m, m ≤ i ∧ SetS w s.heap D (inL (xs.take i)) m) →
      (∀ s' m, m ≤ n → Moved (D :: wr) G s s' → SetS w s'.heap D (inL xs) m → R (.ok (.ret .none)) s') → codeAny (model P w) A (.builtin "set.update.loop" ⟨[.ref D, .ref I], []⟩) R s := by
  have hDw : D ∉ wr := fun z => hDf (W.sub _ z)
  have sub : ∀ b ∈ wr, b ∈ D :: wr := fun b hb => List.mem_cons_of_mem _ hb
  intro k
  induction k with
  | zero =>
    intro i s hk hi st ⟨m, hm, hS⟩ hR
    have e : i = n := by omega
    refine codeAny_builtin F.entry_set_update_loop ?_
    rw [Around.under_plainId F.plain_set_update_loop _]
    show wpAny _ A.in1 (pyNext (.ref I) >>= _) _ _ s
    rw [e] at st
    refine wpAny_bind (W.done s _ _ st fun s' mv => ?_)
    show wpAny _ A.in1 (ret Value.none) _ _ s'
    refine wpAny_pure (hR s' m (by omega) (mv.mono sub) ?_)
    rw [e, hn, List.take_length] at hS
    exact hS.keep fun o z => mv.heap D o hDw z
  | succ k ih =>
    intro i s hk hi st ⟨m, hm, hS⟩ hR
    have lt : i < n := by omega
    refine codeAny_builtin F.entry_set_update_loop ?_
    rw [Around.under_plainId F.plain_set_update_loop _]
    show wpAny _ A.in1 (pyNext (.ref I) >>= _) _ _ s
    refine wpAny_bind (W.item i s _ _ lt st fun v s' hP st' mv => ?_)
    obtain ⟨x, t, hx, rfl⟩ := hval i v hP
    have hS' : SetS w s'.heap D (inL (xs.take i)) m := hS.keep fun o z => mv.heap D o hDw z
    show wpAny _ A.in1 (holding [Value.str x t] (setAdd D (.str x t)) >>= _) _ _ s'
    refine wpAny_bind (wpAny_holding ?_)
    unfold setAdd
    refine wpAny_holding ?_
    refine wpAny_bind ((PySem.strKind P w).pyHash (kis x t) ?_)
    refine addHashed (s := { s' with toks := s'.toks + 1 }) hS' (by omega) (fun h' sb S2 => ?_)
    have grow : xs.take (i + 1) = xs.take i ++ [x] := by rw [List.take_add_one, hx]; rfl
    have S3 : ∃ q, q ≤ i + 1 ∧ SetS w h' D (inL (xs.take (i + 1))) q := by
      refine ⟨_, ?_, S2.as fun j => ?_⟩
      · split <;> omega
      · unfold inL
        rw [grow, ← Bool.decide_or]
        exact decide_eq_decide.mpr (by rw [List.mem_append, List.mem_singleton])
    refine wpAny_pure ⟨plainId_quiet F.plain_set_update_loop _, ih (i + 1) _ (by omega) lt (W.frame _ s' _ _ st' (Nat.le_succ _) fun b hb o z => ?_) S3 (fun s'' q hq mv' S4 => ?_)⟩
    · rw [sb.2 b (fun y : b = D => hDf (by rw [← y]; exact hb))]
      exact z
    · refine hR s'' q hq (Moved.trans W.gtrans ((mv.mono sub).then_heap (Nat.le_succ _) fun b o hb z => ?_) mv') S4
      rw [sb.2 b (fun y : b = D => hb (by rw [y]; exact List.mem_cons_self))]
      exact z
abbrev set0 (w : World) : Obj := { cls := .type "set", dict := none, data := .set #[] 0 (.fresh 0 0 (!w.params.followText "set-order")) }
/-- set(a list of texts) -/
theorem callSet {l : Addr} {items : Array Value} (xs : List Str) {Q : Value → Shared → Prop} (hh : A.handled = none) (hl : s.heap.IsList l items) (hit : StrsAre items.toList xs) (few : xs.length + 1 < scanBound)
    (h : ∀ (h' : Heap) (tk m : Nat), m ≤ xs.length → SetS w h' s.heap.objs.size (inL xs) m → (∀ b o, s.heap.get? b = some o → h'.get? b = some o) → Q (.ref s.heap.objs.size) { s with heap := h', toks := tk }) :
    wpAny (model P w) A (call (.type "set") [.ref l]) Q E s := by
  have hsz : items.size = xs.length := by
    rw [← Array.length_toList]
    exact StrsAre.len_eq hit
  obtain ⟨c, tl, hmro⟩ := F.called_set.mro
  have hmade := F.called_set.made
  have hsub := F.called_set.sub
  refine wpAny_call (codeAny_of_tree ?_)
  show wpAny _ _ (callAny (.type "set") _) _ _ _
  refine wpAny_pure ⟨Code.quiet_builtin _ (by decide +kernel), codeAny_builtin F.entry_type_call ?_⟩
  rw [Around.under_plain (weight_type_call_type "set" [.ref l] []) rfl]
  have h1 := F.called_set.notType
  have h2 := F.called_set.canCreate
  have h3 := F.typeCall_set_1 (.ref l)
  repeat (any_goals (first | assumption | wp_step))
  refine codeAny_mono (code_set_led1 (.ref l) (E := E) (Q₁ := fun obj s₁ => obj = .ref s.heap.objs.size ∧ s₁ = { s with heap := s.heap.push (set0 w) }) ⟨rfl, rfl⟩) (fun r s₁ hr => ?_)
  cases r with
  | error e => exact hr
  | ok fl =>
    cases fl with
    | ret obj =>
      obtain ⟨rfl, rfl⟩ := hr
      have hS : (s.heap.push (set0 w)).get? s.heap.objs.size = some (set0 w) := Heap.get?_push_size _ rfl
      have hT : Shared.TypeIs { s with heap := s.heap.push (set0 w) } (.ref s.heap.objs.size) "set" := ⟨_, hS, rfl⟩
      have hli := F.called_set.init.lookup
      have hbi := F.called_set.init.bind (.ref s.heap.objs.size)
      repeat (any_goals (first | assumption | wp_step))
      refine codeAny_mono (codeAny_call_builtin (R := wants (fun r s₂ => r = .none ∧ ∃ h' tk m, m ≤ xs.length ∧ s₂ = { s with heap := h', toks := tk } ∧ SetS w h' s.heap.objs.size (inL xs) m ∧
          (∀ b o, s.heap.get? b = some o → h'.get? b = some o)) E) F.called_set.init.plain F.entry_set_init (check_set_init_1 hT ?_)) (fun r₂ s₂ hr₂ => ?_)
      · obtain ⟨ol, hol, hcl, nl, hdl⟩ := hl
        obtain ⟨ocls, odict, odata, oslots⟩ := ol
        simp only at hcl hdl
        subst hcl
        subst hdl
        have hol' : (s.heap.push (set0 w)).get? l = some { cls := .type "list", dict := odict, data := .seq items nl, slots := oslots } := Heap.get?_push_of_some _ hol
        have hsls := F.sub_list_set
        have hslf := F.sub_list_frozenset
        have hne : (Value.type "list" == Value.type "dict") = false := by decide
        have hl1 : (s.heap.push (set0 w)).IsList l items := ⟨_, hol', rfl, nl, rfl⟩
        unfold Builtin.«set.__init__» noKeywords Builtin.Frozenset.updateFrom
        generalize hPI : pyIter = PI
        wp_walk
        subst hPI
        refine wpAny_pyIter_list hl1 ?_
        refine wpAny_bind (wpAny_runValue ?_)
        have ll : l < s.heap.objs.size := Heap.lt_size hol
        have hh3 : A.in1.in1.in1.handled = none := by simp [hh]
        have zz : (s.heap.push (set0 w)).objs.size = s.heap.objs.size + 1 := Heap.size_push ..
        have nI : l ≠ (s.heap.push (set0 w)).objs.size := by
          rw [zz]
          exact Nat.ne_of_lt (Nat.lt_succ_of_lt ll)
        have out : s.heap.objs.size ∉ [(s.heap.push (set0 w)).objs.size, l] := by
          rw [zz]
          intro z
          rcases List.mem_cons.mp z with z | z
          · exact Nat.lt_irrefl _ (Nat.lt_of_lt_of_eq (Nat.lt_succ_self _) z.symm)
          · exact Nat.lt_irrefl _ (Nat.lt_of_lt_of_eq ll (List.mem_singleton.mp z))
        have hval : ∀ (i : Nat) (v : Value), items[i]? = some v → ∃ x t, xs[i]? = some x ∧ v = .str x t := fun i v hv => by
          exact strGet hit i v (by rw [Array.getElem?_toList]; exact hv)
        refine updLoop ((Walks.list hh3 _ l nI items).toS) s.heap.objs.size out xs hsz (by omega) hval (items.size - 0) 0 _ (by omega) (Nat.zero_le _)
          ⟨⟨_, Heap.get?_push_size _ rfl, rfl, rfl⟩, (hl1.push _)⟩ ⟨0, Nat.le_refl _, ?_⟩ (fun s' m hm mv S4 => ?_)
        · refine ((fresh w).keep fun o z => Heap.get?_push_of_some _ z).as fun k => ?_
          unfold inL
          exact decide_eq_false (by rw [List.take_zero]; exact List.not_mem_nil)
        · obtain ⟨h', g2, d', tk', os'⟩ := s'
          have eg : g2 = s.gens := mv.gens
          have ed : d' = s.drawn := mv.drawn
          have eo : os' = s.os := mv.os
          subst eg
          subst ed
          subst eo
          show wpAny _ _ _ _ _ _
          refine wpAny_pure ?_
          show wpAny _ _ (ret Value.none) _ _ _
          refine wpAny_pure ⟨rfl, h', tk', m, by omega, rfl, S4, fun b o z => mv.heap b o (fun y => ?_) (Heap.get?_push_of_some _ (Heap.get?_push_of_some _ z))⟩
          have lb := Heap.lt_size z
          rcases List.mem_cons.mp y with y | y
          · rw [y] at lb
            exact Nat.lt_irrefl _ lb
          · rw [List.mem_singleton.mp y, zz] at lb
            exact Nat.lt_irrefl _ (Nat.lt_of_succ_lt lb)
      · cases r₂ with
        | error e => exact hr₂
        | ok fl₂ =>
          cases fl₂ with
          | ret r =>
            obtain ⟨rfl, h', tk, m, hm, rfl, S4, kp⟩ := hr₂
            repeat (any_goals (first | assumption | wp_step))
            exact h _ _ _ hm S4 kp
          | _ => exact hr₂.elim
    | _ => exact hr.elim
end
section
variable {X : Cx}
def rSetT (K : PySem.W.Frag) (w : World) : List V → Hp → VK → Prop := fun vs H Q => ∃ (l : Addr) (xs : List Str), vs = [V.ref l] ∧ SqL K H l (xs.map V.str) ∧ xs.length + 1 < scanBound ∧
  ∀ (p : Addr) (m : Nat), m ≤ xs.length → H p = none → Q (.ref p) (upd H p (SetH w p (inL xs) m))
theorem cr_setT (hc : X.calm = true) : CallR X (.type "set") (rSetT X.K X.w) := by
  intro pins s σ H vs us Q I r h
  obtain ⟨l, xs, rfl, hq, few, q⟩ := h
  rw [Vals.ref1 r]
  obtain ⟨its, rv, pl, hz⟩ := I.list hq
  refine callSet xs (I.ok.hd hc) pl.isList (by rw [List.toList_toArray]; exact rv.strs) few fun h' tk m hm S kp => ?_
  have hn : H s.heap.objs.size = none := I.hok.fresh (Nat.le_refl _)
  exact ⟨.ref _, _, I.laid (t' := tk) kp (Nat.le_refl _) (setH_new S), rfl, q _ m hm hn⟩
end
end Ks

namespace Ks
open PySem PySem.Spec PyProof.Rows L2
section
variable {X : Cx}
/-- {elt for target in iter if ..}, elt a text: D the new set -/
def tScT (w : World) (wi : TI) (g : TG) (tt : TT) (te : TE) (vs : List Nat) : TE := fun σ H Q => wi σ H fun J G => ∀ D, G D = none →
  ∃ W : Nat → Nat → Hp → Prop, (∃ m, W 0 m (upd G D (SetH w D (fun _ => false) 0))) ∧ ∀ i m H, W i m H →
    (J.stop i H ∧ Q (.ref D) H) ∨ (J.go i H ∧ ∃ N : Hp → Prop, (∀ H', N H' → ∃ m', m' < m ∧ W (i + 1) m' H') ∧ ∀ x H', J.yld i H x H' →
      g x (wipe σ vs) H' fun τ H2 => wipe τ vs = wipe σ vs ∧ tt τ H2 fun b H3 => if b = true then
        te τ H3 fun y H4 => ∃ (c : Str) (S : Str → Bool) (n : Nat), y = .str c ∧ H4 D = some (SetH w D S n) ∧ n + 1 < scanBound ∧ N (upd H4 D (SetH w D (fun j => S j || decide (j = c)) (if S c = true then n else n + 1)))
      else N H3)
theorem pe_scT {elt tg iter : Expr} {ifs : List Expr} {scope : Scope} {own : List (PySem.Str × Nat)} {pos : Pos} {wi : TI} {g : TG} {tt : TT} {te : TE} (hc : X.calm = true) (hN : X.N.Nodup) (hi : PI X tg iter wi) (ok : BlkOk X.N X.env.scope scope own)
    (hg : ∀ (s : Shared) (H : Hp) (C : Addr) (cl : List (PySem.Str × Addr)) (fp : List Addr), PG (X.blk s H scope (compEnvC scope cl C X.env) fp) tg g)
    (ht : ∀ (s : Shared) (H : Hp) (C : Addr) (cl : List (PySem.Str × Addr)) (fp : List Addr), PTs (X.blk s H scope (compEnvC scope cl C X.env) fp) ifs tt)
    (he : ∀ (s : Shared) (H : Hp) (C : Addr) (cl : List (PySem.Str × Addr)) (fp : List Addr), PE (X.blk s H scope (compEnvC scope cl C X.env) fp) elt te)
    (hs : ∀ x, foldedSetIterable iter X.env x = pure x := by intro _; rfl) :
    PE X (.SetComp elt [⟨tg, iter, ifs, 0⟩] scope pos) (tScT X.w wi g tt te (own.map (·.2))) := by
  refine ⟨fun pins s σ H Q I h => ?_⟩
  rw [PpSet.eval_SetComp]
  have hfree : ∀ y ∈ scope.names, y.2 = .free → ∃ c, X.env.cells.lookup y.1 = some c := fun y hy e => (ok.free y hy e).elim (fun k => I.ok.has _ (.inl k)) fun k => I.ok.has _ (.inr k)
  refine wpAny_comprehension_free (use := none) rfl hs (closure_ok hfree) ok.kind (fun y hy e => by rw [ok.uniq y hy, e])
    (thn (hi.run pins s σ H _ I h) fun xv s1 hx => thn hx fun itv s2 h2 => ?_)
  obtain ⟨it, fp, tn, J, G, e, I2, T, st2, f2, q⟩ := h2
  subst e
  refine PpSet.newSet_ok (newEnv_comp ?_)
  generalize hD : s2.heap.objs.size = D
  have free : G D = none := I2.hok.fresh (Nat.le_of_eq hD)
  obtain ⟨W, ⟨m0, w0⟩, turn⟩ := q D free
  generalize e3 : ({ s2 with heap := s2.heap.push { cls := .type "set", dict := none, data := .set #[] 0 (.fresh 0 0 (!X.w.params.followText "set-order")) } } : Shared) = s3
  have kp : ∀ b o, s2.heap.get? b = some o → s3.heap.get? b = some o := fun b o z => by
    rw [← e3]
    exact Heap.get?_push_of_some _ z
  have I3 : Inv X pins σ (upd G D (SetH X.w D (fun _ => false) 0)) s3 := by
    rw [← e3]
    refine I2.laid (t' := s2.toks) (fun b o z => Heap.get?_push_of_some _ z) (Nat.le_of_eq hD) ?_
    rw [← hD]
    exact setH_new (fresh X.w)
  have f3 : ∀ b ∈ fp, FpOk X pins (upd G D (SetH X.w D (fun _ => false) 0)) b ∧ b < s3.heap.objs.size := fun b hb => by
    obtain ⟨o, z, _⟩ := T.obj _ _ st2 b hb
    have lt := Heap.lt_size z
    refine ⟨⟨?_, (f2 b hb).2⟩, Heap.lt_size (kp b o z)⟩
    rw [upd_ne (by rw [← hD]; exact Nat.ne_of_lt lt)]
    exact (f2 b hb).1
  have st3 : tn 0 s3.heap := T.keep _ _ _ st2 fun b _ o z => kp b o z
  have I4 := block_start I3 ok hN f3
  generalize eH : upd G D (SetH X.w D (fun _ => false) 0) = H3 at I3 I4 w0 f3
  have pg := hg s3 H3 s3.heap.objs.size (cellsFrom (s3.heap.objs.size + 1) scope.names (cloFrom X.env.cells scope.names [])) fp
  have pt := ht s3 H3 s3.heap.objs.size (cellsFrom (s3.heap.objs.size + 1) scope.names (cloFrom X.env.cells scope.names [])) fp
  have pe := he s3 H3 s3.heap.objs.size (cellsFrom (s3.heap.objs.size + 1) scope.names (cloFrom X.env.cells scope.names [])) fp
  have nfp : ∀ b ∈ fp, H3 b = none := fun b hb => (f3 b hb).1.1
  show codeAny _ _ (.compStart (.SetComp elt [⟨tg, iter, ifs, 0⟩] scope pos) 0 (.ref it) (.ref D)
      (compEnvC scope (cellsFrom (s3.heap.objs.size + 1) scope.names (cloFrom X.env.cells scope.names [])) s3.heap.objs.size X.env))
    (compPost (model X.prog X.w) X.A X.xe none (EP X pins σ Q) (.ref D) s3.heap.objs.size)
    { s3 with heap := pushCells (s3.heap.push { cls := .type "dict", data := .dict #[] }) scope.names }
  generalize ece : compEnvC scope (cellsFrom (s3.heap.objs.size + 1) scope.names (cloFrom X.env.cells scope.names [])) s3.heap.objs.size X.env = ce at I4 pg pt pe ⊢
  have cL : ce.locals = s3.heap.objs.size := by
    subst ece
    rfl
  generalize e4 : ({ s3 with heap := pushCells (s3.heap.push { cls := .type "dict", data := .dict #[] }) scope.names } : Shared) = s4 at I4 ⊢
  have st4 : tn 0 s4.heap := T.keep _ _ _ st3 fun b _ o z => by
    rw [← e4]
    exact pushCells_keeps _ _ _ _ (Heap.get?_push_of_some _ z)
  have sta : ∀ {τ : L2.St} {F : Hp} {s' : Shared}, Inv (X.blk s3 H3 scope ce fp) [] τ F s' → (∀ b ∈ fp, F b = none) → ∀ b ∈ fp, FpOk (X.blk s3 H3 scope ce fp) [] F b := fun {τ F s'} K hn b hb =>
    ⟨hn b hb, (K.ok.exf b hb).1, K.ok.exfs b hb, .inl hb, fun x c z => (K.ok.exf b hb).2 x c z, fun p hp => absurd (show p ∈ ([] : List (Addr × Obj)) ++ [] from hp) (by simp)⟩
  have done : ∀ (s' : Shared) (m : Str → Option Value) (F : Hp), Inv X pins σ F s' → Q (.ref D) F → s'.heap.Ns s3.heap.objs.size m → FpOk X pins F s3.heap.objs.size →
      compPost (model X.prog X.w) X.A X.xe none (EP X pins σ Q) (.ref D) s3.heap.objs.size (.ok .next) s' := fun s' m F K k hn f => ⟨m, hn, fun h'' sb => by
    obtain ⟨f0, f1, f2, f3, f4, f5⟩ := f
    exact ⟨.ref D, F, K.turned (t' := s'.toks) (fun b o hb z => (sb.2 b hb).trans z) f0 f1 f3 f4 f5, rfl, k⟩⟩
  have loop : codeAny (model X.prog X.w) X.A (.compLoop (.SetComp elt [⟨tg, iter, ifs, 0⟩] scope pos) 0 (.ref it) (.ref D) ce) (compPost (model X.prog X.w) X.A X.xe none (EP X pins σ Q) (.ref D) s3.heap.objs.size) s4 := by
    refine PpSet.compLoopS_any (fun n s' => ∃ i F, Inv (X.blk s3 H3 scope ce fp) [] (wipe σ (own.map (·.2))) F s' ∧ tn i s'.heap ∧ (∀ b ∈ fp, F b = none) ∧ W i n F) ?_ m0 ⟨0, H3, I4, st4, nfp, w0⟩
    rintro n s5 ⟨i, H5, I5, st5, n5, w5⟩
    rcases turn i n H5 w5 with ⟨stop, qq⟩ | ⟨go, N, hNx, step⟩
    · have td := T.done (X.blk s3 H3 scope ce fp) rfl rfl rfl hc i [] s5 _ H5 (fun _ _ => False) I5 (sta I5 n5) st5 stop
      refine thnF td fun r s6 ⟨hr, I6⟩ => ?_
      subst hr
      have I7 : Inv X pins σ H5 s6 := I3.call' (ch := fp) I6.os I6.base I6.hok I6.bare fun b hb =>
        let z := (f3 b hb).1
        ⟨z.2.2.2.1, z.2.1, z.2.2.2.2.1, z.2.2.2.2.2⟩
      have nC : H5 s3.heap.objs.size = none := by
        rw [← cL]
        exact I6.free
      obtain ⟨m, hn, _⟩ := I6.loc
      have hn : s6.heap.Ns ce.locals m := hn
      rw [cL] at hn
      exact done s6 m H5 I7 qq hn (I3.fpOk (Nat.le_refl _) nC)
    · have ti := T.item (X.blk s3 H3 scope ce fp) rfl rfl rfl hc i [] s5 _ H5 (fun _ _ => False) I5 (sta I5 n5) st5 go
      refine thnF ti fun r s6 ⟨u, hr, h6⟩ => ?_
      subst hr
      refine thnF h6 fun _ s7 ⟨x, H7, I7, r7, y7, st7, n7⟩ => ?_
      have J7 := I7.pinned (sta I7 n7) (T.obj _ _ st7)
      refine thnF (pg.run _ s7 _ H7 x u _ J7 r7 (step x H7 y7)) fun _ s8 ⟨τ, H8, I8, hw, q8⟩ => ?_
      refine thnF (pt.run _ s8 τ H8 _ I8 q8) fun b s9 ⟨H9, I9, q9⟩ => ?_
      have fin : ∀ {s' : Shared} {F : Hp}, Inv (X.blk s3 H3 scope ce fp) ([] ++ pinsAt fp s7.heap) τ F s' → N F →
          ∃ m, m < n ∧ ∃ i F, Inv (X.blk s3 H3 scope ce fp) [] (wipe σ (own.map (·.2))) F s' ∧ tn i s'.heap ∧ (∀ b ∈ fp, F b = none) ∧ W i m F := fun {s' F} K nx => by
        obtain ⟨m', hm, w'⟩ := hNx F nx
        have pin : ∀ b ∈ fp, ∀ o, s7.heap.get? b = some o → s'.heap.get? b = some o ∧ F b = none := fun b hb o z =>
          let y := K.pin (b, o) (List.mem_append_right _ (List.mem_append_right _ (mem_pinsAt hb z)))
          ⟨y.1, y.2.1⟩
        have hl : (wipe σ (own.map (·.2))).length = τ.length := by
          rw [← hw, wipe_length]
        refine ⟨m', hm, i + 1, F, (K.unpinned (pins := [])).weak hl (fun j v z => ?_), T.keep _ _ _ st7 fun b hb o z => (pin b hb o z).1, fun b hb => ?_, w'⟩
        · rw [← hw] at z
          exact (wipe_some z).1
        · obtain ⟨o, z, _⟩ := T.obj _ _ st7 b hb
          exact (pin b hb o z).2
      cases b with
      | false =>
        simp only [Bool.false_eq_true, if_false] at q9 ⊢
        exact fin I9 q9
      | true =>
        simp only [if_true] at q9 ⊢
        refine thnF (pe.run _ s9 τ H9 _ I9 q9) fun z s10 ⟨yv, H10, I10, r10, cb, S0, n0, ey, hD10, hz10, nx⟩ => ?_
        subst ey
        obtain ⟨tk, rfl⟩ := r10
        exact addIn (X := X.blk s3 H3 scope ce fp) I10 hD10 hz10 fun s11 I11 => fin I11 nx
  exact PpSet.codeAny_compStart_set loop (T.self X.A 0 _ _ _ st4 loop)
end
end Ks

namespace Kq
open PySem PySem.Spec PyProof.Rows L2
namespace Kd
theorem size_fn (a b : Kd) : (fn a b).size = a.size + b.size + 1 := by
  show (a.nodes ++ b.nodes).length + 1 = _
  rw [List.length_append]
  rfl
theorem size_pos (t : Kd) : 1 ≤ t.size := by
  unfold size
  rw [nodes_eq]
  exact Nat.succ_le_succ (Nat.zero_le _)
theorem args_le : ∀ t : Kd, t.args.length ≤ t.size
  | fn a b => by
    have := args_le b
    rw [size_fn]
    show b.args.length + 1 ≤ _
    omega
  | opn _ => Nat.zero_le _
  | num => Nat.zero_le _
  | tru => Nat.zero_le _
  | pair _ _ => Nat.zero_le _
  | eith _ _ => Nat.zero_le _
  | lst _ => Nat.zero_le _
def nm? : Kd → Option Str
  | opn x => some x
  | _ => none
theorem opens_nodes : ∀ t : Kd, t.nodes.filterMap nm? = t.opens
  | opn _ => rfl
  | num => rfl
  | tru => rfl
  | pair a b => by
    show ((a.nodes ++ b.nodes).filterMap nm?) = a.opens ++ b.opens
    rw [List.filterMap_append, opens_nodes a, opens_nodes b]
  | eith a b => by
    show ((a.nodes ++ b.nodes).filterMap nm?) = a.opens ++ b.opens
    rw [List.filterMap_append, opens_nodes a, opens_nodes b]
  | lst a => by
    show (a.nodes.filterMap nm?) = a.opens
    exact opens_nodes a
  | fn a b => by
    show ((a.nodes ++ b.nodes).filterMap nm?) = a.opens ++ b.opens
    rw [List.filterMap_append, opens_nodes a, opens_nodes b]
end Kd
/-- a set comprehension over a list that stays -/
theorem sc_list {w : World} {K : PySem.W.Frag} {a : Addr} {xs : List V} {g : TG} {tt : TT} {te : TE} {vs : List Nat} {σ : L2.St} {G : Hp} {D : Addr} {Qd : Hp → Prop} (Pv : Nat → Hp → Prop) (h0 : Pv 0 (upd G D (Ks.SetH w D (fun _ => false) 0)))
    (hl : ∀ i H, i ≤ xs.length → Pv i H → SqL K H a xs)
    (hs : ∀ i x H, xs[i]? = some x → Pv i H → g x (wipe σ vs) H fun τ H2 => wipe τ vs = wipe σ vs ∧ tt τ H2 fun b H3 => if b = true then
        te τ H3 fun y H4 => ∃ (c : Str) (S : Str → Bool) (n : Nat), y = .str c ∧ H4 D = some (Ks.SetH w D S n) ∧ n + 1 < scanBound ∧ Pv (i + 1) (upd H4 D (Ks.SetH w D (fun j => S j || decide (j = c)) (if S c = true then n else n + 1)))
      else Pv (i + 1) H3) (hd : ∀ H, Pv xs.length H → Qd H) :
    ∃ W : Nat → Nat → Hp → Prop, (∃ m, W 0 m (upd G D (Ks.SetH w D (fun _ => false) 0))) ∧ ∀ i m H, W i m H →
      ((Itl K a).stop i H ∧ Qd H) ∨ ((Itl K a).go i H ∧ ∃ N : Hp → Prop, (∀ H', N H' → ∃ m', m' < m ∧ W (i + 1) m' H') ∧ ∀ x H', (Itl K a).yld i H x H' →
        g x (wipe σ vs) H' fun τ H2 => wipe τ vs = wipe σ vs ∧ tt τ H2 fun b H3 => if b = true then
          te τ H3 fun y H4 => ∃ (c : Str) (S : Str → Bool) (n : Nat), y = .str c ∧ H4 D = some (Ks.SetH w D S n) ∧ n + 1 < scanBound ∧ N (upd H4 D (Ks.SetH w D (fun j => S j || decide (j = c)) (if S c = true then n else n + 1)))
        else N H3) := by
  refine ⟨fun i m F => m = xs.length - i ∧ i ≤ xs.length ∧ Pv i F, ⟨_, rfl, Nat.zero_le _, h0⟩, fun i m F z => ?_⟩
  obtain ⟨rfl, hi, p⟩ := z
  have q := hl i F hi p
  by_cases lt : i < xs.length
  · refine .inr ⟨⟨xs, xs[i], q, List.getElem?_eq_getElem lt⟩, Pv (i + 1), fun F' p' => ⟨xs.length - (i + 1), by omega, rfl, lt, p'⟩, fun x F' y => ?_⟩
    obtain ⟨e, y⟩ := y
    subst e
    exact hs i x _ (y xs q) p
  · have e : i = xs.length := by omega
    subst e
    exact .inl ⟨⟨xs, q, Nat.le_refl _⟩, hd F p⟩
theorem cnt_add : ∀ {ns : List Str} {S : Str → Bool} {c : Str}, ns.Nodup → c ∈ ns → S c = false → (ns.filter fun j => S j || decide (j = c)).length = (ns.filter S).length + 1
  | [], _, _, _, h, _ => by cases h
  | a :: l, S, c, nd, hc, h => by
    obtain ⟨na, nl⟩ := List.nodup_cons.mp nd
    by_cases e : a = c
    · subst e
      have e1 : (l.filter fun j => S j || decide (j = a)) = l.filter S := List.filter_congr fun j hj => by
        have : j ≠ a := fun z => na (by rw [← z]; exact hj)
        simp [this]
      rw [List.filter_cons, List.filter_cons, if_pos (by simp), if_neg (by rw [h]; exact Bool.false_ne_true), e1, List.length_cons]
    · have hc' : c ∈ l := by
        rcases List.mem_cons.mp hc with z | z
        · exact absurd z.symm e
        · exact z
      have ih := cnt_add nl hc' h
      rw [List.filter_cons, List.filter_cons]
      have e2 : (S a || decide (a = c)) = S a := by simp [e]
      rw [e2]
      cases S a with
      | true => simpa using ih
      | false => simpa using ih
theorem cnt_none : ∀ ns : List Str, 0 = (ns.filter fun _ => false).length
  | [] => rfl
  | _ :: l => cnt_none l
theorem cnt_same {S : Str → Bool} {c : Str} (h : S c = true) : (fun j => S j || decide (j = c)) = S := by
  funext j
  by_cases e : j = c
  · rw [e, h]
    rfl
  · simp [e]
abbrev tOpens : Stmt := tp 33
section
variable {P : Program} {w : World} {K : PySem.W.Frag} {mg : Str → Option Value} {base : Heap}
/-! opens_in -/
theorem scOpens : FnScope ["kind", "part"] ["kind"] (defScope tOpens) := ⟨rfl, rfl, rfl, by decide +kernel, rfl, by decide +kernel, by decide +kernel⟩
def spOpens (K : PySem.W.Frag) : Sp := fun vs H Q _ => ∃ (v : V) (t : Kd), vs = [v] ∧ Rp K H t v ∧ t.size ≤ 900 ∧ (∃ ns : List Str, ns.Nodup ∧ ns.length ≤ 40 ∧ ∀ x ∈ t.opens, x ∈ ns) ∧ ∀ (p : Addr) (ys : List Str) (G : Hp), Same H G → G p = some (.tup (ys.map V.str)) → sortedS ys = true → ys.Nodup → (∀ k, k ∈ ys ↔ k ∈ t.opens) → Q (.ref p) G
theorem okOpens {f fP : Addr} {fd fdP : FuncData} {k : Nat} (F : Fun K "opens_in" "opens_in" tOpens f fd) (GP : FnOk P w K mg base CX0 (k + 2) fP fdP ["kind"] (spParts K)) (bP : Binds K fdP ["kind"] []) (gP : mg "parts_of" = some (.ref fP)) (kP : PySem.W.keepIn K (.ref fP) = true)
    (mt : mg "tuple" = none) (ms : mg "sorted" = none) : FnOk P w K mg base CX0 (k + 3) f fd ["kind"] (spOpens K) := by
  refine F.ok scOpens (fun vs H Q E h => ?_) (fun cdv A outer s H vs Q E hr h => ?_)
  · obtain ⟨v, t, rfl, _⟩ := h
    rfl
  obtain ⟨v, t, rfl, r, hz, ⟨ns, nsd, nsl, nso⟩, q⟩ := h
  refine ⟨_, pss_one (ps_ret (pe_callTy call_tuple_of (by rfl) mt PyProof.Rows.boot_tuple (pa_cons (pe_callB (Ks.cr_sortT rfl) (by rfl) ms PyProof.Rows.boot_sorted (pa_cons
    (Ks.pe_scT (own := [("part", 1)]) (g := gName 1) (by rfl) scOpens.nd (pi_list (pe_call GP hr (by rfl) gP kP bP .nil pass0 (pa_cons (pv 0) pa_nil))) (blkOk_by (own := [("part", 1)]) (N := ["kind", "part"]) (sc := defScope tOpens) (by decide +kernel))
      (fun _ _ _ _ _ => pg_name (i := 1) scOpens.nd rfl (.inl rfl)) (fun _ _ _ _ _ => pts_one (pt_cmpR op_eq (pe_ix (ixTK K rfl) (pv 1) pe_int (fun _ _ => rfl)) pe_str (nomark _)))
      (fun _ _ _ _ _ => pe_ix (ixTK K rfl) (pv 1) pe_int (fun _ _ => rfl))) pa_nil)) pa_nil))), ?_⟩
  refine ⟨_, rfl, v, t, rfl, r, by omega, fun p ts us G sG gp rt pm => ⟨p, rfl, ⟨_, SqL.of gp⟩, fun D nD => ?_⟩⟩
  have lt : ts.length ≤ 900 := by rw [pm.length_eq]; exact hz
  have l1 := rt.len
  refine sc_list (xs := us) (fun i F => Same G F ∧ ∃ S n, F D = some (Ks.SetH w D S n) ∧ n = (ns.filter S).length ∧ ∀ k, S k = true ↔ k ∈ (ts.take i).filterMap Kd.nm?) ⟨newS nD, fun _ => false, 0, upd_same, cnt_none ns, fun k => ?_⟩ (fun i F _ z => SqL.of (z.1 _ _ gp)) (fun i x F hx z => ?_) (fun F z => ?_)
  · rw [List.take_zero]
    exact ⟨fun z => (nomatch z), fun z => (nomatch z)⟩
  · obtain ⟨sF, S, n, gD, hn, hS⟩ := z
    obtain ⟨c, hc, rx⟩ := rt.get hx
    obtain ⟨a, ws, rfl, ha, hw⟩ := (rx.tk (Tk.of sF)).see
    have li : i < us.length := (List.getElem?_eq_some_iff.mp hx).1
    have tk : ts.take (i + 1) = ts.take i ++ [c] := by rw [List.take_add_one, hc]; rfl
    refine ⟨rfl, _, rfl, a, _, _, _, rfl, rfl, ha.t, atI_nat (j := 0) rfl, rfl, _, rfl, ?_⟩
    rw [Kd.isOp_word]
    refine ite2 (fun e => ?_) (fun e => ?_)
    · rcases hw with hw | ⟨y, rfl, rfl⟩
      · rw [hw.1] at e
        cases e
      · refine ⟨_, rfl, a, _, _, _, rfl, rfl, ha.t, atI_nat (j := 1) rfl, y, S, n, rfl, gD, ?_, smk sF nD, _, _, upd_same, ?_, fun k => ?_⟩
        · show n + 1 < scanBound
          have : scanBound = 4096 := rfl
          have := List.length_filter_le S ns
          omega
        · have hyn : y ∈ ns := by
            refine nso y ?_
            rw [← Kd.opens_nodes t]
            refine List.mem_filterMap.mpr ⟨.opn y, ?_, rfl⟩
            exact pm.mem_iff.mp (List.mem_of_getElem? hc)
          split
          · rename_i hSy
            rw [cnt_same hSy]
            exact hn
          · rename_i hSy
            rw [cnt_add nsd hyn (by simpa using hSy), hn]
        · rw [tk, List.filterMap_append, List.mem_append, Bool.or_eq_true, decide_eq_true_eq, hS k]
          show _ ↔ _ ∨ k ∈ [y]
          rw [List.mem_singleton]
    · refine ⟨sF, S, n, gD, hn, fun k => ?_⟩
      have none : c.nm? = none := by
        cases c with
        | opn x => exact absurd rfl e
        | _ => rfl
      rw [tk, List.filterMap_append, List.mem_append, hS k]
      simp [none]
  · obtain ⟨sF, S, n, gD, hn, hS⟩ := z
    rw [← l1, List.take_length] at hS
    have nl := List.length_filter_le S ns
    refine ⟨D, S, n, rfl, gD, by omega, fun ys l hs hd hm _ nl' => ?_⟩
    refine ⟨l, _, rfl, .inl ⟨SqL.of upd_same, fun m nm => ?_⟩⟩
    refine q m ys _ (sG.trans (sF.trans ((newS nl').trans (newS nm)))) upd_same hs hd (fun k => ?_)
    rw [hm k, hS k, ← Kd.opens_nodes t]
    exact (pm.filterMap Kd.nm?).mem_iff
end
end Kq

namespace Kq
open PySem PySem.Spec PyProof.Rows L2 Kf Kg Kv
/-! trees as data -/
def toD : Kd → PyData
  | .opn x => .tuple [.str "open", .str x]
  | .num => .tuple [.str "num"]
  | .tru => .tuple [.str "truth"]
  | .pair a b => .tuple [.str "pair", toD a, toD b]
  | .eith a b => .tuple [.str "either", toD a, toD b]
  | .lst a => .tuple [.str "list", toD a]
  | .fn a b => .tuple [.str "fun", toD a, toD b]
theorem dpT (K : PySem.W.Frag) {H : Hp} : ∀ {t : Kd} {v : V}, Rp K H t v → Dp K H v (toD t) := by
  intro t
  induction t with
  | opn x =>
    rintro v ⟨a, rfl, h⟩
    exact .tup (h.t) (.cons (.str _) (.cons (.str _) .nil))
  | num =>
    rintro v ⟨a, rfl, h⟩
    exact .tup (h.t) (.cons (.str _) .nil)
  | tru =>
    rintro v ⟨a, rfl, h⟩
    exact .tup (h.t) (.cons (.str _) .nil)
  | pair s t i j =>
    rintro v ⟨a, x, y, rfl, h, p, q⟩
    exact .tup (h.t) (.cons (.str _) (.cons (i p) (.cons (j q) .nil)))
  | eith s t i j =>
    rintro v ⟨a, x, y, rfl, h, p, q⟩
    exact .tup (h.t) (.cons (.str _) (.cons (i p) (.cons (j q) .nil)))
  | lst s i =>
    rintro v ⟨a, x, rfl, h, p⟩
    exact .tup (h.t) (.cons (.str _) (.cons (i p) .nil))
  | fn s t i j =>
    rintro v ⟨a, x, y, rfl, h, p, q⟩
    exact .tup (h.t) (.cons (.str _) (.cons (i p) (.cons (j q) .nil)))
theorem dpTs (K : PySem.W.Frag) {H : Hp} : ∀ {ts : List Kd} {vs : List V}, RpL K H ts vs → DpAll K H vs (ts.map toD)
  | [], [], _ => .nil
  | _ :: _, _ :: _, h => .cons (dpT K h.1) (dpTs K h.2)
  | [], _ :: _, h => h.elim
  | _ :: _, [], h => h.elim
theorem layT : ∀ t : Kd, (∀ x ∈ t.opens, Nm x) → (toD t).canLay0 = true ∧ (toD t).depth ≤ t.dp + 1 := by
  have w1 : PyData.strOk "open" = true := by decide +kernel
  have w2 : PyData.strOk "num" = true := by decide +kernel
  have w3 : PyData.strOk "truth" = true := by decide +kernel
  have w4 : PyData.strOk "pair" = true := by decide +kernel
  have w5 : PyData.strOk "either" = true := by decide +kernel
  have w6 : PyData.strOk "list" = true := by decide +kernel
  have w7 : PyData.strOk "fun" = true := by decide +kernel
  intro t
  induction t with
  | opn x =>
    intro h
    have := (h x List.mem_cons_self).ok
    simp [toD, PyData.canLay0, PyData.canLayAll0, PyData.depth, PyData.depthAll, Kd.dp, w1, this]
  | num =>
    intro h
    simp [toD, PyData.canLay0, PyData.canLayAll0, PyData.depth, PyData.depthAll, Kd.dp, w2]
  | tru =>
    intro h
    simp [toD, PyData.canLay0, PyData.canLayAll0, PyData.depth, PyData.depthAll, Kd.dp, w3]
  | pair s t i j =>
    intro h
    obtain ⟨a1, a2⟩ := i fun x hx => h x (List.mem_append_left _ hx)
    obtain ⟨b1, b2⟩ := j fun x hx => h x (List.mem_append_right _ hx)
    simp only [toD, PyData.canLay0, PyData.canLayAll0, PyData.depth, PyData.depthAll, Kd.dp, w4, a1, b1, Bool.and_self, true_and]
    omega
  | eith s t i j =>
    intro h
    obtain ⟨a1, a2⟩ := i fun x hx => h x (List.mem_append_left _ hx)
    obtain ⟨b1, b2⟩ := j fun x hx => h x (List.mem_append_right _ hx)
    simp only [toD, PyData.canLay0, PyData.canLayAll0, PyData.depth, PyData.depthAll, Kd.dp, w5, a1, b1, Bool.and_self, true_and]
    omega
  | lst s i =>
    intro h
    obtain ⟨a1, a2⟩ := i h
    simp only [toD, PyData.canLay0, PyData.canLayAll0, PyData.depth, PyData.depthAll, Kd.dp, w6, a1, Bool.and_self, true_and]
    omega
  | fn s t i j =>
    intro h
    obtain ⟨a1, a2⟩ := i fun x hx => h x (List.mem_append_left _ hx)
    obtain ⟨b1, b2⟩ := j fun x hx => h x (List.mem_append_right _ hx)
    simp only [toD, PyData.canLay0, PyData.canLayAll0, PyData.depth, PyData.depthAll, Kd.dp, w7, a1, b1, Bool.and_self, true_and]
    omega
theorem shT {t : Kd} (h : ∀ x ∈ t.opens, Nm x) (hd : t.dp ≤ 50) : SeqAt.shaped (toD t) = true ∧ (toD t).canLay0 = true := by
  obtain ⟨a, b⟩ := layT t h
  refine ⟨?_, a⟩
  unfold SeqAt.shaped
  rw [a, Bool.true_and]
  exact decide_eq_true (by omega)
theorem shTs {ts : List Kd} (h : ∀ t ∈ ts, (∀ x ∈ t.opens, Nm x) ∧ t.dp ≤ 50) : SeqAt.shaped (.list (ts.map toD)) = true ∧ (PyData.list (ts.map toD)).canLay0 = true := by
  have all : PyData.canLayAll0 (ts.map toD) = true ∧ PyData.depthAll (ts.map toD) ≤ 51 := by
    induction ts with
    | nil => exact ⟨by simp [PyData.canLayAll0], by simp [PyData.depthAll]⟩
    | cons t ts ih =>
      obtain ⟨a, b⟩ := ih fun u hu => h u (List.mem_cons_of_mem _ hu)
      obtain ⟨h1, h2⟩ := h t List.mem_cons_self
      obtain ⟨c, e⟩ := layT t h1
      refine ⟨by simp [PyData.canLayAll0, a, c], ?_⟩
      simp only [List.map_cons, PyData.depthAll]
      omega
  have lay : (PyData.list (ts.map toD)).canLay0 = true := by simp only [PyData.canLay0]; exact all.1
  refine ⟨?_, lay⟩
  unfold SeqAt.shaped
  rw [lay, Bool.true_and]
  refine decide_eq_true ?_
  simp only [PyData.depth]
  omega
theorem neF {d : PyData} (lay : d.canLay0 = true) {A B : Prop} (h : B) : if (!PyData.eqv d d) = true then A else B := by
  rw [SeqAt.eqv_refl d lay]
  exact iteF h

theorem eqv_tup (xs ys : List PyData) : PyData.eqv (.tuple xs) (.tuple ys) = PyData.eqvAll xs ys := by rw [PyData.eqv]
theorem eqv_str (x y : Str) : PyData.eqv (.str x) (.str y) = (x == y) := by rw [PyData.eqv]
theorem eqv_cons (x y : PyData) (xs ys : List PyData) : PyData.eqvAll (x :: xs) (y :: ys) = (PyData.eqv x y && PyData.eqvAll xs ys) := by rw [PyData.eqvAll]
theorem two_see {a b c d : PyData} (h : PyData.eqvAll [a, b] [c, d] = true) : PyData.eqv a c = true ∧ PyData.eqv b d = true := by
  rw [eqv_cons, eqv_cons] at h
  obtain ⟨h1, h2⟩ := Bool.and_eq_true_iff.mp h
  exact ⟨h1, (Bool.and_eq_true_iff.mp h2).1⟩
theorem one_see {a c : PyData} (h : PyData.eqvAll [a] [c] = true) : PyData.eqv a c = true := by
  rw [eqv_cons] at h
  exact (Bool.and_eq_true_iff.mp h).1
def Kd.pys : Kd → List PyData
  | .opn x => [.str x]
  | .num => []
  | .tru => []
  | .pair a b => [toD a, toD b]
  | .eith a b => [toD a, toD b]
  | .lst a => [toD a]
  | .fn a b => [toD a, toD b]
theorem py_eq (k : Kd) : toD k = .tuple (.str k.word :: k.pys) := by cases k <;> rfl
theorem eqv_see {a b : Kd} (h : PyData.eqv (toD a) (toD b) = true) : a.word = b.word ∧ PyData.eqvAll a.pys b.pys = true := by
  rw [py_eq a, py_eq b, eqv_tup, eqv_cons, eqv_str] at h
  obtain ⟨h1, h2⟩ := Bool.and_eq_true_iff.mp h
  exact ⟨beq_iff_eq.mp h1, h2⟩
theorem eqv_inj : ∀ {a b : Kd}, PyData.eqv (toD a) (toD b) = true → a = b := by
  intro a
  induction a with
  | opn x =>
    intro b h
    obtain ⟨h1, h2⟩ := eqv_see h
    cases b with
    | opn y =>
      have h3 := one_see h2
      rw [eqv_str] at h3
      rw [beq_iff_eq.mp h3]
    | _ => exact absurd h1 (by simp only [Kd.word]; decide)
  | num =>
    intro b h
    obtain ⟨h1, h2⟩ := eqv_see h
    cases b with
    | num => rfl
    | _ => exact absurd h1 (by simp only [Kd.word]; decide)
  | tru =>
    intro b h
    obtain ⟨h1, h2⟩ := eqv_see h
    cases b with
    | tru => rfl
    | _ => exact absurd h1 (by simp only [Kd.word]; decide)
  | pair a c i j =>
    intro b h
    obtain ⟨h1, h2⟩ := eqv_see h
    cases b with
    | pair e g =>
      obtain ⟨h3, h4⟩ := two_see h2
      rw [i h3, j h4]
    | _ => exact absurd h1 (by simp only [Kd.word]; decide)
  | eith a c i j =>
    intro b h
    obtain ⟨h1, h2⟩ := eqv_see h
    cases b with
    | eith e g =>
      obtain ⟨h3, h4⟩ := two_see h2
      rw [i h3, j h4]
    | _ => exact absurd h1 (by simp only [Kd.word]; decide)
  | fn a c i j =>
    intro b h
    obtain ⟨h1, h2⟩ := eqv_see h
    cases b with
    | fn e g =>
      obtain ⟨h3, h4⟩ := two_see h2
      rw [i h3, j h4]
    | _ => exact absurd h1 (by simp only [Kd.word]; decide)
  | lst a i =>
    intro b h
    obtain ⟨h1, h2⟩ := eqv_see h
    cases b with
    | lst e => rw [i (one_see h2)]
    | _ => exact absurd h1 (by simp only [Kd.word]; decide)
theorem eqv_iff {a b : Kd} (lay : (toD a).canLay0 = true) : PyData.eqv (toD a) (toD b) = true ↔ a = b := ⟨eqv_inj, fun e => by rw [← e]; exact SeqAt.eqv_refl _ lay⟩
end Kq

/-! d.update(e), two dicts of numbers and texts -/
namespace Kc
open PySem PySem.Spec PyProof.Rows L2
theorem mergeK_le : ∀ (more kvs : List (Key × V)), (mergeK kvs more).length ≤ kvs.length + more.length
  | [], kvs => Nat.le_refl _
  | kv :: r, kvs => by
    show (mergeK (putK kvs kv.1 kv.2) r).length ≤ _
    have h1 := mergeK_le r (putK kvs kv.1 kv.2)
    have h2 := length_putK kvs kv.1 kv.2
    rw [List.length_cons]
    omega
section
variable {X : Cx}
def rUpd : V → List V → Hp → VK → Prop := fun x vs H Q => ∃ d o kvs more, x = .ref d ∧ vs = [.ref o] ∧ d ≠ o ∧ H d = some (.dK kvs) ∧ H o = some (.dK more) ∧ kvs.length + more.length ≤ sizeLine ∧ Q .non (upd H d (.dK (mergeK kvs more)))
theorem mt_update : MtR X "dict.update" rUpd := by
  intro pins s σ H x xs v us Q I rx rxs h
  obtain ⟨d, o, kvs, more, rfl, rfl, hne, hd, ho, hz, q⟩ := h
  cases rx
  obtain ⟨u, rfl, ru⟩ := rxs.one
  cases ru
  obtain ⟨z1, n1, vs1, r1, dd1⟩ := dk_of I.hok hd
  obtain ⟨z2, n2, vs2, r2, dd2⟩ := dk_of I.hok ho
  refine call_meetsIn PySem.F.slot_dict_update dd1.typeIs PySem.F.entry_dict_update (PySem.F.args_dict_update_2 _ _) (meets_dict_update (mixKind X.prog X.w) d o hne n2)
    ⟨vs1, vs2, dd1, dd2, by rw [← Paired.length r1, ← Paired.length r2]; exact hz, fun h' hm _ hs => ?_⟩
  have hm' := hm
  obtain ⟨ob, es, ep, hq, _⟩ := hm'
  have I2 : Inv X pins σ (upd H d (.dK (mergeK kvs more))) { s with heap := h' } :=
    d_write (t' := s.toks) I (by rw [hd]; exact True.intro) hs ⟨ob, hq⟩ ⟨Nat.le_trans (mergeK_le _ _) hz, n1, _, KV.merge r2 r1, hm⟩
  exact ⟨.non, _, I2, rfl, q⟩
end
end Kc

/-! {**d, k: v, ..} of a dict of numbers and texts -/
namespace Ku
open PySem PySem.Spec PyProof.Rows L2
section
variable {prog : Program} {w : World} {K : Type} [DecidableEq K] {knd : KeyKind prog w K} {A : Around} {E : Value → Shared → Prop} {s : Shared}
theorem put_pairs {d : Addr} {kvs : List (K × Value)} {k : K} {key v : Value} {Q : Unit → Shared → Prop} (ik : knd.is k key = true) (dd : s.heap.DictOf knd d kvs) (few : kvs.length ≤ sizeLine)
    (hQ : ∀ h', h'.DictOf knd d (stored kvs k v) → Heap.SameBut d s.heap h' → Q () { s with heap := h' }) : wpAny (model prog w) A (dictPut d (knd.hash k) key v) Q E s := by
  obtain ⟨ob, es, n, hob, hcl, hda, hks, hps, hnd⟩ := dd
  have hz : es.size ≤ sizeLine := by
    have z := hps.length
    simp only [Array.length_toList] at z
    omega
  unfold dictPut
  refine wpAny_bind (wpAny_dictFind_of ik hob hda hks ?_)
  have hix : (es.findIdx? fun e => knd.is k e.key) = kvs.findIdx? fun p => decide (p.1 = k) := by
    have z := hps.findIdx k
    obtain ⟨l⟩ := es
    simpa using z
  cases hf : es.findIdx? fun e => knd.is k e.key with
  | some i =>
    have hany := any_of_findIdx_some (hix ▸ hf)
    refine wpAny_updateDict hob hda (hQ _ ⟨_, _, n, Heap.get?_update_self _ hob (Obj.isFreed_of_dict (Obj.data_mapDict hda _)), hcl.mapDict _, Obj.data_mapDict hda _, hks.modify _ _, ?_, ?_⟩ (Heap.SameBut.update ..))
    · rw [stored, if_pos hany]
      have hl : (es.toList.findIdx? fun e => knd.is k e.key) = some i := by
        obtain ⟨l⟩ := es
        simpa using hf
      have z := hps.modify hnd hl v
      obtain ⟨l⟩ := es
      simpa using z
    · rw [stored, if_pos hany, keys_map_store]
      exact hnd
  | none =>
    have out : k ∉ kvs.map (·.1) := not_mem_of_findIdx_none (hix ▸ hf)
    have hany : ¬ (kvs.any fun p => decide (p.1 = k)) = true := fun z => by
      obtain ⟨p, hp, e⟩ := List.any_eq_true.mp z
      exact out (List.mem_map.mpr ⟨p, hp, of_decide_eq_true e⟩)
    refine wpAny_updateDictKeys (hz := hz) hob hda (hQ _ ⟨_, _, n + 1, Heap.get?_update_self _ hob (Obj.isFreed_of_dict (Obj.data_mapDictKeys hda _)), hcl.mapDictKeys _, Obj.data_mapDictKeys hda _, hks.push ik _, ?_, ?_⟩ (Heap.SameBut.update ..))
    · rw [stored, if_neg hany]
      have z := hps.append ik (knd.hash k) v
      obtain ⟨l⟩ := es
      simpa using z
    · rw [stored, if_neg hany, List.map_append]
      refine List.nodup_append.mpr ⟨hnd, by simp, fun x hx y hy e => ?_⟩
      have hy : y = k := by simpa using hy
      rw [e, hy] at hx
      exact out hx
theorem merge_map {d o : Addr} {kvs more : List (K × Value)} {Q : Unit → Shared → Prop} (hdo : d ≠ o) (hoS : (o == sysModules) = false) (noref : ∀ (k : K) (a : Addr), knd.is k (.ref a) = false)
    (hd : s.heap.DictOf knd d kvs) (ho : s.heap.DictOf knd o more) (few : kvs.length + more.length ≤ sizeLine)
    (hQ : ∀ h', h'.DictOf knd d (merged kvs more) → h'.DictOf knd o more → Heap.SameBut d s.heap h' → Q () { s with heap := h' }) :
    wpAny (model prog w) A (mergeMapping d (.ref o) false) Q E s := by
  obtain ⟨od, esd, epd, hod, hcd, hdd, hkd, hpd, hnd⟩ := id hd
  obtain ⟨oo, eso, epo, hoo, hco, hdo', hko, hpo, hno⟩ := id ho
  have hlen : more.length = eso.size := by
    rw [← hpo.length]
    simp
  unfold mergeMapping
  refine wpAny_bind (wpAny_isInstance ho.typeIs isSubtype_dict_dict ?_)
  rw [if_pos rfl]
  refine wpAny_bind (wpAny_specialOf ho.typeIs F.slot_dict_iter.lookup (wpAny_bind (wpAny_pure ?_)))
  simp only [beq_self_eq_true, hoS, Bool.false_eq_true, if_false]
  have loop : wpAny (model prog w) A (do
      let l ← dictEntries o
      let epoch ← dictEpoch o
      forIn (List.range l.size) PUnit.unit fun i (_ : PUnit) => do
        let l ← dictEntries o
        match l[i]? with
          | some e => do
            holding [e.key, e.val] (dictPut d e.hash e.key e.val)
            let ep ← dictEpoch o
            if (ep != epoch) = true then do
              unsupported "dict.changed-during-merge"
              pure (ForInStep.yield PUnit.unit)
            else pure (ForInStep.yield PUnit.unit)
          | x => do
            unsupported "dict.changed-during-merge"
            pure (ForInStep.yield PUnit.unit)
      pure () : Sem Unit) Q E s := by
    refine wpAny_bind (wpAny_dictEntries hoo hdo' (wpAny_bind (wpAny_dictEpoch hoo hdo' (wpAny_bind ?_))))
    refine wpAny_forIn_list _ (fun rest _ s' => ∃ h' i, s' = { s with heap := h' } ∧ rest = (List.range eso.size).drop i ∧ i ≤ eso.size ∧ h'.DictOf knd d (merged kvs (more.take i)) ∧ h'.get? o = some oo ∧ Heap.SameBut d s.heap h') _ ?_ ?_ _ _ ⟨s.heap, 0, rfl, rfl, Nat.zero_le _, by simpa [merged] using hd, hoo, Heap.SameBut.refl _ _⟩
    · rintro x rest b s' ⟨h', i, rfl, hr, hi, hd', hoo', hs'⟩
      have hlt : i < eso.size := by
        rcases Nat.lt_or_ge i eso.size with h | h
        · exact h
        · rw [List.drop_eq_nil_of_le (by rw [List.length_range]; exact h)] at hr
          cases hr
      have hr2 := hr
      rw [List.drop_eq_getElem_cons (by rw [List.length_range]; exact hlt), List.getElem_range] at hr2
      injection hr2 with e1 e2
      subst e1
      obtain ⟨kv, hkv⟩ : ∃ kv, more[x]? = some kv := ⟨_, List.getElem?_eq_getElem (by rw [hlen]; exact hlt)⟩
      obtain ⟨k, v⟩ := kv
      obtain ⟨ik, ev⟩ := hpo.get? (e := eso[x]) (by simp [hlt]) hkv
      obtain ⟨k', ik', eh⟩ := hko eso[x] (Array.getElem_mem hlt)
      obtain rfl : k' = k := knd.inj _ _ _ ik' ik
      refine wpAny_bind (wpAny_dictEntries hoo' hdo' ?_)
      rw [Array.getElem?_eq_getElem hlt]
      have hmx : (merged kvs (more.take x)).length ≤ sizeLine := by
        have z1 := merged_length_le kvs (more.take x)
        have z2 : (more.take x).length ≤ more.length := by
          rw [List.length_take]
          omega
        omega
      refine wpAny_bind (wpAny_holding ?_)
      rw [eh, ev]
      refine put_pairs ik hd' hmx fun h2 hd2 hs2 => ?_
      have hoo2 : h2.get? o = some oo := (hs2.2 o (Ne.symm hdo)).trans hoo'
      refine wpAny_bind (wpAny_dictEpoch hoo2 hdo' ?_)
      rw [if_neg (by simp)]
      exact wpAny_pure ⟨h2, x + 1, rfl, e2, hlt, by rw [merged_take_succ kvs more x (k', v) hkv]; exact hd2, hoo2, hs'.trans hs2⟩
    · rintro b s' ⟨h', i, rfl, hr, hi, hd', hoo', hs'⟩
      have hin : i = eso.size := by
        rcases Nat.lt_or_ge i eso.size with h | h
        · rw [List.drop_eq_getElem_cons (by rw [List.length_range]; exact h)] at hr
          cases hr
        · omega
      refine wpAny_pure (hQ h' ?_ ⟨oo, eso, epo, hoo', hco, hdo', hko, hpo, hno⟩ hs')
      rw [hin, ← hlen, List.take_length] at hd'
      exact hd'
  refine wpAny_bind (wpAny_dictEntries hod hdd ?_)
  split
  · refine wpAny_bind (wpAny_dictEntries hoo hdo' (wpAny_bind ?_))
    rw [← Array.forIn_toList]
    refine wpAny_forIn_list _ (fun rest _ s' => s' = s ∧ ∀ e ∈ rest, e ∈ eso) _ ?_ ?_ _ _ ⟨rfl, fun e he => Array.mem_toList_iff.mp he⟩
    · rintro e rest b s' ⟨rfl, hm⟩
      obtain ⟨k, ik, _⟩ := hko e (hm e List.mem_cons_self)
      split
      · rename_i a ea
        rw [ea, noref] at ik
        cases ik
      · exact wpAny_pure ⟨rfl, fun e' he' => hm e' (List.mem_cons_of_mem _ he')⟩
    · rintro b s' ⟨rfl, _⟩
      exact loop
  · exact loop
theorem gather {D : Addr} (f : (Option (Sem Value) × Sem Value) → (Option Addr × List (Sem Value × Sem Value)) → Sem (ForInStep (Option Addr × List (Sem Value × Sem Value))))
    (hf : ∀ (p : Sem Value × Sem Value) (run : List (Sem Value × Sem Value)), run.length + 1 < 17 → f (some p.1, p.2) (some D, run) = pure (.yield (some D, run ++ [p]))) :
    ∀ (items run : List (Sem Value × Sem Value)), run.length + items.length < 17 → forIn (items.map fun p => (some p.1, p.2)) (some D, run) f = pure (some D, run ++ items)
  | [], run, _ => by simp
  | p :: r, run, h => by
    rw [List.length_cons] at h
    rw [List.map_cons, List.forIn_cons, hf p run (by omega), pure_bind]
    have z := gather f hf r (run ++ [p]) (by rw [List.length_append, List.length_singleton]; omega)
    simpa using z
theorem display_splat {t0 : Sem Value} {pairs : List (Sem Value × Sem Value)} {Q : Value → Shared → Prop} (h0 : pairs ≠ []) (hl : pairs.length ≤ 15)
    (h : wpAny (model prog w) A t0 (fun m s1 => wpAny (model prog w) A (mergeMapping s.heap.objs.size m false) (fun _ s2 => wpAny (model prog w) A (subDict pairs) (fun b s3 => wpAny (model prog w) A (mergeMapping s.heap.objs.size (.ref b) false) (fun _ s4 => Q (.ref s.heap.objs.size) s4) (fun _ _ => False) s3) E s2) (fun _ _ => False) s1) E { s with heap := s.heap.push { cls := .type "dict", data := .dict #[] } }) :
    wpAny (model prog w) A (dictDisplay ((none, t0) :: pairs.map fun p => (some p.1, p.2))) Q E s := by
  unfold dictDisplay
  dsimp only
  rw [List.forIn_cons]
  simp only [List.isEmpty_nil, if_true, pure_bind]
  refine wpAny_bind (wpAny_bind (wpAny_bind (wpAny_alloc (wpAny_bind (wpAny_holding (wpAny_mono h (fun m s1 h1 => ?_) fun _ _ e => e))))))
  refine wpAny_bind (wpAny_onRaise (wpAny_tryCatch (wpAny_onRaise (wpAny_holding (wpAny_mono h1 (fun _ s2 h2 => ?_) fun _ _ z => z.elim)))))
  refine wpAny_pure ?_
  dsimp only
  rw [gather _ (fun p run hr => by
    have z : ((run ++ [(p.1, p.2)]).length == 17) = false := by
      rw [List.length_append, List.length_singleton]
      exact beq_false_of_ne (by omega)
    simp only [z, Bool.false_eq_true, if_false]) pairs [] (by rw [List.length_nil]; omega)]
  refine wpAny_pure ?_
  have hne : ([] ++ pairs).isEmpty = false := by
    rw [List.nil_append]
    cases pairs with
    | nil => exact absurd rfl h0
    | cons _ _ => rfl
  simp only [hne, Bool.false_eq_true, if_false]
  refine wpAny_bind (wpAny_bind (wpAny_holding (wpAny_mono h2 (fun b s3 h3 => ?_) fun _ _ e => e)))
  refine wpAny_bind (wpAny_onRaise (wpAny_holding (wpAny_mono h3 (fun _ s4 h4 => ?_) fun _ _ z => z.elim)))
  exact wpAny_pure (wpAny_pure h4)
end
theorem zip_splat (e0 : Expr) (ks : List (Option Expr)) (vs : List Expr) (env : Env) (pos : Pos) (h : ks.all (·.isSome) = true) (hl : ks.length = vs.length) :
    (evalEachOpt (none :: ks) env).zip ((evalEach (e0 :: vs) env).map fun v => do let x ← v; standAt pos; pure x) = (none, do let x ← eval e0 env; standAt pos; pure x) :: (pairTrees ks vs env pos).map fun p => (some p.1, p.2) := by
  rw [← zip_pairTrees ks vs env pos h hl]
  rfl
theorem mix_noref (P : Program) (w : World) (k : Key) (a : Addr) : (mixKind P w).is k (.ref a) = false := by
  cases k <;> rfl
/-- {**d, k: v, ..} -/
def tSplat (te : TE) (trs : List (TE × TE)) : TE := fun σ H Q => ∀ p, H p = none → te σ (upd H p (.dK [])) fun x H1 => H1 p = some (.dK []) ∧ ∃ (o : Addr) (more : List (Key × V)), x = .ref o ∧ o ≠ p ∧ H1 o = some (.dK more) ∧ more.length ≤ 900 ∧
  ∀ q, (upd H1 p (.dK (mergeK [] more))) q = none → tPairs trs σ (upd (upd H1 p (.dK (mergeK [] more))) q (.dK [])) fun ps H2 => H2 q = some (.dK []) ∧ H2 p = some (.dK (mergeK [] more)) ∧ ∃ kvs : List (Key × V), ps = kvs.map (fun kv => (kV kv.1, kv.2)) ∧ kvs.length ≤ 15 ∧
    Q (.ref p) (upd (upd H2 q (.dK (mergeK [] kvs))) p (.dK (mergeK (mergeK [] more) (mergeK [] kvs))))
theorem pe_dsplat {X : Cx} {pos : Pos} {e0 : Expr} {te : TE} {keys : List (Option Expr)} {values : List Expr} {trs : List (TE × TE)} (he : PE X e0 te) (h : PPs X pos keys values trs) (hall : keys.all (·.isSome) = true) (hl : keys.length = values.length) (h0 : keys ≠ [])
    (h15 : keys.length ≤ 15) : PE X (.Dict (none :: keys) (e0 :: values) pos) (tSplat te trs) := by
  refine ⟨fun pins s σ H Q I q => ?_⟩
  have hn := I.hok.fresh (Nat.le_refl s.heap.objs.size)
  have I1 := I.laid (a := s.heap.objs.size) (o := .dK []) (h' := s.heap.push { cls := .type "dict", data := .dict #[] }) (t' := s.toks) (fun _ _ q => Heap.get?_push_of_some _ q) (Nat.le_refl _) (dk_empty s.heap I.big)
  have hn' := pairTrees_length keys values X.env pos hall hl
  rw [arm_eval_Dict, zip_splat _ _ _ _ _ hall hl]
  refine wpAny_bind (wpAny_standAt (display_splat (fun z => h0 (List.length_eq_zero_iff.mp (by rw [← hn', z]; rfl))) (by rw [hn']; exact h15) ?_))
  refine wpAny_bind (wpAny_mono (he.run pins _ σ _ _ I1 (q _ hn)) (fun m s1 z => wpAny_bind (wpAny_standAt (wpAny_pure ?_))) fun _ _ e => e)
  obtain ⟨x, H1, I2, rx, e1, o, more, ex, hop, e2, hm, q2⟩ := z
  subst ex
  obtain rfl : m = Value.ref o := rx
  obtain ⟨z1, n1, vs1, r1, dd1⟩ := dk_of I2.hok e1
  cases r1
  obtain ⟨z2, n2, vs2, r2, dd2⟩ := dk_of I2.hok e2
  have lr2 := Paired.length r2
  have big : sizeLine = 16777216 := rfl
  refine merge_map hop.symm n2 (mix_noref _ _) dd1 dd2 (by rw [List.length_nil]; omega) fun h1 hd1 ho1 hs1 => ?_
  have hex1 : ∃ b, h1.get? s.heap.objs.size = some b := let ⟨b, _, _, hq, _⟩ := hd1; ⟨b, hq⟩
  have lm : (mergeK [] more).length ≤ 900 := by
    have z := Kc.mergeK_le more []
    rw [List.length_nil] at z
    omega
  have I3 : Inv X pins σ (upd H1 s.heap.objs.size (.dK (mergeK [] more))) { s1 with heap := h1 } :=
    d_write (t' := s1.toks) I2 (by rw [e1]; exact True.intro) hs1 hex1 ⟨by omega, n1, _, KV.merge r2 .nil, hd1⟩
  have hnq := I3.hok.fresh (Nat.le_refl h1.objs.size)
  have pq : s.heap.objs.size ≠ h1.objs.size := ne_of_none upd_same hnq
  have I4 := I3.laid (a := h1.objs.size) (o := .dK []) (h' := h1.push { cls := .type "dict", data := .dict #[] }) (t' := s1.toks) (fun _ _ q => Heap.get?_push_of_some _ q) (Nat.le_refl _) (dk_empty h1 I3.big)
  refine wpAny_subDict (knd := mixKind X.prog X.w) (by rw [hn']; exact h15) (thn (h.run pins _ σ _ _ I4 (q2 _ hnq)) fun ws s2 ⟨ps, H2, I5, rel, e3, e4, kvs, ep, lk, q3⟩ => ?_)
  subst ep
  obtain ⟨rs, c, rk⟩ := carries_of (P := X.prog) (w := X.w) rel
  obtain ⟨z3, n3, vs3, r3, dd3⟩ := dk_of I5.hok e3
  cases r3
  refine ⟨rs, c, dd3, fun h2 hd2 hs2 => ?_⟩
  have lk2 : (mergeK [] kvs).length ≤ 15 := by
    have z := Kc.mergeK_le kvs []
    rw [List.length_nil] at z
    omega
  have hex2 : ∃ b, h2.get? h1.objs.size = some b := let ⟨b, _, _, hq, _⟩ := hd2; ⟨b, hq⟩
  have I6 : Inv X pins σ (upd H2 h1.objs.size (.dK (mergeK [] kvs))) { s2 with heap := h2, toks := s2.toks + ws.length } :=
    d_write (t' := s2.toks + ws.length) I5 (by rw [e3]; exact True.intro) hs2 hex2 ⟨by omega, n3, _, KV.merge rk .nil, hd2⟩
  have e5 : (upd H2 h1.objs.size (.dK (mergeK [] kvs))) s.heap.objs.size = some (.dK (mergeK [] more)) := by
    rw [upd_ne pq]
    exact e4
  obtain ⟨z5, n5, vs5, r5, dd5⟩ := dk_of I6.hok e5
  obtain ⟨z6, n6, vs6, r6, dd6⟩ := dk_of I6.hok (a := h1.objs.size) upd_same
  have lr5 := Paired.length r5
  have lr6 := Paired.length r6
  refine merge_map pq n6 (mix_noref _ _) dd5 dd6 (by omega) fun h3 hd3 ho3 hs3 => ?_
  have hex3 : ∃ b, h3.get? s.heap.objs.size = some b := let ⟨b, _, _, hq, _⟩ := hd3; ⟨b, hq⟩
  have lm2 : (mergeK (mergeK [] more) (mergeK [] kvs)).length ≤ 915 := by
    have z := Kc.mergeK_le (mergeK [] kvs) (mergeK [] more)
    omega
  refine ⟨.ref s.heap.objs.size, upd (upd H2 h1.objs.size (.dK (mergeK [] kvs))) s.heap.objs.size (.dK (mergeK (mergeK [] more) (mergeK [] kvs))), ?_, rfl, q3⟩
  exact d_write (s := { s2 with heap := h2, toks := s2.toks + ws.length }) (t' := s2.toks + ws.length) I6 (by rw [e5]; exact True.intro) hs3 hex3 ⟨by omega, n5, _, KV.merge r6 r5, hd3⟩
end Ku

/-! d.get(k) of a dict of the module; statements and expressions that are never reached -/
namespace Kk
open PySem PySem.Spec PyProof.Rows L2
theorem ps_no {X : Cx} {st : Stmt} : PS X st (fun _ _ _ => False) := ⟨fun _ _ _ _ _ _ h => h.elim⟩
theorem pss_no {X : Cx} {b : List Stmt} : PSs X b (fun _ _ _ => False) := ⟨fun _ _ _ _ _ _ h => h.elim⟩
theorem pe_no {X : Cx} {e : Expr} : PE X e (fun _ _ _ => False) := ⟨fun _ _ _ _ _ _ h => h.elim⟩
section
variable {X : Cx} {d : Addr} {es : Array DictEntry} {n : Nat}
def tKGet (K : PySem.W.Frag) (d : Addr) (to ty : TE) : TE := fun σ H Q => to σ H fun x H1 => x = .ref d ∧ ty σ H1 fun y H2 => ∃ (z : Str) (r : Option Value) (v : V), y = .str z ∧ PySem.W.nsIn K d z = some r ∧ RelV v (r.getD .none) ∧ Q v H2
theorem pe_kget {o e : Expr} {apos cpos : Pos} {to ty : TE} (D : KDict X.K X.w d es n) (ho : PE X o to) (he : PE X e ty) (m : M1 X o "get" apos e cpos) : PE X (.Call (.Attribute o "get" apos) [e] [] cpos) (tKGet X.K d to ty) := by
  refine ⟨fun pins s σ H Q I h => ?_⟩
  refine wpAny_Call_method m.base m.few m.line PySem.F.plainAttrs_dict PySem.F.slot_dict_get PySem.F.type_dict_get (thn (ho.run pins s σ H _ I h) fun u s1 ⟨x, H1, I1, rx, ex, q1⟩ => ?_)
  subst ex
  obtain rfl : u = Value.ref d := rx
  have M := PySem.W.mapOf_K (prog := X.prog) (w := X.w) I1.kIn D.at_ D.lit
  refine ⟨M.typeIs, M.noDict, ?_⟩
  rw [m.trees]
  refine Calls.callWith_builtin rfl (Calls.evalArgs_plain (Calls.spliced_cons (thn (he.run pins s1 σ H1 _ I1 q1) fun iv s2 ⟨y, H2, I2, ry, z, r, v, ey, e, rv, q2⟩ => Calls.spliced_nil ?_)))
  subst ey
  obtain ⟨t, rfl⟩ := (show ∃ t, iv = Value.str z t from ry)
  have M2 := PySem.W.mapOf_K (prog := X.prog) (w := X.w) I2.kIn D.at_ D.lit
  refine call_meetsIn PySem.F.slot_dict_get M2.typeIs PySem.F.entry_dict_get (PySem.F.args_dict_get_2 _ _) (meets_dict_get _ d (PySem.strKind_is X.prog X.w z t) D.low) ⟨_, M2, ?_⟩
  rw [PySem.W.find_K D.at_ e]
  exact ⟨v, H2, I2.tok _, rv, q2⟩
end
end Kk

/-! True > n, False > n; what is told of a number or a truth alike -/
namespace Kc
open PySem PySem.Spec PyProof.Rows L2
theorem sub_int_bool : isSubtype (.type "int") (.type "bool") = pure false := by kernel_rfl
theorem gives_gt_bi (p : Bool) (n : Int) (u : Tok) : Gives (Builtin.«int.__gt__» ⟨[.bool p, .int n u], []⟩) (.val (Value.bool (decide (b2i p > n)))) :=
  .of_wp fun M A E s Q h => by obtain ⟨hp, g, d, tk, os⟩ := s; wp_walk; exact ⟨_, rfl, h⟩
def rGtU : V → V → Hp → VK → Prop := fun x y H Q => (∃ i j : Int, x = .int i ∧ y = .int j ∧ Q (.bl (decide (i > j))) H) ∨ ∃ (a : Bool) (j : Int), x = .bl a ∧ y = .int j ∧ Q (.bl (decide (b2i a > j))) H
theorem op_gtBI {X : Cx} : OpR X (compareOp .Gt) rGtU := by
  intro pins s σ H x y v u Q I rx ry h
  rcases h with ⟨i, j, rfl, rfl, q⟩ | ⟨a, j, rfl, rfl, q⟩
  · exact op_gt pins s σ H _ _ v u Q I rx ry ⟨i, j, rfl, rfl, q⟩
  · cases rx
    obtain ⟨t, rfl⟩ := ry
    show wpAny _ _ (richCompare .Gt _ _) _ _ _
    refine wpAny_richCompare_left (typeIs_bool' s a) (typeIs_int s j t) (by decide) sub_int_bool F.slot_bool_gt (call_gives F.slot_bool_gt (typeIs_bool' s a) F.entry_int_gt (F.args_int_gt_2 _ _) (gives_gt_bi a j t) (Made.post_and (by intro hq; cases hq) (fin_bl I q rfl)))
end Kc

/-! helpers -/
namespace Kq
open PySem PySem.Spec PyProof.Rows L2 Kf Kg Kv Kk Ku
abbrev Non : Addr → Prop := fun _ => False
structure NmD (NS : List Str) (kvs : List (Key × V)) : Prop where
  nd : (kvs.map (·.1)).Nodup
  ns : ∀ k ∈ kvs.map (·.1), ∃ x ∈ NS, k = Sum.inr x
theorem nodup_le {α : Type} [DecidableEq α] : ∀ {xs ys : List α}, xs.Nodup → (∀ x ∈ xs, x ∈ ys) → xs.length ≤ ys.length
  | [], _, _, _ => Nat.zero_le _
  | x :: xs, ys, nd, h => by
    rw [List.nodup_cons] at nd
    have hx := h x List.mem_cons_self
    have z := nodup_le (xs := xs) (ys := ys.erase x) nd.2 fun y hy => (List.mem_erase_of_ne (fun e => nd.1 (by rw [← e]; exact hy))).mpr (h y (List.mem_cons_of_mem _ hy))
    rw [List.length_erase_of_mem hx] at z
    have := List.length_pos_of_mem hx
    rw [List.length_cons]
    omega
theorem NmD.len {NS : List Str} {kvs : List (Key × V)} (h : NmD NS kvs) : kvs.length ≤ NS.length := by
  have z := nodup_le (xs := kvs.map (·.1)) (ys := NS.map (Sum.inr : Str → Key)) h.nd fun k hk => by
    obtain ⟨x, hx, rfl⟩ := h.ns k hk
    exact List.mem_map.mpr ⟨x, hx, rfl⟩
  rw [List.length_map, List.length_map] at z
  exact z
theorem szBig {n : Nat} (h : n ≤ 200000) : n ≤ sizeLine := by
  show n ≤ 16777216
  omega
theorem keys_in {kvs : List (Key × V)} {k : Key} (v : V) (h : k ∈ kvs.map (·.1)) : (putK kvs k v).map (·.1) = kvs.map (·.1) := by
  have ha : (kvs.any fun kv => decide (kv.1 = k)) = true := by
    obtain ⟨p, hp, e⟩ := List.mem_map.mp h
    exact List.any_eq_true.mpr ⟨p, hp, decide_eq_true e⟩
  unfold putK
  rw [if_pos ha, List.map_map]
  refine List.map_congr_left fun p _ => ?_
  show (if p.1 = k then (p.1, v) else p).1 = p.1
  by_cases e : p.1 = k
  · rw [if_pos e]
  · rw [if_neg e]
theorem keys_out {kvs : List (Key × V)} {k : Key} (v : V) (h : ¬ k ∈ kvs.map (·.1)) : (putK kvs k v).map (·.1) = kvs.map (·.1) ++ [k] := by
  have ha : ¬ (kvs.any fun kv => decide (kv.1 = k)) = true := fun z => by
    obtain ⟨p, hp, e⟩ := List.any_eq_true.mp z
    exact h (List.mem_map.mpr ⟨p, hp, of_decide_eq_true e⟩)
  unfold putK
  rw [if_neg ha, List.map_append]
  rfl
theorem NmD.put {NS : List Str} {kvs : List (Key × V)} (h : NmD NS kvs) {x : Str} (hx : x ∈ NS) (v : V) : NmD NS (putK kvs (.inr x) v) := by
  by_cases c : (Sum.inr x : Key) ∈ kvs.map (·.1)
  · refine ⟨?_, fun k hk => ?_⟩
    · rw [keys_in v c]
      exact h.nd
    · rw [keys_in v c] at hk
      exact h.ns k hk
  · refine ⟨?_, fun k hk => ?_⟩
    · rw [keys_out v c]
      refine List.nodup_append.mpr ⟨h.nd, by simp, fun a ha b hb e => ?_⟩
      rw [List.mem_singleton] at hb
      exact c (by rw [← hb, ← e]; exact ha)
    · rw [keys_out v c] at hk
      rcases List.mem_append.mp hk with hk | hk
      · exact h.ns k hk
      · exact ⟨x, hx, List.mem_singleton.mp hk⟩
theorem NmD.nil {NS : List Str} : NmD NS [] := ⟨List.nodup_nil, fun k h => by cases h⟩
theorem NmD.merge {NS : List Str} : ∀ {more kvs : List (Key × V)}, NmD NS kvs → (∀ kv ∈ more, ∃ x ∈ NS, kv.1 = Sum.inr x) → NmD NS (mergeK kvs more)
  | [], kvs, h, _ => h
  | kv :: r, kvs, h, m => by
    obtain ⟨x, hx, e⟩ := m kv List.mem_cons_self
    show NmD NS (mergeK (putK kvs kv.1 kv.2) r)
    rw [e]
    exact NmD.merge (h.put hx _) fun k hk => m k (List.mem_cons_of_mem _ hk)
theorem merge_app : ∀ {more kvs : List (Key × V)}, ((kvs ++ more).map (·.1)).Nodup → mergeK kvs more = kvs ++ more
  | [], kvs, _ => by rw [List.append_nil]; rfl
  | kv :: r, kvs, h => by
    show mergeK (putK kvs kv.1 kv.2) r = _
    have hn : valV kvs kv.1 = none := by
      cases e : valV kvs kv.1 with
      | none => rfl
      | some v =>
        exfalso
        have z : (kvs.any fun p => decide (p.1 = kv.1)) = true := by rw [valV_any, e]; rfl
        obtain ⟨p, hp, e⟩ := List.any_eq_true.mp z
        rw [List.map_append] at h
        exact (List.nodup_append.mp h).2.2 p.1 (List.mem_map.mpr ⟨p, hp, rfl⟩) kv.1 (by simp) (of_decide_eq_true e)
    rw [putK_new _ hn, merge_app (by rw [List.append_assoc]; exact h), List.append_assoc]
    rfl
theorem NmD.same {NS : List Str} {kvs : List (Key × V)} (h : NmD NS kvs) : mergeK [] kvs = kvs := merge_app (more := kvs) (kvs := []) h.nd
theorem valV_merge (j : Key) : ∀ {more : List (Key × V)} {kvs : List (Key × V)}, (more.map (·.1)).Nodup → valV (mergeK kvs more) j = (valV more j).or (valV kvs j)
  | [], kvs, _ => rfl
  | kv :: r, kvs, h => by
    rw [List.map_cons, List.nodup_cons] at h
    show valV (mergeK (putK kvs kv.1 kv.2) r) j = _
    rw [valV_merge j h.2, valV_put]
    by_cases e : kv.1 = j
    · rw [valV_pos e, if_pos e.symm]
      have hn : valV r j = none := by
        cases e1 : valV r j with
        | none => rfl
        | some v =>
          exfalso
          have z : (r.any fun p => decide (p.1 = j)) = true := by rw [valV_any, e1]; rfl
          obtain ⟨p, hp, e2⟩ := List.any_eq_true.mp z
          exact h.1 (List.mem_map.mpr ⟨p, hp, (of_decide_eq_true e2).trans e.symm⟩)
      rw [hn]
      rfl
    · rw [valV_neg e, if_neg (fun z => e z.symm)]
section
variable {P : Program} {w : World} {K : PySem.W.Frag} {mg : Str → Option Value} {base : Heap}
theorem passV {X : Cx} {E : XK} (tk : Takes X (fun cls d _ H => E cls d H)) : Passes (L2.CX X.prog X.w) X E := fun pins σ H s e s' I c => passAt tk σ pins H s e s' I c
theorem noFnX {CX : CXT} {f : Addr} {fd : FuncData} {ps : List Str} {sp : Sp} {k : Nat} (no : ∀ vs H Q E, ¬ sp vs H Q E) : FnOk P w K mg base CX k f fd ps sp :=
  ⟨fun vs H Q E h => absurd h (no vs H Q E), fun A outer s H args us vs Q E _ _ _ _ h => absurd h (no vs H Q E)⟩
theorem upOk {CX : CXT} {j k : Nat} {f : Addr} {fd : FuncData} {ps : List Str} {sp : Sp} (F : FnOk P w K mg base CX j f fd ps sp) (h : j ≤ k) : FnOk P w K mg base CX k f fd ps sp :=
  ⟨F.len, fun A outer s H args us vs Q E hr => F.run A outer s H args us vs Q E (hr.mono h)⟩
theorem Dd.of2 {N : Addr → Prop} {H : Hp} {x : Str} {a : Dt} {v : V} (h : Dd N H (.tup [.str x, a]) v) : ∃ p u, v = .ref p ∧ H p = some (.tup [.str x, u]) ∧ Dd N H a u := by
  cases h with
  | tup e t =>
  cases t with
  | cons t1 t =>
  cases t with
  | cons t2 t =>
  cases t
  cases t1
  exact ⟨_, _, rfl, e, t2⟩
theorem Dd.of3 {N : Addr → Prop} {H : Hp} {x : Str} {a b : Dt} {v : V} (h : Dd N H (.tup [.str x, a, b]) v) : ∃ p u u', v = .ref p ∧ H p = some (.tup [.str x, u, u']) ∧ Dd N H a u ∧ Dd N H b u' := by
  cases h with
  | tup e t =>
  cases t with
  | cons t1 t =>
  cases t with
  | cons t2 t =>
  cases t with
  | cons t3 t =>
  cases t
  cases t1
  exact ⟨_, _, _, rfl, e, t2, t3⟩
theorem Dd.of4 {N : Addr → Prop} {H : Hp} {x : Str} {a b c : Dt} {v : V} (h : Dd N H (.tup [.str x, a, b, c]) v) : ∃ p u u' u'', v = .ref p ∧ H p = some (.tup [.str x, u, u', u'']) ∧ Dd N H a u ∧ Dd N H b u' ∧ Dd N H c u'' := by
  cases h with
  | tup e t =>
  cases t with
  | cons t1 t =>
  cases t with
  | cons t2 t =>
  cases t with
  | cons t3 t =>
  cases t with
  | cons t4 t =>
  cases t
  cases t1
  exact ⟨_, _, _, _, rfl, e, t2, t3, t4⟩
theorem Dd.of6 {N : Addr → Prop} {H : Hp} {x y z : Str} {a b c : Dt} {v : V} (h : Dd N H (.tup [.str x, a, b, .str y, .str z, c]) v) : ∃ p u u' u'', v = .ref p ∧ H p = some (.tup [.str x, u, u', .str y, .str z, u'']) ∧ Dd N H a u ∧ Dd N H b u' ∧ Dd N H c u'' := by
  cases h with
  | tup e t =>
  cases t with
  | cons t1 t =>
  cases t with
  | cons t2 t =>
  cases t with
  | cons t3 t =>
  cases t with
  | cons t4 t =>
  cases t with
  | cons t5 t =>
  cases t with
  | cons t6 t =>
  cases t
  cases t1
  cases t4
  cases t5
  exact ⟨_, _, _, _, rfl, e, t2, t3, t6⟩
end
def Okd (P : Program) (w : World) (K : PySem.W.Frag) (mg : Str → Option Value) (base : Heap) (CX : CXT) (k : Nat) (nm : Str) (ps : List Str) (sp : Sp) : Prop := ∃ f fd, FnOk P w K mg base CX k f fd ps sp ∧ Binds K fd ps [] ∧ mg nm = some (.ref f) ∧ PySem.W.keepIn K (.ref f) = true
def Dfn (K : PySem.W.Frag) (mg : Str → Option Value) (nm : Str) (st : Stmt) (ps : List Str) : Prop := ∃ f fd, Fun K nm nm st f fd ∧ Binds K fd ps [] ∧ mg nm = some (.ref f)
def Rdn (K : PySem.W.Frag) (dA : Addr) (x nm : Str) (st : Stmt) (ps : List Str) : Prop := ∃ f fd, Fun K nm nm st f fd ∧ Binds K fd ps [] ∧ PySem.W.nsIn K dA x = some (some (.ref f))
def Rok (P : Program) (w : World) (K : PySem.W.Frag) (mg : Str → Option Value) (base : Heap) (CX : CXT) (k : Nat) (dA : Addr) (x : Str) (ps : List Str) (sp : Sp) : Prop := ∃ f fd, FnOk P w K mg base CX k f fd ps sp ∧ Binds K fd ps [] ∧ PySem.W.nsIn K dA x = some (some (.ref f)) ∧ PySem.W.keepIn K (.ref f) = true
section
variable {P : Program} {w : World} {K : PySem.W.Frag} {mg : Str → Option Value} {base : Heap}
theorem Okd.up {CX : CXT} {j k : Nat} {nm : Str} {ps : List Str} {sp : Sp} (h : Okd P w K mg base CX j nm ps sp) (l : j ≤ k) : Okd P w K mg base CX k nm ps sp := by
  obtain ⟨f, fd, F, b, g, kp⟩ := h
  exact ⟨f, fd, upOk F l, b, g, kp⟩
theorem Rok.up {CX : CXT} {j k : Nat} {dA : Addr} {x : Str} {ps : List Str} {sp : Sp} (h : Rok P w K mg base CX j dA x ps sp) (l : j ≤ k) : Rok P w K mg base CX k dA x ps sp := by
  obtain ⟨f, fd, F, b, g, kp⟩ := h
  exact ⟨f, fd, upOk F l, b, g, kp⟩
theorem Dfn.ok {CX : CXT} {k : Nat} {nm : Str} {st : Stmt} {ps : List Str} {sp : Sp} (d : Dfn K mg nm st ps) (h : ∀ f fd, Fun K nm nm st f fd → FnOk P w K mg base CX k f fd ps sp) : Okd P w K mg base CX k nm ps sp := by
  obtain ⟨f, fd, F, b, g⟩ := d
  exact ⟨f, fd, h f fd F, b, g, F.kp⟩
theorem Rdn.ok {CX : CXT} {k : Nat} {dA : Addr} {x nm : Str} {st : Stmt} {ps : List Str} {sp : Sp} (d : Rdn K dA x nm st ps) (h : ∀ f fd, Fun K nm nm st f fd → FnOk P w K mg base CX k f fd ps sp) : Rok P w K mg base CX k dA x ps sp := by
  obtain ⟨f, fd, F, b, g⟩ := d
  exact ⟨f, fd, h f fd F, b, g, F.kp⟩
end
end Kq

/-! terms as trees, and their kinds -/
namespace Kq
open PySem PySem.Spec PyProof.Rows L2 Kf Kg Kv Kk Ku
def Kd.dt : Kd → Dt
  | .opn x => .tup [.str "open", .str x]
  | .num => .tup [.str "num"]
  | .tru => .tup [.str "truth"]
  | .pair a b => .tup [.str "pair", a.dt, b.dt]
  | .eith a b => .tup [.str "either", a.dt, b.dt]
  | .lst a => .tup [.str "list", a.dt]
  | .fn a b => .tup [.str "fun", a.dt, b.dt]
theorem rp_of {K : PySem.W.Frag} {N : Addr → Prop} {H : Hp} : ∀ {k : Kd} {v : V}, Dd N H k.dt v → Rp K H k v := by
  intro k
  induction k with
  | opn x =>
    intro v h
    obtain ⟨p, u, rfl, e, h1⟩ := Dd.of2 h
    cases h1
    exact ⟨p, rfl, .inl e⟩
  | num =>
    intro v h
    cases h with
    | tup e t =>
    cases t with
    | cons t1 t =>
    cases t
    cases t1
    exact ⟨_, rfl, .inl e⟩
  | tru =>
    intro v h
    cases h with
    | tup e t =>
    cases t with
    | cons t1 t =>
    cases t
    cases t1
    exact ⟨_, rfl, .inl e⟩
  | pair a b i j =>
    intro v h
    obtain ⟨p, u, u', rfl, e, h1, h2⟩ := Dd.of3 h
    exact ⟨p, u, u', rfl, .inl e, i h1, j h2⟩
  | eith a b i j =>
    intro v h
    obtain ⟨p, u, u', rfl, e, h1, h2⟩ := Dd.of3 h
    exact ⟨p, u, u', rfl, .inl e, i h1, j h2⟩
  | lst a i =>
    intro v h
    obtain ⟨p, u, rfl, e, h1⟩ := Dd.of2 h
    exact ⟨p, u, rfl, .inl e, i h1⟩
  | fn a b i j =>
    intro v h
    obtain ⟨p, u, u', rfl, e, h1, h2⟩ := Dd.of3 h
    exact ⟨p, u, u', rfl, .inl e, i h1, j h2⟩
inductive Tm where
  | name (x : Str)
  | fn (x : Str) (k : Kd) (t : Tm)
  | call (a b : Tm)
  | num (i : Int)
  | plus (a b : Tm)
  | less (a b : Tm)
  | tru (b : Bool)
  | iff (a b c : Tm)
  | pair (a b : Tm)
  | fst (a : Tm)
  | snd (a : Tm)
  | left (a : Tm) (k : Kd)
  | right (k : Kd) (a : Tm)
  | case (a : Tm) (x : Str) (b : Tm) (y : Str) (c : Tm)
  | none (k : Kd)
  | more (a b : Tm)
  | fold (a b : Tm) (x y : Str) (t : Tm)
  | built (k : Kd) (o x y : Str) (t : Tm)
  | alike (a b : Tm)
  | fault (k : Kd)
  | rounds (m : Int) (a : Tm) (x : Str) (t : Tm)
  | told (f : Str) (fs : List (Str × Kd))
def Tm.dt : Tm → Dt
  | .name x => .tup [.str "name", .str x]
  | .fn x k t => .tup [.str "fun", .str x, k.dt, t.dt]
  | .call a b => .tup [.str "call", a.dt, b.dt]
  | .num i => .tup [.str "num", .int i]
  | .plus a b => .tup [.str "plus", a.dt, b.dt]
  | .less a b => .tup [.str "less", a.dt, b.dt]
  | .tru b => .tup [.str "truth", .bl b]
  | .iff a b c => .tup [.str "if", a.dt, b.dt, c.dt]
  | .pair a b => .tup [.str "pair", a.dt, b.dt]
  | .fst a => .tup [.str "first", a.dt]
  | .snd a => .tup [.str "second", a.dt]
  | .left a k => .tup [.str "left", a.dt, k.dt]
  | .right k a => .tup [.str "right", k.dt, a.dt]
  | .case a x b y c => .tup [.str "case", a.dt, .str x, b.dt, .str y, c.dt]
  | .none k => .tup [.str "none", k.dt]
  | .more a b => .tup [.str "more", a.dt, b.dt]
  | .fold a b x y t => .tup [.str "fold", a.dt, b.dt, .str x, .str y, t.dt]
  | .built k o x y t => .tup [.str "built", k.dt, .str o, .str x, .str y, t.dt]
  | .alike a b => .tup [.str "alike", a.dt, b.dt]
  | .fault k => .tup [.str "fault", k.dt]
  | .rounds m a x t => .tup [.str "rounds", .int m, a.dt, .str x, t.dt]
  | .told f fs => .tup [.str "told", .str f, .tup (fs.map fun p => .tup [.str p.1, p.2.dt])]
def Tm.dp : Tm → Nat
  | .fn _ _ t => t.dp + 1
  | .call a b => max a.dp b.dp + 1
  | .plus a b => max a.dp b.dp + 1
  | .less a b => max a.dp b.dp + 1
  | .iff a b c => max (max a.dp b.dp) c.dp + 1
  | .pair a b => max a.dp b.dp + 1
  | .fst a => a.dp + 1
  | .snd a => a.dp + 1
  | .left a _ => a.dp + 1
  | .right _ a => a.dp + 1
  | .case a _ b _ c => max (max a.dp b.dp) c.dp + 1
  | .more a b => max a.dp b.dp + 1
  | .fold a b _ _ t => max (max a.dp b.dp) t.dp + 1
  | .built _ _ _ _ t => t.dp + 1
  | .alike a b => max a.dp b.dp + 1
  | .rounds _ a _ t => max a.dp t.dp + 1
  | _ => 0
/-- kinds of names -/
abbrev Ek := Str → Option Kd
def Ek.put (e : Ek) (x : Str) (k : Kd) : Ek := fun y => if y = x then some k else e y
def Ek.none : Ek := fun _ => Option.none
namespace Kd
def fnOf : Kd → Option (Kd × Kd)
  | .fn a b => some (a, b)
  | _ => Option.none
def prOf : Kd → Option (Kd × Kd)
  | .pair a b => some (a, b)
  | _ => Option.none
def eiOf : Kd → Option (Kd × Kd)
  | .eith a b => some (a, b)
  | _ => Option.none
def lsOf : Kd → Option Kd
  | .lst a => some a
  | _ => Option.none
def opOf : Kd → Option Str
  | .opn x => some x
  | _ => Option.none
def nmOf : Kd → Option Kd
  | .num => some .num
  | _ => Option.none
def trOf : Kd → Option Kd
  | .tru => some .tru
  | _ => Option.none
def daOf (k : Kd) : Option Kd := if k.isFn then Option.none else some k
end Kd
/-- an own name is met -/
def met (lk : List Str) (e : Ek) (o : Str) (k : Kd) : Prop := o ∈ lk ∨ o ∈ k.opens ∨ ∃ z q, e z = some q ∧ o ∈ q.opens
open Classical in
noncomputable def chk (lk : List Str) : Tm → Ek → Option Kd
  | .name x, e => e x
  | .fn x k t, e => (chk lk t (e.put x k)).map (Kd.fn k)
  | .call a b, e => ((chk lk a e).bind Kd.fnOf).bind fun p => (chk lk b e).bind fun y => if p.1 = y then some p.2 else Option.none
  | .num _, _ => some .num
  | .plus a b, e => ((chk lk a e).bind Kd.nmOf).bind fun _ => (chk lk b e).bind Kd.nmOf
  | .less a b, e => ((chk lk a e).bind Kd.nmOf).bind fun _ => ((chk lk b e).bind Kd.nmOf).bind fun _ => some .tru
  | .tru _, _ => some .tru
  | .iff a b c, e => ((chk lk a e).bind Kd.trOf).bind fun _ => (chk lk b e).bind fun y => (chk lk c e).bind fun z => if y = z then some y else Option.none
  | .pair a b, e => ((chk lk a e).bind Kd.daOf).bind fun y => ((chk lk b e).bind Kd.daOf).map fun z => .pair y z
  | .fst a, e => ((chk lk a e).bind Kd.prOf).map (·.1)
  | .snd a, e => ((chk lk a e).bind Kd.prOf).map (·.2)
  | .left a k, e => ((chk lk a e).bind Kd.daOf).map fun y => .eith y k
  | .right k a, e => ((chk lk a e).bind Kd.daOf).map fun y => .eith k y
  | .case a x b y c, e => ((chk lk a e).bind Kd.eiOf).bind fun s => (chk lk b (e.put x s.1)).bind fun p => (chk lk c (e.put y s.2)).bind fun q => if p = q then some p else Option.none
  | .none k, _ => some (.lst k)
  | .more a b, e => (chk lk a e).bind fun i => (chk lk b e).bind fun r => if Kd.lst i = r then some (.lst i) else Option.none
  | .fold a b x y t, e => ((chk lk a e).bind Kd.lsOf).bind fun i => ((chk lk b e).bind Kd.daOf).bind fun d => (chk lk t ((e.put x i).put y d)).bind fun r => if d = r then some d else Option.none
  | .built k o x y t, e => if met lk e o k then Option.none else (chk lk t ((e.put x (.fn k (.fn (.opn o) (.opn o)))).put y (.opn o))).bind fun r => if Kd.opn o = r then some (.lst k) else Option.none
  | .alike a b, e => ((chk lk a e).bind Kd.opOf).bind fun n => (chk lk b e).bind fun r => if Kd.opn n = r then (if n ∈ lk then some .tru else Option.none) else Option.none
  | .fault k, _ => some k
  | .rounds _ a x t, e => ((chk lk a e).bind Kd.daOf).bind fun d => ((chk lk t (e.put x d)).bind Kd.eiOf).bind fun s => if d = s.1 then some s.2 else Option.none
  | .told _ _, _ => Option.none
/-- no great kind -/
structure Gk (NO : List Str) (k : Kd) : Prop where
  dp : k.dp ≤ 50
  sz : k.size ≤ 900
  op : ∀ x ∈ k.opens, x ∈ NO
theorem Kd.size_pr (a b : Kd) : (Kd.pair a b).size = a.size + b.size + 1 := by
  show (a.nodes ++ b.nodes).length + 1 = _
  rw [List.length_append]
  rfl
theorem Kd.size_ei (a b : Kd) : (Kd.eith a b).size = a.size + b.size + 1 := by
  show (a.nodes ++ b.nodes).length + 1 = _
  rw [List.length_append]
  rfl
theorem Kd.size_ls (a : Kd) : (Kd.lst a).size = a.size + 1 := rfl
theorem Gk.fn1 {NO : List Str} {a b : Kd} (h : Gk NO (.fn a b)) : Gk NO a := ⟨by have := h.dp; rw [Kd.dp] at this; omega, by have := h.sz; rw [Kd.size_fn] at this; omega, fun x hx => h.op x (List.mem_append_left _ hx)⟩
theorem Gk.fn2 {NO : List Str} {a b : Kd} (h : Gk NO (.fn a b)) : Gk NO b := ⟨by have := h.dp; rw [Kd.dp] at this; omega, by have := h.sz; rw [Kd.size_fn] at this; omega, fun x hx => h.op x (List.mem_append_right _ hx)⟩
theorem Gk.pr1 {NO : List Str} {a b : Kd} (h : Gk NO (.pair a b)) : Gk NO a := ⟨by have := h.dp; rw [Kd.dp] at this; omega, by have := h.sz; rw [Kd.size_pr] at this; omega, fun x hx => h.op x (List.mem_append_left _ hx)⟩
theorem Gk.pr2 {NO : List Str} {a b : Kd} (h : Gk NO (.pair a b)) : Gk NO b := ⟨by have := h.dp; rw [Kd.dp] at this; omega, by have := h.sz; rw [Kd.size_pr] at this; omega, fun x hx => h.op x (List.mem_append_right _ hx)⟩
theorem Gk.ei1 {NO : List Str} {a b : Kd} (h : Gk NO (.eith a b)) : Gk NO a := ⟨by have := h.dp; rw [Kd.dp] at this; omega, by have := h.sz; rw [Kd.size_ei] at this; omega, fun x hx => h.op x (List.mem_append_left _ hx)⟩
theorem Gk.ei2 {NO : List Str} {a b : Kd} (h : Gk NO (.eith a b)) : Gk NO b := ⟨by have := h.dp; rw [Kd.dp] at this; omega, by have := h.sz; rw [Kd.size_ei] at this; omega, fun x hx => h.op x (List.mem_append_right _ hx)⟩
theorem Gk.ls {NO : List Str} {a : Kd} (h : Gk NO (.lst a)) : Gk NO a := ⟨by have := h.dp; rw [Kd.dp] at this; omega, by have := h.sz; rw [Kd.size_ls] at this; omega, h.op⟩
theorem Gk.num {NO : List Str} : Gk NO .num := ⟨by decide, by decide, fun x hx => by cases hx⟩
theorem Gk.tru {NO : List Str} : Gk NO .tru := ⟨by decide, by decide, fun x hx => by cases hx⟩
/-- names that kinds are made of -/
structure NoK (NO : List Str) : Prop where
  nd : NO.Nodup
  len : NO.length ≤ 40
  nm : ∀ x ∈ NO, Nm x
/-- no great kinds, names known, where a term is gone through -/
def Sml (lk NS NO : List Str) : Tm → Ek → Prop
  | .fn x k t, e => x ∈ NS ∧ Gk NO k ∧ Sml lk NS NO t (e.put x k) ∧ ∀ r, chk lk t (e.put x k) = some r → Gk NO (.fn k r)
  | .call a b, e => Sml lk NS NO a e ∧ ((chk lk a e).bind Kd.fnOf ≠ Option.none → Sml lk NS NO b e)
  | .plus a b, e => Sml lk NS NO a e ∧ ((chk lk a e).bind Kd.nmOf ≠ Option.none → Sml lk NS NO b e)
  | .less a b, e => Sml lk NS NO a e ∧ ((chk lk a e).bind Kd.nmOf ≠ Option.none → Sml lk NS NO b e)
  | .iff a b c, e => Sml lk NS NO a e ∧ Sml lk NS NO b e ∧ Sml lk NS NO c e
  | .pair a b, e => Sml lk NS NO a e ∧ Sml lk NS NO b e ∧ ∀ p q, chk lk a e = some p → chk lk b e = some q → Gk NO (.pair p q)
  | .fst a, e => Sml lk NS NO a e
  | .snd a, e => Sml lk NS NO a e
  | .left a k, e => Gk NO k ∧ Sml lk NS NO a e ∧ ∀ p, chk lk a e = some p → Gk NO (.eith p k)
  | .right k a, e => Gk NO k ∧ Sml lk NS NO a e ∧ ∀ p, chk lk a e = some p → Gk NO (.eith k p)
  | .case a x b y c, e => x ∈ NS ∧ y ∈ NS ∧ Sml lk NS NO a e ∧ ∀ l r, chk lk a e = some (.eith l r) → Sml lk NS NO b (e.put x l) ∧ Sml lk NS NO c (e.put y r)
  | .none k, _ => Gk NO (.lst k)
  | .more a b, e => Sml lk NS NO a e ∧ Sml lk NS NO b e ∧ ∀ p, chk lk a e = some p → Gk NO (.lst p)
  | .fold a b x y t, e => x ∈ NS ∧ y ∈ NS ∧ Sml lk NS NO a e ∧ Sml lk NS NO b e ∧ ∀ i d, chk lk a e = some (.lst i) → chk lk b e = some d → Sml lk NS NO t ((e.put x i).put y d)
  | .built k o x y t, e => x ∈ NS ∧ y ∈ NS ∧ o ∈ NO ∧ Gk NO (.lst k) ∧ Gk NO (.fn k (.fn (.opn o) (.opn o))) ∧ (¬ met lk e o k → Sml lk NS NO t ((e.put x (.fn k (.fn (.opn o) (.opn o)))).put y (.opn o)))
  | .alike a b, e => Sml lk NS NO a e ∧ Sml lk NS NO b e
  | .fault k, _ => Gk NO k
  | .name x, _ => x.length ≤ 100
  | .told f _, _ => f.length ≤ 100
  | .rounds _ a x t, e => x ∈ NS ∧ Sml lk NS NO a e ∧ ∀ d, chk lk a e = some d → Sml lk NS NO t (e.put x d)
  | _, _ => True
theorem sqT_same {K : PySem.W.Frag} {H G : Hp} {a : Addr} {xs : List V} (h : SqT K H a xs) (s : Same H G) : SqT K G a xs := by
  rcases h with h | h
  · rcases h with h | ⟨o, h⟩
    · exact .inl (.inl (s _ _ h))
    · exact .inl (.inr ⟨o, s _ _ h⟩)
  · exact .inr h
theorem put_gk {NO : List Str} {e : Ek} (h : ∀ y q, e y = some q → Gk NO q) {x : Str} {k : Kd} (hk : Gk NO k) : ∀ y q, (e.put x k) y = some q → Gk NO q := fun y q hy => by
  unfold Ek.put at hy
  split at hy
  · cases hy
    exact hk
  · exact h y q hy
theorem fnOf_eq {o : Option Kd} {p : Kd × Kd} (h : o.bind Kd.fnOf = some p) : o = some (.fn p.1 p.2) := by
  cases o with
  | none => cases h
  | some k => cases k <;> cases h; rfl
theorem prOf_eq {o : Option Kd} {p : Kd × Kd} (h : o.bind Kd.prOf = some p) : o = some (.pair p.1 p.2) := by
  cases o with
  | none => cases h
  | some k => cases k <;> cases h; rfl
theorem eiOf_eq {o : Option Kd} {p : Kd × Kd} (h : o.bind Kd.eiOf = some p) : o = some (.eith p.1 p.2) := by
  cases o with
  | none => cases h
  | some k => cases k <;> cases h; rfl
theorem lsOf_eq {o : Option Kd} {p : Kd} (h : o.bind Kd.lsOf = some p) : o = some (.lst p) := by
  cases o with
  | none => cases h
  | some k => cases k <;> cases h; rfl
theorem opOf_eq {o : Option Kd} {p : Str} (h : o.bind Kd.opOf = some p) : o = some (.opn p) := by
  cases o with
  | none => cases h
  | some k => cases k <;> cases h; rfl
theorem nmOf_eq {o : Option Kd} {p : Kd} (h : o.bind Kd.nmOf = some p) : o = some .num ∧ p = .num := by
  cases o with
  | none => cases h
  | some k => cases k <;> cases h; exact ⟨rfl, rfl⟩
theorem trOf_eq {o : Option Kd} {p : Kd} (h : o.bind Kd.trOf = some p) : o = some .tru ∧ p = .tru := by
  cases o with
  | none => cases h
  | some k => cases k <;> cases h; exact ⟨rfl, rfl⟩
theorem daOf_eq {o : Option Kd} {p : Kd} (h : o.bind Kd.daOf = some p) : o = some p ∧ p.isFn = false := by
  cases o with
  | none => cases h
  | some k =>
    have h : (if k.isFn = true then Option.none else some k) = some p := h
    by_cases c : k.isFn = true
    · rw [if_pos c] at h
      cases h
    · rw [if_neg c] at h
      cases h
      exact ⟨rfl, by simpa using c⟩
theorem if_eq {α : Type} {c : Prop} [Decidable c] {a b : α} (h : (if c then some a else Option.none) = some b) : c ∧ a = b := by
  by_cases z : c
  · rw [if_pos z] at h
    exact ⟨z, Option.some.inj h⟩
  · rw [if_neg z] at h
    cases h
/-- what is told is not great -/
theorem Sml.gk {lk NS NO : List Str} : ∀ {t : Tm} {e : Ek} {k : Kd}, Sml lk NS NO t e → (∀ y q, e y = some q → Gk NO q) → chk lk t e = some k → Gk NO k := by
  intro t
  induction t with
  | name x => exact fun s g h => g _ _ h
  | fn x k t i =>
    intro e r s g h
    obtain ⟨_, gk, st, hr⟩ := s
    rw [chk] at h
    obtain ⟨q, hq, rfl⟩ := Option.map_eq_some_iff.mp h
    exact hr q hq
  | call a b i j =>
    intro e r s g h
    rw [chk] at h
    obtain ⟨p, hp, h⟩ := Option.bind_eq_some_iff.mp h
    obtain ⟨y, hy, h⟩ := Option.bind_eq_some_iff.mp h
    rw [← (if_eq h).2]
    exact (i s.1 g (fnOf_eq hp)).fn2
  | num => intro e r s g h; rw [chk] at h; cases h; exact .num
  | plus a b i j =>
    intro e r s g h
    rw [chk] at h
    obtain ⟨p, hp, h⟩ := Option.bind_eq_some_iff.mp h
    rw [(nmOf_eq h).2]
    exact .num
  | less a b i j =>
    intro e r s g h
    rw [chk] at h
    obtain ⟨p, hp, h⟩ := Option.bind_eq_some_iff.mp h
    obtain ⟨q, hq, h⟩ := Option.bind_eq_some_iff.mp h
    cases h
    exact .tru
  | tru => intro e r s g h; rw [chk] at h; cases h; exact .tru
  | iff a b c i j l =>
    intro e r s g h
    rw [chk] at h
    obtain ⟨p, hp, h⟩ := Option.bind_eq_some_iff.mp h
    obtain ⟨y, hy, h⟩ := Option.bind_eq_some_iff.mp h
    obtain ⟨z, hz, h⟩ := Option.bind_eq_some_iff.mp h
    rw [← (if_eq h).2]
    exact j s.2.1 g hy
  | pair a b i j =>
    intro e r s g h
    rw [chk] at h
    obtain ⟨p, hp, h⟩ := Option.bind_eq_some_iff.mp h
    obtain ⟨q, hq, rfl⟩ := Option.map_eq_some_iff.mp h
    exact s.2.2 p q (daOf_eq hp).1 (daOf_eq hq).1
  | fst a i =>
    intro e r s g h
    rw [chk] at h
    obtain ⟨q, hq, rfl⟩ := Option.map_eq_some_iff.mp h
    exact (i s g (prOf_eq hq)).pr1
  | snd a i =>
    intro e r s g h
    rw [chk] at h
    obtain ⟨q, hq, rfl⟩ := Option.map_eq_some_iff.mp h
    exact (i s g (prOf_eq hq)).pr2
  | left a k i =>
    intro e r s g h
    rw [chk] at h
    obtain ⟨q, hq, rfl⟩ := Option.map_eq_some_iff.mp h
    exact s.2.2 q (daOf_eq hq).1
  | right k a i =>
    intro e r s g h
    rw [chk] at h
    obtain ⟨q, hq, rfl⟩ := Option.map_eq_some_iff.mp h
    exact s.2.2 q (daOf_eq hq).1
  | case a x b y c i j l =>
    intro e r s g h
    rw [chk] at h
    obtain ⟨p, hp, h⟩ := Option.bind_eq_some_iff.mp h
    obtain ⟨q, hq, h⟩ := Option.bind_eq_some_iff.mp h
    obtain ⟨z, hz, h⟩ := Option.bind_eq_some_iff.mp h
    rw [← (if_eq h).2]
    have hp := eiOf_eq hp
    obtain ⟨s1, s2⟩ := s.2.2.2 _ _ hp
    exact j s1 (put_gk g (i s.2.2.1 g hp).ei1) hq
  | none k => intro e r s g h; rw [chk] at h; cases h; exact s
  | more a b i j =>
    intro e r s g h
    rw [chk] at h
    obtain ⟨p, hp, h⟩ := Option.bind_eq_some_iff.mp h
    obtain ⟨q, hq, h⟩ := Option.bind_eq_some_iff.mp h
    rw [← (if_eq h).2]
    exact s.2.2 p hp
  | fold a b x y t i j l =>
    intro e r s g h
    rw [chk] at h
    obtain ⟨p, hp, h⟩ := Option.bind_eq_some_iff.mp h
    obtain ⟨q, hq, h⟩ := Option.bind_eq_some_iff.mp h
    obtain ⟨z, hz, h⟩ := Option.bind_eq_some_iff.mp h
    rw [← (if_eq h).2]
    exact j s.2.2.2.1 g (daOf_eq hq).1
  | built k o x y t i =>
    intro e r s g h
    rw [chk] at h
    by_cases c : met lk e o k
    · rw [if_pos c] at h
      cases h
    · rw [if_neg c] at h
      obtain ⟨q, hq, h⟩ := Option.bind_eq_some_iff.mp h
      rw [← (if_eq h).2]
      exact s.2.2.2.1
  | alike a b i j =>
    intro e r s g h
    rw [chk] at h
    obtain ⟨p, hp, h⟩ := Option.bind_eq_some_iff.mp h
    obtain ⟨q, hq, h⟩ := Option.bind_eq_some_iff.mp h
    split at h
    · rw [← (if_eq h).2]
      exact .tru
    · cases h
  | fault k => intro e r s g h; rw [chk] at h; cases h; exact s
  | rounds m a x t i j =>
    intro e r s g h
    rw [chk] at h
    obtain ⟨p, hp, h⟩ := Option.bind_eq_some_iff.mp h
    obtain ⟨q, hq, h⟩ := Option.bind_eq_some_iff.mp h
    rw [← (if_eq h).2]
    have hp := (daOf_eq hp).1
    exact (j (s.2.2 _ hp) (put_gk g (i s.2.1 g hp)) (eiOf_eq hq)).ei2
  | told f fs => intro e r s g h; rw [chk] at h; cases h
/-- kinds of names stand at d -/
def Ec (K : PySem.W.Frag) (NS NO : List Str) (H : Hp) (e : Ek) (d : Addr) : Prop := ∃ kvs, H d = some (.dK kvs) ∧ NmD NS kvs ∧ (∀ y, e y = Option.none → valV kvs (Sum.inr y) = Option.none) ∧ ∀ y k, e y = some k → Gk NO k ∧ ∃ v, valV kvs (Sum.inr y) = some v ∧ Rp K H k v
/-- what is settled stands at s -/
def Se (K : PySem.W.Frag) (H : Hp) (lk : List Str) (s : Addr) : Prop := ∃ a b, H s = some (.tup [.ref a, .ref b]) ∧ H a = some (.tup (lk.map V.str)) ∧ SqT K H b []
/-- all but the names' dict stays -/
def Ss (st : Addr) (H G : Hp) : Prop := ∀ b o, b ≠ st → H b = some o → G b = some o
theorem Ss.rfl {st : Addr} {H : Hp} : Ss st H H := fun _ _ _ e => e
theorem Ss.trans {st : Addr} {H G F : Hp} (a : Ss st H G) (b : Ss st G F) : Ss st H F := fun x o n e => b x o n (a x o n e)
theorem Ss.of {st : Addr} {H G : Hp} (s : Same H G) : Ss st H G := fun b o _ e => s b o e
/-- a new dict's -/
theorem Ss.new {st : Addr} {H G F : Hp} (h : H st = Option.none) (s : Same H G) (a : Ss st G F) : Same H F := fun b o e => a b o (ne_of_none e h) (s b o e)
def Ko (K : PySem.W.Frag) (cN d : Addr) : Option Kd → Hp → VK → XK → Prop
  | some k, H, Q, _ => ∀ (u : V) (G : Hp), Same H G → Rp K G k u → Q u G
  | Option.none, H, _, E => ∀ G : Hp, Ss d H G → E (.ref cN) none G
def spAt (K : PySem.W.Frag) (NS NO : List Str) (cN : Addr) (lk : List Str) (n : Nat) : Sp := fun vs H Q E => ∃ (vt : V) (d s : Addr) (t : Tm) (e : Ek), vs = [vt, .ref d, .ref s] ∧ Dd Non H t.dt vt ∧ Ec K NS NO H e d ∧ Se K H lk s ∧ t.dp < n ∧ Sml lk NS NO t e ∧ Ko K cN d (chk lk t e) H Q E
section
variable {K : PySem.W.Frag} {NS NO lk : List Str} {H G : Hp} {e : Ek} {d s cN : Addr}
theorem Ec.same (h : Ec K NS NO H e d) (sm : Same H G) : Ec K NS NO G e d := by
  obtain ⟨kvs, h1, h2, h3, h4⟩ := h
  refine ⟨kvs, sm _ _ h1, h2, h3, fun y k hy => ?_⟩
  obtain ⟨g, v, e1, e2⟩ := h4 y k hy
  exact ⟨g, v, e1, e2.tk (.of sm)⟩
theorem Se.same (h : Se K H lk s) (sm : Same H G) : Se K G lk s := by
  obtain ⟨a, b, h1, h2, h3⟩ := h
  exact ⟨a, b, sm _ _ h1, sm _ _ h2, sqT_same h3 sm⟩
theorem Ko.same {o : Option Kd} {Q : VK} {E : XK} (q : Ko K cN d o H Q E) (sm : Same H G) : Ko K cN d o G Q E := by
  cases o with
  | none => exact fun F s1 => q F (Ss.trans (.of sm) s1)
  | some k => exact fun u F s1 r => q u F (sm.trans s1) r
theorem Ko.mk {o : Option Kd} {Q : VK} {E : XK} (h1 : ∀ k, o = some k → ∀ (u : V) (G : Hp), Same H G → Rp K G k u → Q u G) (h2 : o = Option.none → ∀ G : Hp, Ss d H G → E (.ref cN) none G) : Ko K cN d o H Q E := by
  cases o with
  | none => exact h2 rfl
  | some k => exact h1 k rfl
theorem Ko.ok {o : Option Kd} {k : Kd} {Q : VK} {E : XK} (q : Ko K cN d o H Q E) (e : o = some k) {u : V} {G : Hp} (s : Same H G) (r : Rp K G k u) : Q u G := by
  subst e
  exact q u G s r
theorem Ko.no {o : Option Kd} {Q : VK} {E : XK} (q : Ko K cN d o H Q E) (e : o = Option.none) {G : Hp} (s : Ss d H G) : E (.ref cN) none G := by
  subst e
  exact q G s
theorem Ec.gk (h : Ec K NS NO H e d) {y : Str} {k : Kd} (hy : e y = some k) : Gk NO k := by
  obtain ⟨kvs, h1, h2, h3, h4⟩ := h
  exact (h4 y k hy).1
end
end Kq

/-! names put to kinds; need, need_same -/
namespace Kq
open PySem PySem.Spec PyProof.Rows L2 Kf Kg Kv Kk Ku
def puts (e : Ek) (xs : List (Str × Kd × V)) : Ek := xs.foldl (fun e x => e.put x.1 x.2.1) e
def RE (P : Kd → V → Prop) (kvs : List (Key × V)) (e : Ek) : Prop := (∀ y, e y = none → valV kvs (Sum.inr y) = none) ∧ ∀ y k, e y = some k → ∃ v, valV kvs (Sum.inr y) = some v ∧ P k v
theorem RE.mg {P : Kd → V → Prop} : ∀ {xs : List (Str × Kd × V)} {acc : List (Key × V)} {e : Ek}, (∀ x ∈ xs, P x.2.1 x.2.2) → RE P acc e → RE P (mergeK acc (xs.map fun x => (Sum.inr x.1, x.2.2))) (puts e xs)
  | [], _, _, _, h => h
  | x :: xs, acc, e, hx, h => by
    refine RE.mg (xs := xs) (fun y hy => hx y (List.mem_cons_of_mem _ hy)) ⟨fun y hy => ?_, fun y k hy => ?_⟩
    · have hy : (if y = x.1 then some x.2.1 else e y) = none := hy
      rw [valV_put]
      show (if Sum.inr y = Sum.inr x.1 then some x.2.2 else valV acc (Sum.inr y)) = none
      by_cases c : y = x.1
      · rw [if_pos c] at hy
        cases hy
      · rw [if_neg c] at hy
        rw [if_neg (fun z => c (Sum.inr.inj z))]
        exact h.1 y hy
    · have hy : (if y = x.1 then some x.2.1 else e y) = some k := hy
      rw [valV_put]
      show ∃ v, (if Sum.inr y = Sum.inr x.1 then some x.2.2 else valV acc (Sum.inr y)) = some v ∧ P k v
      by_cases c : y = x.1
      · rw [if_pos c] at hy
        cases hy
        rw [if_pos (by rw [c])]
        exact ⟨_, rfl, hx x List.mem_cons_self⟩
      · rw [if_neg c] at hy
        rw [if_neg (fun z => c (Sum.inr.inj z))]
        exact h.2 y k hy
theorem puts_or : ∀ (xs : List (Str × Kd × V)) (e : Ek) (y : Str), puts e xs y = (puts Ek.none xs y).or (e y)
  | [], e, y => by show e y = (none).or (e y); rfl
  | x :: xs, e, y => by
    show puts (e.put x.1 x.2.1) xs y = (puts (Ek.none.put x.1 x.2.1) xs y).or (e y)
    rw [puts_or xs (e.put x.1 x.2.1) y, puts_or xs (Ek.none.put x.1 x.2.1) y]
    cases puts Ek.none xs y with
    | some k => rfl
    | none =>
      show (e.put x.1 x.2.1) y = ((Ek.none.put x.1 x.2.1) y).or (e y)
      unfold Ek.put
      by_cases c : y = x.1
      · rw [if_pos c, if_pos c]
        rfl
      · rw [if_neg c, if_neg c]
        rfl
section
variable {P : Program} {w : World} {K : PySem.W.Frag} {mg : Str → Option Value} {base : Heap} {NS NO lk : List Str} {cN : Addr}
theorem splatC {H : Hp} {σ : L2.St} {Q : VK} {i : Nat} {d : Addr} {e : Ek} {trs : List (TE × TE)} (he : Ec K NS NO H e d) (hn : NS.length ≤ 400) (si : σ[i]? = some (some (.ref d)))
    (h : ∀ (G : Hp) (T : List (V × V) → Hp → Prop), Same H G → (∀ (xs : List (Str × Kd × V)) (F : Hp), Same G F → xs.length ≤ 2 → (∀ x ∈ xs, x.1 ∈ NS ∧ Gk NO x.2.1 ∧ Rp K F x.2.1 x.2.2) → (∀ p F2, H p = none → Same H F2 → Ec K NS NO F2 (puts e xs) p → Q (.ref p) F2) → T (xs.map fun x => (.str x.1, x.2.2)) F) → tPairs trs σ G T) : tSplat (tVar i) trs σ H Q := by
  obtain ⟨more, hd, nm, l1, l2⟩ := he
  intro p np
  have s1 := newS (o := .dK []) np
  have ln := nm.len
  refine ⟨_, si, upd_same, d, more, rfl, (ne_of_none hd np), s1 _ _ hd, by omega, fun q nq => ?_⟩
  have qp : p ≠ q := fun z => by rw [← z, upd_same] at nq; cases nq
  have nq0 : H q = Option.none := by rw [upd_ne qp.symm, upd_ne qp.symm] at nq; exact nq
  refine h _ _ (smk (smk (smk (Same.refl H) np) np) nq0) fun xs F sF hl hx qq => ?_
  have gq : F q = some (.dK []) := sF _ _ upd_same
  have gp : F p = some (.dK (mergeK [] more)) := sF _ _ (by rw [upd_ne qp, upd_same])
  have sHF : Same H F := (smk (smk (smk (Same.refl H) np) np) nq0).trans sF
  have tF : Tk F (upd (upd F q (.dK (mergeK [] (xs.map fun x => ((Sum.inr x.1 : Key), x.2.2))))) p (.dK (mergeK (mergeK [] more) (mergeK [] (xs.map fun x => ((Sum.inr x.1 : Key), x.2.2)))))) := (Tk.rfl.put (fun _ z => by rw [gq] at z; cases z)).put (fun _ z => by rw [gp] at z; cases z)
  have sE : Same H (upd (upd F q (.dK (mergeK [] (xs.map fun x => ((Sum.inr x.1 : Key), x.2.2))))) p (.dK (mergeK (mergeK [] more) (mergeK [] (xs.map fun x => ((Sum.inr x.1 : Key), x.2.2)))))) := smk (smk sHF nq0) np
  refine ⟨gq, gp, xs.map fun x => (Sum.inr x.1, x.2.2), by rw [List.map_map]; rfl, by rw [List.length_map]; omega, qq p _ np sE ?_⟩
  have nk : NmD NS (mergeK [] (xs.map fun x => ((Sum.inr x.1 : Key), x.2.2))) := NmD.nil.merge fun kv hk => by
    obtain ⟨x, hx2, rfl⟩ := List.mem_map.mp hk
    exact ⟨x.1, (hx x hx2).1, rfl⟩
  have r0 : RE (fun k v => Gk NO k ∧ Rp K F k v) (mergeK [] (xs.map fun x => ((Sum.inr x.1 : Key), x.2.2))) (puts Ek.none xs) := RE.mg (fun x hx2 => (hx x hx2).2) ⟨fun y _ => rfl, fun y k z => by cases z⟩
  refine ⟨_, upd_same, ?_, fun y hy => ?_, fun y k hy => ?_⟩
  · rw [nm.same]
    exact nm.merge fun kv hk => nk.ns _ (List.mem_map.mpr ⟨kv, hk, rfl⟩)
  · rw [nm.same, valV_merge _ nk.nd]
    rw [puts_or] at hy
    cases c : puts Ek.none xs y with
    | some k0 => rw [c] at hy; cases hy
    | none =>
      rw [c] at hy
      rw [r0.1 y c, l1 y hy]
      rfl
  · rw [nm.same] at tF
    rw [nm.same, valV_merge _ nk.nd]
    rw [puts_or] at hy
    cases c : puts Ek.none xs y with
    | some k0 =>
      rw [c] at hy
      obtain rfl : k0 = k := Option.some.inj hy
      obtain ⟨v, e1, g1, e2⟩ := r0.2 y k0 c
      exact ⟨g1, v, by rw [e1]; rfl, e2.tk tF⟩
    | none =>
      rw [c] at hy
      obtain ⟨g1, v, e1, e2⟩ := l2 y k hy
      exact ⟨g1, v, by rw [r0.1 y c, e1]; rfl, (e2.tk (.of sHF)).tk tF⟩
end
end Kq

/-! need, need_same, data_at, formed_at -/
namespace Kq
open PySem PySem.Spec PyProof.Rows L2 Kf Kg Kv Kk Ku
/-- the class NoKind, as the written part has it -/
structure XN (K : PySem.W.Frag) (mg : Str → Option Value) (cM : Addr) : Prop where
  gP : mg "NoKind" = some (.ref cM)
  xP : PySem.W.excIn K cM [.type "ValueError", .type "Exception", .type "BaseException", .type "object"] "ValueError.__new__" = true
  kP : PySem.W.keepIn K (.ref cM) = true
  bP : PySem.W.subIn K (.ref cM) (.type "BaseException") = some true
  tP : PySem.W.typeIn K (.ref cM) = some (.type "type")
def spNeed (cN : Addr) : Sp := fun vs H Q E => ∃ (b : Bool) (u : V), vs = [.bl b, u] ∧ (b = true → Q .non H) ∧ (b = false → E (.ref cN) none H)
def spSame (K : PySem.W.Frag) (cN : Addr) (NO : List Str) : Sp := fun vs H Q E => ∃ (v1 v2 u : V) (a b : Kd), vs = [v1, v2, u] ∧ Rp K H a v1 ∧ Rp K H b v2 ∧ Gk NO a ∧ Gk NO b ∧ (a = b → Q v1 H) ∧ (a ≠ b → E (.ref cN) none H)
def spData (K : PySem.W.Frag) (NS NO : List Str) (cN : Addr) (lk : List Str) (n : Nat) : Sp := fun vs H Q E => ∃ (vt : V) (d s : Addr) (t : Tm) (e : Ek), vs = [vt, .ref d, .ref s] ∧ Dd Non H t.dt vt ∧ Ec K NS NO H e d ∧ Se K H lk s ∧ t.dp < n ∧ Sml lk NS NO t e ∧ Ko K cN d ((chk lk t e).bind Kd.daOf) H Q E
def wrd (w : Str) (k : Kd) : Option Kd := if k.word = w then some k else none
def spFormed (K : PySem.W.Frag) (NS NO : List Str) (cN : Addr) (lk : List Str) (n : Nat) : Sp := fun vs H Q E => ∃ (w : Str) (vt : V) (d s : Addr) (t : Tm) (e : Ek), vs = [.str w, vt, .ref d, .ref s] ∧ w.length ≤ 100 ∧ Dd Non H t.dt vt ∧ Ec K NS NO H e d ∧ Se K H lk s ∧ t.dp < n ∧ Sml lk NS NO t e ∧ Ko K cN d ((chk lk t e).bind (wrd w)) H Q E
theorem Rp.wd {K : PySem.W.Frag} {H : Hp} {k : Kd} {v : V} (h : Rp K H k v) : ∃ a vs, v = .ref a ∧ SqT K H a (.str k.word :: vs) := by
  obtain ⟨a, vs, e, g, _⟩ := h.see
  exact ⟨a, vs, e, g.t⟩
theorem no3 {x : Str} (h : x.length ≤ 100) : (Str.empty ++ Str.ofString "no " ++ x).length ≤ sizeLine := by
  have e : ((Str.empty ++ Str.ofString "no " : Str)).length = 3 := by decide +kernel
  rw [strLen_append, e]
  exact sz (by omega)
section
variable {P : Program} {w : World} {K : PySem.W.Frag} {mg : Str → Option Value} {base : Heap} {NS NO lk : List Str} {cN : Addr}
abbrev tNeed : Stmt := tp 52
abbrev nNeed : List Str := ["held", "why"]
abbrev psNeed : List Str := ["held", "why"]
theorem scNeed : FnScope nNeed psNeed (defScope tNeed) := ⟨rfl, rfl, rfl, by decide +kernel, rfl, by decide +kernel, by decide +kernel⟩
theorem okNeed {f : Addr} {fd : FuncData} {k n : Nat} (F : Fun K "need" "need" tNeed f fd) (xm : XN K mg cN) : FnOk P w K mg base (L2.CX P w) (k + 1) f fd psNeed (spNeed cN) := by
  refine F.okX scNeed (fun vs H Q E h => ?_) (fun cdv A outer s H vs Q E hr h => ?_)
  · obtain ⟨b, u, rfl, _⟩ := h
    rfl
  obtain ⟨b, u, rfl, q1, q2⟩ := h
  refine ⟨_, pss_one (ps_if (pt_not (pt_val (pv 0))) (pss_one (ps_raise rfl (takes_of rfl rfl rfl rfl) (SkE.pmk_own1 PySem.F.excBase_ValueError xm.xP xm.gP xm.kP (raises_own xm.bP xm.tP) rfl (pv 1)))) pss_nil), ?_⟩
  refine ⟨_, rfl, _, rfl, ite2 (fun c => ?_) (fun c => ?_)⟩
  · exact ⟨_, rfl, q2 (by simpa using c)⟩
  · exact q1 (by simpa using c)
abbrev tNeedSame : Stmt := tp 53
abbrev nNeedSame : List Str := ["one", "other", "why"]
abbrev psNeedSame : List Str := ["one", "other", "why"]
theorem scNeedSame : FnScope nNeedSame psNeedSame (defScope tNeedSame) := ⟨rfl, rfl, rfl, by decide +kernel, rfl, by decide +kernel, by decide +kernel⟩
theorem okNeedSame {f : Addr} {fd : FuncData} {k n : Nat} (F : Fun K "need_same" "need_same" tNeedSame f fd) (NK : NoK NO)
    (DN : Okd P w K mg base (L2.CX P w) (k) "need" ["held", "why"] (spNeed cN)) : FnOk P w K mg base (L2.CX P w) (k + 1) f fd psNeedSame (spSame K cN NO) := by
  obtain ⟨fN, fdN, GN, bN, gN, kN⟩ := DN
  refine F.okX scNeedSame (fun vs H Q E h => ?_) (fun cdv A outer s H vs Q E hr h => ?_)
  · obtain ⟨v1, v2, u, a, b, rfl, _⟩ := h
    rfl
  obtain ⟨v1, v2, u, a, b, rfl, h1, h2, g1, g2, q1, q2⟩ := h
  refine ⟨_, pss_cons (ps_expr (pe_callS GN hr (by rfl) gN kN bN (fun σ => passAt (takes_of rfl rfl rfl rfl) σ) (pa_cons (pe_cmpR (op_eqD hr.units) (pv 0) (pv 1) (nomark _)) (pa_cons (pv 2) pa_nil))))
    (pss_one (ps_ret (pv 0))), ?_⟩
  have s1 := shT (fun x hx => NK.nm x (g1.op x hx)) g1.dp
  have s2 := shT (fun x hx => NK.nm x (g2.op x hx)) g2.dp
  refine ⟨_, rfl, _, rfl, _, _, dpT K h1, dpT K h2, s1.1, s2.1, _, rfl, _, _, rfl, fun c => ?_, fun c => ?_⟩
  · exact ⟨_, rfl, q1 ((eqv_iff s1.2).mp c)⟩
  · exact q2 fun e => by
      rw [(eqv_iff s1.2).mpr e] at c
      cases c
abbrev tDataAt : Stmt := tp 54
abbrev nDataAt : List Str := ["term", "names", "settled", "kind"]
abbrev psDataAt : List Str := ["term", "names", "settled"]
theorem scDataAt : FnScope nDataAt psDataAt (defScope tDataAt) := ⟨rfl, rfl, rfl, by decide +kernel, rfl, by decide +kernel, by decide +kernel⟩
theorem okDataAt {f : Addr} {fd : FuncData} {k n : Nat} (F : Fun K "data_at" "data_at" tDataAt f fd)
    (DN : Okd P w K mg base (L2.CX P w) (k) "need" ["held", "why"] (spNeed cN))
    (DL : Okd P w K mg base CX0 (k) "leads" ["kind"] (spLeads K))
    (DK : Okd P w K mg base (L2.CX P w) (k) "kind_at" ["term", "names", "settled"] (spAt K NS NO cN lk n)) : FnOk P w K mg base (L2.CX P w) (k + 1) f fd psDataAt (spData K NS NO cN lk n) := by
  obtain ⟨fN, fdN, GN, bN, gN, kN⟩ := DN
  obtain ⟨fL, fdL, GL, bL, gL, kL⟩ := DL
  obtain ⟨fK, fdK, GK, bK, gK, kK⟩ := DK
  refine F.okX scDataAt (fun vs H Q E h => ?_) (fun cdv A outer s H vs Q E hr h => ?_)
  · obtain ⟨vt, d, s, t, e, rfl, _⟩ := h
    rfl
  obtain ⟨vt, d, s, t, e, rfl, dd, ec, se, hp, sm, q⟩ := h
  refine ⟨_, pss_cons (ps_set (i := 3) scDataAt.nd rfl (.inl rfl) (pe_callS GK hr (by rfl) gK kK bK (fun σ => passAt (takes_of rfl rfl rfl rfl) σ) (pa_cons (pv 0) (pa_cons (pv 1) (pa_cons (pv 2) pa_nil)))))
    (pss_cons (ps_expr (pe_callS GN hr (by rfl) gN kN bN (fun σ => passAt (takes_of rfl rfl rfl rfl) σ) (pa_cons (pe_not (pe_call GL hr (by rfl) gL kL bL .nil pass0 (pa_cons (pv 3) pa_nil))) (pa_cons pe_str pa_nil))))
    (pss_one (ps_ret (pv 3)))), ?_⟩
  refine ⟨_, rfl, _, rfl, _, rfl, vt, d, s, t, e, rfl, dd, ec, se, hp, sm, .mk (fun k hk u G sG r => ?_) (fun hk G sG => q.no (by rw [hk]; rfl) sG)⟩
  refine ⟨_, rfl, u, k, rfl, r, ?_⟩
  refine ⟨_, rfl, _, _, rfl, fun c => ⟨_, rfl, ?_⟩, fun c => ?_⟩
  · exact q.ok (by rw [hk]; show (if k.isFn = true then none else some k) = _; rw [if_neg (by simpa using c)]) sG r
  · exact q.no (by rw [hk]; show (if k.isFn = true then none else some k) = _; rw [if_pos (by simpa using c)]) (.of sG)
abbrev tFormedAt : Stmt := tp 55
abbrev nFormedAt : List Str := ["word", "term", "names", "settled", "kind"]
abbrev psFormedAt : List Str := ["word", "term", "names", "settled"]
theorem scFormedAt : FnScope nFormedAt psFormedAt (defScope tFormedAt) := ⟨rfl, rfl, rfl, by decide +kernel, rfl, by decide +kernel, by decide +kernel⟩
theorem okFormedAt {f : Addr} {fd : FuncData} {k n : Nat} (F : Fun K "formed_at" "formed_at" tFormedAt f fd)
    (DN : Okd P w K mg base (L2.CX P w) (k) "need" ["held", "why"] (spNeed cN))
    (DK : Okd P w K mg base (L2.CX P w) (k) "kind_at" ["term", "names", "settled"] (spAt K NS NO cN lk n)) : FnOk P w K mg base (L2.CX P w) (k + 1) f fd psFormedAt (spFormed K NS NO cN lk n) := by
  obtain ⟨fN, fdN, GN, bN, gN, kN⟩ := DN
  obtain ⟨fK, fdK, GK, bK, gK, kK⟩ := DK
  refine F.okX scFormedAt (fun vs H Q E h => ?_) (fun cdv A outer s H vs Q E hr h => ?_)
  · obtain ⟨x, vt, d, s, t, e, rfl, _⟩ := h
    rfl
  obtain ⟨x, vt, d, s, t, e, rfl, hx, dd, ec, se, hp, sm, q⟩ := h
  refine ⟨_, pss_cons (ps_set (i := 4) scFormedAt.nd rfl (.inl rfl) (pe_callS GK hr (by rfl) gK kK bK (fun σ => passAt (takes_of rfl rfl rfl rfl) σ) (pa_cons (pv 1) (pa_cons (pv 2) (pa_cons (pv 3) pa_nil)))))
    (pss_cons (ps_expr (pe_callS GN hr (by rfl) gN kN bN (fun σ => passAt (takes_of rfl rfl rfl rfl) σ) (pa_cons (pe_cmpR op_eq (pe_ix ix_tup (pv 4) pe_int (fun _ _ => rfl)) (pv 0) (nomark _)) (pa_cons (pe_joined (.cons pe_str (.cons (pe_fmt (pv 0)) .nil))) pa_nil))))
    (pss_one (ps_ret (pv 4)))), ?_⟩
  refine ⟨_, rfl, _, rfl, _, rfl, vt, d, s, t, e, rfl, dd, ec, se, hp, sm, .mk (fun k hk u G sG r => ?_) (fun hk G sG => q.no (by rw [hk]; rfl) sG)⟩
  obtain ⟨a, us, rfl, ga⟩ := r.wd (K := K)
  refine ⟨_, rfl, a, _, _, _, rfl, rfl, ga, atI_nat (j := 0) rfl, _, rfl, rfl, _, rfl, by decide +kernel, _, rfl, .inl ⟨x, rfl, sz (by omega), _, rfl, no3 hx, ?_⟩⟩
  refine ⟨_, _, rfl, fun c => ⟨_, rfl, ?_⟩, fun c => ?_⟩
  · exact q.ok (by rw [hk]; show wrd x k = _; unfold wrd; rw [if_pos (V.str.inj (of_decide_eq_true c))]) sG r
  · exact q.no (by rw [hk]; show wrd x k = _; unfold wrd; rw [if_neg (fun z => of_decide_eq_false c (by rw [z]))]) (.of sG)
end
end Kq

/-! the rules -/
namespace Kq
open PySem PySem.Spec PyProof.Rows L2 Kf Kg Kv Kk Ku
theorem jn1 {x : Str} (h : x.length ≤ 100) : (Str.empty ++ x).length ≤ sizeLine := by
  have e : (Str.empty : Str).length = 0 := by decide +kernel
  rw [strLen_append, e]
  exact sz (by omega)
theorem jn2 {x : Str} (h : x.length ≤ 100) : (Str.empty ++ x ++ Str.ofString " is not bound").length ≤ sizeLine := by
  have e : (Str.empty : Str).length = 0 := by decide +kernel
  have e2 : (Str.ofString " is not bound" : Str).length = 13 := by decide +kernel
  rw [strLen_append, strLen_append, e, e2]
  exact sz (by omega)
theorem jn3 {x : Str} (h : x.length ≤ 100) : (Str.empty ++ x ++ Str.ofString " is not looked at").length ≤ sizeLine := by
  have e : (Str.empty : Str).length = 0 := by decide +kernel
  have e2 : (Str.ofString " is not looked at" : Str).length = 17 := by decide +kernel
  rw [strLen_append, strLen_append, e, e2]
  exact sz (by omega)
theorem jn4 {x : Str} (h : x.length ≤ 100) : (Str.empty ++ x ++ Str.ofString " is not known").length ≤ sizeLine := by
  have e : (Str.empty : Str).length = 0 := by decide +kernel
  have e2 : (Str.ofString " is not known" : Str).length = 13 := by decide +kernel
  rw [strLen_append, strLen_append, e, e2]
  exact sz (by omega)
def spPlus (K : PySem.W.Frag) (NS NO : List Str) (cN : Addr) (lk : List Str) (n : Nat) : Sp := fun vs H Q E => ∃ (x : Str) (vt : V) (d s : Addr) (a b : Tm) (e : Ek), vs = [vt, .ref d, .ref s] ∧ Dd Non H (.tup [.str x, a.dt, b.dt]) vt ∧ Ec K NS NO H e d ∧ Se K H lk s ∧ a.dp < n ∧ b.dp < n ∧ Sml lk NS NO (.plus a b) e ∧ Ko K cN d (chk lk (.plus a b) e) H Q E
def spRl (K : PySem.W.Frag) (NS NO : List Str) (cN : Addr) (lk : List Str) (n : Nat) (p : Tm → Prop) : Sp := fun vs H Q E => ∃ (vt : V) (d s : Addr) (t : Tm) (e : Ek), vs = [vt, .ref d, .ref s] ∧ Dd Non H t.dt vt ∧ Ec K NS NO H e d ∧ Se K H lk s ∧ t.dp < n + 1 ∧ Sml lk NS NO t e ∧ p t ∧ Ko K cN d (chk lk t e) H Q E
/-- a global tuple of one word -/
structure GTu (K : PySem.W.Frag) (mg : Str → Option Value) (x w : Str) (o : Addr) : Prop where
  mgN : mg x = some (.ref o)
  tup : ∀ H : Hp, SqT K H o [.str w]
theorem GTu.num {K : PySem.W.Frag} {mg : Str → Option Value} {x : Str} {o : Addr} (g : GTu K mg x "num" o) (H : Hp) : Rp K H .num (.ref o) := ⟨o, rfl, .inr g.tup⟩
theorem GTu.tru {K : PySem.W.Frag} {mg : Str → Option Value} {x : Str} {o : Addr} (g : GTu K mg x "truth" o) (H : Hp) : Rp K H .tru (.ref o) := ⟨o, rfl, .inr g.tup⟩
theorem wrd_fn : ∀ o : Option Kd, o.bind (wrd "fun") = (o.bind Kd.fnOf).map fun p => .fn p.1 p.2
  | none => rfl
  | some k => by cases k <;> rfl
theorem Ko.mkF {K : PySem.W.Frag} {cN d : Addr} {o : Option Kd} {H : Hp} {Q : VK} {E : XK} (h1 : ∀ p, o.bind Kd.fnOf = some p → ∀ (u : V) (G : Hp), Same H G → Rp K G (.fn p.1 p.2) u → Q u G) (h2 : o.bind Kd.fnOf = none → ∀ G : Hp, Ss d H G → E (.ref cN) none G) : Ko K cN d (o.bind (wrd "fun")) H Q E := by
  rw [wrd_fn]
  cases c : o.bind Kd.fnOf with
  | none => exact h2 c
  | some p => exact h1 p c
theorem wrd_pr : ∀ o : Option Kd, o.bind (wrd "pair") = (o.bind Kd.prOf).map fun p => .pair p.1 p.2
  | none => rfl
  | some k => by cases k <;> rfl
theorem Ko.mkP {K : PySem.W.Frag} {cN d : Addr} {o : Option Kd} {H : Hp} {Q : VK} {E : XK} (h1 : ∀ p, o.bind Kd.prOf = some p → ∀ (u : V) (G : Hp), Same H G → Rp K G (.pair p.1 p.2) u → Q u G) (h2 : o.bind Kd.prOf = none → ∀ G : Hp, Ss d H G → E (.ref cN) none G) : Ko K cN d (o.bind (wrd "pair")) H Q E := by
  rw [wrd_pr]
  cases c : o.bind Kd.prOf with
  | none => exact h2 c
  | some p => exact h1 p c
theorem wrd_ei : ∀ o : Option Kd, o.bind (wrd "either") = (o.bind Kd.eiOf).map fun p => .eith p.1 p.2
  | none => rfl
  | some k => by cases k <;> rfl
theorem Ko.mkE {K : PySem.W.Frag} {cN d : Addr} {o : Option Kd} {H : Hp} {Q : VK} {E : XK} (h1 : ∀ p, o.bind Kd.eiOf = some p → ∀ (u : V) (G : Hp), Same H G → Rp K G (.eith p.1 p.2) u → Q u G) (h2 : o.bind Kd.eiOf = none → ∀ G : Hp, Ss d H G → E (.ref cN) none G) : Ko K cN d (o.bind (wrd "either")) H Q E := by
  rw [wrd_ei]
  cases c : o.bind Kd.eiOf with
  | none => exact h2 c
  | some p => exact h1 p c
theorem wrd_ls : ∀ o : Option Kd, o.bind (wrd "list") = (o.bind Kd.lsOf).map fun p => .lst p
  | none => rfl
  | some k => by cases k <;> rfl
theorem Ko.mkL {K : PySem.W.Frag} {cN d : Addr} {o : Option Kd} {H : Hp} {Q : VK} {E : XK} (h1 : ∀ p, o.bind Kd.lsOf = some p → ∀ (u : V) (G : Hp), Same H G → Rp K G (.lst p) u → Q u G) (h2 : o.bind Kd.lsOf = none → ∀ G : Hp, Ss d H G → E (.ref cN) none G) : Ko K cN d (o.bind (wrd "list")) H Q E := by
  rw [wrd_ls]
  cases c : o.bind Kd.lsOf with
  | none => exact h2 c
  | some p => exact h1 p c
theorem wrd_op : ∀ o : Option Kd, o.bind (wrd "open") = (o.bind Kd.opOf).map fun p => .opn p
  | none => rfl
  | some k => by cases k <;> rfl
theorem Ko.mkO {K : PySem.W.Frag} {cN d : Addr} {o : Option Kd} {H : Hp} {Q : VK} {E : XK} (h1 : ∀ p, o.bind Kd.opOf = some p → ∀ (u : V) (G : Hp), Same H G → Rp K G (.opn p) u → Q u G) (h2 : o.bind Kd.opOf = none → ∀ G : Hp, Ss d H G → E (.ref cN) none G) : Ko K cN d (o.bind (wrd "open")) H Q E := by
  rw [wrd_op]
  cases c : o.bind Kd.opOf with
  | none => exact h2 c
  | some p => exact h1 p c
theorem wrd_nm : ∀ o : Option Kd, o.bind (wrd "num") = (o.bind Kd.nmOf).map fun p => Kd.num
  | none => rfl
  | some k => by cases k <;> rfl
theorem Ko.mkN {K : PySem.W.Frag} {cN d : Addr} {o : Option Kd} {H : Hp} {Q : VK} {E : XK} (h1 : ∀ p, o.bind Kd.nmOf = some p → ∀ (u : V) (G : Hp), Same H G → Rp K G (.num) u → Q u G) (h2 : o.bind Kd.nmOf = none → ∀ G : Hp, Ss d H G → E (.ref cN) none G) : Ko K cN d (o.bind (wrd "num")) H Q E := by
  rw [wrd_nm]
  cases c : o.bind Kd.nmOf with
  | none => exact h2 c
  | some p => exact h1 p c
theorem wrd_tr : ∀ o : Option Kd, o.bind (wrd "truth") = (o.bind Kd.trOf).map fun p => Kd.tru
  | none => rfl
  | some k => by cases k <;> rfl
theorem Ko.mkT {K : PySem.W.Frag} {cN d : Addr} {o : Option Kd} {H : Hp} {Q : VK} {E : XK} (h1 : ∀ p, o.bind Kd.trOf = some p → ∀ (u : V) (G : Hp), Same H G → Rp K G (.tru) u → Q u G) (h2 : o.bind Kd.trOf = none → ∀ G : Hp, Ss d H G → E (.ref cN) none G) : Ko K cN d (o.bind (wrd "truth")) H Q E := by
  rw [wrd_tr]
  cases c : o.bind Kd.trOf with
  | none => exact h2 c
  | some p => exact h1 p c
section
variable {P : Program} {w : World} {K : PySem.W.Frag} {mg : Str → Option Value} {base : Heap} {NS NO lk : List Str} {cN : Addr}
abbrev tOfNum : Stmt := tp 59
abbrev nOfNum : List Str := ["term", "names", "settled"]
abbrev psOfNum : List Str := ["term", "names", "settled"]
theorem scOfNum : FnScope nOfNum psOfNum (defScope tOfNum) := ⟨rfl, rfl, rfl, by decide +kernel, rfl, by decide +kernel, by decide +kernel⟩
theorem okOfNum {f : Addr} {fd : FuncData} {k n : Nat} (F : Fun K "of_num" "of_num" tOfNum f fd) {oN : Addr} (gN : GTu K mg "NUM" "num" oN) : FnOk P w K mg base (L2.CX P w) (k + 1) f fd psOfNum (spRl K NS NO cN lk n fun t => ∃ (i : Int), t = .num i) := by
  refine F.okX scOfNum (fun vs H Q E h => ?_) (fun cdv A outer s H vs Q E hr h => ?_)
  · obtain ⟨vt, d, s, t, e, rfl, _⟩ := h
    rfl
  obtain ⟨vt, d, s, t, e, rfl, dd, ec, se, hp, sm, ⟨i, rfl⟩, q⟩ := h
  refine ⟨_, pss_one (ps_ret (pe_glob (v := .ref oN) (by rfl) gN.mgN rfl)), ?_⟩
  exact q.ok (by rw [chk]) (Same.refl _) (gN.num _)
abbrev tOfTruth : Stmt := tp 62
abbrev nOfTruth : List Str := ["term", "names", "settled"]
abbrev psOfTruth : List Str := ["term", "names", "settled"]
theorem scOfTruth : FnScope nOfTruth psOfTruth (defScope tOfTruth) := ⟨rfl, rfl, rfl, by decide +kernel, rfl, by decide +kernel, by decide +kernel⟩
theorem okOfTruth {f : Addr} {fd : FuncData} {k n : Nat} (F : Fun K "of_truth" "of_truth" tOfTruth f fd) {oN : Addr} (gN : GTu K mg "TRUTH" "truth" oN) : FnOk P w K mg base (L2.CX P w) (k + 1) f fd psOfTruth (spRl K NS NO cN lk n fun t => ∃ (i : Bool), t = .tru i) := by
  refine F.okX scOfTruth (fun vs H Q E h => ?_) (fun cdv A outer s H vs Q E hr h => ?_)
  · obtain ⟨vt, d, s, t, e, rfl, _⟩ := h
    rfl
  obtain ⟨vt, d, s, t, e, rfl, dd, ec, se, hp, sm, ⟨i, rfl⟩, q⟩ := h
  refine ⟨_, pss_one (ps_ret (pe_glob (v := .ref oN) (by rfl) gN.mgN rfl)), ?_⟩
  exact q.ok (by rw [chk]) (Same.refl _) (gN.tru _)
abbrev tOfFault : Stmt := tp 75
abbrev nOfFault : List Str := ["term", "names", "settled"]
abbrev psOfFault : List Str := ["term", "names", "settled"]
theorem scOfFault : FnScope nOfFault psOfFault (defScope tOfFault) := ⟨rfl, rfl, rfl, by decide +kernel, rfl, by decide +kernel, by decide +kernel⟩
theorem okOfFault {f : Addr} {fd : FuncData} {k n : Nat} (F : Fun K "of_fault" "of_fault" tOfFault f fd) : FnOk P w K mg base (L2.CX P w) (k + 1) f fd psOfFault (spRl K NS NO cN lk n fun t => ∃ (k : Kd), t = .fault k) := by
  refine F.okX scOfFault (fun vs H Q E h => ?_) (fun cdv A outer s H vs Q E hr h => ?_)
  · obtain ⟨vt, d, s, t, e, rfl, _⟩ := h
    rfl
  obtain ⟨vt, d, s, t, e, rfl, dd, ec, se, hp, sm, ⟨k, rfl⟩, q⟩ := h
  refine ⟨_, pss_one (ps_ret (pe_ix ix_tup (pv 0) pe_int (fun _ _ => rfl))), ?_⟩
  obtain ⟨p, u, rfl, gp, d1⟩ := Dd.of2 dd
  exact ⟨_, rfl, p, _, _, _, rfl, rfl, SqT.of gp, atI_nat (j := 1) rfl, q.ok (by rw [chk]) (Same.refl _) (rp_of d1)⟩
abbrev tOfNone : Stmt := tp 70
abbrev nOfNone : List Str := ["term", "names", "settled"]
abbrev psOfNone : List Str := ["term", "names", "settled"]
theorem scOfNone : FnScope nOfNone psOfNone (defScope tOfNone) := ⟨rfl, rfl, rfl, by decide +kernel, rfl, by decide +kernel, by decide +kernel⟩
theorem okOfNone {f : Addr} {fd : FuncData} {k n : Nat} (F : Fun K "of_none" "of_none" tOfNone f fd) : FnOk P w K mg base (L2.CX P w) (k + 1) f fd psOfNone (spRl K NS NO cN lk n fun t => ∃ (k : Kd), t = .none k) := by
  refine F.okX scOfNone (fun vs H Q E h => ?_) (fun cdv A outer s H vs Q E hr h => ?_)
  · obtain ⟨vt, d, s, t, e, rfl, _⟩ := h
    rfl
  obtain ⟨vt, d, s, t, e, rfl, dd, ec, se, hp, sm, ⟨k, rfl⟩, q⟩ := h
  refine ⟨_, pss_one (ps_ret (pe_tup (pa_cons pe_str (pa_cons (pe_ix ix_tup (pv 0) pe_int (fun _ _ => rfl)) pa_nil)))), ?_⟩
  obtain ⟨p, u, rfl, gp, d1⟩ := Dd.of2 dd
  refine ⟨_, rfl, p, _, _, _, rfl, rfl, SqT.of gp, atI_nat (j := 1) rfl, (by show 2 ≤ sizeLine; decide), fun l nl => ?_⟩
  exact q.ok (k := .lst k) (by rw [chk]) (newS nl) ⟨l, u, rfl, .inl upd_same, (rp_of d1).tk (.of (newS nl))⟩
abbrev tOfName : Stmt := tp 56
abbrev nOfName : List Str := ["term", "names", "settled"]
abbrev psOfName : List Str := ["term", "names", "settled"]
theorem scOfName : FnScope nOfName psOfName (defScope tOfName) := ⟨rfl, rfl, rfl, by decide +kernel, rfl, by decide +kernel, by decide +kernel⟩
theorem okOfName {f : Addr} {fd : FuncData} {k n : Nat} (F : Fun K "of_name" "of_name" tOfName f fd)
    (DN : Okd P w K mg base (L2.CX P w) (k) "need" ["held", "why"] (spNeed cN)) : FnOk P w K mg base (L2.CX P w) (k + 1) f fd psOfName (spRl K NS NO cN lk n fun t => ∃ (x : Str), t = .name x) := by
  obtain ⟨fN, fdN, GN, bN, gN, kN⟩ := DN
  refine F.okX scOfName (fun vs H Q E h => ?_) (fun cdv A outer s H vs Q E hr h => ?_)
  · obtain ⟨vt, d, s, t, e, rfl, _⟩ := h
    rfl
  obtain ⟨vt, d, s, t, e, rfl, dd, ec, se, hp, sm, ⟨x, rfl⟩, q⟩ := h
  refine ⟨_, pss_cons (ps_expr (pe_callS GN hr (by rfl) gN kN bN (fun σ => passAt (takes_of rfl rfl rfl rfl) σ) (pa_cons (pe_cmp (pc_din (hu_of hr) (pe_ix ix_tup (pv 0) pe_int (fun _ _ => rfl)) (pv 1))) (pa_cons (pe_joined (.cons (pe_fmt (pe_ix ix_tup (pv 0) pe_int (fun _ _ => rfl))) (.cons pe_str .nil))) pa_nil))))
    (pss_one (ps_ret (pe_dget (hu_of hr) (pv 1) (pe_ix ix_tup (pv 0) pe_int (fun _ _ => rfl)) (fun _ _ => rfl)))), ?_⟩
  obtain ⟨p, u, rfl, gp, d1⟩ := Dd.of2 dd
  cases d1
  obtain ⟨kvs, gd, nd, l1, l2⟩ := ec
  have hx : x.length ≤ 100 := sm
  refine ⟨_, rfl, p, _, _, _, rfl, rfl, SqT.of gp, atI_nat (j := 1) rfl, _, rfl, d, _, rfl, DGet.k (k := Sum.inr x) gd, _, rfl, p, _, _, _, rfl, rfl, SqT.of gp, atI_nat (j := 1) rfl, .inl ⟨x, rfl, sz (by omega), _, rfl, jn1 hx, _, rfl, jn2 hx, ?_⟩⟩
  cases ex : e x with
  | none =>
    refine ⟨_, _, rfl, fun c1 => ?_, fun c1 => q.no (by rw [chk]; exact ex) Ss.rfl⟩
    rw [l1 x ex] at c1
    cases c1
  | some k =>
    obtain ⟨gk, v, ev, rv⟩ := l2 x k ex
    refine ⟨_, _, rfl, fun c1 => ?_, fun c1 => ?_⟩
    · exact ⟨_, rfl, _, rfl, p, _, _, _, rfl, rfl, SqT.of gp, atI_nat (j := 1) rfl, _, _, rfl, ev ▸ DGet.k (k := Sum.inr x) gd, q.ok (by rw [chk]; exact ex) (Same.refl _) rv⟩
    · rw [ev] at c1
      cases c1
abbrev tOfFun : Stmt := tp 57
abbrev nOfFun : List Str := ["term", "names", "settled", "word", "x", "argument", "inner"]
abbrev psOfFun : List Str := ["term", "names", "settled"]
theorem scOfFun : FnScope nOfFun psOfFun (defScope tOfFun) := ⟨rfl, rfl, rfl, by decide +kernel, rfl, by decide +kernel, by decide +kernel⟩
theorem okOfFun {f : Addr} {fd : FuncData} {k n : Nat} (F : Fun K "of_fun" "of_fun" tOfFun f fd) (hn : NS.length ≤ 400)
    (DK : Okd P w K mg base (L2.CX P w) (k) "kind_at" ["term", "names", "settled"] (spAt K NS NO cN lk n)) : FnOk P w K mg base (L2.CX P w) (k + 1) f fd psOfFun (spRl K NS NO cN lk n fun t => ∃ (x : Str) (k : Kd) (b : Tm), t = .fn x k b) := by
  obtain ⟨fK, fdK, GK, bK, gK, kK⟩ := DK
  refine F.okX scOfFun (fun vs H Q E h => ?_) (fun cdv A outer s H vs Q E hr h => ?_)
  · obtain ⟨vt, d, s, t, e, rfl, _⟩ := h
    rfl
  obtain ⟨vt, d, s, t, e, rfl, dd, ec, se, hp, sm, ⟨x, k, b, rfl⟩, q⟩ := h
  refine ⟨_, pss_cons (ps_asg (pv 0) (pg_tup rfl (pgs_cons (pg_name (i := 3) scOfFun.nd rfl (.inl rfl)) (pgs_cons (pg_name (i := 4) scOfFun.nd rfl (.inl rfl)) (pgs_cons (pg_name (i := 5) scOfFun.nd rfl (.inl rfl)) (pgs_cons (pg_name (i := 6) scOfFun.nd rfl (.inl rfl)) pgs_nil))))))
    (pss_one (ps_ret (pe_tup (pa_cons pe_str (pa_cons (pv 5) (pa_cons (pe_callS GK hr (by rfl) gK kK bK (fun σ => passAt (takes_of rfl rfl rfl rfl) σ) (pa_cons (pv 6) (pa_cons (pe_dsplat (pv 1) (pps_cons (pv 4) (pv 5) pps_nil) (by rfl) (by rfl) (fun z => by cases z) (by decide)) (pa_cons (pv 2) pa_nil)))) pa_nil)))))), ?_⟩
  have hb : b.dp < n := by simp only [Tm.dp] at hp; omega

  obtain ⟨p, u, u', u'', rfl, gp, d1, d2, d3⟩ := Dd.of4 dd
  cases d1
  obtain ⟨hx, gk, sb, hr2⟩ := sm
  refine ⟨_, rfl, p, _, rfl, SqT.of gp, rfl, _, _, rfl, _, _, rfl, _, _, rfl, _, _, rfl, rfl, ?_⟩
  refine ⟨_, rfl, _, rfl, splatC ec hn rfl fun G T sG fin => ?_⟩
  refine ⟨_, rfl, _, rfl, fin [(x, k, u')] G (Same.refl G) (by show 1 ≤ 2; decide) (fun y hy => ?_) (fun p2 F np2 sF ecF => ?_)⟩
  · rw [List.mem_singleton.mp hy]
    exact ⟨hx, gk, (rp_of d2).tk (.of sG)⟩
  refine ⟨_, rfl, u'', p2, s, b, e.put x k, rfl, d3.same sF, ecF, se.same sF, hb, sb, .mk (fun r hk v G2 s2 r2 => ?_) (fun hk G2 s2 => ?_)⟩
  · refine ⟨(by show 3 ≤ sizeLine; decide), fun l nl => q.ok (k := .fn k r) (by rw [chk, hk]; rfl) ((sF.trans s2).trans (newS nl)) ⟨l, u', v, rfl, .inl upd_same, ((rp_of d2).tk (.of (sF.trans s2))).tk (.of (newS nl)), r2.tk (.of (newS nl))⟩⟩
  · exact q.no (by rw [chk, hk]; rfl) (.of (Ss.new np2 sF s2))
abbrev tOfCall : Stmt := tp 58
abbrev nOfCall : List Str := ["term", "names", "settled", "called"]
abbrev psOfCall : List Str := ["term", "names", "settled"]
theorem scOfCall : FnScope nOfCall psOfCall (defScope tOfCall) := ⟨rfl, rfl, rfl, by decide +kernel, rfl, by decide +kernel, by decide +kernel⟩
theorem okOfCall {f : Addr} {fd : FuncData} {k n : Nat} (F : Fun K "of_call" "of_call" tOfCall f fd)
    (DS : Okd P w K mg base (L2.CX P w) (k) "need_same" ["one", "other", "why"] (spSame K cN NO))
    (DK : Okd P w K mg base (L2.CX P w) (k) "kind_at" ["term", "names", "settled"] (spAt K NS NO cN lk n))
    (DO : Okd P w K mg base (L2.CX P w) (k) "formed_at" ["word", "term", "names", "settled"] (spFormed K NS NO cN lk n)) : FnOk P w K mg base (L2.CX P w) (k + 1) f fd psOfCall (spRl K NS NO cN lk n fun t => ∃ (a b : Tm), t = .call a b) := by
  obtain ⟨fS, fdS, GS, bS, gS, kS⟩ := DS
  obtain ⟨fK, fdK, GK, bK, gK, kK⟩ := DK
  obtain ⟨fO, fdO, GO, bO, gO, kO⟩ := DO
  refine F.okX scOfCall (fun vs H Q E h => ?_) (fun cdv A outer s H vs Q E hr h => ?_)
  · obtain ⟨vt, d, s, t, e, rfl, _⟩ := h
    rfl
  obtain ⟨vt, d, s, t, e, rfl, dd, ec, se, hp, sm, ⟨a, b, rfl⟩, q⟩ := h
  refine ⟨_, pss_cons (ps_set (i := 3) scOfCall.nd rfl (.inl rfl) (pe_callS GO hr (by rfl) gO kO bO (fun σ => passAt (takes_of rfl rfl rfl rfl) σ) (pa_cons pe_str (pa_cons (pe_ix ix_tup (pv 0) pe_int (fun _ _ => rfl)) (pa_cons (pv 1) (pa_cons (pv 2) pa_nil))))))
    (pss_cons (ps_expr (pe_callS GS hr (by rfl) gS kS bS (fun σ => passAt (takes_of rfl rfl rfl rfl) σ) (pa_cons (pe_ix ix_tup (pv 3) pe_int (fun _ _ => rfl)) (pa_cons (pe_callS GK hr (by rfl) gK kK bK (fun σ => passAt (takes_of rfl rfl rfl rfl) σ) (pa_cons (pe_ix ix_tup (pv 0) pe_int (fun _ _ => rfl)) (pa_cons (pv 1) (pa_cons (pv 2) pa_nil)))) (pa_cons pe_str pa_nil)))))
    (pss_one (ps_ret (pe_ix ix_tup (pv 3) pe_int (fun _ _ => rfl))))), ?_⟩
  have ha : a.dp < n := by simp only [Tm.dp] at hp; omega
  have hb : b.dp < n := by simp only [Tm.dp] at hp; omega

  obtain ⟨p, u, u', rfl, gp, d1, d2⟩ := Dd.of3 dd
  obtain ⟨sa, sb⟩ := sm
  refine ⟨_, rfl, p, _, _, _, rfl, rfl, SqT.of gp, atI_nat (j := 1) rfl, _, rfl, _, rfl, "fun", u, d, s, a, e, rfl, by decide +kernel, d1, ec, se, ha, sa, .mkF (fun f hf v G1 s1 r1 => ?_) (fun hf G1 s1 => q.no (by rw [chk, hf]; rfl) s1)⟩
  obtain ⟨c, x, y, rfl, gc, rx, ry⟩ := r1
  have sb := sb (by rw [hf]; exact fun z => nomatch z)
  refine ⟨_, rfl, c, _, _, _, rfl, rfl, gc.t, atI_nat (j := 1) rfl, _, rfl, p, _, _, _, rfl, rfl, SqT.of (s1 _ _ gp), atI_nat (j := 2) rfl, _, rfl, _, rfl, u', d, s, b, e, rfl, d2.same s1, ec.same s1, se.same s1, hb, sb, .mk (fun k2 hk2 v2 G2 s2 r2 => ?_) (fun hk2 G2 s2 => q.no (by rw [chk, hf, hk2]; rfl) (Ss.trans (.of s1) s2))⟩
  have gf := sa.gk (fun y q hy => ec.gk hy) (fnOf_eq hf)
  have g2 := sb.gk (fun y q hy => ec.gk hy) hk2
  refine ⟨x, v2, _, f.1, k2, rfl, rx.tk (.of s2), r2, gf.fn1, g2, fun c1 => ?_, fun c1 => ?_⟩
  · exact ⟨_, rfl, c, _, _, _, rfl, rfl, (gc.tk (.of s2)).t, atI_nat (j := 2) rfl, q.ok (by rw [chk, hf, hk2]; exact if_pos c1) (s1.trans s2) (ry.tk (.of s2))⟩
  · exact q.no (by rw [chk, hf, hk2]; exact if_neg c1) (.of (s1.trans s2))
abbrev tOfPlus : Stmt := tp 60
abbrev nOfPlus : List Str := ["term", "names", "settled"]
abbrev psOfPlus : List Str := ["term", "names", "settled"]
theorem scOfPlus : FnScope nOfPlus psOfPlus (defScope tOfPlus) := ⟨rfl, rfl, rfl, by decide +kernel, rfl, by decide +kernel, by decide +kernel⟩
theorem okOfPlus {f : Addr} {fd : FuncData} {k n : Nat} (F : Fun K "of_plus" "of_plus" tOfPlus f fd)
    (DO : Okd P w K mg base (L2.CX P w) (k) "formed_at" ["word", "term", "names", "settled"] (spFormed K NS NO cN lk n)) : FnOk P w K mg base (L2.CX P w) (k + 1) f fd psOfPlus (spPlus K NS NO cN lk n) := by
  obtain ⟨fO, fdO, GO, bO, gO, kO⟩ := DO
  refine F.okX scOfPlus (fun vs H Q E h => ?_) (fun cdv A outer s H vs Q E hr h => ?_)
  · obtain ⟨x, vt, d, s, a, b, e, rfl, _⟩ := h
    rfl
  obtain ⟨x, vt, d, s, a, b, e, rfl, dd, ec, se, ha, hb, sm, q⟩ := h
  refine ⟨_, pss_cons (ps_expr (pe_callS GO hr (by rfl) gO kO bO (fun σ => passAt (takes_of rfl rfl rfl rfl) σ) (pa_cons pe_str (pa_cons (pe_ix ix_tup (pv 0) pe_int (fun _ _ => rfl)) (pa_cons (pv 1) (pa_cons (pv 2) pa_nil))))))
    (pss_one (ps_ret (pe_callS GO hr (by rfl) gO kO bO (fun σ => passAt (takes_of rfl rfl rfl rfl) σ) (pa_cons pe_str (pa_cons (pe_ix ix_tup (pv 0) pe_int (fun _ _ => rfl)) (pa_cons (pv 1) (pa_cons (pv 2) pa_nil))))))), ?_⟩
  obtain ⟨p, u, u', rfl, gp, d1, d2⟩ := Dd.of3 dd
  obtain ⟨sa, sb⟩ := sm
  refine ⟨_, rfl, p, _, _, _, rfl, rfl, SqT.of gp, atI_nat (j := 1) rfl, _, rfl, _, rfl, "num", u, d, s, a, e, rfl, by decide +kernel, d1, ec, se, ha, sa, .mkN (fun f hf v G1 s1 r1 => ?_) (fun hf G1 s1 => q.no (by rw [chk, hf]; rfl) s1)⟩
  have sb := sb (by rw [hf]; exact fun z => nomatch z)

  exact ⟨_, rfl, p, _, _, _, rfl, rfl, SqT.of (s1 _ _ gp), atI_nat (j := 2) rfl, _, rfl, _, rfl, "num", u', d, s, b, e, rfl, by decide +kernel, d2.same s1, ec.same s1, se.same s1, hb, sb, .mkN (fun g hg v2 G2 s2 r2 => q.ok (by rw [chk, hf, hg, (nmOf_eq hg).2]; rfl) (s1.trans s2) r2) (fun hg G2 s2 => q.no (by rw [chk, hf, hg]; rfl) (Ss.trans (.of s1) s2))⟩
abbrev tOfLess : Stmt := tp 61
abbrev nOfLess : List Str := ["term", "names", "settled"]
abbrev psOfLess : List Str := ["term", "names", "settled"]
theorem scOfLess : FnScope nOfLess psOfLess (defScope tOfLess) := ⟨rfl, rfl, rfl, by decide +kernel, rfl, by decide +kernel, by decide +kernel⟩
theorem okOfLess {f : Addr} {fd : FuncData} {k n : Nat} (F : Fun K "of_less" "of_less" tOfLess f fd) {oN : Addr} (gN2 : GTu K mg "TRUTH" "truth" oN)
    (DP : Okd P w K mg base (L2.CX P w) (k) "of_plus" ["term", "names", "settled"] (spPlus K NS NO cN lk n)) : FnOk P w K mg base (L2.CX P w) (k + 1) f fd psOfLess (spRl K NS NO cN lk n fun t => ∃ (a b : Tm), t = .less a b) := by
  obtain ⟨fP, fdP, GP, bP, gP, kP⟩ := DP
  refine F.okX scOfLess (fun vs H Q E h => ?_) (fun cdv A outer s H vs Q E hr h => ?_)
  · obtain ⟨vt, d, s, t, e, rfl, _⟩ := h
    rfl
  obtain ⟨vt, d, s, t, e, rfl, dd, ec, se, hp, sm, ⟨a, b, rfl⟩, q⟩ := h
  refine ⟨_, pss_cons (ps_expr (pe_callS GP hr (by rfl) gP kP bP (fun σ => passAt (takes_of rfl rfl rfl rfl) σ) (pa_cons (pv 0) (pa_cons (pv 1) (pa_cons (pv 2) pa_nil)))))
    (pss_one (ps_ret (pe_glob (v := .ref oN) (by rfl) gN2.mgN rfl))), ?_⟩
  have ha : a.dp < n := by simp only [Tm.dp] at hp; omega
  have hb : b.dp < n := by simp only [Tm.dp] at hp; omega

  have q2 : (chk lk (.plus a b) e).bind (fun _ => some Kd.tru) = chk lk (.less a b) e := by
    rw [chk, chk]
    cases (chk lk a e).bind Kd.nmOf with
    | none => rfl
    | some x => cases (chk lk b e).bind Kd.nmOf <;> rfl
  refine ⟨_, rfl, _, rfl, _, rfl, "less", vt, d, s, a, b, e, rfl, dd, ec, se, ha, hb, sm, .mk (fun k hk v G s1 r => ?_) (fun hk G s1 => q.no (by rw [← q2, hk]; rfl) s1)⟩
  exact q.ok (by rw [← q2, hk]; rfl) s1 (gN2.tru _)
abbrev tOfIf : Stmt := tp 63
abbrev nOfIf : List Str := ["term", "names", "settled", "yes"]
abbrev psOfIf : List Str := ["term", "names", "settled"]
theorem scOfIf : FnScope nOfIf psOfIf (defScope tOfIf) := ⟨rfl, rfl, rfl, by decide +kernel, rfl, by decide +kernel, by decide +kernel⟩
theorem okOfIf {f : Addr} {fd : FuncData} {k n : Nat} (F : Fun K "of_if" "of_if" tOfIf f fd)
    (DS : Okd P w K mg base (L2.CX P w) (k) "need_same" ["one", "other", "why"] (spSame K cN NO))
    (DK : Okd P w K mg base (L2.CX P w) (k) "kind_at" ["term", "names", "settled"] (spAt K NS NO cN lk n))
    (DO : Okd P w K mg base (L2.CX P w) (k) "formed_at" ["word", "term", "names", "settled"] (spFormed K NS NO cN lk n)) : FnOk P w K mg base (L2.CX P w) (k + 1) f fd psOfIf (spRl K NS NO cN lk n fun t => ∃ (a b c : Tm), t = .iff a b c) := by
  obtain ⟨fS, fdS, GS, bS, gS, kS⟩ := DS
  obtain ⟨fK, fdK, GK, bK, gK, kK⟩ := DK
  obtain ⟨fO, fdO, GO, bO, gO, kO⟩ := DO
  refine F.okX scOfIf (fun vs H Q E h => ?_) (fun cdv A outer s H vs Q E hr h => ?_)
  · obtain ⟨vt, d, s, t, e, rfl, _⟩ := h
    rfl
  obtain ⟨vt, d, s, t, e, rfl, dd, ec, se, hp, sm, ⟨a, b, c, rfl⟩, q⟩ := h
  refine ⟨_, pss_cons (ps_expr (pe_callS GO hr (by rfl) gO kO bO (fun σ => passAt (takes_of rfl rfl rfl rfl) σ) (pa_cons pe_str (pa_cons (pe_ix ix_tup (pv 0) pe_int (fun _ _ => rfl)) (pa_cons (pv 1) (pa_cons (pv 2) pa_nil))))))
    (pss_cons (ps_set (i := 3) scOfIf.nd rfl (.inl rfl) (pe_callS GK hr (by rfl) gK kK bK (fun σ => passAt (takes_of rfl rfl rfl rfl) σ) (pa_cons (pe_ix ix_tup (pv 0) pe_int (fun _ _ => rfl)) (pa_cons (pv 1) (pa_cons (pv 2) pa_nil)))))
    (pss_one (ps_ret (pe_callS GS hr (by rfl) gS kS bS (fun σ => passAt (takes_of rfl rfl rfl rfl) σ) (pa_cons (pv 3) (pa_cons (pe_callS GK hr (by rfl) gK kK bK (fun σ => passAt (takes_of rfl rfl rfl rfl) σ) (pa_cons (pe_ix ix_tup (pv 0) pe_int (fun _ _ => rfl)) (pa_cons (pv 1) (pa_cons (pv 2) pa_nil)))) (pa_cons pe_str pa_nil))))))), ?_⟩
  have ha : a.dp < n := by simp only [Tm.dp] at hp; omega
  have hb : b.dp < n := by simp only [Tm.dp] at hp; omega
  have hc : c.dp < n := by simp only [Tm.dp] at hp; omega

  obtain ⟨p, u, u', u'', rfl, gp, d1, d2, d3⟩ := Dd.of4 dd
  obtain ⟨sa, sb, sc⟩ := sm
  refine ⟨_, rfl, p, _, _, _, rfl, rfl, SqT.of gp, atI_nat (j := 1) rfl, _, rfl, _, rfl, "truth", u, d, s, a, e, rfl, by decide +kernel, d1, ec, se, ha, sa, .mkT (fun f hf v G1 s1 r1 => ?_) (fun hf G1 s1 => q.no (by rw [chk, hf]; rfl) s1)⟩
  refine ⟨_, rfl, p, _, _, _, rfl, rfl, SqT.of (s1 _ _ gp), atI_nat (j := 2) rfl, _, rfl, _, rfl, u', d, s, b, e, rfl, d2.same s1, ec.same s1, se.same s1, hb, sb, .mk (fun k2 hk2 v2 G2 s2 r2 => ?_) (fun hk2 G2 s2 => q.no (by rw [chk, hf, hk2]; rfl) (Ss.trans (.of s1) s2))⟩
  have s12 := s1.trans s2
  refine ⟨_, rfl, _, rfl, p, _, _, _, rfl, rfl, SqT.of (s12 _ _ gp), atI_nat (j := 3) rfl, _, rfl, _, rfl, u'', d, s, c, e, rfl, d3.same s12, ec.same s12, se.same s12, hc, sc, .mk (fun k3 hk3 v3 G3 s3 r3 => ?_) (fun hk3 G3 s3 => q.no (by rw [chk, hf, hk2, hk3]; rfl) (Ss.trans (.of s12) s3))⟩
  refine ⟨v2, v3, _, k2, k3, rfl, r2.tk (.of s3), r3, sb.gk (fun y q hy => ec.gk hy) hk2, sc.gk (fun y q hy => ec.gk hy) hk3, fun c1 => ?_, fun c1 => ?_⟩
  · exact q.ok (by rw [chk, hf, hk2, hk3]; exact if_pos c1) (s12.trans s3) (r2.tk (.of s3))
  · exact q.no (by rw [chk, hf, hk2, hk3]; exact if_neg c1) (.of (s12.trans s3))
abbrev tOfPair : Stmt := tp 64
abbrev nOfPair : List Str := ["term", "names", "settled"]
abbrev psOfPair : List Str := ["term", "names", "settled"]
theorem scOfPair : FnScope nOfPair psOfPair (defScope tOfPair) := ⟨rfl, rfl, rfl, by decide +kernel, rfl, by decide +kernel, by decide +kernel⟩
theorem okOfPair {f : Addr} {fd : FuncData} {k n : Nat} (F : Fun K "of_pair" "of_pair" tOfPair f fd)
    (DD : Okd P w K mg base (L2.CX P w) (k) "data_at" ["term", "names", "settled"] (spData K NS NO cN lk n)) : FnOk P w K mg base (L2.CX P w) (k + 1) f fd psOfPair (spRl K NS NO cN lk n fun t => ∃ (a b : Tm), t = .pair a b) := by
  obtain ⟨fD, fdD, GD, bD, gD, kD⟩ := DD
  refine F.okX scOfPair (fun vs H Q E h => ?_) (fun cdv A outer s H vs Q E hr h => ?_)
  · obtain ⟨vt, d, s, t, e, rfl, _⟩ := h
    rfl
  obtain ⟨vt, d, s, t, e, rfl, dd, ec, se, hp, sm, ⟨a, b, rfl⟩, q⟩ := h
  refine ⟨_, pss_one (ps_ret (pe_tup (pa_cons pe_str (pa_cons (pe_callS GD hr (by rfl) gD kD bD (fun σ => passAt (takes_of rfl rfl rfl rfl) σ) (pa_cons (pe_ix ix_tup (pv 0) pe_int (fun _ _ => rfl)) (pa_cons (pv 1) (pa_cons (pv 2) pa_nil)))) (pa_cons (pe_callS GD hr (by rfl) gD kD bD (fun σ => passAt (takes_of rfl rfl rfl rfl) σ) (pa_cons (pe_ix ix_tup (pv 0) pe_int (fun _ _ => rfl)) (pa_cons (pv 1) (pa_cons (pv 2) pa_nil)))) pa_nil))))), ?_⟩
  have ha : a.dp < n := by simp only [Tm.dp] at hp; omega
  have hb : b.dp < n := by simp only [Tm.dp] at hp; omega

  obtain ⟨p, u, u', rfl, gp, d1, d2⟩ := Dd.of3 dd
  obtain ⟨sa, sb, _⟩ := sm
  refine ⟨_, rfl, p, _, _, _, rfl, rfl, SqT.of gp, atI_nat (j := 1) rfl, _, rfl, _, rfl, u, d, s, a, e, rfl, d1, ec, se, ha, sa, .mk (fun k1 hk1 v G1 s1 r1 => ?_) (fun hf G1 s1 => q.no (by rw [chk, hf]; rfl) s1)⟩
  refine ⟨_, rfl, p, _, _, _, rfl, rfl, SqT.of (s1 _ _ gp), atI_nat (j := 2) rfl, _, rfl, _, rfl, u', d, s, b, e, rfl, d2.same s1, ec.same s1, se.same s1, hb, sb, .mk (fun k2 hk2 v2 G2 s2 r2 => ?_) (fun hk2 G2 s2 => q.no (by rw [chk, hk1, hk2]; rfl) (Ss.trans (.of s1) s2))⟩
  exact ⟨(by show 3 ≤ sizeLine; decide), fun l nl => q.ok (k := .pair k1 k2) (by rw [chk, hk1, hk2]; rfl) ((s1.trans s2).trans (newS nl)) ⟨l, v, v2, rfl, .inl upd_same, r1.tk (.of (s2.trans (newS nl))), r2.tk (.of (newS nl))⟩⟩
abbrev tOfFirst : Stmt := tp 65
abbrev nOfFirst : List Str := ["term", "names", "settled"]
abbrev psOfFirst : List Str := ["term", "names", "settled"]
theorem scOfFirst : FnScope nOfFirst psOfFirst (defScope tOfFirst) := ⟨rfl, rfl, rfl, by decide +kernel, rfl, by decide +kernel, by decide +kernel⟩
theorem okOfFirst {f : Addr} {fd : FuncData} {k n : Nat} (F : Fun K "of_first" "of_first" tOfFirst f fd)
    (DO : Okd P w K mg base (L2.CX P w) (k) "formed_at" ["word", "term", "names", "settled"] (spFormed K NS NO cN lk n)) : FnOk P w K mg base (L2.CX P w) (k + 1) f fd psOfFirst (spRl K NS NO cN lk n fun t => ∃ (a : Tm), t = .fst a) := by
  obtain ⟨fO, fdO, GO, bO, gO, kO⟩ := DO
  refine F.okX scOfFirst (fun vs H Q E h => ?_) (fun cdv A outer s H vs Q E hr h => ?_)
  · obtain ⟨vt, d, s, t, e, rfl, _⟩ := h
    rfl
  obtain ⟨vt, d, s, t, e, rfl, dd, ec, se, hp, sm, ⟨a, rfl⟩, q⟩ := h
  refine ⟨_, pss_one (ps_ret (pe_ix ix_tup (pe_callS GO hr (by rfl) gO kO bO (fun σ => passAt (takes_of rfl rfl rfl rfl) σ) (pa_cons pe_str (pa_cons (pe_ix ix_tup (pv 0) pe_int (fun _ _ => rfl)) (pa_cons (pv 1) (pa_cons (pv 2) pa_nil))))) pe_int (fun _ _ => rfl))), ?_⟩
  have ha : a.dp < n := by simp only [Tm.dp] at hp; omega

  obtain ⟨p, u, rfl, gp, d1⟩ := Dd.of2 dd
  refine ⟨_, rfl, p, _, _, _, rfl, rfl, SqT.of gp, atI_nat (j := 1) rfl, _, rfl, _, rfl, "pair", u, d, s, a, e, rfl, by decide +kernel, d1, ec, se, ha, sm, .mkP (fun f hf v G1 s1 r1 => ?_) (fun hf G1 s1 => q.no (by rw [chk, hf]; rfl) s1)⟩
  obtain ⟨c, x, y, rfl, gc, rx, ry⟩ := r1
  exact ⟨c, _, _, _, rfl, rfl, gc.t, atI_nat (j := 1) rfl, q.ok (by rw [chk, hf]; rfl) s1 rx⟩
abbrev tOfSecond : Stmt := tp 66
abbrev nOfSecond : List Str := ["term", "names", "settled"]
abbrev psOfSecond : List Str := ["term", "names", "settled"]
theorem scOfSecond : FnScope nOfSecond psOfSecond (defScope tOfSecond) := ⟨rfl, rfl, rfl, by decide +kernel, rfl, by decide +kernel, by decide +kernel⟩
theorem okOfSecond {f : Addr} {fd : FuncData} {k n : Nat} (F : Fun K "of_second" "of_second" tOfSecond f fd)
    (DO : Okd P w K mg base (L2.CX P w) (k) "formed_at" ["word", "term", "names", "settled"] (spFormed K NS NO cN lk n)) : FnOk P w K mg base (L2.CX P w) (k + 1) f fd psOfSecond (spRl K NS NO cN lk n fun t => ∃ (a : Tm), t = .snd a) := by
  obtain ⟨fO, fdO, GO, bO, gO, kO⟩ := DO
  refine F.okX scOfSecond (fun vs H Q E h => ?_) (fun cdv A outer s H vs Q E hr h => ?_)
  · obtain ⟨vt, d, s, t, e, rfl, _⟩ := h
    rfl
  obtain ⟨vt, d, s, t, e, rfl, dd, ec, se, hp, sm, ⟨a, rfl⟩, q⟩ := h
  refine ⟨_, pss_one (ps_ret (pe_ix ix_tup (pe_callS GO hr (by rfl) gO kO bO (fun σ => passAt (takes_of rfl rfl rfl rfl) σ) (pa_cons pe_str (pa_cons (pe_ix ix_tup (pv 0) pe_int (fun _ _ => rfl)) (pa_cons (pv 1) (pa_cons (pv 2) pa_nil))))) pe_int (fun _ _ => rfl))), ?_⟩
  have ha : a.dp < n := by simp only [Tm.dp] at hp; omega

  obtain ⟨p, u, rfl, gp, d1⟩ := Dd.of2 dd
  refine ⟨_, rfl, p, _, _, _, rfl, rfl, SqT.of gp, atI_nat (j := 1) rfl, _, rfl, _, rfl, "pair", u, d, s, a, e, rfl, by decide +kernel, d1, ec, se, ha, sm, .mkP (fun f hf v G1 s1 r1 => ?_) (fun hf G1 s1 => q.no (by rw [chk, hf]; rfl) s1)⟩
  obtain ⟨c, x, y, rfl, gc, rx, ry⟩ := r1
  exact ⟨c, _, _, _, rfl, rfl, gc.t, atI_nat (j := 2) rfl, q.ok (by rw [chk, hf]; rfl) s1 ry⟩
abbrev tOfLeft : Stmt := tp 67
abbrev nOfLeft : List Str := ["term", "names", "settled"]
abbrev psOfLeft : List Str := ["term", "names", "settled"]
theorem scOfLeft : FnScope nOfLeft psOfLeft (defScope tOfLeft) := ⟨rfl, rfl, rfl, by decide +kernel, rfl, by decide +kernel, by decide +kernel⟩
theorem okOfLeft {f : Addr} {fd : FuncData} {k n : Nat} (F : Fun K "of_left" "of_left" tOfLeft f fd)
    (DD : Okd P w K mg base (L2.CX P w) (k) "data_at" ["term", "names", "settled"] (spData K NS NO cN lk n)) : FnOk P w K mg base (L2.CX P w) (k + 1) f fd psOfLeft (spRl K NS NO cN lk n fun t => ∃ (a : Tm) (k : Kd), t = .left a k) := by
  obtain ⟨fD, fdD, GD, bD, gD, kD⟩ := DD
  refine F.okX scOfLeft (fun vs H Q E h => ?_) (fun cdv A outer s H vs Q E hr h => ?_)
  · obtain ⟨vt, d, s, t, e, rfl, _⟩ := h
    rfl
  obtain ⟨vt, d, s, t, e, rfl, dd, ec, se, hp, sm, ⟨a, k, rfl⟩, q⟩ := h
  refine ⟨_, pss_one (ps_ret (pe_tup (pa_cons pe_str (pa_cons (pe_callS GD hr (by rfl) gD kD bD (fun σ => passAt (takes_of rfl rfl rfl rfl) σ) (pa_cons (pe_ix ix_tup (pv 0) pe_int (fun _ _ => rfl)) (pa_cons (pv 1) (pa_cons (pv 2) pa_nil)))) (pa_cons (pe_ix ix_tup (pv 0) pe_int (fun _ _ => rfl)) pa_nil))))), ?_⟩
  have ha : a.dp < n := by simp only [Tm.dp] at hp; omega

  obtain ⟨p, u, u', rfl, gp, d1, d2⟩ := Dd.of3 dd
  obtain ⟨_, sa, _⟩ := sm
  refine ⟨_, rfl, p, _, _, _, rfl, rfl, SqT.of gp, atI_nat (j := 1) rfl, _, rfl, _, rfl, u, d, s, a, e, rfl, d1, ec, se, ha, sa, .mk (fun k1 hk1 v G1 s1 r1 => ?_) (fun hf G1 s1 => q.no (by rw [chk, hf]; rfl) s1)⟩
  exact ⟨_, rfl, p, _, _, _, rfl, rfl, SqT.of (s1 _ _ gp), atI_nat (j := 2) rfl, (by show 3 ≤ sizeLine; decide), fun l nl => q.ok (k := .eith k1 k) (by rw [chk, hk1]; rfl) (s1.trans (newS nl)) ⟨l, v, u', rfl, .inl upd_same, r1.tk (.of (newS nl)), (rp_of d2).tk (.of (s1.trans (newS nl)))⟩⟩
abbrev tOfRight : Stmt := tp 68
abbrev nOfRight : List Str := ["term", "names", "settled"]
abbrev psOfRight : List Str := ["term", "names", "settled"]
theorem scOfRight : FnScope nOfRight psOfRight (defScope tOfRight) := ⟨rfl, rfl, rfl, by decide +kernel, rfl, by decide +kernel, by decide +kernel⟩
theorem okOfRight {f : Addr} {fd : FuncData} {k n : Nat} (F : Fun K "of_right" "of_right" tOfRight f fd)
    (DD : Okd P w K mg base (L2.CX P w) (k) "data_at" ["term", "names", "settled"] (spData K NS NO cN lk n)) : FnOk P w K mg base (L2.CX P w) (k + 1) f fd psOfRight (spRl K NS NO cN lk n fun t => ∃ (k : Kd) (a : Tm), t = .right k a) := by
  obtain ⟨fD, fdD, GD, bD, gD, kD⟩ := DD
  refine F.okX scOfRight (fun vs H Q E h => ?_) (fun cdv A outer s H vs Q E hr h => ?_)
  · obtain ⟨vt, d, s, t, e, rfl, _⟩ := h
    rfl
  obtain ⟨vt, d, s, t, e, rfl, dd, ec, se, hp, sm, ⟨k, a, rfl⟩, q⟩ := h
  refine ⟨_, pss_one (ps_ret (pe_tup (pa_cons pe_str (pa_cons (pe_ix ix_tup (pv 0) pe_int (fun _ _ => rfl)) (pa_cons (pe_callS GD hr (by rfl) gD kD bD (fun σ => passAt (takes_of rfl rfl rfl rfl) σ) (pa_cons (pe_ix ix_tup (pv 0) pe_int (fun _ _ => rfl)) (pa_cons (pv 1) (pa_cons (pv 2) pa_nil)))) pa_nil))))), ?_⟩
  have ha : a.dp < n := by simp only [Tm.dp] at hp; omega

  obtain ⟨p, u, u', rfl, gp, d1, d2⟩ := Dd.of3 dd
  obtain ⟨_, sa, _⟩ := sm
  refine ⟨_, rfl, p, _, _, _, rfl, rfl, SqT.of gp, atI_nat (j := 1) rfl, _, rfl, p, _, _, _, rfl, rfl, SqT.of gp, atI_nat (j := 2) rfl, _, rfl, _, rfl, u', d, s, a, e, rfl, d2, ec, se, ha, sa, .mk (fun k1 hk1 v G1 s1 r1 => ?_) (fun hf G1 s1 => q.no (by rw [chk, hf]; rfl) s1)⟩
  exact ⟨(by show 3 ≤ sizeLine; decide), fun l nl => q.ok (k := .eith k k1) (by rw [chk, hk1]; rfl) (s1.trans (newS nl)) ⟨l, u, v, rfl, .inl upd_same, (rp_of d1).tk (.of (s1.trans (newS nl))), r1.tk (.of (newS nl))⟩⟩
abbrev tOfMore : Stmt := tp 71
abbrev nOfMore : List Str := ["term", "names", "settled", "item"]
abbrev psOfMore : List Str := ["term", "names", "settled"]
theorem scOfMore : FnScope nOfMore psOfMore (defScope tOfMore) := ⟨rfl, rfl, rfl, by decide +kernel, rfl, by decide +kernel, by decide +kernel⟩
theorem okOfMore {f : Addr} {fd : FuncData} {k n : Nat} (F : Fun K "of_more" "of_more" tOfMore f fd)
    (DS : Okd P w K mg base (L2.CX P w) (k) "need_same" ["one", "other", "why"] (spSame K cN NO))
    (DK : Okd P w K mg base (L2.CX P w) (k) "kind_at" ["term", "names", "settled"] (spAt K NS NO cN lk n)) : FnOk P w K mg base (L2.CX P w) (k + 1) f fd psOfMore (spRl K NS NO cN lk n fun t => ∃ (a b : Tm), t = .more a b) := by
  obtain ⟨fS, fdS, GS, bS, gS, kS⟩ := DS
  obtain ⟨fK, fdK, GK, bK, gK, kK⟩ := DK
  refine F.okX scOfMore (fun vs H Q E h => ?_) (fun cdv A outer s H vs Q E hr h => ?_)
  · obtain ⟨vt, d, s, t, e, rfl, _⟩ := h
    rfl
  obtain ⟨vt, d, s, t, e, rfl, dd, ec, se, hp, sm, ⟨a, b, rfl⟩, q⟩ := h
  refine ⟨_, pss_cons (ps_set (i := 3) scOfMore.nd rfl (.inl rfl) (pe_callS GK hr (by rfl) gK kK bK (fun σ => passAt (takes_of rfl rfl rfl rfl) σ) (pa_cons (pe_ix ix_tup (pv 0) pe_int (fun _ _ => rfl)) (pa_cons (pv 1) (pa_cons (pv 2) pa_nil)))))
    (pss_one (ps_ret (pe_callS GS hr (by rfl) gS kS bS (fun σ => passAt (takes_of rfl rfl rfl rfl) σ) (pa_cons (pe_tup (pa_cons pe_str (pa_cons (pv 3) pa_nil))) (pa_cons (pe_callS GK hr (by rfl) gK kK bK (fun σ => passAt (takes_of rfl rfl rfl rfl) σ) (pa_cons (pe_ix ix_tup (pv 0) pe_int (fun _ _ => rfl)) (pa_cons (pv 1) (pa_cons (pv 2) pa_nil)))) (pa_cons pe_str pa_nil)))))), ?_⟩
  have ha : a.dp < n := by simp only [Tm.dp] at hp; omega
  have hb : b.dp < n := by simp only [Tm.dp] at hp; omega

  obtain ⟨p, u, u', rfl, gp, d1, d2⟩ := Dd.of3 dd
  obtain ⟨sa, sb, sg⟩ := sm
  refine ⟨_, rfl, p, _, _, _, rfl, rfl, SqT.of gp, atI_nat (j := 1) rfl, _, rfl, _, rfl, u, d, s, a, e, rfl, d1, ec, se, ha, sa, .mk (fun k1 hk1 v G1 s1 r1 => ?_) (fun hf G1 s1 => q.no (by rw [chk, hf]; rfl) s1)⟩
  refine ⟨_, rfl, (by show 2 ≤ sizeLine; decide), fun l nl => ?_⟩
  have sl := newS (o := .tup [.str "list", v]) nl
  have s1l := s1.trans sl
  refine ⟨_, rfl, p, _, _, _, rfl, rfl, SqT.of (s1l _ _ gp), atI_nat (j := 2) rfl, _, rfl, _, rfl, u', d, s, b, e, rfl, d2.same s1l, ec.same s1l, se.same s1l, hb, sb, .mk (fun k2 hk2 v2 G2 s2 r2 => ?_) (fun hk2 G2 s2 => q.no (by rw [chk, hk1, hk2]; rfl) (Ss.trans (.of s1l) s2))⟩
  have rl : Rp K G2 (.lst k1) (.ref l) := ⟨l, v, rfl, .inl (s2 _ _ upd_same), r1.tk (.of (sl.trans s2))⟩
  refine ⟨.ref l, v2, _, .lst k1, k2, rfl, rl, r2, sg k1 hk1, sb.gk (fun y q hy => ec.gk hy) hk2, fun c1 => ?_, fun c1 => ?_⟩
  · exact q.ok (by rw [chk, hk1, hk2]; exact if_pos c1) (s1l.trans s2) rl
  · exact q.no (by rw [chk, hk1, hk2]; exact if_neg c1) (.of (s1l.trans s2))
end
end Kq

/-! the rules -/
namespace Kq
open PySem PySem.Spec PyProof.Rows L2 Kf Kg Kv Kk Ku
theorem Dd.ofC {N : Addr → Prop} {H : Hp} {x y z : Str} {a b c : Dt} {v : V} (h : Dd N H (.tup [.str x, a, .str y, b, .str z, c]) v) : ∃ p u u' u'', v = .ref p ∧ H p = some (.tup [.str x, u, .str y, u', .str z, u'']) ∧ Dd N H a u ∧ Dd N H b u' ∧ Dd N H c u'' := by
  cases h with
  | tup e t =>
  cases t with
  | cons t1 t =>
  cases t with
  | cons t2 t =>
  cases t with
  | cons t3 t =>
  cases t with
  | cons t4 t =>
  cases t with
  | cons t5 t =>
  cases t with
  | cons t6 t =>
  cases t
  cases t1
  cases t3
  cases t5
  exact ⟨_, _, _, _, rfl, e, t2, t4, t6⟩
theorem Dd.ofB {N : Addr → Prop} {H : Hp} {w o x y : Str} {a b : Dt} {v : V} (h : Dd N H (.tup [.str w, a, .str o, .str x, .str y, b]) v) : ∃ p u u', v = .ref p ∧ H p = some (.tup [.str w, u, .str o, .str x, .str y, u']) ∧ Dd N H a u ∧ Dd N H b u' := by
  cases h with
  | tup e t =>
  cases t with
  | cons t1 t =>
  cases t with
  | cons t2 t =>
  cases t with
  | cons t3 t =>
  cases t with
  | cons t4 t =>
  cases t with
  | cons t5 t =>
  cases t with
  | cons t6 t =>
  cases t
  cases t1
  cases t3
  cases t4
  cases t5
  exact ⟨_, _, _, rfl, e, t2, t6⟩
theorem Dd.ofR {N : Addr → Prop} {H : Hp} {w x : Str} {i : Int} {a b : Dt} {v : V} (h : Dd N H (.tup [.str w, .int i, a, .str x, b]) v) : ∃ p u u', v = .ref p ∧ H p = some (.tup [.str w, .int i, u, .str x, u']) ∧ Dd N H a u ∧ Dd N H b u' := by
  cases h with
  | tup e t =>
  cases t with
  | cons t1 t =>
  cases t with
  | cons t2 t =>
  cases t with
  | cons t3 t =>
  cases t with
  | cons t4 t =>
  cases t with
  | cons t5 t =>
  cases t
  cases t1
  cases t2
  cases t4
  exact ⟨_, _, _, rfl, e, t3, t5⟩
theorem flat_strs (xs : List Str) : (xs.map V.str).all flatV = true := by
  rw [List.all_eq_true]
  intro x hx
  obtain ⟨y, _, rfl⟩ := List.mem_map.mp hx
  rfl
theorem inV_strs (x : Str) (xs : List Str) : inV (V.str x) (xs.map V.str) = true ↔ x ∈ xs := by
  unfold inV
  rw [List.any_eq_true]
  constructor
  · rintro ⟨y, hy, e⟩
    obtain ⟨z, hz, rfl⟩ := List.mem_map.mp hy
    have e : z = x := by simpa [eqV] using e
    rw [← e]
    exact hz
  · intro h
    exact ⟨V.str x, List.mem_map.mpr ⟨x, h, rfl⟩, by simp [eqV]⟩
theorem valV_at : ∀ {kvs : List (Key × V)} {i : Nat} {k : Key} {v : V}, (kvs.map (·.1)).Nodup → kvs[i]? = some (k, v) → valV kvs k = some v
  | kv :: r, 0, k, v, nd, h => by
    obtain rfl : kv = (k, v) := Option.some.inj h
    exact valV_pos rfl
  | kv :: r, i + 1, k, v, nd, h => by
    rw [List.map_cons, List.nodup_cons] at nd
    have h : r[i]? = some (k, v) := h
    rw [valV_neg (fun z => nd.1 (by rw [z]; exact List.mem_map.mpr ⟨(k, v), List.mem_of_getElem? h, rfl⟩))]
    exact valV_at nd.2 h
theorem valV_mem : ∀ {kvs : List (Key × V)} {k : Key} {v : V}, valV kvs k = some v → ∃ i : Nat, kvs[i]? = some (k, v)
  | [], _, _, h => by cases h
  | kv :: r, k, v, h => by
    by_cases c : kv.1 = k
    · rw [valV_pos c] at h
      refine ⟨0, ?_⟩
      show some kv = _
      rw [← c, ← Option.some.inj h]
    · rw [valV_neg c] at h
      obtain ⟨i, hi⟩ := valV_mem h
      exact ⟨i + 1, hi⟩
theorem Mut.dK {kvs : List (Key × V)} : Mut (some (.dK kvs)) := trivial
/-- over the values of a locked dict that stays -/
theorem for_vals {d : Addr} {o : Obj} {kvs : List (Key × V)} {g : TG} {tb : TS} {D : Ends} {σ : L2.St} {H : Hp} (Pv : Nat → L2.St → Hp → Prop) (h0 : Pv 0 σ H) (hl : ∀ i σ H, i ≤ kvs.length → Pv i σ H → H d = some (.frz o (.dK kvs)))
    (hs : ∀ i x σ H, kvs[i]? = some x → Pv i σ H → g x.2 σ H fun σ2 H2 => tb { D with nx := Pv (i + 1), ct := Pv (i + 1), bk := D.nx } σ2 H2) (hd : ∀ σ H, Pv kvs.length σ H → D.nx σ H) :
    ∃ W : Nat → Nat → L2.St → Hp → Prop, (∃ m, W 0 m σ H) ∧ ∀ i m σ H, W i m σ H →
      ((Itd d o kvs).stop i H ∧ D.nx σ H) ∨ ((Itd d o kvs).go i H ∧ ∃ N : L2.St → Hp → Prop, (∀ σ' H', N σ' H' → ∃ m', m' < m ∧ W (i + 1) m' σ' H') ∧ ∀ x H', (Itd d o kvs).yld i H x H' → g x σ H' fun σ2 H2 => tb { D with nx := N, ct := N, bk := D.nx } σ2 H2) := by
  refine ⟨fun i m σ H => m = kvs.length - i ∧ i ≤ kvs.length ∧ Pv i σ H, ⟨kvs.length, by simp, Nat.zero_le _, h0⟩, ?_⟩
  rintro i m σ H ⟨rfl, hi, p⟩
  have q := hl i σ H hi p
  by_cases hlt : i < kvs.length
  · refine .inr ⟨⟨q, hlt⟩, Pv (i + 1), fun σ' H' p' => ⟨kvs.length - (i + 1), by omega, rfl, hlt, p'⟩, fun x H' y => ?_⟩
    obtain ⟨e, k, y⟩ := y
    subst e
    exact hs i (k, x) σ _ y p
  · have e : i = kvs.length := by omega
    subst e
    exact .inl ⟨⟨q, Nat.le_refl _⟩, hd σ H p⟩
section
variable {P : Program} {w : World} {K : PySem.W.Frag} {mg : Str → Option Value} {base : Heap} {NS NO lk : List Str} {cN : Addr}
abbrev tOfAlike : Stmt := tp 74
abbrev nOfAlike : List Str := ["term", "names", "settled", "one"]
abbrev psOfAlike : List Str := ["term", "names", "settled"]
theorem scOfAlike : FnScope nOfAlike psOfAlike (defScope tOfAlike) := ⟨rfl, rfl, rfl, by decide +kernel, rfl, by decide +kernel, by decide +kernel⟩
theorem okOfAlike {f : Addr} {fd : FuncData} {k n : Nat} (F : Fun K "of_alike" "of_alike" tOfAlike f fd) {oN : Addr} (NK : NoK NO) (gN2 : GTu K mg "TRUTH" "truth" oN)
    (DN : Okd P w K mg base (L2.CX P w) (k) "need" ["held", "why"] (spNeed cN))
    (DS : Okd P w K mg base (L2.CX P w) (k) "need_same" ["one", "other", "why"] (spSame K cN NO))
    (DK : Okd P w K mg base (L2.CX P w) (k) "kind_at" ["term", "names", "settled"] (spAt K NS NO cN lk n))
    (DO : Okd P w K mg base (L2.CX P w) (k) "formed_at" ["word", "term", "names", "settled"] (spFormed K NS NO cN lk n)) : FnOk P w K mg base (L2.CX P w) (k + 1) f fd psOfAlike (spRl K NS NO cN lk n fun t => ∃ (a b : Tm), t = .alike a b) := by
  obtain ⟨fN, fdN, GN, bN, gN, kN⟩ := DN
  obtain ⟨fS, fdS, GS, bS, gS, kS⟩ := DS
  obtain ⟨fK, fdK, GK, bK, gK, kK⟩ := DK
  obtain ⟨fO, fdO, GO, bO, gO, kO⟩ := DO
  refine F.okX scOfAlike (fun vs H Q E h => ?_) (fun cdv A outer s H vs Q E hr h => ?_)
  · obtain ⟨vt, d, s, t, e, rfl, _⟩ := h
    rfl
  obtain ⟨vt, d, s, t, e, rfl, dd, ec, se, hp, sm, ⟨a, b, rfl⟩, q⟩ := h
  refine ⟨_, pss_cons (ps_set (i := 3) scOfAlike.nd rfl (.inl rfl) (pe_callS GO hr (by rfl) gO kO bO (fun σ => passAt (takes_of rfl rfl rfl rfl) σ) (pa_cons pe_str (pa_cons (pe_ix ix_tup (pv 0) pe_int (fun _ _ => rfl)) (pa_cons (pv 1) (pa_cons (pv 2) pa_nil))))))
    (pss_cons (ps_expr (pe_callS GS hr (by rfl) gS kS bS (fun σ => passAt (takes_of rfl rfl rfl rfl) σ) (pa_cons (pv 3) (pa_cons (pe_callS GK hr (by rfl) gK kK bK (fun σ => passAt (takes_of rfl rfl rfl rfl) σ) (pa_cons (pe_ix ix_tup (pv 0) pe_int (fun _ _ => rfl)) (pa_cons (pv 1) (pa_cons (pv 2) pa_nil)))) (pa_cons pe_str pa_nil)))))
    (pss_cons (ps_expr (pe_callS GN hr (by rfl) gN kN bN (fun σ => passAt (takes_of rfl rfl rfl rfl) σ) (pa_cons (pe_cmpR op_in_seq (pe_ix ix_tup (pv 3) pe_int (fun _ _ => rfl)) (pe_ix ix_tup (pv 2) pe_int (fun _ _ => rfl)) rfl) (pa_cons (pe_joined (.cons (pe_fmt (pe_ix ix_tup (pv 3) pe_int (fun _ _ => rfl))) (.cons pe_str .nil))) pa_nil))))
    (pss_one (ps_ret (pe_glob (v := .ref oN) (by rfl) gN2.mgN rfl))))), ?_⟩
  have ha : a.dp < n := by simp only [Tm.dp] at hp; omega
  have hb : b.dp < n := by simp only [Tm.dp] at hp; omega

  obtain ⟨p, u, u', rfl, gp, d1, d2⟩ := Dd.of3 dd
  obtain ⟨sa, sb⟩ := sm
  refine ⟨_, rfl, p, _, _, _, rfl, rfl, SqT.of gp, atI_nat (j := 1) rfl, _, rfl, _, rfl, "open", u, d, s, a, e, rfl, by decide +kernel, d1, ec, se, ha, sa, .mkO (fun f hf v G1 s1 r1 => ?_) (fun hf G1 s1 => q.no (by rw [chk, hf]; rfl) s1)⟩
  refine ⟨_, rfl, _, rfl, p, _, _, _, rfl, rfl, SqT.of (s1 _ _ gp), atI_nat (j := 2) rfl, _, rfl, _, rfl, u', d, s, b, e, rfl, d2.same s1, ec.same s1, se.same s1, hb, sb, .mk (fun k2 hk2 v2 G2 s2 r2 => ?_) (fun hk2 G2 s2 => q.no (by rw [chk, hf, hk2]; rfl) (Ss.trans (.of s1) s2))⟩
  have g1 := sa.gk (fun y q hy => ec.gk hy) (opOf_eq hf)
  have r1' := r1.tk (.of s2)
  have s12 := s1.trans s2
  refine ⟨v, v2, _, .opn f, k2, rfl, r1', r2, g1, sb.gk (fun y q hy => ec.gk hy) hk2, fun c1 => ?_, fun c1 => ?_⟩
  · obtain ⟨c, rfl, gc⟩ := r1'
    obtain ⟨la, lb, gs, gl, gb⟩ := se.same s12
    have hf8 : f.length ≤ 100 := by
      have := (NK.nm f (g1.op f List.mem_cons_self)).few
      show f.cps.size ≤ 100
      rw [← Array.length_toList]
      omega
    refine ⟨_, rfl, c, _, _, _, rfl, rfl, gc.t, atI_nat (j := 1) rfl, _, rfl, s, _, _, _, rfl, rfl, SqT.of gs, atI_nat (j := 0) rfl, la, _, rfl, .inr (SqT.of gl), rfl, flat_strs lk, ?_⟩
    refine ⟨_, rfl, c, _, _, _, rfl, rfl, gc.t, atI_nat (j := 1) rfl, .inl ⟨f, rfl, sz (by omega), _, rfl, jn1 hf8, _, rfl, jn3 hf8, ?_⟩⟩
    have eq : ∀ o, (if f ∈ lk then some Kd.tru else none) = o → chk lk (.alike a b) e = o := fun o ho => by
      rw [chk, hf, hk2]
      exact (if_pos c1).trans ho
    refine ⟨_, _, rfl, fun c2 => ?_, fun c2 => ?_⟩
    · exact q.ok (eq _ (if_pos ((inV_strs f lk).mp c2))) s12 (gN2.tru _)
    · exact q.no (eq _ (if_neg (fun z => by
        rw [show inV (V.str f) (lk.map V.str) = true from (inV_strs f lk).mpr z] at c2
        cases c2))) (.of s12)
  · exact q.no (by rw [chk, hf, hk2]; exact if_neg c1) (.of s12)
abbrev tOfCase : Stmt := tp 69
abbrev nOfCase : List Str := ["term", "names", "settled", "word", "asked", "x", "left", "y", "right", "sides", "one"]
abbrev psOfCase : List Str := ["term", "names", "settled"]
theorem scOfCase : FnScope nOfCase psOfCase (defScope tOfCase) := ⟨rfl, rfl, rfl, by decide +kernel, rfl, by decide +kernel, by decide +kernel⟩
theorem okOfCase {f : Addr} {fd : FuncData} {k n : Nat} (F : Fun K "of_case" "of_case" tOfCase f fd) (hn : NS.length ≤ 400)
    (DS : Okd P w K mg base (L2.CX P w) (k) "need_same" ["one", "other", "why"] (spSame K cN NO))
    (DK : Okd P w K mg base (L2.CX P w) (k) "kind_at" ["term", "names", "settled"] (spAt K NS NO cN lk n))
    (DO : Okd P w K mg base (L2.CX P w) (k) "formed_at" ["word", "term", "names", "settled"] (spFormed K NS NO cN lk n)) : FnOk P w K mg base (L2.CX P w) (k + 1) f fd psOfCase (spRl K NS NO cN lk n fun t => ∃ (a : Tm) (x : Str) (b : Tm) (y : Str) (c : Tm), t = .case a x b y c) := by
  obtain ⟨fS, fdS, GS, bS, gS, kS⟩ := DS
  obtain ⟨fK, fdK, GK, bK, gK, kK⟩ := DK
  obtain ⟨fO, fdO, GO, bO, gO, kO⟩ := DO
  refine F.okX scOfCase (fun vs H Q E h => ?_) (fun cdv A outer s H vs Q E hr h => ?_)
  · obtain ⟨vt, d, s, t, e, rfl, _⟩ := h
    rfl
  obtain ⟨vt, d, s, t, e, rfl, dd, ec, se, hp, sm, ⟨a, x, b, y, c, rfl⟩, q⟩ := h
  refine ⟨_, pss_cons (ps_asg (pv 0) (pg_tup rfl (pgs_cons (pg_name (i := 3) scOfCase.nd rfl (.inl rfl)) (pgs_cons (pg_name (i := 4) scOfCase.nd rfl (.inl rfl)) (pgs_cons (pg_name (i := 5) scOfCase.nd rfl (.inl rfl)) (pgs_cons (pg_name (i := 6) scOfCase.nd rfl (.inl rfl)) (pgs_cons (pg_name (i := 7) scOfCase.nd rfl (.inl rfl)) (pgs_cons (pg_name (i := 8) scOfCase.nd rfl (.inl rfl)) pgs_nil))))))))
    (pss_cons (ps_set (i := 9) scOfCase.nd rfl (.inl rfl) (pe_callS GO hr (by rfl) gO kO bO (fun σ => passAt (takes_of rfl rfl rfl rfl) σ) (pa_cons pe_str (pa_cons (pv 4) (pa_cons (pv 1) (pa_cons (pv 2) pa_nil))))))
    (pss_cons (ps_set (i := 10) scOfCase.nd rfl (.inl rfl) (pe_callS GK hr (by rfl) gK kK bK (fun σ => passAt (takes_of rfl rfl rfl rfl) σ) (pa_cons (pv 6) (pa_cons (pe_dsplat (pv 1) (pps_cons (pv 5) (pe_ix ix_tup (pv 9) pe_int (fun _ _ => rfl)) pps_nil) (by rfl) (by rfl) (fun z => by cases z) (by decide)) (pa_cons (pv 2) pa_nil)))))
    (pss_one (ps_ret (pe_callS GS hr (by rfl) gS kS bS (fun σ => passAt (takes_of rfl rfl rfl rfl) σ) (pa_cons (pv 10) (pa_cons (pe_callS GK hr (by rfl) gK kK bK (fun σ => passAt (takes_of rfl rfl rfl rfl) σ) (pa_cons (pv 8) (pa_cons (pe_dsplat (pv 1) (pps_cons (pv 7) (pe_ix ix_tup (pv 9) pe_int (fun _ _ => rfl)) pps_nil) (by rfl) (by rfl) (fun z => by cases z) (by decide)) (pa_cons (pv 2) pa_nil)))) (pa_cons pe_str pa_nil)))))))), ?_⟩
  have ha : a.dp < n := by simp only [Tm.dp] at hp; omega
  have hb : b.dp < n := by simp only [Tm.dp] at hp; omega
  have hc : c.dp < n := by simp only [Tm.dp] at hp; omega

  obtain ⟨p, u, u', u'', rfl, gp, d1, d2, d3⟩ := Dd.ofC dd
  obtain ⟨hx, hy, sa, sr⟩ := sm
  refine ⟨_, rfl, p, _, rfl, SqT.of gp, rfl, _, _, rfl, _, _, rfl, _, _, rfl, _, _, rfl, _, _, rfl, _, _, rfl, rfl, ?_⟩
  refine ⟨_, rfl, _, rfl, _, rfl, "either", u, d, s, a, e, rfl, by decide +kernel, d1, ec, se, ha, sa, .mkE (fun f hf v G1 s1 r1 => ?_) (fun hf G1 s1 => q.no (by rw [chk, hf]; rfl) s1)⟩
  obtain ⟨z, v1, v2, rfl, gz, q1, q2⟩ := r1
  have gf := sa.gk (fun y q hy => ec.gk hy) (eiOf_eq hf)
  obtain ⟨sb, sc⟩ := sr _ _ (eiOf_eq hf)
  refine ⟨_, rfl, splatC (ec.same s1) hn rfl fun G T sG fin => ?_⟩
  refine ⟨_, rfl, _, rfl, z, _, _, _, rfl, rfl, (gz.tk (.of sG)).t, atI_nat (j := 1) rfl, fin [(x, f.1, v1)] G (Same.refl G) (by show 1 ≤ 2; decide) (fun y hy => ?_) (fun p2 F np2 sF ecF => ?_)⟩
  · rw [List.mem_singleton.mp hy]
    exact ⟨hx, gf.ei1, q1.tk (.of sG)⟩
  have s1F := s1.trans sF
  refine ⟨_, rfl, u', p2, s, b, e.put x f.1, rfl, d2.same s1F, ecF, se.same s1F, hb, sb, .mk (fun k2 hk2 w2 G2 s2 r2 => ?_) (fun hk G2 s2 => q.no (by rw [chk, hf]; show Option.bind (chk lk b (e.put x f.1)) _ = _; rw [hk]; rfl) (.of (s1.trans (Ss.new np2 sF s2))))⟩
  have s1G := s1F.trans s2
  have sFG := sF.trans s2
  refine ⟨_, rfl, _, rfl, splatC (ec.same s1G) hn rfl fun G' T' sG' fin' => ?_⟩
  refine ⟨_, rfl, _, rfl, z, _, _, _, rfl, rfl, (gz.tk (.of (sFG.trans sG'))).t, atI_nat (j := 2) rfl, fin' [(y, f.2, v2)] G' (Same.refl G') (by show 1 ≤ 2; decide) (fun y hy2 => ?_) (fun p3 F3 np3 sF3 ecF3 => ?_)⟩
  · rw [List.mem_singleton.mp hy2]
    exact ⟨hy, gf.ei2, q2.tk (.of (sFG.trans sG'))⟩
  have s13 := s1G.trans sF3
  refine ⟨_, rfl, u'', p3, s, c, e.put y f.2, rfl, d3.same s13, ecF3, se.same s13, hc, sc, .mk (fun k3 hk3 w3 G4 s4 r4 => ?_) (fun hk G2 s2 => q.no (by rw [chk, hf]; show Option.bind (chk lk b (e.put x f.1)) _ = _; rw [hk2]; show Option.bind (chk lk c (e.put y f.2)) _ = _; rw [hk]; rfl) (.of (s1G.trans (Ss.new np3 sF3 s2))))⟩
  have eq : ∀ o, (if k2 = k3 then some k2 else none) = o → chk lk (.case a x b y c) e = o := fun o ho => by
    rw [chk, hf]
    show Option.bind (chk lk b (e.put x f.1)) _ = _
    rw [hk2]
    show Option.bind (chk lk c (e.put y f.2)) _ = _
    rw [hk3]
    exact ho
  have r2' := r2.tk (.of (sF3.trans s4))
  refine ⟨w2, w3, _, k2, k3, rfl, r2', r4, sb.gk (put_gk (fun y q hy => ec.gk hy) gf.ei1) hk2, sc.gk (put_gk (fun y q hy => ec.gk hy) gf.ei2) hk3, fun c1 => ?_, fun c1 => ?_⟩
  · exact q.ok (eq _ (if_pos c1)) (s13.trans s4) r2'
  · exact q.no (eq _ (if_neg c1)) (.of (s13.trans s4))
abbrev tOfFold : Stmt := tp 72
abbrev nOfFold : List Str := ["term", "names", "settled", "word", "asked", "begun", "x", "y", "turn", "items", "end", "told"]
abbrev psOfFold : List Str := ["term", "names", "settled"]
theorem scOfFold : FnScope nOfFold psOfFold (defScope tOfFold) := ⟨rfl, rfl, rfl, by decide +kernel, rfl, by decide +kernel, by decide +kernel⟩
theorem okOfFold {f : Addr} {fd : FuncData} {k n : Nat} (F : Fun K "of_fold" "of_fold" tOfFold f fd) (hn : NS.length ≤ 400)
    (DS : Okd P w K mg base (L2.CX P w) (k) "need_same" ["one", "other", "why"] (spSame K cN NO))
    (DK : Okd P w K mg base (L2.CX P w) (k) "kind_at" ["term", "names", "settled"] (spAt K NS NO cN lk n))
    (DD : Okd P w K mg base (L2.CX P w) (k) "data_at" ["term", "names", "settled"] (spData K NS NO cN lk n))
    (DO : Okd P w K mg base (L2.CX P w) (k) "formed_at" ["word", "term", "names", "settled"] (spFormed K NS NO cN lk n)) : FnOk P w K mg base (L2.CX P w) (k + 1) f fd psOfFold (spRl K NS NO cN lk n fun t => ∃ (a b : Tm) (x y : Str) (c : Tm), t = .fold a b x y c) := by
  obtain ⟨fS, fdS, GS, bS, gS, kS⟩ := DS
  obtain ⟨fK, fdK, GK, bK, gK, kK⟩ := DK
  obtain ⟨fD, fdD, GD, bD, gD, kD⟩ := DD
  obtain ⟨fO, fdO, GO, bO, gO, kO⟩ := DO
  refine F.okX scOfFold (fun vs H Q E h => ?_) (fun cdv A outer s H vs Q E hr h => ?_)
  · obtain ⟨vt, d, s, t, e, rfl, _⟩ := h
    rfl
  obtain ⟨vt, d, s, t, e, rfl, dd, ec, se, hp, sm, ⟨a, b, x, y, c, rfl⟩, q⟩ := h
  refine ⟨_, pss_cons (ps_asg (pv 0) (pg_tup rfl (pgs_cons (pg_name (i := 3) scOfFold.nd rfl (.inl rfl)) (pgs_cons (pg_name (i := 4) scOfFold.nd rfl (.inl rfl)) (pgs_cons (pg_name (i := 5) scOfFold.nd rfl (.inl rfl)) (pgs_cons (pg_name (i := 6) scOfFold.nd rfl (.inl rfl)) (pgs_cons (pg_name (i := 7) scOfFold.nd rfl (.inl rfl)) (pgs_cons (pg_name (i := 8) scOfFold.nd rfl (.inl rfl)) pgs_nil))))))))
    (pss_cons (ps_set (i := 9) scOfFold.nd rfl (.inl rfl) (pe_callS GO hr (by rfl) gO kO bO (fun σ => passAt (takes_of rfl rfl rfl rfl) σ) (pa_cons pe_str (pa_cons (pv 4) (pa_cons (pv 1) (pa_cons (pv 2) pa_nil))))))
    (pss_cons (ps_set (i := 10) scOfFold.nd rfl (.inl rfl) (pe_callS GD hr (by rfl) gD kD bD (fun σ => passAt (takes_of rfl rfl rfl rfl) σ) (pa_cons (pv 5) (pa_cons (pv 1) (pa_cons (pv 2) pa_nil)))))
    (pss_cons (ps_set (i := 11) scOfFold.nd rfl (.inl rfl) (pe_callS GK hr (by rfl) gK kK bK (fun σ => passAt (takes_of rfl rfl rfl rfl) σ) (pa_cons (pv 8) (pa_cons (pe_dsplat (pv 1) (pps_cons (pv 6) (pe_ix ix_tup (pv 9) pe_int (fun _ _ => rfl)) (pps_cons (pv 7) (pv 10) pps_nil)) (by rfl) (by rfl) (fun z => by cases z) (by decide)) (pa_cons (pv 2) pa_nil)))))
    (pss_one (ps_ret (pe_callS GS hr (by rfl) gS kS bS (fun σ => passAt (takes_of rfl rfl rfl rfl) σ) (pa_cons (pv 10) (pa_cons (pv 11) (pa_cons pe_str pa_nil))))))))), ?_⟩
  have ha : a.dp < n := by simp only [Tm.dp] at hp; omega
  have hb : b.dp < n := by simp only [Tm.dp] at hp; omega
  have hc : c.dp < n := by simp only [Tm.dp] at hp; omega

  obtain ⟨p, u, u', u'', rfl, gp, d1, d2, d3⟩ := Dd.of6 dd
  obtain ⟨hx, hy, sa, sb, sr⟩ := sm
  refine ⟨_, rfl, p, _, rfl, SqT.of gp, rfl, _, _, rfl, _, _, rfl, _, _, rfl, _, _, rfl, _, _, rfl, _, _, rfl, rfl, ?_⟩
  refine ⟨_, rfl, _, rfl, _, rfl, "list", u, d, s, a, e, rfl, by decide +kernel, d1, ec, se, ha, sa, .mkL (fun f hf v G1 s1 r1 => ?_) (fun hf G1 s1 => q.no (by rw [chk, hf]; rfl) s1)⟩
  obtain ⟨z, v1, rfl, gz, q1⟩ := r1
  have gf := sa.gk (fun y q hy => ec.gk hy) (lsOf_eq hf)
  refine ⟨_, rfl, _, rfl, _, rfl, u', d, s, b, e, rfl, d2.same s1, ec.same s1, se.same s1, hb, sb, .mk (fun k2 hk2 w2 G2 s2 r2 => ?_) (fun hk2 G2 s2 => q.no (by rw [chk, hf]; show Option.bind ((chk lk b e).bind Kd.daOf) _ = _; rw [hk2]; rfl) (Ss.trans (.of s1) s2))⟩
  have s12 := s1.trans s2
  have gd := sb.gk (fun y q hy => ec.gk hy) (daOf_eq hk2).1
  have sc := sr f k2 (lsOf_eq hf) (daOf_eq hk2).1
  refine ⟨_, rfl, splatC (ec.same s12) hn rfl fun G T sG fin => ?_⟩
  refine ⟨_, rfl, _, rfl, z, _, _, _, rfl, rfl, (gz.tk (.of (s2.trans sG))).t, atI_nat (j := 1) rfl, _, rfl, _, rfl, fin [(x, f, v1), (y, k2, w2)] G (Same.refl G) (by show 2 ≤ 2; decide) (fun y hy2 => ?_) (fun p2 F np2 sF ecF => ?_)⟩
  · rcases List.mem_cons.mp hy2 with rfl | hy2
    · exact ⟨hx, gf.ls, q1.tk (.of (s2.trans sG))⟩
    · rw [List.mem_singleton.mp hy2]
      exact ⟨hy, gd, r2.tk (.of sG)⟩
  have s1F := s12.trans sF
  refine ⟨_, rfl, u'', p2, s, c, (e.put x f).put y k2, rfl, d3.same s1F, ecF, se.same s1F, hc, sc, .mk (fun k3 hk3 w3 G4 s4 r4 => ?_) (fun hk G3 s3 => q.no (by rw [chk, hf]; show Option.bind ((chk lk b e).bind Kd.daOf) _ = _; rw [hk2]; show Option.bind (chk lk c ((e.put x f).put y k2)) _ = _; rw [hk]; rfl) (.of (s12.trans (Ss.new np2 sF s3))))⟩
  have eq : ∀ o, (if k2 = k3 then some k2 else none) = o → chk lk (.fold a b x y c) e = o := fun o ho => by
    rw [chk, hf]
    show Option.bind ((chk lk b e).bind Kd.daOf) _ = _
    rw [hk2]
    show Option.bind (chk lk c ((e.put x f).put y k2)) _ = _
    rw [hk3]
    exact ho
  have r2' := r2.tk (.of (sF.trans s4))
  refine ⟨_, rfl, _, rfl, w2, w3, _, k2, k3, rfl, r2', r4, gd, sc.gk (put_gk (put_gk (fun y q hy => ec.gk hy) gf.ls) gd) hk3, fun c1 => ?_, fun c1 => ?_⟩
  · exact q.ok (eq _ (if_pos c1)) (s1F.trans s4) r2'
  · exact q.no (eq _ (if_neg c1)) (.of (s1F.trans s4))
abbrev tOfRounds : Stmt := tp 76
abbrev nOfRounds : List Str := ["term", "names", "settled", "word", "turns", "begun", "x", "turn", "round_kind", "sides"]
abbrev psOfRounds : List Str := ["term", "names", "settled"]
theorem scOfRounds : FnScope nOfRounds psOfRounds (defScope tOfRounds) := ⟨rfl, rfl, rfl, by decide +kernel, rfl, by decide +kernel, by decide +kernel⟩
theorem okOfRounds {f : Addr} {fd : FuncData} {k n : Nat} (F : Fun K "of_rounds" "of_rounds" tOfRounds f fd) (hn : NS.length ≤ 400)
    (DS : Okd P w K mg base (L2.CX P w) (k) "need_same" ["one", "other", "why"] (spSame K cN NO))
    (DO : Okd P w K mg base (L2.CX P w) (k) "formed_at" ["word", "term", "names", "settled"] (spFormed K NS NO cN lk n))
    (DD : Okd P w K mg base (L2.CX P w) (k) "data_at" ["term", "names", "settled"] (spData K NS NO cN lk n)) : FnOk P w K mg base (L2.CX P w) (k + 1) f fd psOfRounds (spRl K NS NO cN lk n fun t => ∃ (m : Int) (a : Tm) (x : Str) (b : Tm), t = .rounds m a x b) := by
  obtain ⟨fS, fdS, GS, bS, gS, kS⟩ := DS
  obtain ⟨fO, fdO, GO, bO, gO, kO⟩ := DO
  obtain ⟨fD, fdD, GD, bD, gD, kD⟩ := DD
  refine F.okX scOfRounds (fun vs H Q E h => ?_) (fun cdv A outer s H vs Q E hr h => ?_)
  · obtain ⟨vt, d, s, t, e, rfl, _⟩ := h
    rfl
  obtain ⟨vt, d, s, t, e, rfl, dd, ec, se, hp, sm, ⟨m, a, x, b, rfl⟩, q⟩ := h
  refine ⟨_, pss_cons (ps_asg (pv 0) (pg_tup rfl (pgs_cons (pg_name (i := 3) scOfRounds.nd rfl (.inl rfl)) (pgs_cons (pg_name (i := 4) scOfRounds.nd rfl (.inl rfl)) (pgs_cons (pg_name (i := 5) scOfRounds.nd rfl (.inl rfl)) (pgs_cons (pg_name (i := 6) scOfRounds.nd rfl (.inl rfl)) (pgs_cons (pg_name (i := 7) scOfRounds.nd rfl (.inl rfl)) pgs_nil)))))))
    (pss_cons (ps_set (i := 8) scOfRounds.nd rfl (.inl rfl) (pe_callS GD hr (by rfl) gD kD bD (fun σ => passAt (takes_of rfl rfl rfl rfl) σ) (pa_cons (pv 5) (pa_cons (pv 1) (pa_cons (pv 2) pa_nil)))))
    (pss_cons (ps_set (i := 9) scOfRounds.nd rfl (.inl rfl) (pe_callS GO hr (by rfl) gO kO bO (fun σ => passAt (takes_of rfl rfl rfl rfl) σ) (pa_cons pe_str (pa_cons (pv 7) (pa_cons (pe_dsplat (pv 1) (pps_cons (pv 6) (pv 8) pps_nil) (by rfl) (by rfl) (fun z => by cases z) (by decide)) (pa_cons (pv 2) pa_nil))))))
    (pss_cons (ps_expr (pe_callS GS hr (by rfl) gS kS bS (fun σ => passAt (takes_of rfl rfl rfl rfl) σ) (pa_cons (pv 8) (pa_cons (pe_ix ix_tup (pv 9) pe_int (fun _ _ => rfl)) (pa_cons pe_str pa_nil)))))
    (pss_one (ps_ret (pe_ix ix_tup (pv 9) pe_int (fun _ _ => rfl))))))), ?_⟩
  have ha : a.dp < n := by simp only [Tm.dp] at hp; omega
  have hb : b.dp < n := by simp only [Tm.dp] at hp; omega

  obtain ⟨p, u, u', rfl, gp, d1, d2⟩ := Dd.ofR dd
  obtain ⟨hx, sa, sr⟩ := sm
  refine ⟨_, rfl, p, _, rfl, SqT.of gp, rfl, _, _, rfl, _, _, rfl, _, _, rfl, _, _, rfl, _, _, rfl, rfl, ?_⟩
  refine ⟨_, rfl, _, rfl, _, rfl, u, d, s, a, e, rfl, d1, ec, se, ha, sa, .mk (fun k1 hk1 w1 G1 s1 r1 => ?_) (fun hf G1 s1 => q.no (by rw [chk, hf]; rfl) s1)⟩
  have gd := sa.gk (fun y q hy => ec.gk hy) (daOf_eq hk1).1
  have sb := sr k1 (daOf_eq hk1).1
  refine ⟨_, rfl, splatC (ec.same s1) hn rfl fun G T sG fin => ?_⟩
  refine ⟨_, rfl, _, rfl, fin [(x, k1, w1)] G (Same.refl G) (by show 1 ≤ 2; decide) (fun y hy2 => ?_) (fun p2 F np2 sF ecF => ?_)⟩
  · rw [List.mem_singleton.mp hy2]
    exact ⟨hx, gd, r1.tk (.of sG)⟩
  have s1F := s1.trans sF
  refine ⟨_, rfl, "either", u', p2, s, b, e.put x k1, rfl, by decide +kernel, d2.same s1F, ecF, se.same s1F, hb, sb, .mkE (fun f hf v G2 s2 r2 => ?_) (fun hf G2 s2 => q.no (by rw [chk, hk1]; show Option.bind ((chk lk b (e.put x k1)).bind Kd.eiOf) _ = _; rw [hf]; rfl) (.of (s1.trans (Ss.new np2 sF s2))))⟩
  obtain ⟨z, v1, v2, rfl, gz, q1, q2⟩ := r2
  have gf := sb.gk (put_gk (fun y q hy => ec.gk hy) gd) (eiOf_eq hf)
  have eq : ∀ o, (if k1 = f.1 then some f.2 else none) = o → chk lk (.rounds m a x b) e = o := fun o ho => by
    rw [chk, hk1]
    show Option.bind ((chk lk b (e.put x k1)).bind Kd.eiOf) _ = _
    rw [hf]
    exact ho
  refine ⟨_, rfl, _, rfl, z, _, _, _, rfl, rfl, gz.t, atI_nat (j := 1) rfl, w1, v1, _, k1, f.1, rfl, r1.tk (.of (sF.trans s2)), q1, gd, gf.ei1, fun c1 => ?_, fun c1 => ?_⟩
  · exact ⟨_, rfl, z, _, _, _, rfl, rfl, gz.t, atI_nat (j := 2) rfl, q.ok (eq _ (if_pos c1)) (s1F.trans s2) q2⟩
  · exact q.no (eq _ (if_neg c1)) (.of (s1F.trans s2))
abbrev tOfBuilt : Stmt := tp 73
abbrev nOfBuilt : List Str := ["term", "names", "settled", "word", "item", "own", "x", "y", "inner", "kind", "end", "told"]
abbrev psOfBuilt : List Str := ["term", "names", "settled"]
theorem scOfBuilt : FnScope nOfBuilt psOfBuilt (defScope tOfBuilt) := ⟨rfl, rfl, rfl, by decide +kernel, rfl, by decide +kernel, by decide +kernel⟩
theorem okOfBuilt {f : Addr} {fd : FuncData} {k n : Nat} (F : Fun K "of_built" "of_built" tOfBuilt f fd) (hn : NS.length ≤ 400) (NK : NoK NO)
    (DS : Okd P w K mg base (L2.CX P w) (k) "need_same" ["one", "other", "why"] (spSame K cN NO))
    (DK : Okd P w K mg base (L2.CX P w) (k) "kind_at" ["term", "names", "settled"] (spAt K NS NO cN lk n))
    (DN : Okd P w K mg base (L2.CX P w) (k) "need" ["held", "why"] (spNeed cN))
    (DI : Okd P w K mg base CX0 (k) "opens_in" ["kind"] (spOpens K)) : FnOk P w K mg base (L2.CX P w) (k + 1) f fd psOfBuilt (spRl K NS NO cN lk n fun t => ∃ (k : Kd) (o x y : Str) (b : Tm), t = .built k o x y b) := by
  obtain ⟨fS, fdS, GS, bS, gS, kS⟩ := DS
  obtain ⟨fK, fdK, GK, bK, gK, kK⟩ := DK
  obtain ⟨fN, fdN, GN, bN, gN, kN⟩ := DN
  obtain ⟨fI, fdI, GI, bI, gI, kI⟩ := DI
  refine F.okX scOfBuilt (fun vs H Q E h => ?_) (fun cdv A outer s H vs Q E hr h => ?_)
  · obtain ⟨vt, d, s, t, e, rfl, _⟩ := h
    rfl
  obtain ⟨vt, d, s, t, e, rfl, dd, ec, se, hp, sm, ⟨k, o, x, y, b, rfl⟩, q⟩ := h
  refine ⟨_, pss_cons (ps_asg (pv 0) (pg_tup rfl (pgs_cons (pg_name (i := 3) scOfBuilt.nd rfl (.inl rfl)) (pgs_cons (pg_name (i := 4) scOfBuilt.nd rfl (.inl rfl)) (pgs_cons (pg_name (i := 5) scOfBuilt.nd rfl (.inl rfl)) (pgs_cons (pg_name (i := 6) scOfBuilt.nd rfl (.inl rfl)) (pgs_cons (pg_name (i := 7) scOfBuilt.nd rfl (.inl rfl)) (pgs_cons (pg_name (i := 8) scOfBuilt.nd rfl (.inl rfl)) pgs_nil))))))))
    (pss_cons (ps_expr (pe_callS GN hr (by rfl) gN kN bN (fun σ => passAt (takes_of rfl rfl rfl rfl) σ) (pa_cons (pe_cmpR op_notIn_seq (pv 5) (pe_ix ix_tup (pv 2) pe_int (fun _ _ => rfl)) rfl) (pa_cons pe_str pa_nil))))
    (pss_cons (ps_expr (pe_callS GN hr (by rfl) gN kN bN (fun σ => passAt (takes_of rfl rfl rfl rfl) σ) (pa_cons (pe_cmpR op_notIn_seq (pv 5) (pe_call GI hr (by rfl) gI kI bI .nil pass0 (pa_cons (pv 4) pa_nil)) rfl) (pa_cons pe_str pa_nil))))
    (pss_cons (ps_lock (ps_for (passes_of rfl) rfl (pi_values (pv 1)) (pg_name (i := 9) scOfBuilt.nd rfl (.inl rfl)) (pss_one (ps_expr (pe_callS GN hr (by rfl) gN kN bN (fun σ => passAt (takes_of rfl rfl rfl rfl) σ) (pa_cons (pe_cmpR op_notIn_seq (pv 5) (pe_call GI hr (by rfl) gI kI bI .nil pass0 (pa_cons (pv 9) pa_nil)) rfl) (pa_cons pe_str pa_nil)))))))
    (pss_cons (ps_set (i := 10) scOfBuilt.nd rfl (.inl rfl) (pe_tup (pa_cons pe_str (pa_cons (pv 5) pa_nil))))
    (pss_cons (ps_set (i := 11) scOfBuilt.nd rfl (.inl rfl) (pe_callS GK hr (by rfl) gK kK bK (fun σ => passAt (takes_of rfl rfl rfl rfl) σ) (pa_cons (pv 8) (pa_cons (pe_dsplat (pv 1) (pps_cons (pv 6) (pe_tup (pa_cons pe_str (pa_cons (pv 4) (pa_cons (pe_tup (pa_cons pe_str (pa_cons (pv 10) (pa_cons (pv 10) pa_nil)))) pa_nil)))) (pps_cons (pv 7) (pv 10) pps_nil)) (by rfl) (by rfl) (fun z => by cases z) (by decide)) (pa_cons (pv 2) pa_nil)))))
    (pss_cons (ps_expr (pe_callS GS hr (by rfl) gS kS bS (fun σ => passAt (takes_of rfl rfl rfl rfl) σ) (pa_cons (pv 10) (pa_cons (pv 11) (pa_cons pe_str pa_nil)))))
    (pss_one (ps_ret (pe_tup (pa_cons pe_str (pa_cons (pv 4) pa_nil))))))))))), ?_⟩
  have hb : b.dp < n := by simp only [Tm.dp] at hp; omega

  obtain ⟨p, u, u', rfl, gp, d1, d2⟩ := Dd.ofB dd
  obtain ⟨hx, hy, ho, g1, g2, sb⟩ := sm
  refine ⟨_, rfl, p, _, rfl, SqT.of gp, rfl, _, _, rfl, _, _, rfl, _, _, rfl, _, _, rfl, _, _, rfl, _, _, rfl, rfl, ?_⟩
  obtain ⟨la, lb, gs, gl, gb⟩ := id se
  refine ⟨_, rfl, _, rfl, s, _, _, _, rfl, rfl, SqT.of gs, atI_nat (j := 0) rfl, la, _, rfl, .inr (SqT.of gl), rfl, flat_strs lk, _, _, rfl, fun c1 => ?_, fun c1 => ?_⟩
  rotate_left
  · exact q.no (by rw [chk]; exact if_pos (.inl ((inV_strs o lk).mp (by simpa using c1)))) Ss.rfl
  have n1 : o ∉ lk := fun z => by
    rw [show inV (V.str o) (lk.map V.str) = true from (inV_strs o lk).mpr z] at c1
    cases c1
  refine ⟨_, rfl, _, rfl, u, k, rfl, rp_of d1, g1.ls.sz, ⟨NO, NK.nd, NK.len, g1.ls.op⟩, fun p1 ys G1 s1 gp1 _ _ my => ?_⟩
  refine ⟨p1, _, rfl, .inr (SqT.of gp1), rfl, flat_strs ys, _, _, rfl, fun c2 => ?_, fun c2 => ?_⟩
  rotate_left
  · exact q.no (by rw [chk]; exact if_pos (.inr (.inl ((my o).mp ((inV_strs o ys).mp (by simpa using c2)))))) (.of s1)
  have n2 : o ∉ k.opens := fun z => by
    rw [show inV (V.str o) (ys.map V.str) = true from (inV_strs o ys).mpr ((my o).mpr z)] at c2
    cases c2
  obtain ⟨kvs, gd, nd, l1, l2⟩ := id (ec.same s1)
  refine ⟨d, .dK kvs, gd, trivial, fun od => ?_⟩
  refine ⟨_, rfl, d, od, kvs, rfl, upd_same, for_vals (d := d) (o := od) (kvs := kvs) (fun i σ G => ∃ y9, σ = [some (.ref p), some (.ref d), some (.ref s), some (.str "built"), some u, some (.str o), some (.str x), some (.str y), some u', y9, none, none] ∧ Ss d G1 G ∧ G d = some (.frz od (.dK kvs)) ∧ ∀ j, j < i → ∀ z v q, kvs[j]? = some (Sum.inr z, v) → e z = some q → o ∉ q.opens) ⟨none, rfl, fun b2 u2 n2 e2 => by rw [upd_ne n2]; exact e2, upd_same, fun j hj => absurd hj (Nat.not_lt_zero _)⟩ (fun i σ G _ z => by obtain ⟨y9, rfl, _, z, _⟩ := z; exact z) (fun i kv σ G hkv z => ?_) (fun σ G z => ?_)⟩
  · obtain ⟨y9, rfl, ss, gk9, al⟩ := z
    obtain ⟨key, v⟩ := kv
    obtain ⟨z, hz, rfl⟩ := nd.ns key (List.mem_map.mpr ⟨_, List.mem_of_getElem? hkv, rfl⟩)
    have hval := valV_at nd.nd hkv
    cases hez : e z with
    | none =>
      rw [l1 z hez] at hval
      cases hval
    | some q0 =>
      obtain ⟨gq, v0, e1, rv⟩ := l2 z q0 hez
      obtain rfl : v0 = v := Option.some.inj (e1.symm.trans hval)
      have tk : Tk G1 G := fun b xs eb => by
        by_cases c : b = d
        · rw [c, gd] at eb
          cases eb
        · exact ss b _ c eb
      refine ⟨_, rfl, _, rfl, v0, q0, rfl, rv.tk tk, gq.sz, ⟨NO, NK.nd, NK.len, gq.op⟩, fun p3 ys3 G3 s3 gp3 _ _ my3 => ⟨p3, _, rfl, .inr (SqT.of gp3), rfl, flat_strs ys3, _, _, rfl, fun c3 => ?_, fun c3 => ?_⟩⟩
      · refine ⟨some v0, rfl, ss.trans (.of s3), s3 _ _ gk9, fun j hj z1 v1 q1 hj1 hz1 => ?_⟩
        rcases Nat.lt_succ_iff_lt_or_eq.mp hj with hj | rfl
        · exact al j hj z1 v1 q1 hj1 hz1
        · obtain ⟨ez, rfl⟩ := Prod.mk.inj (Option.some.inj (hj1.symm.trans hkv))
          obtain rfl := Sum.inr.inj ez
          obtain rfl : q1 = q0 := Option.some.inj (hz1.symm.trans hez)
          intro zz
          rw [show inV (V.str o) (ys3.map V.str) = true from (inV_strs o ys3).mpr ((my3 o).mpr zz)] at c3
          cases c3
      · exact q.no (by rw [chk]; exact if_pos (.inr (.inr ⟨z, q0, hez, (my3 o).mp ((inV_strs o ys3).mp (by simpa using c3))⟩))) (Ss.trans (.of s1) (ss.trans (.of s3)))
  obtain ⟨y9, rfl, ss, gk9, al⟩ := z
  refine ⟨gk9, ?_⟩
  have sG2 : Same G1 (upd G d (.dK kvs)) := fun b u2 eb => by
    by_cases c : b = d
    · rw [c, gd] at eb
      rw [c, upd_same]
      exact eb
    · rw [upd_ne c]
      exact ss b _ c eb
  generalize upd G d (.dK kvs) = G2 at sG2 ⊢
  have nm : ¬ met lk e o k := by
    rintro (z | z | ⟨z, q0, hz, ho⟩)
    · exact n1 z
    · exact n2 z
    · obtain ⟨gq, v0, e1, rv⟩ := l2 z q0 hz
      obtain ⟨j, hj⟩ := valV_mem e1
      exact al j (List.getElem?_eq_some_iff.mp hj).1 z v0 q0 hj hz ho
  have sb := sb nm
  have s12 := s1.trans sG2
  refine ⟨_, rfl, (by show 2 ≤ sizeLine; decide), fun l nl => ?_⟩
  have sl := newS (o := .tup [.str "open", .str o]) nl
  have s1l := s12.trans sl
  have ge : ∀ {F : Hp}, Same (upd G2 l (.tup [.str "open", .str o])) F → Rp K F (.opn o) (.ref l) := fun sF => ⟨l, rfl, .inl (sF _ _ upd_same)⟩
  refine ⟨_, rfl, splatC (ec.same s1l) hn rfl fun G3 T sG fin => ?_⟩
  refine ⟨_, rfl, _, rfl, _, rfl, _, rfl, (by show 3 ≤ sizeLine; decide), fun m1 nm1 => ⟨(by show 3 ≤ sizeLine; decide), fun m2 nm2 => ⟨_, rfl, _, rfl, ?_⟩⟩⟩
  have sm1 := newS (o := .tup [.str "fun", .ref l, .ref l]) nm1
  have sm2 := newS (o := .tup [.str "fun", u, .ref m1]) nm2
  have s3m := sm1.trans sm2
  refine fin [(x, .fn k (.fn (.opn o) (.opn o)), .ref m2), (y, .opn o, .ref l)] _ s3m (by show 2 ≤ 2; decide) (fun y2 hy2 => ?_) (fun p2 F np2 sF ecF => ?_)
  · rcases List.mem_cons.mp hy2 with rfl | hy2
    · exact ⟨hx, g2, m2, u, .ref m1, rfl, .inl upd_same, (rp_of d1).tk (.of ((s1l.trans sG).trans s3m)), m1, .ref l, .ref l, rfl, .inl (sm2 _ _ upd_same), ge (sG.trans s3m), ge (sG.trans s3m)⟩
    · rw [List.mem_singleton.mp hy2]
      exact ⟨hy, g2.fn2.fn1, ge (sG.trans s3m)⟩
  have s1F := s1l.trans sF
  refine ⟨_, rfl, u', p2, s, b, (e.put x (.fn k (.fn (.opn o) (.opn o)))).put y (.opn o), rfl, d2.same s1F, ecF, se.same s1F, hb, sb, .mk (fun k3 hk3 w3 G4 s4 r4 => ?_) (fun hk G4 s4 => q.no (by rw [chk, if_neg nm]; show Option.bind (chk lk b ((e.put x (.fn k (.fn (.opn o) (.opn o)))).put y (.opn o))) _ = _; rw [hk]; rfl) (.of (s1l.trans (Ss.new np2 sF s4))))⟩
  have eq : ∀ oo, (if Kd.opn o = k3 then some (Kd.lst k) else none) = oo → chk lk (.built k o x y b) e = oo := fun oo hoo => by
    rw [chk, if_neg nm]
    show Option.bind (chk lk b ((e.put x (.fn k (.fn (.opn o) (.opn o)))).put y (.opn o))) _ = _
    rw [hk3]
    exact hoo
  have gx : ∀ z q0, ((e.put x (.fn k (.fn (.opn o) (.opn o)))).put y (.opn o)) z = some q0 → Gk NO q0 := put_gk (put_gk (fun y q hy => ec.gk hy) g2) g2.fn2.fn1
  have s14 := s1F.trans s4
  refine ⟨_, rfl, _, rfl, .ref l, w3, _, .opn o, k3, rfl, ge (sF.trans s4), r4, g2.fn2.fn1, sb.gk gx hk3, fun c1 => ?_, fun c1 => ?_⟩
  · exact ⟨_, rfl, (by show 2 ≤ sizeLine; decide), fun l3 nl3 => q.ok (k := .lst k) (eq _ (if_pos c1)) (s14.trans (newS nl3)) ⟨l3, u, rfl, .inl upd_same, (rp_of d1).tk (.of (s14.trans (newS nl3)))⟩⟩
  · exact q.no (eq _ (if_neg c1)) (.of s14)
end
end Kq

/-! all of the rules; kind_at -/
namespace Kq
open PySem PySem.Spec PyProof.Rows L2 Kf Kg Kv Kk Ku
abbrev Fls : Type := List (Str × Kd)
section
variable {P : Program} {w : World} {K : PySem.W.Frag} {mg : Str → Option Value} {base : Heap} {NS NO lk : List Str} {cN : Addr}
theorem Se.two {H : Hp} {s : Addr} (h : Se K H lk s) : ∃ a b, H s = some (.tup [.ref a, .ref b]) ∧ SqT K H b [] := by
  obtain ⟨a, b, h1, h2, h3⟩ := h
  exact ⟨a, b, h1, h3⟩
abbrev tOfTold : Stmt := tp 77
abbrev nOfTold : List Str := ["term", "names", "settled", "looked", "known", "name", "looks", "kind"]
abbrev psOfTold : List Str := ["term", "names", "settled"]
theorem scOfTold : FnScope nOfTold psOfTold (defScope tOfTold) := ⟨rfl, rfl, rfl, by decide +kernel, rfl, by decide +kernel, by decide +kernel⟩
theorem okOfTold {f : Addr} {fd : FuncData} {k n : Nat} (F : Fun K "of_told" "of_told" tOfTold f fd) (xm : XN K mg cN) : FnOk P w K mg base (L2.CX P w) (k + 1) f fd psOfTold (spRl K NS NO cN lk n fun t => ∃ (x : Str) (fs : Fls), t = .told x fs) := by
  refine F.okX scOfTold (fun vs H Q E h => ?_) (fun cdv A outer s H vs Q E hr h => ?_)
  · obtain ⟨vt, d, s, t, e, rfl, _⟩ := h
    rfl
  obtain ⟨vt, d, s, t, e, rfl, dd, ec, se, hp, sm, ⟨x, fs, rfl⟩, q⟩ := h
  refine ⟨_, pss_cons (ps_asg (pv 2) (pg_tup rfl (pgs_cons (pg_name (i := 3) scOfTold.nd rfl (.inl rfl)) (pgs_cons (pg_name (i := 4) scOfTold.nd rfl (.inl rfl)) pgs_nil))))
    (pss_cons (ps_for (passes_of rfl) rfl (pi_tup (pv 4)) (pg_tup rfl (pgs_cons (pg_name (i := 5) scOfTold.nd rfl (.inl rfl)) (pgs_cons (pg_name (i := 6) scOfTold.nd rfl (.inl rfl)) (pgs_cons (pg_name (i := 7) scOfTold.nd rfl (.inl rfl)) pgs_nil)))) Kk.pss_no)
    (pss_one (ps_raise rfl (takes_of rfl rfl rfl rfl) (SkE.pmk_own1 PySem.F.excBase_ValueError xm.xP xm.gP xm.kP (raises_own xm.bP xm.tP) rfl (pe_joined (.cons (pe_fmt (pe_ix ix_tup (pv 0) pe_int (fun _ _ => rfl))) (.cons pe_str .nil))))))), ?_⟩
  obtain ⟨p, u, u', rfl, gp, d1, d2⟩ := Dd.of3 dd
  cases d1
  have hx : x.length ≤ 100 := sm
  obtain ⟨la, lb, gs, gb⟩ := se.two
  refine ⟨_, rfl, s, _, rfl, SqT.of gs, rfl, _, _, rfl, _, _, rfl, rfl, ?_⟩
  refine ⟨_, rfl, lb, rfl, ⟨_, gb⟩, for_tup (K := K) (a := lb) (xs := []) (tb := fun _ _ _ => False) (fun i σ G => σ = [some (.ref p), some (.ref d), some (.ref s), some (.ref la), some (.ref lb), none, none, none] ∧ G = H) ⟨rfl, rfl⟩ (fun i σ G _ z => by rw [z.2]; exact gb) (fun i v σ G hv z => by cases hv) (fun σ G z => ?_)⟩
  obtain ⟨rfl, rfl⟩ := z
  exact ⟨_, rfl, p, _, _, _, rfl, rfl, SqT.of gp, atI_nat (j := 1) rfl, .inl ⟨x, rfl, sz (by omega), _, rfl, jn1 hx, _, rfl, jn4 hx, q.no (by rw [chk]) Ss.rfl⟩⟩
/-- the rules, each by its word -/
structure Rls (P : Program) (w : World) (K : PySem.W.Frag) (mg : Str → Option Value) (base : Heap) (NS NO lk : List Str) (cN dA : Addr) (k n : Nat) : Prop where
  rName : Rok P w K mg base (L2.CX P w) k dA "name" ["term", "names", "settled"] (spRl K NS NO cN lk n fun t => ∃ (x : Str), t = .name x)
  rFun : Rok P w K mg base (L2.CX P w) k dA "fun" ["term", "names", "settled"] (spRl K NS NO cN lk n fun t => ∃ (x : Str) (k : Kd) (b : Tm), t = .fn x k b)
  rCall : Rok P w K mg base (L2.CX P w) k dA "call" ["term", "names", "settled"] (spRl K NS NO cN lk n fun t => ∃ (a b : Tm), t = .call a b)
  rNum : Rok P w K mg base (L2.CX P w) k dA "num" ["term", "names", "settled"] (spRl K NS NO cN lk n fun t => ∃ (i : Int), t = .num i)
  rPlus : Rok P w K mg base (L2.CX P w) k dA "plus" ["term", "names", "settled"] (spRl K NS NO cN lk n fun t => ∃ (a b : Tm), t = .plus a b)
  rLess : Rok P w K mg base (L2.CX P w) k dA "less" ["term", "names", "settled"] (spRl K NS NO cN lk n fun t => ∃ (a b : Tm), t = .less a b)
  rTruth : Rok P w K mg base (L2.CX P w) k dA "truth" ["term", "names", "settled"] (spRl K NS NO cN lk n fun t => ∃ (i : Bool), t = .tru i)
  rIf : Rok P w K mg base (L2.CX P w) k dA "if" ["term", "names", "settled"] (spRl K NS NO cN lk n fun t => ∃ (a b c : Tm), t = .iff a b c)
  rPair : Rok P w K mg base (L2.CX P w) k dA "pair" ["term", "names", "settled"] (spRl K NS NO cN lk n fun t => ∃ (a b : Tm), t = .pair a b)
  rFirst : Rok P w K mg base (L2.CX P w) k dA "first" ["term", "names", "settled"] (spRl K NS NO cN lk n fun t => ∃ (a : Tm), t = .fst a)
  rSecond : Rok P w K mg base (L2.CX P w) k dA "second" ["term", "names", "settled"] (spRl K NS NO cN lk n fun t => ∃ (a : Tm), t = .snd a)
  rLeft : Rok P w K mg base (L2.CX P w) k dA "left" ["term", "names", "settled"] (spRl K NS NO cN lk n fun t => ∃ (a : Tm) (k : Kd), t = .left a k)
  rRight : Rok P w K mg base (L2.CX P w) k dA "right" ["term", "names", "settled"] (spRl K NS NO cN lk n fun t => ∃ (k : Kd) (a : Tm), t = .right k a)
  rCase : Rok P w K mg base (L2.CX P w) k dA "case" ["term", "names", "settled"] (spRl K NS NO cN lk n fun t => ∃ (a : Tm) (x : Str) (b : Tm) (y : Str) (c : Tm), t = .case a x b y c)
  rNone : Rok P w K mg base (L2.CX P w) k dA "none" ["term", "names", "settled"] (spRl K NS NO cN lk n fun t => ∃ (k : Kd), t = .none k)
  rMore : Rok P w K mg base (L2.CX P w) k dA "more" ["term", "names", "settled"] (spRl K NS NO cN lk n fun t => ∃ (a b : Tm), t = .more a b)
  rFold : Rok P w K mg base (L2.CX P w) k dA "fold" ["term", "names", "settled"] (spRl K NS NO cN lk n fun t => ∃ (a b : Tm) (x y : Str) (c : Tm), t = .fold a b x y c)
  rBuilt : Rok P w K mg base (L2.CX P w) k dA "built" ["term", "names", "settled"] (spRl K NS NO cN lk n fun t => ∃ (k : Kd) (o x y : Str) (b : Tm), t = .built k o x y b)
  rAlike : Rok P w K mg base (L2.CX P w) k dA "alike" ["term", "names", "settled"] (spRl K NS NO cN lk n fun t => ∃ (a b : Tm), t = .alike a b)
  rFault : Rok P w K mg base (L2.CX P w) k dA "fault" ["term", "names", "settled"] (spRl K NS NO cN lk n fun t => ∃ (k : Kd), t = .fault k)
  rRounds : Rok P w K mg base (L2.CX P w) k dA "rounds" ["term", "names", "settled"] (spRl K NS NO cN lk n fun t => ∃ (m : Int) (a : Tm) (x : Str) (b : Tm), t = .rounds m a x b)
  rTold : Rok P w K mg base (L2.CX P w) k dA "told" ["term", "names", "settled"] (spRl K NS NO cN lk n fun t => ∃ (x : Str) (fs : Fls), t = .told x fs)
abbrev tKindAt : Stmt := tp 51
abbrev nKindAt : List Str := ["term", "names", "settled", "rule"]
abbrev psKindAt : List Str := ["term", "names", "settled"]
theorem scKindAt : FnScope nKindAt psKindAt (defScope tKindAt) := ⟨rfl, rfl, rfl, by decide +kernel, rfl, by decide +kernel, by decide +kernel⟩
def Tm.wd : Tm → Str
  | .name _ => "name"
  | .fn _ _ _ => "fun"
  | .call _ _ => "call"
  | .num _ => "num"
  | .plus _ _ => "plus"
  | .less _ _ => "less"
  | .tru _ => "truth"
  | .iff _ _ _ => "if"
  | .pair _ _ => "pair"
  | .fst _ => "first"
  | .snd _ => "second"
  | .left _ _ => "left"
  | .right _ _ => "right"
  | .case _ _ _ _ _ => "case"
  | .none _ => "none"
  | .more _ _ => "more"
  | .fold _ _ _ _ _ => "fold"
  | .built _ _ _ _ _ => "built"
  | .alike _ _ => "alike"
  | .fault _ => "fault"
  | .rounds _ _ _ _ => "rounds"
  | .told _ _ => "told"
theorem Dd.tmWd {H : Hp} {t : Tm} {v : V} (h : Dd Non H t.dt v) : ∃ pt rest, v = .ref pt ∧ H pt = some (.tup (.str t.wd :: rest)) := by
  cases t <;>
  · cases h with
    | tup e t =>
    cases t with
    | cons t1 t =>
    cases t1
    exact ⟨_, _, rfl, e⟩
theorem okKindAt {f dA : Addr} {fd : FuncData} {k n m : Nat} {es : Array DictEntry} (F : Fun K "kind_at" "kind_at" tKindAt f fd) (gD : mg "RULES" = some (.ref dA)) (hD : KDict K w dA es m)
    (r : Rls P w K mg base NS NO lk cN dA k n) : FnOk P w K mg base (L2.CX P w) (k + 1) f fd psKindAt (spAt K NS NO cN lk (n + 1)) := by
  refine F.okX scKindAt (fun vs H Q E h => ?_) (fun cdv A outer sh H vs Q E hr h => ?_)
  · obtain ⟨vt, d, s, t, e, rfl, _⟩ := h
    rfl
  obtain ⟨vt, d, s, t, e, rfl, dd, ec, se, hp, sm, q⟩ := h
  have go : ∀ {p : Tm → Prop} {x : Str} {rest : List V} {pt : Addr}, Rok P w K mg base (L2.CX P w) k dA x ["term", "names", "settled"] (spRl K NS NO cN lk n p) → p t → vt = .ref pt → H pt = some (.tup (.str x :: rest)) →
      ∃ u, PSs (cxOf (L2.CX P w) P w K mg base nKindAt "kind_at" (defScope tKindAt) f cdv A outer sh H E) (defBody tKindAt) u ∧ u { nx := fun _ H' => Q .non H', rt := Q } (start nKindAt [vt, .ref d, .ref s]) H := by
    intro p x rest pt G hR e1 hk
    obtain ⟨g, gd, G, b, hw, kg⟩ := G
    subst e1
    refine ⟨_, pss_cons (ps_set (i := 3) scKindAt.nd rfl (.inl rfl) (pe_ix ix_kdict (pe_glob (v := .ref dA) (by rfl) gD rfl) (pe_ix ix_tup (pv 0) pe_int (fun _ _ => rfl)) (fun _ _ => rfl)))
    (pss_one (ps_ret (ItX.pe_callV (i := 3) (G.raw b .nil) hr kg (passV (takes_of rfl rfl rfl rfl)) rfl (Or.inl rfl) (pa_cons (pv 0) (pa_cons (pv 1) (pa_cons (pv 2) pa_nil)))))), ?_⟩
    refine ⟨_, rfl, pt, _, _, _, rfl, rfl, SqT.of hk, atI_nat (j := 0) rfl, dA, x, .ref g, rfl, rfl, ⟨es, m, _, hD.at_, hD.lit, hw, rfl⟩, rfl, _, rfl, _, rfl, _, rfl, ?_⟩
    exact ⟨_, d, s, t, e, rfl, dd, ec, se, hp, sm, hR, q⟩
  have hw : ∃ pt rest, vt = .ref pt ∧ H pt = some (.tup (.str t.wd :: rest)) := Dd.tmWd dd
  obtain ⟨pt, rest, e1, hk⟩ := hw
  cases t with
  | name x => exact go r.rName ⟨x, rfl⟩ e1 hk
  | fn x k b => exact go r.rFun ⟨x, k, b, rfl⟩ e1 hk
  | call a b => exact go r.rCall ⟨a, b, rfl⟩ e1 hk
  | num i => exact go r.rNum ⟨i, rfl⟩ e1 hk
  | plus a b => exact go r.rPlus ⟨a, b, rfl⟩ e1 hk
  | less a b => exact go r.rLess ⟨a, b, rfl⟩ e1 hk
  | tru i => exact go r.rTruth ⟨i, rfl⟩ e1 hk
  | iff a b c => exact go r.rIf ⟨a, b, c, rfl⟩ e1 hk
  | pair a b => exact go r.rPair ⟨a, b, rfl⟩ e1 hk
  | fst a => exact go r.rFirst ⟨a, rfl⟩ e1 hk
  | snd a => exact go r.rSecond ⟨a, rfl⟩ e1 hk
  | left a k => exact go r.rLeft ⟨a, k, rfl⟩ e1 hk
  | right k a => exact go r.rRight ⟨k, a, rfl⟩ e1 hk
  | case a x b y c => exact go r.rCase ⟨a, x, b, y, c, rfl⟩ e1 hk
  | none k => exact go r.rNone ⟨k, rfl⟩ e1 hk
  | more a b => exact go r.rMore ⟨a, b, rfl⟩ e1 hk
  | fold a b x y c => exact go r.rFold ⟨a, b, x, y, c, rfl⟩ e1 hk
  | built k o x y b => exact go r.rBuilt ⟨k, o, x, y, b, rfl⟩ e1 hk
  | alike a b => exact go r.rAlike ⟨a, b, rfl⟩ e1 hk
  | fault k => exact go r.rFault ⟨k, rfl⟩ e1 hk
  | rounds m a x b => exact go r.rRounds ⟨m, a, x, b, rfl⟩ e1 hk
  | told x fs => exact go r.rTold ⟨x, fs, rfl⟩ e1 hk
end
end Kq

/-! kind_of, whole -/
namespace Kq
open PySem PySem.Spec PyProof.Rows L2 Kf Kg Kv Kk Ku
/-- a def with what is left out -/
def Dfn2 (K : PySem.W.Frag) (mg : Str → Option Value) (nm : Str) (st : Stmt) (ps : List Str) (dvs : List V) : Prop := ∃ f fd ds, FunD K nm nm (defArgs st) (defBody st) (defScope st) dvs [] f fd ∧ Vals dvs ds ∧ Binds K fd ps ds ∧ mg nm = some (.ref f)
def Okd2 (P : Program) (w : World) (K : PySem.W.Frag) (mg : Str → Option Value) (base : Heap) (CX : CXT) (k : Nat) (nm : Str) (ps : List Str) (dvs : List V) (sp : Sp) : Prop := ∃ f fd ds, FnOk P w K mg base CX k f fd ps sp ∧ Vals dvs ds ∧ Binds K fd ps ds ∧ mg nm = some (.ref f) ∧ PySem.W.keepIn K (.ref f) = true
abbrev tKindOf : Stmt := tp 50
/-- what the written part has of checking -/
structure CF (K : PySem.W.Frag) (w : World) (mg : Str → Option Value) (oN oT cN dR : Addr) : Prop where
  xm : XN K mg cN
  gN : GTu K mg "NUM" "num" oN
  gT : GTu K mg "TRUTH" "truth" oT
  hR : ∃ es m, KDict K w dR es m
  gR : mg "RULES" = some (.ref dR)
  need : Dfn K mg "need" tNeed ["held", "why"]
  nsame : Dfn K mg "need_same" tNeedSame ["one", "other", "why"]
  data : Dfn K mg "data_at" tDataAt ["term", "names", "settled"]
  formed : Dfn K mg "formed_at" tFormedAt ["word", "term", "names", "settled"]
  kat : Dfn K mg "kind_at" tKindAt ["term", "names", "settled"]
  kof : Dfn2 K mg "kind_of" tKindOf ["term", "looked", "known"] [V.non]
  leads : Dfn K mg "leads" tLeads ["kind"]
  within : Dfn K mg "kinds_within" tWithinT ["kind"]
  parts : Dfn K mg "parts_of" tParts ["kind"]
  opens : Dfn K mg "opens_in" tOpens ["kind"]
  plus : Dfn K mg "of_plus" tOfPlus ["term", "names", "settled"]
  rName : Rdn K dR "name" "of_name" tOfName ["term", "names", "settled"]
  rFun : Rdn K dR "fun" "of_fun" tOfFun ["term", "names", "settled"]
  rCall : Rdn K dR "call" "of_call" tOfCall ["term", "names", "settled"]
  rNum : Rdn K dR "num" "of_num" tOfNum ["term", "names", "settled"]
  rPlus : Rdn K dR "plus" "of_plus" tOfPlus ["term", "names", "settled"]
  rLess : Rdn K dR "less" "of_less" tOfLess ["term", "names", "settled"]
  rTruth : Rdn K dR "truth" "of_truth" tOfTruth ["term", "names", "settled"]
  rIf : Rdn K dR "if" "of_if" tOfIf ["term", "names", "settled"]
  rPair : Rdn K dR "pair" "of_pair" tOfPair ["term", "names", "settled"]
  rFirst : Rdn K dR "first" "of_first" tOfFirst ["term", "names", "settled"]
  rSecond : Rdn K dR "second" "of_second" tOfSecond ["term", "names", "settled"]
  rLeft : Rdn K dR "left" "of_left" tOfLeft ["term", "names", "settled"]
  rRight : Rdn K dR "right" "of_right" tOfRight ["term", "names", "settled"]
  rCase : Rdn K dR "case" "of_case" tOfCase ["term", "names", "settled"]
  rNone : Rdn K dR "none" "of_none" tOfNone ["term", "names", "settled"]
  rMore : Rdn K dR "more" "of_more" tOfMore ["term", "names", "settled"]
  rFold : Rdn K dR "fold" "of_fold" tOfFold ["term", "names", "settled"]
  rBuilt : Rdn K dR "built" "of_built" tOfBuilt ["term", "names", "settled"]
  rAlike : Rdn K dR "alike" "of_alike" tOfAlike ["term", "names", "settled"]
  rFault : Rdn K dR "fault" "of_fault" tOfFault ["term", "names", "settled"]
  rRounds : Rdn K dR "rounds" "of_rounds" tOfRounds ["term", "names", "settled"]
  rTold : Rdn K dR "told" "of_told" tOfTold ["term", "names", "settled"]
  mt : mg "tuple" = none
  ms : mg "sorted" = none
section
variable {P : Program} {w : World} {K : PySem.W.Frag} {mg : Str → Option Value} {base : Heap} {NS NO lk : List Str} {cN : Addr}
theorem CF.opens1 {oN oT dR : Addr} (R : CF K w mg oN oT cN dR) : Okd P w K mg base CX0 3 "opens_in" ["kind"] (spOpens K) := by
  obtain ⟨fW, fdW, FW, bW, gW⟩ := R.within
  obtain ⟨fP, fdP, FP, bP, gP⟩ := R.parts
  exact R.opens.ok fun f fd F => okOpens (k := 0) F (okParts (k := 0) FP FW bW gW) bP gP FP.kp R.mt R.ms
theorem CF.rls {oN oT dR : Addr} (R : CF K w mg oN oT cN dR) (hn : NS.length ≤ 400) (NK : NoK NO) {n k : Nat} (hk : 4 ≤ k) (I : Okd P w K mg base (L2.CX P w) k "kind_at" ["term", "names", "settled"] (spAt K NS NO cN lk n)) : Rls P w K mg base NS NO lk cN dR (k + 3) n := by
  have N1 : Okd P w K mg base (L2.CX P w) 1 "need" ["held", "why"] (spNeed cN) := R.need.ok fun f fd F => okNeed (k := 0) (n := 0) F R.xm
  have S1 : Okd P w K mg base (L2.CX P w) 2 "need_same" ["one", "other", "why"] (spSame K cN NO) := R.nsame.ok fun f fd F => okNeedSame (k := 1) (n := 0) F NK N1
  have L1 : Okd P w K mg base CX0 1 "leads" ["kind"] (spLeads K) := R.leads.ok fun f fd F => okLeads (k := 0) F
  have O1 := R.opens1 (P := P) (base := base)
  have DA : Okd P w K mg base (L2.CX P w) (k + 1) "data_at" ["term", "names", "settled"] (spData K NS NO cN lk n) := R.data.ok fun f fd F => okDataAt (k := k) F (N1.up (by omega)) (L1.up (by omega)) I
  have FA : Okd P w K mg base (L2.CX P w) (k + 1) "formed_at" ["word", "term", "names", "settled"] (spFormed K NS NO cN lk n) := R.formed.ok fun f fd F => okFormedAt (k := k) F (N1.up (by omega)) I
  have N := N1.up (show 1 ≤ k + 1 by omega)
  have S := S1.up (show 2 ≤ k + 1 by omega)
  have I1 := I.up (show k ≤ k + 1 by omega)
  have O := O1.up (show 3 ≤ k + 1 by omega)
  have PL : Okd P w K mg base (L2.CX P w) (k + 2) "of_plus" ["term", "names", "settled"] (spPlus K NS NO cN lk n) := R.plus.ok fun f fd F => okOfPlus (k := k + 1) F (DO := FA)
  constructor
  · exact (R.rName.ok fun f fd F => okOfName (k := k + 1) F (DN := N)).up (show k + 2 ≤ k + 3 by omega)
  · exact (R.rFun.ok fun f fd F => okOfFun (k := k + 1) F hn (DK := I1)).up (show k + 2 ≤ k + 3 by omega)
  · exact (R.rCall.ok fun f fd F => okOfCall (k := k + 1) F (DS := S) (DK := I1) (DO := FA)).up (show k + 2 ≤ k + 3 by omega)
  · exact (R.rNum.ok fun f fd F => okOfNum (k := k + 1) F R.gN).up (show k + 2 ≤ k + 3 by omega)
  · obtain ⟨f0, fd0, F0, b0, g0⟩ := R.rPlus
    have G := okOfPlus (P := P) (w := w) (base := base) (k := k + 2) (lk := lk) (NS := NS) (NO := NO) (n := n) F0 (DO := FA.up (show k + 1 ≤ k + 2 by omega))
    refine ⟨f0, fd0, ⟨fun vs H Q E h => ?_, fun A outer s H args us vs Q E r e b v h => ?_⟩, b0, g0, F0.kp⟩
    · obtain ⟨vt, d, s, t, e, rfl, _⟩ := h
      rfl
    · obtain ⟨vt, d, s1, t, e1, rfl, dd, ec, se, hp, sm, ⟨a, b1, rfl⟩, q⟩ := h
      simp only [Tm.dp] at hp
      exact G.run A outer s H args us _ Q E r e b v ⟨_, vt, d, s1, a, b1, e1, rfl, dd, ec, se, by omega, by omega, sm, q⟩
  · exact R.rLess.ok fun f fd F => okOfLess (k := k + 2) F R.gT (DP := PL)
  · exact (R.rTruth.ok fun f fd F => okOfTruth (k := k + 1) F R.gT).up (show k + 2 ≤ k + 3 by omega)
  · exact (R.rIf.ok fun f fd F => okOfIf (k := k + 1) F (DS := S) (DK := I1) (DO := FA)).up (show k + 2 ≤ k + 3 by omega)
  · exact (R.rPair.ok fun f fd F => okOfPair (k := k + 1) F (DD := DA)).up (show k + 2 ≤ k + 3 by omega)
  · exact (R.rFirst.ok fun f fd F => okOfFirst (k := k + 1) F (DO := FA)).up (show k + 2 ≤ k + 3 by omega)
  · exact (R.rSecond.ok fun f fd F => okOfSecond (k := k + 1) F (DO := FA)).up (show k + 2 ≤ k + 3 by omega)
  · exact (R.rLeft.ok fun f fd F => okOfLeft (k := k + 1) F (DD := DA)).up (show k + 2 ≤ k + 3 by omega)
  · exact (R.rRight.ok fun f fd F => okOfRight (k := k + 1) F (DD := DA)).up (show k + 2 ≤ k + 3 by omega)
  · exact (R.rCase.ok fun f fd F => okOfCase (k := k + 1) F hn (DS := S) (DK := I1) (DO := FA)).up (show k + 2 ≤ k + 3 by omega)
  · exact (R.rNone.ok fun f fd F => okOfNone (k := k + 1) F ).up (show k + 2 ≤ k + 3 by omega)
  · exact (R.rMore.ok fun f fd F => okOfMore (k := k + 1) F (DS := S) (DK := I1)).up (show k + 2 ≤ k + 3 by omega)
  · exact (R.rFold.ok fun f fd F => okOfFold (k := k + 1) F hn (DS := S) (DK := I1) (DD := DA) (DO := FA)).up (show k + 2 ≤ k + 3 by omega)
  · exact (R.rBuilt.ok fun f fd F => okOfBuilt (k := k + 1) F hn NK (DS := S) (DK := I1) (DN := N) (DI := O)).up (show k + 2 ≤ k + 3 by omega)
  · exact (R.rAlike.ok fun f fd F => okOfAlike (k := k + 1) F NK R.gT (DN := N) (DS := S) (DK := I1) (DO := FA)).up (show k + 2 ≤ k + 3 by omega)
  · exact (R.rFault.ok fun f fd F => okOfFault (k := k + 1) F ).up (show k + 2 ≤ k + 3 by omega)
  · exact (R.rRounds.ok fun f fd F => okOfRounds (k := k + 1) F hn (DS := S) (DO := FA) (DD := DA)).up (show k + 2 ≤ k + 3 by omega)
  · exact (R.rTold.ok fun f fd F => okOfTold (k := k + 1) F R.xm).up (show k + 2 ≤ k + 3 by omega)
theorem CF.at1 {oN oT dR : Addr} (R : CF K w mg oN oT cN dR) (hn : NS.length ≤ 400) (NK : NoK NO) : ∀ n, Okd P w K mg base (L2.CX P w) (4 * n + 4) "kind_at" ["term", "names", "settled"] (spAt K NS NO cN lk n)
  | 0 => R.kat.ok fun f fd F => noFnX fun vs H Q E h => by
    obtain ⟨vt, d, s, t, e, rfl, dd, ec, se, hp, _⟩ := h
    omega
  | n + 1 => by
    have I := CF.at1 R hn NK n
    obtain ⟨es, m, hD⟩ := R.hR
    have e : 4 * (n + 1) + 4 = (4 * n + 4 + 3) + 1 := by omega
    rw [e]
    exact R.kat.ok fun f fd F => okKindAt F R.gR hD (R.rls hn NK (by omega) I)
/-! kind_of -/
def KoT (K : PySem.W.Frag) (T : List Addr) (cN : Addr) : Option Kd → Hp → VK → XK → Prop
  | some k, H, Q, _ => ∀ (u : V) (G : Hp), Sm T H G → Rp K G k u → Q u G
  | none, H, _, E => ∀ G : Hp, Sm T H G → E (.ref cN) none G
def spKof (K : PySem.W.Frag) (T : List Addr) (cN : Addr) (n : Nat) (NS NO lk : List Str) : Sp := fun vs H Q E => ∃ (vt : V) (la : Addr) (x : Dt), vs = [vt, .ref la, .non] ∧ Dd Non H x vt ∧ x.wt + 2 ≤ sizeLine ∧ H la = some (.tup (lk.map V.str)) ∧ TbS T H ∧
  ((trm x = false ∧ ∀ G : Hp, Sm T H G → E (.ref cN) none G) ∨ ∃ t : Tm, x = t.dt ∧ trm x = true ∧ t.dp < n ∧ Sml lk NS NO t Ek.none ∧ KoT K T cN (chk lk t Ek.none) H Q E)
abbrev nKindOf : List Str := ["term", "looked", "known"]
abbrev psKindOf : List Str := ["term", "looked", "known"]
theorem scKindOf : FnScope nKindOf psKindOf (defScope tKindOf) := ⟨rfl, rfl, rfl, by decide +kernel, rfl, by decide +kernel, by decide +kernel⟩
theorem okKindOf {f : Addr} {fd : FuncData} {k n : Nat} {T : List Addr} (F : FunD K "kind_of" "kind_of" (defArgs tKindOf) (defBody tKindOf) (defScope tKindOf) [V.non] [] f fd) (xm : XN K mg cN)
    (DK : Okd P w K mg base (L2.CX P w) (k) "kind_at" ["term", "names", "settled"] (spAt K NS NO cN lk n))
    (DT : Okd P w K mg base CX0 (k) "is_term" ["thing"] (spYes T trm)) : FnOk P w K mg base (L2.CX P w) (k + 1) f fd psKindOf (spKof K T cN n NS NO lk) := by
  obtain ⟨fK, fdK, GK, bK, gK, kK⟩ := DK
  obtain ⟨fT, fdT, GT, bT, gT, kT⟩ := DT
  refine F.ok scKindOf (fun vs H Q E h => ?_) (fun cdv A outer s H vs Q E hr h => ?_)
  · obtain ⟨vt, la, x, rfl, _⟩ := h
    rfl
  obtain ⟨vt, la, x, rfl, dd, hw, gl, tb, alt⟩ := h
  refine ⟨_, pss_cons (ps_if (pt_not (pt_val (pe_call GT hr (by rfl) gT kT bT .nil pass0 (pa_cons (pv 0) pa_nil)))) (pss_one (ps_raise rfl (takes_of rfl rfl rfl rfl) (SkE.pmk_own1 PySem.F.excBase_ValueError xm.xP xm.gP xm.kP (raises_own xm.bP xm.tP) rfl pe_str))) pss_nil)
    (pss_one (ps_ret (pe_callS GK hr (by rfl) gK kK bK (fun σ => passAt (takes_of rfl rfl rfl rfl) σ) (pa_cons (pv 0) (pa_cons pe_dnewK (pa_cons (pe_tup (pa_cons (pv 1) (pa_cons (pe_ifExp (pt_cmpR op_isN (pv 2) pe_non (nomark _)) (pe_tup pa_nil) (pv 2)) pa_nil))) pa_nil)))))), ?_⟩
  refine ⟨_, rfl, vt, x, rfl, dd.any, hw, tb, fun G1 m1 => ⟨_, rfl, ?_⟩⟩
  rcases alt with ⟨e0, q⟩ | ⟨t, rfl, e0, hp, sm, q⟩
  · rw [e0]
    exact q G1 m1
  · rw [e0]
    have dd1 := dd.kn (m1.kn tb)
    have gl1 := m1.at tb gl (fun ps z => by cases z)
    refine iteF ⟨_, rfl, fun d nd => ⟨_, rfl, _, rfl, rfl, _, rfl, iteT ⟨Nat.zero_le _, fun b nb => ⟨(by show 2 ≤ sizeLine; decide), fun s1 ns => ?_⟩⟩⟩⟩
    have sd := newS (o := .dK []) nd
    have sb := newS (o := .tup []) nb
    have ss := newS (o := .tup [.ref la, .ref b]) ns
    have sA := sd.trans (sb.trans ss)
    refine ⟨vt, d, s1, t, Ek.none, rfl, dd1.same sA, ⟨[], (sb.trans ss) _ _ upd_same, .nil, fun y hy => rfl, fun y k hy => (by cases hy)⟩, ⟨la, b, upd_same, sA _ _ gl1, SqT.of (ss _ _ upd_same)⟩, hp, sm, .mk (fun k hk u G2 s2 r2 => ?_) (fun hk G2 s2 => ?_)⟩
    · rw [hk] at q
      exact q u G2 (m1.trans (Sm.of (sA.trans s2) m1.2)) r2
    · rw [hk] at q
      exact q G2 (m1.trans (Sm.of (Ss.new nd sA s2) m1.2))
/-- .. by any names -/
def spKofU (K : PySem.W.Frag) (T : List Addr) (cN : Addr) (n : Nat) : Sp := fun vs H Q E => ∃ NS NO lk : List Str, NS.length ≤ 400 ∧ NoK NO ∧ spKof K T cN n NS NO lk vs H Q E
theorem CF.kof1 {oN oT dR : Addr} (R : CF K w mg oN oT cN dR) {T : List Addr} {j : Nat} (DT : Okd P w K mg base CX0 j "is_term" ["thing"] (spYes T trm)) (n : Nat) (hj : j ≤ 4 * n + 4) : Okd2 P w K mg base (L2.CX P w) (4 * n + 5) "kind_of" ["term", "looked", "known"] [V.non] (spKofU K T cN n) := by
  obtain ⟨f, fd, ds, F, vD, b, g⟩ := R.kof
  have one : ∀ (NS NO lk : List Str), NS.length ≤ 400 → NoK NO → FnOk P w K mg base (L2.CX P w) (4 * n + 5) f fd ["term", "looked", "known"] (spKof K T cN n NS NO lk) := fun NS NO lk hn NK => okKindOf (k := 4 * n + 4) F R.xm (DT := DT.up hj) (DK := R.at1 hn NK n)
  refine ⟨f, fd, ds, ⟨fun vs H Q E h => ?_, fun A outer s H args us vs Q E r e b v h => ?_⟩, vD, b, g, F.kp⟩
  · obtain ⟨NS, NO, lk, hn, NK, h⟩ := h
    exact (one NS NO lk hn NK).len vs H Q E h
  · obtain ⟨NS, NO, lk, hn, NK, h⟩ := h
    exact (one NS NO lk hn NK).run A outer s H args us vs Q E r e b v h
end
end Kq

/-! names of one letter unlike; pick -/
namespace Kq
open PySem PySem.Spec PyProof.Rows L2 Kf Kg Kv Kk Ku
abbrev tNames : Stmt := tp 84
abbrev tPick : Stmt := tp 83
abbrev nNames : List Str := ["_law_deck_here", "_law_many", "_law_letters", "_law_k", "_law_word", "_law_at", "_law_found", "_law_sign"]
def nmAt (ks : List Nat) (a j : Nat) : Str := Txt.join (Str.ofString "") ((ks.set a ((ks.getD a 0 + j + 1) % 26)).map sg)
theorem nmAt_inj {ks : List Nat} {a i j : Nat} (ha : a < ks.length) (hi : i < 26) (hj : j < 26) (h : nmAt ks a i = nmAt ks a j) : i = j := by
  have e : (ks.set a ((ks.getD a 0 + i + 1) % 26)).map (97 + ·) = (ks.set a ((ks.getD a 0 + j + 1) % 26)).map (97 + ·) := by
    rw [← join_cps, ← join_cps]
    exact congrArg (fun s : Str => s.cps.toList) h
  have e2 := congrArg (fun l => l[a]?) e
  simp only [List.getElem?_map, List.getElem?_set_self ha, Option.map_some] at e2
  have e3 := Option.some.inj e2
  omega
section
variable {P : Program} {w : World} {K : PySem.W.Frag} {mg : Str → Option Value} {base : Heap}
theorem scNames : FnScope nNames ["_law_deck_here", "_law_many"] (defScope tNames) := ⟨rfl, rfl, rfl, by decide +kernel, rfl, by decide +kernel, by decide +kernel⟩
def spNames : Sp := fun vs H Q _ => ∃ (d c : Addr) (m : Int), vs = [.ref d, .int m] ∧ Dk H d c ∧ 0 ≤ m ∧ m ≤ 26 ∧
  ∀ (l : Addr) (xs : List Str) (G : Hp), Kp d c H G → Dk G d c → H l = none → G l = some (.lst (xs.map V.str)) → xs.length = m.toNat → (∀ x ∈ xs, Nm x) → xs.Nodup → (∃ n, ∀ x ∈ xs, x.cps.toList.length = n) → Q (.ref l) G
theorem okNames {f fD : Addr} {fd fdD : FuncData} {k : Nat} (F : Fun K "_law_names" "_law_names" tNames f fd) (GD : FnOk P w K mg base CX0 (k + 1) fD fdD ["_law_deck_here", "_law_most"] spDraw) (bD : Binds K fdD ["_law_deck_here", "_law_most"] []) (gD : mg "_law_draw" = some (.ref fD)) (kD : PySem.W.keepIn K (.ref fD) = true)
    (mn : mg "len" = none) (mr : mg "range" = none) : FnOk P w K mg base CX0 (k + 2) f fd ["_law_deck_here", "_law_many"] spNames := by
  refine F.ok scNames (fun vs H Q E h => ?_) (fun cdv A outer s H vs Q E hr h => ?_)
  · obtain ⟨d, c, m, rfl, _⟩ := h
    rfl
  obtain ⟨d, c, m, rfl, dk, m0, m1, q⟩ := h
  refine ⟨_, pss_cons (ps_set (i := 2) scNames.nd rfl (.inr rfl) pe_str)
    (pss_cons (ps_setLc (i := 4) (own := [("_law_k", 3)]) (g := gName 3) (by rfl) scNames.nd rfl rfl (sw_true rfl rfl rfl (by decide +kernel)) (pi_range1 (by rfl) mr (pa_cons (pe_op op_add pe_int (pe_call GD hr (by rfl) gD kD bD .nil pass0 (pa_cons (pv 0) (pa_cons pe_int pa_nil)))) pa_nil)) (blkOk_by (own := [("_law_k", 3)]) (N := nNames) (sc := defScope tNames) (by decide +kernel))
        (fun _ _ _ _ _ => pg_name (i := 3) scNames.nd rfl (.inl rfl)) (fun _ _ _ _ _ => pts_nil)
        (fun _ _ _ _ _ => pe_call GD hr (by rfl) gD kD bD .nil pass0 (pa_cons (pv 0) (pa_cons pe_int pa_nil))))
    (pss_cons (ps_set (i := 5) scNames.nd rfl (.inl rfl) (pe_call GD hr (by rfl) gD kD bD .nil pass0 (pa_cons (pv 0) (pa_cons (pe_callB call_len_seq (by rfl) mn PySem.boot_len (pa_cons (pv 4) pa_nil)) pa_nil))))
    (pss_cons (ps_set (i := 6) scNames.nd rfl (.inl rfl) (pe_lst pa_nil))
    (pss_cons (ps_for PassesOwn.never rfl (pi_range1 (by rfl) mr (pa_cons (pv 1) pa_nil)) (pg_name (i := 3) scNames.nd rfl (.inl rfl))
      (pss_cons (ps_asg (pe_op op_mod (pe_op op_add (pe_ix ix_list (pv 4) (pv 5) (fun _ _ => rfl)) pe_int) pe_int) (pg_sub (pv 4) (pv 5) set_list))
      (pss_one (ps_expr (pe_bm PySem.F.plainAttrs_list PySem.F.slot_list_append PySem.F.type_list_append mt_append (pv 6) (pa_cons (pe_joinK K rfl pe_str
        (pe_lc (own := [("_law_sign", 7)]) (g := gName 7) (by rfl) scNames.nd (pi_list (pv 4)) (blkOk_by (own := [("_law_sign", 7)]) (N := nNames) (sc := defScope tNames) (by decide +kernel))
          (fun _ _ _ _ _ => pg_name (i := 7) scNames.nd rfl (.inl rfl)) (fun _ _ _ _ _ => pts_nil) (fun _ _ _ _ _ => pe_ix ix_str (pv 2) (pv 7) (fun _ _ => rfl)))) pa_nil))))))
    (pss_one (ps_ret (pv 6))))))), ?_⟩
  refine ⟨_, rfl, d, c, 8, rfl, dk, by decide, by decide, fun mm G1 mm0 mm1 kp1 dk1 => ⟨_, _, rfl, rfl, ?_⟩⟩
  refine ⟨1 + mm, rfl, by omega, by omega, fun D nD => ?_⟩
  have offD := dk1.off nD
  have hD : H D = none := kp1.free dk1 nD
  refine lc_range (lo := 0) (n := (1 + mm).toNat) (fun i G => Kp d c H G ∧ Dk G d c ∧ ∃ ks : List Nat, ks.length = i ∧ (∀ k ∈ ks, k < 26) ∧ G D = some (.lst (ks.map fun k : Nat => V.int (k : Int)))) ?_ (fun i G hi z => ?_) (fun G z => ?_)
  · exact ⟨kp1.mk hD, dk1.put offD.1 offD.2, [], rfl, fun k z => (nomatch z), upd_same⟩
  · obtain ⟨kpi, dki, ks, lk, hk, gD'⟩ := z
    refine ⟨rfl, _, rfl, d, c, 26, rfl, dki, by decide, by decide, fun r G2 r0 r1 kp2 dk2 => ?_⟩
    have er : r = ((r.toNat : Nat) : Int) := by omega
    refine ⟨_, kp2 D _ offD.1 offD.2 gD', ?_, (kpi.trans kp2).mk hD, dk2.put offD.1 offD.2, ks ++ [r.toNat], ?_, fun k hk' => ?_, ?_⟩
    · rw [List.length_map, lk]
      exact small1000 (by omega)
    · rw [List.length_append, lk]
      rfl
    · rcases List.mem_append.mp hk' with z | z
      · exact hk k z
      · rw [List.mem_singleton.mp z]
        omega
    · rw [upd_same, List.map_append]
      show _ = some (HO.lst (_ ++ [V.int ((r.toNat : Nat) : Int)]))
      rw [← er]
  obtain ⟨kpi, dki, ks, lk, hk, gD'⟩ := z
  refine ⟨_, rfl, _, rfl, D, _, rfl, .inl (SqL.of gD'), d, c, _, rfl, dki, by rw [List.length_map]; omega, by rw [List.length_map]; omega, fun r G2 r0 r1 kp2 dk2 => ?_⟩
  rw [List.length_map] at r1
  have gD2 := kp2 D _ offD.1 offD.2 gD'
  refine ⟨Nat.zero_le _, fun L nL => ?_⟩
  have offL := dk2.off nL
  have LD : L ≠ D := (ne_of_none gD2 nL).symm
  have kpa := kpi.trans kp2
  have hL : H L = none := kpa.free dk2 nL
  have er : r = ((r.toNat : Nat) : Int) := by omega
  have lr : r.toNat < ks.length := by omega
  have l8 : ks.length ≤ 8 := by omega
  refine ⟨_, rfl, m, rfl, by omega, by omega, ?_⟩
  refine for_range (lo := 0) (n := m.toNat) (fun i σ G => (∃ y3, σ = [some (.ref d), some (.int m), some (.str lets), y3, some (.ref D), some (.int r), some (.ref L), none]) ∧ Kp d c H G ∧ Dk G d c ∧
      G D = some (.lst ((ks.set r.toNat ((ks.getD r.toNat 0 + i) % 26)).map fun k : Nat => V.int (k : Int))) ∧ G L = some (.lst (((List.range i).map (nmAt ks r.toNat)).map V.str))) ?_ (fun i σ G hi z => ?_) (fun σ G z => ?_)
  · refine ⟨⟨none, rfl⟩, kpa.mk hL, dk2.put offL.1 offL.2, ?_, upd_same⟩
    rw [upd_ne LD.symm, gD2]
    have h26 : (ks.getD r.toNat 0 + 0) % 26 = ks[r.toNat] := by
      have e1 : ks.getD r.toNat 0 = ks[r.toNat] := by simp [List.getD, List.getElem?_eq_getElem lr]
      have := hk _ (List.getElem_mem lr)
      rw [e1]
      omega
    rw [h26, List.set_getElem_self]
  · obtain ⟨⟨y3, rfl⟩, kpG, dkG, gDG, gLG⟩ := z
    generalize hks : ks.set r.toNat ((ks.getD r.toNat 0 + i) % 26) = ki at gDG
    have lki : ki.length = ks.length := by rw [← hks, List.length_set]
    have kat : ki[r.toNat]? = some ((ks.getD r.toNat 0 + i) % 26) := by rw [← hks, List.getElem?_set_self lr]
    have gat : atI (ki.map fun k : Nat => V.int (k : Int)) r = some (V.int (((ks.getD r.toNat 0 + i) % 26 : Nat) : Int)) := by
      have z := atI_nat (xs := ki.map fun k : Nat => V.int (k : Int)) (j := r.toNat) (v := V.int (((ks.getD r.toNat 0 + i) % 26 : Nat) : Int)) (by rw [List.getElem?_map, kat]; rfl)
      rw [← er] at z
      exact z
    have ix : ixN (ki.map fun k : Nat => V.int (k : Int)).length r = some r.toNat := by
      have z := ixNat (n := (ki.map fun k : Nat => V.int (k : Int)).length) (j := r.toNat) (by rw [List.length_map, lki]; exact lr)
      rw [← er] at z
      exact z
    refine ⟨_, rfl, _, rfl, D, _, _, _, rfl, rfl, SqL.of gDG, gat, _, _, rfl, rfl, _, _, rfl, rfl, (by show (0 : Int) < 26; decide), _, rfl, _, rfl, D, _, _, r.toNat, rfl, rfl, gDG, ix, ?_⟩
    have ev : (V.int ((((ks.getD r.toNat 0 + i) % 26 : Nat) : Int) + 1) = V.int ((((ks.getD r.toNat 0 + i) % 26 : Nat) : Int) + 1)) := rfl
    have en : ((((ks.getD r.toNat 0 + i) % 26 : Nat) : Int) + 1) % 26 = (((ks.getD r.toNat 0 + i + 1) % 26 : Nat) : Int) := by omega
    have eset : (ki.map fun k : Nat => V.int (k : Int)).set r.toNat (V.int (((((ks.getD r.toNat 0 + i) % 26 : Nat) : Int) + 1) % 26)) = (ks.set r.toNat ((ks.getD r.toNat 0 + i + 1) % 26)).map fun k : Nat => V.int (k : Int) := by
      rw [en, ← hks, ← List.map_set (f := fun k : Nat => V.int (k : Int)), List.set_set]
    rw [eset]
    generalize hk2 : ks.set r.toNat ((ks.getD r.toNat 0 + i + 1) % 26) = k2
    have lk2 : k2.length = ks.length := by rw [← hk2, List.length_set]
    have hk26 : ∀ k ∈ k2, k < 26 := fun k hk' => by
      rw [← hk2] at hk'
      rcases List.mem_or_eq_of_mem_set hk' with z | z
      · exact hk k z
      · rw [z]
        exact Nat.mod_lt _ (by decide)
    have gL2 : (upd G D (.lst (k2.map fun k : Nat => V.int (k : Int)))) L = some (.lst (((List.range i).map (nmAt ks r.toNat)).map V.str)) := by rw [upd_ne LD]; exact gLG
    have gDn : (upd G D (.lst (k2.map fun k : Nat => V.int (k : Int)))) D = some (.lst (k2.map fun k : Nat => V.int (k : Int))) := upd_same
    have kp3 : Kp d c H (upd G D (.lst (k2.map fun k : Nat => V.int (k : Int)))) := kpG.mk hD
    have dk3 := dkG.put (o := .lst (k2.map fun k : Nat => V.int (k : Int))) offD.1 offD.2
    generalize upd G D (.lst (k2.map fun k : Nat => V.int (k : Int))) = G3 at gL2 gDn kp3 dk3
    refine ⟨_, rfl, .inl ⟨rfl, _, SqL.of gL2⟩, ⟨_, rfl⟩, _, rfl, D, rfl, ⟨_, SqL.of gDn⟩, fun J nJ => ?_⟩
    have JD : D ≠ J := ne_of_none gDn nJ
    have JL : L ≠ J := ne_of_none gL2 nJ
    have offJ := dk3.off nJ
    have hJ : H J = none := kp3.free dk3 nJ
    refine lc_list (xs := k2.map fun k : Nat => V.int (k : Int)) (fun i G => Same G3 G ∧ G J = some (.lst (((k2.take i).map sg).map V.str))) ⟨newS nJ, upd_same⟩ (fun i G _ z => SqL.of (z.1 _ _ gDn)) (fun i' x G hx z => ?_) (fun G z => ?_)
    · obtain ⟨sG, gJ⟩ := z
      rw [List.getElem?_map] at hx
      cases hu : k2[i']? with
      | none => rw [hu] at hx; cases hx
      | some kk =>
        rw [hu] at hx
        have ex : V.int (kk : Int) = x := Option.some.inj hx
        subst ex
        have hkk := hk26 kk (List.mem_of_getElem? hu)
        have li : i' < k2.length := (List.getElem?_eq_some_iff.mp hu).1
        have tk : k2.take (i' + 1) = k2.take i' ++ [kk] := by rw [List.take_add_one, hu]; rfl
        have lg := lets_get (r := ((kk : Nat) : Int)) (by omega) (by omega)
        rw [Int.toNat_natCast] at lg
        refine ⟨rfl, _, rfl, _, rfl, lets, _, _, rfl, rfl, lets_len, lg, _, gJ, ?_, smk sG nJ, ?_⟩
        · rw [List.length_map, List.length_map, List.length_take]
          exact small1000 (by omega)
        · rw [upd_same, tk, List.map_append, List.map_append]
          rfl
    · obtain ⟨sG, gJ⟩ := z
      rw [List.length_map, List.take_length] at gJ
      refine ⟨_, J, k2.map sg, rfl, rfl, .inl (SqL.of gJ), ?_, L, _, _, rfl, rfl, sG _ _ gL2, ?_, ?_⟩
      · rw [sg_len, List.length_map]
        show k2.length + k2.length * 0 ≤ _
        omega
      · rw [List.length_map, List.length_map, List.length_range]
        exact small1000 (by omega)
      · refine ⟨⟨_, rfl⟩, (kp3.trans (Kp.of sG)).mk hL, (dk3.same sG).put offL.1 offL.2, ?_, ?_⟩
        · rw [upd_ne LD.symm]
          exact sG _ _ gDn
        · rw [upd_same, List.range_succ, List.map_append, List.map_append]
          show _ = some (HO.lst (_ ++ [V.str (Txt.join (Str.ofString "") ((ks.set r.toNat ((ks.getD r.toNat 0 + i + 1) % 26)).map sg))]))
          rw [hk2]
  · obtain ⟨⟨y3, rfl⟩, kpG, dkG, gDG, gLG⟩ := z
    refine ⟨_, rfl, q L _ G kpG dkG hL gLG (by rw [List.length_map, List.length_range]) (fun x hx => ?_) (nodupR _ fun i j hi hj e => nmAt_inj lr (by omega) (by omega) e) ⟨ks.length, fun x hx => ?_⟩⟩
    rotate_left
    · obtain ⟨j, _, rfl⟩ := List.mem_map.mp hx
      unfold nmAt
      rw [join_cps, List.length_map, List.length_set]
    obtain ⟨j, _, rfl⟩ := List.mem_map.mp hx
    refine join_nm (fun k hk' => ?_) (by rw [List.length_set]; omega) (by rw [List.length_set]; omega)
    rcases List.mem_or_eq_of_mem_set hk' with z | z
    · exact hk k z
    · rw [z]
      exact Nat.mod_lt _ (by decide)
/-! _law_pick -/
theorem scPick : FnScope ["_law_deck_here", "_law_some"] ["_law_deck_here", "_law_some"] (defScope tPick) := ⟨rfl, rfl, rfl, by decide +kernel, rfl, by decide +kernel, by decide +kernel⟩
abbrev psPick : List Str := ["_law_deck_here", "_law_some"]
def spPick : Sp := fun vs H Q _ => ∃ (d c a : Addr) (us : List V), vs = [.ref d, .ref a] ∧ Dk H d c ∧ H a = some (.lst us) ∧ a ≠ d ∧ a ≠ c ∧ 1 ≤ us.length ∧ us.length ≤ 100 ∧ ∀ (v : V) (G : Hp), Kp d c H G → Dk G d c → v ∈ us → Q v G
theorem okPick {f fD : Addr} {fd fdD : FuncData} {k : Nat} (F : Fun K "_law_pick" "_law_pick" tPick f fd) (GD : FnOk P w K mg base CX0 (k + 1) fD fdD ["_law_deck_here", "_law_most"] spDraw) (bD : Binds K fdD ["_law_deck_here", "_law_most"] []) (gD : mg "_law_draw" = some (.ref fD)) (kD : PySem.W.keepIn K (.ref fD) = true)
    (mn : mg "len" = none) : FnOk P w K mg base CX0 (k + 2) f fd psPick spPick := by
  refine F.ok scPick (fun vs H Q E h => ?_) (fun cdv A outer s H vs Q E hr h => ?_)
  · obtain ⟨d, c, a, us, rfl, _⟩ := h
    rfl
  obtain ⟨d, c, a, us, rfl, dk, ha, ad, ac, l1, l2, q⟩ := h
  refine ⟨_, pss_one (ps_ret (pe_ix ix_list (pv 1) (pe_call GD hr (by rfl) gD kD bD .nil pass0 (pa_cons (pv 0) (pa_cons (pe_callB call_len_seq (by rfl) mn PySem.boot_len (pa_cons (pv 1) pa_nil)) pa_nil))) (fun _ _ => rfl))), ?_⟩
  refine ⟨_, rfl, _, rfl, _, rfl, a, _, rfl, .inl (SqL.of ha), d, c, _, rfl, dk, by omega, by omega, fun r G r0 r1 kp dk2 => ?_⟩
  have lr : r.toNat < us.length := by omega
  have er : r = ((r.toNat : Nat) : Int) := by omega
  have gat : atI us r = some us[r.toNat] := by
    have z := atI_nat (xs := us) (j := r.toNat) (List.getElem?_eq_getElem lr)
    rw [← er] at z
    exact z
  exact ⟨a, _, _, _, rfl, rfl, SqL.of (kp a _ ad ac ha), gat, q _ G kp dk2 (List.getElem_mem lr)⟩
end
end Kq

/-! isinstance(e, T) and isinstance(e, (A, B, ..)) of an exception that is pinned -/
namespace Ke
open PySem PySem.Spec PyProof.Rows L2
theorem clsV_eq {c : V} {u v : Value} (h : ClsV c u) (r : RelV c v) : v = u := by
  cases h <;> exact r
theorem paired_eq : ∀ {cs : List V} {us its : List Value}, PySem.Paired ClsV cs us → Vals cs its → its = us
  | [], _, _, .nil, h => by cases h; rfl
  | _ :: _, _, _, .cons p ps, h => by
    cases h with
    | cons q qs => rw [clsV_eq p q, paired_eq ps qs]
def rIsET (K : PySem.W.Frag) (D a : Addr) : List V → Hp → VK → Prop := fun xs H Q => ∃ (tp : Addr) (cs : List V) (us : List Value) (b : Bool), xs = [.ref a, .ref tp] ∧ H tp = some (.tup cs) ∧ PySem.Paired ClsV cs us ∧ PySem.W.kitAny K (.ref D) us = some b ∧ Q (.bl b) H
theorem call_isET {X : Cx} {a D : Addr} {oe : Obj} (C : ExcC X.K D) (hm : (a, oe) ∈ X.pn) (hz : Zc (.ref D) none oe) (hf : ∃ vs, oe.data = .fields vs) : CallR X (.builtin "isinstance") (rIsET X.K D a) := by
  intro pins s σ H xs us Q hI hv hr
  obtain ⟨tp, cs, cu, b, rfl, ht, hp, hk, hQ⟩ := hr
  obtain ⟨vs, hf⟩ := hf
  have hg : s.heap.get? a = some oe := (hI.pin _ (List.mem_append_left _ hm)).1
  cases hv with
  | cons h1 h2 =>
    cases h2 with
    | cons h3 h4 =>
      cases h4
      cases h1
      cases h3
      obtain ⟨its, hvs, ⟨⟨cc, dd, dt, sl⟩, hT, rfl, n, rfl⟩, -⟩ := hI.tuple (show SqT X.K H tp cs from .inl (.inl ht))
      have := paired_eq hp hvs
      subst this
      refine PySem.W.kia_tup (PySem.W.handS_kitx_exc (ox := oe) C.hg C.hk C.hs C.hd C.ha C.hn C.ht C.hm) hI.kIn ?_ hT hk (fun h => by cases h) fun tk => ⟨.bl b, _, hI.tok tk, rfl, hQ⟩
      exact ⟨hg, hz.1, by unfold PySem.W.notCls; rw [hf], by rw [hz.2]; trivial⟩
def rIsE1 (K : PySem.W.Frag) (D a : Addr) : List V → Hp → VK → Prop := fun xs H Q => ∃ (c : V) (cv : Value) (b : Bool), xs = [.ref a, c] ∧ (∀ u, RelV c u → u = cv) ∧ PySem.W.kitOne K (.ref D) cv = some b ∧ Q (.bl b) H
theorem call_isE1 {X : Cx} {a D : Addr} {oe : Obj} (C : ExcC X.K D) (hm : (a, oe) ∈ X.pn) (hz : Zc (.ref D) none oe) (hf : ∃ vs, oe.data = .fields vs) : CallR X (.builtin "isinstance") (rIsE1 X.K D a) := by
  intro pins s σ H xs us Q hI hv hr
  obtain ⟨c, cv, b, rfl, ht, hk, hQ⟩ := hr
  obtain ⟨vs, hf⟩ := hf
  have hg : s.heap.get? a = some oe := (hI.pin _ (List.mem_append_left _ hm)).1
  cases hv with
  | cons h1 h2 =>
    cases h2 with
    | cons h3 h4 =>
      cases h4
      cases h1
      have := ht _ h3
      subst this
      refine PySem.W.kia_one (PySem.W.handS_kitx_exc (ox := oe) C.hg C.hk C.hs C.hd C.ha C.hn C.ht C.hm) hI.kIn ?_ hk (fun h => by cases h) fun tk => ⟨.bl b, _, hI.tok tk, rfl, hQ⟩
      exact ⟨hg, hz.1, by unfold PySem.W.notCls; rw [hf], by rw [hz.2]; trivial⟩
end Ke

/-! the same, the class told by the reading, the written part named -/
namespace Ke
open PySem PySem.Spec PyProof.Rows L2
theorem call_isETK {X : Cx} {a D : Addr} {oe : Obj} {cls : Value} {d : Option Addr} (K : PySem.W.Frag) (h : X.K = K) (C : ExcC K D) (hm : (a, oe) ∈ X.pn) (hz : Zc cls d oe) (hf : ∃ vs, oe.data = .fields vs) :
    CallR X (.builtin "isinstance") (fun xs H Q => cls = .ref D ∧ d = none ∧ rIsET K D a xs H Q) := by
  subst h
  intro pins s σ H xs us Q hI hv hr
  obtain ⟨rfl, rfl, hr⟩ := hr
  exact call_isET C hm hz hf pins s σ H xs us Q hI hv hr
theorem call_isE1K {X : Cx} {a D : Addr} {oe : Obj} {cls : Value} {d : Option Addr} (K : PySem.W.Frag) (h : X.K = K) (C : ExcC K D) (hm : (a, oe) ∈ X.pn) (hz : Zc cls d oe) (hf : ∃ vs, oe.data = .fields vs) :
    CallR X (.builtin "isinstance") (fun xs H Q => cls = .ref D ∧ d = none ∧ rIsE1 K D a xs H Q) := by
  subst h
  intro pins s σ H xs us Q hI hv hr
  obtain ⟨rfl, rfl, hr⟩ := hr
  exact call_isE1 C hm hz hf pins s σ H xs us Q hI hv hr
end Ke

/-! what kind_of tells -/
namespace Kq
open PySem PySem.Spec PyProof.Rows L2 Kf Kg Kv Kk Ku
/-- the classes that a refusal is held against -/
structure TMI (K : PySem.W.Frag) (mg : Str → Option Value) (cN cK : Addr) : Prop where
  ec : ExcC K cN
  gK : mg "KindError" = some (.ref cK)
  eP : PySem.W.exmOne K (.ref cN) (.ref cK) = some true
  nn : PySem.W.kitOne K (.ref cN) (.ref cN) = some true
  nv : PySem.W.kitOne K (.ref cN) (.type "ValueError") = some true
  g1 : ∃ c1 c2 c3 c4 c5 c6 c7 c8 c9 : Addr, mg "TooMany" = some (.ref c1) ∧ mg "TooMuch" = some (.ref c2) ∧ mg "NoText" = some (.ref c3) ∧ mg "NoLead" = some (.ref c4) ∧ mg "NoName" = some (.ref c5) ∧ mg "Taken" = some (.ref c6) ∧ mg "Ring" = some (.ref c7) ∧ mg "NoBack" = some (.ref c8) ∧ mg "NoRow" = some (.ref c9) ∧
    PySem.W.kitAny K (.ref cN) [.ref c1, .ref c2, .ref c3, .ref c4, .ref c5, .ref c6, .ref c7, .ref c8, .ref c9] = some false
  g2 : ∃ c1 c2 c3 : Addr, mg "Unbounded" = some (.ref c1) ∧ mg "Broken" = some (.ref c2) ∧ mg "Used" = some (.ref c3) ∧ PySem.W.kitAny K (.ref cN) [.ref c1, .ref c2, .ref c3] = some false
section
variable {P : Program} {w : World} {K : PySem.W.Frag} {mg : Str → Option Value} {base : Heap} {NS NO lk : List Str} {cN cK : Addr} {T : List Addr}
abbrev tLTold : Stmt := tp 85
abbrev nLTold : List Str := ["_law_term", "_law_looked", "_law_found", "e", "_law_good", "_law_odd"]
abbrev psLTold : List Str := ["_law_term", "_law_looked"]
theorem scLTold : FnScope nLTold psLTold (defScope tLTold) := ⟨rfl, rfl, rfl, by decide +kernel, rfl, by decide +kernel, by decide +kernel⟩
def KoL (K : PySem.W.Frag) (T : List Addr) : Option Kd → Hp → VK → Prop
  | some k, H, Q => ∀ (p : Addr) (u : V) (G : Hp), Sm T H G → G p = some (.tup [.str "told", u]) → Rp K G k u → Q (.ref p) G
  | none, H, Q => ∀ (p : Addr) (G : Hp), Sm T H G → G p = some (.tup [.str "refused"]) → Q (.ref p) G
def spLTold (K : PySem.W.Frag) (T : List Addr) (n : Nat) : Sp := fun vs H Q _ => ∃ (vt : V) (la : Addr) (t : Tm) (NS NO lk : List Str), vs = [vt, .ref la] ∧ NS.length ≤ 400 ∧ NoK NO ∧ Dd Non H t.dt vt ∧ t.dt.wt + 2 ≤ sizeLine ∧ H la = some (.tup (lk.map V.str)) ∧ TbS T H ∧ trm t.dt = true ∧ t.dp < n ∧ Sml lk NS NO t Ek.none ∧ KoL K T (chk lk t Ek.none) H Q
theorem okLTold {f : Addr} {fd : FuncData} {k n : Nat} (F : Fun K "_law_told" "_law_told" tLTold f fd) (xm : XN K mg cN) (ni : TMI K mg cN cK)
    (DW : Okd2 P w K mg base (L2.CX P w) k "kind_of" ["term", "looked", "known"] [V.non] (spKofU K T cN n))
    (mi : mg "isinstance" = none) (mv : mg "ValueError" = none) : FnOk P w K mg base CX0 (k + 1) f fd psLTold (spLTold K T n) := by
  obtain ⟨fW, fdW, dsW, GW, vW, bW, gW, kW⟩ := DW
  refine F.ok scLTold (fun vs H Q E h => ?_) (fun cdv A outer s H vs Q E hr h => ?_)
  · obtain ⟨vt, la, t, NS, NO, lk, rfl, _⟩ := h
    rfl
  obtain ⟨vt, la, t, NS, NO, lk, rfl, hn, NK, dd, hw, gl, tb, htr, hp, sm, q⟩ := h
  obtain ⟨c1, c2, c3, c4, c5, c6, c7, c8, c9, m1, m2, m3, m4, m5, m6, m7, m8, m9, hk9⟩ := ni.g1
  obtain ⟨d1, d2, d3, n1, n2, n3, hk3⟩ := ni.g2
  refine ⟨_, pss_cons (ps_try_as (i := 3) (c := .ref cK) rfl rfl scLTold.nd rfl rfl ⟨rfl, by decide, .inl ni.gK⟩ takes0
      (fun W pn xe tk _ => pss_one (ps_set (i := 2) scLTold.nd rfl (.inl rfl) (pe_tup (pa_cons pe_str (pa_cons (pe_callSD (dvs := [V.non]) GW hr (by rfl) gW kW bW vW (fun σ => passAt tk σ) (pa_cons (pv 0) (pa_cons (pv 1) pa_nil))) pa_nil)))))
      (fun a oe cls d pn hz hf => pss_cons (ps_set (i := 4) scLTold.nd rfl (.inl rfl) (pe_and (pe_callB (Ke.call_isE1K K rfl ni.ec List.mem_cons_self hz hf) (by rfl) mi PyProof.Rows.boot_isinstance (pa_cons (pv 3) (pa_cons (pe_glob (v := .ref cN) (by rfl) xm.gP rfl) pa_nil))) (pe_one (pe_callB (Ke.call_isE1K K rfl ni.ec List.mem_cons_self hz hf) (by rfl) mi PyProof.Rows.boot_isinstance (pa_cons (pv 3) (pa_cons (pe_bltn (v := .ty "ValueError") (by rfl) mv (by decide +kernel) rfl) pa_nil))))))
        (pss_cons (ps_set (i := 5) scLTold.nd rfl (.inl rfl) (pe_callB (Ke.call_isETK K rfl ni.ec List.mem_cons_self hz hf) (by rfl) mi PyProof.Rows.boot_isinstance (pa_cons (pv 3) (pa_cons (pe_tup (pa_cons (pe_glob (v := .ref c1) (by rfl) m1 rfl) (pa_cons (pe_glob (v := .ref c2) (by rfl) m2 rfl) (pa_cons (pe_glob (v := .ref c3) (by rfl) m3 rfl) (pa_cons (pe_glob (v := .ref c4) (by rfl) m4 rfl) (pa_cons (pe_glob (v := .ref c5) (by rfl) m5 rfl) (pa_cons (pe_glob (v := .ref c6) (by rfl) m6 rfl) (pa_cons (pe_glob (v := .ref c7) (by rfl) m7 rfl) (pa_cons (pe_glob (v := .ref c8) (by rfl) m8 rfl) (pa_cons (pe_glob (v := .ref c9) (by rfl) m9 rfl) pa_nil)))))))))) pa_nil))))
        (pss_cons (ps_set (i := 5) scLTold.nd rfl (.inl rfl) (pe_or (pv 5) (pe_one (pe_callB (Ke.call_isETK K rfl ni.ec List.mem_cons_self hz hf) (by rfl) mi PyProof.Rows.boot_isinstance (pa_cons (pv 3) (pa_cons (pe_tup (pa_cons (pe_glob (v := .ref d1) (by rfl) n1 rfl) (pa_cons (pe_glob (v := .ref d2) (by rfl) n2 rfl) (pa_cons (pe_glob (v := .ref d3) (by rfl) n3 rfl) pa_nil)))) pa_nil))))))
        (pss_one (ps_set (i := 2) scLTold.nd rfl (.inl rfl) (pe_ifExp (PW.pt (pw_and (pt_val (pv 4)) (pw_and1 (pt_not (pt_val (pv 5)))))) (pe_tup (pa_cons pe_str pa_nil)) (pe_tup (pa_cons pe_str pa_nil)))))))))
    (pss_one (ps_ret (pv 2))), ?_⟩
  refine ⟨_, rfl, _, rfl, NS, NO, lk, hn, NK, vt, la, t.dt, rfl, dd, hw, gl, tb, .inr ⟨t, rfl, htr, hp, sm, ?_⟩⟩
  cases c : chk lk t Ek.none with
  | some k1 =>
    rw [c] at q
    intro u G m1 r
    refine ⟨(by show 2 ≤ sizeLine; decide), fun l nl => ⟨_, rfl, q l u _ (m1.trans (Sm.of (newS nl) m1.2)) upd_same (r.tk (.of (newS nl)))⟩⟩
  | none =>
    rw [c] at q
    intro G m1
    refine ⟨true, ni.eP, fun _ a ha => ?_, fun q => nomatch q⟩
    refine ⟨_, rfl, rfl, rfl, _, _, true, rfl, (fun u h => h), ni.nn, _, rfl, iteT ⟨_, rfl, rfl, rfl, _, _, true, rfl, (fun u h => h), ni.nv, ?_⟩⟩
    refine ⟨_, rfl, (by show 9 ≤ sizeLine; decide), fun t1 nt1 => ?_⟩
    have s1 := newS (o := .tup [V.ref c1, .ref c2, .ref c3, .ref c4, .ref c5, .ref c6, .ref c7, .ref c8, .ref c9]) nt1
    refine ⟨rfl, rfl, t1, _, _, false, rfl, upd_same, .cons (.own _) (.cons (.own _) (.cons (.own _) (.cons (.own _) (.cons (.own _) (.cons (.own _) (.cons (.own _) (.cons (.own _) (.cons (.own _) .nil)))))))), hk9, ?_⟩
    refine ⟨_, rfl, _, rfl, iteF ⟨_, rfl, (by show 3 ≤ sizeLine; decide), fun t2 nt2 => ?_⟩⟩
    have s2 := newS (o := .tup [V.ref d1, .ref d2, .ref d3]) nt2
    refine ⟨rfl, rfl, t2, _, _, false, rfl, upd_same, .cons (.own _) (.cons (.own _) (.cons (.own _) .nil)), hk3, ?_⟩
    have sA := s1.trans s2
    refine ⟨_, rfl, _, rfl, iteT ⟨_, rfl, _, rfl, iteT ⟨(by show 1 ≤ sizeLine; decide), fun l nl => ⟨_, rfl, q l _ (m1.trans (Sm.of (sA.trans (newS nl)) m1.2)) upd_same⟩⟩⟩⟩
end
end Kq

/-! _law_has -/
namespace Kq
open PySem PySem.Spec PyProof.Rows L2 Kf Kg Kv Kk Ku
def Kok (t : Kd) : Prop := (∀ x ∈ t.opens, Nm x) ∧ t.dp ≤ 50
theorem kid_ok {t c : Kd} (h : Kok t) (hc : c ∈ t.kids) : Kok c ∧ c.dp < t.dp := by
  obtain ⟨h1, h2⟩ := h
  cases t with
  | opn x => cases hc
  | num => cases hc
  | tru => cases hc
  | pair a b =>
    have e : (Kd.pair a b).dp = max a.dp b.dp + 1 := rfl
    rcases List.mem_cons.mp hc with rfl | hc
    · exact ⟨⟨fun x hx => h1 x (List.mem_append_left _ hx), by omega⟩, by omega⟩
    · rw [List.mem_singleton.mp hc]
      exact ⟨⟨fun x hx => h1 x (List.mem_append_right _ hx), by omega⟩, by omega⟩
  | eith a b =>
    have e : (Kd.eith a b).dp = max a.dp b.dp + 1 := rfl
    rcases List.mem_cons.mp hc with rfl | hc
    · exact ⟨⟨fun x hx => h1 x (List.mem_append_left _ hx), by omega⟩, by omega⟩
    · rw [List.mem_singleton.mp hc]
      exact ⟨⟨fun x hx => h1 x (List.mem_append_right _ hx), by omega⟩, by omega⟩
  | lst a =>
    have e : (Kd.lst a).dp = a.dp + 1 := rfl
    rw [List.mem_singleton.mp hc]
    exact ⟨⟨fun x hx => h1 x hx, by omega⟩, by omega⟩
  | fn a b =>
    have e : (Kd.fn a b).dp = max a.dp b.dp + 1 := rfl
    rcases List.mem_cons.mp hc with rfl | hc
    · exact ⟨⟨fun x hx => h1 x (List.mem_append_left _ hx), by omega⟩, by omega⟩
    · rw [List.mem_singleton.mp hc]
      exact ⟨⟨fun x hx => h1 x (List.mem_append_right _ hx), by omega⟩, by omega⟩
theorem opens_kids (t : Kd) (o : Str) : o ∈ t.opens ↔ t = .opn o ∨ ∃ c ∈ t.kids, o ∈ c.opens := by
  cases t with
  | opn x =>
    show o ∈ [x] ↔ _
    rw [List.mem_singleton]
    constructor
    · intro e
      exact .inl (by rw [e])
    · rintro (e | ⟨c, hc, _⟩)
      · injection e with e
        exact e.symm
      · cases hc
  | num => simp [Kd.opens, Kd.kids]
  | tru => simp [Kd.opens, Kd.kids]
  | pair a b => simp [Kd.opens, Kd.kids]
  | eith a b => simp [Kd.opens, Kd.kids]
  | lst a => simp [Kd.opens, Kd.kids]
  | fn a b => simp [Kd.opens, Kd.kids]
def Kd.dts : Kd → List Dt
  | .opn x => [.str x]
  | .num => []
  | .tru => []
  | .pair a b => [a.dt, b.dt]
  | .eith a b => [a.dt, b.dt]
  | .lst a => [a.dt]
  | .fn a b => [a.dt, b.dt]
theorem dt_eq (t : Kd) : t.dt = .tup (.str t.word :: t.dts) := by cases t <;> rfl
theorem dt_isTup (t : Kd) : t.dt.isTup = true := by cases t <;> rfl
theorem dts_tup (t : Kd) : t.dts.filter Dt.isTup = t.kids.map Kd.dt := by
  cases t with
  | opn x => rfl
  | _ => simp [Kd.dts, Kd.kids, List.filter_cons, dt_isTup]
theorem dts_len (t : Kd) : t.dts.length ≤ 2 := by cases t <;> simp [Kd.dts]
theorem DdL.kinds {K : PySem.W.Frag} {N : Addr → Prop} {H : Hp} : ∀ {ts : List Kd} {vs : List V}, DdL N H (ts.map Kd.dt) vs → DpAll K H vs (ts.map toD)
  | [], _, h => by cases h; exact .nil
  | t :: ts, _, h => by
    cases h with
    | cons h1 h2 => exact .cons (dpT K (rp_of h1)) (DdL.kinds h2)
theorem eqvNilT (ts : List Kd) : PyData.eqv (.list (ts.map toD)) (.list []) = ts.isEmpty := by
  cases ts <;> simp [PyData.eqv, PyData.eqvAll]
theorem Dd.seeT {N : Addr → Prop} {H : Hp} {x : Dt} {xs : List Dt} {v : V} (h : Dd N H (.tup (x :: xs)) v) : ∃ p u us, v = .ref p ∧ H p = some (.tup (u :: us)) ∧ Dd N H x u ∧ DdL N H xs us := by
  cases h with
  | tup e t =>
  cases t with
  | cons t1 t => exact ⟨_, _, _, rfl, e, t1, t⟩
theorem DdL.split {N : Addr → Prop} {H : Hp} {xs : List Dt} {us : List V} {i : Nat} {v : V} (h : DdL N H xs us) (hv : us[i]? = some v) : ∃ y, xs[i]? = some y ∧ Dd N H y v ∧ xs.take (i + 1) = xs.take i ++ [y] := by
  obtain ⟨y, h1, h2⟩ := h.get hv
  exact ⟨y, h1, h2, by rw [List.take_add_one, h1]; rfl⟩
section
variable {P : Program} {w : World} {K : PySem.W.Frag} {mg : Str → Option Value} {base : Heap} {NS NO lk : List Str} {cN cK : Addr} {T : List Addr}
abbrev tLHas : Stmt := tp 86
abbrev nLHas : List Str := ["_law_kind", "_law_own", "_law_part", "_law_some"]
abbrev psLHas : List Str := ["_law_kind", "_law_own"]
theorem scLHas : FnScope nLHas psLHas (defScope tLHas) := ⟨rfl, rfl, rfl, by decide +kernel, rfl, by decide +kernel, by decide +kernel⟩
def spLHas (n : Nat) : Sp := fun vs H Q _ => ∃ (v : V) (t : Kd) (o : Str), vs = [v, .str o] ∧ t.dp < n ∧ Nm o ∧ Kok t ∧ Dd Non H t.dt v ∧ ∀ G : Hp, Same H G → Q (.bl (decide (o ∈ t.opens))) G
theorem okLHas {f : Addr} {fd : FuncData} {k n : Nat} (F : Fun K "_law_has" "_law_has" tLHas f fd)
    (DH : Okd P w K mg base CX0 (k) "_law_has" ["_law_kind", "_law_own"] (spLHas n))
    (m_isinstance : mg "isinstance" = none)
    (m_tuple : mg "tuple" = none) : FnOk P w K mg base CX0 (k + 1) f fd psLHas (spLHas (n + 1)) := by
  obtain ⟨fH, fdH, GH, bH, gH, kH⟩ := DH
  refine F.ok scLHas (fun vs H Q E h => ?_) (fun cdv A outer s H vs Q E hr h => ?_)
  · obtain ⟨v, t, o, rfl, _⟩ := h
    rfl
  obtain ⟨v, t, o, rfl, hp, no, ok, dd, q⟩ := h
  refine ⟨_, pss_cons (ps_setLc (i := 3) (own := [("_law_part", 2)]) (g := gName 2) (tt := _) (by rfl) scLHas.nd rfl rfl (sw_true rfl rfl rfl (by decide +kernel)) (pi_tup (pe_slice sl_tup (pv 0) (po_some pe_int) po_none)) (blkOk_by (own := [("_law_part", 2)]) (N := nLHas) (sc := defScope tLHas) (by decide +kernel)) (fun _ _ _ _ _ => (pg_name (i := 2) scLHas.nd rfl (.inl rfl))) (fun _ _ _ _ _ => pts_one (pt_val (pe_callB (isiK K rfl) (by rfl) m_isinstance PyProof.Rows.boot_isinstance (pa_cons (pv 2) (pa_cons (pe_bltn (v := .ty "tuple") (by rfl) m_tuple PyProof.Rows.boot_tuple rfl) pa_nil))))) (fun _ _ _ _ _ => (pv 2)))
    (pss_one (ps_ret (pe_or (pe_cmpR (op_eqD hr.units) (pv 0) (pe_tup (pa_cons pe_str (pa_cons (pv 1) pa_nil))) (nomark _)) (pe_one (pe_cmpR (op_neD hr.units) (pe_lc (own := [("_law_part", 2)]) (g := gName 2) (tt := _) (by rfl) scLHas.nd (pi_list (pv 3)) (blkOk_by (own := [("_law_part", 2)]) (N := nLHas) (sc := defScope tLHas) (by decide +kernel)) (fun _ _ _ _ _ => (pg_name (i := 2) scLHas.nd rfl (.inl rfl))) (fun _ _ _ _ _ => pts_one (pt_val (pe_call GH hr (by rfl) gH kH bH .nil pass0 (pa_cons (pv 2) (pa_cons (pv 1) pa_nil))))) (fun _ _ _ _ _ => (pv 2))) (pe_lst pa_nil) (nomark _)))))), ?_⟩
  have dd' := dd
  rw [dt_eq] at dd'
  obtain ⟨p, u, us, rfl, gp, d1, dus⟩ := Dd.seeT dd'
  cases d1
  have lus := dus.len
  have l2 := dts_len t
  refine ⟨_, rfl, 1, rfl, p, _, rfl, SqT.of gp, notWhole _ _, fun q1 nq1 => ?_⟩
  rw [cutFrom1]
  have s1 := newS (o := .tup us) nq1
  have g1 : (upd H q1 (.tup us)) q1 = some (.tup us) := upd_same
  generalize upd H q1 (.tup us) = G1 at s1 g1
  refine ⟨q1, rfl, ⟨_, SqT.of g1⟩, fun D nD => ?_⟩
  refine lc_tup (K := K) (a := q1) (xs := us) (fun i F => Same G1 F ∧ ∃ ws, F D = some (.lst ws) ∧ DdL Non F ((t.dts.take i).filter Dt.isTup) ws) ⟨newS nD, [], upd_same, .nil⟩ (fun i F _ z => SqT.of (z.1 _ _ g1)) (fun i x F hx z => ?_) (fun F z => ?_)
  · obtain ⟨sF, ws, gD, dw⟩ := z
    have d2 := dus.same (s1.trans sF)
    obtain ⟨y, hy, dy, etk⟩ := DdL.split d2 hx
    have li := (List.getElem?_eq_some_iff.mp hx).1
    have lw := dw.len
    have lf := List.length_filter_le Dt.isTup (t.dts.take i)
    rw [List.length_take] at lf
    refine ⟨rfl, _, rfl, _, _, _, _, y.isTup, rfl, .ty "tuple", dy.ty, kTup K y, _, rfl, ite2 (fun e => ?_) (fun e => ?_)⟩
    · refine ⟨_, rfl, ws, gD, small1000 (by omega), smk sF nD, _, upd_same, ?_⟩
      rw [etk, List.filter_append, show [y].filter Dt.isTup = [y] by rw [List.filter_cons_of_pos e]; rfl]
      have ntD : ∀ xs, F D ≠ some (.tup xs) := fun _ z => by rw [gD] at z; cases z
      have kn : Kn Non F (upd F D (.lst (ws ++ [x]))) := Kn.rfl.put (fun z => z) ntD
      exact (dw.kn kn).app (.cons (dy.kn kn) .nil)
    · refine ⟨sF, ws, gD, ?_⟩
      rw [etk, List.filter_append, show [y].filter Dt.isTup = [] by rw [List.filter_cons_of_neg e]; rfl, List.append_nil]
      exact dw
  obtain ⟨sF, ws, gD, dw⟩ := z
  rw [← lus, List.take_length, dts_tup] at dw
  have sHF := s1.trans sF
  have ddF := dd.same sHF
  refine ⟨_, rfl, _, rfl, (by show 2 ≤ sizeLine; decide), fun q2 nq2 => ?_⟩
  have s2 := newS (o := .tup [.str "open", .str o]) nq2
  have s02 := sHF.trans s2
  have okO : Kok (.opn o) := ⟨fun x hx => by rw [List.mem_singleton.mp hx]; exact no, by show 0 ≤ 50; decide⟩
  have e1 := shT ok.1 ok.2
  have e2 := shT okO.1 okO.2
  refine ⟨_, _, dpT K (rp_of (ddF.same s2)), dpT (t := .opn o) K ⟨q2, rfl, .inl upd_same⟩, e1.1, e2.1, _, rfl, ite2 (fun c => ?_) (fun c => ?_)⟩
  · have z := q _ s02
    rw [decide_eq_true ((opens_kids t o).mpr (.inl ((eqv_iff e1.2).mp c)))] at z
    exact z
  have nt : t ≠ .opn o := fun z => c ((eqv_iff e1.2).mpr z)
  have gD2 := s2 _ _ gD
  have dw2 := dw.same s2
  generalize upd F q2 (.tup [.str "open", .str o]) = G2 at s2 s02 gD2 dw2
  have lw := dw2.len
  rw [List.length_map] at lw
  refine ⟨_, rfl, D, rfl, ⟨_, SqL.of gD2⟩, fun D2 nD2 => ?_⟩
  refine lc_list (K := K) (a := D) (xs := ws) (fun i F => Same G2 F ∧ ∃ (acc : List V) (ts : List Kd), F D2 = some (.lst acc) ∧ DdL Non F (ts.map Kd.dt) acc ∧ ts.length ≤ i ∧ (∀ c ∈ ts, c ∈ t.kids) ∧ (ts = [] ↔ ∀ c ∈ t.kids.take i, o ∉ c.opens)) ⟨newS nD2, [], [], upd_same, .nil, Nat.le_refl _, fun c h => (by cases h), ⟨fun _ c h => (by cases h), fun _ => rfl⟩⟩ (fun i F _ z => SqL.of (z.1 _ _ gD2)) (fun i x F hx z => ?_) (fun F z => ?_)
  · obtain ⟨sF2, acc, ts, gA, dA, lt, mt, ht⟩ := z
    have d2 := dw2.same sF2
    obtain ⟨y, hy, dy, _⟩ := DdL.split d2 hx
    rw [List.getElem?_map] at hy
    obtain ⟨c, hc, rfl⟩ := Option.map_eq_some_iff.mp hy
    have mc := List.mem_of_getElem? hc
    obtain ⟨okc, dpc⟩ := kid_ok ok mc
    have li := (List.getElem?_eq_some_iff.mp hx).1
    have etk : t.kids.take (i + 1) = t.kids.take i ++ [c] := by rw [List.take_add_one, hc]; rfl
    have lk2 : t.kids.length ≤ 2 := by cases t <;> simp [Kd.kids]
    refine ⟨rfl, _, rfl, _, rfl, x, c, o, rfl, by omega, no, okc, dy, fun G3 s3 => ⟨_, rfl, ite2 (fun e => ?_) (fun e => ?_)⟩⟩
    · have e := of_decide_eq_true e
      have la := dA.len
      rw [List.length_map] at la
      refine ⟨_, rfl, acc, s3 _ _ gA, small1000 (by omega), smk (sF2.trans s3) nD2, acc ++ [x], ts ++ [c], upd_same, ?_, ?_, ?_, ?_⟩
      · rw [List.map_append]
        have ntD : ∀ xs, G3 D2 ≠ some (.tup xs) := fun _ z => by rw [s3 _ _ gA] at z; cases z
        have kn : Kn Non G3 (upd G3 D2 (.lst (acc ++ [x]))) := Kn.rfl.put (fun z => z) ntD
        exact ((dA.same s3).kn kn).app (.cons ((dy.same s3).kn kn) .nil)
      · rw [List.length_append]
        exact Nat.succ_le_succ lt
      · intro c2 h2
        rcases List.mem_append.mp h2 with h2 | h2
        · exact mt c2 h2
        · rw [List.mem_singleton.mp h2]
          exact mc
      · rw [etk]
        exact ⟨fun z => absurd z (by simp), fun z => absurd e (z c (by simp))⟩
    · refine ⟨sF2.trans s3, acc, ts, s3 _ _ gA, dA.same s3, by omega, mt, ?_⟩
      rw [etk, ht]
      constructor
      · intro z c2 h2
        rcases List.mem_append.mp h2 with h2 | h2
        · exact z c2 h2
        · rw [List.mem_singleton.mp h2]
          exact fun z => e (decide_eq_true z)
      · intro z c2 h2
        exact z c2 (List.mem_append_left _ h2)
  obtain ⟨sF2, acc, ts, gA, dA, lt, mt, ht⟩ := z
  rw [← lw, List.take_length] at ht
  refine ⟨(by show 0 ≤ sizeLine; decide), fun q3 nq3 => ?_⟩
  have s3 := newS (o := .lst []) nq3
  have sts := shTs (ts := ts) fun c hc => (kid_ok ok (mt c hc)).1
  have sn := shTs (ts := []) fun c hc => by cases hc
  refine ⟨_, _, Dp.lst (SqL.of (s3 _ _ gA)) (DdL.kinds (dA.same s3)), Dp.lst (SqL.of upd_same) (DdL.kinds (ts := []) (N := Non) .nil), sts.1, sn.1, ?_⟩
  have z := q _ (s02.trans (sF2.trans s3))
  have eq : (!PyData.eqv (.list (ts.map toD)) (.list (([] : List Kd).map toD))) = decide (o ∈ t.opens) := by
    rw [show ([] : List Kd).map toD = [] from rfl, eqvNilT]
    cases hts : ts with
    | nil =>
      refine (decide_eq_false fun z => ?_).symm
      rcases (opens_kids t o).mp z with z | ⟨c, hc, ho⟩
      · exact nt z
      · exact ht.mp hts c hc ho
    | cons a r =>
      refine (decide_eq_true ?_).symm
      refine Classical.byContradiction fun z => ?_
      have : ts = [] := ht.mpr fun c hc ho => z ((opens_kids t o).mpr (.inr ⟨c, hc, ho⟩))
      rw [hts] at this
      cases this
  rw [eq]
  exact z
end
end Kq

/-! terms are terms; what kinds they have -/
namespace Kq
open PySem PySem.Spec PyProof.Rows L2 Kf Kg Kv Kk Ku
theorem nmS_of {x : Str} (h : Nm x) : nmS x = true := by
  have hl : x.cps.toList.length = x.length := Array.length_toList
  have h1 := h.one
  have h2 := h.few
  unfold nmS
  rw [decide_eq_true (by omega), decide_eq_true (by omega), Bool.true_and, Bool.true_and, List.all_eq_true]
  intro c hc
  obtain ⟨c0, c1⟩ := h.low c hc
  unfold isLo
  refine decide_eq_true ?_
  have e : c = 97 + (c - 97) := by omega
  rw [e]
  exact List.mem_of_getElem? (lets_at ⟨c - 97, by omega⟩)
theorem nmS_len {x : Str} (h : nmS x = true) : x.length ≤ 8 := by
  unfold nmS at h
  exact of_decide_eq_true (Bool.and_eq_true_iff.mp (Bool.and_eq_true_iff.mp h).1).2
theorem frm_ok {wd : Str} {xs : List Dt} (h1 : decide (wd = "fun") = false) (h2 : ar wd = some xs.length) (h3 : (!decide (wd = "open") || nm1 xs) = true) : frm (.tup (.str wd :: xs)) = true := by
  rw [frm_eq, h1, h2, h3]
  simp
theorem dat_two {wd : Str} {a b : Dt} (h : wd = "pair" ∨ wd = "either") (ha : dat a = true) (hb : dat b = true) : dat (.tup [.str wd, a, b]) = true := by
  rw [dat_eq]
  rcases h with rfl | rfl
  · have e : prt (.tup [.str "pair", a, b]) = [a, b] := rfl
    have e2 : frm (.tup [.str "pair", a, b]) = true := frm_ok (by decide +kernel) (show ar "pair" = some 2 by decide +kernel) (by rw [show decide (("pair" : Str) = "open") = false by decide +kernel]; rfl)
    rw [e, e2]
    simp [ha, hb]
  · have e : prt (.tup [.str "either", a, b]) = [a, b] := rfl
    have e2 : frm (.tup [.str "either", a, b]) = true := frm_ok (by decide +kernel) (show ar "either" = some 2 by decide +kernel) (by rw [show decide (("either" : Str) = "open") = false by decide +kernel]; rfl)
    rw [e, e2]
    simp [ha, hb]
theorem dat_lst {a : Dt} (ha : dat a = true) : dat (.tup [.str "list", a]) = true := by
  rw [dat_eq]
  have e : prt (.tup [.str "list", a]) = [a] := rfl
  have e2 : frm (.tup [.str "list", a]) = true := frm_ok (by decide +kernel) (show ar "list" = some 1 by decide +kernel) (by rw [show decide (("list" : Str) = "open") = false by decide +kernel]; rfl)
  rw [e, e2]
  simp [ha]
theorem dat_opn {n : Str} (h : nmS n = true) : dat (.tup [.str "open", .str n]) = true := by
  rw [dat_eq]
  have e : prt (.tup [.str "open", .str n]) = [] := rfl
  have e2 : frm (.tup [.str "open", .str n]) = true := by
    exact frm_ok (by decide +kernel) (show ar "open" = some 1 by decide +kernel) (by show (_ || nmS n) = true; rw [h, Bool.or_true])
  rw [e, e2]
  rfl
theorem dat_num : dat (.tup [.str "num"]) = true := by
  rw [dat_eq]
  have e : prt (.tup [.str "num"]) = [] := rfl
  have e2 : frm (.tup [.str "num"]) = true := by rw [frm_eq]; decide +kernel
  rw [e, e2]
  rfl
theorem dat_tru : dat (.tup [.str "truth"]) = true := by
  rw [dat_eq]
  have e : prt (.tup [.str "truth"]) = [] := rfl
  have e2 : frm (.tup [.str "truth"]) = true := by rw [frm_eq]; decide +kernel
  rw [e, e2]
  rfl
theorem chD_dat {x : Dt} (h : dat x = true) : chD dat x = true := by
  cases c : tagD x "fun" 2 with
  | false => rw [chD_no dat c]; exact h
  | true =>
    obtain ⟨a, b, rfl⟩ := tag_fn c
    rw [dat_fn] at h
    cases h
theorem arg_ch {x : Dt} (h : chD dat x = true) : argD x = true := by
  unfold argD fstD
  cases c : tagD x "fun" 2 with
  | false => rw [chD_no dat c] at h; rw [h]; rfl
  | true => rw [h]; simp
theorem fit_dat (x : Dt) : fitD "data" x = dat x := by
  unfold fitD
  rw [if_neg (by decide +kernel), if_neg (by decide +kernel), if_neg (by decide +kernel), if_neg (by decide +kernel), if_pos rfl]
theorem fit_arg (x : Dt) : fitD "argument" x = argD x := by
  unfold fitD
  rw [if_neg (by decide +kernel), if_neg (by decide +kernel), if_neg (by decide +kernel), if_neg (by decide +kernel), if_neg (by decide +kernel), if_pos rfl]
theorem fit_fil (x : Dt) : fitD "fills" x = filD x := by
  unfold fitD
  rw [if_neg (by decide +kernel), if_neg (by decide +kernel), if_neg (by decide +kernel), if_neg (by decide +kernel), if_neg (by decide +kernel), if_neg (by decide +kernel), show decide (("fills" : Str) = "term") = false by decide +kernel, Bool.false_or]
theorem fit_trm (x : Dt) : fitD "term" x = true := by
  unfold fitD
  rw [if_neg (by decide +kernel), if_neg (by decide +kernel), if_neg (by decide +kernel), if_neg (by decide +kernel), if_neg (by decide +kernel), if_neg (by decide +kernel), show decide (("term" : Str) = "term") = true by decide +kernel, Bool.true_or]
theorem fit_num (x : Dt) : fitD "number" x = numD x := by
  unfold fitD
  rw [if_neg (by decide +kernel), if_pos rfl]
theorem fit_trn (x : Dt) : fitD "turns" x = trnD x := by
  unfold fitD
  rw [if_neg (by decide +kernel), if_neg (by decide +kernel), if_neg (by decide +kernel), if_pos rfl]
theorem trm_mk {w : Str} {rs : List Str} {xs : List Dt} (h : rls w = some rs) (hl : xs.length = rs.length) (hf : ∀ p ∈ rs.zip xs, fitD p.1 p.2 = true) (ht : ∀ p ∈ rs.zip xs, p.1 = "term" → trm p.2 = true) (h34 : two w = true → same34 xs = false) : trm (.tup (.str w :: xs)) = true := by
  rw [trm_eq]
  have e1 : tfrm (.tup (.str w :: xs)) = true := by
    show tfm w xs = true
    unfold tfm
    rw [h]
    show (decide (xs.length = rs.length) && ((rs.zip xs).all fun p => fitD p.1 p.2) && (!two w || !same34 xs)) = true
    rw [decide_eq_true hl, List.all_eq_true.mpr hf]
    cases c : two w with
    | false => rfl
    | true => rw [h34 c]; rfl
  have e2 : (tprt (.tup (.str w :: xs))).all trm = true := by
    show (tpt w xs).all trm = true
    unfold tpt
    rw [h]
    refine List.all_eq_true.mpr fun y hy => ?_
    obtain ⟨p, hp, rfl⟩ := List.mem_map.mp hy
    obtain ⟨h1, h2⟩ := List.mem_filter.mp hp
    exact ht p h1 (of_decide_eq_true h2)
  rw [e1, e2]
  rfl
def Kd.isDat : Kd → Bool
  | .opn _ => true
  | .num => true
  | .tru => true
  | .pair a b => a.isDat && b.isDat
  | .eith a b => a.isDat && b.isDat
  | .lst a => a.isDat
  | .fn _ _ => false
def Kd.isFst : Kd → Bool
  | .fn a b => a.isDat && b.isFst
  | k => k.isDat
theorem dat_dt : ∀ {k : Kd}, k.isDat = true → (∀ x ∈ k.opens, Nm x) → dat k.dt = true := by
  intro k
  induction k with
  | opn x => exact fun _ h => dat_opn (nmS_of (h x List.mem_cons_self))
  | num => exact fun _ _ => dat_num
  | tru => exact fun _ _ => dat_tru
  | pair a b i j =>
    intro h n
    obtain ⟨h1, h2⟩ := Bool.and_eq_true_iff.mp h
    exact dat_two (.inl rfl) (i h1 fun x hx => n x (List.mem_append_left _ hx)) (j h2 fun x hx => n x (List.mem_append_right _ hx))
  | eith a b i j =>
    intro h n
    obtain ⟨h1, h2⟩ := Bool.and_eq_true_iff.mp h
    exact dat_two (.inr rfl) (i h1 fun x hx => n x (List.mem_append_left _ hx)) (j h2 fun x hx => n x (List.mem_append_right _ hx))
  | lst a i => exact fun h n => dat_lst (i h n)
  | fn a b => intro h; cases h
theorem ch_dt : ∀ {k : Kd}, k.isFst = true → (∀ x ∈ k.opens, Nm x) → chD dat k.dt = true := by
  intro k
  induction k with
  | fn a b i j =>
    intro h n
    obtain ⟨h1, h2⟩ := Bool.and_eq_true_iff.mp h
    show chD dat (.tup [.str "fun", a.dt, b.dt]) = true
    rw [chD_fn, dat_dt h1 fun x hx => n x (List.mem_append_left _ hx), j h2 fun x hx => n x (List.mem_append_right _ hx)]
    rfl
  | _ => exact fun h n => chD_dat (dat_dt h n)
theorem arg_dt {k : Kd} (h : k.isFst = true) (n : ∀ x ∈ k.opens, Nm x) : argD k.dt = true := arg_ch (ch_dt h n)
/-- a data kind of names -/
def Dk1 (k : Kd) : Prop := k.isDat = true ∧ ∀ x ∈ k.opens, Nm x
def Ak1 (k : Kd) : Prop := k.isFst = true ∧ ∀ x ∈ k.opens, Nm x
/-- terms by their form -/
def Tm.wf : Tm → Prop
  | .name x => Nm x
  | .fn x k b => Nm x ∧ Ak1 k ∧ b.wf
  | .call a b => a.wf ∧ b.wf
  | .num i => 0 ≤ i
  | .plus a b => a.wf ∧ b.wf
  | .less a b => a.wf ∧ b.wf
  | .tru i => True
  | .iff a b c => a.wf ∧ b.wf ∧ c.wf
  | .pair a b => a.wf ∧ b.wf
  | .fst a => a.wf
  | .snd a => a.wf
  | .left a k => a.wf ∧ Dk1 k
  | .right k a => Dk1 k ∧ a.wf
  | .case a x b y c => a.wf ∧ Nm x ∧ b.wf ∧ Nm y ∧ c.wf
  | .none k => Dk1 k
  | .more a b => a.wf ∧ b.wf
  | .fold a b x y c => a.wf ∧ b.wf ∧ Nm x ∧ Nm y ∧ c.wf ∧ x ≠ y
  | .built k o x y b => Dk1 k ∧ Nm o ∧ Nm x ∧ Nm y ∧ b.wf ∧ x ≠ y
  | .alike a b => a.wf ∧ b.wf
  | .fault k => Dk1 k
  | .rounds m a x b => (1 ≤ m ∧ m ≤ 30) ∧ a.wf ∧ Nm x ∧ b.wf
  | .told x fs => Nm x ∧ filD (.tup (fs.map fun p => .tup [.str p.1, p.2.dt])) = true
theorem fit_nm1 {x : Str} (h : Nm x) : fitD "name" (.str x) = true := by
  unfold fitD
  rw [if_pos rfl]
  exact nmS_of h
theorem fit_nu1 {i : Int} (h : 0 ≤ i) : fitD "number" (.int i) = true := by
  unfold fitD
  rw [if_neg (by decide +kernel), if_pos rfl]
  exact decide_eq_true h
theorem fit_tr1 (b : Bool) : fitD "truth" (.bl b) = true := by
  unfold fitD
  rw [if_neg (by decide +kernel), if_neg (by decide +kernel), if_pos rfl]
  rfl
theorem fit_tu1 {i : Int} (h : 1 ≤ i ∧ i ≤ 30) : fitD "turns" (.int i) = true := by
  unfold fitD
  rw [if_neg (by decide +kernel), if_neg (by decide +kernel), if_neg (by decide +kernel), if_pos rfl]
  show (decide ((1 : Int) ≤ i) && decide (i ≤ 30)) = true
  rw [decide_eq_true h.1, decide_eq_true h.2]
  rfl
theorem zip_all {Q : Str × Dt → Prop} : ∀ (rs : List Str) (xs : List Dt), (∀ i : Nat, ∀ r x, rs[i]? = some r → xs[i]? = some x → Q (r, x)) → ∀ p ∈ rs.zip xs, Q p
  | [], _, _, p, h => by simp at h
  | _ :: _, [], _, p, h => by simp at h
  | r :: rs, x :: xs, h, p, hp => by
    rw [List.zip_cons_cons] at hp
    rcases List.mem_cons.mp hp with rfl | hp
    · exact h 0 r x rfl rfl
    · exact zip_all rs xs (fun i r x h1 h2 => h (i + 1) r x h1 h2) p hp
theorem trm_of : ∀ {t : Tm}, t.wf → trm t.dt = true := by
  intro t
  induction t with
  | name x =>
    intro h
    have hx := h
    refine trm_mk (rs := ["name"]) (by decide +kernel) rfl (fun p hp => ?_) (fun p hp e => ?_) (fun e => absurd e (by decide +kernel))
    · simp only [List.zip_cons_cons, List.zip_nil_right, List.mem_cons, List.not_mem_nil, or_false] at hp
      subst hp
      exact fit_nm1 hx
    · simp only [List.zip_cons_cons, List.zip_nil_right, List.mem_cons, List.not_mem_nil, or_false] at hp
      subst hp
      exact absurd (show ("name" : Str) = "term" from e) (by decide +kernel)
  | fn x k b ihb =>
    intro h
    obtain ⟨hx, hk, hb⟩ := h
    refine trm_mk (rs := ["name", "argument", "term"]) (by decide +kernel) rfl (fun p hp => ?_) (fun p hp e => ?_) (fun e => absurd e (by decide +kernel))
    · simp only [List.zip_cons_cons, List.zip_nil_right, List.mem_cons, List.not_mem_nil, or_false] at hp
      rcases hp with rfl | rfl | rfl
      · exact fit_nm1 hx
      · exact (fit_arg _).trans (arg_dt hk.1 hk.2)
      · exact fit_trm _
    · simp only [List.zip_cons_cons, List.zip_nil_right, List.mem_cons, List.not_mem_nil, or_false] at hp
      rcases hp with rfl | rfl | rfl
      · exact absurd (show ("name" : Str) = "term" from e) (by decide +kernel)
      · exact absurd (show ("argument" : Str) = "term" from e) (by decide +kernel)
      · exact ihb hb
  | call a b iha ihb =>
    intro h
    obtain ⟨ha, hb⟩ := h
    refine trm_mk (rs := ["term", "term"]) (by decide +kernel) rfl (fun p hp => ?_) (fun p hp e => ?_) (fun e => absurd e (by decide +kernel))
    · simp only [List.zip_cons_cons, List.zip_nil_right, List.mem_cons, List.not_mem_nil, or_false] at hp
      rcases hp with rfl | rfl
      · exact fit_trm _
      · exact fit_trm _
    · simp only [List.zip_cons_cons, List.zip_nil_right, List.mem_cons, List.not_mem_nil, or_false] at hp
      rcases hp with rfl | rfl
      · exact iha ha
      · exact ihb hb
  | num i =>
    intro h
    have hi := h
    refine trm_mk (rs := ["number"]) (by decide +kernel) rfl (fun p hp => ?_) (fun p hp e => ?_) (fun e => absurd e (by decide +kernel))
    · simp only [List.zip_cons_cons, List.zip_nil_right, List.mem_cons, List.not_mem_nil, or_false] at hp
      subst hp
      exact fit_nu1 hi
    · simp only [List.zip_cons_cons, List.zip_nil_right, List.mem_cons, List.not_mem_nil, or_false] at hp
      subst hp
      exact absurd (show ("number" : Str) = "term" from e) (by decide +kernel)
  | plus a b iha ihb =>
    intro h
    obtain ⟨ha, hb⟩ := h
    refine trm_mk (rs := ["term", "term"]) (by decide +kernel) rfl (fun p hp => ?_) (fun p hp e => ?_) (fun e => absurd e (by decide +kernel))
    · simp only [List.zip_cons_cons, List.zip_nil_right, List.mem_cons, List.not_mem_nil, or_false] at hp
      rcases hp with rfl | rfl
      · exact fit_trm _
      · exact fit_trm _
    · simp only [List.zip_cons_cons, List.zip_nil_right, List.mem_cons, List.not_mem_nil, or_false] at hp
      rcases hp with rfl | rfl
      · exact iha ha
      · exact ihb hb
  | less a b iha ihb =>
    intro h
    obtain ⟨ha, hb⟩ := h
    refine trm_mk (rs := ["term", "term"]) (by decide +kernel) rfl (fun p hp => ?_) (fun p hp e => ?_) (fun e => absurd e (by decide +kernel))
    · simp only [List.zip_cons_cons, List.zip_nil_right, List.mem_cons, List.not_mem_nil, or_false] at hp
      rcases hp with rfl | rfl
      · exact fit_trm _
      · exact fit_trm _
    · simp only [List.zip_cons_cons, List.zip_nil_right, List.mem_cons, List.not_mem_nil, or_false] at hp
      rcases hp with rfl | rfl
      · exact iha ha
      · exact ihb hb
  | tru i =>
    intro h
    refine trm_mk (rs := ["truth"]) (by decide +kernel) rfl (fun p hp => ?_) (fun p hp e => ?_) (fun e => absurd e (by decide +kernel))
    · simp only [List.zip_cons_cons, List.zip_nil_right, List.mem_cons, List.not_mem_nil, or_false] at hp
      subst hp
      exact fit_tr1 _
    · simp only [List.zip_cons_cons, List.zip_nil_right, List.mem_cons, List.not_mem_nil, or_false] at hp
      subst hp
      exact absurd (show ("truth" : Str) = "term" from e) (by decide +kernel)
  | iff a b c iha ihb ihc =>
    intro h
    obtain ⟨ha, hb, hc⟩ := h
    refine trm_mk (rs := ["term", "term", "term"]) (by decide +kernel) rfl (fun p hp => ?_) (fun p hp e => ?_) (fun e => absurd e (by decide +kernel))
    · simp only [List.zip_cons_cons, List.zip_nil_right, List.mem_cons, List.not_mem_nil, or_false] at hp
      rcases hp with rfl | rfl | rfl
      · exact fit_trm _
      · exact fit_trm _
      · exact fit_trm _
    · simp only [List.zip_cons_cons, List.zip_nil_right, List.mem_cons, List.not_mem_nil, or_false] at hp
      rcases hp with rfl | rfl | rfl
      · exact iha ha
      · exact ihb hb
      · exact ihc hc
  | pair a b iha ihb =>
    intro h
    obtain ⟨ha, hb⟩ := h
    refine trm_mk (rs := ["term", "term"]) (by decide +kernel) rfl (fun p hp => ?_) (fun p hp e => ?_) (fun e => absurd e (by decide +kernel))
    · simp only [List.zip_cons_cons, List.zip_nil_right, List.mem_cons, List.not_mem_nil, or_false] at hp
      rcases hp with rfl | rfl
      · exact fit_trm _
      · exact fit_trm _
    · simp only [List.zip_cons_cons, List.zip_nil_right, List.mem_cons, List.not_mem_nil, or_false] at hp
      rcases hp with rfl | rfl
      · exact iha ha
      · exact ihb hb
  | fst a iha =>
    intro h
    have ha := h
    refine trm_mk (rs := ["term"]) (by decide +kernel) rfl (fun p hp => ?_) (fun p hp e => ?_) (fun e => absurd e (by decide +kernel))
    · simp only [List.zip_cons_cons, List.zip_nil_right, List.mem_cons, List.not_mem_nil, or_false] at hp
      subst hp
      exact fit_trm _
    · simp only [List.zip_cons_cons, List.zip_nil_right, List.mem_cons, List.not_mem_nil, or_false] at hp
      subst hp
      exact iha ha
  | snd a iha =>
    intro h
    have ha := h
    refine trm_mk (rs := ["term"]) (by decide +kernel) rfl (fun p hp => ?_) (fun p hp e => ?_) (fun e => absurd e (by decide +kernel))
    · simp only [List.zip_cons_cons, List.zip_nil_right, List.mem_cons, List.not_mem_nil, or_false] at hp
      subst hp
      exact fit_trm _
    · simp only [List.zip_cons_cons, List.zip_nil_right, List.mem_cons, List.not_mem_nil, or_false] at hp
      subst hp
      exact iha ha
  | left a k iha =>
    intro h
    obtain ⟨ha, hk⟩ := h
    refine trm_mk (rs := ["term", "data"]) (by decide +kernel) rfl (fun p hp => ?_) (fun p hp e => ?_) (fun e => absurd e (by decide +kernel))
    · simp only [List.zip_cons_cons, List.zip_nil_right, List.mem_cons, List.not_mem_nil, or_false] at hp
      rcases hp with rfl | rfl
      · exact fit_trm _
      · exact (fit_dat _).trans (dat_dt hk.1 hk.2)
    · simp only [List.zip_cons_cons, List.zip_nil_right, List.mem_cons, List.not_mem_nil, or_false] at hp
      rcases hp with rfl | rfl
      · exact iha ha
      · exact absurd (show ("data" : Str) = "term" from e) (by decide +kernel)
  | right k a iha =>
    intro h
    obtain ⟨hk, ha⟩ := h
    refine trm_mk (rs := ["data", "term"]) (by decide +kernel) rfl (fun p hp => ?_) (fun p hp e => ?_) (fun e => absurd e (by decide +kernel))
    · simp only [List.zip_cons_cons, List.zip_nil_right, List.mem_cons, List.not_mem_nil, or_false] at hp
      rcases hp with rfl | rfl
      · exact (fit_dat _).trans (dat_dt hk.1 hk.2)
      · exact fit_trm _
    · simp only [List.zip_cons_cons, List.zip_nil_right, List.mem_cons, List.not_mem_nil, or_false] at hp
      rcases hp with rfl | rfl
      · exact absurd (show ("data" : Str) = "term" from e) (by decide +kernel)
      · exact iha ha
  | case a x b y c iha ihb ihc =>
    intro h
    obtain ⟨ha, hx, hb, hy, hc⟩ := h
    refine trm_mk (rs := ["term", "name", "term", "name", "term"]) (by decide +kernel) rfl (fun p hp => ?_) (fun p hp e => ?_) (fun e => absurd e (by decide +kernel))
    · simp only [List.zip_cons_cons, List.zip_nil_right, List.mem_cons, List.not_mem_nil, or_false] at hp
      rcases hp with rfl | rfl | rfl | rfl | rfl
      · exact fit_trm _
      · exact fit_nm1 hx
      · exact fit_trm _
      · exact fit_nm1 hy
      · exact fit_trm _
    · simp only [List.zip_cons_cons, List.zip_nil_right, List.mem_cons, List.not_mem_nil, or_false] at hp
      rcases hp with rfl | rfl | rfl | rfl | rfl
      · exact iha ha
      · exact absurd (show ("name" : Str) = "term" from e) (by decide +kernel)
      · exact ihb hb
      · exact absurd (show ("name" : Str) = "term" from e) (by decide +kernel)
      · exact ihc hc
  | none k =>
    intro h
    have hk := h
    refine trm_mk (rs := ["data"]) (by decide +kernel) rfl (fun p hp => ?_) (fun p hp e => ?_) (fun e => absurd e (by decide +kernel))
    · simp only [List.zip_cons_cons, List.zip_nil_right, List.mem_cons, List.not_mem_nil, or_false] at hp
      subst hp
      exact (fit_dat _).trans (dat_dt hk.1 hk.2)
    · simp only [List.zip_cons_cons, List.zip_nil_right, List.mem_cons, List.not_mem_nil, or_false] at hp
      subst hp
      exact absurd (show ("data" : Str) = "term" from e) (by decide +kernel)
  | more a b iha ihb =>
    intro h
    obtain ⟨ha, hb⟩ := h
    refine trm_mk (rs := ["term", "term"]) (by decide +kernel) rfl (fun p hp => ?_) (fun p hp e => ?_) (fun e => absurd e (by decide +kernel))
    · simp only [List.zip_cons_cons, List.zip_nil_right, List.mem_cons, List.not_mem_nil, or_false] at hp
      rcases hp with rfl | rfl
      · exact fit_trm _
      · exact fit_trm _
    · simp only [List.zip_cons_cons, List.zip_nil_right, List.mem_cons, List.not_mem_nil, or_false] at hp
      rcases hp with rfl | rfl
      · exact iha ha
      · exact ihb hb
  | fold a b x y c iha ihb ihc =>
    intro h
    obtain ⟨ha, hb, hx, hy, hc, hne⟩ := h
    refine trm_mk (rs := ["term", "term", "name", "name", "term"]) (by decide +kernel) rfl (fun p hp => ?_) (fun p hp e => ?_) (fun _ => by show decide (x = y) = false; exact decide_eq_false hne)
    · simp only [List.zip_cons_cons, List.zip_nil_right, List.mem_cons, List.not_mem_nil, or_false] at hp
      rcases hp with rfl | rfl | rfl | rfl | rfl
      · exact fit_trm _
      · exact fit_trm _
      · exact fit_nm1 hx
      · exact fit_nm1 hy
      · exact fit_trm _
    · simp only [List.zip_cons_cons, List.zip_nil_right, List.mem_cons, List.not_mem_nil, or_false] at hp
      rcases hp with rfl | rfl | rfl | rfl | rfl
      · exact iha ha
      · exact ihb hb
      · exact absurd (show ("name" : Str) = "term" from e) (by decide +kernel)
      · exact absurd (show ("name" : Str) = "term" from e) (by decide +kernel)
      · exact ihc hc
  | built k o x y b ihb =>
    intro h
    obtain ⟨hk, ho, hx, hy, hb, hne⟩ := h
    refine trm_mk (rs := ["data", "name", "name", "name", "term"]) (by decide +kernel) rfl (fun p hp => ?_) (fun p hp e => ?_) (fun _ => by show decide (x = y) = false; exact decide_eq_false hne)
    · simp only [List.zip_cons_cons, List.zip_nil_right, List.mem_cons, List.not_mem_nil, or_false] at hp
      rcases hp with rfl | rfl | rfl | rfl | rfl
      · exact (fit_dat _).trans (dat_dt hk.1 hk.2)
      · exact fit_nm1 ho
      · exact fit_nm1 hx
      · exact fit_nm1 hy
      · exact fit_trm _
    · simp only [List.zip_cons_cons, List.zip_nil_right, List.mem_cons, List.not_mem_nil, or_false] at hp
      rcases hp with rfl | rfl | rfl | rfl | rfl
      · exact absurd (show ("data" : Str) = "term" from e) (by decide +kernel)
      · exact absurd (show ("name" : Str) = "term" from e) (by decide +kernel)
      · exact absurd (show ("name" : Str) = "term" from e) (by decide +kernel)
      · exact absurd (show ("name" : Str) = "term" from e) (by decide +kernel)
      · exact ihb hb
  | alike a b iha ihb =>
    intro h
    obtain ⟨ha, hb⟩ := h
    refine trm_mk (rs := ["term", "term"]) (by decide +kernel) rfl (fun p hp => ?_) (fun p hp e => ?_) (fun e => absurd e (by decide +kernel))
    · simp only [List.zip_cons_cons, List.zip_nil_right, List.mem_cons, List.not_mem_nil, or_false] at hp
      rcases hp with rfl | rfl
      · exact fit_trm _
      · exact fit_trm _
    · simp only [List.zip_cons_cons, List.zip_nil_right, List.mem_cons, List.not_mem_nil, or_false] at hp
      rcases hp with rfl | rfl
      · exact iha ha
      · exact ihb hb
  | fault k =>
    intro h
    have hk := h
    refine trm_mk (rs := ["data"]) (by decide +kernel) rfl (fun p hp => ?_) (fun p hp e => ?_) (fun e => absurd e (by decide +kernel))
    · simp only [List.zip_cons_cons, List.zip_nil_right, List.mem_cons, List.not_mem_nil, or_false] at hp
      subst hp
      exact (fit_dat _).trans (dat_dt hk.1 hk.2)
    · simp only [List.zip_cons_cons, List.zip_nil_right, List.mem_cons, List.not_mem_nil, or_false] at hp
      subst hp
      exact absurd (show ("data" : Str) = "term" from e) (by decide +kernel)
  | rounds m a x b iha ihb =>
    intro h
    obtain ⟨hm, ha, hx, hb⟩ := h
    refine trm_mk (rs := ["turns", "term", "name", "term"]) (by decide +kernel) rfl (fun p hp => ?_) (fun p hp e => ?_) (fun e => absurd e (by decide +kernel))
    · simp only [List.zip_cons_cons, List.zip_nil_right, List.mem_cons, List.not_mem_nil, or_false] at hp
      rcases hp with rfl | rfl | rfl | rfl
      · exact fit_tu1 hm
      · exact fit_trm _
      · exact fit_nm1 hx
      · exact fit_trm _
    · simp only [List.zip_cons_cons, List.zip_nil_right, List.mem_cons, List.not_mem_nil, or_false] at hp
      rcases hp with rfl | rfl | rfl | rfl
      · exact absurd (show ("turns" : Str) = "term" from e) (by decide +kernel)
      · exact iha ha
      · exact absurd (show ("name" : Str) = "term" from e) (by decide +kernel)
      · exact ihb hb
  | told x fs =>
    intro h
    obtain ⟨hx, hfs⟩ := h
    refine trm_mk (rs := ["name", "fills"]) (by decide +kernel) rfl (fun p hp => ?_) (fun p hp e => ?_) (fun e => absurd e (by decide +kernel))
    · simp only [List.zip_cons_cons, List.zip_nil_right, List.mem_cons, List.not_mem_nil, or_false] at hp
      rcases hp with rfl | rfl
      · exact fit_nm1 hx
      · exact (fit_fil _).trans hfs
    · simp only [List.zip_cons_cons, List.zip_nil_right, List.mem_cons, List.not_mem_nil, or_false] at hp
      rcases hp with rfl | rfl
      · exact absurd (show ("name" : Str) = "term" from e) (by decide +kernel)
      · exact absurd (show ("fills" : Str) = "term" from e) (by decide +kernel)
end Kq

/-! what kind a term has, and that none is great, at once -/
namespace Kq
open PySem PySem.Spec PyProof.Rows L2 Kf Kg Kv Kk Ku
theorem Ek.put_eq (e : Ek) (x : Str) (k : Kd) : (e.put x k) x = some k := if_pos rfl
theorem Ek.put_ne {e : Ek} {x y : Str} {k : Kd} (h : y ≠ x) : (e.put x k) y = e y := if_neg h
/-- small kinds -/
structure Ks1 (NO : List Str) (s d : Nat) (k : Kd) : Prop where
  sz : k.size ≤ s
  dp : k.dp ≤ d
  op : ∀ x ∈ k.opens, x ∈ NO
section
variable {NO NS lk : List Str} {s d s' d' : Nat} {a b k : Kd}
theorem Ks1.fn (h : Ks1 NO s d a) (g : Ks1 NO s' d' b) : Ks1 NO (s + s' + 1) (max d d' + 1) (.fn a b) := ⟨by rw [Kd.size_fn]; have := h.sz; have := g.sz; omega, by rw [Kd.dp]; have := h.dp; have := g.dp; omega, fun x hx => (List.mem_append.mp hx).elim (h.op x) (g.op x)⟩
theorem Ks1.pr (h : Ks1 NO s d a) (g : Ks1 NO s' d' b) : Ks1 NO (s + s' + 1) (max d d' + 1) (.pair a b) := ⟨by rw [Kd.size_pr]; have := h.sz; have := g.sz; omega, by rw [Kd.dp]; have := h.dp; have := g.dp; omega, fun x hx => (List.mem_append.mp hx).elim (h.op x) (g.op x)⟩
theorem Ks1.ei (h : Ks1 NO s d a) (g : Ks1 NO s' d' b) : Ks1 NO (s + s' + 1) (max d d' + 1) (.eith a b) := ⟨by rw [Kd.size_ei]; have := h.sz; have := g.sz; omega, by rw [Kd.dp]; have := h.dp; have := g.dp; omega, fun x hx => (List.mem_append.mp hx).elim (h.op x) (g.op x)⟩
theorem Ks1.ls (h : Ks1 NO s d a) : Ks1 NO (s + 1) (d + 1) (.lst a) := ⟨by rw [Kd.size_ls]; have := h.sz; omega, by rw [Kd.dp]; have := h.dp; omega, h.op⟩
theorem Ks1.num : Ks1 NO 1 0 .num := ⟨by decide, by decide, fun x h => by cases h⟩
theorem Ks1.tru : Ks1 NO 1 0 .tru := ⟨by decide, by decide, fun x h => by cases h⟩
theorem Ks1.opn {x : Str} (h : x ∈ NO) : Ks1 NO 1 0 (.opn x) := ⟨Nat.le_refl _, Nat.le_refl _, fun y hy => by rw [List.mem_singleton.mp hy]; exact h⟩
theorem Ks1.up (h : Ks1 NO s d a) (hs : s ≤ s') (hd : d ≤ d') : Ks1 NO s' d' a := ⟨Nat.le_trans h.sz hs, Nat.le_trans h.dp hd, h.op⟩
theorem Ks1.gk (h : Ks1 NO s d a) (hs : s ≤ 900) (hd : d ≤ 50) : Gk NO a := ⟨Nat.le_trans h.dp hd, Nat.le_trans h.sz hs, h.op⟩
end
def Ck (lk NS NO : List Str) (t : Tm) (e : Ek) (o : Option Kd) : Prop := Sml lk NS NO t e ∧ chk lk t e = o
namespace Ck
variable {lk NS NO : List Str} {e : Ek}
theorem name {x : Str} {o : Option Kd} (h : e x = o) (hx : x.length ≤ 100) : Ck lk NS NO (.name x) e o := ⟨hx, by rw [chk]; exact h⟩
theorem num {i : Int} : Ck lk NS NO (.num i) e (some .num) := ⟨trivial, by rw [chk]⟩
theorem tru {i : Bool} : Ck lk NS NO (.tru i) e (some .tru) := ⟨trivial, by rw [chk]⟩
theorem fault {k : Kd} (h : Gk NO k) : Ck lk NS NO (.fault k) e (some k) := ⟨h, by rw [chk]⟩
theorem fn {x : Str} {k : Kd} {t : Tm} {o : Option Kd} (hx : x ∈ NS) (hk : Gk NO k) (h : Ck lk NS NO t (e.put x k) o) (hg : ∀ r, o = some r → Gk NO (.fn k r)) : Ck lk NS NO (.fn x k t) e (o.map (Kd.fn k)) :=
  ⟨⟨hx, hk, h.1, fun r hr => hg r (by rw [← h.2]; exact hr)⟩, by rw [chk, h.2]⟩
theorem call {a b : Tm} {x r : Kd} (h : Ck lk NS NO a e (some (.fn x r))) (g : Ck lk NS NO b e (some x)) : Ck lk NS NO (.call a b) e (some r) :=
  ⟨⟨h.1, fun _ => g.1⟩, by rw [chk, h.2]; show Option.bind (chk lk b e) _ = _; rw [g.2]; exact if_pos rfl⟩
theorem call0 {a b : Tm} (h : Ck lk NS NO a e none) : Ck lk NS NO (.call a b) e none := ⟨⟨h.1, fun z => absurd (by rw [h.2]; rfl) z⟩, by rw [chk, h.2]; rfl⟩
theorem call1 {a b : Tm} {x r : Kd} (h : Ck lk NS NO a e (some (.fn x r))) (g : Ck lk NS NO b e none) : Ck lk NS NO (.call a b) e none :=
  ⟨⟨h.1, fun _ => g.1⟩, by rw [chk, h.2]; show Option.bind (chk lk b e) _ = _; rw [g.2]; rfl⟩
/-- a fun that is called at once -/
theorem callF {x : Str} {k : Kd} {t a : Tm} {o : Option Kd} (hx : x ∈ NS) (hk : Gk NO k) (g : Ck lk NS NO a e (some k)) (h : Ck lk NS NO t (e.put x k) o) (hg : ∀ r, o = some r → Gk NO (.fn k r)) : Ck lk NS NO (.call (.fn x k t) a) e o := by
  cases o with
  | none => exact call0 (fn hx hk h hg)
  | some r => exact call (fn hx hk h hg) g
theorem fold {a b t : Tm} {x y : Str} {i d : Kd} (hx : x ∈ NS) (hy : y ∈ NS) (h : Ck lk NS NO a e (some (.lst i))) (g : Ck lk NS NO b e (some d)) (hd : d.isFn = false) (f : Ck lk NS NO t ((e.put x i).put y d) (some d)) : Ck lk NS NO (.fold a b x y t) e (some d) := by
  refine ⟨⟨hx, hy, h.1, g.1, fun i' d' h1 h2 => ?_⟩, ?_⟩
  · rw [h.2] at h1
    rw [g.2] at h2
    cases h1
    cases h2
    exact f.1
  · rw [chk, h.2]
    show Option.bind ((chk lk b e).bind Kd.daOf) _ = _
    rw [g.2, show (some d).bind Kd.daOf = some d by show (if d.isFn = true then none else some d) = _; rw [if_neg (by rw [hd]; decide)]]
    show Option.bind (chk lk t ((e.put x i).put y d)) _ = _
    rw [f.2]
    exact if_pos rfl
theorem fold0 {a b t : Tm} {x y : Str} (hx : x ∈ NS) (hy : y ∈ NS) (h : Ck lk NS NO a e none) (g : Sml lk NS NO b e) : Ck lk NS NO (.fold a b x y t) e none :=
  ⟨⟨hx, hy, h.1, g, fun i' d' h1 h2 => by rw [h.2] at h1; cases h1⟩, by rw [chk, h.2]; rfl⟩
abbrev bE (e : Ek) (k : Kd) (o x y : Str) : Ek := (e.put x (.fn k (.fn (.opn o) (.opn o)))).put y (.opn o)
theorem built {k : Kd} {o x y : Str} {t : Tm} (hx : x ∈ NS) (hy : y ∈ NS) (ho : o ∈ NO) (g1 : Gk NO (.lst k)) (g2 : Gk NO (.fn k (.fn (.opn o) (.opn o)))) (nm : ¬ met lk e o k) (h : Ck lk NS NO t (bE e k o x y) (some (.opn o))) : Ck lk NS NO (.built k o x y t) e (some (.lst k)) :=
  ⟨⟨hx, hy, ho, g1, g2, fun _ => h.1⟩, by rw [chk, if_neg nm]; show Option.bind (chk lk t (bE e k o x y)) _ = _; rw [h.2]; exact if_pos rfl⟩
theorem built0 {k : Kd} {o x y : Str} {t : Tm} (hx : x ∈ NS) (hy : y ∈ NS) (ho : o ∈ NO) (g1 : Gk NO (.lst k)) (g2 : Gk NO (.fn k (.fn (.opn o) (.opn o)))) (nm : ¬ met lk e o k) (h : Ck lk NS NO t (bE e k o x y) none) : Ck lk NS NO (.built k o x y t) e none :=
  ⟨⟨hx, hy, ho, g1, g2, fun _ => h.1⟩, by rw [chk, if_neg nm]; show Option.bind (chk lk t (bE e k o x y)) _ = _; rw [h.2]; rfl⟩
theorem builtM {k : Kd} {o x y : Str} {t : Tm} (hx : x ∈ NS) (hy : y ∈ NS) (ho : o ∈ NO) (g1 : Gk NO (.lst k)) (g2 : Gk NO (.fn k (.fn (.opn o) (.opn o)))) (nm : met lk e o k) : Ck lk NS NO (.built k o x y t) e none :=
  ⟨⟨hx, hy, ho, g1, g2, fun z => absurd nm z⟩, by rw [chk, if_pos nm]⟩
end Ck
/-! funs of names, one within the other -/
def funs (fs : List (Str × Kd)) (t : Tm) : Tm := fs.foldr (fun f t => .fn f.1 f.2 t) t
def putAll (e : Ek) (fs : List (Str × Kd)) : Ek := fs.foldl (fun e f => e.put f.1 f.2) e
def due (fs : List (Str × Kd)) (k : Kd) : Kd := fs.foldr (fun f r => .fn f.2 r) k
theorem Ck.funs {lk NS NO : List Str} {t : Tm} {o : Option Kd} : ∀ {fs : List (Str × Kd)} {e : Ek}, (∀ f ∈ fs, f.1 ∈ NS ∧ Gk NO f.2) → Ck lk NS NO t (putAll e fs) o → (∀ r, o = some r → ∀ j, Gk NO (due (fs.drop j) r)) → Ck lk NS NO (Kq.funs fs t) e (o.map (due fs))
  | [], e, _, h, _ => by
    have : o.map (due []) = o := by cases o <;> rfl
    rw [this]
    exact h
  | f :: fs, e, hf, h, hg => by
    have z := Ck.funs (fs := fs) (e := e.put f.1 f.2) (fun g hgm => hf g (List.mem_cons_of_mem _ hgm)) h (fun r hr j => hg r hr (j + 1))
    have w := Ck.fn (hf f List.mem_cons_self).1 (hf f List.mem_cons_self).2 z (fun r hr => by
      obtain ⟨q, hq, rfl⟩ := Option.map_eq_some_iff.mp hr
      exact hg q hq 0)
    have e1 : (o.map (due fs)).map (Kd.fn f.2) = o.map (due (f :: fs)) := by cases o <;> rfl
    rw [e1] at w
    exact w
theorem putAll_mem : ∀ {fs : List (Str × Kd)} {e : Ek} {z : Str} {q : Kd}, putAll e fs z = some q → e z = some q ∨ ∃ f ∈ fs, f.1 = z ∧ f.2 = q
  | [], _, _, _, h => .inl h
  | f :: fs, e, z, q, h => by
    rcases putAll_mem (fs := fs) (e := e.put f.1 f.2) h with h | ⟨g, hg, h1⟩
    · by_cases c : z = f.1
      · rw [c, Ek.put_eq] at h
        exact .inr ⟨f, List.mem_cons_self, c.symm, Option.some.inj h⟩
      · rw [Ek.put_ne c] at h
        exact .inl h
    · exact .inr ⟨g, List.mem_cons_of_mem _ hg, h1⟩
/-! the law's terms -/
def tB (i x y : Str) : Tm := .built .num i x y (.call (.call (.name x) (.num 1)) (.name y))
def tF (k : Kd) (i x y : Str) : Tm := .fold (tB i x y) (.fault k) x y (.name y)
def sec1 (k : Kd) (i x y n : Str) (h : Nat) : Tm := if h = 1 ∨ h = 2 then .call (.fn n .num (tF k i x y)) (.num 2) else tF k i x y
def sec (k : Kd) (i x y c n : Str) (h : Nat) : Tm := if h = 1 ∨ h = 3 then .call (.fn c .tru (sec1 k i x y n h)) (.tru true) else sec1 k i x y n h
def bt (k : Kd) (o c n : Str) (it : Tm) : Tm := .built k o c n (.call (.call (.name c) it) (.name n))
/-- the names of a turn -/
structure Nz (o t c n x y : Str) (NS NO lk : List Str) : Prop where
  nS : c ∈ NS ∧ n ∈ NS ∧ x ∈ NS ∧ y ∈ NS
  nO : o ∈ NO ∧ t ∈ NO
  ls : c.length ≤ 100 ∧ n.length ≤ 100 ∧ x.length ≤ 100 ∧ y.length ≤ 100
  cn : c ≠ n
  xy : x ≠ y
  lk : ∀ z ∈ lk, z = o ∨ z = t
section
variable {o t c n x y i : Str} {NS NO lk : List Str} {k : Kd} {e E : Ek}
theorem ck_tF (N : Nz o t c n x y NS NO lk) (hi : i ∈ NO) (hk : Ks1 NO 10 5 k) (hd : k.isFn = false) : (met lk e i .num → Ck lk NS NO (tF k i x y) e none) ∧ (¬ met lk e i .num → Ck lk NS NO (tF k i x y) e (some k)) := by
  obtain ⟨_, _, hx, hy⟩ := N.nS
  obtain ⟨_, _, lx, ly⟩ := N.ls
  have g1 : Gk NO (.lst .num) := (Ks1.ls Ks1.num).gk (by decide) (by decide)
  have g2 : Gk NO (.fn .num (.fn (.opn i) (.opn i))) := (Ks1.fn Ks1.num (Ks1.fn (Ks1.opn hi) (Ks1.opn hi))).gk (by decide) (by decide)
  have gk := hk.gk (by decide) (by decide)
  refine ⟨fun m => Ck.fold0 hx hy (Ck.builtM hx hy hi g1 g2 m) gk, fun m => ?_⟩
  refine Ck.fold hx hy (Ck.built hx hy hi g1 g2 m (Ck.call (Ck.call (Ck.name ?_ lx) Ck.num) (Ck.name (Ek.put_eq _ _ _) ly))) (Ck.fault gk) hd (Ck.name (Ek.put_eq _ _ _) ly)
  simp only [Ck.bE]
  rw [Ek.put_ne N.xy, Ek.put_eq]
/-- the names of the first built, and what is outside -/
abbrev E1 (E : Ek) (k : Kd) (o c n : Str) : Ek := Ck.bE E k o c n
theorem ck_sec (N : Nz o t c n x y NS NO lk) (hi : i ∈ NO) (hi2 : i = o ∨ (i ≠ o ∧ i ≠ t)) (hk : Ks1 NO 10 5 k) (hko : ∀ z ∈ k.opens, z = o ∨ z = t) (hd : k.isFn = false) (nm : ¬ met lk E o k) (hE : ∀ z q, E z = some q → ∀ w ∈ q.opens, w = o ∨ w = t) {h : Nat} (h3 : h ≤ 3) :
    Ck lk NS NO (sec k i x y c n h) (E1 E k o c n) (if i ≠ o ∨ h = 1 then some k else none) := by
  obtain ⟨hc, hn, hx, hy⟩ := N.nS
  have nlk : i ∉ lk := fun z => by
    rcases hi2 with rfl | ⟨a, b⟩
    · exact nm (.inl z)
    · rcases N.lk _ z with z | z
      · exact a z
      · exact b z
  have nE : ∀ z q, E z = some q → i ∉ q.opens := fun z q hz w => by
    rcases hi2 with rfl | ⟨a, b⟩
    · exact nm (.inr (.inr ⟨z, q, hz, w⟩))
    · rcases hE z q hz _ w with w | w
      · exact a w
      · exact b w
  have gF1 : ∀ r, (if i ≠ o ∨ h = 1 then some k else none) = some r → Gk NO (.fn .num r) ∧ Gk NO (.fn .tru r) := fun r hr => by
    obtain ⟨_, rfl⟩ := if_eq hr
    exact ⟨(Ks1.fn Ks1.num hk).gk (by decide) (by decide), (Ks1.fn Ks1.tru hk).gk (by decide) (by decide)⟩
  have base : ∀ e : Ek, (met lk e i .num ↔ ¬ (i ≠ o ∨ h = 1)) → Ck lk NS NO (tF k i x y) e (if i ≠ o ∨ h = 1 then some k else none) := fun e he => by
    obtain ⟨a, b⟩ := ck_tF (e := e) N hi hk hd
    by_cases c1 : i ≠ o ∨ h = 1
    · rw [if_pos c1]
      exact b fun z => he.mp z c1
    · rw [if_neg c1]
      exact a (he.mpr c1)
  -- whether the second built's own name is met
  have mt : ∀ e : Ek, met lk e i .num ↔ ∃ z q, e z = some q ∧ i ∈ q.opens := fun e => by
    constructor
    · rintro (z | z | z)
      · exact absurd z nlk
      · cases z
      · exact z
    · exact fun z => .inr (.inr z)
  have inF : ∀ w ∈ (Kd.fn k (.fn (.opn o) (.opn o))).opens, w = o ∨ w = t := fun w hw => by
    rcases List.mem_append.mp hw with hw | hw
    · exact hko w hw
    · rcases List.mem_append.mp hw with hw | hw
      · exact .inl (List.mem_singleton.mp hw)
      · exact .inl (List.mem_singleton.mp hw)
  have oF : o ∈ (Kd.fn k (.fn (.opn o) (.opn o))).opens := List.mem_append_right _ (List.mem_append_left _ List.mem_cons_self)
  have ni : i ≠ o → i ≠ t := fun z => by
    rcases hi2 with w | ⟨_, w⟩
    · exact absurd w z
    · exact w
  have kk : Ks1 NO 10 5 k := hk
  match h, h3 with
  | 0, _ =>
    show Ck lk NS NO (tF k i x y) _ _
    refine base _ ((mt _).trans ⟨?_, fun z => ?_⟩)
    · rintro ⟨z, q, hz, w⟩ g
      simp only [E1, Ck.bE] at hz
      have g : i ≠ o := g.resolve_right (by decide)
      by_cases c1 : z = n
      · rw [c1, Ek.put_eq] at hz
        cases hz
        exact g (List.mem_singleton.mp w)
      · rw [Ek.put_ne c1] at hz
        by_cases c2 : z = c
        · rw [c2, Ek.put_eq] at hz
          cases hz
          rcases inF _ w with w | w
          · exact g w
          · exact ni g w
        · rw [Ek.put_ne c2] at hz
          exact nE z q hz w
    · have e : i = o := Classical.byContradiction fun w => z (.inl w)
      exact ⟨n, .opn o, by simp only [E1, Ck.bE]; exact Ek.put_eq _ _ _, by rw [e]; exact List.mem_cons_self⟩
  | 1, _ =>
    show Ck lk NS NO (.call (.fn c .tru (.call (.fn n .num (tF k i x y)) (.num 2))) (.tru true)) _ _
    refine Ck.callF hc Gk.tru Ck.tru (Ck.callF hn Gk.num Ck.num (base _ ((mt _).trans ⟨?_, fun z => absurd (.inr rfl) z⟩)) (fun r hr => (gF1 r hr).1)) (fun r hr => (gF1 r hr).2)
    rintro ⟨z, q, hz, w⟩
    exfalso
    simp only [E1, Ck.bE] at hz
    by_cases c1 : z = n
    · rw [c1, Ek.put_eq] at hz
      cases hz
      cases w
    · rw [Ek.put_ne c1] at hz
      by_cases c2 : z = c
      · rw [c2, Ek.put_eq] at hz
        cases hz
        cases w
      · rw [Ek.put_ne c2, Ek.put_ne c1, Ek.put_ne c2] at hz
        exact nE z q hz w
  | 2, _ =>
    show Ck lk NS NO (.call (.fn n .num (tF k i x y)) (.num 2)) _ _
    refine Ck.callF hn Gk.num Ck.num (base _ ((mt _).trans ⟨?_, fun z => ?_⟩)) (fun r hr => (gF1 r hr).1)
    · rintro ⟨z, q, hz, w⟩ g
      simp only [E1, Ck.bE] at hz
      have g : i ≠ o := g.resolve_right (by decide)
      by_cases c1 : z = n
      · rw [c1, Ek.put_eq] at hz
        cases hz
        cases w
      · rw [Ek.put_ne c1, Ek.put_ne c1] at hz
        by_cases c2 : z = c
        · rw [c2, Ek.put_eq] at hz
          cases hz
          rcases inF _ w with w | w
          · exact g w
          · exact ni g w
        · rw [Ek.put_ne c2] at hz
          exact nE z q hz w
    · have e : i = o := Classical.byContradiction fun w => z (.inl w)
      refine ⟨c, _, ?_, by rw [e]; exact oF⟩
      simp only [E1, Ck.bE]
      rw [Ek.put_ne N.cn, Ek.put_ne N.cn, Ek.put_eq]
  | 3, _ =>
    show Ck lk NS NO (.call (.fn c .tru (tF k i x y)) (.tru true)) _ _
    refine Ck.callF hc Gk.tru Ck.tru (base _ ((mt _).trans ⟨?_, fun z => ?_⟩)) (fun r hr => (gF1 r hr).2)
    · rintro ⟨z, q, hz, w⟩ g
      simp only [E1, Ck.bE] at hz
      have g : i ≠ o := g.resolve_right (by decide)
      by_cases c2 : z = c
      · rw [c2, Ek.put_eq] at hz
        cases hz
        cases w
      · rw [Ek.put_ne c2] at hz
        by_cases c1 : z = n
        · rw [c1, Ek.put_eq] at hz
          cases hz
          exact g (List.mem_singleton.mp w)
        · rw [Ek.put_ne c1, Ek.put_ne c2] at hz
          exact nE z q hz w
    · have e : i = o := Classical.byContradiction fun w => z (.inl w)
      refine ⟨n, .opn o, ?_, by rw [e]; exact List.mem_cons_self⟩
      simp only [E1, Ck.bE]
      rw [Ek.put_ne (Ne.symm N.cn), Ek.put_eq]
/-- the first built, with an item -/
theorem ck_bt (N : Nz o t c n x y NS NO lk) {it : Tm} (hk : Ks1 NO 10 5 k) {g : Bool} (hit : ¬ met lk E o k → Ck lk NS NO it (E1 E k o c n) (if g = true then some k else none)) :
    (met lk E o k ∨ g = false → Ck lk NS NO (bt k o c n it) E none) ∧ (¬ met lk E o k → g = true → Ck lk NS NO (bt k o c n it) E (some (.lst k))) := by
  obtain ⟨hc, hn, _, _⟩ := N.nS
  obtain ⟨lc, ln, _, _⟩ := N.ls
  have ho := N.nO.1
  have g1 : Gk NO (.lst k) := hk.ls.gk (by decide) (by decide)
  have g2 : Gk NO (.fn k (.fn (.opn o) (.opn o))) := (Ks1.fn hk (Ks1.fn (Ks1.opn ho) (Ks1.opn ho))).gk (by decide) (by decide)
  have nc : Ck lk NS NO (.name c) (E1 E k o c n) (some (.fn k (.fn (.opn o) (.opn o)))) := Ck.name (by simp only [E1, Ck.bE]; rw [Ek.put_ne N.cn, Ek.put_eq]) lc
  have nn : Ck lk NS NO (.name n) (E1 E k o c n) (some (.opn o)) := Ck.name (Ek.put_eq _ _ _) ln
  refine ⟨fun z => ?_, fun z hg => ?_⟩
  · by_cases m : met lk E o k
    · exact Ck.builtM hc hn ho g1 g2 m
    · have hg := z.resolve_left m
      have w := hit m
      rw [hg] at w
      exact Ck.built0 hc hn ho g1 g2 m (Ck.call0 (Ck.call1 nc w))
  · have w := hit z
    rw [hg] at w
    exact Ck.built hc hn ho g1 g2 z (Ck.call (Ck.call nc w) nn)
end
end Kq

/-! bindings -/
namespace Kq
open PySem PySem.Spec PyProof.Rows L2 Kf Kg Kv Kk Ku
@[elab_as_elim] theorem tupG {H : Hp} {p : Addr} {vs : List V} {ds : List Dt} {motive : Hp → Prop} (np : H p = none) (dl : DdL Non H ds vs) (q : ∀ G, Same H G → Dd Non G (.tup ds) (.ref p) → motive G) : motive (upd H p (.tup vs)) := q _ (newS np) (.tup upd_same (dl.same (newS np)))
@[elab_as_elim] theorem objG {H : Hp} {p : Addr} {o : HO} {motive : Hp → Prop} (np : H p = none) (q : ∀ G, Same H G → G p = some o → motive G) : motive (upd H p o) := q _ (newS np) upd_same
@[elab_as_elim] theorem lstG {H : Hp} {p : Addr} {vs : List V} {motive : Hp → Prop} (np : H p = none) (q : ∀ G, Same H G → G p = some (.lst vs) → motive G) : motive (upd H p (.lst vs)) := q _ (newS np) upd_same
theorem Paired.appP {α' β' : Type} {R : α' → β' → Prop} {xs us : List α'} {ys vs : List β'} (h : Paired R xs ys) (k : Paired R us vs) : Paired R (xs ++ us) (ys ++ vs) := by
  induction h with
  | nil => exact k
  | cons h t ih => exact .cons h ih
theorem Paired.split {α' β' : Type} {R : α' → β' → Prop} : ∀ {xs us : List α'} {ys : List β'}, Paired R (xs ++ us) ys → Paired R xs (ys.take xs.length) ∧ Paired R us (ys.drop xs.length)
  | [], us, ys, h => ⟨.nil, h⟩
  | x :: xs, us, _, .cons h t => by
    obtain ⟨a, b⟩ := Paired.split t
    exact ⟨.cons h a, b⟩
theorem Paired.atP {α' β' : Type} {R : α' → β' → Prop} : ∀ {xs : List α'} {ys : List β'} {i : Nat} {y : β'}, Paired R xs ys → ys[i]? = some y → ∃ x, xs[i]? = some x ∧ R x y
  | _, _, i, y, .nil, e => by simp at e
  | _, _, 0, y, .cons (a := a) (b := b) h t, e => ⟨a, rfl, by rw [← show b = y from Option.some.inj e]; exact h⟩
  | _, _, i + 1, y, .cons h t, e => Paired.atP (i := i) t e
theorem slLK {X : Cx} (K : PySem.W.Frag) (h : X.K = K) : SlR X (rSlL K) := slK K h
theorem Kn.tk {H G : Hp} (k : Tk H G) : Kv.Kn Non H G := ⟨k, fun _ _ n _ => n.elim, fun _ _ n _ => n.elim⟩
theorem _root_.Kg.TbS.kp {T : List Addr} {H G : Hp} {d c : Addr} (t : TbS T H) (k : Kp d c H G) (dk : Dk H d c) : TbS T G := fun p hp => by
  obtain ⟨ps, h1, h2⟩ := t p hp
  obtain ⟨_, ⟨a, b, e⟩, ⟨ns, f, _⟩⟩ := dk
  exact ⟨ps, k p _ (fun z => by rw [z, e] at h1; cases h1) (fun z => by rw [z, f] at h1; cases h1) h1, h2⟩
theorem Dk.sm {T : List Addr} {H G : Hp} {d c : Addr} (dk : Dk H d c) (m : Sm T H G) (t : TbS T H) : Dk G d c := by
  obtain ⟨n, ⟨a, b, e⟩, ⟨ns, f, l⟩⟩ := dk
  exact ⟨n, ⟨a, b, m.at t e (fun ps z => by cases z)⟩, ⟨ns, m.at t f (fun ps z => by cases z), l⟩⟩
/-- one of these kinds -/
theorem pickK {G : Hp} : ∀ {ks : List Kd} {us : List V} {v : V}, DdL Non G (ks.map Kd.dt) us → v ∈ us → ∃ k ∈ ks, Dd Non G k.dt v
  | [], _, v, h, hv => by cases h; cases hv
  | k :: ks, _, v, h, hv => by
    cases h with
    | cons h1 h2 =>
      rcases List.mem_cons.mp hv with rfl | hv
      · exact ⟨k, List.mem_cons_self, h1⟩
      · obtain ⟨k2, m, d⟩ := pickK h2 hv
        exact ⟨k2, List.mem_cons_of_mem _ m, d⟩
def kinds11 (o t : Str) : List Kd := [.num, .opn o, .lst (.opn o), .fn (.opn o) .tru, .opn t, .pair .num (.opn o), .tru, .eith (.opn t) .num, .lst .num, .fn .num (.opn t), .fn .num (.opn o)]
/-- a name with its kind -/
def PRd (G : Hp) (f : Str × Kd) (u : V) : Prop := ∃ (q : Addr) (v : V), u = .ref q ∧ G q = some (.tup [.str f.1, v]) ∧ Dd Non G f.2.dt v
theorem PRd.tk {G F : Hp} {f : Str × Kd} {u : V} (h : PRd G f u) (k : Tk G F) : PRd F f u := by
  obtain ⟨q, v, e, g, d⟩ := h
  exact ⟨q, v, e, k _ _ g, d.kn (Kn.tk k)⟩
section
variable {P : Program} {w : World} {K : PySem.W.Frag} {mg : Str → Option Value} {base : Heap} {NS NO lk : List Str} {cN : Addr}
abbrev tBind : Stmt := tp 87
abbrev nBind : List Str := ["_law_deck_here", "_law_own", "_law_other", "_law_names_here", "_law_one", "_law_some", "_law_k"]
abbrev psBind : List Str := ["_law_deck_here", "_law_own", "_law_other", "_law_names_here"]
theorem scBind : FnScope nBind psBind (defScope tBind) := ⟨rfl, rfl, rfl, by decide +kernel, rfl, by decide +kernel, by decide +kernel⟩
def spBind : Sp := fun vs H Q _ => ∃ (d c l : Addr) (o t n0 n1 : Str) (rest : List V), vs = [.ref d, .str o, .str t, .ref l] ∧ Dk H d c ∧ H l = some (.lst (.str n0 :: .str n1 :: rest)) ∧ l ≠ d ∧ l ≠ c ∧ ∀ (p : Addr) (us : List V) (fs : List (Str × Kd)) (G : Hp), Kp d c H G → Dk G d c → p ≠ d ∧ p ≠ c → G p = some (.lst us) → Paired (PRd G) fs us → fs.length ≤ 3 → (∀ f ∈ fs, (f.1 = n0 ∨ f.1 = n1) ∧ f.2 ∈ kinds11 o t) → Q (.ref p) G
theorem okBind {f : Addr} {fd : FuncData} {k : Nat} (F : Fun K "_law_bindings" "_law_bindings" tBind f fd)
    (DD : Okd P w K mg base CX0 (k) "_law_draw" ["_law_deck_here", "_law_most"] spDraw)
    (DP : Okd P w K mg base CX0 (k) "_law_pick" ["_law_deck_here", "_law_some"] spPick)
    (m_range : mg "range" = none) : FnOk P w K mg base CX0 (k + 1) f fd psBind spBind := by
  obtain ⟨fD, fdD, GD, bD, gD, kD⟩ := DD
  obtain ⟨fP, fdP, GP, bP, gP, kP⟩ := DP
  refine F.ok scBind (fun vs H Q E h => ?_) (fun cdv A outer s H vs Q E hr h => ?_)
  · obtain ⟨d, c, l, o, t, n0, n1, rest, rfl, _⟩ := h
    rfl
  obtain ⟨d, c, l, o, t, n0, n1, rest, rfl, dk, gl, old, olc, q⟩ := h
  refine ⟨_, pss_cons (ps_set (i := 4) scBind.nd rfl (.inl rfl) (pe_tup (pa_cons pe_str (pa_cons (pv 1) pa_nil))))
    (pss_cons (ps_set (i := 5) scBind.nd rfl (.inr rfl) (pe_lst (pa_cons (pe_tup (pa_cons pe_str pa_nil)) (pa_cons (pv 4) (pa_cons (pe_tup (pa_cons pe_str (pa_cons (pv 4) pa_nil))) (pa_cons (pe_tup (pa_cons pe_str (pa_cons (pv 4) (pa_cons (pe_tup (pa_cons pe_str pa_nil)) pa_nil)))) (pa_cons (pe_tup (pa_cons pe_str (pa_cons (pv 2) pa_nil))) (pa_cons (pe_tup (pa_cons pe_str (pa_cons (pe_tup (pa_cons pe_str pa_nil)) (pa_cons (pv 4) pa_nil)))) pa_nil))))))))
    (pss_cons (ps_set (i := 5) scBind.nd rfl (.inr rfl) (pe_op op_cat (pv 5) (pe_lst (pa_cons (pe_tup (pa_cons pe_str pa_nil)) (pa_cons (pe_tup (pa_cons pe_str (pa_cons (pe_tup (pa_cons pe_str (pa_cons (pv 2) pa_nil))) (pa_cons (pe_tup (pa_cons pe_str pa_nil)) pa_nil)))) (pa_cons (pe_tup (pa_cons pe_str (pa_cons (pe_tup (pa_cons pe_str pa_nil)) pa_nil))) pa_nil))))))
    (pss_cons (ps_set (i := 5) scBind.nd rfl (.inr rfl) (pe_op op_cat (pv 5) (pe_lst (pa_cons (pe_tup (pa_cons pe_str (pa_cons (pe_tup (pa_cons pe_str pa_nil)) (pa_cons (pe_tup (pa_cons pe_str (pa_cons (pv 2) pa_nil))) pa_nil)))) (pa_cons (pe_tup (pa_cons pe_str (pa_cons (pe_tup (pa_cons pe_str pa_nil)) (pa_cons (pv 4) pa_nil)))) pa_nil)))))
    (pss_one (ps_ret (pe_lc (own := [("_law_k", 6)]) (g := gName 6) (by rfl) scBind.nd (pi_range1 (by rfl) m_range (pa_cons (pe_call GD hr (by rfl) gD kD bD .nil pass0 (pa_cons (pv 0) (pa_cons pe_int pa_nil))) pa_nil)) (blkOk_by (own := [("_law_k", 6)]) (N := nBind) (sc := defScope tBind) (by decide +kernel)) (fun _ _ _ _ _ => (pg_name (i := 6) scBind.nd rfl (.inl rfl))) (fun _ _ _ _ _ => pts_nil) (fun _ _ _ _ _ => (pe_tup (pa_cons (pe_call GP hr (by rfl) gP kP bP .nil pass0 (pa_cons (pv 0) (pa_cons (pe_slice (slLK K rfl) (pv 3) po_none (po_some pe_int)) pa_nil))) (pa_cons (pe_call GP hr (by rfl) gP kP bP .nil pass0 (pa_cons (pv 0) (pa_cons (pv 5) pa_nil))) pa_nil)))))))))), ?_⟩
  have ol : l ≠ d ∧ l ≠ c := ⟨old, olc⟩
  have kp : Kp d c H H := Kp.rfl
  refine ⟨_, rfl, (by show 2 ≤ sizeLine; decide), fun pr1 nr1 => tupG nr1 (.cons (.str _) (.cons (.str _) .nil)) fun Gr1 sr1 dr1 => ?_⟩
  have dr1 : Dd Non Gr1 (Kd.opn (o)).dt (.ref pr1) := dr1
  have dk := dk.same sr1
  have kp := kp.trans (.of sr1)
  have gl := sr1 _ _ gl
  refine ⟨(by show 1 ≤ sizeLine; decide), fun pr2 nr2 => tupG nr2 (.cons (.str _) .nil) fun Gr2 sr2 dr2 => ?_⟩
  have dr2 : Dd Non Gr2 (Kd.num).dt (.ref pr2) := dr2
  have dk := dk.same sr2
  have kp := kp.trans (.of sr2)
  have gl := sr2 _ _ gl
  have dr1 := dr1.same sr2
  refine ⟨_, rfl, _, rfl, (by show 2 ≤ sizeLine; decide), fun pr3 nr3 => tupG nr3 (.cons (.str _) (.cons dr1 .nil)) fun Gr3 sr3 dr3 => ?_⟩
  have dr3 : Dd Non Gr3 (Kd.lst (Kd.opn (o))).dt (.ref pr3) := dr3
  have dk := dk.same sr3
  have kp := kp.trans (.of sr3)
  have gl := sr3 _ _ gl
  have dr1 := dr1.same sr3
  have dr2 := dr2.same sr3
  refine ⟨_, rfl, (by show 1 ≤ sizeLine; decide), fun pr4 nr4 => tupG nr4 (.cons (.str _) .nil) fun Gr4 sr4 dr4 => ?_⟩
  have dr4 : Dd Non Gr4 (Kd.tru).dt (.ref pr4) := dr4
  have dk := dk.same sr4
  have kp := kp.trans (.of sr4)
  have gl := sr4 _ _ gl
  have dr1 := dr1.same sr4
  have dr2 := dr2.same sr4
  have dr3 := dr3.same sr4
  refine ⟨(by show 3 ≤ sizeLine; decide), fun pr5 nr5 => tupG nr5 (.cons (.str _) (.cons dr1 (.cons dr4 .nil))) fun Gr5 sr5 dr5 => ?_⟩
  have dr5 : Dd Non Gr5 (Kd.fn (Kd.opn (o)) (Kd.tru)).dt (.ref pr5) := dr5
  have dk := dk.same sr5
  have kp := kp.trans (.of sr5)
  have gl := sr5 _ _ gl
  have dr1 := dr1.same sr5
  have dr2 := dr2.same sr5
  have dr3 := dr3.same sr5
  have dr4 := dr4.same sr5
  refine ⟨_, rfl, (by show 2 ≤ sizeLine; decide), fun pr6 nr6 => tupG nr6 (.cons (.str _) (.cons (.str _) .nil)) fun Gr6 sr6 dr6 => ?_⟩
  have dr6 : Dd Non Gr6 (Kd.opn (t)).dt (.ref pr6) := dr6
  have dk := dk.same sr6
  have kp := kp.trans (.of sr6)
  have gl := sr6 _ _ gl
  have dr1 := dr1.same sr6
  have dr2 := dr2.same sr6
  have dr3 := dr3.same sr6
  have dr4 := dr4.same sr6
  have dr5 := dr5.same sr6
  refine ⟨(by show 1 ≤ sizeLine; decide), fun pr7 nr7 => tupG nr7 (.cons (.str _) .nil) fun Gr7 sr7 dr7 => ?_⟩
  have dr7 : Dd Non Gr7 (Kd.num).dt (.ref pr7) := dr7
  have dk := dk.same sr7
  have kp := kp.trans (.of sr7)
  have gl := sr7 _ _ gl
  have dr1 := dr1.same sr7
  have dr2 := dr2.same sr7
  have dr3 := dr3.same sr7
  have dr4 := dr4.same sr7
  have dr5 := dr5.same sr7
  have dr6 := dr6.same sr7
  refine ⟨_, rfl, (by show 3 ≤ sizeLine; decide), fun pr8 nr8 => tupG nr8 (.cons (.str _) (.cons dr7 (.cons dr1 .nil))) fun Gr8 sr8 dr8 => ?_⟩
  have dr8 : Dd Non Gr8 (Kd.pair (Kd.num) (Kd.opn (o))).dt (.ref pr8) := dr8
  have dk := dk.same sr8
  have kp := kp.trans (.of sr8)
  have gl := sr8 _ _ gl
  have dr1 := dr1.same sr8
  have dr2 := dr2.same sr8
  have dr3 := dr3.same sr8
  have dr4 := dr4.same sr8
  have dr5 := dr5.same sr8
  have dr6 := dr6.same sr8
  have dr7 := dr7.same sr8
  refine ⟨(by show 6 ≤ sizeLine; decide), fun pr9 nr9 => ?_⟩
  have or9 := dk.off nr9
  refine lstG nr9 fun Gr9 sr9 gr9 => ?_
  have gr9 : Gr9 pr9 = some (.lst [.ref pr2, .ref pr1, .ref pr3, .ref pr5, .ref pr6, .ref pr8]) := gr9
  have dk := dk.same sr9
  have kp := kp.trans (.of sr9)
  have gl := sr9 _ _ gl
  have dr1 := dr1.same sr9
  have dr2 := dr2.same sr9
  have dr3 := dr3.same sr9
  have dr4 := dr4.same sr9
  have dr5 := dr5.same sr9
  have dr6 := dr6.same sr9
  have dr7 := dr7.same sr9
  have dr8 := dr8.same sr9
  refine ⟨_, rfl, (by show 1 ≤ sizeLine; decide), fun pr10 nr10 => tupG nr10 (.cons (.str _) .nil) fun Gr10 sr10 dr10 => ?_⟩
  have dr10 : Dd Non Gr10 (Kd.tru).dt (.ref pr10) := dr10
  have dk := dk.same sr10
  have kp := kp.trans (.of sr10)
  have gl := sr10 _ _ gl
  have dr1 := dr1.same sr10
  have dr2 := dr2.same sr10
  have dr3 := dr3.same sr10
  have dr4 := dr4.same sr10
  have dr5 := dr5.same sr10
  have dr6 := dr6.same sr10
  have dr7 := dr7.same sr10
  have dr8 := dr8.same sr10
  have gr9 := sr10 _ _ gr9
  refine ⟨_, rfl, (by show 2 ≤ sizeLine; decide), fun pr11 nr11 => tupG nr11 (.cons (.str _) (.cons (.str _) .nil)) fun Gr11 sr11 dr11 => ?_⟩
  have dr11 : Dd Non Gr11 (Kd.opn (t)).dt (.ref pr11) := dr11
  have dk := dk.same sr11
  have kp := kp.trans (.of sr11)
  have gl := sr11 _ _ gl
  have dr1 := dr1.same sr11
  have dr2 := dr2.same sr11
  have dr3 := dr3.same sr11
  have dr4 := dr4.same sr11
  have dr5 := dr5.same sr11
  have dr6 := dr6.same sr11
  have dr7 := dr7.same sr11
  have dr8 := dr8.same sr11
  have gr9 := sr11 _ _ gr9
  have dr10 := dr10.same sr11
  refine ⟨(by show 1 ≤ sizeLine; decide), fun pr12 nr12 => tupG nr12 (.cons (.str _) .nil) fun Gr12 sr12 dr12 => ?_⟩
  have dr12 : Dd Non Gr12 (Kd.num).dt (.ref pr12) := dr12
  have dk := dk.same sr12
  have kp := kp.trans (.of sr12)
  have gl := sr12 _ _ gl
  have dr1 := dr1.same sr12
  have dr2 := dr2.same sr12
  have dr3 := dr3.same sr12
  have dr4 := dr4.same sr12
  have dr5 := dr5.same sr12
  have dr6 := dr6.same sr12
  have dr7 := dr7.same sr12
  have dr8 := dr8.same sr12
  have gr9 := sr12 _ _ gr9
  have dr10 := dr10.same sr12
  have dr11 := dr11.same sr12
  refine ⟨(by show 3 ≤ sizeLine; decide), fun pr13 nr13 => tupG nr13 (.cons (.str _) (.cons dr11 (.cons dr12 .nil))) fun Gr13 sr13 dr13 => ?_⟩
  have dr13 : Dd Non Gr13 (Kd.eith (Kd.opn (t)) (Kd.num)).dt (.ref pr13) := dr13
  have dk := dk.same sr13
  have kp := kp.trans (.of sr13)
  have gl := sr13 _ _ gl
  have dr1 := dr1.same sr13
  have dr2 := dr2.same sr13
  have dr3 := dr3.same sr13
  have dr4 := dr4.same sr13
  have dr5 := dr5.same sr13
  have dr6 := dr6.same sr13
  have dr7 := dr7.same sr13
  have dr8 := dr8.same sr13
  have gr9 := sr13 _ _ gr9
  have dr10 := dr10.same sr13
  have dr11 := dr11.same sr13
  have dr12 := dr12.same sr13
  refine ⟨(by show 1 ≤ sizeLine; decide), fun pr14 nr14 => tupG nr14 (.cons (.str _) .nil) fun Gr14 sr14 dr14 => ?_⟩
  have dr14 : Dd Non Gr14 (Kd.num).dt (.ref pr14) := dr14
  have dk := dk.same sr14
  have kp := kp.trans (.of sr14)
  have gl := sr14 _ _ gl
  have dr1 := dr1.same sr14
  have dr2 := dr2.same sr14
  have dr3 := dr3.same sr14
  have dr4 := dr4.same sr14
  have dr5 := dr5.same sr14
  have dr6 := dr6.same sr14
  have dr7 := dr7.same sr14
  have dr8 := dr8.same sr14
  have gr9 := sr14 _ _ gr9
  have dr10 := dr10.same sr14
  have dr11 := dr11.same sr14
  have dr12 := dr12.same sr14
  have dr13 := dr13.same sr14
  refine ⟨(by show 2 ≤ sizeLine; decide), fun pr15 nr15 => tupG nr15 (.cons (.str _) (.cons dr14 .nil)) fun Gr15 sr15 dr15 => ?_⟩
  have dr15 : Dd Non Gr15 (Kd.lst (Kd.num)).dt (.ref pr15) := dr15
  have dk := dk.same sr15
  have kp := kp.trans (.of sr15)
  have gl := sr15 _ _ gl
  have dr1 := dr1.same sr15
  have dr2 := dr2.same sr15
  have dr3 := dr3.same sr15
  have dr4 := dr4.same sr15
  have dr5 := dr5.same sr15
  have dr6 := dr6.same sr15
  have dr7 := dr7.same sr15
  have dr8 := dr8.same sr15
  have gr9 := sr15 _ _ gr9
  have dr10 := dr10.same sr15
  have dr11 := dr11.same sr15
  have dr12 := dr12.same sr15
  have dr13 := dr13.same sr15
  have dr14 := dr14.same sr15
  refine ⟨(by show 3 ≤ sizeLine; decide), fun pr16 nr16 => ?_⟩
  have or16 := dk.off nr16
  refine lstG nr16 fun Gr16 sr16 gr16 => ?_
  have gr16 : Gr16 pr16 = some (.lst [.ref pr10, .ref pr13, .ref pr15]) := gr16
  have dk := dk.same sr16
  have kp := kp.trans (.of sr16)
  have gl := sr16 _ _ gl
  have dr1 := dr1.same sr16
  have dr2 := dr2.same sr16
  have dr3 := dr3.same sr16
  have dr4 := dr4.same sr16
  have dr5 := dr5.same sr16
  have dr6 := dr6.same sr16
  have dr7 := dr7.same sr16
  have dr8 := dr8.same sr16
  have gr9 := sr16 _ _ gr9
  have dr10 := dr10.same sr16
  have dr11 := dr11.same sr16
  have dr12 := dr12.same sr16
  have dr13 := dr13.same sr16
  have dr14 := dr14.same sr16
  have dr15 := dr15.same sr16
  refine ⟨_, _, _, _, rfl, rfl, gr9, gr16, (by show 9 ≤ sizeLine; decide), fun pr17 nr17 => ?_⟩
  have or17 := dk.off nr17
  refine lstG nr17 fun Gr17 sr17 gr17 => ?_
  have gr17 : Gr17 pr17 = some (.lst [.ref pr2, .ref pr1, .ref pr3, .ref pr5, .ref pr6, .ref pr8, .ref pr10, .ref pr13, .ref pr15]) := gr17
  have dk := dk.same sr17
  have kp := kp.trans (.of sr17)
  have gl := sr17 _ _ gl
  have dr1 := dr1.same sr17
  have dr2 := dr2.same sr17
  have dr3 := dr3.same sr17
  have dr4 := dr4.same sr17
  have dr5 := dr5.same sr17
  have dr6 := dr6.same sr17
  have dr7 := dr7.same sr17
  have dr8 := dr8.same sr17
  have gr9 := sr17 _ _ gr9
  have dr10 := dr10.same sr17
  have dr11 := dr11.same sr17
  have dr12 := dr12.same sr17
  have dr13 := dr13.same sr17
  have dr14 := dr14.same sr17
  have dr15 := dr15.same sr17
  have gr16 := sr17 _ _ gr16
  refine ⟨_, rfl, (by show 1 ≤ sizeLine; decide), fun pr18 nr18 => tupG nr18 (.cons (.str _) .nil) fun Gr18 sr18 dr18 => ?_⟩
  have dr18 : Dd Non Gr18 (Kd.num).dt (.ref pr18) := dr18
  have dk := dk.same sr18
  have kp := kp.trans (.of sr18)
  have gl := sr18 _ _ gl
  have dr1 := dr1.same sr18
  have dr2 := dr2.same sr18
  have dr3 := dr3.same sr18
  have dr4 := dr4.same sr18
  have dr5 := dr5.same sr18
  have dr6 := dr6.same sr18
  have dr7 := dr7.same sr18
  have dr8 := dr8.same sr18
  have gr9 := sr18 _ _ gr9
  have dr10 := dr10.same sr18
  have dr11 := dr11.same sr18
  have dr12 := dr12.same sr18
  have dr13 := dr13.same sr18
  have dr14 := dr14.same sr18
  have dr15 := dr15.same sr18
  have gr16 := sr18 _ _ gr16
  have gr17 := sr18 _ _ gr17
  refine ⟨_, rfl, (by show 2 ≤ sizeLine; decide), fun pr19 nr19 => tupG nr19 (.cons (.str _) (.cons (.str _) .nil)) fun Gr19 sr19 dr19 => ?_⟩
  have dr19 : Dd Non Gr19 (Kd.opn (t)).dt (.ref pr19) := dr19
  have dk := dk.same sr19
  have kp := kp.trans (.of sr19)
  have gl := sr19 _ _ gl
  have dr1 := dr1.same sr19
  have dr2 := dr2.same sr19
  have dr3 := dr3.same sr19
  have dr4 := dr4.same sr19
  have dr5 := dr5.same sr19
  have dr6 := dr6.same sr19
  have dr7 := dr7.same sr19
  have dr8 := dr8.same sr19
  have gr9 := sr19 _ _ gr9
  have dr10 := dr10.same sr19
  have dr11 := dr11.same sr19
  have dr12 := dr12.same sr19
  have dr13 := dr13.same sr19
  have dr14 := dr14.same sr19
  have dr15 := dr15.same sr19
  have gr16 := sr19 _ _ gr16
  have gr17 := sr19 _ _ gr17
  have dr18 := dr18.same sr19
  refine ⟨(by show 3 ≤ sizeLine; decide), fun pr20 nr20 => tupG nr20 (.cons (.str _) (.cons dr18 (.cons dr19 .nil))) fun Gr20 sr20 dr20 => ?_⟩
  have dr20 : Dd Non Gr20 (Kd.fn (Kd.num) (Kd.opn (t))).dt (.ref pr20) := dr20
  have dk := dk.same sr20
  have kp := kp.trans (.of sr20)
  have gl := sr20 _ _ gl
  have dr1 := dr1.same sr20
  have dr2 := dr2.same sr20
  have dr3 := dr3.same sr20
  have dr4 := dr4.same sr20
  have dr5 := dr5.same sr20
  have dr6 := dr6.same sr20
  have dr7 := dr7.same sr20
  have dr8 := dr8.same sr20
  have gr9 := sr20 _ _ gr9
  have dr10 := dr10.same sr20
  have dr11 := dr11.same sr20
  have dr12 := dr12.same sr20
  have dr13 := dr13.same sr20
  have dr14 := dr14.same sr20
  have dr15 := dr15.same sr20
  have gr16 := sr20 _ _ gr16
  have gr17 := sr20 _ _ gr17
  have dr18 := dr18.same sr20
  have dr19 := dr19.same sr20
  refine ⟨(by show 1 ≤ sizeLine; decide), fun pr21 nr21 => tupG nr21 (.cons (.str _) .nil) fun Gr21 sr21 dr21 => ?_⟩
  have dr21 : Dd Non Gr21 (Kd.num).dt (.ref pr21) := dr21
  have dk := dk.same sr21
  have kp := kp.trans (.of sr21)
  have gl := sr21 _ _ gl
  have dr1 := dr1.same sr21
  have dr2 := dr2.same sr21
  have dr3 := dr3.same sr21
  have dr4 := dr4.same sr21
  have dr5 := dr5.same sr21
  have dr6 := dr6.same sr21
  have dr7 := dr7.same sr21
  have dr8 := dr8.same sr21
  have gr9 := sr21 _ _ gr9
  have dr10 := dr10.same sr21
  have dr11 := dr11.same sr21
  have dr12 := dr12.same sr21
  have dr13 := dr13.same sr21
  have dr14 := dr14.same sr21
  have dr15 := dr15.same sr21
  have gr16 := sr21 _ _ gr16
  have gr17 := sr21 _ _ gr17
  have dr18 := dr18.same sr21
  have dr19 := dr19.same sr21
  have dr20 := dr20.same sr21
  refine ⟨_, rfl, (by show 3 ≤ sizeLine; decide), fun pr22 nr22 => tupG nr22 (.cons (.str _) (.cons dr21 (.cons dr1 .nil))) fun Gr22 sr22 dr22 => ?_⟩
  have dr22 : Dd Non Gr22 (Kd.fn (Kd.num) (Kd.opn (o))).dt (.ref pr22) := dr22
  have dk := dk.same sr22
  have kp := kp.trans (.of sr22)
  have gl := sr22 _ _ gl
  have dr1 := dr1.same sr22
  have dr2 := dr2.same sr22
  have dr3 := dr3.same sr22
  have dr4 := dr4.same sr22
  have dr5 := dr5.same sr22
  have dr6 := dr6.same sr22
  have dr7 := dr7.same sr22
  have dr8 := dr8.same sr22
  have gr9 := sr22 _ _ gr9
  have dr10 := dr10.same sr22
  have dr11 := dr11.same sr22
  have dr12 := dr12.same sr22
  have dr13 := dr13.same sr22
  have dr14 := dr14.same sr22
  have dr15 := dr15.same sr22
  have gr16 := sr22 _ _ gr16
  have gr17 := sr22 _ _ gr17
  have dr18 := dr18.same sr22
  have dr19 := dr19.same sr22
  have dr20 := dr20.same sr22
  have dr21 := dr21.same sr22
  refine ⟨(by show 2 ≤ sizeLine; decide), fun pr23 nr23 => ?_⟩
  have or23 := dk.off nr23
  refine lstG nr23 fun Gr23 sr23 gr23 => ?_
  have gr23 : Gr23 pr23 = some (.lst [.ref pr20, .ref pr22]) := gr23
  have dk := dk.same sr23
  have kp := kp.trans (.of sr23)
  have gl := sr23 _ _ gl
  have dr1 := dr1.same sr23
  have dr2 := dr2.same sr23
  have dr3 := dr3.same sr23
  have dr4 := dr4.same sr23
  have dr5 := dr5.same sr23
  have dr6 := dr6.same sr23
  have dr7 := dr7.same sr23
  have dr8 := dr8.same sr23
  have gr9 := sr23 _ _ gr9
  have dr10 := dr10.same sr23
  have dr11 := dr11.same sr23
  have dr12 := dr12.same sr23
  have dr13 := dr13.same sr23
  have dr14 := dr14.same sr23
  have dr15 := dr15.same sr23
  have gr16 := sr23 _ _ gr16
  have gr17 := sr23 _ _ gr17
  have dr18 := dr18.same sr23
  have dr19 := dr19.same sr23
  have dr20 := dr20.same sr23
  have dr21 := dr21.same sr23
  have dr22 := dr22.same sr23
  refine ⟨_, _, _, _, rfl, rfl, gr17, gr23, (by show 11 ≤ sizeLine; decide), fun pr24 nr24 => ?_⟩
  have or24 := dk.off nr24
  refine lstG nr24 fun Gr24 sr24 gr24 => ?_
  have gr24 : Gr24 pr24 = some (.lst [.ref pr2, .ref pr1, .ref pr3, .ref pr5, .ref pr6, .ref pr8, .ref pr10, .ref pr13, .ref pr15, .ref pr20, .ref pr22]) := gr24
  have dk := dk.same sr24
  have kp := kp.trans (.of sr24)
  have gl := sr24 _ _ gl
  have dr1 := dr1.same sr24
  have dr2 := dr2.same sr24
  have dr3 := dr3.same sr24
  have dr4 := dr4.same sr24
  have dr5 := dr5.same sr24
  have dr6 := dr6.same sr24
  have dr7 := dr7.same sr24
  have dr8 := dr8.same sr24
  have gr9 := sr24 _ _ gr9
  have dr10 := dr10.same sr24
  have dr11 := dr11.same sr24
  have dr12 := dr12.same sr24
  have dr13 := dr13.same sr24
  have dr14 := dr14.same sr24
  have dr15 := dr15.same sr24
  have gr16 := sr24 _ _ gr16
  have gr17 := sr24 _ _ gr17
  have dr18 := dr18.same sr24
  have dr19 := dr19.same sr24
  have dr20 := dr20.same sr24
  have dr21 := dr21.same sr24
  have dr22 := dr22.same sr24
  have gr23 := sr24 _ _ gr23
  refine ⟨_, rfl, d, c, 4, rfl, dk, by decide, by decide, fun m0 G0 mm0 mm1 k0 e0 => ?_⟩
  have kp := kp.trans k0
  have gl := k0 _ _ ol.1 ol.2 gl
  have dr1 := dr1.kn (Kn.tk (Tk.kp k0 dk))
  have dr2 := dr2.kn (Kn.tk (Tk.kp k0 dk))
  have dr3 := dr3.kn (Kn.tk (Tk.kp k0 dk))
  have dr4 := dr4.kn (Kn.tk (Tk.kp k0 dk))
  have dr5 := dr5.kn (Kn.tk (Tk.kp k0 dk))
  have dr6 := dr6.kn (Kn.tk (Tk.kp k0 dk))
  have dr7 := dr7.kn (Kn.tk (Tk.kp k0 dk))
  have dr8 := dr8.kn (Kn.tk (Tk.kp k0 dk))
  have gr9 := k0 _ _ or9.1 or9.2 gr9
  have dr10 := dr10.kn (Kn.tk (Tk.kp k0 dk))
  have dr11 := dr11.kn (Kn.tk (Tk.kp k0 dk))
  have dr12 := dr12.kn (Kn.tk (Tk.kp k0 dk))
  have dr13 := dr13.kn (Kn.tk (Tk.kp k0 dk))
  have dr14 := dr14.kn (Kn.tk (Tk.kp k0 dk))
  have dr15 := dr15.kn (Kn.tk (Tk.kp k0 dk))
  have gr16 := k0 _ _ or16.1 or16.2 gr16
  have gr17 := k0 _ _ or17.1 or17.2 gr17
  have dr18 := dr18.kn (Kn.tk (Tk.kp k0 dk))
  have dr19 := dr19.kn (Kn.tk (Tk.kp k0 dk))
  have dr20 := dr20.kn (Kn.tk (Tk.kp k0 dk))
  have dr21 := dr21.kn (Kn.tk (Tk.kp k0 dk))
  have dr22 := dr22.kn (Kn.tk (Tk.kp k0 dk))
  have gr23 := k0 _ _ or23.1 or23.2 gr23
  have gr24 := k0 _ _ or24.1 or24.2 gr24
  have dk := e0
  have dK : DdL Non G0 ((kinds11 o t).map Kd.dt) [.ref pr2, .ref pr1, .ref pr3, .ref pr5, .ref pr6, .ref pr8, .ref pr10, .ref pr13, .ref pr15, .ref pr20, .ref pr22] := (.cons dr2 (.cons dr1 (.cons dr3 (.cons dr5 (.cons dr6 (.cons dr8 (.cons dr10 (.cons dr13 (.cons dr15 (.cons dr20 (.cons dr22 .nil)))))))))))
  have hm : m0 < 4 := mm1
  refine ⟨m0, rfl, by omega, by omega, fun D nD => ?_⟩
  have oD := dk.off nD
  have hD : H D = none := kp.free dk nD
  refine lc_range (lo := 0) (n := m0.toNat) (fun i F => Kp d c G0 F ∧ Dk F d c ∧ ∃ (us : List V) (fs : List (Str × Kd)), F D = some (.lst us) ∧ Paired (PRd F) fs us ∧ fs.length = i ∧ ∀ f ∈ fs, (f.1 = n0 ∨ f.1 = n1) ∧ f.2 ∈ kinds11 o t) ⟨Kp.of (newS nD), dk.same (newS nD), [], [], upd_same, .nil, rfl, fun f h => by cases h⟩ (fun i F hi z => ?_) (fun F z => ?_)
  · obtain ⟨kF, dF, us, fs, gD, pF, lF, mF⟩ := z
    have glF := kF _ _ ol.1 ol.2 gl
    refine ⟨rfl, _, rfl, _, rfl, 2, rfl, l, _, rfl, SqL.of glF, fun p1 np1 => ?_⟩
    have o1 := dF.off np1
    refine lstG np1 fun G1 s1 g1 => ?_
    have g1 : G1 p1 = some (.lst [.str n0, .str n1]) := by
      rw [show (2 : Int) = ((2 : Nat) : Int) from rfl, cutTo (by show 2 ≤ rest.length + 1 + 1; omega)] at g1
      exact g1
    refine ⟨d, c, p1, _, rfl, dF.same s1, g1, o1.1, o1.2, (by show 1 ≤ 2; decide), (by show 2 ≤ 100; decide), fun v2 G2 k2 e2 hv2 => ?_⟩
    obtain ⟨nm, rfl, hnm⟩ : ∃ nm, v2 = .str nm ∧ (nm = n0 ∨ nm = n1) := by
      rcases List.mem_cons.mp hv2 with rfl | hv2
      · exact ⟨_, rfl, .inl rfl⟩
      · exact ⟨_, List.mem_singleton.mp hv2, .inr rfl⟩
    have kp2 : Kp d c G0 G2 := (kF.trans (.of s1)).trans k2
    have gk2 := kp2 _ _ or24.1 or24.2 gr24
    refine ⟨_, rfl, _, rfl, d, c, _, _, rfl, e2, gk2, or24.1, or24.2, (by show 1 ≤ 11; decide), (by show 11 ≤ 100; decide), fun v3 G3 k3 e3 hv3 => ?_⟩
    have kp3 := kp2.trans k3
    obtain ⟨kk, mk, dk3⟩ := pickK dK hv3
    have dk3 := dk3.kn (Kn.tk (Tk.kp kp3 dk))
    refine ⟨(by show 2 ≤ sizeLine; decide), fun p4 n4 => objG n4 fun G4 s4 g4 => ?_⟩
    have oD2 : H D = none := hD
    have gD4 := s4 _ _ (k3 _ _ oD.1 oD.2 (k2 _ _ oD.1 oD.2 (s1 _ _ gD)))
    have tk4 : Tk F G4 := (Tk.of s1).trans ((Tk.kp k2 (dF.same s1)).trans ((Tk.kp k3 e2).trans (Tk.of s4)))
    have lus := pF.length
    have hi' : us.length < 4 := by omega
    refine ⟨us, gD4, small1000 (by omega), ?_, (e3.same s4).put oD.1 oD.2, us ++ [.ref p4], fs ++ [(nm, kk)], upd_same, ?_, ?_, ?_⟩
    · exact (kp3.trans (.of s4)).mk (by
        cases z : G0 D with
        | none => rfl
        | some u => rw [z] at nD; cases nD)
    · have t5 : Tk G4 (upd G4 D (.lst (us ++ [.ref p4]))) := Tk.rfl.put (fun _ z => by rw [gD4] at z; cases z)
      refine Paired.appP (Paired.mapP pF fun f u h => (h.tk tk4).tk t5) (.cons (PRd.tk ⟨p4, v3, rfl, g4, dk3.same s4⟩ t5) .nil)
    · rw [List.length_append, lF]
      rfl
    · intro f hf
      rcases List.mem_append.mp hf with hf | hf
      · exact mF f hf
      · rw [List.mem_singleton.mp hf]
        exact ⟨hnm, mk⟩
  obtain ⟨kF, dF, us, fs, gD, pF, lF, mF⟩ := z
  exact q D us fs F (kp.trans kF) dF oD gD pF (by omega) mF
end
end Kq

/-! _law_second -/
namespace Kq
open PySem PySem.Spec PyProof.Rows L2 Kf Kg Kv Kk Ku
theorem cut26 (n0 n1 n2 n3 n4 n5 : Str) (rest : List V) : cutV (V.str n0 :: .str n1 :: .str n2 :: .str n3 :: .str n4 :: .str n5 :: rest) (some 2) (some 6) = [.str n2, .str n3, .str n4, .str n5] := by
  unfold cutV
  rw [show (2 : Int) = ((2 : Nat) : Int) from rfl, show (6 : Int) = ((6 : Nat) : Int) from rfl, HT.sIx_nat, HT.sIx_nat]
  have l : (V.str n0 :: .str n1 :: .str n2 :: .str n3 :: .str n4 :: .str n5 :: rest).length = rest.length + 6 := rfl
  rw [l, Nat.min_eq_left (by omega), Nat.min_eq_left (by omega)]
  rfl
theorem slz (t : Str) (h : t.length ≤ 100) : (t ++ Str.ofString "z").length ≤ sizeLine := by
  have e2 : (Str.ofString "z" : Str).length = 1 := by decide +kernel
  rw [strLen_append, e2]
  exact sz (by omega)
theorem inV2 (h : Nat) (a b : Nat) : inV (V.int (h : Int)) [V.int (a : Int), V.int (b : Int)] = decide (h = a ∨ h = b) := by
  unfold inV
  simp only [List.any_cons, List.any_nil, Bool.or_false]
  by_cases c : h = a
  · subst c
    simp [eqV]
  · by_cases c2 : h = b
    · subst c2
      simp [eqV]
    · have e1 : eqV (V.int (a : Int)) (V.int (h : Int)) = false := by simp [eqV]; omega
      have e2 : eqV (V.int (b : Int)) (V.int (h : Int)) = false := by simp [eqV]; omega
      rw [e1, e2, decide_eq_false (by omega)]
      rfl
section
variable {P : Program} {w : World} {K : PySem.W.Frag} {mg : Str → Option Value} {base : Heap} {NS NO lk : List Str} {cN : Addr}
abbrev tSec : Stmt := tp 88
abbrev nSec : List Str := ["_law_deck_here", "_law_own", "_law_other", "_law_kind", "_law_names_here", "_law_inner", "_law_hidden", "_law_c", "_law_n", "_law_x", "_law_y", "_law_built", "_law_item"]
abbrev psSec : List Str := ["_law_deck_here", "_law_own", "_law_other", "_law_kind", "_law_names_here"]
theorem scSec : FnScope nSec psSec (defScope tSec) := ⟨rfl, rfl, rfl, by decide +kernel, rfl, by decide +kernel, by decide +kernel⟩
def spSec : Sp := fun vs H Q _ => ∃ (d c l : Addr) (o t n0 n1 n2 n3 n4 n5 : Str) (rest : List V) (kv : V) (k : Kd), vs = [.ref d, .str o, .str t, kv, .ref l] ∧ Dk H d c ∧ H l = some (.lst (.str n0 :: .str n1 :: .str n2 :: .str n3 :: .str n4 :: .str n5 :: rest)) ∧ l ≠ d ∧ l ≠ c ∧ Dd Non H k.dt kv ∧ t.length ≤ 100 ∧
  ∀ (p : Addr) (vi : V) (i : Str) (h : Nat) (G : Hp), Kp d c H G → Dk G d c → G p = some (.tup [vi, .bl (decide (i ≠ o ∨ h = 1))]) → Dd Non G (sec k i n4 n5 n2 n3 h).dt vi → h ≤ 3 → (i = o ∨ (i = t ++ Str.ofString "z" ∧ t.length < 8)) → Q (.ref p) G
theorem okSec {f : Addr} {fd : FuncData} {k : Nat} (F : Fun K "_law_second" "_law_second" tSec f fd)
    (DD : Okd P w K mg base CX0 (k) "_law_draw" ["_law_deck_here", "_law_most"] spDraw)
    (DP : Okd P w K mg base CX0 (k) "_law_pick" ["_law_deck_here", "_law_some"] spPick)
    (m_len : mg "len" = none) : FnOk P w K mg base CX0 (k + 1) f fd psSec spSec := by
  obtain ⟨fD, fdD, GD, bD, gD, kD⟩ := DD
  obtain ⟨fP, fdP, GP, bP, gP, kP⟩ := DP
  refine F.ok scSec (fun vs H Q E h => ?_) (fun cdv A outer s H vs Q E hr h => ?_)
  · obtain ⟨d, c, l, o, t, n0, n1, n2, n3, n4, n5, rest, kv, kd, rfl, _⟩ := h
    rfl
  obtain ⟨d, c, l, o, t, n0, n1, n2, n3, n4, n5, rest, kv, kd, rfl, dk, gl, old, olc, dkv, lt, q⟩ := h
  refine ⟨_, pss_cons (ps_set (i := 5) scSec.nd rfl (.inl rfl) (pe_call GP hr (by rfl) gP kP bP .nil pass0 (pa_cons (pv 0) (pa_cons (pe_lst (pa_cons (pv 1) (pa_cons (pv 1) (pa_cons (pe_ifExp (pt_cmpR op_lt (pe_callB call_len_str (by rfl) m_len PySem.boot_len (pa_cons (pv 2) pa_nil)) pe_int (nomark _)) (pe_op op_add_str (pv 2) pe_str) (pv 1)) pa_nil)))) pa_nil))))
    (pss_cons (ps_set (i := 6) scSec.nd rfl (.inl rfl) (pe_ix ix_list (pe_lst (pa_cons pe_int (pa_cons pe_int (pa_cons pe_int (pa_cons pe_int (pa_cons pe_int pa_nil)))))) (pe_call GD hr (by rfl) gD kD bD .nil pass0 (pa_cons (pv 0) (pa_cons pe_int pa_nil))) (fun _ _ => rfl)))
    (pss_cons (ps_asg (pe_slice sl_list (pv 4) (po_some pe_int) (po_some pe_int)) (pg_lst rfl (pgs_cons (pg_name (i := 7) scSec.nd rfl (.inl rfl)) (pgs_cons (pg_name (i := 8) scSec.nd rfl (.inl rfl)) (pgs_cons (pg_name (i := 9) scSec.nd rfl (.inl rfl)) (pgs_cons (pg_name (i := 10) scSec.nd rfl (.inl rfl)) pgs_nil))))))
    (pss_cons (ps_set (i := 11) scSec.nd rfl (.inl rfl) (pe_tup (pa_cons pe_str (pa_cons (pe_tup (pa_cons pe_str pa_nil)) (pa_cons (pv 5) (pa_cons (pv 9) (pa_cons (pv 10) (pa_cons (pe_tup (pa_cons pe_str (pa_cons (pe_tup (pa_cons pe_str (pa_cons (pe_tup (pa_cons pe_str (pa_cons (pv 9) pa_nil))) (pa_cons (pe_tup (pa_cons pe_str (pa_cons pe_int pa_nil))) pa_nil)))) (pa_cons (pe_tup (pa_cons pe_str (pa_cons (pv 10) pa_nil))) pa_nil)))) pa_nil))))))))
    (pss_cons (ps_set (i := 12) scSec.nd rfl (.inl rfl) (pe_tup (pa_cons pe_str (pa_cons (pv 11) (pa_cons (pe_tup (pa_cons pe_str (pa_cons (pv 3) pa_nil))) (pa_cons (pv 9) (pa_cons (pv 10) (pa_cons (pe_tup (pa_cons pe_str (pa_cons (pv 10) pa_nil))) pa_nil))))))))
    (C8.pss_cut (ps_if (pt_cmpR op_in_seq (pv 6) (pe_tup (pa_cons pe_int (pa_cons pe_int pa_nil))) rfl) (pss_one (ps_set (i := 12) scSec.nd rfl (.inl rfl) (pe_tup (pa_cons pe_str (pa_cons (pe_tup (pa_cons pe_str (pa_cons (pv 8) (pa_cons (pe_tup (pa_cons pe_str pa_nil)) (pa_cons (pv 12) pa_nil))))) (pa_cons (pe_tup (pa_cons pe_str (pa_cons pe_int pa_nil))) pa_nil)))))) pss_nil)
    (C8.pss_cut (ps_if (pt_cmpR op_in_seq (pv 6) (pe_tup (pa_cons pe_int (pa_cons pe_int pa_nil))) rfl) (pss_one (ps_set (i := 12) scSec.nd rfl (.inl rfl) (pe_tup (pa_cons pe_str (pa_cons (pe_tup (pa_cons pe_str (pa_cons (pv 7) (pa_cons (pe_tup (pa_cons pe_str pa_nil)) (pa_cons (pv 12) pa_nil))))) (pa_cons (pe_tup (pa_cons pe_str (pa_cons pe_bl pa_nil))) pa_nil)))))) pss_nil)
    (pss_one (ps_ret (pe_tup (pa_cons (pv 12) (pa_cons (pe_or (pe_cmpR op_ne (pv 5) (pv 1) (nomark _)) (pe_one (pe_cmpR op_eq (pv 6) pe_int (nomark _)))) pa_nil))))))))))), ?_⟩
  have ol : l ≠ d ∧ l ≠ c := ⟨old, olc⟩
  have kp : Kp d c H H := Kp.rfl
  refine ⟨_, rfl, _, rfl, _, rfl, _, rfl, t, rfl, sz (by omega), _, _, rfl, rfl, _, rfl, ite2 (fun c0 => ?_) (fun c0 => ?_)⟩
  · refine ⟨_, rfl, _, _, rfl, rfl, (by rw [← strLen_append]; exact slz t lt), ?_⟩
    refine ⟨(by show 3 ≤ sizeLine; decide), fun pa1 na1 => ?_⟩
    have oa1 := dk.off na1
    refine lstG na1 fun Ga1 sa1 ga1 => ?_
    have ga1 : Ga1 pa1 = some (.lst [.str o, .str o, .str (t ++ Str.ofString "z")]) := ga1
    have dk := dk.same sa1
    have kp := kp.trans (.of sa1)
    have gl := sa1 _ _ gl
    have dkv := dkv.same sa1
    refine ⟨d, c, pa1, _, rfl, dk, ga1, oa1.1, oa1.2, (by show 1 ≤ 3; decide), (by show 3 ≤ 100; decide), fun va2 Ga2 ka2 ea2 hva2 => ?_⟩
    have kp := kp.trans ka2
    have gl := ka2 _ _ ol.1 ol.2 gl
    have dkv := dkv.kn (Kn.tk (Tk.kp ka2 dk))
    have ga1 := ka2 _ _ oa1.1 oa1.2 ga1
    have dk := ea2
    obtain ⟨i, rfl, hi⟩ : ∃ i, va2 = .str i ∧ (i = o ∨ (i = t ++ Str.ofString "z" ∧ t.length < 8)) := by
      rcases List.mem_cons.mp hva2 with rfl | hv
      · exact ⟨_, rfl, .inl rfl⟩
      · rcases List.mem_cons.mp hv with rfl | hv
        · exact ⟨_, rfl, .inl rfl⟩
        · exact ⟨_, List.mem_singleton.mp hv, .inr ⟨rfl, by have := of_decide_eq_true c0; omega⟩⟩
    clear hva2
    refine ⟨(by show 5 ≤ sizeLine; decide), fun pa3 na3 => ?_⟩
    have oa3 := dk.off na3
    refine lstG na3 fun Ga3 sa3 ga3 => ?_
    have ga3 : Ga3 pa3 = some (.lst [.int 0, .int 1, .int 1, .int 2, .int 3]) := ga3
    have dk := dk.same sa3
    have kp := kp.trans (.of sa3)
    have gl := sa3 _ _ gl
    have dkv := dkv.same sa3
    refine ⟨_, rfl, d, c, 5, rfl, dk, by decide, by decide, fun ma4 Ga4 r0a4 r1a4 ka4 ea4 => ?_⟩
    have kp := kp.trans ka4
    have gl := ka4 _ _ ol.1 ol.2 gl
    have dkv := dkv.kn (Kn.tk (Tk.kp ka4 dk))
    have ga3 := ka4 _ _ oa3.1 oa3.2 ga3
    have dk := ea4
    have r1a4 : ma4 < 5 := r1a4
    obtain ⟨h, hat, h3⟩ : ∃ h : Nat, atI [V.int 0, .int 1, .int 1, .int 2, .int 3] ma4 = some (.int (h : Int)) ∧ h ≤ 3 := by
      rcases (by omega : ma4 = 0 ∨ ma4 = 1 ∨ ma4 = 2 ∨ ma4 = 3 ∨ ma4 = 4) with e | e | e | e | e <;> rw [e]
      · exact ⟨0, rfl, by decide⟩
      · exact ⟨1, rfl, by decide⟩
      · exact ⟨1, rfl, by decide⟩
      · exact ⟨2, rfl, by decide⟩
      · exact ⟨3, rfl, by decide⟩
    refine ⟨pa3, _, _, _, rfl, rfl, SqL.of ga3, hat, ?_⟩
    refine ⟨_, rfl, 2, rfl, 6, rfl, l, _, rfl, SqL.of gl, fun pa5 na5 => ?_⟩
    refine lstG na5 fun Ga5 sa5 ga5 => ?_
    have ga5 : Ga5 pa5 = some (.lst [.str n2, .str n3, .str n4, .str n5]) := by
      rw [cut26 n0 n1 n2 n3 n4 n5 rest] at ga5
      exact ga5
    have dk := dk.same sa5
    have kp := kp.trans (.of sa5)
    have gl := sa5 _ _ gl
    have dkv := dkv.same sa5
    refine ⟨pa5, _, rfl, SqL.of ga5, rfl, _, _, rfl, _, _, rfl, _, _, rfl, _, _, rfl, rfl, ?_⟩
    refine ⟨(by show 1 ≤ sizeLine; decide), fun pa6 na6 => tupG na6 (.cons (.str _) .nil) fun Ga6 sa6 da6 => ?_⟩
    have da6 : Dd Non Ga6 (Kd.num).dt (.ref pa6) := da6
    have dk := dk.same sa6
    have kp := kp.trans (.of sa6)
    have gl := sa6 _ _ gl
    have dkv := dkv.same sa6
    refine ⟨_, rfl, _, rfl, _, rfl, _, rfl, (by show 2 ≤ sizeLine; decide), fun pa7 na7 => tupG na7 (.cons (.str _) (.cons (.str _) .nil)) fun Ga7 sa7 da7 => ?_⟩
    have da7 : Dd Non Ga7 (Tm.name (n4)).dt (.ref pa7) := da7
    have dk := dk.same sa7
    have kp := kp.trans (.of sa7)
    have gl := sa7 _ _ gl
    have dkv := dkv.same sa7
    have da6 := da6.same sa7
    refine ⟨(by show 2 ≤ sizeLine; decide), fun pa8 na8 => tupG na8 (.cons (.str _) (.cons (.int _) .nil)) fun Ga8 sa8 da8 => ?_⟩
    have da8 : Dd Non Ga8 (Tm.num (1)).dt (.ref pa8) := da8
    have dk := dk.same sa8
    have kp := kp.trans (.of sa8)
    have gl := sa8 _ _ gl
    have dkv := dkv.same sa8
    have da6 := da6.same sa8
    have da7 := da7.same sa8
    refine ⟨(by show 3 ≤ sizeLine; decide), fun pa9 na9 => tupG na9 (.cons (.str _) (.cons da7 (.cons da8 .nil))) fun Ga9 sa9 da9 => ?_⟩
    have da9 : Dd Non Ga9 (Tm.call (Tm.name (n4)) (Tm.num (1))).dt (.ref pa9) := da9
    have dk := dk.same sa9
    have kp := kp.trans (.of sa9)
    have gl := sa9 _ _ gl
    have dkv := dkv.same sa9
    have da6 := da6.same sa9
    have da7 := da7.same sa9
    have da8 := da8.same sa9
    refine ⟨_, rfl, (by show 2 ≤ sizeLine; decide), fun pa10 na10 => tupG na10 (.cons (.str _) (.cons (.str _) .nil)) fun Ga10 sa10 da10 => ?_⟩
    have da10 : Dd Non Ga10 (Tm.name (n5)).dt (.ref pa10) := da10
    have dk := dk.same sa10
    have kp := kp.trans (.of sa10)
    have gl := sa10 _ _ gl
    have dkv := dkv.same sa10
    have da6 := da6.same sa10
    have da7 := da7.same sa10
    have da8 := da8.same sa10
    have da9 := da9.same sa10
    refine ⟨(by show 3 ≤ sizeLine; decide), fun pa11 na11 => tupG na11 (.cons (.str _) (.cons da9 (.cons da10 .nil))) fun Ga11 sa11 da11 => ?_⟩
    have da11 : Dd Non Ga11 (Tm.call (Tm.call (Tm.name (n4)) (Tm.num (1))) (Tm.name (n5))).dt (.ref pa11) := da11
    have dk := dk.same sa11
    have kp := kp.trans (.of sa11)
    have gl := sa11 _ _ gl
    have dkv := dkv.same sa11
    have da6 := da6.same sa11
    have da7 := da7.same sa11
    have da8 := da8.same sa11
    have da9 := da9.same sa11
    have da10 := da10.same sa11
    refine ⟨(by show 6 ≤ sizeLine; decide), fun pa12 na12 => tupG na12 (.cons (.str _) (.cons da6 (.cons (.str _) (.cons (.str _) (.cons (.str _) (.cons da11 .nil)))))) fun Ga12 sa12 da12 => ?_⟩
    have da12 : Dd Non Ga12 (Tm.built (Kd.num) (i) (n4) (n5) (Tm.call (Tm.call (Tm.name (n4)) (Tm.num (1))) (Tm.name (n5)))).dt (.ref pa12) := da12
    have dk := dk.same sa12
    have kp := kp.trans (.of sa12)
    have gl := sa12 _ _ gl
    have dkv := dkv.same sa12
    have da6 := da6.same sa12
    have da7 := da7.same sa12
    have da8 := da8.same sa12
    have da9 := da9.same sa12
    have da10 := da10.same sa12
    have da11 := da11.same sa12
    refine ⟨_, rfl, _, rfl, (by show 2 ≤ sizeLine; decide), fun pa13 na13 => tupG na13 (.cons (.str _) (.cons dkv .nil)) fun Ga13 sa13 da13 => ?_⟩
    have da13 : Dd Non Ga13 (Tm.fault (kd)).dt (.ref pa13) := da13
    have dk := dk.same sa13
    have kp := kp.trans (.of sa13)
    have gl := sa13 _ _ gl
    have dkv := dkv.same sa13
    have da6 := da6.same sa13
    have da7 := da7.same sa13
    have da8 := da8.same sa13
    have da9 := da9.same sa13
    have da10 := da10.same sa13
    have da11 := da11.same sa13
    have da12 := da12.same sa13
    refine ⟨_, rfl, _, rfl, _, rfl, (by show 2 ≤ sizeLine; decide), fun pa14 na14 => tupG na14 (.cons (.str _) (.cons (.str _) .nil)) fun Ga14 sa14 da14 => ?_⟩
    have da14 : Dd Non Ga14 (Tm.name (n5)).dt (.ref pa14) := da14
    have dk := dk.same sa14
    have kp := kp.trans (.of sa14)
    have gl := sa14 _ _ gl
    have dkv := dkv.same sa14
    have da6 := da6.same sa14
    have da7 := da7.same sa14
    have da8 := da8.same sa14
    have da9 := da9.same sa14
    have da10 := da10.same sa14
    have da11 := da11.same sa14
    have da12 := da12.same sa14
    have da13 := da13.same sa14
    refine ⟨(by show 6 ≤ sizeLine; decide), fun pa15 na15 => tupG na15 (.cons (.str _) (.cons da12 (.cons da13 (.cons (.str _) (.cons (.str _) (.cons da14 .nil)))))) fun Ga15 sa15 da15 => ?_⟩
    have da15 : Dd Non Ga15 (Tm.fold (Tm.built (Kd.num) (i) (n4) (n5) (Tm.call (Tm.call (Tm.name (n4)) (Tm.num (1))) (Tm.name (n5)))) (Tm.fault (kd)) (n4) (n5) (Tm.name (n5))).dt (.ref pa15) := da15
    have dk := dk.same sa15
    have kp := kp.trans (.of sa15)
    have gl := sa15 _ _ gl
    have dkv := dkv.same sa15
    have da6 := da6.same sa15
    have da7 := da7.same sa15
    have da8 := da8.same sa15
    have da9 := da9.same sa15
    have da10 := da10.same sa15
    have da11 := da11.same sa15
    have da12 := da12.same sa15
    have da13 := da13.same sa15
    have da14 := da14.same sa15
    have dit : Dd Non _ (tF kd i n4 n5).dt (.ref pa15) := da15
    refine ⟨fun σ F => ∃ v, σ = [some (.ref d), some (.str o), some (.str t), some kv, some (.ref l), some (.str i), some (.int (h : Int)), some (.str n2), some (.str n3), some (.str n4), some (.str n5), some (.ref pa12), some v] ∧ Kp d c H F ∧ Dk F d c ∧ Dd Non F (sec1 kd i n4 n5 n3 h).dt v, ?_, fun σ F z => ?_⟩
    · skip
      refine ⟨_, rfl, (by show 2 ≤ sizeLine; decide), fun pa16 na16 => objG na16 fun Ga16 sa16 ga16 => ?_⟩
      have dk := dk.same sa16
      have kp := kp.trans (.of sa16)
      have dit := dit.same sa16
      refine ⟨pa16, _, rfl, .inr (SqT.of ga16), rfl, rfl, ?_⟩
      refine ⟨_, rfl, ?_⟩
      rw [show (if false = true then !inV (V.int (h : Int)) [.int 1, .int 2] else inV (V.int (h : Int)) [.int 1, .int 2]) = decide (h = 1 ∨ h = 2) from inV2 h 1 2]
      refine ite2 (fun c1 => ?_) (fun c1 => ?_)
      · skip
        refine ⟨_, rfl, (by show 1 ≤ sizeLine; decide), fun pa17 na17 => tupG na17 (.cons (.str _) .nil) fun Ga17 sa17 da17 => ?_⟩
        have da17 : Dd Non Ga17 (Kd.num).dt (.ref pa17) := da17
        have dk := dk.same sa17
        have kp := kp.trans (.of sa17)
        have dit := dit.same sa17
        refine ⟨_, rfl, (by show 4 ≤ sizeLine; decide), fun pa18 na18 => tupG na18 (.cons (.str _) (.cons (.str _) (.cons da17 (.cons dit .nil)))) fun Ga18 sa18 da18 => ?_⟩
        have da18 : Dd Non Ga18 (Tm.fn (n3) (Kd.num) (tF kd i n4 n5)).dt (.ref pa18) := da18
        have dk := dk.same sa18
        have kp := kp.trans (.of sa18)
        have dit := dit.same sa18
        have da17 := da17.same sa18
        refine ⟨(by show 2 ≤ sizeLine; decide), fun pa19 na19 => tupG na19 (.cons (.str _) (.cons (.int _) .nil)) fun Ga19 sa19 da19 => ?_⟩
        have da19 : Dd Non Ga19 (Tm.num (2)).dt (.ref pa19) := da19
        have dk := dk.same sa19
        have kp := kp.trans (.of sa19)
        have dit := dit.same sa19
        have da17 := da17.same sa19
        have da18 := da18.same sa19
        refine ⟨(by show 3 ≤ sizeLine; decide), fun pa20 na20 => tupG na20 (.cons (.str _) (.cons da18 (.cons da19 .nil))) fun Ga20 sa20 da20 => ?_⟩
        have da20 : Dd Non Ga20 (Tm.call (Tm.fn (n3) (Kd.num) (tF kd i n4 n5)) (Tm.num (2))).dt (.ref pa20) := da20
        have dk := dk.same sa20
        have kp := kp.trans (.of sa20)
        have dit := dit.same sa20
        have da17 := da17.same sa20
        have da18 := da18.same sa20
        have da19 := da19.same sa20
        exact ⟨_, rfl, kp, dk, by rw [show sec1 kd i n4 n5 n3 h = Tm.call (.fn n3 .num (tF kd i n4 n5)) (.num 2) from if_pos (of_decide_eq_true c1)]; exact da20⟩
      · exact ⟨_, rfl, kp, dk, by rw [show sec1 kd i n4 n5 n3 h = tF kd i n4 n5 from if_neg (fun z => c1 (decide_eq_true z))]; exact dit⟩
    clear kp dk dit
    obtain ⟨v, rfl, kp, dk, dit⟩ := z
    refine ⟨fun σ F => ∃ v, σ = [some (.ref d), some (.str o), some (.str t), some kv, some (.ref l), some (.str i), some (.int (h : Int)), some (.str n2), some (.str n3), some (.str n4), some (.str n5), some (.ref pa12), some v] ∧ Kp d c H F ∧ Dk F d c ∧ Dd Non F (sec kd i n4 n5 n2 n3 h).dt v, ?_, fun σ F z => ?_⟩
    · skip
      refine ⟨_, rfl, (by show 2 ≤ sizeLine; decide), fun pa21 na21 => objG na21 fun Ga21 sa21 ga21 => ?_⟩
      have dk := dk.same sa21
      have kp := kp.trans (.of sa21)
      have dit := dit.same sa21
      refine ⟨pa21, _, rfl, .inr (SqT.of ga21), rfl, rfl, ?_⟩
      refine ⟨_, rfl, ?_⟩
      rw [show (if false = true then !inV (V.int (h : Int)) [.int 1, .int 3] else inV (V.int (h : Int)) [.int 1, .int 3]) = decide (h = 1 ∨ h = 3) from inV2 h 1 3]
      refine ite2 (fun c1 => ?_) (fun c1 => ?_)
      · skip
        refine ⟨_, rfl, (by show 1 ≤ sizeLine; decide), fun pa22 na22 => tupG na22 (.cons (.str _) .nil) fun Ga22 sa22 da22 => ?_⟩
        have da22 : Dd Non Ga22 (Kd.tru).dt (.ref pa22) := da22
        have dk := dk.same sa22
        have kp := kp.trans (.of sa22)
        have dit := dit.same sa22
        refine ⟨_, rfl, (by show 4 ≤ sizeLine; decide), fun pa23 na23 => tupG na23 (.cons (.str _) (.cons (.str _) (.cons da22 (.cons dit .nil)))) fun Ga23 sa23 da23 => ?_⟩
        have da23 : Dd Non Ga23 (Tm.fn (n2) (Kd.tru) (sec1 kd i n4 n5 n3 h)).dt (.ref pa23) := da23
        have dk := dk.same sa23
        have kp := kp.trans (.of sa23)
        have dit := dit.same sa23
        have da22 := da22.same sa23
        refine ⟨(by show 2 ≤ sizeLine; decide), fun pa24 na24 => tupG na24 (.cons (.str _) (.cons (.bl _) .nil)) fun Ga24 sa24 da24 => ?_⟩
        have da24 : Dd Non Ga24 (Tm.tru (true)).dt (.ref pa24) := da24
        have dk := dk.same sa24
        have kp := kp.trans (.of sa24)
        have dit := dit.same sa24
        have da22 := da22.same sa24
        have da23 := da23.same sa24
        refine ⟨(by show 3 ≤ sizeLine; decide), fun pa25 na25 => tupG na25 (.cons (.str _) (.cons da23 (.cons da24 .nil))) fun Ga25 sa25 da25 => ?_⟩
        have da25 : Dd Non Ga25 (Tm.call (Tm.fn (n2) (Kd.tru) (sec1 kd i n4 n5 n3 h)) (Tm.tru (true))).dt (.ref pa25) := da25
        have dk := dk.same sa25
        have kp := kp.trans (.of sa25)
        have dit := dit.same sa25
        have da22 := da22.same sa25
        have da23 := da23.same sa25
        have da24 := da24.same sa25
        exact ⟨_, rfl, kp, dk, by rw [show sec kd i n4 n5 n2 n3 h = Tm.call (.fn n2 .tru (sec1 kd i n4 n5 n3 h)) (.tru true) from if_pos (of_decide_eq_true c1)]; exact da25⟩
      · exact ⟨_, rfl, kp, dk, by rw [show sec kd i n4 n5 n2 n3 h = sec1 kd i n4 n5 n3 h from if_neg (fun z => c1 (decide_eq_true z))]; exact dit⟩
    clear kp dk dit
    obtain ⟨v, rfl, kp, dk, dit⟩ := z
    refine ⟨_, rfl, _, rfl, _, rfl, rfl, ?_⟩
    refine ⟨_, rfl, ite2 (fun c1 => ?_) (fun c1 => ?_)⟩
    · refine ⟨(by show 2 ≤ sizeLine; decide), fun p np => objG np fun G s g => ?_⟩
      have ne : i ≠ o := fun e => by rw [e] at c1; simp at c1
      exact q p v i h G (kp.trans (.of s)) (dk.same s) (by rw [g, decide_eq_true (Or.inl ne)]) (dit.same s) h3 hi
    · refine ⟨_, rfl, rfl, (by show 2 ≤ sizeLine; decide), fun p np => objG np fun G s g => ?_⟩
      have e : i = o := Classical.byContradiction fun e => c1 (by simp [e])
      refine q p v i h G (kp.trans (.of s)) (dk.same s) ?_ (dit.same s) h3 hi
      have eq : decide (V.int (h : Int) = V.int 1) = decide (i ≠ o ∨ h = 1) := by
        by_cases c2 : h = 1
        · exact (decide_eq_true (by rw [c2]; rfl)).trans (decide_eq_true (Or.inr c2)).symm
        · exact (decide_eq_false (fun z => c2 (by injection z with z; omega))).trans (decide_eq_false (fun z => z.elim (fun z => z e) c2)).symm
      rw [← eq]
      exact g
  · refine ⟨_, rfl, ?_⟩
    refine ⟨(by show 3 ≤ sizeLine; decide), fun pb1 nb1 => ?_⟩
    have ob1 := dk.off nb1
    refine lstG nb1 fun Gb1 sb1 gb1 => ?_
    have gb1 : Gb1 pb1 = some (.lst [.str o, .str o, .str o]) := gb1
    have dk := dk.same sb1
    have kp := kp.trans (.of sb1)
    have gl := sb1 _ _ gl
    have dkv := dkv.same sb1
    refine ⟨d, c, pb1, _, rfl, dk, gb1, ob1.1, ob1.2, (by show 1 ≤ 3; decide), (by show 3 ≤ 100; decide), fun vb2 Gb2 kb2 eb2 hvb2 => ?_⟩
    have kp := kp.trans kb2
    have gl := kb2 _ _ ol.1 ol.2 gl
    have dkv := dkv.kn (Kn.tk (Tk.kp kb2 dk))
    have gb1 := kb2 _ _ ob1.1 ob1.2 gb1
    have dk := eb2
    obtain ⟨i, rfl, hi⟩ : ∃ i, vb2 = .str i ∧ (i = o ∨ (i = t ++ Str.ofString "z" ∧ t.length < 8)) := by
      rcases List.mem_cons.mp hvb2 with rfl | hv
      · exact ⟨_, rfl, .inl rfl⟩
      · rcases List.mem_cons.mp hv with rfl | hv
        · exact ⟨_, rfl, .inl rfl⟩
        · exact ⟨_, List.mem_singleton.mp hv, .inl rfl⟩
    clear hvb2
    refine ⟨(by show 5 ≤ sizeLine; decide), fun pb3 nb3 => ?_⟩
    have ob3 := dk.off nb3
    refine lstG nb3 fun Gb3 sb3 gb3 => ?_
    have gb3 : Gb3 pb3 = some (.lst [.int 0, .int 1, .int 1, .int 2, .int 3]) := gb3
    have dk := dk.same sb3
    have kp := kp.trans (.of sb3)
    have gl := sb3 _ _ gl
    have dkv := dkv.same sb3
    refine ⟨_, rfl, d, c, 5, rfl, dk, by decide, by decide, fun mb4 Gb4 r0b4 r1b4 kb4 eb4 => ?_⟩
    have kp := kp.trans kb4
    have gl := kb4 _ _ ol.1 ol.2 gl
    have dkv := dkv.kn (Kn.tk (Tk.kp kb4 dk))
    have gb3 := kb4 _ _ ob3.1 ob3.2 gb3
    have dk := eb4
    have r1b4 : mb4 < 5 := r1b4
    obtain ⟨h, hat, h3⟩ : ∃ h : Nat, atI [V.int 0, .int 1, .int 1, .int 2, .int 3] mb4 = some (.int (h : Int)) ∧ h ≤ 3 := by
      rcases (by omega : mb4 = 0 ∨ mb4 = 1 ∨ mb4 = 2 ∨ mb4 = 3 ∨ mb4 = 4) with e | e | e | e | e <;> rw [e]
      · exact ⟨0, rfl, by decide⟩
      · exact ⟨1, rfl, by decide⟩
      · exact ⟨1, rfl, by decide⟩
      · exact ⟨2, rfl, by decide⟩
      · exact ⟨3, rfl, by decide⟩
    refine ⟨pb3, _, _, _, rfl, rfl, SqL.of gb3, hat, ?_⟩
    refine ⟨_, rfl, 2, rfl, 6, rfl, l, _, rfl, SqL.of gl, fun pb5 nb5 => ?_⟩
    refine lstG nb5 fun Gb5 sb5 gb5 => ?_
    have gb5 : Gb5 pb5 = some (.lst [.str n2, .str n3, .str n4, .str n5]) := by
      rw [cut26 n0 n1 n2 n3 n4 n5 rest] at gb5
      exact gb5
    have dk := dk.same sb5
    have kp := kp.trans (.of sb5)
    have gl := sb5 _ _ gl
    have dkv := dkv.same sb5
    refine ⟨pb5, _, rfl, SqL.of gb5, rfl, _, _, rfl, _, _, rfl, _, _, rfl, _, _, rfl, rfl, ?_⟩
    refine ⟨(by show 1 ≤ sizeLine; decide), fun pb6 nb6 => tupG nb6 (.cons (.str _) .nil) fun Gb6 sb6 db6 => ?_⟩
    have db6 : Dd Non Gb6 (Kd.num).dt (.ref pb6) := db6
    have dk := dk.same sb6
    have kp := kp.trans (.of sb6)
    have gl := sb6 _ _ gl
    have dkv := dkv.same sb6
    refine ⟨_, rfl, _, rfl, _, rfl, _, rfl, (by show 2 ≤ sizeLine; decide), fun pb7 nb7 => tupG nb7 (.cons (.str _) (.cons (.str _) .nil)) fun Gb7 sb7 db7 => ?_⟩
    have db7 : Dd Non Gb7 (Tm.name (n4)).dt (.ref pb7) := db7
    have dk := dk.same sb7
    have kp := kp.trans (.of sb7)
    have gl := sb7 _ _ gl
    have dkv := dkv.same sb7
    have db6 := db6.same sb7
    refine ⟨(by show 2 ≤ sizeLine; decide), fun pb8 nb8 => tupG nb8 (.cons (.str _) (.cons (.int _) .nil)) fun Gb8 sb8 db8 => ?_⟩
    have db8 : Dd Non Gb8 (Tm.num (1)).dt (.ref pb8) := db8
    have dk := dk.same sb8
    have kp := kp.trans (.of sb8)
    have gl := sb8 _ _ gl
    have dkv := dkv.same sb8
    have db6 := db6.same sb8
    have db7 := db7.same sb8
    refine ⟨(by show 3 ≤ sizeLine; decide), fun pb9 nb9 => tupG nb9 (.cons (.str _) (.cons db7 (.cons db8 .nil))) fun Gb9 sb9 db9 => ?_⟩
    have db9 : Dd Non Gb9 (Tm.call (Tm.name (n4)) (Tm.num (1))).dt (.ref pb9) := db9
    have dk := dk.same sb9
    have kp := kp.trans (.of sb9)
    have gl := sb9 _ _ gl
    have dkv := dkv.same sb9
    have db6 := db6.same sb9
    have db7 := db7.same sb9
    have db8 := db8.same sb9
    refine ⟨_, rfl, (by show 2 ≤ sizeLine; decide), fun pb10 nb10 => tupG nb10 (.cons (.str _) (.cons (.str _) .nil)) fun Gb10 sb10 db10 => ?_⟩
    have db10 : Dd Non Gb10 (Tm.name (n5)).dt (.ref pb10) := db10
    have dk := dk.same sb10
    have kp := kp.trans (.of sb10)
    have gl := sb10 _ _ gl
    have dkv := dkv.same sb10
    have db6 := db6.same sb10
    have db7 := db7.same sb10
    have db8 := db8.same sb10
    have db9 := db9.same sb10
    refine ⟨(by show 3 ≤ sizeLine; decide), fun pb11 nb11 => tupG nb11 (.cons (.str _) (.cons db9 (.cons db10 .nil))) fun Gb11 sb11 db11 => ?_⟩
    have db11 : Dd Non Gb11 (Tm.call (Tm.call (Tm.name (n4)) (Tm.num (1))) (Tm.name (n5))).dt (.ref pb11) := db11
    have dk := dk.same sb11
    have kp := kp.trans (.of sb11)
    have gl := sb11 _ _ gl
    have dkv := dkv.same sb11
    have db6 := db6.same sb11
    have db7 := db7.same sb11
    have db8 := db8.same sb11
    have db9 := db9.same sb11
    have db10 := db10.same sb11
    refine ⟨(by show 6 ≤ sizeLine; decide), fun pb12 nb12 => tupG nb12 (.cons (.str _) (.cons db6 (.cons (.str _) (.cons (.str _) (.cons (.str _) (.cons db11 .nil)))))) fun Gb12 sb12 db12 => ?_⟩
    have db12 : Dd Non Gb12 (Tm.built (Kd.num) (i) (n4) (n5) (Tm.call (Tm.call (Tm.name (n4)) (Tm.num (1))) (Tm.name (n5)))).dt (.ref pb12) := db12
    have dk := dk.same sb12
    have kp := kp.trans (.of sb12)
    have gl := sb12 _ _ gl
    have dkv := dkv.same sb12
    have db6 := db6.same sb12
    have db7 := db7.same sb12
    have db8 := db8.same sb12
    have db9 := db9.same sb12
    have db10 := db10.same sb12
    have db11 := db11.same sb12
    refine ⟨_, rfl, _, rfl, (by show 2 ≤ sizeLine; decide), fun pb13 nb13 => tupG nb13 (.cons (.str _) (.cons dkv .nil)) fun Gb13 sb13 db13 => ?_⟩
    have db13 : Dd Non Gb13 (Tm.fault (kd)).dt (.ref pb13) := db13
    have dk := dk.same sb13
    have kp := kp.trans (.of sb13)
    have gl := sb13 _ _ gl
    have dkv := dkv.same sb13
    have db6 := db6.same sb13
    have db7 := db7.same sb13
    have db8 := db8.same sb13
    have db9 := db9.same sb13
    have db10 := db10.same sb13
    have db11 := db11.same sb13
    have db12 := db12.same sb13
    refine ⟨_, rfl, _, rfl, _, rfl, (by show 2 ≤ sizeLine; decide), fun pb14 nb14 => tupG nb14 (.cons (.str _) (.cons (.str _) .nil)) fun Gb14 sb14 db14 => ?_⟩
    have db14 : Dd Non Gb14 (Tm.name (n5)).dt (.ref pb14) := db14
    have dk := dk.same sb14
    have kp := kp.trans (.of sb14)
    have gl := sb14 _ _ gl
    have dkv := dkv.same sb14
    have db6 := db6.same sb14
    have db7 := db7.same sb14
    have db8 := db8.same sb14
    have db9 := db9.same sb14
    have db10 := db10.same sb14
    have db11 := db11.same sb14
    have db12 := db12.same sb14
    have db13 := db13.same sb14
    refine ⟨(by show 6 ≤ sizeLine; decide), fun pb15 nb15 => tupG nb15 (.cons (.str _) (.cons db12 (.cons db13 (.cons (.str _) (.cons (.str _) (.cons db14 .nil)))))) fun Gb15 sb15 db15 => ?_⟩
    have db15 : Dd Non Gb15 (Tm.fold (Tm.built (Kd.num) (i) (n4) (n5) (Tm.call (Tm.call (Tm.name (n4)) (Tm.num (1))) (Tm.name (n5)))) (Tm.fault (kd)) (n4) (n5) (Tm.name (n5))).dt (.ref pb15) := db15
    have dk := dk.same sb15
    have kp := kp.trans (.of sb15)
    have gl := sb15 _ _ gl
    have dkv := dkv.same sb15
    have db6 := db6.same sb15
    have db7 := db7.same sb15
    have db8 := db8.same sb15
    have db9 := db9.same sb15
    have db10 := db10.same sb15
    have db11 := db11.same sb15
    have db12 := db12.same sb15
    have db13 := db13.same sb15
    have db14 := db14.same sb15
    have dit : Dd Non _ (tF kd i n4 n5).dt (.ref pb15) := db15
    refine ⟨fun σ F => ∃ v, σ = [some (.ref d), some (.str o), some (.str t), some kv, some (.ref l), some (.str i), some (.int (h : Int)), some (.str n2), some (.str n3), some (.str n4), some (.str n5), some (.ref pb12), some v] ∧ Kp d c H F ∧ Dk F d c ∧ Dd Non F (sec1 kd i n4 n5 n3 h).dt v, ?_, fun σ F z => ?_⟩
    · skip
      refine ⟨_, rfl, (by show 2 ≤ sizeLine; decide), fun pb16 nb16 => objG nb16 fun Gb16 sb16 gb16 => ?_⟩
      have dk := dk.same sb16
      have kp := kp.trans (.of sb16)
      have dit := dit.same sb16
      refine ⟨pb16, _, rfl, .inr (SqT.of gb16), rfl, rfl, ?_⟩
      refine ⟨_, rfl, ?_⟩
      rw [show (if false = true then !inV (V.int (h : Int)) [.int 1, .int 2] else inV (V.int (h : Int)) [.int 1, .int 2]) = decide (h = 1 ∨ h = 2) from inV2 h 1 2]
      refine ite2 (fun c1 => ?_) (fun c1 => ?_)
      · skip
        refine ⟨_, rfl, (by show 1 ≤ sizeLine; decide), fun pb17 nb17 => tupG nb17 (.cons (.str _) .nil) fun Gb17 sb17 db17 => ?_⟩
        have db17 : Dd Non Gb17 (Kd.num).dt (.ref pb17) := db17
        have dk := dk.same sb17
        have kp := kp.trans (.of sb17)
        have dit := dit.same sb17
        refine ⟨_, rfl, (by show 4 ≤ sizeLine; decide), fun pb18 nb18 => tupG nb18 (.cons (.str _) (.cons (.str _) (.cons db17 (.cons dit .nil)))) fun Gb18 sb18 db18 => ?_⟩
        have db18 : Dd Non Gb18 (Tm.fn (n3) (Kd.num) (tF kd i n4 n5)).dt (.ref pb18) := db18
        have dk := dk.same sb18
        have kp := kp.trans (.of sb18)
        have dit := dit.same sb18
        have db17 := db17.same sb18
        refine ⟨(by show 2 ≤ sizeLine; decide), fun pb19 nb19 => tupG nb19 (.cons (.str _) (.cons (.int _) .nil)) fun Gb19 sb19 db19 => ?_⟩
        have db19 : Dd Non Gb19 (Tm.num (2)).dt (.ref pb19) := db19
        have dk := dk.same sb19
        have kp := kp.trans (.of sb19)
        have dit := dit.same sb19
        have db17 := db17.same sb19
        have db18 := db18.same sb19
        refine ⟨(by show 3 ≤ sizeLine; decide), fun pb20 nb20 => tupG nb20 (.cons (.str _) (.cons db18 (.cons db19 .nil))) fun Gb20 sb20 db20 => ?_⟩
        have db20 : Dd Non Gb20 (Tm.call (Tm.fn (n3) (Kd.num) (tF kd i n4 n5)) (Tm.num (2))).dt (.ref pb20) := db20
        have dk := dk.same sb20
        have kp := kp.trans (.of sb20)
        have dit := dit.same sb20
        have db17 := db17.same sb20
        have db18 := db18.same sb20
        have db19 := db19.same sb20
        exact ⟨_, rfl, kp, dk, by rw [show sec1 kd i n4 n5 n3 h = Tm.call (.fn n3 .num (tF kd i n4 n5)) (.num 2) from if_pos (of_decide_eq_true c1)]; exact db20⟩
      · exact ⟨_, rfl, kp, dk, by rw [show sec1 kd i n4 n5 n3 h = tF kd i n4 n5 from if_neg (fun z => c1 (decide_eq_true z))]; exact dit⟩
    clear kp dk dit
    obtain ⟨v, rfl, kp, dk, dit⟩ := z
    refine ⟨fun σ F => ∃ v, σ = [some (.ref d), some (.str o), some (.str t), some kv, some (.ref l), some (.str i), some (.int (h : Int)), some (.str n2), some (.str n3), some (.str n4), some (.str n5), some (.ref pb12), some v] ∧ Kp d c H F ∧ Dk F d c ∧ Dd Non F (sec kd i n4 n5 n2 n3 h).dt v, ?_, fun σ F z => ?_⟩
    · skip
      refine ⟨_, rfl, (by show 2 ≤ sizeLine; decide), fun pb21 nb21 => objG nb21 fun Gb21 sb21 gb21 => ?_⟩
      have dk := dk.same sb21
      have kp := kp.trans (.of sb21)
      have dit := dit.same sb21
      refine ⟨pb21, _, rfl, .inr (SqT.of gb21), rfl, rfl, ?_⟩
      refine ⟨_, rfl, ?_⟩
      rw [show (if false = true then !inV (V.int (h : Int)) [.int 1, .int 3] else inV (V.int (h : Int)) [.int 1, .int 3]) = decide (h = 1 ∨ h = 3) from inV2 h 1 3]
      refine ite2 (fun c1 => ?_) (fun c1 => ?_)
      · skip
        refine ⟨_, rfl, (by show 1 ≤ sizeLine; decide), fun pb22 nb22 => tupG nb22 (.cons (.str _) .nil) fun Gb22 sb22 db22 => ?_⟩
        have db22 : Dd Non Gb22 (Kd.tru).dt (.ref pb22) := db22
        have dk := dk.same sb22
        have kp := kp.trans (.of sb22)
        have dit := dit.same sb22
        refine ⟨_, rfl, (by show 4 ≤ sizeLine; decide), fun pb23 nb23 => tupG nb23 (.cons (.str _) (.cons (.str _) (.cons db22 (.cons dit .nil)))) fun Gb23 sb23 db23 => ?_⟩
        have db23 : Dd Non Gb23 (Tm.fn (n2) (Kd.tru) (sec1 kd i n4 n5 n3 h)).dt (.ref pb23) := db23
        have dk := dk.same sb23
        have kp := kp.trans (.of sb23)
        have dit := dit.same sb23
        have db22 := db22.same sb23
        refine ⟨(by show 2 ≤ sizeLine; decide), fun pb24 nb24 => tupG nb24 (.cons (.str _) (.cons (.bl _) .nil)) fun Gb24 sb24 db24 => ?_⟩
        have db24 : Dd Non Gb24 (Tm.tru (true)).dt (.ref pb24) := db24
        have dk := dk.same sb24
        have kp := kp.trans (.of sb24)
        have dit := dit.same sb24
        have db22 := db22.same sb24
        have db23 := db23.same sb24
        refine ⟨(by show 3 ≤ sizeLine; decide), fun pb25 nb25 => tupG nb25 (.cons (.str _) (.cons db23 (.cons db24 .nil))) fun Gb25 sb25 db25 => ?_⟩
        have db25 : Dd Non Gb25 (Tm.call (Tm.fn (n2) (Kd.tru) (sec1 kd i n4 n5 n3 h)) (Tm.tru (true))).dt (.ref pb25) := db25
        have dk := dk.same sb25
        have kp := kp.trans (.of sb25)
        have dit := dit.same sb25
        have db22 := db22.same sb25
        have db23 := db23.same sb25
        have db24 := db24.same sb25
        exact ⟨_, rfl, kp, dk, by rw [show sec kd i n4 n5 n2 n3 h = Tm.call (.fn n2 .tru (sec1 kd i n4 n5 n3 h)) (.tru true) from if_pos (of_decide_eq_true c1)]; exact db25⟩
      · exact ⟨_, rfl, kp, dk, by rw [show sec kd i n4 n5 n2 n3 h = sec1 kd i n4 n5 n3 h from if_neg (fun z => c1 (decide_eq_true z))]; exact dit⟩
    clear kp dk dit
    obtain ⟨v, rfl, kp, dk, dit⟩ := z
    refine ⟨_, rfl, _, rfl, _, rfl, rfl, ?_⟩
    refine ⟨_, rfl, ite2 (fun c1 => ?_) (fun c1 => ?_)⟩
    · refine ⟨(by show 2 ≤ sizeLine; decide), fun p np => objG np fun G s g => ?_⟩
      have ne : i ≠ o := fun e => by rw [e] at c1; simp at c1
      exact q p v i h G (kp.trans (.of s)) (dk.same s) (by rw [g, decide_eq_true (Or.inl ne)]) (dit.same s) h3 hi
    · refine ⟨_, rfl, rfl, (by show 2 ≤ sizeLine; decide), fun p np => objG np fun G s g => ?_⟩
      have e : i = o := Classical.byContradiction fun e => c1 (by simp [e])
      refine q p v i h G (kp.trans (.of s)) (dk.same s) ?_ (dit.same s) h3 hi
      have eq : decide (V.int (h : Int) = V.int 1) = decide (i ≠ o ∨ h = 1) := by
        by_cases c2 : h = 1
        · exact (decide_eq_true (by rw [c2]; rfl)).trans (decide_eq_true (Or.inr c2)).symm
        · exact (decide_eq_false (fun z => c2 (by injection z with z; omega))).trans (decide_eq_false (fun z => z.elim (fun z => z e) c2)).symm
      rw [← eq]
      exact g
end
end Kq

/-! the law's term, whole: its kind, its form, how great -/
namespace Kq
open PySem PySem.Spec PyProof.Rows L2 Kf Kg Kv Kk Ku
def Tm.nd : Tm → Nat
  | .name _ => 1
  | .fn _ k t => k.size + t.nd + 1
  | .call a b => a.nd + b.nd + 1
  | .num _ => 1
  | .plus a b => a.nd + b.nd + 1
  | .less a b => a.nd + b.nd + 1
  | .tru _ => 1
  | .iff a b c => a.nd + b.nd + c.nd + 1
  | .pair a b => a.nd + b.nd + 1
  | .fst a => a.nd + 1
  | .snd a => a.nd + 1
  | .left a k => a.nd + k.size + 1
  | .right k a => a.nd + k.size + 1
  | .case a _ b _ c => a.nd + b.nd + c.nd + 1
  | .none k => k.size + 1
  | .more a b => a.nd + b.nd + 1
  | .fold a b _ _ t => a.nd + b.nd + t.nd + 1
  | .built k _ _ _ t => k.size + t.nd + 1
  | .alike a b => a.nd + b.nd + 1
  | .fault k => k.size + 1
  | .rounds _ a _ t => a.nd + t.nd + 1
  | .told f fs => (Tm.told f fs).dt.wt
theorem nm8 {x : Str} (h : Nm x) : x.length ≤ 8 := by
  have := h.few
  show x.cps.size ≤ 8
  rw [← Array.length_toList]
  exact this
theorem wlen1 : ("open" : Str).length = 4 ∧ ("num" : Str).length = 3 ∧ ("truth" : Str).length = 5 ∧ ("pair" : Str).length = 4 ∧ ("either" : Str).length = 6 ∧ ("list" : Str).length = 4 ∧ ("fun" : Str).length = 3 ∧ ("name" : Str).length = 4 ∧ ("call" : Str).length = 4 ∧ ("plus" : Str).length = 4 ∧ ("less" : Str).length = 4 ∧ ("if" : Str).length = 2 ∧ ("first" : Str).length = 5 ∧ ("second" : Str).length = 6 ∧ ("left" : Str).length = 4 ∧ ("right" : Str).length = 5 ∧ ("case" : Str).length = 4 ∧ ("none" : Str).length = 4 ∧ ("more" : Str).length = 4 ∧ ("fold" : Str).length = 4 ∧ ("built" : Str).length = 5 ∧ ("alike" : Str).length = 5 ∧ ("fault" : Str).length = 5 ∧ ("rounds" : Str).length = 6 := by decide +kernel
theorem wtK : ∀ {k : Kd}, (∀ x ∈ k.opens, Nm x) → k.dt.wt ≤ 200 * k.size := by
  obtain ⟨w1, w2, w3, w4, w5, w6, w7, _⟩ := wlen1
  intro k
  induction k with
  | opn x =>
    intro h
    have := nm8 (h x List.mem_cons_self)
    show (Dt.tup [.str "open", .str x]).wt ≤ 200 * 1
    simp only [Dt.wt, Dt.wts, w1]
    omega
  | num => intro h; show (Dt.tup [.str "num"]).wt ≤ 200 * 1; simp only [Dt.wt, Dt.wts, w2]; omega
  | tru => intro h; show (Dt.tup [.str "truth"]).wt ≤ 200 * 1; simp only [Dt.wt, Dt.wts, w3]; omega
  | pair a b i j =>
    intro h
    have h1 := i fun x hx => h x (List.mem_append_left _ hx)
    have h2 := j fun x hx => h x (List.mem_append_right _ hx)
    rw [Kd.size_pr]
    show (Dt.tup [.str "pair", a.dt, b.dt]).wt ≤ _
    simp only [Dt.wt, Dt.wts, w4]
    omega
  | eith a b i j =>
    intro h
    have h1 := i fun x hx => h x (List.mem_append_left _ hx)
    have h2 := j fun x hx => h x (List.mem_append_right _ hx)
    rw [Kd.size_ei]
    show (Dt.tup [.str "either", a.dt, b.dt]).wt ≤ _
    simp only [Dt.wt, Dt.wts, w5]
    omega
  | lst a i =>
    intro h
    have h1 := i h
    rw [Kd.size_ls]
    show (Dt.tup [.str "list", a.dt]).wt ≤ _
    simp only [Dt.wt, Dt.wts, w6]
    omega
  | fn a b i j =>
    intro h
    have h1 := i fun x hx => h x (List.mem_append_left _ hx)
    have h2 := j fun x hx => h x (List.mem_append_right _ hx)
    rw [Kd.size_fn]
    show (Dt.tup [.str "fun", a.dt, b.dt]).wt ≤ _
    simp only [Dt.wt, Dt.wts, w7]
    omega
theorem wtT : ∀ {t : Tm}, t.wf → t.dt.wt ≤ 1000 * t.nd := by
  obtain ⟨w1, w2, w3, w4, w5, w6, w7, w8, w9, w10, w11, w12, w13, w14, w15, w16, w17, w18, w19, w20, w21, w22, w23, w24⟩ := wlen1
  intro t
  induction t with
  | name x =>
    intro h
    have hx := h
    have qx := nm8 hx
    simp only [Tm.dt, Tm.nd, Dt.wt, Dt.wts, w1, w2, w3, w4, w5, w6, w7, w8, w9, w10, w11, w12, w13, w14, w15, w16, w17, w18, w19, w20, w21, w22, w23, w24]
    omega
  | fn x k b ihb =>
    intro h
    obtain ⟨hx, hk, hb⟩ := h
    have qx := nm8 hx
    have qk := wtK hk.2
    have qb := ihb hb
    simp only [Tm.dt, Tm.nd, Dt.wt, Dt.wts, w1, w2, w3, w4, w5, w6, w7, w8, w9, w10, w11, w12, w13, w14, w15, w16, w17, w18, w19, w20, w21, w22, w23, w24]
    omega
  | call a b iha ihb =>
    intro h
    obtain ⟨ha, hb⟩ := h
    have qa := iha ha
    have qb := ihb hb
    simp only [Tm.dt, Tm.nd, Dt.wt, Dt.wts, w1, w2, w3, w4, w5, w6, w7, w8, w9, w10, w11, w12, w13, w14, w15, w16, w17, w18, w19, w20, w21, w22, w23, w24]
    omega
  | num i =>
    intro h
    have hi := h
    simp only [Tm.dt, Tm.nd, Dt.wt, Dt.wts, w1, w2, w3, w4, w5, w6, w7, w8, w9, w10, w11, w12, w13, w14, w15, w16, w17, w18, w19, w20, w21, w22, w23, w24]
    omega
  | plus a b iha ihb =>
    intro h
    obtain ⟨ha, hb⟩ := h
    have qa := iha ha
    have qb := ihb hb
    simp only [Tm.dt, Tm.nd, Dt.wt, Dt.wts, w1, w2, w3, w4, w5, w6, w7, w8, w9, w10, w11, w12, w13, w14, w15, w16, w17, w18, w19, w20, w21, w22, w23, w24]
    omega
  | less a b iha ihb =>
    intro h
    obtain ⟨ha, hb⟩ := h
    have qa := iha ha
    have qb := ihb hb
    simp only [Tm.dt, Tm.nd, Dt.wt, Dt.wts, w1, w2, w3, w4, w5, w6, w7, w8, w9, w10, w11, w12, w13, w14, w15, w16, w17, w18, w19, w20, w21, w22, w23, w24]
    omega
  | tru i =>
    intro h
    simp only [Tm.dt, Tm.nd, Dt.wt, Dt.wts, w1, w2, w3, w4, w5, w6, w7, w8, w9, w10, w11, w12, w13, w14, w15, w16, w17, w18, w19, w20, w21, w22, w23, w24]
    omega
  | iff a b c iha ihb ihc =>
    intro h
    obtain ⟨ha, hb, hc⟩ := h
    have qa := iha ha
    have qb := ihb hb
    have qc := ihc hc
    simp only [Tm.dt, Tm.nd, Dt.wt, Dt.wts, w1, w2, w3, w4, w5, w6, w7, w8, w9, w10, w11, w12, w13, w14, w15, w16, w17, w18, w19, w20, w21, w22, w23, w24]
    omega
  | pair a b iha ihb =>
    intro h
    obtain ⟨ha, hb⟩ := h
    have qa := iha ha
    have qb := ihb hb
    simp only [Tm.dt, Tm.nd, Dt.wt, Dt.wts, w1, w2, w3, w4, w5, w6, w7, w8, w9, w10, w11, w12, w13, w14, w15, w16, w17, w18, w19, w20, w21, w22, w23, w24]
    omega
  | fst a iha =>
    intro h
    have ha := h
    have qa := iha ha
    simp only [Tm.dt, Tm.nd, Dt.wt, Dt.wts, w1, w2, w3, w4, w5, w6, w7, w8, w9, w10, w11, w12, w13, w14, w15, w16, w17, w18, w19, w20, w21, w22, w23, w24]
    omega
  | snd a iha =>
    intro h
    have ha := h
    have qa := iha ha
    simp only [Tm.dt, Tm.nd, Dt.wt, Dt.wts, w1, w2, w3, w4, w5, w6, w7, w8, w9, w10, w11, w12, w13, w14, w15, w16, w17, w18, w19, w20, w21, w22, w23, w24]
    omega
  | left a k iha =>
    intro h
    obtain ⟨ha, hk⟩ := h
    have qa := iha ha
    have qk := wtK hk.2
    simp only [Tm.dt, Tm.nd, Dt.wt, Dt.wts, w1, w2, w3, w4, w5, w6, w7, w8, w9, w10, w11, w12, w13, w14, w15, w16, w17, w18, w19, w20, w21, w22, w23, w24]
    omega
  | right k a iha =>
    intro h
    obtain ⟨hk, ha⟩ := h
    have qk := wtK hk.2
    have qa := iha ha
    simp only [Tm.dt, Tm.nd, Dt.wt, Dt.wts, w1, w2, w3, w4, w5, w6, w7, w8, w9, w10, w11, w12, w13, w14, w15, w16, w17, w18, w19, w20, w21, w22, w23, w24]
    omega
  | case a x b y c iha ihb ihc =>
    intro h
    obtain ⟨ha, hx, hb, hy, hc⟩ := h
    have qa := iha ha
    have qx := nm8 hx
    have qb := ihb hb
    have qy := nm8 hy
    have qc := ihc hc
    simp only [Tm.dt, Tm.nd, Dt.wt, Dt.wts, w1, w2, w3, w4, w5, w6, w7, w8, w9, w10, w11, w12, w13, w14, w15, w16, w17, w18, w19, w20, w21, w22, w23, w24]
    omega
  | none k =>
    intro h
    have hk := h
    have qk := wtK hk.2
    simp only [Tm.dt, Tm.nd, Dt.wt, Dt.wts, w1, w2, w3, w4, w5, w6, w7, w8, w9, w10, w11, w12, w13, w14, w15, w16, w17, w18, w19, w20, w21, w22, w23, w24]
    omega
  | more a b iha ihb =>
    intro h
    obtain ⟨ha, hb⟩ := h
    have qa := iha ha
    have qb := ihb hb
    simp only [Tm.dt, Tm.nd, Dt.wt, Dt.wts, w1, w2, w3, w4, w5, w6, w7, w8, w9, w10, w11, w12, w13, w14, w15, w16, w17, w18, w19, w20, w21, w22, w23, w24]
    omega
  | fold a b x y c iha ihb ihc =>
    intro h
    obtain ⟨ha, hb, hx, hy, hc, _⟩ := h
    have qa := iha ha
    have qb := ihb hb
    have qx := nm8 hx
    have qy := nm8 hy
    have qc := ihc hc
    simp only [Tm.dt, Tm.nd, Dt.wt, Dt.wts, w1, w2, w3, w4, w5, w6, w7, w8, w9, w10, w11, w12, w13, w14, w15, w16, w17, w18, w19, w20, w21, w22, w23, w24]
    omega
  | built k o x y b ihb =>
    intro h
    obtain ⟨hk, ho, hx, hy, hb, _⟩ := h
    have qk := wtK hk.2
    have qo := nm8 ho
    have qx := nm8 hx
    have qy := nm8 hy
    have qb := ihb hb
    simp only [Tm.dt, Tm.nd, Dt.wt, Dt.wts, w1, w2, w3, w4, w5, w6, w7, w8, w9, w10, w11, w12, w13, w14, w15, w16, w17, w18, w19, w20, w21, w22, w23, w24]
    omega
  | alike a b iha ihb =>
    intro h
    obtain ⟨ha, hb⟩ := h
    have qa := iha ha
    have qb := ihb hb
    simp only [Tm.dt, Tm.nd, Dt.wt, Dt.wts, w1, w2, w3, w4, w5, w6, w7, w8, w9, w10, w11, w12, w13, w14, w15, w16, w17, w18, w19, w20, w21, w22, w23, w24]
    omega
  | fault k =>
    intro h
    have hk := h
    have qk := wtK hk.2
    simp only [Tm.dt, Tm.nd, Dt.wt, Dt.wts, w1, w2, w3, w4, w5, w6, w7, w8, w9, w10, w11, w12, w13, w14, w15, w16, w17, w18, w19, w20, w21, w22, w23, w24]
    omega
  | rounds m a x b iha ihb =>
    intro h
    obtain ⟨hm, ha, hx, hb⟩ := h
    have qa := iha ha
    have qx := nm8 hx
    have qb := ihb hb
    simp only [Tm.dt, Tm.nd, Dt.wt, Dt.wts, w1, w2, w3, w4, w5, w6, w7, w8, w9, w10, w11, w12, w13, w14, w15, w16, w17, w18, w19, w20, w21, w22, w23, w24]
    omega
  | told x fs =>
    intro h
    show (Tm.told x fs).dt.wt ≤ 1000 * (Tm.told x fs).dt.wt
    omega
end Kq

/-! the law's term of a turn -/
namespace Kq
open PySem PySem.Spec PyProof.Rows L2 Kf Kg Kv Kk Ku
def kinds6 (o t : Str) : List Kd := [.num, .opn t, .num, .lst (.opn o), .tru, .opn o]
theorem k11_ok {NO : List Str} {o t : Str} (ho : o ∈ NO) (ht : t ∈ NO) : ∀ k ∈ kinds11 o t, Ks1 NO 5 2 k ∧ k.isFst = true ∧ ∀ z ∈ k.opens, z = o ∨ z = t := by
  have O := Ks1.opn ho
  have T := Ks1.opn ht
  have h1 : ∀ z ∈ (Kd.opn o).opens, z = o ∨ z = t := fun z h => .inl (List.mem_singleton.mp h)
  have h2 : ∀ z ∈ (Kd.opn t).opens, z = o ∨ z = t := fun z h => .inr (List.mem_singleton.mp h)
  intro k hk
  simp only [kinds11, List.mem_cons, List.not_mem_nil, or_false] at hk
  rcases hk with rfl | rfl | rfl | rfl | rfl | rfl | rfl | rfl | rfl | rfl | rfl
  · exact ⟨Ks1.num.up (by decide) (by decide), rfl, fun z h => by cases h⟩
  · exact ⟨O.up (by decide) (by decide), rfl, h1⟩
  · exact ⟨O.ls.up (by decide) (by decide), rfl, h1⟩
  · exact ⟨(O.fn Ks1.tru).up (by decide) (by decide), rfl, fun z h => h1 z (by simpa [Kd.opens] using h)⟩
  · exact ⟨T.up (by decide) (by decide), rfl, h2⟩
  · exact ⟨(Ks1.num.pr O).up (by decide) (by decide), rfl, fun z h => h1 z (by simpa [Kd.opens] using h)⟩
  · exact ⟨Ks1.tru.up (by decide) (by decide), rfl, fun z h => by cases h⟩
  · exact ⟨(T.ei Ks1.num).up (by decide) (by decide), rfl, fun z h => h2 z (by simpa [Kd.opens] using h)⟩
  · exact ⟨Ks1.num.ls.up (by decide) (by decide), rfl, fun z h => by cases h⟩
  · exact ⟨(Ks1.num.fn T).up (by decide) (by decide), rfl, fun z h => h2 z (by simpa [Kd.opens] using h)⟩
  · exact ⟨(Ks1.num.fn O).up (by decide) (by decide), rfl, fun z h => h1 z (by simpa [Kd.opens] using h)⟩
theorem k6_ok {NO : List Str} {o t : Str} (ho : o ∈ NO) (ht : t ∈ NO) : ∀ k ∈ kinds6 o t, Ks1 NO 2 1 k ∧ k.isDat = true ∧ k.isFn = false ∧ ∀ z ∈ k.opens, z = o ∨ z = t := by
  have O := Ks1.opn ho
  have T := Ks1.opn ht
  have h1 : ∀ z ∈ (Kd.opn o).opens, z = o ∨ z = t := fun z h => .inl (List.mem_singleton.mp h)
  have h2 : ∀ z ∈ (Kd.opn t).opens, z = o ∨ z = t := fun z h => .inr (List.mem_singleton.mp h)
  intro k hk
  simp only [kinds6, List.mem_cons, List.not_mem_nil, or_false] at hk
  rcases hk with rfl | rfl | rfl | rfl | rfl | rfl
  · exact ⟨Ks1.num.up (by decide) (by decide), rfl, rfl, fun z h => by cases h⟩
  · exact ⟨T.up (by decide) (by decide), rfl, rfl, h2⟩
  · exact ⟨Ks1.num.up (by decide) (by decide), rfl, rfl, fun z h => by cases h⟩
  · exact ⟨O.ls.up (by decide) (by decide), rfl, rfl, h1⟩
  · exact ⟨Ks1.tru.up (by decide) (by decide), rfl, rfl, fun z h => by cases h⟩
  · exact ⟨O.up (by decide) (by decide), rfl, rfl, h1⟩
theorem due_ks {NO : List Str} : ∀ {fs : List (Str × Kd)} {k : Kd}, (∀ f ∈ fs, Ks1 NO 5 2 f.2) → Ks1 NO 3 2 k → Ks1 NO (3 + 6 * fs.length) (2 + fs.length) (due fs k)
  | [], k, _, h => h
  | f :: fs, k, hf, h => by
    have z := due_ks (fs := fs) (fun g hg => hf g (List.mem_cons_of_mem _ hg)) h
    exact ((hf f List.mem_cons_self).fn z).up (by rw [List.length_cons]; omega) (by rw [List.length_cons]; omega)
theorem funs_wf {t : Tm} (h : t.wf) : ∀ {fs : List (Str × Kd)}, (∀ f ∈ fs, Nm f.1 ∧ Ak1 f.2) → (funs fs t).wf
  | [], _ => h
  | f :: fs, hf => ⟨(hf f List.mem_cons_self).1, (hf f List.mem_cons_self).2, funs_wf h fun g hg => hf g (List.mem_cons_of_mem _ hg)⟩
theorem funs_dp (t : Tm) : ∀ fs : List (Str × Kd), (funs fs t).dp = t.dp + fs.length
  | [] => rfl
  | f :: fs => by
    show (funs fs t).dp + 1 = _
    rw [funs_dp t fs, List.length_cons]
    omega
theorem funs_nd {t : Tm} : ∀ {fs : List (Str × Kd)}, (∀ f ∈ fs, f.2.size ≤ 5) → (funs fs t).nd ≤ t.nd + 6 * fs.length
  | [], _ => Nat.le_refl _
  | f :: fs, hf => by
    have z := funs_nd (t := t) (fs := fs) fun g hg => hf g (List.mem_cons_of_mem _ hg)
    have := hf f List.mem_cons_self
    show f.2.size + (funs fs t).nd + 1 ≤ _
    rw [List.length_cons]
    omega
/-- an item, and whether it has a kind where the first built has -/
def ItOk (o t c n x y : Str) (k : Kd) (it : Tm) (g : Bool) : Prop := (it = .fault k ∧ g = true) ∨ ∃ (i : Str) (h : Nat), it = sec k i x y c n h ∧ g = decide (i ≠ o ∨ h = 1) ∧ h ≤ 3 ∧ (i = o ∨ (i = t ++ Str.ofString "z" ∧ t.length < 8))
theorem nm_z {t : Str} (h : Nm t) (l : t.length < 8) : Nm (t ++ Str.ofString "z") ∧ (t ++ Str.ofString "z").cps.toList.length = t.cps.toList.length + 1 := by
  have e : (t ++ Str.ofString "z").cps.toList = t.cps.toList ++ [122] := by
    rw [app_cps]
    rfl
  have l2 : t.cps.toList.length < 8 := by
    rw [Array.length_toList]
    exact l
  refine ⟨⟨fun c hc => ?_, ?_, ?_⟩, ?_⟩
  · rw [e] at hc
    rcases List.mem_append.mp hc with hc | hc
    · exact h.low c hc
    · rw [List.mem_singleton.mp hc]
      decide
  · rw [e, List.length_append]
    show _ + 1 ≤ 8
    omega
  · rw [e, List.length_append]
    show 1 ≤ _ + 1
    omega
  · rw [e, List.length_append]
    rfl
theorem final {o t n0 n1 c n x y : Str} {lk : List Str} {fs : List (Str × Kd)} {k : Kd} {it : Tm} {g : Bool} (nd : [n0, n1, c, n, x, y, o, t].Nodup) (nm : ∀ z ∈ [n0, n1, c, n, x, y, o, t], Nm z) (len : ∃ L, ∀ z ∈ [n0, n1, c, n, x, y, o, t], z.cps.toList.length = L)
    (hlk : ∀ z ∈ lk, z = o ∨ z = t) (hl : fs.length ≤ 3) (hf : ∀ f ∈ fs, (f.1 = n0 ∨ f.1 = n1) ∧ f.2 ∈ kinds11 o t) (hk : k ∈ kinds6 o t) (ho : ItOk o t c n x y k it g) :
    ∃ NS NO : List Str, NS.length ≤ 400 ∧ NoK NO ∧ (met lk (putAll Ek.none fs) o k ∨ g = false → Ck lk NS NO (funs fs (bt k o c n it)) Ek.none none) ∧ (¬ met lk (putAll Ek.none fs) o k → g = true → Ck lk NS NO (funs fs (bt k o c n it)) Ek.none (some (due fs (.lst k)))) ∧
      (funs fs (bt k o c n it)).wf ∧ (funs fs (bt k o c n it)).dp < 16 ∧ (funs fs (bt k o c n it)).nd ≤ 1000 := by
  obtain ⟨L, hL⟩ := len
  have M : ∀ {z}, z ∈ [n0, n1, c, n, x, y, o, t] → Nm z := fun h => nm _ h
  have m0 : Nm n0 := nm _ (by simp)
  have m1 : Nm n1 := nm _ (by simp)
  have mc : Nm c := nm _ (by simp)
  have mn : Nm n := nm _ (by simp)
  have mx : Nm x := nm _ (by simp)
  have my : Nm y := nm _ (by simp)
  have mo : Nm o := nm _ (by simp)
  have mt : Nm t := nm _ (by simp)
  simp only [List.nodup_cons, List.mem_cons, List.not_mem_nil, or_false, not_or] at nd
  obtain ⟨_, _, ⟨hcn, hcx, hcy, hco, hct⟩, ⟨hnx, hny, hno, hnt⟩, ⟨hxy, hxo, hxt⟩, ⟨hyo, hyt⟩, hot, _⟩ := nd
  -- the open names
  obtain ⟨NO, i, hNO, hoN, htN, hiN, mi, hi2, hit⟩ : ∃ (NO : List Str) (i : Str), NoK NO ∧ o ∈ NO ∧ t ∈ NO ∧ i ∈ NO ∧ Nm i ∧ (i = o ∨ (i ≠ o ∧ i ≠ t)) ∧ ((it = .fault k ∧ g = true) ∨ ∃ h : Nat, it = sec k i x y c n h ∧ g = decide (i ≠ o ∨ h = 1) ∧ h ≤ 3) := by
    have K2 : NoK [o, t] := ⟨by simp [hot], by show 2 ≤ 40; decide, fun z hz => by
      rcases List.mem_cons.mp hz with rfl | hz
      · exact mo
      · rw [List.mem_singleton.mp hz]
        exact mt⟩
    rcases ho with ⟨e1, e2⟩ | ⟨i, h, e1, e2, e3, rfl | ⟨rfl, tl⟩⟩
    · exact ⟨[o, t], o, K2, by simp, by simp, by simp, mo, .inl rfl, .inl ⟨e1, e2⟩⟩
    · exact ⟨[i, t], i, K2, by simp, by simp, by simp, mo, .inl rfl, .inr ⟨h, e1, e2, e3⟩⟩
    · obtain ⟨mz, lz⟩ := nm_z mt tl
      have lt := hL t (by simp)
      have lo := hL o (by simp)
      have n1 : t ++ Str.ofString "z" ≠ o := fun e => by rw [e] at lz; omega
      have n2 : t ++ Str.ofString "z" ≠ t := fun e => by rw [e] at lz; omega
      refine ⟨[o, t, t ++ Str.ofString "z"], _, ⟨by simp [hot, Ne.symm n1, Ne.symm n2], by show 3 ≤ 40; decide, fun z hz => ?_⟩, by simp, by simp, by simp, mz, .inr ⟨n1, n2⟩, .inr ⟨h, e1, e2, e3⟩⟩
      rcases List.mem_cons.mp hz with rfl | hz
      · exact mo
      · rcases List.mem_cons.mp hz with rfl | hz
        · exact mt
        · rw [List.mem_singleton.mp hz]
          exact mz
  have F11 := k11_ok hoN htN
  obtain ⟨kk, kd, kf, ko⟩ := k6_ok hoN htN k hk
  have kK : Dk1 k := ⟨kd, fun z hz => by rcases ko z hz with rfl | rfl <;> assumption⟩
  have N : Nz o t c n x y [n0, n1, c, n, x, y] NO lk := ⟨⟨by simp, by simp, by simp, by simp⟩, ⟨hoN, htN⟩, ⟨Nat.le_trans (nm8 mc) (by decide), Nat.le_trans (nm8 mn) (by decide), Nat.le_trans (nm8 mx) (by decide), Nat.le_trans (nm8 my) (by decide)⟩, hcn, hxy, hlk⟩
  have k10 := kk.up (s' := 10) (d' := 5) (by decide) (by decide)
  have hE : ∀ z q, putAll Ek.none fs z = some q → ∀ w ∈ q.opens, w = o ∨ w = t := fun z q hz => by
    rcases putAll_mem hz with hz | ⟨f, hfm, _, rfl⟩
    · cases hz
    · exact (F11 _ (hf f hfm).2).2.2
  have hitC : ¬ met lk (putAll Ek.none fs) o k → Ck lk [n0, n1, c, n, x, y] NO it (E1 (putAll Ek.none fs) k o c n) (if g = true then some k else none) := fun nm' => by
    rcases hit with ⟨rfl, rfl⟩ | ⟨h, rfl, rfl, h3⟩
    · exact Ck.fault (kk.gk (by decide) (by decide))
    · have z := ck_sec N hiN hi2 k10 ko kf nm' hE h3
      by_cases c1 : i ≠ o ∨ h = 1
      · rw [if_pos c1] at z
        rw [if_pos (decide_eq_true c1)]
        exact z
      · rw [if_neg c1] at z
        rw [if_neg (fun w => c1 (of_decide_eq_true w))]
        exact z
  obtain ⟨a, b⟩ := ck_bt N k10 hitC
  have hfN : ∀ f ∈ fs, f.1 ∈ [n0, n1, c, n, x, y] ∧ Gk NO f.2 := fun f hfm => ⟨by rcases (hf f hfm).1 with e | e <;> rw [e] <;> simp, (F11 _ (hf f hfm).2).1.gk (by decide) (by decide)⟩
  have wit : it.wf ∧ it.dp ≤ 8 ∧ it.nd ≤ 60 := by
    have sz := kk.sz
    rcases hit with ⟨rfl, _⟩ | ⟨h, rfl, _, h3⟩
    · exact ⟨kK, by show 0 ≤ 8; decide, by show k.size + 1 ≤ 60; omega⟩
    · have wF : (tF k i x y).wf := ⟨⟨⟨rfl, fun z h => by cases h⟩, mi, mx, my, ⟨⟨mx, by show (0 : Int) ≤ 1; decide⟩, my⟩, hxy⟩, kK, mx, my, my, hxy⟩
      have wF1 : (sec1 k i x y n h).wf := by
        unfold sec1
        split
        · exact ⟨⟨mn, ⟨rfl, fun z h => by cases h⟩, wF⟩, by show (0 : Int) ≤ 2; decide⟩
        · exact wF
      refine ⟨?_, ?_, ?_⟩
      · unfold sec
        split
        · exact ⟨⟨mc, ⟨rfl, fun z h => by cases h⟩, wF1⟩, trivial⟩
        · exact wF1
      · have d1 : (tF k i x y).dp = 4 := rfl
        have d2 : (sec1 k i x y n h).dp ≤ 6 := by
          unfold sec1
          split
          · show max ((tF k i x y).dp + 1) 0 + 1 ≤ 6
            rw [d1]
            decide
          · rw [d1]
            decide
        unfold sec
        split
        · show max ((sec1 k i x y n h).dp + 1) 0 + 1 ≤ 8
          omega
        · omega
      · have d1 : (tF k i x y).nd = 1 + (1 + 1 + 1 + 1 + 1) + 1 + (k.size + 1) + 1 + 1 := rfl
        have d2 : (sec1 k i x y n h).nd ≤ 16 + k.size := by
          unfold sec1
          split
          · show 1 + (tF k i x y).nd + 1 + 1 + 1 ≤ _
            rw [d1]
            omega
          · rw [d1]
            omega
        unfold sec
        split
        · show 1 + (sec1 k i x y n h).nd + 1 + 1 + 1 ≤ 60
          omega
        · omega
  refine ⟨[n0, n1, c, n, x, y], NO, by show 6 ≤ 400; decide, hNO, fun z => ?_, fun z hg => ?_, ?_, ?_, ?_⟩
  · exact Ck.funs hfN (a z) (fun r hr => by cases hr)
  · refine Ck.funs hfN (b z hg) (fun r hr j => ?_)
    cases hr
    refine (due_ks (fs := fs.drop j) (fun f hfm => (F11 _ (hf f (List.mem_of_mem_drop hfm)).2).1) (kk.ls.up (by decide) (by decide))).gk ?_ ?_
    · rw [List.length_drop]
      omega
    · rw [List.length_drop]
      omega
  · refine funs_wf ?_ fun f hfm => ?_
    · exact ⟨kK, mo, mc, mn, ⟨⟨mc, wit.1⟩, mn⟩, hcn⟩
    · obtain ⟨e, m⟩ := hf f hfm
      refine ⟨by rcases e with e | e <;> rw [e] <;> assumption, (F11 _ m).2.1, fun z hz => ?_⟩
      rcases (F11 _ m).2.2 z hz with rfl | rfl <;> assumption
  · rw [funs_dp]
    have : (bt k o c n it).dp = max (max 0 it.dp + 1) 0 + 1 + 1 := rfl
    have := wit.2.1
    omega
  · have h1 := funs_nd (t := bt k o c n it) (fs := fs) fun f hfm => (F11 _ (hf f hfm).2).1.sz
    have h2 : (bt k o c n it).nd = k.size + (1 + it.nd + 1 + 1 + 1) + 1 := rfl
    have := wit.2.2
    have := kk.sz
    omega
end Kq

/-! dict(l) of a list of pairs as a dict that stays, dict(zip(a, b)), comprehensions over items -/
namespace Kt
open PySem PySem.Spec PyProof.Rows L2
section
variable {X : Cx}
/-- dict(l) of a list of pairs: the object is known -/
theorem call_dictPF (hcalm : X.calm = true) : CallR X (.type "dict") (fun xs H Q => ∃ (a : Addr) (ps : List Addr) (kvs : List (Key × V)), xs = [.ref a] ∧ SqL X.K H a (ps.map V.ref) ∧ Paired (fun p kv => SqT X.K H p [kV kv.1, kv.2]) ps kvs ∧
    ∀ p o, H p = none → Q (.ref p) (upd H p (.frz o (.dK (mergeK [] kvs))))) := by
  intro pins s σ H xs us Q I r q
  obtain ⟨a, ps, kvs, ex, hq, hp, q⟩ := q
  subst ex
  obtain ⟨u, eu, rx⟩ := vals1 r
  subst eu
  cases rx
  obtain ⟨its, rv, pl, hz⟩ := I.list hq
  have ei := refs_at rv
  subst ei
  rw [List.length_map] at hz
  obtain ⟨prs, raws, rel, hl, hl2, hpr⟩ := raws_of I hp
  have PA := PairArg.list (prog := X.prog) (w := X.w) a (ps.map Value.ref).toArray (fun j => (ps[j]?).getD 0) raws
  refine PySem.call_dict_pairs (knd := mixKind X.prog X.w) (kvs := prs) PA (I.ok.hd hcalm) ⟨?_, by simp [hl2], fun j k v e => ?_⟩ ⟨by rw [hl, hl2], fun i key v e => ?_⟩ (by rw [hl2]; exact hz) fun h' tk hd' k => ?_
  · obtain ⟨o, n, h1, h2, h3, h4⟩ := pl
    exact ⟨o, n, h1, h2, h3, h4⟩
  · obtain ⟨b, kk, e1, e2, e3, e4⟩ := hpr j k v e
    refine ⟨by simp [e1], .inl ?_⟩
    show s.heap.IsTuple ((ps[j]?).getD 0) #[k, v]
    rw [e1]
    exact e2
  · obtain ⟨b, kk, e1, e2, e3, e4⟩ := hpr i key v e
    exact ⟨kk, e3, e4⟩
  · have hm : (s.heap.objs.size == sysModules) = false := beq_eq_false_iff_ne.mpr (Nat.ne_of_gt I.big)
    have hlen : (mergeK [] kvs).length ≤ sizeLine := by
      refine Nat.le_trans (length_mergeK kvs []) ?_
      rw [List.length_nil, Nat.zero_add, rel.length, hl]
      exact hz
    obtain ⟨o, ho⟩ : ∃ o, h'.get? s.heap.objs.size = some o := by
      obtain ⟨o, _, _, h1, _⟩ := hd'
      exact ⟨o, h1⟩
    exact ⟨.ref s.heap.objs.size, upd H s.heap.objs.size (.frz o (.dK (mergeK [] kvs))), I.laid (t' := tk) (fun b o e => k b o (by simp) e) (Nat.le_refl _) (show ObjOk X.prog X.w _ _ _ (.frz o (.dK (mergeK [] kvs))) from ⟨ho, hlen, hm, merged [] prs, KV.merge rel .nil, hd'⟩), rfl, q _ _ (I.hok.fresh (Nat.le_refl _))⟩
theorem neN (a b : Nat) (h : a < b ∨ b < a) : a ≠ b := by omega
theorem notIn (B c : Nat) (h : c < B) : c ∉ [B + 4, B + 3, B, B + 1] := by
  simp only [List.mem_cons, List.not_mem_nil, or_false]
  omega
theorem apartN (B a b : Nat) (ha : a < B) (hb : b < B) : ZipApart (B + 4) (B + 2) (B + 3) B (B + 1) a b := by
  constructor <;> exact neN _ _ (by omega)
/-- what dict(zip(a, b)) asks -/
def tDictZ (K : PySem.W.Frag) (ta : TA) : TE := fun σ H Q => ta σ H fun vs G => ∃ (a b : Addr) (ks : List Key) (ys : List V), vs = [.ref a, .ref b] ∧ SqL K G a (ks.map kV) ∧ SqL K G b ys ∧ ks.length = ys.length ∧
  ∀ p, G p = none → Q (.ref p) (upd G p (.dK (mergeK [] (ks.zip ys))))
theorem kv_zip {P : Program} {w : World} : ∀ {ks : List Key} {ys : List V} {us vs : List Value}, Vals (ks.map kV) us → Vals ys vs → ks.length = ys.length → KV (ks.zip ys) (ks.zip vs) ∧ (ks.zip vs).length = min us.length vs.length ∧ ∀ (i : Nat) (u v : Value), us[i]? = some u → vs[i]? = some v → ∃ k, (ks.zip vs)[i]? = some (k, v) ∧ (mixKind P w).is k u = true
  | [], [], _, _, .nil, .nil, _ => ⟨.nil, rfl, fun i u v e => by simp at e⟩
  | k :: ks, y :: ys, _, _, .cons (b := u0) a r, .cons (b := v0) b t, h => by
    obtain ⟨h1, h2, h3⟩ := kv_zip (P := P) (w := w) r t (by simpa using h)
    refine ⟨.cons ⟨rfl, b⟩ h1, ?_, fun i u v e1 e2 => ?_⟩
    · rw [List.zip_cons_cons, List.length_cons, h2, List.length_cons, List.length_cons]
      omega
    · cases i with
      | zero =>
        cases e1
        cases e2
        exact ⟨k, rfl, kV_is (P := P) (w := w) a⟩
      | succ i => exact h3 i u v (by simpa using e1) (by simpa using e2)
theorem pe_dictZip {e e2 : Expr} {ta : TA} {p p2 pos pos2 : Pos} (hc : X.calm = true) (hg : Gl X "dict") (hm : X.mg "dict" = none) (hg2 : Gl X "zip") (hm2 : X.mg "zip" = none) (ha : PA X [e, e2] ta)
    (hs : starEach [e, e2] X.env = (false, eval e X.env) :: starEach [e2] X.env := by rfl) (hpl : (backTo pos2 (starEach [e2] X.env)).any (·.1) = false := by rfl)
    (hs2 : starEach [.Call (.Name "zip" p2) [e, e2] [] pos2] X.env = (false, eval (.Call (.Name "zip" p2) [e, e2] [] pos2) X.env) :: starEach [] X.env := by rfl) :
    PE X (.Call (.Name "dict" p) [.Call (.Name "zip" p2) [e, e2] [] pos2] [] pos) (tDictZ X.K ta) := by
  refine ⟨fun pins s σ H Q I h => ?_⟩
  refine Call_ (ld_blt I hg hm PyProof.Rows.boot_dict (PyProof.Rows.callWith_type1 (args_cons (Call_ (ld_blt I hg2 hm2 PyProof.Rows.boot_zip (PyProof.Rows.callWith_type1 (thn (ha.run pos2 pins s σ H _ I h) fun us s1 ⟨vs, G, I1, rr, a, b, ks, ys, ev, sx, sy, le, q⟩ => ?_) hs hpl))) hs2) hs2 rfl))
  subst ev
  cases rr with
  | cons ra rr =>
    cases rr with
    | cons rb rr =>
      cases rr
      cases ra
      cases rb
      have hd : X.A.handled = none := I1.ok.hd hc
      obtain ⟨its, rv, p1, z1⟩ := I1.list sx
      obtain ⟨jts, rw, p2, z2⟩ := I1.list sy
      have n1 := rv.length
      have n2 := rw.length
      rw [List.length_map] at n1 z1
      have L1 := p1.lt
      have L2 := p2.lt
      refine call_zip_2 p1.isList p2.isList fun h' hz0 hTI hTO e1 e2 sz kp => args_nil ?_
      generalize hB : s1.heap.objs.size = B at *
      obtain ⟨m1, m2, m3⟩ := kv_zip (P := X.prog) (w := X.w) rv rw le
      have PA := PairArg.zip (prog := X.prog) (w := X.w) (B + 4) (B + 2) (B + 3) B (B + 1) a b (apartN B a b L1 L2) its.toArray jts.toArray
      refine PySem.call_dict_pairs (knd := mixKind X.prog X.w) (kvs := ks.zip jts) PA hd ⟨hz0, hTI, ⟨_, _, hTO⟩, e1, e2, p1.isList.at fun o u => kp _ _ u, p2.isList.at fun o u => kp _ _ u⟩ ⟨by rw [m2, List.size_toArray, List.size_toArray], fun i key v e => ?_⟩ ?_ fun h2 tk hd' k => ?_
      · obtain ⟨g1, g2⟩ := e
        exact m3 i key v (by simpa using g1) (by simpa using g2)
      · rw [List.size_toArray, List.size_toArray]
        omega
      · have hle : s1.heap.objs.size ≤ h'.objs.size := by omega
        have hm : (h'.objs.size == sysModules) = false := beq_eq_false_iff_ne.mpr (Nat.ne_of_gt (Nat.lt_of_lt_of_le I1.big hle))
        have hlen : (mergeK [] (ks.zip ys)).length ≤ sizeLine := by
          refine Nat.le_trans (length_mergeK _ []) ?_
          rw [List.length_nil, Nat.zero_add, List.length_zip]
          omega
        refine ⟨.ref h'.objs.size, upd G h'.objs.size (.dK (mergeK [] (ks.zip ys))), I1.laid (t' := tk) (fun c o e => k c o (fun hc => ?_) (kp c o e)) hle (show ObjOk X.prog X.w _ _ _ (.dK (mergeK [] (ks.zip ys))) from ⟨hlen, hm, merged [] (ks.zip jts), KV.merge m1 .nil, hd'⟩), rfl, q _ (I1.hok.fresh hle)⟩
        have lc := Heap.lt_size e
        rw [hB] at lc
        exact notIn B c lc hc
end
/-- a comprehension over the items of a dict that stays -/
theorem lc_items {d : Addr} {o : Obj} {kvs : List (Key × V)} {g : TG} {tt : TT} {te : TE} {vs : List Nat} {σ : L2.St} {H1 : Hp} {D : Addr} {Qd : Hp → Prop} (Pv : Nat → Hp → Prop) (h0 : Pv 0 (upd H1 D (.lst [])))
    (hl : ∀ i H, i ≤ kvs.length → Pv i H → H d = some (.frz o (.dK kvs)))
    (hs : ∀ (i : Nat) (k : Key) (v : V) (T : Addr) (H : Hp), kvs[i]? = some (k, v) → Pv i H → H T = none →
      g (.ref T) (wipe σ vs) (upd H T (.tup [kV k, v])) fun σ2 H2 => wipe σ2 vs = wipe σ vs ∧ tt σ2 H2 fun b H3 => if b = true then te σ2 H3 fun y H4 => ∃ acc, H4 D = some (.lst acc) ∧ acc.length < sizeLine ∧ Pv (i + 1) (upd H4 D (.lst (acc ++ [y]))) else Pv (i + 1) H3)
    (hd : ∀ H, Pv kvs.length H → Qd H) :
    ∃ W : Nat → Nat → Hp → Prop, (∃ m, W 0 m (upd H1 D (.lst []))) ∧ ∀ (i m : Nat) (H : Hp), W i m H → (Iti d o kvs).stop i H ∧ Qd H ∨ (Iti d o kvs).go i H ∧ ∃ Nx : Hp → Prop, (∀ H', Nx H' → ∃ m', m' < m ∧ W (i + 1) m' H') ∧
      ∀ (x : V) (H' : Hp), (Iti d o kvs).yld i H x H' → g x (wipe σ vs) H' fun σ2 H2 => wipe σ2 vs = wipe σ vs ∧ tt σ2 H2 fun b H3 => if b = true then te σ2 H3 fun y H4 => ∃ acc, H4 D = some (.lst acc) ∧ acc.length < sizeLine ∧ Nx (upd H4 D (.lst (acc ++ [y]))) else Nx H3 := by
  refine ⟨fun i m H => m = kvs.length - i ∧ i ≤ kvs.length ∧ Pv i H, ⟨kvs.length, rfl, Nat.zero_le _, h0⟩, fun i m H z => ?_⟩
  obtain ⟨rfl, hi, p⟩ := z
  have q := hl i H hi p
  by_cases hlt : i < kvs.length
  · refine .inr ⟨⟨q, hlt⟩, Pv (i + 1), fun H' p' => ⟨kvs.length - (i + 1), by omega, rfl, hlt, p'⟩, fun x H' y => ?_⟩
    obtain ⟨T, k, v, e1, rfl, e2, rfl⟩ := y
    exact hs i k v T H e1 p e2
  · have e : i = kvs.length := by omega
    subst e
    exact .inl ⟨⟨q, Nat.le_refl _⟩, hd H p⟩
end Kt

/-! _law_right -/
namespace Kq
open PySem PySem.Spec PyProof.Rows L2 Kf Kg Kv Kk Ku
theorem Paired.revQ {α β : Type} {R : α → β → Prop} : ∀ {xs : List α} {ys : List β}, Paired R xs ys → Paired R xs.reverse ys.reverse
  | _, _, .nil => .nil
  | _, _, .cons (a := a) (b := b) h t => by
    rw [List.reverse_cons, List.reverse_cons]
    exact Paired.snoc (Paired.revQ t) h
/-- a comprehension over the values of a dict that stays -/
theorem lc_vals {d : Addr} {o : Obj} {kvs : List (Key × V)} {g : TG} {tt : TT} {te : TE} {vs : List Nat} {σ : L2.St} {H1 : Hp} {D : Addr} {Qd : Hp → Prop} (Pv : Nat → Hp → Prop) (h0 : Pv 0 (upd H1 D (.lst [])))
    (hl : ∀ i H, i ≤ kvs.length → Pv i H → H d = some (.frz o (.dK kvs)))
    (hs : ∀ (i : Nat) (k : Key) (v : V) (H : Hp), kvs[i]? = some (k, v) → Pv i H →
      g v (wipe σ vs) H fun σ2 H2 => wipe σ2 vs = wipe σ vs ∧ tt σ2 H2 fun b H3 => if b = true then te σ2 H3 fun y H4 => ∃ acc, H4 D = some (.lst acc) ∧ acc.length < sizeLine ∧ Pv (i + 1) (upd H4 D (.lst (acc ++ [y]))) else Pv (i + 1) H3)
    (hd : ∀ H, Pv kvs.length H → Qd H) :
    ∃ W : Nat → Nat → Hp → Prop, (∃ m, W 0 m (upd H1 D (.lst []))) ∧ ∀ (i m : Nat) (H : Hp), W i m H → (Itd d o kvs).stop i H ∧ Qd H ∨ (Itd d o kvs).go i H ∧ ∃ Nx : Hp → Prop, (∀ H', Nx H' → ∃ m', m' < m ∧ W (i + 1) m' H') ∧
      ∀ (x : V) (H' : Hp), (Itd d o kvs).yld i H x H' → g x (wipe σ vs) H' fun σ2 H2 => wipe σ2 vs = wipe σ vs ∧ tt σ2 H2 fun b H3 => if b = true then te σ2 H3 fun y H4 => ∃ acc, H4 D = some (.lst acc) ∧ acc.length < sizeLine ∧ Nx (upd H4 D (.lst (acc ++ [y]))) else Nx H3 := by
  refine ⟨fun i m H => m = kvs.length - i ∧ i ≤ kvs.length ∧ Pv i H, ⟨kvs.length, rfl, Nat.zero_le _, h0⟩, fun i m H z => ?_⟩
  obtain ⟨rfl, hi, p⟩ := z
  have q := hl i H hi p
  by_cases hlt : i < kvs.length
  · refine .inr ⟨⟨q, hlt⟩, Pv (i + 1), fun H' p' => ⟨kvs.length - (i + 1), by omega, rfl, hlt, p'⟩, fun x H' y => ?_⟩
    obtain ⟨e1, k, e2⟩ := y
    subst e1
    exact hs i k x H' e2 p
  · have e : i = kvs.length := by omega
    subst e
    exact .inl ⟨⟨q, Nat.le_refl _⟩, hd H p⟩
theorem prd_split {K : PySem.W.Frag} {F : Hp} : ∀ {fs : List (Str × Kd)} {us : List V}, Paired (PRd F) fs us → ∃ (ps : List Addr) (xs : List (Str × Kd × V)), us = ps.map V.ref ∧ fs = xs.map (fun x => (x.1, x.2.1)) ∧ Paired (fun p kv => SqT K F p [kV kv.1, kv.2]) ps (xs.map fun x => ((Sum.inr x.1 : Key), x.2.2)) ∧ ∀ x ∈ xs, Dd Non F x.2.1.dt x.2.2
  | [], _, .nil => ⟨[], [], rfl, rfl, .nil, fun x h => by cases h⟩
  | f :: fs, _, .cons h t => by
    obtain ⟨ps, xs, rfl, e2, pr, d⟩ := prd_split (K := K) t
    obtain ⟨q, v, rfl, g, dv⟩ := h
    refine ⟨q :: ps, (f.1, f.2, v) :: xs, rfl, by rw [List.map_cons, ← e2], .cons (SqT.of g) pr, fun x hx => ?_⟩
    rcases List.mem_cons.mp hx with rfl | hx
    · exact dv
    · exact d x hx
theorem puts_all : ∀ (xs : List (Str × Kd × V)) (e : Ek), puts e xs = putAll e (xs.map fun x => (x.1, x.2.1))
  | [], _ => rfl
  | x :: xs, e => puts_all xs (e.put x.1 x.2.1)
theorem shTold {k : Kd} (h : Kok k) : SeqAt.shaped (.tuple [.str "told", toD k]) = true ∧ PyData.eqv (.tuple [.str "told", toD k]) (.tuple [.str "told", toD k]) = true := by
  obtain ⟨a, b⟩ := layT k h.1
  have := h.2
  have e1 : (PyData.tuple [.str "told", toD k]).canLay0 = true := by
    have w1 : PyData.strOk "told" = true := by decide +kernel
    simp [PyData.canLay0, PyData.canLayAll0, w1, a]
  refine ⟨?_, SeqAt.eqv_refl _ e1⟩
  unfold SeqAt.shaped
  rw [e1, Bool.true_and]
  refine decide_eq_true ?_
  simp only [PyData.depth, PyData.depthAll]
  omega
theorem nd20 {n0 n1 n2 n3 n4 n5 n6 n7 : Str} (h : [n0, n1, n2, n3, n4, n5, n6, n7].Nodup) : [n0, n1, n2, n3, n4, n5, n6, n7].Nodup := h
theorem sub20 {n0 n1 n2 n3 n4 n5 n6 n7 : Str} (z : Str) (h : z ∈ [n0, n1, n2, n3, n4, n5, n6, n7]) : z ∈ [n0, n1, n2, n3, n4, n5, n6, n7] := h
theorem shRef : SeqAt.shaped (.tuple [.str "refused"]) = true ∧ PyData.eqv (.tuple [.str "refused"]) (.tuple [.str "refused"]) = true := by
  have e1 : (PyData.tuple [.str "refused"]).canLay0 = true := by
    have w1 : PyData.strOk "refused" = true := by decide +kernel
    simp [PyData.canLay0, PyData.canLayAll0, w1]
  refine ⟨?_, SeqAt.eqv_refl _ e1⟩
  unfold SeqAt.shaped
  rw [e1, Bool.true_and]
  refine decide_eq_true ?_
  simp only [PyData.depth, PyData.depthAll]
  decide
section
variable {P : Program} {w : World} {K : PySem.W.Frag} {mg : Str → Option Value} {base : Heap} {NS NO lk : List Str} {cN : Addr} {T : List Addr}
abbrev tRight : Stmt := tp 89
abbrev nRight : List Str := ["_law_deck_here", "_law_names_here", "_law_own", "_law_other", "_law_bindings_here", "_law_kind", "_law_looked", "_law_item", "_law_good", "_law_c", "_law_n", "_law_term", "_law_due", "_law_name", "_law_one", "_law_counting"]
abbrev psRight : List Str := ["_law_deck_here", "_law_names_here"]
theorem scRight : FnScope nRight psRight (defScope tRight) := ⟨rfl, rfl, rfl, by decide +kernel, rfl, by decide +kernel, by decide +kernel⟩
def spRight (T : List Addr) : Sp := fun vs H Q _ => ∃ (d c l : Addr) (n0 n1 n2 n3 n4 n5 n6 n7 : Str), vs = [.ref d, .ref l] ∧ Dk H d c ∧ H l = some (.lst [.str n0, .str n1, .str n2, .str n3, .str n4, .str n5, .str n6, .str n7]) ∧ l ≠ d ∧ l ≠ c ∧ TbS T H ∧
  [n0, n1, n2, n3, n4, n5, n6, n7].Nodup ∧ (∀ z ∈ [n0, n1, n2, n3, n4, n5, n6, n7], Nm z) ∧ (∃ L, ∀ z ∈ [n0, n1, n2, n3, n4, n5, n6, n7], z.cps.toList.length = L) ∧ ∀ G : Hp, Dk G d c → TbS T G → Q (.bl true) G
theorem okRight {f : Addr} {fd : FuncData} {k : Nat} (F : Fun K "_law_right" "_law_right" tRight f fd) (m_sorted : mg "sorted" = none) (m_tuple : mg "tuple" = none) (m_dict : mg "dict" = none)
    (DT : Okd P w K mg base CX0 (k) "_law_told" ["_law_term", "_law_looked"] (spLTold K T 16))
    (DH : Okd P w K mg base CX0 (k) "_law_has" ["_law_kind", "_law_own"] (spLHas 6))
    (DD : Okd P w K mg base CX0 (k) "_law_draw" ["_law_deck_here", "_law_most"] spDraw)
    (DS : Okd P w K mg base CX0 (k) "_law_second" ["_law_deck_here", "_law_own", "_law_other", "_law_kind", "_law_names_here"] spSec)
    (DP : Okd P w K mg base CX0 (k) "_law_pick" ["_law_deck_here", "_law_some"] spPick)
    (DB : Okd P w K mg base CX0 (k) "_law_bindings" ["_law_deck_here", "_law_own", "_law_other", "_law_names_here"] spBind) : FnOk P w K mg base CX0 (k + 1) f fd psRight (spRight T) := by
  obtain ⟨fT, fdT, GT, bT, gT, kT⟩ := DT
  obtain ⟨fH, fdH, GH, bH, gH, kH⟩ := DH
  obtain ⟨fD, fdD, GD, bD, gD, kD⟩ := DD
  obtain ⟨fS, fdS, GS, bS, gS, kS⟩ := DS
  obtain ⟨fP, fdP, GP, bP, gP, kP⟩ := DP
  obtain ⟨fB, fdB, GB, bB, gB, kB⟩ := DB
  refine F.ok scRight (fun vs H Q E h => ?_) (fun cdv A outer s H vs Q E hr h => ?_)
  · obtain ⟨d, c, l, n0, n1, n2, n3, n4, n5, n6, n7, rfl, _⟩ := h
    rfl
  obtain ⟨d, c, l, n0, n1, n2, n3, n4, n5, n6, n7, rfl, dk, gl, old, olc, tb, nd, nm, len, q⟩ := h
  refine ⟨_, pss_cons (ps_asg (pe_tup (pa_cons (pe_ix ix_list (pv 1) pe_int (fun _ _ => rfl)) (pa_cons (pe_ix ix_list (pv 1) pe_int (fun _ _ => rfl)) pa_nil))) (pg_tup rfl (pgs_cons (pg_name (i := 2) scRight.nd rfl (.inr rfl)) (pgs_cons (pg_name (i := 3) scRight.nd rfl (.inl rfl)) pgs_nil))))
    (pss_cons (ps_set (i := 4) scRight.nd rfl (.inl rfl) (pe_call GB hr (by rfl) gB kB bB .nil pass0 (pa_cons (pv 0) (pa_cons (pv 2) (pa_cons (pv 3) (pa_cons (pv 1) pa_nil))))))
    (pss_cons (ps_set (i := 5) scRight.nd rfl (.inl rfl) (pe_call GP hr (by rfl) gP kP bP .nil pass0 (pa_cons (pv 0) (pa_cons (pe_lst (pa_cons (pe_tup (pa_cons pe_str pa_nil)) (pa_cons (pe_tup (pa_cons pe_str (pa_cons (pv 3) pa_nil))) (pa_cons (pe_tup (pa_cons pe_str pa_nil)) (pa_cons (pe_tup (pa_cons pe_str (pa_cons (pe_tup (pa_cons pe_str (pa_cons (pv 2) pa_nil))) pa_nil))) (pa_cons (pe_tup (pa_cons pe_str pa_nil)) (pa_cons (pe_tup (pa_cons pe_str (pa_cons (pv 2) pa_nil))) pa_nil))))))) pa_nil))))
    (pss_cons (ps_set (i := 6) scRight.nd rfl (.inl rfl) (pe_callTy call_tuple_of (by rfl) m_tuple PyProof.Rows.boot_tuple (pa_cons (pe_callB cr_sortedS (by rfl) m_sorted PyProof.Rows.boot_sorted (pa_cons (pe_call GP hr (by rfl) gP kP bP .nil pass0 (pa_cons (pv 0) (pa_cons (pe_lst (pa_cons (pe_lst pa_nil) (pa_cons (pe_lst (pa_cons (pv 3) pa_nil)) (pa_cons (pe_lst pa_nil) (pa_cons (pe_lst (pa_cons (pv 2) pa_nil)) (pa_cons (pe_lst (pa_cons (pv 2) (pa_cons (pv 3) pa_nil))) (pa_cons (pe_lst pa_nil) pa_nil))))))) pa_nil))) pa_nil)) pa_nil)))
    (pss_cons (ps_par (i := 7) (j := 8) (by rfl) scRight.nd rfl rfl (by decide) rfl rfl (pa_cons (pe_tup (pa_cons pe_str (pa_cons (pv 5) pa_nil))) (pa_cons pe_bl pa_nil)) (by rfl))
    (C8.pss_cut (ps_if (pt_cmpR op_eq (pe_call GD hr (by rfl) gD kD bD .nil pass0 (pa_cons (pv 0) (pa_cons pe_int pa_nil))) pe_int (nomark _)) (pss_one (ps_asg (pe_call GS hr (by rfl) gS kS bS .nil pass0 (pa_cons (pv 0) (pa_cons (pv 2) (pa_cons (pv 3) (pa_cons (pv 5) (pa_cons (pv 1) pa_nil)))))) (pg_tup rfl (pgs_cons (pg_name (i := 7) scRight.nd rfl (.inl rfl)) (pgs_cons (pg_name (i := 8) scRight.nd rfl (.inl rfl)) pgs_nil))))) pss_nil)
    (pss_cons (ps_par (i := 9) (j := 10) (by rfl) scRight.nd rfl rfl (by decide) rfl rfl (pa_cons (pe_tup (pa_cons pe_str (pa_cons (pe_ix ix_list (pv 1) pe_int (fun _ _ => rfl)) pa_nil))) (pa_cons (pe_tup (pa_cons pe_str (pa_cons (pe_ix ix_list (pv 1) pe_int (fun _ _ => rfl)) pa_nil))) pa_nil)) (by rfl))
    (pss_cons (ps_set (i := 11) scRight.nd rfl (.inl rfl) (pe_tup (pa_cons pe_str (pa_cons (pv 5) (pa_cons (pv 2) (pa_cons (pe_ix ix_list (pv 1) pe_int (fun _ _ => rfl)) (pa_cons (pe_ix ix_list (pv 1) pe_int (fun _ _ => rfl)) (pa_cons (pe_tup (pa_cons pe_str (pa_cons (pe_tup (pa_cons pe_str (pa_cons (pv 9) (pa_cons (pv 7) pa_nil)))) (pa_cons (pv 10) pa_nil)))) pa_nil))))))))
    (pss_cons (ps_set (i := 12) scRight.nd rfl (.inl rfl) (pe_tup (pa_cons pe_str (pa_cons (pv 5) pa_nil))))
    (pss_cons (ps_for PassesOwn.never rfl (pi_list (pe_revL (pv 4))) (pg_tup rfl (pgs_cons (pg_name (i := 13) scRight.nd rfl (.inl rfl)) (pgs_cons (pg_name (i := 14) scRight.nd rfl (.inl rfl)) pgs_nil)))
      (pss_cons (ps_set (i := 11) scRight.nd rfl (.inl rfl) (pe_tup (pa_cons pe_str (pa_cons (pv 13) (pa_cons (pv 14) (pa_cons (pv 11) pa_nil))))))
    (pss_one (ps_set (i := 12) scRight.nd rfl (.inl rfl) (pe_tup (pa_cons pe_str (pa_cons (pv 14) (pa_cons (pv 12) pa_nil))))))))
    (pss_cons (ps_setLc (i := 15) (own := [("_law_one", 14)]) (g := gName 14) (tt := _) (by rfl) scRight.nd rfl rfl (sw_true rfl rfl rfl (by decide +kernel)) (pi_values (pe_callTy (Kt.call_dictPF rfl) (by rfl) m_dict PyProof.Rows.boot_dict (pa_cons (pv 4) pa_nil))) (blkOk_by (own := [("_law_one", 14)]) (N := nRight) (sc := defScope tRight) (by decide +kernel)) (fun _ _ _ _ _ => (pg_name (i := 14) scRight.nd rfl (.inl rfl))) (fun _ _ _ _ _ => pts_one (pt_val (pe_call GH hr (by rfl) gH kH bH .nil pass0 (pa_cons (pv 14) (pa_cons (pv 2) pa_nil))))) (fun _ _ _ _ _ => (pv 14)))
    (pss_cons (ps_if (PW.pt (pw_or (pt_cmpR (op_neD hr.units) (pv 15) (pe_lst pa_nil) (nomark _)) (pw_or (pt_val (pe_call GH hr (by rfl) gH kH bH .nil pass0 (pa_cons (pv 5) (pa_cons (pv 2) pa_nil)))) (pw_or (pt_cmpR op_in_seq (pv 2) (pv 6) rfl) (pw_or1 (pt_not (pt_val (pv 8)))))))) (pss_one (ps_ret (pe_cmpR (op_eqD hr.units) (pe_call GT hr (by rfl) gT kT bT .nil pass0 (pa_cons (pv 11) (pa_cons (pv 6) pa_nil))) (pe_tup (pa_cons pe_str pa_nil)) (nomark _)))) pss_nil)
    (pss_one (ps_ret (pe_cmpR (op_eqD hr.units) (pe_call GT hr (by rfl) gT kT bT .nil pass0 (pa_cons (pv 11) (pa_cons (pv 6) pa_nil))) (pe_tup (pa_cons pe_str (pa_cons (pv 12) pa_nil))) (nomark _))))))))))))))), ?_⟩
  have ol : l ≠ d ∧ l ≠ c := ⟨old, olc⟩
  refine ⟨_, rfl, l, _, _, _, rfl, rfl, SqL.of gl, atI_nat (j := 6) rfl, _, rfl, l, _, _, _, rfl, rfl, SqL.of gl, atI_nat (j := 7) rfl, (by show 2 ≤ sizeLine; decide), fun pz nz => objG nz fun Gz sz0 gz => ?_⟩
  have dk := dk.same sz0
  have tb := tb.same sz0
  have gl := sz0 _ _ gl
  refine ⟨pz, _, rfl, SqT.of gz, rfl, _, _, rfl, _, _, rfl, rfl, ?_⟩
  refine ⟨_, rfl, _, rfl, _, rfl, _, rfl, d, c, l, n6, n7, n0, n1, _, rfl, dk, gl, ol.1, ol.2, fun pB us fs GB kB eB oB gB pF lF mF => ?_⟩
  have tb := tb.kp kB dk
  have gl := kB _ _ ol.1 ol.2 gl
  have dk := eB
  refine ⟨_, rfl, (by show 1 ≤ sizeLine; decide), fun pr1 nr1 => tupG nr1 (.cons (.str _) .nil) fun Gr1 sr1 dr1 => ?_⟩
  have dr1 : Dd Non Gr1 (Kd.num).dt (.ref pr1) := dr1
  have dk := dk.same sr1
  have tb := tb.same sr1
  have gl := sr1 _ _ gl
  have gB := sr1 _ _ gB
  have pF := Paired.mapP pF fun _ _ h => h.tk (Tk.of sr1)
  refine ⟨_, rfl, (by show 2 ≤ sizeLine; decide), fun pr2 nr2 => tupG nr2 (.cons (.str _) (.cons (.str _) .nil)) fun Gr2 sr2 dr2 => ?_⟩
  have dr2 : Dd Non Gr2 (Kd.opn (n7)).dt (.ref pr2) := dr2
  have dk := dk.same sr2
  have tb := tb.same sr2
  have gl := sr2 _ _ gl
  have gB := sr2 _ _ gB
  have pF := Paired.mapP pF fun _ _ h => h.tk (Tk.of sr2)
  have dr1 := dr1.same sr2
  refine ⟨(by show 1 ≤ sizeLine; decide), fun pr3 nr3 => tupG nr3 (.cons (.str _) .nil) fun Gr3 sr3 dr3 => ?_⟩
  have dr3 : Dd Non Gr3 (Kd.num).dt (.ref pr3) := dr3
  have dk := dk.same sr3
  have tb := tb.same sr3
  have gl := sr3 _ _ gl
  have gB := sr3 _ _ gB
  have pF := Paired.mapP pF fun _ _ h => h.tk (Tk.of sr3)
  have dr1 := dr1.same sr3
  have dr2 := dr2.same sr3
  refine ⟨_, rfl, (by show 2 ≤ sizeLine; decide), fun pr4 nr4 => tupG nr4 (.cons (.str _) (.cons (.str _) .nil)) fun Gr4 sr4 dr4 => ?_⟩
  have dr4 : Dd Non Gr4 (Kd.opn (n6)).dt (.ref pr4) := dr4
  have dk := dk.same sr4
  have tb := tb.same sr4
  have gl := sr4 _ _ gl
  have gB := sr4 _ _ gB
  have pF := Paired.mapP pF fun _ _ h => h.tk (Tk.of sr4)
  have dr1 := dr1.same sr4
  have dr2 := dr2.same sr4
  have dr3 := dr3.same sr4
  refine ⟨(by show 2 ≤ sizeLine; decide), fun pr5 nr5 => tupG nr5 (.cons (.str _) (.cons dr4 .nil)) fun Gr5 sr5 dr5 => ?_⟩
  have dr5 : Dd Non Gr5 (Kd.lst (Kd.opn (n6))).dt (.ref pr5) := dr5
  have dk := dk.same sr5
  have tb := tb.same sr5
  have gl := sr5 _ _ gl
  have gB := sr5 _ _ gB
  have pF := Paired.mapP pF fun _ _ h => h.tk (Tk.of sr5)
  have dr1 := dr1.same sr5
  have dr2 := dr2.same sr5
  have dr3 := dr3.same sr5
  have dr4 := dr4.same sr5
  refine ⟨(by show 1 ≤ sizeLine; decide), fun pr6 nr6 => tupG nr6 (.cons (.str _) .nil) fun Gr6 sr6 dr6 => ?_⟩
  have dr6 : Dd Non Gr6 (Kd.tru).dt (.ref pr6) := dr6
  have dk := dk.same sr6
  have tb := tb.same sr6
  have gl := sr6 _ _ gl
  have gB := sr6 _ _ gB
  have pF := Paired.mapP pF fun _ _ h => h.tk (Tk.of sr6)
  have dr1 := dr1.same sr6
  have dr2 := dr2.same sr6
  have dr3 := dr3.same sr6
  have dr4 := dr4.same sr6
  have dr5 := dr5.same sr6
  refine ⟨_, rfl, (by show 2 ≤ sizeLine; decide), fun pr7 nr7 => tupG nr7 (.cons (.str _) (.cons (.str _) .nil)) fun Gr7 sr7 dr7 => ?_⟩
  have dr7 : Dd Non Gr7 (Kd.opn (n6)).dt (.ref pr7) := dr7
  have dk := dk.same sr7
  have tb := tb.same sr7
  have gl := sr7 _ _ gl
  have gB := sr7 _ _ gB
  have pF := Paired.mapP pF fun _ _ h => h.tk (Tk.of sr7)
  have dr1 := dr1.same sr7
  have dr2 := dr2.same sr7
  have dr3 := dr3.same sr7
  have dr4 := dr4.same sr7
  have dr5 := dr5.same sr7
  have dr6 := dr6.same sr7
  refine ⟨(by show 6 ≤ sizeLine; decide), fun pr8 nr8 => ?_⟩
  have or8 := dk.off nr8
  refine lstG nr8 fun Gr8 sr8 gr8 => ?_
  have gr8 : Gr8 pr8 = some (.lst [.ref pr1, .ref pr2, .ref pr3, .ref pr5, .ref pr6, .ref pr7]) := gr8
  have dk := dk.same sr8
  have tb := tb.same sr8
  have gl := sr8 _ _ gl
  have gB := sr8 _ _ gB
  have pF := Paired.mapP pF fun _ _ h => h.tk (Tk.of sr8)
  have dr1 := dr1.same sr8
  have dr2 := dr2.same sr8
  have dr3 := dr3.same sr8
  have dr4 := dr4.same sr8
  have dr5 := dr5.same sr8
  have dr6 := dr6.same sr8
  have dr7 := dr7.same sr8
  have dK6 : DdL Non _ ((kinds6 n6 n7).map Kd.dt) [.ref pr1, .ref pr2, .ref pr3, .ref pr5, .ref pr6, .ref pr7] := (.cons dr1 (.cons dr2 (.cons dr3 (.cons dr5 (.cons dr6 (.cons dr7 .nil))))))
  refine ⟨d, c, pr8, _, rfl, dk, gr8, or8.1, or8.2, (by show 1 ≤ 6; decide), (by show 6 ≤ 100; decide), fun kv Gr9 kr9 er9 hv => ?_⟩
  obtain ⟨kd, mk, dkv⟩ := pickK dK6 hv
  have dkv := dkv.kn (Kn.tk (Tk.kp kr9 dk))
  have tb := tb.kp kr9 dk
  have gl := kr9 _ _ ol.1 ol.2 gl
  have gB := kr9 _ _ oB.1 oB.2 gB
  have pF := Paired.mapP pF fun _ _ h => h.tk (Tk.kp kr9 dk)
  have dk := er9
  clear dK6 hv
  refine ⟨_, rfl, (by show 0 ≤ sizeLine; decide), fun pr10 nr10 => ?_⟩
  have or10 := dk.off nr10
  refine lstG nr10 fun Gr10 sr10 gr10 => ?_
  have gr10 : Gr10 pr10 = some (.lst []) := gr10
  have dk := dk.same sr10
  have tb := tb.same sr10
  have gl := sr10 _ _ gl
  have gB := sr10 _ _ gB
  have pF := Paired.mapP pF fun _ _ h => h.tk (Tk.of sr10)
  have dkv := dkv.same sr10
  refine ⟨_, rfl, (by show 1 ≤ sizeLine; decide), fun pr11 nr11 => ?_⟩
  have or11 := dk.off nr11
  refine lstG nr11 fun Gr11 sr11 gr11 => ?_
  have gr11 : Gr11 pr11 = some (.lst [.str n7]) := gr11
  have dk := dk.same sr11
  have tb := tb.same sr11
  have gl := sr11 _ _ gl
  have gB := sr11 _ _ gB
  have pF := Paired.mapP pF fun _ _ h => h.tk (Tk.of sr11)
  have dkv := dkv.same sr11
  have gr10 := sr11 _ _ gr10
  refine ⟨(by show 0 ≤ sizeLine; decide), fun pr12 nr12 => ?_⟩
  have or12 := dk.off nr12
  refine lstG nr12 fun Gr12 sr12 gr12 => ?_
  have gr12 : Gr12 pr12 = some (.lst []) := gr12
  have dk := dk.same sr12
  have tb := tb.same sr12
  have gl := sr12 _ _ gl
  have gB := sr12 _ _ gB
  have pF := Paired.mapP pF fun _ _ h => h.tk (Tk.of sr12)
  have dkv := dkv.same sr12
  have gr10 := sr12 _ _ gr10
  have gr11 := sr12 _ _ gr11
  refine ⟨_, rfl, (by show 1 ≤ sizeLine; decide), fun pr13 nr13 => ?_⟩
  have or13 := dk.off nr13
  refine lstG nr13 fun Gr13 sr13 gr13 => ?_
  have gr13 : Gr13 pr13 = some (.lst [.str n6]) := gr13
  have dk := dk.same sr13
  have tb := tb.same sr13
  have gl := sr13 _ _ gl
  have gB := sr13 _ _ gB
  have pF := Paired.mapP pF fun _ _ h => h.tk (Tk.of sr13)
  have dkv := dkv.same sr13
  have gr10 := sr13 _ _ gr10
  have gr11 := sr13 _ _ gr11
  have gr12 := sr13 _ _ gr12
  refine ⟨_, rfl, _, rfl, (by show 2 ≤ sizeLine; decide), fun pr14 nr14 => ?_⟩
  have or14 := dk.off nr14
  refine lstG nr14 fun Gr14 sr14 gr14 => ?_
  have gr14 : Gr14 pr14 = some (.lst [.str n6, .str n7]) := gr14
  have dk := dk.same sr14
  have tb := tb.same sr14
  have gl := sr14 _ _ gl
  have gB := sr14 _ _ gB
  have pF := Paired.mapP pF fun _ _ h => h.tk (Tk.of sr14)
  have dkv := dkv.same sr14
  have gr10 := sr14 _ _ gr10
  have gr11 := sr14 _ _ gr11
  have gr12 := sr14 _ _ gr12
  have gr13 := sr14 _ _ gr13
  refine ⟨(by show 0 ≤ sizeLine; decide), fun pr15 nr15 => ?_⟩
  have or15 := dk.off nr15
  refine lstG nr15 fun Gr15 sr15 gr15 => ?_
  have gr15 : Gr15 pr15 = some (.lst []) := gr15
  have dk := dk.same sr15
  have tb := tb.same sr15
  have gl := sr15 _ _ gl
  have gB := sr15 _ _ gB
  have pF := Paired.mapP pF fun _ _ h => h.tk (Tk.of sr15)
  have dkv := dkv.same sr15
  have gr10 := sr15 _ _ gr10
  have gr11 := sr15 _ _ gr11
  have gr12 := sr15 _ _ gr12
  have gr13 := sr15 _ _ gr13
  have gr14 := sr15 _ _ gr14
  refine ⟨(by show 6 ≤ sizeLine; decide), fun pr16 nr16 => ?_⟩
  have or16 := dk.off nr16
  refine lstG nr16 fun Gr16 sr16 gr16 => ?_
  have gr16 : Gr16 pr16 = some (.lst [.ref pr10, .ref pr11, .ref pr12, .ref pr13, .ref pr14, .ref pr15]) := gr16
  have dk := dk.same sr16
  have tb := tb.same sr16
  have gl := sr16 _ _ gl
  have gB := sr16 _ _ gB
  have pF := Paired.mapP pF fun _ _ h => h.tk (Tk.of sr16)
  have dkv := dkv.same sr16
  have gr10 := sr16 _ _ gr10
  have gr11 := sr16 _ _ gr11
  have gr12 := sr16 _ _ gr12
  have gr13 := sr16 _ _ gr13
  have gr14 := sr16 _ _ gr14
  have gr15 := sr16 _ _ gr15
  refine ⟨d, c, pr16, _, rfl, dk, gr16, or16.1, or16.2, (by show 1 ≤ 6; decide), (by show 6 ≤ 100; decide), fun lv Gr17 kr17 er17 hv => ?_⟩
  have tb := tb.kp kr17 dk
  have gl := kr17 _ _ ol.1 ol.2 gl
  have gB := kr17 _ _ oB.1 oB.2 gB
  have pF := Paired.mapP pF fun _ _ h => h.tk (Tk.kp kr17 dk)
  have dkv := dkv.kn (Kn.tk (Tk.kp kr17 dk))
  have gr10 := kr17 _ _ or10.1 or10.2 gr10
  have gr11 := kr17 _ _ or11.1 or11.2 gr11
  have gr12 := kr17 _ _ or12.1 or12.2 gr12
  have gr13 := kr17 _ _ or13.1 or13.2 gr13
  have gr14 := kr17 _ _ or14.1 or14.2 gr14
  have gr15 := kr17 _ _ or15.1 or15.2 gr15
  have gr16 := kr17 _ _ or16.1 or16.2 gr16
  have dk := er17
  obtain ⟨la, zs, rfl, gla, hz, lz⟩ : ∃ (la : Addr) (zs : List Str), lv = .ref la ∧ Gr17 la = some (.lst (zs.map V.str)) ∧ (∀ z ∈ zs, z = n6 ∨ z = n7) ∧ zs.length ≤ 2 := by
    simp only [List.mem_cons, List.not_mem_nil, or_false] at hv
    rcases hv with rfl | rfl | rfl | rfl | rfl | rfl
    · exact ⟨_, [], rfl, gr10, fun z h => (by cases h), by show 0 ≤ 2; decide⟩
    · exact ⟨_, [n7], rfl, gr11, fun z h => .inr (List.mem_singleton.mp h), by show 1 ≤ 2; decide⟩
    · exact ⟨_, [], rfl, gr12, fun z h => (by cases h), by show 0 ≤ 2; decide⟩
    · exact ⟨_, [n6], rfl, gr13, fun z h => .inl (List.mem_singleton.mp h), by show 1 ≤ 2; decide⟩
    · exact ⟨_, [n6, n7], rfl, gr14, fun z h => (List.mem_cons.mp h).elim .inl fun h => .inr (List.mem_singleton.mp h), by show 2 ≤ 2; decide⟩
    · exact ⟨_, [], rfl, gr15, fun z h => (by cases h), by show 0 ≤ 2; decide⟩
  clear hv
  refine ⟨la, zs, rfl, SqL.of gla, by omega, fun lk pS perm sor nS => ?_⟩
  refine lstG nS fun GS sS gS => ?_
  have dk := dk.same sS
  have tb := tb.same sS
  have gl := sS _ _ gl
  have gB := sS _ _ gB
  have pF := Paired.mapP pF fun _ _ h => h.tk (Tk.of sS)
  have dkv := dkv.same sS
  have hlk : ∀ z ∈ lk, z = n6 ∨ z = n7 := fun z h => hz z (perm.mem_iff.mp h)
  refine ⟨pS, _, rfl, .inl ⟨SqL.of gS, fun lt nlt => objG nlt fun GT sT gT0 => ?_⟩⟩
  have dk := dk.same sT
  have tb := tb.same sT
  have gl := sT _ _ gl
  have gB := sT _ _ gB
  have pF := Paired.mapP pF fun _ _ h => h.tk (Tk.of sT)
  have dkv := dkv.same sT
  clear gla hz lz perm sor gS
  refine ⟨_, rfl, (by show 2 ≤ sizeLine; decide), fun pr18 nr18 => tupG nr18 (.cons (.str _) (.cons dkv .nil)) fun Gr18 sr18 dr18 => ?_⟩
  have dr18 : Dd Non Gr18 (Tm.fault kd).dt (.ref pr18) := dr18
  have dk := dk.same sr18
  have tb := tb.same sr18
  have gl := sr18 _ _ gl
  have gB := sr18 _ _ gB
  have pF := Paired.mapP pF fun _ _ h => h.tk (Tk.of sr18)
  have dkv := dkv.same sr18
  have gT0 := sr18 _ _ gT0
  have dit : Dd Non _ (Tm.fault kd).dt (.ref pr18) := dr18
  refine ⟨_, _, rfl, fun σ F => ∃ (vi : V) (it : Tm) (g : Bool), σ = [some (.ref d), some (.ref l), some (.str n6), some (.str n7), some (.ref pB), some kv, some (.ref lt), some vi, some (.bl g), none, none, none, none, none, none, none] ∧ Dk F d c ∧ TbS T F ∧ F l = some (.lst [.str n0, .str n1, .str n2, .str n3, .str n4, .str n5, .str n6, .str n7]) ∧ F pB = some (.lst us) ∧ Paired (PRd F) fs us ∧ Dd Non F kd.dt kv ∧ F lt = some (.tup (lk.map V.str)) ∧ Dd Non F it.dt vi ∧ ItOk n6 n7 n2 n3 n4 n5 kd it g, ?_, fun σ F z => ?_⟩
  · skip
    refine ⟨_, rfl, d, c, 2, rfl, dk, by decide, by decide, fun m9 G9 m90 m91 k9 e9 => ?_⟩
    have tb := tb.kp k9 dk
    have gl := k9 _ _ ol.1 ol.2 gl
    have gB := k9 _ _ oB.1 oB.2 gB
    have pF := Paired.mapP pF fun _ _ h => h.tk (Tk.kp k9 dk)
    have dkv := dkv.kn (Kn.tk (Tk.kp k9 dk))
    have gT0 := Tk.kp k9 dk _ _ gT0
    have dit := dit.kn (Kn.tk (Tk.kp k9 dk))
    have dk := e9
    refine ⟨rfl, _, rfl, ite2 (fun c9 => ?_) (fun c9 => ⟨_, _, true, rfl, dk, tb, gl, gB, pF, dkv, gT0, dit, .inl ⟨rfl, rfl⟩⟩)⟩
    refine ⟨_, rfl, _, rfl, _, rfl, _, rfl, _, rfl, d, c, l, n6, n7, n0, n1, n2, n3, n4, n5, _, kv, kd, rfl, dk, gl, ol.1, ol.2, dkv, Nat.le_trans (nm8 (nm n7 (by simp))) (by decide), fun p8 vi i h G8 k8 e8 g8 dvi h3 hi => ?_⟩
    have tb := tb.kp k8 dk
    have gl := k8 _ _ ol.1 ol.2 gl
    have gB := k8 _ _ oB.1 oB.2 gB
    have pF := Paired.mapP pF fun _ _ h => h.tk (Tk.kp k8 dk)
    have dkv := dkv.kn (Kn.tk (Tk.kp k8 dk))
    have gT0 := Tk.kp k8 dk _ _ gT0
    have dit := dit.kn (Kn.tk (Tk.kp k8 dk))
    have dk := e8
    exact ⟨p8, _, rfl, SqT.of g8, rfl, _, _, rfl, _, _, rfl, rfl, vi, _, _, rfl, dk, tb, gl, gB, pF, dkv, gT0, dvi, .inr ⟨i, h, rfl, rfl, h3, hi⟩⟩
  clear dk tb gl gB pF dkv gT0 dit
  obtain ⟨vi, it, g, rfl, dk, tb, gl, gB, pF, dkv, gT0, dit, hit⟩ := z
  refine ⟨_, rfl, l, _, _, _, rfl, rfl, SqL.of gl, atI_nat (j := 2) rfl, (by show 2 ≤ sizeLine; decide), fun pr19 nr19 => tupG nr19 (.cons (.str _) (.cons (.str _) .nil)) fun Gr19 sr19 dr19 => ?_⟩
  have dr19 : Dd Non Gr19 (Tm.name (n2)).dt (.ref pr19) := dr19
  have dk := dk.same sr19
  have tb := tb.same sr19
  have gl := sr19 _ _ gl
  have gB := sr19 _ _ gB
  have pF := Paired.mapP pF fun _ _ h => h.tk (Tk.of sr19)
  have dkv := dkv.same sr19
  have gT0 := sr19 _ _ gT0
  have dit := dit.same sr19
  refine ⟨_, rfl, l, _, _, _, rfl, rfl, SqL.of gl, atI_nat (j := 3) rfl, (by show 2 ≤ sizeLine; decide), fun pr20 nr20 => tupG nr20 (.cons (.str _) (.cons (.str _) .nil)) fun Gr20 sr20 dr20 => ?_⟩
  have dr20 : Dd Non Gr20 (Tm.name (n3)).dt (.ref pr20) := dr20
  have dk := dk.same sr20
  have tb := tb.same sr20
  have gl := sr20 _ _ gl
  have gB := sr20 _ _ gB
  have pF := Paired.mapP pF fun _ _ h => h.tk (Tk.of sr20)
  have dkv := dkv.same sr20
  have gT0 := sr20 _ _ gT0
  have dit := dit.same sr20
  have dr19 := dr19.same sr20
  refine ⟨_, _, rfl, _, rfl, _, rfl, _, rfl, l, _, _, _, rfl, rfl, SqL.of gl, atI_nat (j := 2) rfl, _, rfl, l, _, _, _, rfl, rfl, SqL.of gl, atI_nat (j := 3) rfl, _, rfl, _, rfl, (by show 3 ≤ sizeLine; decide), fun pr21 nr21 => tupG nr21 (.cons (.str _) (.cons dr19 (.cons dit .nil))) fun Gr21 sr21 dr21 => ?_⟩
  have dr21 : Dd Non Gr21 (Tm.call (Tm.name (n2)) (it)).dt (.ref pr21) := dr21
  have dk := dk.same sr21
  have tb := tb.same sr21
  have gl := sr21 _ _ gl
  have gB := sr21 _ _ gB
  have pF := Paired.mapP pF fun _ _ h => h.tk (Tk.of sr21)
  have dkv := dkv.same sr21
  have gT0 := sr21 _ _ gT0
  have dit := dit.same sr21
  have dr19 := dr19.same sr21
  have dr20 := dr20.same sr21
  refine ⟨_, rfl, (by show 3 ≤ sizeLine; decide), fun pr22 nr22 => tupG nr22 (.cons (.str _) (.cons dr21 (.cons dr20 .nil))) fun Gr22 sr22 dr22 => ?_⟩
  have dr22 : Dd Non Gr22 (Tm.call (Tm.call (Tm.name (n2)) (it)) (Tm.name (n3))).dt (.ref pr22) := dr22
  have dk := dk.same sr22
  have tb := tb.same sr22
  have gl := sr22 _ _ gl
  have gB := sr22 _ _ gB
  have pF := Paired.mapP pF fun _ _ h => h.tk (Tk.of sr22)
  have dkv := dkv.same sr22
  have gT0 := sr22 _ _ gT0
  have dit := dit.same sr22
  have dr19 := dr19.same sr22
  have dr20 := dr20.same sr22
  have dr21 := dr21.same sr22
  refine ⟨(by show 6 ≤ sizeLine; decide), fun pr23 nr23 => tupG nr23 (.cons (.str _) (.cons dkv (.cons (.str _) (.cons (.str _) (.cons (.str _) (.cons dr22 .nil)))))) fun Gr23 sr23 dr23 => ?_⟩
  have dr23 : Dd Non Gr23 (Tm.built (kd) (n6) (n2) (n3) (Tm.call (Tm.call (Tm.name (n2)) (it)) (Tm.name (n3)))).dt (.ref pr23) := dr23
  have dk := dk.same sr23
  have tb := tb.same sr23
  have gl := sr23 _ _ gl
  have gB := sr23 _ _ gB
  have pF := Paired.mapP pF fun _ _ h => h.tk (Tk.of sr23)
  have dkv := dkv.same sr23
  have gT0 := sr23 _ _ gT0
  have dit := dit.same sr23
  have dr19 := dr19.same sr23
  have dr20 := dr20.same sr23
  have dr21 := dr21.same sr23
  have dr22 := dr22.same sr23
  have dtm : Dd Non _ (bt kd n6 n2 n3 it).dt (.ref pr23) := dr23
  refine ⟨_, rfl, (by show 2 ≤ sizeLine; decide), fun pr24 nr24 => tupG nr24 (.cons (.str _) (.cons dkv .nil)) fun Gr24 sr24 dr24 => ?_⟩
  have dr24 : Dd Non Gr24 (Kd.lst (kd)).dt (.ref pr24) := dr24
  have dk := dk.same sr24
  have tb := tb.same sr24
  have gB := sr24 _ _ gB
  have pF := Paired.mapP pF fun _ _ h => h.tk (Tk.of sr24)
  have dkv := dkv.same sr24
  have gT0 := sr24 _ _ gT0
  have dit := dit.same sr24
  have dtm := dtm.same sr24
  have ddu : Dd Non _ (Kd.lst kd).dt (.ref pr24) := dr24
  refine ⟨_, rfl, pB, us, rfl, SqL.of gB, fun pR nR => ?_⟩
  have oR := dk.off nR
  refine lstG nR fun GR sR gR => ?_
  have dk := dk.same sR
  have tb := tb.same sR
  have gB := sR _ _ gB
  have pF := Paired.mapP pF fun _ _ h => h.tk (Tk.of sR)
  have dkv := dkv.same sR
  have gT0 := sR _ _ gT0
  have dtm := dtm.same sR
  have ddu := ddu.same sR
  have lus := pF.length
  refine ⟨pR, rfl, ⟨_, SqL.of gR⟩, for_list (K := K) (a := pR) (xs := us.reverse) (fun j σ F => ∃ (vt vd : V) (y13 y14 : Option V), σ = [some (.ref d), some (.ref l), some (.str n6), some (.str n7), some (.ref pB), some kv, some (.ref lt), some vi, some (.bl g), some (.ref pr19), some (.ref pr20), some vt, some vd, y13, y14, none] ∧ Same GR F ∧ Dd Non F ((fs.reverse.take j).foldl (fun t f => Tm.fn f.1 f.2 t) (bt kd n6 n2 n3 it)).dt vt ∧ Dd Non F ((fs.reverse.take j).foldl (fun r f => Kd.fn f.2 r) (Kd.lst kd)).dt vd) ⟨_, _, _, _, rfl, Same.refl _, dtm, ddu⟩ (fun j σ F _ z => ?_) (fun j u σ F hu z => ?_) (fun σ F z => ?_)⟩
  · obtain ⟨vt, vd, y13, y14, rfl, sF, _⟩ := z
    exact SqL.of (sF _ _ gR)
  · obtain ⟨vt, vd, y13, y14, rfl, sF, d1, d2⟩ := z
    have pR2 : Paired (PRd F) fs.reverse us.reverse := Paired.revQ (Paired.mapP pF fun _ _ h => h.tk (Tk.of sF))
    obtain ⟨f, hf, ⟨qf, vf, rfl, gqf, df⟩⟩ := Paired.atP pR2 hu
    have etk : fs.reverse.take (j + 1) = fs.reverse.take j ++ [f] := by rw [List.take_add_one, hf]; rfl
    refine ⟨qf, _, rfl, SqT.of gqf, rfl, _, _, rfl, _, _, rfl, rfl, ?_⟩
    refine ⟨_, rfl, _, rfl, _, rfl, (by show 4 ≤ sizeLine; decide), fun q1 w1 => tupG w1 (.cons (.str _) (.cons (.str _) (.cons df (.cons d1 .nil)))) fun F1 s1 e1 => ?_⟩
    have d2 := d2.same s1
    have df := df.same s1
    refine ⟨_, rfl, _, rfl, (by show 3 ≤ sizeLine; decide), fun q2 w2 => tupG w2 (.cons (.str _) (.cons df (.cons d2 .nil))) fun F2 s2 e2 => ?_⟩
    refine ⟨_, _, _, _, rfl, sF.trans (s1.trans s2), ?_, ?_⟩
    · rw [etk, List.foldl_append]
      exact e1.same s2
    · rw [etk, List.foldl_append]
      exact e2
  obtain ⟨vt, vd, y13, y14, rfl, sF, d1, d2⟩ := z
  rw [← List.length_reverse, List.length_reverse, List.length_reverse, ← lus, ← List.length_reverse (as := fs), List.take_length, List.foldl_reverse] at d1 d2
  have dk := dk.same sF
  have tb := tb.same sF
  have gB := sF _ _ gB
  have pF := Paired.mapP pF fun _ _ h => h.tk (Tk.of sF)
  have dkv := dkv.same sF
  have gT0 := sF _ _ gT0
  have dT : Dd Non F (funs fs (bt kd n6 n2 n3 it)).dt vt := d1
  have dD : Dd Non F (due fs (.lst kd)).dt vd := d2
  clear d1 d2
  obtain ⟨NS, NO, hNS, hNO, ckN, ckY, wf, dpT0, ndT⟩ := final (lk := lk) (nd20 nd) (fun z hz => nm z (sub20 z hz)) (by obtain ⟨L, hL⟩ := len; exact ⟨L, fun z hz => hL z (sub20 z hz)⟩) hlk lF mF mk hit
  have hwt : (funs fs (bt kd n6 n2 n3 it)).dt.wt + 2 ≤ sizeLine := by
    have := wtT wf
    have e0 : sizeLine = 16777216 := rfl
    omega
  have htr := trm_of wf
  have m6 : Nm n6 := nm n6 (by simp)
  have m7 : Nm n7 := nm n7 (by simp)
  have F11 := k11_ok (NO := [n6, n7]) (o := n6) (t := n7) (by simp) (by simp)
  have nm67 : ∀ z, z = n6 ∨ z = n7 → Nm z := fun z h => by rcases h with rfl | rfl <;> assumption
  have kok11 : ∀ q ∈ kinds11 n6 n7, Kok q ∧ q.dp < 6 := fun q hq => ⟨⟨fun z hz => nm67 z ((F11 q hq).2.2 z hz), by have := (F11 q hq).1.dp; omega⟩, by have := (F11 q hq).1.dp; omega⟩
  obtain ⟨kk6, _, _, ko6⟩ := k6_ok (NO := [n6, n7]) (o := n6) (t := n7) (by simp) (by simp) kd mk
  have kok6 : Kok kd := ⟨fun z hz => nm67 z (ko6 z hz), by have := kk6.dp; omega⟩
  obtain ⟨ps, xs, rfl, efs, pps, dxs⟩ := prd_split (K := K) pF
  have re : RE (fun k v => Dd Non F k.dt v) (mergeK [] (xs.map fun x => ((Sum.inr x.1 : Key), x.2.2))) (putAll Ek.none fs) := by
    rw [efs, ← puts_all]
    exact RE.mg dxs ⟨fun y _ => rfl, fun y k z => by cases z⟩
  have nmd : NmD (fs.map (·.1)) (mergeK [] (xs.map fun x => ((Sum.inr x.1 : Key), x.2.2))) := NmD.nil.merge fun kv hk => by
    obtain ⟨x, hx, rfl⟩ := List.mem_map.mp hk
    exact ⟨x.1, by rw [efs, List.map_map]; exact List.mem_map.mpr ⟨x, hx, rfl⟩, rfl⟩
  have lM := nmd.len
  rw [List.length_map] at lM
  have hEm : ∀ z q, putAll Ek.none fs z = some q → Kok q ∧ q.dp < 6 := fun z q hz => by
    rcases putAll_mem hz with hz | ⟨f, hfm, _, rfl⟩
    · cases hz
    · exact kok11 _ (mF f hfm).2
  refine ⟨_, rfl, pB, ps, _, rfl, SqL.of gB, pps, fun pd od npd => ⟨pd, od, _, rfl, upd_same, fun D nD => ?_⟩⟩
  generalize mergeK [] (xs.map fun x => ((Sum.inr x.1 : Key), x.2.2)) = M at re nmd lM nD ⊢
  have sd := newS (o := .frz od (.dK M)) npd
  have gpd : (upd F pd (.frz od (.dK M))) pd = some (.frz od (.dK M)) := upd_same
  generalize upd F pd (.frz od (.dK M)) = F1 at sd gpd nD ⊢
  have dk := dk.same sd
  have tb := tb.same sd
  have dkv := dkv.same sd
  have gT0 := sd _ _ gT0
  have dT := dT.same sd
  have dD := dD.same sd
  refine lc_vals (d := pd) (o := od) (kvs := M) (fun i F2 => Same F1 F2 ∧ ∃ (acc : List V) (ts : List Kd), F2 D = some (.lst acc) ∧ DdL Non F2 (ts.map Kd.dt) acc ∧ ts.length ≤ i ∧ (∀ c ∈ ts, Kok c) ∧ (ts = [] ↔ ∀ j, j < i → ∀ z v q, M[j]? = some (Sum.inr z, v) → putAll Ek.none fs z = some q → n6 ∉ q.opens)) ⟨newS nD, [], [], upd_same, .nil, Nat.le_refl _, fun c h => (by cases h), ⟨fun _ j hj => absurd hj (Nat.not_lt_zero _), fun _ => rfl⟩⟩ (fun i F2 _ z => z.1 _ _ gpd) (fun i key v F2 hM z => ?_) (fun F2 z => ?_)
  · obtain ⟨s2, acc, ts, gA, dA, lt2, mt, ht⟩ := z
    obtain ⟨z, hz, rfl⟩ := nmd.ns key (List.mem_map.mpr ⟨_, List.mem_of_getElem? hM, rfl⟩)
    have hval := valV_at nmd.nd hM
    have li := (List.getElem?_eq_some_iff.mp hM).1
    cases hez : putAll Ek.none fs z with
    | none =>
      rw [re.1 z hez] at hval
      cases hval
    | some q0 =>
      obtain ⟨v0, e1, dv⟩ := re.2 z q0 hez
      obtain rfl : v0 = v := Option.some.inj (e1.symm.trans hval)
      have dv := dv.same (sd.trans s2)
      obtain ⟨okq, dpq⟩ := hEm z q0 hez
      refine ⟨rfl, _, rfl, _, rfl, v0, q0, n6, rfl, dpq, m6, okq, dv, fun G3 s3 => ⟨_, rfl, ite2 (fun e => ?_) (fun e => ?_)⟩⟩
      · have e := of_decide_eq_true e
        have la := dA.len
        rw [List.length_map] at la
        refine ⟨_, rfl, acc, s3 _ _ gA, small1000 (by omega), smk (s2.trans s3) nD, acc ++ [v0], ts ++ [q0], upd_same, ?_, ?_, ?_, ?_⟩
        · rw [List.map_append]
          have ntD : ∀ xs, G3 D ≠ some (.tup xs) := fun _ z => by rw [s3 _ _ gA] at z; cases z
          have kn : Kn Non G3 (upd G3 D (.lst (acc ++ [v0]))) := Kn.rfl.put (fun z => z) ntD
          exact ((dA.same s3).kn kn).app (.cons ((dv.same s3).kn kn) .nil)
        · rw [List.length_append]
          exact Nat.succ_le_succ lt2
        · intro c2 h2
          rcases List.mem_append.mp h2 with h2 | h2
          · exact mt c2 h2
          · rw [List.mem_singleton.mp h2]
            exact okq
        · exact ⟨fun z => absurd z (by simp), fun w => absurd e (w i (Nat.lt_succ_self _) z v0 q0 hM hez)⟩
      · refine ⟨s2.trans s3, acc, ts, s3 _ _ gA, dA.same s3, by omega, mt, ?_⟩
        rw [ht]
        constructor
        · intro w j hj z1 v1 q1 hj1 hz1
          rcases Nat.lt_succ_iff_lt_or_eq.mp hj with hj | rfl
          · exact w j hj z1 v1 q1 hj1 hz1
          · obtain ⟨ez, rfl⟩ := Prod.mk.inj (Option.some.inj (hj1.symm.trans hM))
            obtain rfl := Sum.inr.inj ez
            obtain rfl : q1 = q0 := Option.some.inj (hz1.symm.trans hez)
            exact fun w => e (decide_eq_true w)
        · exact fun w j hj => w j (Nat.lt_succ_of_lt hj)
  obtain ⟨s2, acc, ts, gA, dA, lt2, mt, ht⟩ := z
  have cnt : ts = [] ↔ ∀ z q, putAll Ek.none fs z = some q → n6 ∉ q.opens := by
    rw [ht]
    constructor
    · intro w z q hz
      obtain ⟨v0, e1, _⟩ := re.2 z q hz
      obtain ⟨j, hj⟩ := valV_mem e1
      exact w j (List.getElem?_eq_some_iff.mp hj).1 z v0 q hj hz
    · exact fun w j _ z v q _ hz => w z q hz
  have dk := dk.same s2
  have tb := tb.same s2
  have dkv := dkv.same s2
  have gT0 := s2 _ _ gT0
  have dT := dT.same s2
  have dD := dD.same s2
  refine ⟨_, rfl, (by show 0 ≤ sizeLine; decide), fun q3 nq3 => ?_⟩
  have s3 := newS (o := .lst []) nq3
  have sts := shTs (ts := ts) mt
  have sn := shTs (ts := []) fun c hc => by cases hc
  have dp3 : Dp K (upd F2 q3 (.lst [])) (.ref D) (.list (ts.map toD)) := Dp.lst (SqL.of (s3 _ _ gA)) (DdL.kinds (dA.same s3))
  have dp4 : Dp K (upd F2 q3 (.lst [])) (.ref q3) (.list (([] : List Kd).map toD)) := Dp.lst (SqL.of upd_same) (DdL.kinds (ts := []) (N := Non) .nil)
  generalize upd F2 q3 (.lst []) = F3 at s3 dp3 dp4 ⊢
  have dk := dk.same s3
  have tb := tb.same s3
  have dkv := dkv.same s3
  have gT0 := s3 _ _ gT0
  have dT := dT.same s3
  have dD := dD.same s3
  refine ⟨_, _, dp3, dp4, sts.1, sn.1, _, rfl, ite2 (fun b1 => ?_) (fun b1 => ?_)⟩
  · have hb : ¬ ts = [] := fun e => by
      rw [e] at b1
      simp [PyData.eqv, PyData.eqvAll] at b1
    have hb2 : met lk (putAll Ek.none fs) n6 kd := .inr (.inr (Classical.byContradiction fun w => hb (cnt.mpr fun z q0 hz ho => w ⟨z, q0, hz, ho⟩)))
    have ck := ckN (.inl hb2)
    refine ⟨_, rfl, _, rfl, vt, lt, _, NS, NO, lk, rfl, hNS, hNO, dT, hwt, gT0, tb, htr, dpT0, ck.1, ?_⟩
    rw [ck.2]
    intro pr25 Gr25 mr25 gr25
    refine ⟨(by show 1 ≤ sizeLine; decide), fun wr25 nwr25 => ?_⟩
    have sw := newS (o := .tup [.str "refused"]) nwr25
    refine ⟨_, _, Dp.tup (SqT.of (sw _ _ gr25)) (.cons (.str _) .nil), Dp.tup (SqT.of upd_same) (.cons (.str _) .nil), shRef.1, shRef.1, ?_⟩
    rw [shRef.2]
    exact q _ ((dk.sm mr25 tb).same sw) (mr25.2.same sw)
  have hts : ts = [] := by
    cases ts with
    | nil => rfl
    | cons a r => exact absurd (by rw [show ([] : List Kd).map toD = [] from rfl, eqvNilT]; rfl) b1
  have nE := cnt.mp hts
  refine ⟨_, rfl, _, rfl, kv, kd, n6, rfl, by have := kk6.dp; omega, m6, kok6, dkv, fun F4 s4 => ⟨_, rfl, ite2 (fun b2 => ?_) (fun b2 => ?_)⟩⟩
  · skip
    have dk := dk.same s4
    have tb := tb.same s4
    have dkv := dkv.same s4
    have gT0 := s4 _ _ gT0
    have dT := dT.same s4
    have dD := dD.same s4
    have ck := ckN (.inl (.inr (.inl (of_decide_eq_true b2))))
    refine ⟨_, rfl, _, rfl, vt, lt, _, NS, NO, lk, rfl, hNS, hNO, dT, hwt, gT0, tb, htr, dpT0, ck.1, ?_⟩
    rw [ck.2]
    intro pr26 Gr26 mr26 gr26
    refine ⟨(by show 1 ≤ sizeLine; decide), fun wr26 nwr26 => ?_⟩
    have sw := newS (o := .tup [.str "refused"]) nwr26
    refine ⟨_, _, Dp.tup (SqT.of (sw _ _ gr26)) (.cons (.str _) .nil), Dp.tup (SqT.of upd_same) (.cons (.str _) .nil), shRef.1, shRef.1, ?_⟩
    rw [shRef.2]
    exact q _ ((dk.sm mr26 tb).same sw) (mr26.2.same sw)
  have dk := dk.same s4
  have tb := tb.same s4
  have dkv := dkv.same s4
  have gT0 := s4 _ _ gT0
  have dT := dT.same s4
  have dD := dD.same s4
  have n2k : n6 ∉ kd.opens := fun w => b2 (decide_eq_true w)
  refine ⟨_, rfl, _, rfl, lt, _, rfl, .inr (SqT.of gT0), rfl, flat_strs lk, _, rfl, ite2 (fun b3 => ?_) (fun b3 => ?_)⟩
  · skip
    have ck := ckN (.inl (.inl ((inV_strs n6 lk).mp b3)))
    refine ⟨_, rfl, _, rfl, vt, lt, _, NS, NO, lk, rfl, hNS, hNO, dT, hwt, gT0, tb, htr, dpT0, ck.1, ?_⟩
    rw [ck.2]
    intro pr27 Gr27 mr27 gr27
    refine ⟨(by show 1 ≤ sizeLine; decide), fun wr27 nwr27 => ?_⟩
    have sw := newS (o := .tup [.str "refused"]) nwr27
    refine ⟨_, _, Dp.tup (SqT.of (sw _ _ gr27)) (.cons (.str _) .nil), Dp.tup (SqT.of upd_same) (.cons (.str _) .nil), shRef.1, shRef.1, ?_⟩
    rw [shRef.2]
    exact q _ ((dk.sm mr27 tb).same sw) (mr27.2.same sw)
  have n3k : n6 ∉ lk := fun w => b3 ((inV_strs n6 lk).mpr w)
  have nmet : ¬ met lk (putAll Ek.none fs) n6 kd := by
    rintro (w | w | ⟨z, q0, hz, ho⟩)
    · exact n3k w
    · exact n2k w
    · exact nE z q0 hz ho
  refine ⟨_, rfl, _, rfl, ite2 (fun b4 => ?_) (fun b4 => ?_)⟩
  · skip
    have ck := ckN (.inr (by simpa using b4))
    refine ⟨_, rfl, _, rfl, vt, lt, _, NS, NO, lk, rfl, hNS, hNO, dT, hwt, gT0, tb, htr, dpT0, ck.1, ?_⟩
    rw [ck.2]
    intro pr28 Gr28 mr28 gr28
    refine ⟨(by show 1 ≤ sizeLine; decide), fun wr28 nwr28 => ?_⟩
    have sw := newS (o := .tup [.str "refused"]) nwr28
    refine ⟨_, _, Dp.tup (SqT.of (sw _ _ gr28)) (.cons (.str _) .nil), Dp.tup (SqT.of upd_same) (.cons (.str _) .nil), shRef.1, shRef.1, ?_⟩
    rw [shRef.2]
    exact q _ ((dk.sm mr28 tb).same sw) (mr28.2.same sw)
  have ck := ckY nmet (by simpa using b4)
  refine ⟨_, rfl, _, rfl, vt, lt, _, NS, NO, lk, rfl, hNS, hNO, dT, hwt, gT0, tb, htr, dpT0, ck.1, ?_⟩
  rw [ck.2]
  intro pz1 uz1 Gz1 mz1 gz1 rz1
  have dD := dD.kn (mz1.kn tb)
  refine ⟨_, rfl, (by show 2 ≤ sizeLine; decide), fun wz nwz => ?_⟩
  have sw := newS (o := .tup [.str "told", vd]) nwz
  have sD := dD.same sw
  have okD : Kok (due fs (.lst kd)) := ⟨fun z hz => hNO.nm z ((ck.1.gk (fun y q hy => by cases hy) ck.2).op z hz), (ck.1.gk (fun y q hy => by cases hy) ck.2).dp⟩
  obtain ⟨e5, e6⟩ := shTold okD
  refine ⟨_, _, Dp.tup (SqT.of (sw _ _ gz1)) (.cons (.str _) (.cons (dpT K (rz1.tk (.of sw))) .nil)), Dp.tup (SqT.of upd_same) (.cons (.str _) (.cons (dpT K (rp_of sD)) .nil)), e5, e5, ?_⟩
  rw [e6]
  exact q _ ((dk.sm mz1 tb).same sw) (mz1.2.same sw)
end
end Kq

/-! law -/
namespace Kq
open PySem PySem.Spec PyProof.Rows L2 Kf Kg Kv Kk Ku
section
variable {P : Program} {w : World} {K : PySem.W.Frag} {mg : Str → Option Value} {base : Heap} {NS NO lk : List Str} {cN : Addr} {T : List Addr}
abbrev tLaw : Stmt := tp 90
abbrev nLaw : List Str := ["_law_script", "_law_deck_here", "_law_turn"]
abbrev psLaw : List Str := ["_law_script"]
theorem scLaw : FnScope nLaw psLaw (defScope tLaw) := ⟨rfl, rfl, rfl, by decide +kernel, rfl, by decide +kernel, by decide +kernel⟩
def spLaw (K : PySem.W.Frag) (T : List Addr) : Sp := fun vs H Q _ => ∃ (a : Addr) (ns : List Int), vs = [.ref a] ∧ SqL K H a (ns.map V.int) ∧ ns.length ≤ 63 ∧ TbS T H ∧ ∀ G : Hp, Q (.bl true) G
theorem okLaw {f : Addr} {fd : FuncData} {k : Nat} (F : Fun K "law" "law" tLaw f fd)
    (DR : Okd P w K mg base CX0 (k) "_law_right" ["_law_deck_here", "_law_names_here"] (spRight T))
    (DN : Okd P w K mg base CX0 (k) "_law_names" ["_law_deck_here", "_law_many"] spNames)
    (DK : Okd P w K mg base CX0 (k) "_law_deck" ["_law_script"] (spDeck K))
    (m_range : mg "range" = none) : FnOk P w K mg base CX0 (k + 1) f fd psLaw (spLaw K T) := by
  obtain ⟨fR, fdR, GR, bR, gR, kR⟩ := DR
  obtain ⟨fN, fdN, GN, bN, gN, kN⟩ := DN
  obtain ⟨fK, fdK, GK, bK, gK, kK⟩ := DK
  refine F.ok scLaw (fun vs H Q E h => ?_) (fun cdv A outer s H vs Q E hr h => ?_)
  · obtain ⟨a, ns, rfl, _⟩ := h
    rfl
  obtain ⟨a, ns, rfl, hS, hl, tb, q⟩ := h
  refine ⟨_, pss_cons (ps_set (i := 1) scLaw.nd rfl (.inl rfl) (pe_call GK hr (by rfl) gK kK bK .nil pass0 (pa_cons (pv 0) pa_nil)))
    (pss_cons (ps_for PassesOwn.never rfl (pi_range1 (by rfl) m_range (pa_cons pe_int pa_nil)) (pg_name (i := 2) scLaw.nd rfl (.inl rfl))
      (pss_one (ps_if (pt_not (pt_val (pe_call GR hr (by rfl) gR kR bR .nil pass0 (pa_cons (pv 1) (pa_cons (pe_call GN hr (by rfl) gN kN bN .nil pass0 (pa_cons (pv 1) (pa_cons pe_int pa_nil))) pa_nil))))) (pss_one (ps_ret pe_bl)) pss_nil)))
    (pss_one (ps_ret pe_bl))), ?_⟩
  refine ⟨_, rfl, a, ns, rfl, hS, hl, fun d c Ga sa nd nc dka => ?_⟩
  have tba := tb.same sa
  refine ⟨12, rfl, by decide, by decide, for_range (lo := 0) (n := 12) (fun i σ G => ∃ y2, σ = [some (.ref a), some (.ref d), y2] ∧ Dk G d c ∧ TbS T G) ⟨_, rfl, dka, tba⟩ (fun i σ G hi z => ?_) (fun σ G z => q G)⟩
  obtain ⟨y2, rfl, dk, tb⟩ := z
  refine ⟨_, rfl, _, rfl, d, c, 8, rfl, dk, by decide, by decide, fun l xs G1 kp1 dk1 nl gl hlen hnm hnd hL => ?_⟩
  have ol := dk.off nl
  match xs, hlen with
  | [n0, n1, n2, n3, n4, n5, n6, n7], _ =>
    refine ⟨d, c, l, n0, n1, n2, n3, n4, n5, n6, n7, rfl, dk1, gl, ol.1, ol.2, tb.kp kp1 dk, hnd, hnm, hL, fun G2 dk2 tb2 => ⟨_, rfl, iteF ?_⟩⟩
    exact ⟨_, rfl, dk2, tb2⟩
end
end Kq

/-! the end where some of the defs hold generator expressions -/
namespace Kg
open PySem PySem.Spec PyProof.Rows L2 LamX
/-- the def's code object, its table: empty -/
def TabOf (mg : Str → Option Value) (h : Heap) (x : Str) : Prop := ∃ (a : Addr) (o : Obj) (fd : FuncData) (c p : Addr), mg x = some (.ref a) ∧ h.get? a = some o ∧ o.data = .func fd ∧ fd.code = .ref c ∧ h.IsCode c p #[] ∧ h.TableAt c p #[]
theorem walk_ofNs {l : PySem.W.OpenLaw} {n k : Nat} {q : Program} {loose : List Str} {XP : (Str → Option Value) → Heap → Prop} {YP : World → Heap → Prop} {d : DefRec} {K : Params → PySem.W.Frag} {CX : World → CXT} {x : Str} (names : List Str)
    (hn : l.most = some n) (hn2 : n ≤ sizeLine) (hdf : d.params.defaults = []) (hr : Room k callerA) (hrec : (names.all fun y => (recsOf q).any fun e => e.name == y) = true) (hY : ∀ (w : World) (h : Heap), YP w h → (K w.params).In h)
    (F : ∀ (w : World) (mg : Str → Option Value) (fa : Addr) (h : Heap), YP w h → (K w.params).In h → h.Ns mainGlobals mg → mg d.name = some (.ref fa) → (∀ y ∈ names, TabOf mg h y) → LawAtS l w (K w.params) (CX w) k n x mg fa h)
    (hCX : ∀ (w : World) (H : Hp) (s : Shared) (e : Value) (s' : Shared), CX w [] H s (fun _ _ _ => False) e s' → False) :
    PySem.W.WalkO q loose XP YP l.row.toRowW d [] (fun f vs => PySem.call f vs) := by
  refine Att.attach_callB hn hdf fun w s₀ s₁ mg mb fa o pm cd doc a vs ns G Y ho hd hcd hmg hobj hints hlen hbits hg => ?_
  have KX := hY w _ Y
  have own : ∀ y ∈ names, TabOf mg s₁.heap y := fun y hy => by
    obtain ⟨dL, hm, hn1⟩ := List.any_eq_true.mp (List.all_eq_true.mp hrec y hy)
    have hn2 : dL.name = y := beq_iff_eq.mp hn1
    obtain ⟨a', o', fd', c', P', h1, h2, h3, h4, h5, h6⟩ := G.T.tab dL hm
    exact ⟨a', o', fd', c', P', by rw [← hn2]; exact h1, h2, h3, h4, h5, h6⟩
  obtain ⟨fd, cs, sp, hT, nT, C, hb, hsp, hF⟩ := F w mg fa _ Y KX G.T.g hmg own
  exact law_callTs KX G.T.g G.T.b G.T.builtins G.T.nolimit hg hT nT C G.T.bmain hobj hints (Nat.le_trans hlen hn2) hr hF hb (fun H hH hS => hsp H a ns hlen hbits hH hS) fun H e s' => hCX w H s₁ e s'
/-- such a def by what is written of it -/
theorem tabOf_at {K : PySem.W.Frag} {mg : Str → Option Value} {h : Heap} {x name qual : Str} {f c p : Addr} {params : Arguments} {body : List Stmt} {scope : Scope} {oc dV kV doc pm ct e : Value} {od an dd : Option Addr} {sl sl' : Array (Option Value)} {vs : Array Value} (X : K.In h) (T : TabOf mg h x) (g : mg x = some (.ref f))
    (l : K.lookup f = some ⟨oc, od, .func (PySem.W.fnOf name qual params body scope dV kV doc pm an (.ref c) ct), sl⟩) (t : K.lookup c = some ⟨e, dd, .fields vs, sl'⟩) (v : vs[11]? = some (.ref p)) :
    h.get? p = some { cls := .none, data := .fields #[] } ∧ PySem.W.CodeHd h c p := by
  obtain ⟨a', o', fd', c', P', h1, h2, h3, h4, h5, h6⟩ := T
  rw [g] at h1
  cases h1
  rw [X _ _ l] at h2
  cases h2
  cases h3
  cases h4
  obtain ⟨⟨oc', vc, e1, e2, e3, e4⟩, hP⟩ := id h6
  rw [X _ _ t] at e1
  cases e1
  cases e3
  rw [v] at e4
  cases e4
  exact ⟨hP, .of h5 h6⟩
end Kg

namespace Kq
open PySem PySem.Spec PyProof.Rows L2 Kf Kg Kv GxR RZ Kk Ku
section
variable {K : PySem.W.Frag} {t : Value} {n C : Addr} {b : Bool}
theorem kit_self : PySem.W.kitOne K (.ref n) (.ref n) = some true := by
  unfold PySem.W.kitOne
  rw [if_pos (by simp)]
theorem kit_cl (iC : PySem.W.isClsIn K C = true) (tC : PySem.W.typeIn K (.ref C) = some (.type "type")) (s : PySem.W.subIn K t (.ref C) = some b) : PySem.W.kitCls K t (.ref C) = some b := by
  unfold PySem.W.isClsIn at iC
  show (if ((PySem.W.clsIn K C).isSome && PySem.W.typeIn K (.ref C) == some (.type "type")) = true then PySem.W.subIn K t (.ref C) else none) = _
  rw [if_pos (by rw [iC, tC]; simp)]
  exact s
theorem kit_no (ne : (Value.ref n == Value.ref C) = false) (iC : PySem.W.isClsIn K C = true) (tC : PySem.W.typeIn K (.ref C) = some (.type "type")) (s : PySem.W.subIn K (.ref n) (.ref C) = some false) : PySem.W.kitOne K (.ref n) (.ref C) = some false := by
  unfold PySem.W.kitOne
  rw [if_neg (by rw [ne]; exact Bool.false_ne_true)]
  exact kit_cl iC tC s
theorem kit_tyV (s : PySem.W.subIn K (.ref n) (.type "ValueError") = some true) : PySem.W.kitOne K (.ref n) (.type "ValueError") = some true := by
  unfold PySem.W.kitOne
  rw [if_neg (show ¬ (Value.ref n == Value.type "ValueError") = true from Bool.false_ne_true)]
  show (if PySem.W.kitMeta "ValueError" = true then PySem.W.subIn K (.ref n) (.type "ValueError") else none) = _
  rw [if_pos (by decide +kernel)]
  exact s
theorem any_no {c : Value} {r : List Value} (h : PySem.W.kitOne K t c = some false) (k : PySem.W.kitAny K t r = some false) : PySem.W.kitAny K t (c :: r) = some false := by
  unfold PySem.W.kitAny
  rw [h]
  exact k
theorem exm_yes {c : Value} (sB : PySem.W.subIn K (.ref C) (.type "BaseException") = some true) (iC : PySem.W.isClsIn K C = true) (tC : PySem.W.typeIn K (.ref C) = some (.type "type")) (s : PySem.W.subIn K c (.ref C) = some true) : PySem.W.exmOne K c (.ref C) = some true := by
  unfold PySem.W.exmOne
  rw [if_pos (by rw [sB]; simp)]
  exact kit_cl iC tC s
end
theorem hasAll {P : Program} {w : World} {K : PySem.W.Frag} {mg : Str → Option Value} {base : Heap} (dW : Dfn K mg "_law_has" tLHas psLHas) (m1 : mg "isinstance" = none) (m2 : mg "tuple" = none) : ∀ m, Okd P w K mg base CX0 (m + 1) "_law_has" psLHas (spLHas m)
  | 0 => dW.ok fun f fd F => noFnX fun vs H Q E h => by
    obtain ⟨v, t, o, _, h, _⟩ := h
    omega
  | m + 1 => dW.ok fun f fd F => okLHas (k := m + 1) F (DH := hasAll dW m1 m2 m) (m_isinstance := m1) (m_tuple := m2)
def KeysAre : List DictEntry → List (Str × Value) → Prop
  | [], [] => True
  | e :: es, (x, v) :: xs => (∃ t, e.key = .str x t) ∧ e.val = v ∧ KeysAre es xs
  | _, _ => False
theorem find_keys (z : Str) : ∀ {es : List DictEntry} {xs : List (Str × Value)}, KeysAre es xs → (es.find? (·.key.isStr z)).map (·.val) = xs.lookup z ∧ es.any (·.refKey) = false
  | [], [], _ => ⟨rfl, rfl⟩
  | e :: es, (x, v) :: xs, h => by
    obtain ⟨⟨t, h1⟩, h2, h3⟩ := h
    obtain ⟨i1, i2⟩ := find_keys z h3
    have e1 : e.key.isStr z = (z == x) := by
      rw [h1]
      show (x == z) = (z == x)
      by_cases c : x = z
      · subst c
        rfl
      · rw [beq_eq_false_iff_ne.mpr c, beq_eq_false_iff_ne.mpr (Ne.symm c)]
    have e2 : e.refKey = false := by
      unfold DictEntry.refKey
      rw [h1]
    refine ⟨?_, by rw [List.any_cons, e2, i2]; rfl⟩
    rw [List.find?_cons, List.lookup_cons, e1]
    cases c : (z == x) with
    | true => exact congrArg some h2
    | false => exact i1
  | [], _ :: _, h => h.elim
  | _ :: _, [], h => h.elim
theorem ns_keys {K : PySem.W.Frag} {a : Addr} {es : Array DictEntry} {n : Nat} {xs : List (Str × Value)} (l : K.lookup a = some ⟨.type "dict", none, .dict es n, #[]⟩) (h : KeysAre es.toList xs) (z : Str) : PySem.W.nsIn K a z = some (xs.lookup z) := by
  obtain ⟨i1, i2⟩ := find_keys z h
  unfold PySem.W.nsIn
  rw [l]
  simp only
  cases c : es.toList.find? (·.key.isStr z) with
  | some e =>
    rw [c] at i1
    exact congrArg some i1
  | none =>
    rw [c] at i1
    simp only [i2]
    exact congrArg some i1

theorem tt_of {x : Str} {q : Program} {mg : Str → Option Value} {h : Heap} (hrec : ((recsOf q).any fun e => e.name == x) = true)
    (tabs : ∀ e ∈ recsOf q, ∃ (a : Addr) (o : Obj) (fd : FuncData) (c p : Addr), mg e.name = some (.ref a) ∧ h.get? a = some o ∧ o.data = .func fd ∧ fd.code = .ref c ∧ h.IsCode c p #[] ∧ h.TableAt c p #[]) : Kg.TabOf mg h x := by
  obtain ⟨dL, hm, hn1⟩ := List.any_eq_true.mp hrec
  obtain ⟨a', o', fd', c', P', h1, h2, h3, h4, h5, h6⟩ := tabs dL hm
  exact ⟨a', o', fd', c', P', by rw [← (beq_iff_eq.mp hn1)]; exact h1, h2, h3, h4, h5, h6⟩
theorem tabX {base : Heap} {mg : Str → Option Value} {c p : Addr} (t : LamX.TabB base mg c p) : GxR.TabB base mg c p := ⟨t.code, t.bm, t.gP⟩
inductive Rl2 (R : List Str → Value → Prop) : List (Str × List Str) → List (Str × Value) → Prop
  | nil : Rl2 R [] []
  | cons {z : Str} {rs : List Str} {u : Value} {xs : List (Str × List Str)} {ys : List (Str × Value)} : R rs u → Rl2 R xs ys → Rl2 R ((z, rs) :: xs) ((z, u) :: ys)
theorem Rl2.look {R : List Str → Value → Prop} (k : Str) : ∀ {xs : List (Str × List Str)} {ys : List (Str × Value)}, Rl2 R xs ys → (xs.lookup k = none → ys.lookup k = none) ∧ ∀ rs, xs.lookup k = some rs → ∃ u, ys.lookup k = some u ∧ R rs u
  | _, _, .nil => ⟨fun _ => rfl, fun _ h => by cases h⟩
  | _, _, .cons (z := z) (u := u) r t => by
    obtain ⟨h1, h2⟩ := t.look k
    rw [List.lookup_cons, List.lookup_cons]
    cases c : (k == z) with
    | true => exact ⟨fun h => (by cases h), fun rs h => ⟨u, rfl, by rw [← Option.some.inj h]; exact r⟩⟩
    | false => exact ⟨h1, h2⟩
theorem all_mk {l : PySem.W.OpenLaw} {w : World} {K : PySem.W.Frag} {h : Heap} {mg : Str → Option Value} {fa dA dB dR oN oT cN cK tD x1 x2 x3 x4 x5 x6 x7 x8 x9 x10 x11 x12 o1 o2 o3 o4 o5 o6 o7 r1 r2 r3 r4 r5 r6 r7 r8 r9 r10 r11 r12 r13 r14 r15 r16 r17 r18 r19 r20 r21 r22 f1 f2 f3 f4 f5 f6 f7 f8 f9 f10 f11 f12 f13 f14 f15 f16 f17 f18 f19 f20 f21 f22 f23 f24 f25 f26 f27 f28 f29 f30 f31 f32 f33 f34 f35 f36 f37 f38 f39 f40 f41 f42 f43 f44 f45 f46 f47 f48 f49 f50 f51 f52 f53 f54 f55 f56 f57 f58 f59 c1 p1 c6 p6 c19 p19 c16 p16 : Addr} (X : K.In h) (G : h.Ns mainGlobals mg) (hfa : mg "law" = some (.ref fa))
    (TT1 : Kg.TabOf mg h "is_name")
    (TT6 : Kg.TabOf mg h "is_rising")
    (TT19 : Kg.TabOf mg h "is_fills")
    (TT16 : Kg.TabOf mg h "has_term_form")
    {od1 an1 od2 an2 od3 an3 od4 an4 od5 an5 od6 an6 od7 an7 od8 an8 od9 an9 od10 an10 od11 an11 od12 an12 od13 an13 od14 an14 od15 an15 od16 an16 od17 an17 od18 an18 od19 an19 od20 an20 od21 an21 od22 an22 od23 an23 od24 an24 od25 an25 od26 an26 od27 an27 od28 an28 od29 an29 od30 an30 od31 an31 od32 an32 od33 an33 od34 an34 od35 an35 od36 an36 od37 an37 od38 an38 od39 an39 od40 an40 od41 an41 od42 an42 od43 an43 od44 an44 od45 an45 od46 an46 od47 an47 od48 an48 od49 an49 od50 an50 od51 an51 od52 an52 od53 an53 od54 an54 od55 an55 od56 an56 od57 an57 od58 an58 od59 an59 dd1 dd6 dd19 dd16 dT1 dT2 dT3 dT4 dT5 dT6 dT7 dQ1 dQ2 dQ3 dQ4 dQ5 dQ6 dQ7 dQ8 dQ9 dQ10 dQ11 dQ12 dQ13 dQ14 dQ15 dQ16 dQ17 dQ18 dQ19 dQ20 dQ21 dQ22 dN dO dD : Option Addr} {sl1 sl2 sl3 sl4 sl5 sl6 sl7 sl8 sl9 sl10 sl11 sl12 sl13 sl14 sl15 sl16 sl17 sl18 sl19 sl20 sl21 sl22 sl23 sl24 sl25 sl26 sl27 sl28 sl29 sl30 sl31 sl32 sl33 sl34 sl35 sl36 sl37 sl38 sl39 sl40 sl41 sl42 sl43 sl44 sl45 sl46 sl47 sl48 sl49 sl50 sl51 sl52 sl53 sl54 sl55 sl56 sl57 sl58 sl59 sm1 sm6 sm19 sm16 sT1 sT2 sT3 sT4 sT5 sT6 sT7 sQ1 sQ2 sQ3 sQ4 sQ5 sQ6 sQ7 sQ8 sQ9 sQ10 sQ11 sQ12 sQ13 sQ14 sQ15 sQ16 sQ17 sQ18 sQ19 sQ20 sQ21 sQ22 slN slO slD : Array (Option Value)} {es esB esR : Array DictEntry} {nD nB nR nN nO nDd nT1 nT2 nT3 nT4 nT5 nT6 nT7 nQ1 nQ2 nQ3 nQ4 nQ5 nQ6 nQ7 nQ8 nQ9 nQ10 nQ11 nQ12 nQ13 nQ14 nQ15 nQ16 nQ17 nQ18 nQ19 nQ20 nQ21 nQ22 : Nat} {oc1 kV1 dc1 pm1 ct1 oc2 kV2 dc2 pm2 ct2 oc3 kV3 dc3 pm3 ct3 oc4 kV4 dc4 pm4 ct4 oc5 kV5 dc5 pm5 ct5 oc6 kV6 dc6 pm6 ct6 oc7 kV7 dc7 pm7 ct7 oc8 kV8 dc8 pm8 ct8 oc9 kV9 dc9 pm9 ct9 oc10 kV10 dc10 pm10 ct10 oc11 kV11 dc11 pm11 ct11 oc12 kV12 dc12 pm12 ct12 oc13 kV13 dc13 pm13 ct13 oc14 kV14 dc14 pm14 ct14 oc15 kV15 dc15 pm15 ct15 oc16 kV16 dc16 pm16 ct16 oc17 kV17 dc17 pm17 ct17 oc18 kV18 dc18 pm18 ct18 oc19 kV19 dc19 pm19 ct19 oc20 kV20 dc20 pm20 ct20 oc21 kV21 dc21 pm21 ct21 oc22 kV22 dc22 pm22 ct22 oc23 kV23 dc23 pm23 ct23 oc24 kV24 dc24 pm24 ct24 oc25 kV25 dc25 pm25 ct25 oc26 kV26 dc26 pm26 ct26 oc27 kV27 dc27 pm27 ct27 oc28 kV28 dc28 pm28 ct28 oc29 kV29 dc29 pm29 ct29 oc30 kV30 dc30 pm30 ct30 oc31 kV31 dc31 pm31 ct31 oc32 kV32 dc32 pm32 ct32 oc33 kV33 dc33 pm33 ct33 oc34 kV34 dc34 pm34 ct34 oc35 kV35 dc35 pm35 ct35 oc36 kV36 dc36 pm36 ct36 oc37 kV37 dc37 pm37 ct37 oc38 kV38 dc38 pm38 ct38 oc39 kV39 dc39 pm39 ct39 oc40 kV40 dc40 pm40 ct40 oc41 kV41 dc41 pm41 ct41 oc42 kV42 dc42 pm42 ct42 oc43 kV43 dc43 pm43 ct43 oc44 kV44 dc44 pm44 ct44 oc45 kV45 dc45 pm45 ct45 oc46 kV46 dc46 pm46 ct46 oc47 kV47 dc47 pm47 ct47 oc48 kV48 dc48 pm48 ct48 oc49 kV49 dc49 pm49 ct49 oc50 kV50 dc50 pm50 ct50 oc51 kV51 dc51 pm51 ct51 oc52 kV52 dc52 pm52 ct52 oc53 kV53 dc53 pm53 ct53 oc54 kV54 dc54 pm54 ct54 oc55 kV55 dc55 pm55 ct55 oc56 kV56 dc56 pm56 ct56 oc57 kV57 dc57 pm57 ct57 oc58 kV58 dc58 pm58 ct58 oc59 kV59 dc59 pm59 ct59 cd2 cd3 cd4 cd5 cd7 cd8 cd9 cd10 cd11 cd12 cd13 cd14 cd15 cd17 cd18 cd20 cd21 cd22 cd23 cd24 cd25 cd26 cd27 cd28 cd29 cd30 cd31 cd32 cd33 cd34 cd35 cd36 cd37 cd38 cd39 cd40 cd41 cd42 cd43 cd44 cd45 cd46 cd47 cd48 cd49 cd50 cd51 cd52 cd53 cd54 cd55 cd56 cd57 cd58 cd59 e1 e6 e19 e16 uL uN uM : Value} {vs1 vs6 vs19 vs16 iT1 iT2 iT3 iT4 iT5 iT6 iT7 iQ1 iQ2 iQ3 iQ4 iQ5 iQ6 iQ7 iQ8 iQ9 iQ10 iQ11 iQ12 iQ13 iQ14 iQ15 iQ16 iQ17 iQ18 iQ19 iQ20 iQ21 iQ22 iN iO iD : Array Value}
    (a1 : PySem.W.nsIn K mainGlobals "is_name" = some (some (.ref f1))) (l1 : K.lookup f1 = some ⟨oc1, od1, .func (PySem.W.fnOf "is_name" "is_name" (defArgs tName) (defBody tName) (defScope tName) .none kV1 dc1 pm1 an1 (.ref c1) ct1), sl1⟩)
      (q1 : PySem.W.codeIn K (.ref c1) "is_name" = true) (k1 : PySem.W.keepIn K (.ref f1) = true)
    (a2 : PySem.W.nsIn K mainGlobals "is_truth" = some (some (.ref f2))) (l2 : K.lookup f2 = some ⟨oc2, od2, .func (PySem.W.fnOf "is_truth" "is_truth" (defArgs tTruth) (defBody tTruth) (defScope tTruth) .none kV2 dc2 pm2 an2 cd2 ct2), sl2⟩)
      (q2 : PySem.W.codeIn K cd2 "is_truth" = true) (k2 : PySem.W.keepIn K (.ref f2) = true)
    (a3 : PySem.W.nsIn K mainGlobals "is_whole" = some (some (.ref f3))) (l3 : K.lookup f3 = some ⟨oc3, od3, .func (PySem.W.fnOf "is_whole" "is_whole" (defArgs tWhole) (defBody tWhole) (defScope tWhole) .none kV3 dc3 pm3 an3 cd3 ct3), sl3⟩)
      (q3 : PySem.W.codeIn K cd3 "is_whole" = true) (k3 : PySem.W.keepIn K (.ref f3) = true)
    (a4 : PySem.W.nsIn K mainGlobals "is_number" = some (some (.ref f4))) (l4 : K.lookup f4 = some ⟨oc4, od4, .func (PySem.W.fnOf "is_number" "is_number" (defArgs tNumber) (defBody tNumber) (defScope tNumber) .none kV4 dc4 pm4 an4 cd4 ct4), sl4⟩)
      (q4 : PySem.W.codeIn K cd4 "is_number" = true) (k4 : PySem.W.keepIn K (.ref f4) = true)
    (a5 : PySem.W.nsIn K mainGlobals "is_tagged" = some (some (.ref f5))) (l5 : K.lookup f5 = some ⟨oc5, od5, .func (PySem.W.fnOf "is_tagged" "is_tagged" (defArgs tTagged) (defBody tTagged) (defScope tTagged) .none kV5 dc5 pm5 an5 cd5 ct5), sl5⟩)
      (q5 : PySem.W.codeIn K cd5 "is_tagged" = true) (k5 : PySem.W.keepIn K (.ref f5) = true)
    (a6 : PySem.W.nsIn K mainGlobals "is_rising" = some (some (.ref f6))) (l6 : K.lookup f6 = some ⟨oc6, od6, .func (PySem.W.fnOf "is_rising" "is_rising" (defArgs tRising) (defBody tRising) (defScope tRising) .none kV6 dc6 pm6 an6 (.ref c6) ct6), sl6⟩)
      (q6 : PySem.W.codeIn K (.ref c6) "is_rising" = true) (k6 : PySem.W.keepIn K (.ref f6) = true)
    (a7 : PySem.W.nsIn K mainGlobals "is_data" = some (some (.ref f7))) (l7 : K.lookup f7 = some ⟨oc7, od7, .func (PySem.W.fnOf "is_data" "is_data" (defArgs tIsData) (defBody tIsData) (defScope tIsData) .none kV7 dc7 pm7 an7 cd7 ct7), sl7⟩)
      (q7 : PySem.W.codeIn K cd7 "is_data" = true) (k7 : PySem.W.keepIn K (.ref f7) = true)
    (a8 : PySem.W.nsIn K mainGlobals "has_data_form" = some (some (.ref f8))) (l8 : K.lookup f8 = some ⟨oc8, od8, .func (PySem.W.fnOf "has_data_form" "has_data_form" (defArgs tForm) (defBody tForm) (defScope tForm) .none kV8 dc8 pm8 an8 cd8 ct8), sl8⟩)
      (q8 : PySem.W.codeIn K cd8 "has_data_form" = true) (k8 : PySem.W.keepIn K (.ref f8) = true)
    (a9 : PySem.W.nsIn K mainGlobals "kinds_within" = some (some (.ref f9))) (l9 : K.lookup f9 = some ⟨oc9, od9, .func (PySem.W.fnOf "kinds_within" "kinds_within" (defArgs tWithin) (defBody tWithin) (defScope tWithin) .none kV9 dc9 pm9 an9 cd9 ct9), sl9⟩)
      (q9 : PySem.W.codeIn K cd9 "kinds_within" = true) (k9 : PySem.W.keepIn K (.ref f9) = true)
    (a10 : PySem.W.nsIn K mainGlobals "is_first" = some (some (.ref f10))) (l10 : K.lookup f10 = some ⟨oc10, od10, .func (PySem.W.fnOf "is_first" "is_first" (defArgs tIsFirst) (defBody tIsFirst) (defScope tIsFirst) .none kV10 dc10 pm10 an10 cd10 ct10), sl10⟩)
      (q10 : PySem.W.codeIn K cd10 "is_first" = true) (k10 : PySem.W.keepIn K (.ref f10) = true)
    (a11 : PySem.W.nsIn K mainGlobals "is_argument" = some (some (.ref f11))) (l11 : K.lookup f11 = some ⟨oc11, od11, .func (PySem.W.fnOf "is_argument" "is_argument" (defArgs tIsArg) (defBody tIsArg) (defScope tIsArg) .none kV11 dc11 pm11 an11 cd11 ct11), sl11⟩)
      (q11 : PySem.W.codeIn K cd11 "is_argument" = true) (k11 : PySem.W.keepIn K (.ref f11) = true)
    (a12 : PySem.W.nsIn K mainGlobals "leads" = some (some (.ref f12))) (l12 : K.lookup f12 = some ⟨oc12, od12, .func (PySem.W.fnOf "leads" "leads" (defArgs tLeads) (defBody tLeads) (defScope tLeads) .none kV12 dc12 pm12 an12 cd12 ct12), sl12⟩)
      (q12 : PySem.W.codeIn K cd12 "leads" = true) (k12 : PySem.W.keepIn K (.ref f12) = true)
    (a13 : PySem.W.nsIn K mainGlobals "parts_of" = some (some (.ref f13))) (l13 : K.lookup f13 = some ⟨oc13, od13, .func (PySem.W.fnOf "parts_of" "parts_of" (defArgs tParts) (defBody tParts) (defScope tParts) .none kV13 dc13 pm13 an13 cd13 ct13), sl13⟩)
      (q13 : PySem.W.codeIn K cd13 "parts_of" = true) (k13 : PySem.W.keepIn K (.ref f13) = true)
    (a14 : PySem.W.nsIn K mainGlobals "opens_in" = some (some (.ref f14))) (l14 : K.lookup f14 = some ⟨oc14, od14, .func (PySem.W.fnOf "opens_in" "opens_in" (defArgs tOpens) (defBody tOpens) (defScope tOpens) .none kV14 dc14 pm14 an14 cd14 ct14), sl14⟩)
      (q14 : PySem.W.codeIn K cd14 "opens_in" = true) (k14 : PySem.W.keepIn K (.ref f14) = true)
    (a15 : PySem.W.nsIn K mainGlobals "is_term" = some (some (.ref f15))) (l15 : K.lookup f15 = some ⟨oc15, od15, .func (PySem.W.fnOf "is_term" "is_term" (defArgs tIsTerm) (defBody tIsTerm) (defScope tIsTerm) .none kV15 dc15 pm15 an15 cd15 ct15), sl15⟩)
      (q15 : PySem.W.codeIn K cd15 "is_term" = true) (k15 : PySem.W.keepIn K (.ref f15) = true)
    (a16 : PySem.W.nsIn K mainGlobals "has_term_form" = some (some (.ref f16))) (l16 : K.lookup f16 = some ⟨oc16, od16, .func (PySem.W.fnOf "has_term_form" "has_term_form" (defArgs tHasTerm) (defBody tHasTerm) (defScope tHasTerm) .none kV16 dc16 pm16 an16 (.ref c16) ct16), sl16⟩)
      (q16 : PySem.W.codeIn K (.ref c16) "has_term_form" = true) (k16 : PySem.W.keepIn K (.ref f16) = true)
    (a17 : PySem.W.nsIn K mainGlobals "fits" = some (some (.ref f17))) (l17 : K.lookup f17 = some ⟨oc17, od17, .func (PySem.W.fnOf "fits" "fits" (defArgs tFits) (defBody tFits) (defScope tFits) .none kV17 dc17 pm17 an17 cd17 ct17), sl17⟩)
      (q17 : PySem.W.codeIn K cd17 "fits" = true) (k17 : PySem.W.keepIn K (.ref f17) = true)
    (a18 : PySem.W.nsIn K mainGlobals "is_turns" = some (some (.ref f18))) (l18 : K.lookup f18 = some ⟨oc18, od18, .func (PySem.W.fnOf "is_turns" "is_turns" (defArgs tTurns) (defBody tTurns) (defScope tTurns) .none kV18 dc18 pm18 an18 cd18 ct18), sl18⟩)
      (q18 : PySem.W.codeIn K cd18 "is_turns" = true) (k18 : PySem.W.keepIn K (.ref f18) = true)
    (a19 : PySem.W.nsIn K mainGlobals "is_fills" = some (some (.ref f19))) (l19 : K.lookup f19 = some ⟨oc19, od19, .func (PySem.W.fnOf "is_fills" "is_fills" (defArgs tFills) (defBody tFills) (defScope tFills) .none kV19 dc19 pm19 an19 (.ref c19) ct19), sl19⟩)
      (q19 : PySem.W.codeIn K (.ref c19) "is_fills" = true) (k19 : PySem.W.keepIn K (.ref f19) = true)
    (a20 : PySem.W.nsIn K mainGlobals "is_fill" = some (some (.ref f20))) (l20 : K.lookup f20 = some ⟨oc20, od20, .func (PySem.W.fnOf "is_fill" "is_fill" (defArgs tFill) (defBody tFill) (defScope tFill) .none kV20 dc20 pm20 an20 cd20 ct20), sl20⟩)
      (q20 : PySem.W.codeIn K cd20 "is_fill" = true) (k20 : PySem.W.keepIn K (.ref f20) = true)
    (a21 : PySem.W.nsIn K mainGlobals "terms_in" = some (some (.ref f21))) (l21 : K.lookup f21 = some ⟨oc21, od21, .func (PySem.W.fnOf "terms_in" "terms_in" (defArgs tTermsIn) (defBody tTermsIn) (defScope tTermsIn) .none kV21 dc21 pm21 an21 cd21 ct21), sl21⟩)
      (q21 : PySem.W.codeIn K cd21 "terms_in" = true) (k21 : PySem.W.keepIn K (.ref f21) = true)
    (a22 : PySem.W.nsIn K mainGlobals "kind_of" = some (some (.ref f22))) (l22 : K.lookup f22 = some ⟨oc22, od22, .func (PySem.W.fnOf "kind_of" "kind_of" (defArgs tKindOf) (defBody tKindOf) (defScope tKindOf) (.ref tD) kV22 dc22 pm22 an22 cd22 ct22), sl22⟩)
      (q22 : PySem.W.codeIn K cd22 "kind_of" = true) (k22 : PySem.W.keepIn K (.ref f22) = true)
    (a23 : PySem.W.nsIn K mainGlobals "kind_at" = some (some (.ref f23))) (l23 : K.lookup f23 = some ⟨oc23, od23, .func (PySem.W.fnOf "kind_at" "kind_at" (defArgs tKindAt) (defBody tKindAt) (defScope tKindAt) .none kV23 dc23 pm23 an23 cd23 ct23), sl23⟩)
      (q23 : PySem.W.codeIn K cd23 "kind_at" = true) (k23 : PySem.W.keepIn K (.ref f23) = true)
    (a24 : PySem.W.nsIn K mainGlobals "need" = some (some (.ref f24))) (l24 : K.lookup f24 = some ⟨oc24, od24, .func (PySem.W.fnOf "need" "need" (defArgs tNeed) (defBody tNeed) (defScope tNeed) .none kV24 dc24 pm24 an24 cd24 ct24), sl24⟩)
      (q24 : PySem.W.codeIn K cd24 "need" = true) (k24 : PySem.W.keepIn K (.ref f24) = true)
    (a25 : PySem.W.nsIn K mainGlobals "need_same" = some (some (.ref f25))) (l25 : K.lookup f25 = some ⟨oc25, od25, .func (PySem.W.fnOf "need_same" "need_same" (defArgs tNeedSame) (defBody tNeedSame) (defScope tNeedSame) .none kV25 dc25 pm25 an25 cd25 ct25), sl25⟩)
      (q25 : PySem.W.codeIn K cd25 "need_same" = true) (k25 : PySem.W.keepIn K (.ref f25) = true)
    (a26 : PySem.W.nsIn K mainGlobals "data_at" = some (some (.ref f26))) (l26 : K.lookup f26 = some ⟨oc26, od26, .func (PySem.W.fnOf "data_at" "data_at" (defArgs tDataAt) (defBody tDataAt) (defScope tDataAt) .none kV26 dc26 pm26 an26 cd26 ct26), sl26⟩)
      (q26 : PySem.W.codeIn K cd26 "data_at" = true) (k26 : PySem.W.keepIn K (.ref f26) = true)
    (a27 : PySem.W.nsIn K mainGlobals "formed_at" = some (some (.ref f27))) (l27 : K.lookup f27 = some ⟨oc27, od27, .func (PySem.W.fnOf "formed_at" "formed_at" (defArgs tFormedAt) (defBody tFormedAt) (defScope tFormedAt) .none kV27 dc27 pm27 an27 cd27 ct27), sl27⟩)
      (q27 : PySem.W.codeIn K cd27 "formed_at" = true) (k27 : PySem.W.keepIn K (.ref f27) = true)
    (a28 : PySem.W.nsIn K mainGlobals "of_name" = some (some (.ref f28))) (l28 : K.lookup f28 = some ⟨oc28, od28, .func (PySem.W.fnOf "of_name" "of_name" (defArgs tOfName) (defBody tOfName) (defScope tOfName) .none kV28 dc28 pm28 an28 cd28 ct28), sl28⟩)
      (q28 : PySem.W.codeIn K cd28 "of_name" = true) (k28 : PySem.W.keepIn K (.ref f28) = true)
    (a29 : PySem.W.nsIn K mainGlobals "of_fun" = some (some (.ref f29))) (l29 : K.lookup f29 = some ⟨oc29, od29, .func (PySem.W.fnOf "of_fun" "of_fun" (defArgs tOfFun) (defBody tOfFun) (defScope tOfFun) .none kV29 dc29 pm29 an29 cd29 ct29), sl29⟩)
      (q29 : PySem.W.codeIn K cd29 "of_fun" = true) (k29 : PySem.W.keepIn K (.ref f29) = true)
    (a30 : PySem.W.nsIn K mainGlobals "of_call" = some (some (.ref f30))) (l30 : K.lookup f30 = some ⟨oc30, od30, .func (PySem.W.fnOf "of_call" "of_call" (defArgs tOfCall) (defBody tOfCall) (defScope tOfCall) .none kV30 dc30 pm30 an30 cd30 ct30), sl30⟩)
      (q30 : PySem.W.codeIn K cd30 "of_call" = true) (k30 : PySem.W.keepIn K (.ref f30) = true)
    (a31 : PySem.W.nsIn K mainGlobals "of_num" = some (some (.ref f31))) (l31 : K.lookup f31 = some ⟨oc31, od31, .func (PySem.W.fnOf "of_num" "of_num" (defArgs tOfNum) (defBody tOfNum) (defScope tOfNum) .none kV31 dc31 pm31 an31 cd31 ct31), sl31⟩)
      (q31 : PySem.W.codeIn K cd31 "of_num" = true) (k31 : PySem.W.keepIn K (.ref f31) = true)
    (a32 : PySem.W.nsIn K mainGlobals "of_plus" = some (some (.ref f32))) (l32 : K.lookup f32 = some ⟨oc32, od32, .func (PySem.W.fnOf "of_plus" "of_plus" (defArgs tOfPlus) (defBody tOfPlus) (defScope tOfPlus) .none kV32 dc32 pm32 an32 cd32 ct32), sl32⟩)
      (q32 : PySem.W.codeIn K cd32 "of_plus" = true) (k32 : PySem.W.keepIn K (.ref f32) = true)
    (a33 : PySem.W.nsIn K mainGlobals "of_less" = some (some (.ref f33))) (l33 : K.lookup f33 = some ⟨oc33, od33, .func (PySem.W.fnOf "of_less" "of_less" (defArgs tOfLess) (defBody tOfLess) (defScope tOfLess) .none kV33 dc33 pm33 an33 cd33 ct33), sl33⟩)
      (q33 : PySem.W.codeIn K cd33 "of_less" = true) (k33 : PySem.W.keepIn K (.ref f33) = true)
    (a34 : PySem.W.nsIn K mainGlobals "of_truth" = some (some (.ref f34))) (l34 : K.lookup f34 = some ⟨oc34, od34, .func (PySem.W.fnOf "of_truth" "of_truth" (defArgs tOfTruth) (defBody tOfTruth) (defScope tOfTruth) .none kV34 dc34 pm34 an34 cd34 ct34), sl34⟩)
      (q34 : PySem.W.codeIn K cd34 "of_truth" = true) (k34 : PySem.W.keepIn K (.ref f34) = true)
    (a35 : PySem.W.nsIn K mainGlobals "of_if" = some (some (.ref f35))) (l35 : K.lookup f35 = some ⟨oc35, od35, .func (PySem.W.fnOf "of_if" "of_if" (defArgs tOfIf) (defBody tOfIf) (defScope tOfIf) .none kV35 dc35 pm35 an35 cd35 ct35), sl35⟩)
      (q35 : PySem.W.codeIn K cd35 "of_if" = true) (k35 : PySem.W.keepIn K (.ref f35) = true)
    (a36 : PySem.W.nsIn K mainGlobals "of_pair" = some (some (.ref f36))) (l36 : K.lookup f36 = some ⟨oc36, od36, .func (PySem.W.fnOf "of_pair" "of_pair" (defArgs tOfPair) (defBody tOfPair) (defScope tOfPair) .none kV36 dc36 pm36 an36 cd36 ct36), sl36⟩)
      (q36 : PySem.W.codeIn K cd36 "of_pair" = true) (k36 : PySem.W.keepIn K (.ref f36) = true)
    (a37 : PySem.W.nsIn K mainGlobals "of_first" = some (some (.ref f37))) (l37 : K.lookup f37 = some ⟨oc37, od37, .func (PySem.W.fnOf "of_first" "of_first" (defArgs tOfFirst) (defBody tOfFirst) (defScope tOfFirst) .none kV37 dc37 pm37 an37 cd37 ct37), sl37⟩)
      (q37 : PySem.W.codeIn K cd37 "of_first" = true) (k37 : PySem.W.keepIn K (.ref f37) = true)
    (a38 : PySem.W.nsIn K mainGlobals "of_second" = some (some (.ref f38))) (l38 : K.lookup f38 = some ⟨oc38, od38, .func (PySem.W.fnOf "of_second" "of_second" (defArgs tOfSecond) (defBody tOfSecond) (defScope tOfSecond) .none kV38 dc38 pm38 an38 cd38 ct38), sl38⟩)
      (q38 : PySem.W.codeIn K cd38 "of_second" = true) (k38 : PySem.W.keepIn K (.ref f38) = true)
    (a39 : PySem.W.nsIn K mainGlobals "of_left" = some (some (.ref f39))) (l39 : K.lookup f39 = some ⟨oc39, od39, .func (PySem.W.fnOf "of_left" "of_left" (defArgs tOfLeft) (defBody tOfLeft) (defScope tOfLeft) .none kV39 dc39 pm39 an39 cd39 ct39), sl39⟩)
      (q39 : PySem.W.codeIn K cd39 "of_left" = true) (k39 : PySem.W.keepIn K (.ref f39) = true)
    (a40 : PySem.W.nsIn K mainGlobals "of_right" = some (some (.ref f40))) (l40 : K.lookup f40 = some ⟨oc40, od40, .func (PySem.W.fnOf "of_right" "of_right" (defArgs tOfRight) (defBody tOfRight) (defScope tOfRight) .none kV40 dc40 pm40 an40 cd40 ct40), sl40⟩)
      (q40 : PySem.W.codeIn K cd40 "of_right" = true) (k40 : PySem.W.keepIn K (.ref f40) = true)
    (a41 : PySem.W.nsIn K mainGlobals "of_case" = some (some (.ref f41))) (l41 : K.lookup f41 = some ⟨oc41, od41, .func (PySem.W.fnOf "of_case" "of_case" (defArgs tOfCase) (defBody tOfCase) (defScope tOfCase) .none kV41 dc41 pm41 an41 cd41 ct41), sl41⟩)
      (q41 : PySem.W.codeIn K cd41 "of_case" = true) (k41 : PySem.W.keepIn K (.ref f41) = true)
    (a42 : PySem.W.nsIn K mainGlobals "of_none" = some (some (.ref f42))) (l42 : K.lookup f42 = some ⟨oc42, od42, .func (PySem.W.fnOf "of_none" "of_none" (defArgs tOfNone) (defBody tOfNone) (defScope tOfNone) .none kV42 dc42 pm42 an42 cd42 ct42), sl42⟩)
      (q42 : PySem.W.codeIn K cd42 "of_none" = true) (k42 : PySem.W.keepIn K (.ref f42) = true)
    (a43 : PySem.W.nsIn K mainGlobals "of_more" = some (some (.ref f43))) (l43 : K.lookup f43 = some ⟨oc43, od43, .func (PySem.W.fnOf "of_more" "of_more" (defArgs tOfMore) (defBody tOfMore) (defScope tOfMore) .none kV43 dc43 pm43 an43 cd43 ct43), sl43⟩)
      (q43 : PySem.W.codeIn K cd43 "of_more" = true) (k43 : PySem.W.keepIn K (.ref f43) = true)
    (a44 : PySem.W.nsIn K mainGlobals "of_fold" = some (some (.ref f44))) (l44 : K.lookup f44 = some ⟨oc44, od44, .func (PySem.W.fnOf "of_fold" "of_fold" (defArgs tOfFold) (defBody tOfFold) (defScope tOfFold) .none kV44 dc44 pm44 an44 cd44 ct44), sl44⟩)
      (q44 : PySem.W.codeIn K cd44 "of_fold" = true) (k44 : PySem.W.keepIn K (.ref f44) = true)
    (a45 : PySem.W.nsIn K mainGlobals "of_built" = some (some (.ref f45))) (l45 : K.lookup f45 = some ⟨oc45, od45, .func (PySem.W.fnOf "of_built" "of_built" (defArgs tOfBuilt) (defBody tOfBuilt) (defScope tOfBuilt) .none kV45 dc45 pm45 an45 cd45 ct45), sl45⟩)
      (q45 : PySem.W.codeIn K cd45 "of_built" = true) (k45 : PySem.W.keepIn K (.ref f45) = true)
    (a46 : PySem.W.nsIn K mainGlobals "of_alike" = some (some (.ref f46))) (l46 : K.lookup f46 = some ⟨oc46, od46, .func (PySem.W.fnOf "of_alike" "of_alike" (defArgs tOfAlike) (defBody tOfAlike) (defScope tOfAlike) .none kV46 dc46 pm46 an46 cd46 ct46), sl46⟩)
      (q46 : PySem.W.codeIn K cd46 "of_alike" = true) (k46 : PySem.W.keepIn K (.ref f46) = true)
    (a47 : PySem.W.nsIn K mainGlobals "of_fault" = some (some (.ref f47))) (l47 : K.lookup f47 = some ⟨oc47, od47, .func (PySem.W.fnOf "of_fault" "of_fault" (defArgs tOfFault) (defBody tOfFault) (defScope tOfFault) .none kV47 dc47 pm47 an47 cd47 ct47), sl47⟩)
      (q47 : PySem.W.codeIn K cd47 "of_fault" = true) (k47 : PySem.W.keepIn K (.ref f47) = true)
    (a48 : PySem.W.nsIn K mainGlobals "of_rounds" = some (some (.ref f48))) (l48 : K.lookup f48 = some ⟨oc48, od48, .func (PySem.W.fnOf "of_rounds" "of_rounds" (defArgs tOfRounds) (defBody tOfRounds) (defScope tOfRounds) .none kV48 dc48 pm48 an48 cd48 ct48), sl48⟩)
      (q48 : PySem.W.codeIn K cd48 "of_rounds" = true) (k48 : PySem.W.keepIn K (.ref f48) = true)
    (a49 : PySem.W.nsIn K mainGlobals "of_told" = some (some (.ref f49))) (l49 : K.lookup f49 = some ⟨oc49, od49, .func (PySem.W.fnOf "of_told" "of_told" (defArgs tOfTold) (defBody tOfTold) (defScope tOfTold) .none kV49 dc49 pm49 an49 cd49 ct49), sl49⟩)
      (q49 : PySem.W.codeIn K cd49 "of_told" = true) (k49 : PySem.W.keepIn K (.ref f49) = true)
    (a50 : PySem.W.nsIn K mainGlobals "_law_deck" = some (some (.ref f50))) (l50 : K.lookup f50 = some ⟨oc50, od50, .func (PySem.W.fnOf "_law_deck" "_law_deck" (defArgs tDeck) (defBody tDeck) (defScope tDeck) .none kV50 dc50 pm50 an50 cd50 ct50), sl50⟩)
      (q50 : PySem.W.codeIn K cd50 "_law_deck" = true) (k50 : PySem.W.keepIn K (.ref f50) = true)
    (a51 : PySem.W.nsIn K mainGlobals "_law_draw" = some (some (.ref f51))) (l51 : K.lookup f51 = some ⟨oc51, od51, .func (PySem.W.fnOf "_law_draw" "_law_draw" (defArgs tDraw) (defBody tDraw) (defScope tDraw) .none kV51 dc51 pm51 an51 cd51 ct51), sl51⟩)
      (q51 : PySem.W.codeIn K cd51 "_law_draw" = true) (k51 : PySem.W.keepIn K (.ref f51) = true)
    (a52 : PySem.W.nsIn K mainGlobals "_law_pick" = some (some (.ref f52))) (l52 : K.lookup f52 = some ⟨oc52, od52, .func (PySem.W.fnOf "_law_pick" "_law_pick" (defArgs tPick) (defBody tPick) (defScope tPick) .none kV52 dc52 pm52 an52 cd52 ct52), sl52⟩)
      (q52 : PySem.W.codeIn K cd52 "_law_pick" = true) (k52 : PySem.W.keepIn K (.ref f52) = true)
    (a53 : PySem.W.nsIn K mainGlobals "_law_names" = some (some (.ref f53))) (l53 : K.lookup f53 = some ⟨oc53, od53, .func (PySem.W.fnOf "_law_names" "_law_names" (defArgs tNames) (defBody tNames) (defScope tNames) .none kV53 dc53 pm53 an53 cd53 ct53), sl53⟩)
      (q53 : PySem.W.codeIn K cd53 "_law_names" = true) (k53 : PySem.W.keepIn K (.ref f53) = true)
    (a54 : PySem.W.nsIn K mainGlobals "_law_told" = some (some (.ref f54))) (l54 : K.lookup f54 = some ⟨oc54, od54, .func (PySem.W.fnOf "_law_told" "_law_told" (defArgs tLTold) (defBody tLTold) (defScope tLTold) .none kV54 dc54 pm54 an54 cd54 ct54), sl54⟩)
      (q54 : PySem.W.codeIn K cd54 "_law_told" = true) (k54 : PySem.W.keepIn K (.ref f54) = true)
    (a55 : PySem.W.nsIn K mainGlobals "_law_has" = some (some (.ref f55))) (l55 : K.lookup f55 = some ⟨oc55, od55, .func (PySem.W.fnOf "_law_has" "_law_has" (defArgs tLHas) (defBody tLHas) (defScope tLHas) .none kV55 dc55 pm55 an55 cd55 ct55), sl55⟩)
      (q55 : PySem.W.codeIn K cd55 "_law_has" = true) (k55 : PySem.W.keepIn K (.ref f55) = true)
    (a56 : PySem.W.nsIn K mainGlobals "_law_bindings" = some (some (.ref f56))) (l56 : K.lookup f56 = some ⟨oc56, od56, .func (PySem.W.fnOf "_law_bindings" "_law_bindings" (defArgs tBind) (defBody tBind) (defScope tBind) .none kV56 dc56 pm56 an56 cd56 ct56), sl56⟩)
      (q56 : PySem.W.codeIn K cd56 "_law_bindings" = true) (k56 : PySem.W.keepIn K (.ref f56) = true)
    (a57 : PySem.W.nsIn K mainGlobals "_law_second" = some (some (.ref f57))) (l57 : K.lookup f57 = some ⟨oc57, od57, .func (PySem.W.fnOf "_law_second" "_law_second" (defArgs tSec) (defBody tSec) (defScope tSec) .none kV57 dc57 pm57 an57 cd57 ct57), sl57⟩)
      (q57 : PySem.W.codeIn K cd57 "_law_second" = true) (k57 : PySem.W.keepIn K (.ref f57) = true)
    (a58 : PySem.W.nsIn K mainGlobals "_law_right" = some (some (.ref f58))) (l58 : K.lookup f58 = some ⟨oc58, od58, .func (PySem.W.fnOf "_law_right" "_law_right" (defArgs tRight) (defBody tRight) (defScope tRight) .none kV58 dc58 pm58 an58 cd58 ct58), sl58⟩)
      (q58 : PySem.W.codeIn K cd58 "_law_right" = true) (k58 : PySem.W.keepIn K (.ref f58) = true)
    (a59 : PySem.W.nsIn K mainGlobals "law" = some (some (.ref f59))) (l59 : K.lookup f59 = some ⟨oc59, od59, .func (PySem.W.fnOf "law" "law" (defArgs tLaw) (defBody tLaw) (defScope tLaw) .none kV59 dc59 pm59 an59 cd59 ct59), sl59⟩)
      (q59 : PySem.W.codeIn K cd59 "law" = true) (k59 : PySem.W.keepIn K (.ref f59) = true)
    (t1 : K.lookup c1 = some ⟨e1, dd1, .fields vs1, sm1⟩) (v1 : vs1[11]? = some (.ref p1)) (n1 : K.lookup p1 = none)
    (t6 : K.lookup c6 = some ⟨e6, dd6, .fields vs6, sm6⟩) (v6 : vs6[11]? = some (.ref p6)) (n6 : K.lookup p6 = none)
    (t19 : K.lookup c19 = some ⟨e19, dd19, .fields vs19, sm19⟩) (v19 : vs19[11]? = some (.ref p19)) (n19 : K.lookup p19 = none)
    (t16 : K.lookup c16 = some ⟨e16, dd16, .fields vs16, sm16⟩) (v16 : vs16[11]? = some (.ref p16)) (n16 : K.lookup p16 = none)
    (aL : PySem.W.nsIn K mainGlobals "LETTERS" = some (some uL)) (rL : RelV (.str lets) uL) (aN : PySem.W.nsIn K mainGlobals "LONGEST_NAME" = some (some uN)) (rN : RelV (.int 8) uN) (aM : PySem.W.nsIn K mainGlobals "MOST_TURNS" = some (some uM)) (rM : RelV (.int 30) uM)
    (aD_ : PySem.W.nsIn K mainGlobals "KIND_FORMS" = some (some (.ref dA))) (lD_ : K.lookup dA = some ⟨.type "dict", none, .dict es nD, #[]⟩) (tD_ : PySem.W.KeysLit w.params es.toList) (sD_ : (dA == sysModules) = false)
    (kD_ : KeysAre es.toList [("open", .ref o1), ("num", .ref o2), ("truth", .ref o3), ("pair", .ref o4), ("either", .ref o5), ("list", .ref o6), ("fun", .ref o7)])
    (aB_ : PySem.W.nsIn K mainGlobals "TERM_FORMS" = some (some (.ref dB))) (lB_ : K.lookup dB = some ⟨.type "dict", none, .dict esB nB, #[]⟩) (tB_ : PySem.W.KeysLit w.params esB.toList) (sB_ : (dB == sysModules) = false)
    (kB_ : KeysAre esB.toList [("name", .ref r1), ("fun", .ref r2), ("call", .ref r3), ("num", .ref r4), ("plus", .ref r5), ("less", .ref r6), ("truth", .ref r7), ("if", .ref r8), ("pair", .ref r9), ("first", .ref r10), ("second", .ref r11), ("left", .ref r12), ("right", .ref r13), ("case", .ref r14), ("none", .ref r15), ("more", .ref r16), ("fold", .ref r17), ("built", .ref r18), ("alike", .ref r19), ("fault", .ref r20), ("rounds", .ref r21), ("told", .ref r22)])
    (aR_ : PySem.W.nsIn K mainGlobals "RULES" = some (some (.ref dR))) (lR_ : K.lookup dR = some ⟨.type "dict", none, .dict esR nR, #[]⟩) (tR_ : PySem.W.KeysLit w.params esR.toList) (sR_ : (dR == sysModules) = false)
    (kR_ : KeysAre esR.toList [("name", .ref f28), ("fun", .ref f29), ("call", .ref f30), ("num", .ref f31), ("plus", .ref f32), ("less", .ref f33), ("truth", .ref f34), ("if", .ref f35), ("pair", .ref f36), ("first", .ref f37), ("second", .ref f38), ("left", .ref f39), ("right", .ref f40), ("case", .ref f41), ("none", .ref f42), ("more", .ref f43), ("fold", .ref f44), ("built", .ref f45), ("alike", .ref f46), ("fault", .ref f47), ("rounds", .ref f48), ("told", .ref f49)])
    (lT1 : K.lookup o1 = some ⟨.type "tuple", dT1, .seq iT1 nT1, sT1⟩) (vT1 : iT1.size ≤ sizeLine ∧ Vals [V.str "name"] iT1.toList)
    (lT2 : K.lookup o2 = some ⟨.type "tuple", dT2, .seq iT2 nT2, sT2⟩) (vT2 : iT2.size ≤ sizeLine ∧ Vals [] iT2.toList)
    (lT3 : K.lookup o3 = some ⟨.type "tuple", dT3, .seq iT3 nT3, sT3⟩) (vT3 : iT3.size ≤ sizeLine ∧ Vals [] iT3.toList)
    (lT4 : K.lookup o4 = some ⟨.type "tuple", dT4, .seq iT4 nT4, sT4⟩) (vT4 : iT4.size ≤ sizeLine ∧ Vals [V.str "kind", V.str "kind"] iT4.toList)
    (lT5 : K.lookup o5 = some ⟨.type "tuple", dT5, .seq iT5 nT5, sT5⟩) (vT5 : iT5.size ≤ sizeLine ∧ Vals [V.str "kind", V.str "kind"] iT5.toList)
    (lT6 : K.lookup o6 = some ⟨.type "tuple", dT6, .seq iT6 nT6, sT6⟩) (vT6 : iT6.size ≤ sizeLine ∧ Vals [V.str "kind"] iT6.toList)
    (lT7 : K.lookup o7 = some ⟨.type "tuple", dT7, .seq iT7 nT7, sT7⟩) (vT7 : iT7.size ≤ sizeLine ∧ Vals [V.str "kind", V.str "kind"] iT7.toList)
    (lQ1 : K.lookup r1 = some ⟨.type "tuple", dQ1, .seq iQ1 nQ1, sQ1⟩) (vQ1 : iQ1.size ≤ sizeLine ∧ Vals [V.str "name"] iQ1.toList)
    (lQ2 : K.lookup r2 = some ⟨.type "tuple", dQ2, .seq iQ2 nQ2, sQ2⟩) (vQ2 : iQ2.size ≤ sizeLine ∧ Vals [V.str "name", V.str "argument", V.str "term"] iQ2.toList)
    (lQ3 : K.lookup r3 = some ⟨.type "tuple", dQ3, .seq iQ3 nQ3, sQ3⟩) (vQ3 : iQ3.size ≤ sizeLine ∧ Vals [V.str "term", V.str "term"] iQ3.toList)
    (lQ4 : K.lookup r4 = some ⟨.type "tuple", dQ4, .seq iQ4 nQ4, sQ4⟩) (vQ4 : iQ4.size ≤ sizeLine ∧ Vals [V.str "number"] iQ4.toList)
    (lQ5 : K.lookup r5 = some ⟨.type "tuple", dQ5, .seq iQ5 nQ5, sQ5⟩) (vQ5 : iQ5.size ≤ sizeLine ∧ Vals [V.str "term", V.str "term"] iQ5.toList)
    (lQ6 : K.lookup r6 = some ⟨.type "tuple", dQ6, .seq iQ6 nQ6, sQ6⟩) (vQ6 : iQ6.size ≤ sizeLine ∧ Vals [V.str "term", V.str "term"] iQ6.toList)
    (lQ7 : K.lookup r7 = some ⟨.type "tuple", dQ7, .seq iQ7 nQ7, sQ7⟩) (vQ7 : iQ7.size ≤ sizeLine ∧ Vals [V.str "truth"] iQ7.toList)
    (lQ8 : K.lookup r8 = some ⟨.type "tuple", dQ8, .seq iQ8 nQ8, sQ8⟩) (vQ8 : iQ8.size ≤ sizeLine ∧ Vals [V.str "term", V.str "term", V.str "term"] iQ8.toList)
    (lQ9 : K.lookup r9 = some ⟨.type "tuple", dQ9, .seq iQ9 nQ9, sQ9⟩) (vQ9 : iQ9.size ≤ sizeLine ∧ Vals [V.str "term", V.str "term"] iQ9.toList)
    (lQ10 : K.lookup r10 = some ⟨.type "tuple", dQ10, .seq iQ10 nQ10, sQ10⟩) (vQ10 : iQ10.size ≤ sizeLine ∧ Vals [V.str "term"] iQ10.toList)
    (lQ11 : K.lookup r11 = some ⟨.type "tuple", dQ11, .seq iQ11 nQ11, sQ11⟩) (vQ11 : iQ11.size ≤ sizeLine ∧ Vals [V.str "term"] iQ11.toList)
    (lQ12 : K.lookup r12 = some ⟨.type "tuple", dQ12, .seq iQ12 nQ12, sQ12⟩) (vQ12 : iQ12.size ≤ sizeLine ∧ Vals [V.str "term", V.str "data"] iQ12.toList)
    (lQ13 : K.lookup r13 = some ⟨.type "tuple", dQ13, .seq iQ13 nQ13, sQ13⟩) (vQ13 : iQ13.size ≤ sizeLine ∧ Vals [V.str "data", V.str "term"] iQ13.toList)
    (lQ14 : K.lookup r14 = some ⟨.type "tuple", dQ14, .seq iQ14 nQ14, sQ14⟩) (vQ14 : iQ14.size ≤ sizeLine ∧ Vals [V.str "term", V.str "name", V.str "term", V.str "name", V.str "term"] iQ14.toList)
    (lQ15 : K.lookup r15 = some ⟨.type "tuple", dQ15, .seq iQ15 nQ15, sQ15⟩) (vQ15 : iQ15.size ≤ sizeLine ∧ Vals [V.str "data"] iQ15.toList)
    (lQ16 : K.lookup r16 = some ⟨.type "tuple", dQ16, .seq iQ16 nQ16, sQ16⟩) (vQ16 : iQ16.size ≤ sizeLine ∧ Vals [V.str "term", V.str "term"] iQ16.toList)
    (lQ17 : K.lookup r17 = some ⟨.type "tuple", dQ17, .seq iQ17 nQ17, sQ17⟩) (vQ17 : iQ17.size ≤ sizeLine ∧ Vals [V.str "term", V.str "term", V.str "name", V.str "name", V.str "term"] iQ17.toList)
    (lQ18 : K.lookup r18 = some ⟨.type "tuple", dQ18, .seq iQ18 nQ18, sQ18⟩) (vQ18 : iQ18.size ≤ sizeLine ∧ Vals [V.str "data", V.str "name", V.str "name", V.str "name", V.str "term"] iQ18.toList)
    (lQ19 : K.lookup r19 = some ⟨.type "tuple", dQ19, .seq iQ19 nQ19, sQ19⟩) (vQ19 : iQ19.size ≤ sizeLine ∧ Vals [V.str "term", V.str "term"] iQ19.toList)
    (lQ20 : K.lookup r20 = some ⟨.type "tuple", dQ20, .seq iQ20 nQ20, sQ20⟩) (vQ20 : iQ20.size ≤ sizeLine ∧ Vals [V.str "data"] iQ20.toList)
    (lQ21 : K.lookup r21 = some ⟨.type "tuple", dQ21, .seq iQ21 nQ21, sQ21⟩) (vQ21 : iQ21.size ≤ sizeLine ∧ Vals [V.str "turns", V.str "term", V.str "name", V.str "term"] iQ21.toList)
    (lQ22 : K.lookup r22 = some ⟨.type "tuple", dQ22, .seq iQ22 nQ22, sQ22⟩) (vQ22 : iQ22.size ≤ sizeLine ∧ Vals [V.str "name", V.str "fills"] iQ22.toList)
    (aGN : PySem.W.nsIn K mainGlobals "NUM" = some (some (.ref oN))) (lGN : K.lookup oN = some ⟨.type "tuple", dN, .seq iN nN, slN⟩) (vGN : iN.size ≤ sizeLine ∧ Vals [V.str "num"] iN.toList)
    (aGO : PySem.W.nsIn K mainGlobals "TRUTH" = some (some (.ref oT))) (lGO : K.lookup oT = some ⟨.type "tuple", dO, .seq iO nO, slO⟩) (vGO : iO.size ≤ sizeLine ∧ Vals [V.str "truth"] iO.toList)
    (lGD : K.lookup tD = some ⟨.type "tuple", dD, .seq iD nDd, slD⟩) (vGD : Vals [V.non] iD.toList)
    (aX : PySem.W.nsIn K mainGlobals "NoKind" = some (some (.ref cN))) (xP : PySem.W.excIn K cN [.type "ValueError", .type "Exception", .type "BaseException", .type "object"] "ValueError.__new__" = true) (kX : PySem.W.keepIn K (.ref cN) = true) (bX : PySem.W.subIn K (.ref cN) (.type "BaseException") = some true) (tX : PySem.W.typeIn K (.ref cN) = some (.type "type")) (vX : PySem.W.subIn K (.ref cN) (.type "ValueError") = some true)
    (gX : PySem.W.findIn K (.ref cN) "__getattribute__" = some (some (.builtin "BaseException.__getattribute__"))) (hX : PySem.W.findIn K (.ref cN) "__getattr__" = some none) (dX : PySem.W.hasDictIn K cN = true) (cX : PySem.W.findIn K (.ref cN) "__class__" = some (some (.builtin "object.__class__"))) (sX : PySem.W.specialIn K (.builtin "object.__class__") "__get__" = some (some (.builtin "getset_descriptor.__get__"))) (uX : PySem.W.takesIn K (.builtin "object.__class__") = some true) (mX : PySem.W.mroIn K cN (.type "object") = some true)
    (aK : PySem.W.nsIn K mainGlobals "KindError" = some (some (.ref cK))) (bK : PySem.W.subIn K (.ref cK) (.type "BaseException") = some true) (iK : PySem.W.isClsIn K cK = true) (tK : PySem.W.typeIn K (.ref cK) = some (.type "type")) (sK : PySem.W.subIn K (.ref cN) (.ref cK) = some true)
    (xa1 : PySem.W.nsIn K mainGlobals "TooMany" = some (some (.ref x1))) (xn1 : (Value.ref cN == Value.ref x1) = false) (xi1 : PySem.W.isClsIn K x1 = true) (xt1 : PySem.W.typeIn K (.ref x1) = some (.type "type")) (xs1 : PySem.W.subIn K (.ref cN) (.ref x1) = some false)
    (xa2 : PySem.W.nsIn K mainGlobals "TooMuch" = some (some (.ref x2))) (xn2 : (Value.ref cN == Value.ref x2) = false) (xi2 : PySem.W.isClsIn K x2 = true) (xt2 : PySem.W.typeIn K (.ref x2) = some (.type "type")) (xs2 : PySem.W.subIn K (.ref cN) (.ref x2) = some false)
    (xa3 : PySem.W.nsIn K mainGlobals "NoText" = some (some (.ref x3))) (xn3 : (Value.ref cN == Value.ref x3) = false) (xi3 : PySem.W.isClsIn K x3 = true) (xt3 : PySem.W.typeIn K (.ref x3) = some (.type "type")) (xs3 : PySem.W.subIn K (.ref cN) (.ref x3) = some false)
    (xa4 : PySem.W.nsIn K mainGlobals "NoLead" = some (some (.ref x4))) (xn4 : (Value.ref cN == Value.ref x4) = false) (xi4 : PySem.W.isClsIn K x4 = true) (xt4 : PySem.W.typeIn K (.ref x4) = some (.type "type")) (xs4 : PySem.W.subIn K (.ref cN) (.ref x4) = some false)
    (xa5 : PySem.W.nsIn K mainGlobals "NoName" = some (some (.ref x5))) (xn5 : (Value.ref cN == Value.ref x5) = false) (xi5 : PySem.W.isClsIn K x5 = true) (xt5 : PySem.W.typeIn K (.ref x5) = some (.type "type")) (xs5 : PySem.W.subIn K (.ref cN) (.ref x5) = some false)
    (xa6 : PySem.W.nsIn K mainGlobals "Taken" = some (some (.ref x6))) (xn6 : (Value.ref cN == Value.ref x6) = false) (xi6 : PySem.W.isClsIn K x6 = true) (xt6 : PySem.W.typeIn K (.ref x6) = some (.type "type")) (xs6 : PySem.W.subIn K (.ref cN) (.ref x6) = some false)
    (xa7 : PySem.W.nsIn K mainGlobals "Ring" = some (some (.ref x7))) (xn7 : (Value.ref cN == Value.ref x7) = false) (xi7 : PySem.W.isClsIn K x7 = true) (xt7 : PySem.W.typeIn K (.ref x7) = some (.type "type")) (xs7 : PySem.W.subIn K (.ref cN) (.ref x7) = some false)
    (xa8 : PySem.W.nsIn K mainGlobals "NoBack" = some (some (.ref x8))) (xn8 : (Value.ref cN == Value.ref x8) = false) (xi8 : PySem.W.isClsIn K x8 = true) (xt8 : PySem.W.typeIn K (.ref x8) = some (.type "type")) (xs8 : PySem.W.subIn K (.ref cN) (.ref x8) = some false)
    (xa9 : PySem.W.nsIn K mainGlobals "NoRow" = some (some (.ref x9))) (xn9 : (Value.ref cN == Value.ref x9) = false) (xi9 : PySem.W.isClsIn K x9 = true) (xt9 : PySem.W.typeIn K (.ref x9) = some (.type "type")) (xs9 : PySem.W.subIn K (.ref cN) (.ref x9) = some false)
    (xa10 : PySem.W.nsIn K mainGlobals "Unbounded" = some (some (.ref x10))) (xn10 : (Value.ref cN == Value.ref x10) = false) (xi10 : PySem.W.isClsIn K x10 = true) (xt10 : PySem.W.typeIn K (.ref x10) = some (.type "type")) (xs10 : PySem.W.subIn K (.ref cN) (.ref x10) = some false)
    (xa11 : PySem.W.nsIn K mainGlobals "Broken" = some (some (.ref x11))) (xn11 : (Value.ref cN == Value.ref x11) = false) (xi11 : PySem.W.isClsIn K x11 = true) (xt11 : PySem.W.typeIn K (.ref x11) = some (.type "type")) (xs11 : PySem.W.subIn K (.ref cN) (.ref x11) = some false)
    (xa12 : PySem.W.nsIn K mainGlobals "Used" = some (some (.ref x12))) (xn12 : (Value.ref cN == Value.ref x12) = false) (xi12 : PySem.W.isClsIn K x12 = true) (xt12 : PySem.W.typeIn K (.ref x12) = some (.type "type")) (xs12 : PySem.W.subIn K (.ref cN) (.ref x12) = some false)
    (z1 : PySem.W.nsIn K mainGlobals "len" = some none) (z2 : PySem.W.nsIn K mainGlobals "tuple" = some none) (z3 : PySem.W.nsIn K mainGlobals "sorted" = some none) (z4 : PySem.W.nsIn K mainGlobals "all" = some none) (z5 : PySem.W.nsIn K mainGlobals "isinstance" = some none) (z6 : PySem.W.nsIn K mainGlobals "bool" = some none) (z7 : PySem.W.nsIn K mainGlobals "str" = some none) (z8 : PySem.W.nsIn K mainGlobals "int" = some none) (z9 : PySem.W.nsIn K mainGlobals "zip" = some none) (z10 : PySem.W.nsIn K mainGlobals "ValueError" = some none) (z11 : PySem.W.nsIn K mainGlobals "list" = some none) (z12 : PySem.W.nsIn K mainGlobals "range" = some none) (z13 : PySem.W.nsIn K mainGlobals "reversed" = some none) (z14 : PySem.W.nsIn K mainGlobals "sum" = some none) (z15 : PySem.W.nsIn K mainGlobals "dict" = some none) :
    LawG l w K CX0 80 63 "_law_script" mg fa h := by
  have e := hfa.symm.trans (PySem.W.mg_of X G a59)
  cases e
  have F1 := fun_mk (st := tName) l1 q1 k1
  have b1 := F1.binds (ps := ["thing"]) fun _ _ _ _ _ _ us hl => match us, hl with | [_], _ => rfl
  have g_1 := PySem.W.mg_of X G a1
  have F2 := fun_mk (st := tTruth) l2 q2 k2
  have b2 := F2.binds (ps := ["thing"]) fun _ _ _ _ _ _ us hl => match us, hl with | [_], _ => rfl
  have g_2 := PySem.W.mg_of X G a2
  have F3 := fun_mk (st := tWhole) l3 q3 k3
  have b3 := F3.binds (ps := ["thing"]) fun _ _ _ _ _ _ us hl => match us, hl with | [_], _ => rfl
  have g_3 := PySem.W.mg_of X G a3
  have F4 := fun_mk (st := tNumber) l4 q4 k4
  have b4 := F4.binds (ps := ["thing"]) fun _ _ _ _ _ _ us hl => match us, hl with | [_], _ => rfl
  have g_4 := PySem.W.mg_of X G a4
  have F5 := fun_mk (st := tTagged) l5 q5 k5
  have b5 := F5.binds (ps := ["thing", "word", "many"]) fun _ _ _ _ _ _ us hl => match us, hl with | [_, _, _], _ => rfl
  have g_5 := PySem.W.mg_of X G a5
  have F6 := fun_mk (st := tRising) l6 q6 k6
  have b6 := F6.binds (ps := ["row"]) fun _ _ _ _ _ _ us hl => match us, hl with | [_], _ => rfl
  have g_6 := PySem.W.mg_of X G a6
  have F7 := fun_mk (st := tIsData) l7 q7 k7
  have b7 := F7.binds (ps := ["thing"]) fun _ _ _ _ _ _ us hl => match us, hl with | [_], _ => rfl
  have g_7 := PySem.W.mg_of X G a7
  have F8 := fun_mk (st := tForm) l8 q8 k8
  have b8 := F8.binds (ps := ["thing"]) fun _ _ _ _ _ _ us hl => match us, hl with | [_], _ => rfl
  have g_8 := PySem.W.mg_of X G a8
  have F9 := fun_mk (st := tWithin) l9 q9 k9
  have b9 := F9.binds (ps := ["kind"]) fun _ _ _ _ _ _ us hl => match us, hl with | [_], _ => rfl
  have g_9 := PySem.W.mg_of X G a9
  have F10 := fun_mk (st := tIsFirst) l10 q10 k10
  have b10 := F10.binds (ps := ["thing"]) fun _ _ _ _ _ _ us hl => match us, hl with | [_], _ => rfl
  have g_10 := PySem.W.mg_of X G a10
  have F11 := fun_mk (st := tIsArg) l11 q11 k11
  have b11 := F11.binds (ps := ["thing"]) fun _ _ _ _ _ _ us hl => match us, hl with | [_], _ => rfl
  have g_11 := PySem.W.mg_of X G a11
  have F12 := fun_mk (st := tLeads) l12 q12 k12
  have b12 := F12.binds (ps := ["kind"]) fun _ _ _ _ _ _ us hl => match us, hl with | [_], _ => rfl
  have g_12 := PySem.W.mg_of X G a12
  have F13 := fun_mk (st := tParts) l13 q13 k13
  have b13 := F13.binds (ps := ["kind"]) fun _ _ _ _ _ _ us hl => match us, hl with | [_], _ => rfl
  have g_13 := PySem.W.mg_of X G a13
  have F14 := fun_mk (st := tOpens) l14 q14 k14
  have b14 := F14.binds (ps := ["kind"]) fun _ _ _ _ _ _ us hl => match us, hl with | [_], _ => rfl
  have g_14 := PySem.W.mg_of X G a14
  have F15 := fun_mk (st := tIsTerm) l15 q15 k15
  have b15 := F15.binds (ps := ["thing"]) fun _ _ _ _ _ _ us hl => match us, hl with | [_], _ => rfl
  have g_15 := PySem.W.mg_of X G a15
  have F16 := fun_mk (st := tHasTerm) l16 q16 k16
  have b16 := F16.binds (ps := ["thing"]) fun _ _ _ _ _ _ us hl => match us, hl with | [_], _ => rfl
  have g_16 := PySem.W.mg_of X G a16
  have F17 := fun_mk (st := tFits) l17 q17 k17
  have b17 := F17.binds (ps := ["role", "part"]) fun _ _ _ _ _ _ us hl => match us, hl with | [_, _], _ => rfl
  have g_17 := PySem.W.mg_of X G a17
  have F18 := fun_mk (st := tTurns) l18 q18 k18
  have b18 := F18.binds (ps := ["thing"]) fun _ _ _ _ _ _ us hl => match us, hl with | [_], _ => rfl
  have g_18 := PySem.W.mg_of X G a18
  have F19 := fun_mk (st := tFills) l19 q19 k19
  have b19 := F19.binds (ps := ["thing"]) fun _ _ _ _ _ _ us hl => match us, hl with | [_], _ => rfl
  have g_19 := PySem.W.mg_of X G a19
  have F20 := fun_mk (st := tFill) l20 q20 k20
  have b20 := F20.binds (ps := ["thing"]) fun _ _ _ _ _ _ us hl => match us, hl with | [_], _ => rfl
  have g_20 := PySem.W.mg_of X G a20
  have F21 := fun_mk (st := tTermsIn) l21 q21 k21
  have b21 := F21.binds (ps := ["term"]) fun _ _ _ _ _ _ us hl => match us, hl with | [_], _ => rfl
  have g_21 := PySem.W.mg_of X G a21
  have F22 : FunD K "kind_of" "kind_of" (defArgs tKindOf) (defBody tKindOf) (defScope tKindOf) [V.non] [] f22 _ := ⟨⟨_, _, _, _, _, _, _, _, _, _, rfl, l22, q22, .inr ⟨by simp, tD, _, iD.toList, nDd, rfl, lGD, by simp, vGD⟩, .inl rfl⟩, k22⟩
  obtain ⟨ds22, vd22, b22⟩ := F22.binds1 (ps := ["term", "looked", "known"]) 2 0 (by simp) rfl fun T kV doc pm an cdv ct us its h1 h2 => match us, its, h1, h2 with | [_, _], [_], _, _ => ⟨_, rfl, rfl⟩
  have g_22 := PySem.W.mg_of X G a22
  have F23 := fun_mk (st := tKindAt) l23 q23 k23
  have b23 := F23.binds (ps := ["term", "names", "settled"]) fun _ _ _ _ _ _ us hl => match us, hl with | [_, _, _], _ => rfl
  have g_23 := PySem.W.mg_of X G a23
  have F24 := fun_mk (st := tNeed) l24 q24 k24
  have b24 := F24.binds (ps := ["held", "why"]) fun _ _ _ _ _ _ us hl => match us, hl with | [_, _], _ => rfl
  have g_24 := PySem.W.mg_of X G a24
  have F25 := fun_mk (st := tNeedSame) l25 q25 k25
  have b25 := F25.binds (ps := ["one", "other", "why"]) fun _ _ _ _ _ _ us hl => match us, hl with | [_, _, _], _ => rfl
  have g_25 := PySem.W.mg_of X G a25
  have F26 := fun_mk (st := tDataAt) l26 q26 k26
  have b26 := F26.binds (ps := ["term", "names", "settled"]) fun _ _ _ _ _ _ us hl => match us, hl with | [_, _, _], _ => rfl
  have g_26 := PySem.W.mg_of X G a26
  have F27 := fun_mk (st := tFormedAt) l27 q27 k27
  have b27 := F27.binds (ps := ["word", "term", "names", "settled"]) fun _ _ _ _ _ _ us hl => match us, hl with | [_, _, _, _], _ => rfl
  have g_27 := PySem.W.mg_of X G a27
  have F28 := fun_mk (st := tOfName) l28 q28 k28
  have b28 := F28.binds (ps := ["term", "names", "settled"]) fun _ _ _ _ _ _ us hl => match us, hl with | [_, _, _], _ => rfl
  have g_28 := PySem.W.mg_of X G a28
  have F29 := fun_mk (st := tOfFun) l29 q29 k29
  have b29 := F29.binds (ps := ["term", "names", "settled"]) fun _ _ _ _ _ _ us hl => match us, hl with | [_, _, _], _ => rfl
  have g_29 := PySem.W.mg_of X G a29
  have F30 := fun_mk (st := tOfCall) l30 q30 k30
  have b30 := F30.binds (ps := ["term", "names", "settled"]) fun _ _ _ _ _ _ us hl => match us, hl with | [_, _, _], _ => rfl
  have g_30 := PySem.W.mg_of X G a30
  have F31 := fun_mk (st := tOfNum) l31 q31 k31
  have b31 := F31.binds (ps := ["term", "names", "settled"]) fun _ _ _ _ _ _ us hl => match us, hl with | [_, _, _], _ => rfl
  have g_31 := PySem.W.mg_of X G a31
  have F32 := fun_mk (st := tOfPlus) l32 q32 k32
  have b32 := F32.binds (ps := ["term", "names", "settled"]) fun _ _ _ _ _ _ us hl => match us, hl with | [_, _, _], _ => rfl
  have g_32 := PySem.W.mg_of X G a32
  have F33 := fun_mk (st := tOfLess) l33 q33 k33
  have b33 := F33.binds (ps := ["term", "names", "settled"]) fun _ _ _ _ _ _ us hl => match us, hl with | [_, _, _], _ => rfl
  have g_33 := PySem.W.mg_of X G a33
  have F34 := fun_mk (st := tOfTruth) l34 q34 k34
  have b34 := F34.binds (ps := ["term", "names", "settled"]) fun _ _ _ _ _ _ us hl => match us, hl with | [_, _, _], _ => rfl
  have g_34 := PySem.W.mg_of X G a34
  have F35 := fun_mk (st := tOfIf) l35 q35 k35
  have b35 := F35.binds (ps := ["term", "names", "settled"]) fun _ _ _ _ _ _ us hl => match us, hl with | [_, _, _], _ => rfl
  have g_35 := PySem.W.mg_of X G a35
  have F36 := fun_mk (st := tOfPair) l36 q36 k36
  have b36 := F36.binds (ps := ["term", "names", "settled"]) fun _ _ _ _ _ _ us hl => match us, hl with | [_, _, _], _ => rfl
  have g_36 := PySem.W.mg_of X G a36
  have F37 := fun_mk (st := tOfFirst) l37 q37 k37
  have b37 := F37.binds (ps := ["term", "names", "settled"]) fun _ _ _ _ _ _ us hl => match us, hl with | [_, _, _], _ => rfl
  have g_37 := PySem.W.mg_of X G a37
  have F38 := fun_mk (st := tOfSecond) l38 q38 k38
  have b38 := F38.binds (ps := ["term", "names", "settled"]) fun _ _ _ _ _ _ us hl => match us, hl with | [_, _, _], _ => rfl
  have g_38 := PySem.W.mg_of X G a38
  have F39 := fun_mk (st := tOfLeft) l39 q39 k39
  have b39 := F39.binds (ps := ["term", "names", "settled"]) fun _ _ _ _ _ _ us hl => match us, hl with | [_, _, _], _ => rfl
  have g_39 := PySem.W.mg_of X G a39
  have F40 := fun_mk (st := tOfRight) l40 q40 k40
  have b40 := F40.binds (ps := ["term", "names", "settled"]) fun _ _ _ _ _ _ us hl => match us, hl with | [_, _, _], _ => rfl
  have g_40 := PySem.W.mg_of X G a40
  have F41 := fun_mk (st := tOfCase) l41 q41 k41
  have b41 := F41.binds (ps := ["term", "names", "settled"]) fun _ _ _ _ _ _ us hl => match us, hl with | [_, _, _], _ => rfl
  have g_41 := PySem.W.mg_of X G a41
  have F42 := fun_mk (st := tOfNone) l42 q42 k42
  have b42 := F42.binds (ps := ["term", "names", "settled"]) fun _ _ _ _ _ _ us hl => match us, hl with | [_, _, _], _ => rfl
  have g_42 := PySem.W.mg_of X G a42
  have F43 := fun_mk (st := tOfMore) l43 q43 k43
  have b43 := F43.binds (ps := ["term", "names", "settled"]) fun _ _ _ _ _ _ us hl => match us, hl with | [_, _, _], _ => rfl
  have g_43 := PySem.W.mg_of X G a43
  have F44 := fun_mk (st := tOfFold) l44 q44 k44
  have b44 := F44.binds (ps := ["term", "names", "settled"]) fun _ _ _ _ _ _ us hl => match us, hl with | [_, _, _], _ => rfl
  have g_44 := PySem.W.mg_of X G a44
  have F45 := fun_mk (st := tOfBuilt) l45 q45 k45
  have b45 := F45.binds (ps := ["term", "names", "settled"]) fun _ _ _ _ _ _ us hl => match us, hl with | [_, _, _], _ => rfl
  have g_45 := PySem.W.mg_of X G a45
  have F46 := fun_mk (st := tOfAlike) l46 q46 k46
  have b46 := F46.binds (ps := ["term", "names", "settled"]) fun _ _ _ _ _ _ us hl => match us, hl with | [_, _, _], _ => rfl
  have g_46 := PySem.W.mg_of X G a46
  have F47 := fun_mk (st := tOfFault) l47 q47 k47
  have b47 := F47.binds (ps := ["term", "names", "settled"]) fun _ _ _ _ _ _ us hl => match us, hl with | [_, _, _], _ => rfl
  have g_47 := PySem.W.mg_of X G a47
  have F48 := fun_mk (st := tOfRounds) l48 q48 k48
  have b48 := F48.binds (ps := ["term", "names", "settled"]) fun _ _ _ _ _ _ us hl => match us, hl with | [_, _, _], _ => rfl
  have g_48 := PySem.W.mg_of X G a48
  have F49 := fun_mk (st := tOfTold) l49 q49 k49
  have b49 := F49.binds (ps := ["term", "names", "settled"]) fun _ _ _ _ _ _ us hl => match us, hl with | [_, _, _], _ => rfl
  have g_49 := PySem.W.mg_of X G a49
  have F50 := fun_mk (st := tDeck) l50 q50 k50
  have b50 := F50.binds (ps := ["_law_script"]) fun _ _ _ _ _ _ us hl => match us, hl with | [_], _ => rfl
  have g_50 := PySem.W.mg_of X G a50
  have F51 := fun_mk (st := tDraw) l51 q51 k51
  have b51 := F51.binds (ps := ["_law_deck_here", "_law_most"]) fun _ _ _ _ _ _ us hl => match us, hl with | [_, _], _ => rfl
  have g_51 := PySem.W.mg_of X G a51
  have F52 := fun_mk (st := tPick) l52 q52 k52
  have b52 := F52.binds (ps := psPick) fun _ _ _ _ _ _ us hl => match us, hl with | [_, _], _ => rfl
  have g_52 := PySem.W.mg_of X G a52
  have F53 := fun_mk (st := tNames) l53 q53 k53
  have b53 := F53.binds (ps := ["_law_deck_here", "_law_many"]) fun _ _ _ _ _ _ us hl => match us, hl with | [_, _], _ => rfl
  have g_53 := PySem.W.mg_of X G a53
  have F54 := fun_mk (st := tLTold) l54 q54 k54
  have b54 := F54.binds (ps := psLTold) fun _ _ _ _ _ _ us hl => match us, hl with | [_, _], _ => rfl
  have g_54 := PySem.W.mg_of X G a54
  have F55 := fun_mk (st := tLHas) l55 q55 k55
  have b55 := F55.binds (ps := psLHas) fun _ _ _ _ _ _ us hl => match us, hl with | [_, _], _ => rfl
  have g_55 := PySem.W.mg_of X G a55
  have F56 := fun_mk (st := tBind) l56 q56 k56
  have b56 := F56.binds (ps := psBind) fun _ _ _ _ _ _ us hl => match us, hl with | [_, _, _, _], _ => rfl
  have g_56 := PySem.W.mg_of X G a56
  have F57 := fun_mk (st := tSec) l57 q57 k57
  have b57 := F57.binds (ps := psSec) fun _ _ _ _ _ _ us hl => match us, hl with | [_, _, _, _, _], _ => rfl
  have g_57 := PySem.W.mg_of X G a57
  have F58 := fun_mk (st := tRight) l58 q58 k58
  have b58 := F58.binds (ps := psRight) fun _ _ _ _ _ _ us hl => match us, hl with | [_, _], _ => rfl
  have g_58 := PySem.W.mg_of X G a58
  have F59 := fun_mk (st := tLaw) l59 q59 k59
  have m_len := PySem.W.mg_none_of X G z1
  have m_tuple := PySem.W.mg_none_of X G z2
  have m_sorted := PySem.W.mg_none_of X G z3
  have m_all := PySem.W.mg_none_of X G z4
  have m_isinstance := PySem.W.mg_none_of X G z5
  have m_bool := PySem.W.mg_none_of X G z6
  have m_str := PySem.W.mg_none_of X G z7
  have m_int := PySem.W.mg_none_of X G z8
  have m_zip := PySem.W.mg_none_of X G z9
  have m_ValueError := PySem.W.mg_none_of X G z10
  have m_list := PySem.W.mg_none_of X G z11
  have m_range := PySem.W.mg_none_of X G z12
  have m_reversed := PySem.W.mg_none_of X G z13
  have m_sum := PySem.W.mg_none_of X G z14
  have m_dict := PySem.W.mg_none_of X G z15
  have C1 := Kg.funC_mk (st := tName) l1 q1
  obtain ⟨h1, hc1⟩ := Kg.tabOf_at X TT1 g_1 l1 t1 v1
  have C6 := Kg.funC_mk (st := tRising) l6 q6
  obtain ⟨h6, hc6⟩ := Kg.tabOf_at X TT6 g_6 l6 t6 v6
  have C19 := Kg.funC_mk (st := tFills) l19 q19
  obtain ⟨h19, hc19⟩ := Kg.tabOf_at X TT19 g_19 l19 t19 v19
  have C16 := Kg.funC_mk (st := tHasTerm) l16 q16
  obtain ⟨h16, hc16⟩ := Kg.tabOf_at X TT16 g_16 l16 t16 v16
  have gL := PySem.W.mg_of X G aL
  have gN := PySem.W.mg_of X G aN
  have gM := PySem.W.mg_of X G aM
  have gD := PySem.W.mg_of X G aD_
  have gB := PySem.W.mg_of X G aB_
  have hD : Forms K w dA es nD := by
    refine ⟨⟨lD_, tD_, sD_⟩, fun z hz => ?_, fun z m hz => ?_⟩
    · rw [ns_keys lD_ kD_]
      unfold ar at hz
      repeat' split at hz
      all_goals first | cases hz | skip
      rename_i c1 c2 c3 c4 c5 c6 c7
      simp only [List.lookup_cons, beq_eq_false_iff_ne.mpr c1, beq_eq_false_iff_ne.mpr c2, beq_eq_false_iff_ne.mpr c3, beq_eq_false_iff_ne.mpr c4, beq_eq_false_iff_ne.mpr c5, beq_eq_false_iff_ne.mpr c6, beq_eq_false_iff_ne.mpr c7, List.lookup_nil]
    · unfold ar at hz
      repeat' split at hz
      all_goals first | (rename_i c1; subst c1; cases hz) | cases hz
      · exact ⟨o1, [V.str "name"], (ns_keys lD_ kD_ _).trans rfl, rfl, fun H => .inr ⟨_, iT1, nT1, lT1, rfl, rfl, vT1.1, vT1.2⟩⟩
      · exact ⟨o2, [], (ns_keys lD_ kD_ _).trans rfl, rfl, fun H => .inr ⟨_, iT2, nT2, lT2, rfl, rfl, vT2.1, vT2.2⟩⟩
      · exact ⟨o3, [], (ns_keys lD_ kD_ _).trans rfl, rfl, fun H => .inr ⟨_, iT3, nT3, lT3, rfl, rfl, vT3.1, vT3.2⟩⟩
      · exact ⟨o4, [V.str "kind", V.str "kind"], (ns_keys lD_ kD_ _).trans rfl, rfl, fun H => .inr ⟨_, iT4, nT4, lT4, rfl, rfl, vT4.1, vT4.2⟩⟩
      · exact ⟨o5, [V.str "kind", V.str "kind"], (ns_keys lD_ kD_ _).trans rfl, rfl, fun H => .inr ⟨_, iT5, nT5, lT5, rfl, rfl, vT5.1, vT5.2⟩⟩
      · exact ⟨o6, [V.str "kind"], (ns_keys lD_ kD_ _).trans rfl, rfl, fun H => .inr ⟨_, iT6, nT6, lT6, rfl, rfl, vT6.1, vT6.2⟩⟩
      · exact ⟨o7, [V.str "kind", V.str "kind"], (ns_keys lD_ kD_ _).trans rfl, rfl, fun H => .inr ⟨_, iT7, nT7, lT7, rfl, rfl, vT7.1, vT7.2⟩⟩
  have hB : TForms K w dB esB nB := by
    have r2 : Rl2 (fun rs u => ∃ t, u = Value.ref t ∧ ∀ G : Hp, SqT K G t (rs.map V.str)) tblT [("name", .ref r1), ("fun", .ref r2), ("call", .ref r3), ("num", .ref r4), ("plus", .ref r5), ("less", .ref r6), ("truth", .ref r7), ("if", .ref r8), ("pair", .ref r9), ("first", .ref r10), ("second", .ref r11), ("left", .ref r12), ("right", .ref r13), ("case", .ref r14), ("none", .ref r15), ("more", .ref r16), ("fold", .ref r17), ("built", .ref r18), ("alike", .ref r19), ("fault", .ref r20), ("rounds", .ref r21), ("told", .ref r22)] := (.cons ⟨r1, rfl, fun H => .inr ⟨_, iQ1, nQ1, lQ1, rfl, rfl, vQ1.1, vQ1.2⟩⟩ (.cons ⟨r2, rfl, fun H => .inr ⟨_, iQ2, nQ2, lQ2, rfl, rfl, vQ2.1, vQ2.2⟩⟩ (.cons ⟨r3, rfl, fun H => .inr ⟨_, iQ3, nQ3, lQ3, rfl, rfl, vQ3.1, vQ3.2⟩⟩ (.cons ⟨r4, rfl, fun H => .inr ⟨_, iQ4, nQ4, lQ4, rfl, rfl, vQ4.1, vQ4.2⟩⟩ (.cons ⟨r5, rfl, fun H => .inr ⟨_, iQ5, nQ5, lQ5, rfl, rfl, vQ5.1, vQ5.2⟩⟩ (.cons ⟨r6, rfl, fun H => .inr ⟨_, iQ6, nQ6, lQ6, rfl, rfl, vQ6.1, vQ6.2⟩⟩ (.cons ⟨r7, rfl, fun H => .inr ⟨_, iQ7, nQ7, lQ7, rfl, rfl, vQ7.1, vQ7.2⟩⟩ (.cons ⟨r8, rfl, fun H => .inr ⟨_, iQ8, nQ8, lQ8, rfl, rfl, vQ8.1, vQ8.2⟩⟩ (.cons ⟨r9, rfl, fun H => .inr ⟨_, iQ9, nQ9, lQ9, rfl, rfl, vQ9.1, vQ9.2⟩⟩ (.cons ⟨r10, rfl, fun H => .inr ⟨_, iQ10, nQ10, lQ10, rfl, rfl, vQ10.1, vQ10.2⟩⟩ (.cons ⟨r11, rfl, fun H => .inr ⟨_, iQ11, nQ11, lQ11, rfl, rfl, vQ11.1, vQ11.2⟩⟩ (.cons ⟨r12, rfl, fun H => .inr ⟨_, iQ12, nQ12, lQ12, rfl, rfl, vQ12.1, vQ12.2⟩⟩ (.cons ⟨r13, rfl, fun H => .inr ⟨_, iQ13, nQ13, lQ13, rfl, rfl, vQ13.1, vQ13.2⟩⟩ (.cons ⟨r14, rfl, fun H => .inr ⟨_, iQ14, nQ14, lQ14, rfl, rfl, vQ14.1, vQ14.2⟩⟩ (.cons ⟨r15, rfl, fun H => .inr ⟨_, iQ15, nQ15, lQ15, rfl, rfl, vQ15.1, vQ15.2⟩⟩ (.cons ⟨r16, rfl, fun H => .inr ⟨_, iQ16, nQ16, lQ16, rfl, rfl, vQ16.1, vQ16.2⟩⟩ (.cons ⟨r17, rfl, fun H => .inr ⟨_, iQ17, nQ17, lQ17, rfl, rfl, vQ17.1, vQ17.2⟩⟩ (.cons ⟨r18, rfl, fun H => .inr ⟨_, iQ18, nQ18, lQ18, rfl, rfl, vQ18.1, vQ18.2⟩⟩ (.cons ⟨r19, rfl, fun H => .inr ⟨_, iQ19, nQ19, lQ19, rfl, rfl, vQ19.1, vQ19.2⟩⟩ (.cons ⟨r20, rfl, fun H => .inr ⟨_, iQ20, nQ20, lQ20, rfl, rfl, vQ20.1, vQ20.2⟩⟩ (.cons ⟨r21, rfl, fun H => .inr ⟨_, iQ21, nQ21, lQ21, rfl, rfl, vQ21.1, vQ21.2⟩⟩ (.cons ⟨r22, rfl, fun H => .inr ⟨_, iQ22, nQ22, lQ22, rfl, rfl, vQ22.1, vQ22.2⟩⟩ .nil))))))))))))))))))))))
    refine ⟨⟨lB_, tB_, sB_⟩, fun z hz => ?_, fun z rs hz => ?_⟩
    · rw [ns_keys lB_ kB_, (r2.look z).1 hz]
    · obtain ⟨u, hu, t, rfl, ht⟩ := (r2.look z).2 rs hz
      exact ⟨t, by rw [ns_keys lB_ kB_, hu], ht⟩
  have xm : XN K mg cN := ⟨PySem.W.mg_of X G aX, xP, kX, bX, tX⟩
  have ni : TMI K mg cN cK := ⟨⟨gX, hX, bX, dX, cX, sX, uX, mX⟩, PySem.W.mg_of X G aK, exm_yes bK iK tK sK, kit_self, kit_tyV vX,
    ⟨x1, x2, x3, x4, x5, x6, x7, x8, x9, PySem.W.mg_of X G xa1, PySem.W.mg_of X G xa2, PySem.W.mg_of X G xa3, PySem.W.mg_of X G xa4, PySem.W.mg_of X G xa5, PySem.W.mg_of X G xa6, PySem.W.mg_of X G xa7, PySem.W.mg_of X G xa8, PySem.W.mg_of X G xa9, (any_no (kit_no xn1 xi1 xt1 xs1) (any_no (kit_no xn2 xi2 xt2 xs2) (any_no (kit_no xn3 xi3 xt3 xs3) (any_no (kit_no xn4 xi4 xt4 xs4) (any_no (kit_no xn5 xi5 xt5 xs5) (any_no (kit_no xn6 xi6 xt6 xs6) (any_no (kit_no xn7 xi7 xt7 xs7) (any_no (kit_no xn8 xi8 xt8 xs8) (any_no (kit_no xn9 xi9 xt9 xs9) rfl)))))))))⟩,
    ⟨x10, x11, x12, PySem.W.mg_of X G xa10, PySem.W.mg_of X G xa11, PySem.W.mg_of X G xa12, (any_no (kit_no xn10 xi10 xt10 xs10) (any_no (kit_no xn11 xi11 xt11 xs11) (any_no (kit_no xn12 xi12 xt12 xs12) rfl)))⟩⟩
  have CFF : CF K w mg oN oT cN dR := ⟨xm, ⟨PySem.W.mg_of X G aGN, fun H => .inr ⟨_, iN, nN, lGN, rfl, rfl, vGN.1, vGN.2⟩⟩, ⟨PySem.W.mg_of X G aGO, fun H => .inr ⟨_, iO, nO, lGO, rfl, rfl, vGO.1, vGO.2⟩⟩, ⟨_, _, lR_, tR_, sR_⟩, PySem.W.mg_of X G aR_, ⟨_, _, F24, b24, g_24⟩, ⟨_, _, F25, b25, g_25⟩, ⟨_, _, F26, b26, g_26⟩, ⟨_, _, F27, b27, g_27⟩, ⟨_, _, F23, b23, g_23⟩, ⟨_, _, _, F22, vd22, b22, g_22⟩, ⟨_, _, F12, b12, g_12⟩, ⟨_, _, F9, b9, g_9⟩, ⟨_, _, F13, b13, g_13⟩, ⟨_, _, F14, b14, g_14⟩, ⟨_, _, F32, b32, g_32⟩, ⟨_, _, F28, b28, (ns_keys lR_ kR_ _).trans rfl⟩, ⟨_, _, F29, b29, (ns_keys lR_ kR_ _).trans rfl⟩, ⟨_, _, F30, b30, (ns_keys lR_ kR_ _).trans rfl⟩, ⟨_, _, F31, b31, (ns_keys lR_ kR_ _).trans rfl⟩, ⟨_, _, F32, b32, (ns_keys lR_ kR_ _).trans rfl⟩, ⟨_, _, F33, b33, (ns_keys lR_ kR_ _).trans rfl⟩, ⟨_, _, F34, b34, (ns_keys lR_ kR_ _).trans rfl⟩, ⟨_, _, F35, b35, (ns_keys lR_ kR_ _).trans rfl⟩, ⟨_, _, F36, b36, (ns_keys lR_ kR_ _).trans rfl⟩, ⟨_, _, F37, b37, (ns_keys lR_ kR_ _).trans rfl⟩, ⟨_, _, F38, b38, (ns_keys lR_ kR_ _).trans rfl⟩, ⟨_, _, F39, b39, (ns_keys lR_ kR_ _).trans rfl⟩, ⟨_, _, F40, b40, (ns_keys lR_ kR_ _).trans rfl⟩, ⟨_, _, F41, b41, (ns_keys lR_ kR_ _).trans rfl⟩, ⟨_, _, F42, b42, (ns_keys lR_ kR_ _).trans rfl⟩, ⟨_, _, F43, b43, (ns_keys lR_ kR_ _).trans rfl⟩, ⟨_, _, F44, b44, (ns_keys lR_ kR_ _).trans rfl⟩, ⟨_, _, F45, b45, (ns_keys lR_ kR_ _).trans rfl⟩, ⟨_, _, F46, b46, (ns_keys lR_ kR_ _).trans rfl⟩, ⟨_, _, F47, b47, (ns_keys lR_ kR_ _).trans rfl⟩, ⟨_, _, F48, b48, (ns_keys lR_ kR_ _).trans rfl⟩, ⟨_, _, F49, b49, (ns_keys lR_ kR_ _).trans rfl⟩, m_tuple, m_sorted⟩
  refine ⟨PySem.W.fnOf "law" "law" (defArgs tLaw) (defBody tLaw) (defScope tLaw) .none kV59 dc59 pm59 an59 cd59 ct59, [(c1, p1), (c6, p6), (c19, p19), (c16, p16)], spLaw K [p1, p6, p19, p16], ?T, fun s v => .of_eq rfl, fun H a ns hl _ hH hS => ⟨a, ns, rfl, hS, hl, ?S, fun _ => rfl⟩, fun base _ _ TB => ?_⟩
  case T =>
    intro p hp
    rcases List.mem_cons.mp hp with e | hp
    · rw [e]; exact ⟨h1, n1, hc1⟩
    rcases List.mem_cons.mp hp with e | hp
    · rw [e]; exact ⟨h6, n6, hc6⟩
    rcases List.mem_cons.mp hp with e | hp
    · rw [e]; exact ⟨h19, n19, hc19⟩
    · rw [List.mem_singleton.mp hp]; exact ⟨h16, n16, hc16⟩
  case S =>
    intro p hp
    have q : ∀ p ∈ [p1, p6, p19, p16], H p = some (.tbl #[]) := by
      intro p hp
      rcases List.mem_cons.mp hp with e | hp
      · rw [e]; exact hH (c1, p1) (by simp)
      rcases List.mem_cons.mp hp with e | hp
      · rw [e]; exact hH (c6, p6) (by simp)
      rcases List.mem_cons.mp hp with e | hp
      · rw [e]; exact hH (c19, p19) (by simp)
      · rw [List.mem_singleton.mp hp]; exact hH (c16, p16) (by simp)
    exact ⟨#[], q p hp, True.intro⟩
  have T1 := tabX (TB (c1, p1) (by simp))
  have M1 : p1 ∈ [p1, p6, p19, p16] := by simp
  have T6 := tabX (TB (c6, p6) (by simp))
  have M6 : p6 ∈ [p1, p6, p19, p16] := by simp
  have T19 := tabX (TB (c19, p19) (by simp))
  have M19 : p19 ∈ [p1, p6, p19, p16] := by simp
  have T16 := tabX (TB (c16, p16) (by simp))
  have M16 : p16 ∈ [p1, p6, p19, p16] := by simp
  have N0 : ∀ k, FnOk l.prog w K mg base CX0 (k + 4) f1 _ ["thing"] (spName [p1, p6, p19, p16]) := fun k => okName C1 T1 M1 gL rL gN rN m_all m_isinstance m_str m_len
  have O0 : ∀ k, FnOk l.prog w K mg base CX0 (k + 5) f8 _ ["thing"] (spForm [p1, p6, p19, p16]) := fun k => okForm F8 (N0 k) b1 g_1 k1 gD hD m_isinstance m_tuple m_str m_len
  have I0 : ∀ k, FnOk l.prog w K mg base CX0 (k + 6) f7 _ ["thing"] (spIsData [p1, p6, p19, p16]) := fun k => okIsData F7 (O0 k) b8 g_8 k8 (fun N => okWithin F9) b9 g_9 k9
  have TG : ∀ k, FnOk l.prog w K mg base CX0 (k + 1) f5 _ ["thing", "word", "many"] spTagged := fun k => okTagged F5 m_isinstance m_tuple m_len
  have FI : ∀ k, FnOk l.prog w K mg base CX0 (k + 7) f10 _ ["thing"] (spYes [p1, p6, p19, p16] fstD) := fun k => okIsFirst F10 (TG (k + 5)) b5 g_5 k5 (I0 k) b7 g_7 k7
  have AR : ∀ k, FnOk l.prog w K mg base CX0 (k + 8) f11 _ ["thing"] (spYes [p1, p6, p19, p16] argD) := fun k => okIsArg F11 (FI k) b10 g_10 k10 (I0 (k + 1)) b7 g_7 k7
  have WH : ∀ k, FnOk l.prog w K mg base CX0 (k + 1) f3 _ ["thing"] (spYesS whlD) := fun k => okWhole F3 m_isinstance m_bool m_int
  have NU : ∀ k, FnOk l.prog w K mg base CX0 (k + 2) f4 _ ["thing"] (spYesS numD) := fun k => okNumber F4 (WH k) b3 g_3 k3
  have TU : ∀ k, FnOk l.prog w K mg base CX0 (k + 2) f18 _ ["thing"] (spYesS trnD) := fun k => okTurns F18 (WH k) b3 g_3 k3 gM rM
  have TR : ∀ k, FnOk l.prog w K mg base CX0 (k + 1) f2 _ ["thing"] (spYesS Dt.isBl) := fun k => okTruth F2 m_isinstance m_bool
  have RI : ∀ k, FnOk l.prog w K mg base CX0 (k + 4) f6 _ ["row"] (spRising [p1, p6, p19, p16]) := fun k => okRising C6 T6 M6 m_all m_zip
  have FL : ∀ k, FnOk l.prog w K mg base CX0 (k + 7) f20 _ ["thing"] (spYes [p1, p6, p19, p16] filD1) := fun k => okFill F20 (N0 (k + 2)) b1 g_1 k1 (I0 k) b7 g_7 k7 m_isinstance m_tuple m_len
  have FS : ∀ k, FnOk l.prog w K mg base CX0 (k + 11) f19 _ ["thing"] (spYes [p1, p6, p19, p16] filD) := fun k => okFills (k := k + 7) C19 T19 M19 (FL k) b20 g_20 k20 (RI (k + 6)) b6 g_6 k6 m_all m_isinstance m_tuple
  have FT : FnOk l.prog w K mg base CX0 12 f17 _ ["role", "part"] (spFits [p1, p6, p19, p16]) := okFits (k := 11) F17 (N0 7) b1 g_1 k1 (NU 9) b4 g_4 k4 (TR 10) b2 g_2 k2 (TU 9) b18 g_18 k18 (I0 5) b7 g_7 k7 (AR 3) b11 g_11 k11 (FS 0) b19 g_19 k19
  have HF : FnOk l.prog w K mg base CX0 16 f16 _ ["thing"] (spYes [p1, p6, p19, p16] tfrm) := okHasTerm (k := 12) C16 T16 M16 FT b17 g_17 k17 gB hB m_all m_zip m_isinstance m_tuple m_str m_len
  have IT : FnOk l.prog w K mg base CX0 17 f15 _ ["thing"] (spYes [p1, p6, p19, p16] trm) := okIsTerm (k := 16) F15 HF b16 g_16 k16 (fun N => okTermsIn (k := 15) F21 gB hB m_zip) b21 g_21 k21
  have H_isterm : Okd l.prog w K mg base CX0 17 "is_term" ["thing"] (spYes [p1, p6, p19, p16] trm) := ⟨_, _, IT, b15, g_15, k15⟩
  have H_draw : Okd l.prog w K mg base CX0 1 "_law_draw" ["_law_deck_here", "_law_most"] spDraw := ⟨_, _, okDraw (k := 0) F51, b51, g_51, F51.kp⟩
  have H_pick : Okd l.prog w K mg base CX0 2 "_law_pick" psPick spPick := ⟨_, _, okPick (k := 0) F52 (okDraw (k := 0) F51) b51 g_51 F51.kp m_len, b52, g_52, F52.kp⟩
  have H_names : Okd l.prog w K mg base CX0 2 "_law_names" ["_law_deck_here", "_law_many"] spNames := ⟨_, _, okNames (k := 0) F53 (okDraw (k := 0) F51) b51 g_51 F51.kp m_len m_range, b53, g_53, F53.kp⟩
  have H_deck : Okd l.prog w K mg base CX0 1 "_law_deck" ["_law_script"] (spDeck K) := ⟨_, _, okDeck (k := 0) F50 m_list m_reversed m_sum m_len, b50, g_50, F50.kp⟩
  have H_kof := CFF.kof1 (P := l.prog) (base := base) H_isterm 16 (by decide)
  have H_told : Okd l.prog w K mg base CX0 70 "_law_told" psLTold (spLTold K [p1, p6, p19, p16] 16) := ⟨_, _, okLTold (k := 69) F54 xm ni H_kof m_isinstance m_ValueError, b54, g_54, F54.kp⟩
  have H_has := hasAll (P := l.prog) (w := w) (base := base) ⟨_, _, F55, b55, g_55⟩ m_isinstance m_tuple 6
  have H_bind : Okd l.prog w K mg base CX0 3 "_law_bindings" psBind spBind := ⟨_, _, okBind (k := 2) F56 (DP := H_pick) (DD := H_draw.up (by decide)) (m_range := m_range), b56, g_56, F56.kp⟩
  have H_sec : Okd l.prog w K mg base CX0 3 "_law_second" psSec spSec := ⟨_, _, okSec (k := 2) F57 (DP := H_pick) (DD := H_draw.up (by decide)) (m_len := m_len), b57, g_57, F57.kp⟩
  have H_right : Okd l.prog w K mg base CX0 79 "_law_right" psRight (spRight [p1, p6, p19, p16]) := ⟨_, _, okRight (k := 78) F58 (m_sorted := m_sorted) (m_tuple := m_tuple) (m_dict := m_dict) (DB := H_bind.up (by decide)) (DP := H_pick.up (by decide)) (DD := H_draw.up (by decide)) (DS := H_sec.up (by decide)) (DH := H_has.up (by decide)) (DT := H_told.up (by decide)), b58, g_58, F58.kp⟩
  exact FnG.of (okLaw (k := 79) F59 (DK := H_deck.up (by decide)) (DR := H_right) (DN := H_names.up (by decide)) (m_range := m_range))
end Kq
open PySem PySem.W PyProof.Rows
set_option maxRecDepth 100000 in
set_option maxHeartbeats 0 in
theorem PySem.Challenge.cw_kindalone_k20_own_names_of_builts_holds : PySem.Challenge.rw_kindalone_k20_own_names_of_builts.Holds := by
  w_on; o_law; k_head; (case hw => w_witness2)
  k_fill
  refine Kf.walk_ofG (l := PySem.Challenge.rw_kindalone_k20_own_names_of_builts) (n := 63) (k := 80) (x := "_law_script") (CX := fun _ => L2.CX0) rfl (by decide) rfl ⟨rfl, by decide, by decide⟩ (fun w h Y => PySem.W.kIn_of Y) ?F (fun _ _ _ _ _ h => h)
  case F =>
    intro w mg fa h Y KX G hmg tabs
    have TT1 : Kg.TabOf mg h "is_name" := by
      refine Kq.tt_of ?_ tabs
      decide +kernel
    have TT6 : Kg.TabOf mg h "is_rising" := by
      refine Kq.tt_of ?_ tabs
      decide +kernel
    have TT19 : Kg.TabOf mg h "is_fills" := by
      refine Kq.tt_of ?_ tabs
      decide +kernel
    have TT16 : Kg.TabOf mg h "has_term_form" := by
      refine Kq.tt_of ?_ tabs
      decide +kernel
    refine' Kq.all_mk KX G hmg TT1 TT6 TT19 TT16 ?a1 ?l1 ?q1 ?k1 ?a2 ?l2 ?q2 ?k2 ?a3 ?l3 ?q3 ?k3 ?a4 ?l4 ?q4 ?k4 ?a5 ?l5 ?q5 ?k5 ?a6 ?l6 ?q6 ?k6 ?a7 ?l7 ?q7 ?k7 ?a8 ?l8 ?q8 ?k8 ?a9 ?l9 ?q9 ?k9 ?a10 ?l10 ?q10 ?k10 ?a11 ?l11 ?q11 ?k11 ?a12 ?l12 ?q12 ?k12 ?a13 ?l13 ?q13 ?k13 ?a14 ?l14 ?q14 ?k14 ?a15 ?l15 ?q15 ?k15 ?a16 ?l16 ?q16 ?k16 ?a17 ?l17 ?q17 ?k17 ?a18 ?l18 ?q18 ?k18 ?a19 ?l19 ?q19 ?k19 ?a20 ?l20 ?q20 ?k20 ?a21 ?l21 ?q21 ?k21 ?a22 ?l22 ?q22 ?k22 ?a23 ?l23 ?q23 ?k23 ?a24 ?l24 ?q24 ?k24 ?a25 ?l25 ?q25 ?k25 ?a26 ?l26 ?q26 ?k26 ?a27 ?l27 ?q27 ?k27 ?a28 ?l28 ?q28 ?k28 ?a29 ?l29 ?q29 ?k29 ?a30 ?l30 ?q30 ?k30 ?a31 ?l31 ?q31 ?k31 ?a32 ?l32 ?q32 ?k32 ?a33 ?l33 ?q33 ?k33 ?a34 ?l34 ?q34 ?k34 ?a35 ?l35 ?q35 ?k35 ?a36 ?l36 ?q36 ?k36 ?a37 ?l37 ?q37 ?k37 ?a38 ?l38 ?q38 ?k38 ?a39 ?l39 ?q39 ?k39 ?a40 ?l40 ?q40 ?k40 ?a41 ?l41 ?q41 ?k41 ?a42 ?l42 ?q42 ?k42 ?a43 ?l43 ?q43 ?k43 ?a44 ?l44 ?q44 ?k44 ?a45 ?l45 ?q45 ?k45 ?a46 ?l46 ?q46 ?k46 ?a47 ?l47 ?q47 ?k47 ?a48 ?l48 ?q48 ?k48 ?a49 ?l49 ?q49 ?k49 ?a50 ?l50 ?q50 ?k50 ?a51 ?l51 ?q51 ?k51 ?a52 ?l52 ?q52 ?k52 ?a53 ?l53 ?q53 ?k53 ?a54 ?l54 ?q54 ?k54 ?a55 ?l55 ?q55 ?k55 ?a56 ?l56 ?q56 ?k56 ?a57 ?l57 ?q57 ?k57 ?a58 ?l58 ?q58 ?k58 ?a59 ?l59 ?q59 ?k59 ?t1 ?v1 ?n1 ?t6 ?v6 ?n6 ?t19 ?v19 ?n19 ?t16 ?v16 ?n16 ?aL ?rL ?aN ?rN ?aM ?rM ?aD_ ?lD_ ?tD_ ?sD_ ?kD_ ?aB_ ?lB_ ?tB_ ?sB_ ?kB_ ?aR_ ?lR_ ?tR_ ?sR_ ?kR_ ?lT1 ?vT1 ?lT2 ?vT2 ?lT3 ?vT3 ?lT4 ?vT4 ?lT5 ?vT5 ?lT6 ?vT6 ?lT7 ?vT7 ?lQ1 ?vQ1 ?lQ2 ?vQ2 ?lQ3 ?vQ3 ?lQ4 ?vQ4 ?lQ5 ?vQ5 ?lQ6 ?vQ6 ?lQ7 ?vQ7 ?lQ8 ?vQ8 ?lQ9 ?vQ9 ?lQ10 ?vQ10 ?lQ11 ?vQ11 ?lQ12 ?vQ12 ?lQ13 ?vQ13 ?lQ14 ?vQ14 ?lQ15 ?vQ15 ?lQ16 ?vQ16 ?lQ17 ?vQ17 ?lQ18 ?vQ18 ?lQ19 ?vQ19 ?lQ20 ?vQ20 ?lQ21 ?vQ21 ?lQ22 ?vQ22 ?aGN ?lGN ?vGN ?aGO ?lGO ?vGO ?lGD ?vGD ?aX ?xP ?kX ?bX ?tX ?vX ?gX ?hX ?dX ?cX ?sX ?uX ?mX ?aK ?bK ?iK ?tK ?sK ?xa1 ?xn1 ?xi1 ?xt1 ?xs1 ?xa2 ?xn2 ?xi2 ?xt2 ?xs2 ?xa3 ?xn3 ?xi3 ?xt3 ?xs3 ?xa4 ?xn4 ?xi4 ?xt4 ?xs4 ?xa5 ?xn5 ?xi5 ?xt5 ?xs5 ?xa6 ?xn6 ?xi6 ?xt6 ?xs6 ?xa7 ?xn7 ?xi7 ?xt7 ?xs7 ?xa8 ?xn8 ?xi8 ?xt8 ?xs8 ?xa9 ?xn9 ?xi9 ?xt9 ?xs9 ?xa10 ?xn10 ?xi10 ?xt10 ?xs10 ?xa11 ?xn11 ?xi11 ?xt11 ?xs11 ?xa12 ?xn12 ?xi12 ?xt12 ?xs12 ?z1 ?z2 ?z3 ?z4 ?z5 ?z6 ?z7 ?z8 ?z9 ?z10 ?z11 ?z12 ?z13 ?z14 ?z15
    (case a1 => k_is); (case l1 => k_is); (case q1 => k_is); (case k1 => k_is)
    (case a2 => k_is); (case l2 => k_is); (case q2 => k_is); (case k2 => k_is)
    (case a3 => k_is); (case l3 => k_is); (case q3 => k_is); (case k3 => k_is)
    (case a4 => k_is); (case l4 => k_is); (case q4 => k_is); (case k4 => k_is)
    (case a5 => k_is); (case l5 => k_is); (case q5 => k_is); (case k5 => k_is)
    (case a6 => k_is); (case l6 => k_is); (case q6 => k_is); (case k6 => k_is)
    (case a7 => k_is); (case l7 => k_is); (case q7 => k_is); (case k7 => k_is)
    (case a8 => k_is); (case l8 => k_is); (case q8 => k_is); (case k8 => k_is)
    (case a9 => k_is); (case l9 => k_is); (case q9 => k_is); (case k9 => k_is)
    (case a10 => k_is); (case l10 => k_is); (case q10 => k_is); (case k10 => k_is)
    (case a11 => k_is); (case l11 => k_is); (case q11 => k_is); (case k11 => k_is)
    (case a12 => k_is); (case l12 => k_is); (case q12 => k_is); (case k12 => k_is)
    (case a13 => k_is); (case l13 => k_is); (case q13 => k_is); (case k13 => k_is)
    (case a14 => k_is); (case l14 => k_is); (case q14 => k_is); (case k14 => k_is)
    (case a15 => k_is); (case l15 => k_is); (case q15 => k_is); (case k15 => k_is)
    (case a16 => k_is); (case l16 => k_is); (case q16 => k_is); (case k16 => k_is)
    (case a17 => k_is); (case l17 => k_is); (case q17 => k_is); (case k17 => k_is)
    (case a18 => k_is); (case l18 => k_is); (case q18 => k_is); (case k18 => k_is)
    (case a19 => k_is); (case l19 => k_is); (case q19 => k_is); (case k19 => k_is)
    (case a20 => k_is); (case l20 => k_is); (case q20 => k_is); (case k20 => k_is)
    (case a21 => k_is); (case l21 => k_is); (case q21 => k_is); (case k21 => k_is)
    (case a22 => k_is); (case l22 => k_is); (case q22 => k_is); (case k22 => k_is)
    (case a23 => k_is); (case l23 => k_is); (case q23 => k_is); (case k23 => k_is)
    (case a24 => k_is); (case l24 => k_is); (case q24 => k_is); (case k24 => k_is)
    (case a25 => k_is); (case l25 => k_is); (case q25 => k_is); (case k25 => k_is)
    (case a26 => k_is); (case l26 => k_is); (case q26 => k_is); (case k26 => k_is)
    (case a27 => k_is); (case l27 => k_is); (case q27 => k_is); (case k27 => k_is)
    (case a28 => k_is); (case l28 => k_is); (case q28 => k_is); (case k28 => k_is)
    (case a29 => k_is); (case l29 => k_is); (case q29 => k_is); (case k29 => k_is)
    (case a30 => k_is); (case l30 => k_is); (case q30 => k_is); (case k30 => k_is)
    (case a31 => k_is); (case l31 => k_is); (case q31 => k_is); (case k31 => k_is)
    (case a32 => k_is); (case l32 => k_is); (case q32 => k_is); (case k32 => k_is)
    (case a33 => k_is); (case l33 => k_is); (case q33 => k_is); (case k33 => k_is)
    (case a34 => k_is); (case l34 => k_is); (case q34 => k_is); (case k34 => k_is)
    (case a35 => k_is); (case l35 => k_is); (case q35 => k_is); (case k35 => k_is)
    (case a36 => k_is); (case l36 => k_is); (case q36 => k_is); (case k36 => k_is)
    (case a37 => k_is); (case l37 => k_is); (case q37 => k_is); (case k37 => k_is)
    (case a38 => k_is); (case l38 => k_is); (case q38 => k_is); (case k38 => k_is)
    (case a39 => k_is); (case l39 => k_is); (case q39 => k_is); (case k39 => k_is)
    (case a40 => k_is); (case l40 => k_is); (case q40 => k_is); (case k40 => k_is)
    (case a41 => k_is); (case l41 => k_is); (case q41 => k_is); (case k41 => k_is)
    (case a42 => k_is); (case l42 => k_is); (case q42 => k_is); (case k42 => k_is)
    (case a43 => k_is); (case l43 => k_is); (case q43 => k_is); (case k43 => k_is)
    (case a44 => k_is); (case l44 => k_is); (case q44 => k_is); (case k44 => k_is)
    (case a45 => k_is); (case l45 => k_is); (case q45 => k_is); (case k45 => k_is)
    (case a46 => k_is); (case l46 => k_is); (case q46 => k_is); (case k46 => k_is)
    (case a47 => k_is); (case l47 => k_is); (case q47 => k_is); (case k47 => k_is)
    (case a48 => k_is); (case l48 => k_is); (case q48 => k_is); (case k48 => k_is)
    (case a49 => k_is); (case l49 => k_is); (case q49 => k_is); (case k49 => k_is)
    (case a50 => k_is); (case l50 => k_is); (case q50 => k_is); (case k50 => k_is)
    (case a51 => k_is); (case l51 => k_is); (case q51 => k_is); (case k51 => k_is)
    (case a52 => k_is); (case l52 => k_is); (case q52 => k_is); (case k52 => k_is)
    (case a53 => k_is); (case l53 => k_is); (case q53 => k_is); (case k53 => k_is)
    (case a54 => k_is); (case l54 => k_is); (case q54 => k_is); (case k54 => k_is)
    (case a55 => k_is); (case l55 => k_is); (case q55 => k_is); (case k55 => k_is)
    (case a56 => k_is); (case l56 => k_is); (case q56 => k_is); (case k56 => k_is)
    (case a57 => k_is); (case l57 => k_is); (case q57 => k_is); (case k57 => k_is)
    (case a58 => k_is); (case l58 => k_is); (case q58 => k_is); (case k58 => k_is)
    (case a59 => k_is); (case l59 => k_is); (case q59 => k_is); (case k59 => k_is)
    (case t1 => k_is); (case v1 => rfl); (case n1 => rfl)
    (case t6 => k_is); (case v6 => rfl); (case n6 => rfl)
    (case t19 => k_is); (case v19 => rfl); (case n19 => rfl)
    (case t16 => k_is); (case v16 => rfl); (case n16 => rfl)
    (case aL => k_is); (case rL => exact ⟨_, rfl⟩); (case aN => k_is); (case rN => exact ⟨_, rfl⟩); (case aM => k_is); (case rM => exact ⟨_, rfl⟩)
    (case aD_ => k_is); (case lD_ => k_is); (case tD_ => exact ⟨⟨_, _, rfl, rfl⟩, ⟨_, _, rfl, rfl⟩, ⟨_, _, rfl, rfl⟩, ⟨_, _, rfl, rfl⟩, ⟨_, _, rfl, rfl⟩, ⟨_, _, rfl, rfl⟩, ⟨_, _, rfl, rfl⟩, trivial⟩); (case sD_ => rfl)
    (case kD_ => exact ⟨⟨_, rfl⟩, rfl, ⟨_, rfl⟩, rfl, ⟨_, rfl⟩, rfl, ⟨_, rfl⟩, rfl, ⟨_, rfl⟩, rfl, ⟨_, rfl⟩, rfl, ⟨_, rfl⟩, rfl, trivial⟩)
    (case aB_ => k_is); (case lB_ => k_is); (case tB_ => exact ⟨⟨_, _, rfl, rfl⟩, ⟨_, _, rfl, rfl⟩, ⟨_, _, rfl, rfl⟩, ⟨_, _, rfl, rfl⟩, ⟨_, _, rfl, rfl⟩, ⟨_, _, rfl, rfl⟩, ⟨_, _, rfl, rfl⟩, ⟨_, _, rfl, rfl⟩, ⟨_, _, rfl, rfl⟩, ⟨_, _, rfl, rfl⟩, ⟨_, _, rfl, rfl⟩, ⟨_, _, rfl, rfl⟩, ⟨_, _, rfl, rfl⟩, ⟨_, _, rfl, rfl⟩, ⟨_, _, rfl, rfl⟩, ⟨_, _, rfl, rfl⟩, ⟨_, _, rfl, rfl⟩, ⟨_, _, rfl, rfl⟩, ⟨_, _, rfl, rfl⟩, ⟨_, _, rfl, rfl⟩, ⟨_, _, rfl, rfl⟩, ⟨_, _, rfl, rfl⟩, trivial⟩); (case sB_ => rfl)
    (case kB_ => exact ⟨⟨_, rfl⟩, rfl, ⟨_, rfl⟩, rfl, ⟨_, rfl⟩, rfl, ⟨_, rfl⟩, rfl, ⟨_, rfl⟩, rfl, ⟨_, rfl⟩, rfl, ⟨_, rfl⟩, rfl, ⟨_, rfl⟩, rfl, ⟨_, rfl⟩, rfl, ⟨_, rfl⟩, rfl, ⟨_, rfl⟩, rfl, ⟨_, rfl⟩, rfl, ⟨_, rfl⟩, rfl, ⟨_, rfl⟩, rfl, ⟨_, rfl⟩, rfl, ⟨_, rfl⟩, rfl, ⟨_, rfl⟩, rfl, ⟨_, rfl⟩, rfl, ⟨_, rfl⟩, rfl, ⟨_, rfl⟩, rfl, ⟨_, rfl⟩, rfl, ⟨_, rfl⟩, rfl, trivial⟩)
    (case aR_ => k_is); (case lR_ => k_is); (case tR_ => exact ⟨⟨_, _, rfl, rfl⟩, ⟨_, _, rfl, rfl⟩, ⟨_, _, rfl, rfl⟩, ⟨_, _, rfl, rfl⟩, ⟨_, _, rfl, rfl⟩, ⟨_, _, rfl, rfl⟩, ⟨_, _, rfl, rfl⟩, ⟨_, _, rfl, rfl⟩, ⟨_, _, rfl, rfl⟩, ⟨_, _, rfl, rfl⟩, ⟨_, _, rfl, rfl⟩, ⟨_, _, rfl, rfl⟩, ⟨_, _, rfl, rfl⟩, ⟨_, _, rfl, rfl⟩, ⟨_, _, rfl, rfl⟩, ⟨_, _, rfl, rfl⟩, ⟨_, _, rfl, rfl⟩, ⟨_, _, rfl, rfl⟩, ⟨_, _, rfl, rfl⟩, ⟨_, _, rfl, rfl⟩, ⟨_, _, rfl, rfl⟩, ⟨_, _, rfl, rfl⟩, trivial⟩); (case sR_ => rfl)
    (case kR_ => exact ⟨⟨_, rfl⟩, rfl, ⟨_, rfl⟩, rfl, ⟨_, rfl⟩, rfl, ⟨_, rfl⟩, rfl, ⟨_, rfl⟩, rfl, ⟨_, rfl⟩, rfl, ⟨_, rfl⟩, rfl, ⟨_, rfl⟩, rfl, ⟨_, rfl⟩, rfl, ⟨_, rfl⟩, rfl, ⟨_, rfl⟩, rfl, ⟨_, rfl⟩, rfl, ⟨_, rfl⟩, rfl, ⟨_, rfl⟩, rfl, ⟨_, rfl⟩, rfl, ⟨_, rfl⟩, rfl, ⟨_, rfl⟩, rfl, ⟨_, rfl⟩, rfl, ⟨_, rfl⟩, rfl, ⟨_, rfl⟩, rfl, ⟨_, rfl⟩, rfl, ⟨_, rfl⟩, rfl, trivial⟩)
    (case lT1 => k_is); (case vT1 => exact ⟨by decide, (.cons ⟨_, rfl⟩ .nil)⟩)
    (case lT2 => k_is); (case vT2 => exact ⟨by decide, .nil⟩)
    (case lT3 => k_is); (case vT3 => exact ⟨by decide, .nil⟩)
    (case lT4 => k_is); (case vT4 => exact ⟨by decide, (.cons ⟨_, rfl⟩ (.cons ⟨_, rfl⟩ .nil))⟩)
    (case lT5 => k_is); (case vT5 => exact ⟨by decide, (.cons ⟨_, rfl⟩ (.cons ⟨_, rfl⟩ .nil))⟩)
    (case lT6 => k_is); (case vT6 => exact ⟨by decide, (.cons ⟨_, rfl⟩ .nil)⟩)
    (case lT7 => k_is); (case vT7 => exact ⟨by decide, (.cons ⟨_, rfl⟩ (.cons ⟨_, rfl⟩ .nil))⟩)
    (case lQ1 => k_is); (case vQ1 => exact ⟨by decide, (.cons ⟨_, rfl⟩ .nil)⟩)
    (case lQ2 => k_is); (case vQ2 => exact ⟨by decide, (.cons ⟨_, rfl⟩ (.cons ⟨_, rfl⟩ (.cons ⟨_, rfl⟩ .nil)))⟩)
    (case lQ3 => k_is); (case vQ3 => exact ⟨by decide, (.cons ⟨_, rfl⟩ (.cons ⟨_, rfl⟩ .nil))⟩)
    (case lQ4 => k_is); (case vQ4 => exact ⟨by decide, (.cons ⟨_, rfl⟩ .nil)⟩)
    (case lQ5 => k_is); (case vQ5 => exact ⟨by decide, (.cons ⟨_, rfl⟩ (.cons ⟨_, rfl⟩ .nil))⟩)
    (case lQ6 => k_is); (case vQ6 => exact ⟨by decide, (.cons ⟨_, rfl⟩ (.cons ⟨_, rfl⟩ .nil))⟩)
    (case lQ7 => k_is); (case vQ7 => exact ⟨by decide, (.cons ⟨_, rfl⟩ .nil)⟩)
    (case lQ8 => k_is); (case vQ8 => exact ⟨by decide, (.cons ⟨_, rfl⟩ (.cons ⟨_, rfl⟩ (.cons ⟨_, rfl⟩ .nil)))⟩)
    (case lQ9 => k_is); (case vQ9 => exact ⟨by decide, (.cons ⟨_, rfl⟩ (.cons ⟨_, rfl⟩ .nil))⟩)
    (case lQ10 => k_is); (case vQ10 => exact ⟨by decide, (.cons ⟨_, rfl⟩ .nil)⟩)
    (case lQ11 => k_is); (case vQ11 => exact ⟨by decide, (.cons ⟨_, rfl⟩ .nil)⟩)
    (case lQ12 => k_is); (case vQ12 => exact ⟨by decide, (.cons ⟨_, rfl⟩ (.cons ⟨_, rfl⟩ .nil))⟩)
    (case lQ13 => k_is); (case vQ13 => exact ⟨by decide, (.cons ⟨_, rfl⟩ (.cons ⟨_, rfl⟩ .nil))⟩)
    (case lQ14 => k_is); (case vQ14 => exact ⟨by decide, (.cons ⟨_, rfl⟩ (.cons ⟨_, rfl⟩ (.cons ⟨_, rfl⟩ (.cons ⟨_, rfl⟩ (.cons ⟨_, rfl⟩ .nil)))))⟩)
    (case lQ15 => k_is); (case vQ15 => exact ⟨by decide, (.cons ⟨_, rfl⟩ .nil)⟩)
    (case lQ16 => k_is); (case vQ16 => exact ⟨by decide, (.cons ⟨_, rfl⟩ (.cons ⟨_, rfl⟩ .nil))⟩)
    (case lQ17 => k_is); (case vQ17 => exact ⟨by decide, (.cons ⟨_, rfl⟩ (.cons ⟨_, rfl⟩ (.cons ⟨_, rfl⟩ (.cons ⟨_, rfl⟩ (.cons ⟨_, rfl⟩ .nil)))))⟩)
    (case lQ18 => k_is); (case vQ18 => exact ⟨by decide, (.cons ⟨_, rfl⟩ (.cons ⟨_, rfl⟩ (.cons ⟨_, rfl⟩ (.cons ⟨_, rfl⟩ (.cons ⟨_, rfl⟩ .nil)))))⟩)
    (case lQ19 => k_is); (case vQ19 => exact ⟨by decide, (.cons ⟨_, rfl⟩ (.cons ⟨_, rfl⟩ .nil))⟩)
    (case lQ20 => k_is); (case vQ20 => exact ⟨by decide, (.cons ⟨_, rfl⟩ .nil)⟩)
    (case lQ21 => k_is); (case vQ21 => exact ⟨by decide, (.cons ⟨_, rfl⟩ (.cons ⟨_, rfl⟩ (.cons ⟨_, rfl⟩ (.cons ⟨_, rfl⟩ .nil))))⟩)
    (case lQ22 => k_is); (case vQ22 => exact ⟨by decide, (.cons ⟨_, rfl⟩ (.cons ⟨_, rfl⟩ .nil))⟩)
    (case aGN => k_is); (case lGN => k_is); (case vGN => exact ⟨by decide, (.cons ⟨_, rfl⟩ .nil)⟩); (case aGO => k_is); (case lGO => k_is); (case vGO => exact ⟨by decide, (.cons ⟨_, rfl⟩ .nil)⟩); (case lGD => k_is); (case vGD => exact .cons rfl .nil)
    (case aX => k_is); (case xP => k_exc); (case kX => k_is); (case bX => k_is); (case tX => k_is); (case vX => k_is); (case gX => k_is); (case hX => k_is); (case dX => k_is); (case cX => k_is); (case sX => k_is); (case uX => k_is); (case mX => k_is); (case aK => k_is); (case bK => k_is); (case iK => k_is); (case tK => k_is); (case sK => k_is)
    (case xa1 => k_is); (case xn1 => rfl); (case xi1 => k_is); (case xt1 => k_is); (case xs1 => k_is)
    (case xa2 => k_is); (case xn2 => rfl); (case xi2 => k_is); (case xt2 => k_is); (case xs2 => k_is)
    (case xa3 => k_is); (case xn3 => rfl); (case xi3 => k_is); (case xt3 => k_is); (case xs3 => k_is)
    (case xa4 => k_is); (case xn4 => rfl); (case xi4 => k_is); (case xt4 => k_is); (case xs4 => k_is)
    (case xa5 => k_is); (case xn5 => rfl); (case xi5 => k_is); (case xt5 => k_is); (case xs5 => k_is)
    (case xa6 => k_is); (case xn6 => rfl); (case xi6 => k_is); (case xt6 => k_is); (case xs6 => k_is)
    (case xa7 => k_is); (case xn7 => rfl); (case xi7 => k_is); (case xt7 => k_is); (case xs7 => k_is)
    (case xa8 => k_is); (case xn8 => rfl); (case xi8 => k_is); (case xt8 => k_is); (case xs8 => k_is)
    (case xa9 => k_is); (case xn9 => rfl); (case xi9 => k_is); (case xt9 => k_is); (case xs9 => k_is)
    (case xa10 => k_is); (case xn10 => rfl); (case xi10 => k_is); (case xt10 => k_is); (case xs10 => k_is)
    (case xa11 => k_is); (case xn11 => rfl); (case xi11 => k_is); (case xt11 => k_is); (case xs11 => k_is)
    (case xa12 => k_is); (case xn12 => rfl); (case xi12 => k_is); (case xt12 => k_is); (case xs12 => k_is)
    (case z1 => k_is); (case z2 => k_is); (case z3 => k_is); (case z4 => k_is); (case z5 => k_is); (case z6 => k_is); (case z7 => k_is); (case z8 => k_is); (case z9 => k_is); (case z10 => k_is); (case z11 => k_is); (case z12 => k_is); (case z13 => k_is); (case z14 => k_is); (case z15 => k_is)
