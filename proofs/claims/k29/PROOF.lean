import PyProof.Rows.All
import Wide.All
import OpenK.AllK
import Wide.FinOn
import HandS.ForMost
import HandS.Rev
import HandS.StrMore
import HandS.IsInst
import HandS.Replace
import HandS.Codes
import HandS.Wide
import HandS.EndOwn
import HandS.ExcOwn
import PyProof.ReprRoads
import HandS.Dict
import HandS.DictTup
import PyProof.DictUpdate
import HandS.Comp
import HandS.More
import PyProof.Rows.RuleB_bool
import PyProof.Rows.FloatCmp
import HandS.RaiseMore
import HandS.TryOnly
import HandS.ForExc
import HandS.FStr
import HandS.Flow
import HandS.Style
import HandS.IterVal
import HandS.Star
import KE.KDictZip
import KE.GoesZip
import KE.GoesMore
import HandS.Zip
import HandS.TupMul
import HandS.Text
import KE.KIntText
import PyProof.Rows.Digits
import PyProof.Rows.StrOr
import PyProof.ReprLen
import PyProof.FitsInt
import PyProof.StrLawsRepr
import HandS.DeepEq
import HandS.TupAny
import KE.KDictPairs
import PyProof.ZipIter
import HandS.Iter
import HandS.Walk
import KE.KRevSl
import PyProof.Draws
import PyProof.EnumMake
import PyProof.FString4
import PyProof.StrReplace2
import PySem.Challenge.RW_kindalone_k29_names_as_they_are_bound
set_option Elab.async false
set_option linter.all false
set_option maxRecDepth 100000
set_option maxHeartbeats 4000000
namespace Kr
open PySem PySem.Spec PyProof.Rows L2 RT
section
variable {prog : Program} {w : World} {A : Around} {E : Value → Shared → Prop} {s : Shared}
/-- a list grows by what a walk from behind over another list gives -/
theorem growRev {R : Result → Shared → Prop} {it l S : Addr} {its : Array Value} {res : Value} {c0 : Nat} (hh : A.handled = none) (hit : s.heap.IsRevIter it l ((its.size : Int) - 1))
    (hl : s.heap.IsList l its) (hne : l ≠ it) (hn : its.size ≤ sizeLine) (hS : s.heap.get? S = some { cls := .type "list", data := .seq #[] c0 }) (hSi : S ≠ it) (hSl : S ≠ l)
    (hR : ∀ (h' : Heap) (tk : Nat) (acc : Array Value) (c : Nat), (∀ b o, b ≠ it → b ≠ S → s.heap.get? b = some o → h'.get? b = some o) →
      h'.get? S = some { cls := .type "list", dict := none, data := .seq acc c, slots := #[] } → ItemsOf (fun i v => its[its.size - 1 - i]? = some v) acc its.size → R (.ok (.ret res)) { s with heap := h', toks := tk }) :
    wpAny (model prog w) A.in1 (Builtin.List.listExtendWith (.ref S) (.ref it) res)
      (fun fin s' => match fin with
        | .done f => R (.ok f) s'
        | .again c' => c'.quiet = true ∧ codeAny (model prog w) A c' R s') (fun e s' => R (.error e) s') s := by
  have W := (Walks.listRev (prog := prog) (w := w) (A := A.in1) hh it l hne its).toS
  have out : S ∉ [it, l] := by
    intro z
    rcases List.mem_cons.mp z with z | z
    · exact hSi z
    · exact hSl (List.mem_singleton.mp z)
  have ty : s.TypeIs (.ref it) "list_reverseiterator" := hit.typeIs
  have no : Builtin.List.listSameRef (.ref S) (.ref it) = false := by
    simp [Builtin.List.listSameRef, hSi]
  unfold Builtin.List.listExtendWith
  refine wpAny_bind (wpAny_typeOf ty ?_)
  rw [if_neg (by rw [no]; decide)]
  refine wpAny_bind (wpAny_pyIter_revIter hit ?_)
  refine wpAny_bind (wpAny_holding ?_)
  unfold Builtin.List.listLengthHint
  refine wpAny_bind (wpAny_specialOf ty RT.nolen_lri ?_)
  show wpAny _ A.in1 (specialOf (.ref it) (Str.ofString "__length_hint__") >>= _) _ _ _
  refine wpAny_bind (wpAny_specialOf ty RT.hint_lri ?_)
  generalize hid : ("list_reverseiterator.__length_hint__" : String) = nm
  wp_delta
  have sp : splitId nm = some ("list_reverseiterator", "__length_hint__") := by
    subst hid
    decide +kernel
  rw [sp]
  subst hid
  refine wpAny_bind (wpAny_isInstance (b := true) ty (by rw [isSubtype_type]; kernel_rfl) ?_)
  refine wpAny_pure ?_
  rw [if_neg (by decide)]
  have z0 : ((its.size : Nat) : Int) - 1 - ((0 : Nat) : Int) = (its.size : Int) - 1 := by omega
  have st0 : s.heap.IsRevIter it l ((its.size : Int) - 1 - ((0 : Nat) : Int)) := by rw [z0]; exact hit
  refine wpAny_pure ⟨plainId_quiet F.plain_extend_loop _, ?_⟩
  refine codeAny_extend_loopS W hn S out res its.size 0 _ _ _ rfl (Nat.zero_le _) ⟨Nat.zero_le _, st0, hl⟩ hS (ItemsOf.nil _) (fun s' acc' c' mv hS' hacc => ?_)
  rw [Moved.eq_with mv]
  refine hR s'.heap s'.toks acc' c' (fun b o h1 h2 e => mv.heap b o (fun z => ?_) e) hS' hacc
  rcases List.mem_cons.mp z with z | z
  · exact h2 z
  · exact h1 (List.mem_singleton.mp z)
theorem call_list_rev {Q : Value → Shared → Prop} {it l : Addr} {its : Array Value} (hh : A.handled = none) (hit : s.heap.IsRevIter it l ((its.size : Int) - 1)) (hl : s.heap.IsList l its) (hne : l ≠ it) (hn : its.size ≤ sizeLine)
    (hQ : ∀ (h' : Heap) (tk : Nat) (acc : Array Value) (c : Nat), (∀ b o, b ≠ it → s.heap.get? b = some o → h'.get? b = some o) →
      h'.get? s.heap.objs.size = some { cls := .type "list", dict := none, data := .seq acc c, slots := #[] } → ItemsOf (fun i v => its[its.size - 1 - i]? = some v) acc its.size → Q (.ref s.heap.objs.size) { s with heap := h', toks := tk }) :
    wpAny (model prog w) A (call (.type "list") [.ref it]) Q E s := by
  obtain ⟨oi, hoi, _⟩ := id hit
  obtain ⟨ol, hol, _⟩ := id hl
  have n1 : s.heap.objs.size ≠ it := Nat.ne_of_gt (Heap.lt_size hoi)
  have n2 : s.heap.objs.size ≠ l := Nat.ne_of_gt (Heap.lt_size hol)
  refine callType_codes (Q₁ := fun obj s₁ => obj = .ref s.heap.objs.size ∧ s₁ = { s with heap := s.heap.push { cls := .type "list", data := .seq #[] } })
    F.called_list (F.typeCall_list_1 _) F.entry_list_init (code_list_new _ ⟨rfl, rfl⟩) (fun obj s₁ h₁ => ?_)
  obtain ⟨rfl, rfl⟩ := h₁
  have hS : (s.heap.push { cls := .type "list", data := .seq #[] }).get? s.heap.objs.size
      = some { cls := .type "list", data := .seq #[] } := Heap.get?_push_size _ rfl
  refine ⟨⟨_, hS, rfl⟩, F.args_list_init_2 _ _, ?_⟩
  show wpAny _ _ (do
    let old ← Builtin.List.listItems (.ref s.heap.objs.size)
    Builtin.List.listUpdate (.ref s.heap.objs.size) (fun _ => #[])
    letGo old.toList.reverse
    Builtin.List.listExtendWith (.ref s.heap.objs.size) (.ref it) .none) _ _ _
  refine wpAny_bind ?_
  unfold Builtin.List.listItems
  refine wpAny_bind (wpAny_seqItems hS rfl (wpAny_pure ?_))
  show wpAny _ _ (do
    updateSeq s.heap.objs.size (fun _ => #[])
    letGo (#[] : Array Value).toList.reverse
    Builtin.List.listExtendWith (.ref s.heap.objs.size) (.ref it) .none) _ _ _
  refine wpAny_bind (wpAny_updateSeq hS rfl ?_)
  have hS2 := Heap.get?_update_self (Obj.mapSeq fun _ => (#[] : Array Value)) hS rfl
  refine wpAny_bind (wpAny_letGo ?_)
  generalize hh2 : (s.heap.push { cls := .type "list", data := .seq #[] }).update s.heap.objs.size (Obj.mapSeq fun _ => (#[] : Array Value)) = h2 at hS2 ⊢
  have kp : ∀ b o, s.heap.get? b = some o → h2.get? b = some o := fun b o e => by
    rw [← hh2, Heap.get?_update_other _ _ (Nat.ne_of_gt (Heap.lt_size e))]
    exact Heap.get?_push_of_some _ e
  have hl2 : h2.IsList l its := by
    obtain ⟨o, e, r⟩ := id hl
    exact ⟨o, kp _ _ e, r⟩
  refine growRev (A := A.in1) (s := { s with heap := h2 }) hh (hit.at fun o e => kp _ _ e) hl2 hne hn hS2 n1 n2 (fun h' tk acc c k e i => ?_)
  exact ⟨rfl, hQ h' tk acc c (fun b o hb hbo => k b o hb (Nat.ne_of_lt (Heap.lt_size hbo)) (kp b o hbo)) e i⟩
end
/-- list(reversed(x)), x a list -/
def tListRev (K : PySem.W.Frag) (te : TE) : TE := fun σ H Q => te σ H fun v G => ∃ (a : Addr) (xs : List V), v = .ref a ∧ SqL K G a xs ∧ ∀ q, G q = none → Q (.ref q) (upd G q (.lst xs.reverse))
theorem pe_listRev {X : Cx} {e : Expr} {te : TE} {p p2 pos pos2 : Pos} (hc : X.calm = true) (hg : Gl X "list") (hm : X.mg "list" = none) (hg2 : Gl X "reversed") (hm2 : X.mg "reversed" = none) (he : PE X e te)
    (hs : starEach [e] X.env = (false, eval e X.env) :: starEach [] X.env := by rfl)
    (hs2 : starEach [.Call (.Name "reversed" p2) [e] [] pos2] X.env = (false, eval (.Call (.Name "reversed" p2) [e] [] pos2) X.env) :: starEach [] X.env := by rfl) :
    PE X (.Call (.Name "list" p) [.Call (.Name "reversed" p2) [e] [] pos2] [] pos) (tListRev X.K te) := by
  refine ⟨fun pins s σ H Q I h => ?_⟩
  have inner := fun (Q' : Value → Shared → Prop) (k : ∀ (a : Addr) (xs : List V) (its : List Value) (s1 : Shared) (G : Hp), Inv X pins σ G s1 → SqL X.K G a xs → Vals xs its → PlainL s1.heap a its.toArray → xs.length ≤ sizeLine →
      (∀ q, G q = none → Q (.ref q) (upd G q (.lst xs.reverse))) → Q' (.ref s1.heap.objs.size) { s1 with heap := s1.heap.push (revObj a ((its.toArray.size : Int) - 1)) }) =>
    show wpAny (model X.prog X.w) X.A (eval (.Call (.Name "reversed" p2) [e] [] pos2) X.env) Q' X.xe s from
      Call_ (ld_blt I hg2 hm2 PyProof.Rows.boot_reversed (PyProof.Rows.callWith_type1 (args_cons (thn (he.run pins s σ H _ I h) fun u s1 ⟨v, G, I1, r1, a, xs, ev, hq, q⟩ => args_nil (by
        subst ev
        obtain rfl : u = Value.ref a := r1
        obtain ⟨its, rv, pl, hz⟩ := I1.list hq
        exact call_reversed_list pl.isList (k a xs its s1 G I1 hq rv pl hz q))) hs) hs rfl))
  refine Call_ (ld_blt I hg hm boot_list (PyProof.Rows.callWith_type1 (args_cons (inner _ fun a xs its s1 G I1 hq rv pl hz q => args_nil ?_) hs2) hs2 rfl))
  have k0 : ∀ b o, s1.heap.get? b = some o → (s1.heap.push (revObj a ((its.toArray.size : Int) - 1))).get? b = some o := fun b o z => Heap.get?_push_of_some _ z
  obtain ⟨ol, hol, _⟩ := id pl.isList
  have hne : a ≠ s1.heap.objs.size := Nat.ne_of_lt (Heap.lt_size hol)
  have hn : its.toArray.size ≤ sizeLine := by rw [List.size_toArray, ← rv.length]; exact hz
  generalize hh3 : s1.heap.push (revObj a ((its.toArray.size : Int) - 1)) = h3 at k0 ⊢
  have it3 : h3.IsRevIter s1.heap.objs.size a ((its.toArray.size : Int) - 1) := by
    rw [← hh3]
    exact ⟨_, Heap.get?_push_size _ rfl, rfl, rfl⟩
  have l3 : h3.IsList a its.toArray := by
    rw [← hh3]
    exact pl.isList.push _
  have lt3 : s1.heap.objs.size < h3.objs.size := by
    obtain ⟨o, e, _⟩ := id it3
    exact Heap.lt_size e
  refine call_list_rev (s := { s1 with heap := h3 }) (I1.ok.hd hc) it3 l3 hne hn fun h' tk acc c hk hS hi => ?_
  have hgo : G h3.objs.size = none := I1.hok.fresh (Nat.le_of_lt lt3)
  refine ⟨.ref h3.objs.size, upd G h3.objs.size (.lst xs.reverse), I1.laid (t' := tk) (fun b o z => hk b o (Nat.ne_of_lt (Heap.lt_size z)) (k0 b o z)) (Nat.le_of_lt lt3)
    (show ObjOk X.prog X.w _ _ _ (.lst xs.reverse) from ⟨by rw [List.length_reverse]; exact hz, acc.toList, c, vals_rev rv hi, by rw [Array.toArray_toList]; exact hS⟩), rfl, q _ hgo⟩
/-- xs.extend(t), t a tuple -/
def rExtT (K : PySem.W.Frag) : V → List V → Hp → VK → Prop := fun x vs H Q => ∃ l b xs zs, x = .ref l ∧ vs = [.ref b] ∧ H l = some (.lst xs) ∧ SqT K H b zs ∧ xs.length + zs.length ≤ sizeLine ∧ Q .non (upd H l (.lst (xs ++ zs)))
theorem mt_extT {X : Cx} : MtM X "list.extend" (rExtT X.K) := by
  intro pins s σ H x vs v us Q I rx rv h
  obtain ⟨l, b, xs, zs, rfl, rfl, hl, hb, hz, q⟩ := h
  cases rx
  obtain ⟨u, rfl, ru⟩ := rv.one
  cases ru
  obtain ⟨z1, its, n, r1, _, e1⟩ := I.lstM hl
  obtain ⟨jts, r2, ⟨o, eo, oc, m, od⟩, z2⟩ := I.tuple hb
  have n1 := r1.length
  have n2 := r2.length
  have sm : its.toArray.size + jts.toArray.size ≤ sizeLine := by
    rw [List.size_toArray, List.size_toArray]
    omega
  have ty : s.TypeIs (.ref b) "tuple" := ⟨o, eo, oc⟩
  refine wpAny_call_entry F.slot_list_extend ⟨_, e1, rfl⟩ F.entry_list_extend ?_ (F.args_list_extend_2 _ _)
  show wpAny _ _ (Builtin.List.listExtendWith (.ref l) (.ref b) .none) _ _ _
  unfold Builtin.List.listExtendWith
  refine wpAny_bind (wpAny_typeOf ty ?_)
  have yes : (Builtin.List.listSameRef (.ref l) (.ref b) || Value.type "tuple" == Value.type "list" || Value.type "tuple" == Value.type "tuple") = true := by simp
  rw [if_pos yes]
  refine wpAny_bind ?_
  unfold Builtin.List.listItems
  refine wpAny_bind (wpAny_seqItems eo od (wpAny_pure ?_))
  refine wpAny_bind ?_
  refine wpAny_bind (wpAny_seqItems e1 rfl (wpAny_pure ?_))
  have long : (!its.toArray.isEmpty && Builtin.List.listTooLong (its.toArray.size + jts.toArray.size)) = false := by
    rw [notLongL sm, Bool.and_false]
  rw [if_neg (by rw [long]; exact Bool.false_ne_true)]
  refine wpAny_bind ?_
  show wpAny _ _ (updateSeq l (· ++ jts.toArray)) _ _ _
  refine wpAny_updateSeq e1 rfl ?_ (by rw [List.size_toArray]; omega) (by rw [Array.size_append]; omega)
  refine wpAny_pure ⟨_, rfl, ?_⟩
  refine ⟨.non, _, I.lset (its' := its ++ jts) hl e1 (by simp) (r1.append r2) ?_, rfl, q⟩
  rw [List.length_append]
  exact hz
end Kr

namespace Kq
open PySem PySem.Spec PyProof.Rows L2
/-! the program's defs, by their places -/
def tp (i : Nat) : Stmt := PySem.Challenge.pw_kindalone_k29_names_as_they_are_bound.main.body.getD i (.Pass ⟨0, 0, 0, 0⟩)
/-! heaps -/
theorem newS {H : Hp} {p : Addr} {o : HO} (h : H p = none) : Same H (upd H p o) := fun b u e => by
  rw [upd_ne (ne_of_none e h)]
  exact e
/-- but for d and c all that stood stands -/
def Kp (d c : Addr) (H G : Hp) : Prop := ∀ b o, b ≠ d → b ≠ c → H b = some o → G b = some o
theorem Kp.rfl {d c : Addr} {H : Hp} : Kp d c H H := fun _ _ _ _ e => e
theorem Kp.trans {d c : Addr} {H G F : Hp} (a : Kp d c H G) (b : Kp d c G F) : Kp d c H F := fun x o h1 h2 e => b x o h1 h2 (a x o h1 h2 e)
theorem Kp.of {d c : Addr} {H G : Hp} (a : Same H G) : Kp d c H G := fun x o _ _ e => a x o e
theorem Kp.at1 {d c : Addr} {H : Hp} {o : HO} : Kp d c H (upd H d o) := fun x u h1 _ e => by rw [upd_ne h1]; exact e
theorem Kp.at2 {d c : Addr} {H : Hp} {o : HO} : Kp d c H (upd H c o) := fun x u _ h2 e => by rw [upd_ne h2]; exact e
/-- the deck of drawn cells -/
structure Dk (H : Hp) (d c : Addr) : Prop where
  ne : d ≠ c
  dd : ∃ seed k : Int, H d = some (.lst [.ref c, .int seed, .int k])
  cc : ∃ ns : List Int, H c = some (.lst (ns.map V.int)) ∧ ns.length ≤ 63
theorem Dk.same {H G : Hp} {d c : Addr} (x : Dk H d c) (s : Same H G) : Dk G d c := by
  obtain ⟨n, ⟨a, b, e⟩, ⟨ns, f, l⟩⟩ := x
  exact ⟨n, ⟨a, b, s _ _ e⟩, ⟨ns, s _ _ f, l⟩⟩
theorem sz {n : Nat} (h : n ≤ 1000) : n ≤ sizeLine := Nat.le_of_lt (small1000 h)
theorem Kp.mk {d c p : Addr} {H G : Hp} {o : HO} (a : Kp d c H G) (h : H p = none) : Kp d c H (upd G p o) := fun b u h1 h2 e => by
  rw [upd_ne (ne_of_none e h)]
  exact a b u h1 h2 e
theorem Dk.put {G : Hp} {d c p : Addr} {o : HO} (x : Dk G d c) (h : p ≠ d) (h' : p ≠ c) : Dk (upd G p o) d c := by
  obtain ⟨n, ⟨a, b, e⟩, ⟨ns, f, l⟩⟩ := x
  exact ⟨n, ⟨a, b, by rw [upd_ne h.symm]; exact e⟩, ⟨ns, by rw [upd_ne h'.symm]; exact f, l⟩⟩
theorem Dk.off {H : Hp} {d c p : Addr} (x : Dk H d c) (h : H p = none) : p ≠ d ∧ p ≠ c := by
  obtain ⟨n, ⟨a, b, e⟩, ⟨ns, f, l⟩⟩ := x
  exact ⟨(ne_of_none e h).symm, (ne_of_none f h).symm⟩
/-! texts of letters -/
def lets : Str := "abcdefghijklmnopqrstuvwxyz"
def sg (i : Nat) : Str := ⟨#[97 + i]⟩
theorem lets_at : ∀ i : Fin 26, lets.cps.toList[i.val]? = some (97 + i.val) := by decide +kernel
theorem lets_ix : ∀ i : Fin 26, Builtin.Str.occurrences lets (sg i.val) 0 lets.length 1 = [i.val] := by decide +kernel
structure Nm (x : Str) : Prop where
  low : ∀ c ∈ x.cps.toList, 97 ≤ c ∧ c < 123
  few : x.cps.toList.length ≤ 8
  one : 1 ≤ x.cps.toList.length
theorem app_cps (x y : Str) : (x ++ y).cps.toList = x.cps.toList ++ y.cps.toList := by
  show (x.cps ++ y.cps).toList = _
  rw [Array.toList_append]
theorem join_low : ∀ ks : List Nat, (∀ k ∈ ks, k < 26) → (∀ c ∈ (Txt.join (Str.ofString "") (ks.map sg)).cps.toList, 97 ≤ c ∧ c < 123) ∧ (Txt.join (Str.ofString "") (ks.map sg)).cps.toList.length = ks.length := by
  intro ks h
  rw [show ∀ a b, Txt.join a b = Str.join a b from TL.join_eq]
  induction ks with
  | nil => exact ⟨fun c z => absurd z (by simp [Str.join, Str.empty]), by simp [Str.join, Str.empty]⟩
  | cons k ks ih =>
    have hk := h k List.mem_cons_self
    have ih := ih fun j hj => h j (List.mem_cons_of_mem _ hj)
    cases ks with
    | nil =>
      refine ⟨fun c z => ?_, rfl⟩
      have e : c = 97 + k := by simpa [Str.join, sg] using z
      omega
    | cons j r =>
      have e : Str.join (Str.ofString "") ((k :: j :: r).map sg) = sg k ++ Str.ofString "" ++ Str.join (Str.ofString "") ((j :: r).map sg) := rfl
      rw [e, app_cps, app_cps]
      have e0 : (Str.ofString "").cps.toList = [] := by decide
      rw [e0, List.append_nil]
      refine ⟨fun c z => ?_, ?_⟩
      · rcases List.mem_append.mp z with z | z
        · have e : c = 97 + k := by simpa [sg] using z
          omega
        · exact ih.1 c z
      · rw [List.length_append, ih.2]
        show 1 + _ = _
        simp only [List.length_cons]
        omega
theorem join_nm {ks : List Nat} (h : ∀ k ∈ ks, k < 26) (h1 : 1 ≤ ks.length) (h8 : ks.length ≤ 8) : Nm (Txt.join (Str.ofString "") (ks.map sg)) := by
  obtain ⟨a, b⟩ := join_low ks h
  exact ⟨a, by omega, by omega⟩
theorem cutTo {xs : List V} {j : Nat} (h : j ≤ xs.length) : cutV xs none (some (j : Int)) = xs.take j := by
  unfold cutV
  rw [HT.sIx_nat, HT.sIx_none, Nat.min_eq_left h]
  rfl
theorem Kp.free {d c p : Addr} {H G : Hp} (a : Kp d c H G) (k : Dk G d c) (h : G p = none) : H p = none := by
  obtain ⟨h1, h2⟩ := k.off h
  cases e : H p with
  | none => rfl
  | some o =>
    rw [a p o h1 h2 e] at h
    cases h
theorem sg_len (ks : List Nat) : ((ks.map sg).map (·.length)).sum = ks.length := by
  induction ks with
  | nil => rfl
  | cons k ks ih =>
    rw [List.map_cons, List.map_cons, List.sum_cons, ih, List.length_cons]
    show 1 + ks.length = _
    omega
theorem lets_get {r : Int} (h0 : 0 ≤ r) (h1 : r < 26) : atI lets.cps.toList r = some (97 + r.toNat) := by
  have e : r = ((r.toNat : Nat) : Int) := by omega
  have q := atI_nat (lets_at ⟨r.toNat, by omega⟩)
  rw [← show r = (((⟨r.toNat, by omega⟩ : Fin 26).val : Nat) : Int) from e] at q
  exact q
theorem cutKs {ks : List Nat} {j : Nat} (h : j ≤ ks.length) : cutV ((ks.map sg).map V.str) none (some (j : Int)) = ((ks.take j).map sg).map V.str := by
  rw [cutTo (by rw [List.length_map, List.length_map]; exact h), List.map_take, List.map_take]
theorem lets_len : lets.length ≤ sizeLine := by decide
/-! rules for the inside of a comprehension, the written part named -/
theorem slK {X : Cx} (K : PySem.W.Frag) (h : X.K = K) : SlR X (rSlL K) := by
  subst h
  exact sl_list
def rJn (K : PySem.W.Frag) : V → List V → Hp → VK → Prop := fun x xs H Q => ∃ a p, ∃ ys : List Str, x = .str a ∧ xs = [.ref p] ∧ (SqL K H p (ys.map V.str) ∨ SqT K H p (ys.map V.str)) ∧ (ys.map (·.length)).sum + ys.length * a.length ≤ 16777216 ∧ Q (.str (Txt.join a ys)) H
theorem pe_joinK {X : Cx} (K : PySem.W.Frag) (h : X.K = K) {o e : Expr} {apos pos : Pos} {to te : TE} (ho : PE X o to) (he : PE X e te) (hbase : attributeBase o "join" X.env (eval o X.env) = eval o X.env := by rfl) (hline : (apos.endLine == pos.line) = true := by rfl)
    (hs : starEach [e] X.env = [(false, eval e X.env)] := by rfl) : PE X (.Call (.Attribute o "join" apos) [e] [] pos) (tM1 (rJn K) to te) := by
  subst h
  exact pe_join ho he hs hbase hline
theorem dpInts (K : PySem.W.Frag) (H : Hp) : ∀ ns : List Int, DpAll K H (ns.map V.int) (ns.map PyData.int)
  | [] => .nil
  | n :: ns => .cons (.int n) (dpInts K H ns)

theorem ixNat {n j : Nat} (hj : j < n) : ixN n (j : Int) = some j := by
  have h1 : (0 : Int) ≤ (j : Int) := by omega
  have h2 : (j : Int) < (n : Int) := by omega
  simp [ixN, h1, h2]
theorem join_cps : ∀ ks : List Nat, (Txt.join (Str.ofString "") (ks.map sg)).cps.toList = ks.map (97 + ·) := by
  intro ks
  rw [show ∀ a b, Txt.join a b = Str.join a b from TL.join_eq]
  induction ks with
  | nil => rfl
  | cons k ks ih =>
    cases ks with
    | nil => rfl
    | cons j r =>
      have e : Str.join (Str.ofString "") ((k :: j :: r).map sg) = sg k ++ Str.ofString "" ++ Str.join (Str.ofString "") ((j :: r).map sg) := rfl
      rw [e, app_cps, app_cps, ih]
      rfl
theorem nodupR {f : Nat → Str} : ∀ n, (∀ i j, i < n → j < n → f i = f j → i = j) → ((List.range n).map f).Nodup
  | 0, _ => List.nodup_nil
  | n + 1, h => by
    rw [List.range_succ, List.map_append]
    refine List.nodup_append.mpr ⟨nodupR n fun i j hi hj e => h i j (by omega) (by omega) e, (by simp), fun x hx y hy e => ?_⟩
    obtain ⟨i, hi, rfl⟩ := List.mem_map.mp hx
    have ey : y = f n := List.mem_singleton.mp hy
    rw [ey] at e
    have hi := List.mem_range.mp hi
    have := h i n (by omega) (by omega) e
    omega
abbrev tDeck : Stmt := tp 68
abbrev tDraw : Stmt := tp 69
section
variable {P : Program} {w : World} {K : PySem.W.Frag} {mg : Str → Option Value} {base : Heap}
theorem scDraw : FnScope ["_law_deck_here", "_law_most", "_law_cell", "_law_number_here"] ["_law_deck_here", "_law_most"] (defScope tDraw) := ⟨rfl, rfl, rfl, by decide +kernel, rfl, by decide +kernel, by decide +kernel⟩
def spDraw : Sp := fun vs H Q _ => ∃ (d c : Addr) (m : Int), vs = [.ref d, .int m] ∧ Dk H d c ∧ 0 < m ∧ m < 1298074214633706907132624082305024 ∧ ∀ (r : Int) (G : Hp), 0 ≤ r → r < m → Kp d c H G → Dk G d c → Q (.int r) G
theorem okDraw {f : Addr} {fd : FuncData} {k : Nat} (F : Fun K "_law_draw" "_law_draw" tDraw f fd) : FnOk P w K mg base CX0 (k + 1) f fd ["_law_deck_here", "_law_most"] spDraw := by
  refine F.ok scDraw (fun vs H Q E h => ?_) (fun cdv A outer s H vs Q E hr h => ?_)
  · obtain ⟨d, c, m, rfl, _⟩ := h
    rfl
  obtain ⟨d, c, m, rfl, ⟨ndc, ⟨seed, k0, hd⟩, ⟨ns, hc, hl⟩⟩, m0, m1, q⟩ := h
  refine ⟨_, pss_cons (ps_asg (pe_op op_add (pe_ix ix_list (pv 0) pe_int (fun _ _ => rfl)) pe_int) (pg_sub (pv 0) pe_int set_list))
    (C8.pss_cut (ps_set (i := 2) scDraw.nd rfl (.inl rfl) (pe_ifExp (pt_cmpR (op_eqD hr.units) (pe_ix ix_list (pv 0) pe_int (fun _ _ => rfl)) (pe_lst pa_nil) (nomark _)) (pe_ix ix_list (pv 0) pe_int (fun _ _ => rfl)) (pe_bm0 PySem.F.plainAttrs_list PySem.F.slot_list_pop PySem.F.type_list_pop mt_pop (pe_ix ix_list (pv 0) pe_int (fun _ _ => rfl)))))
    (pss_cons (ps_if (pt_cmpR op_ge (pv 2) (pe_op op_pow pe_int pe_int) (nomark _))
      (pss_cons (ps_expr (pe_bm PySem.F.plainAttrs_list PySem.F.slot_list_append PySem.F.type_list_append mt_append (pe_ix ix_list (pv 0) pe_int (fun _ _ => rfl)) (pa_cons (pe_op op_fdivW (pv 2) (pv 1)) pa_nil)))
      (pss_one (ps_ret (pe_op op_mod (pv 2) (pv 1))))) pss_nil)
    (pss_cons (ps_set (i := 3) scDraw.nd rfl (.inl rfl) (pe_op op_mod (pe_op op_mul (pe_op op_add (pe_op op_add (pe_op op_mod (pv 2) pe_int) (pe_op op_mul pe_int (pe_ix ix_list (pv 0) pe_int (fun _ _ => rfl)))) pe_int) pe_int) pe_int))
    (pss_cons (ps_set (i := 3) scDraw.nd rfl (.inl rfl) (pe_op op_mod (pe_op op_add (pe_op op_add (pe_op op_mul (pv 3) (pv 3)) (pe_op op_mul pe_int (pe_ix ix_list (pv 0) pe_int (fun _ _ => rfl)))) pe_int) pe_int))
    (pss_one (ps_ret (pe_op op_mod (pe_op op_fdiv (pe_op op_mod (pe_op op_mul (pv 3) (pe_op op_add (pe_op op_fdiv (pv 3) pe_int) pe_int)) pe_int) pe_int) (pv 1)))))))), ?_⟩
  refine ⟨_, rfl, d, _, _, _, rfl, rfl, SqL.of hd, atI_nat (j := 2) rfl, _, _, rfl, rfl, _, rfl, d, _, _, 2, rfl, rfl, hd, rfl, ?_⟩
  generalize hH1 : upd H d _ = H1
  have d1 : H1 d = some (.lst [.ref c, .int seed, .int (k0 + 1)]) := by rw [← hH1, upd_same]; rfl
  have c1 : H1 c = some (.lst (ns.map V.int)) := by rw [← hH1, upd_ne ndc.symm]; exact hc
  have p1 : Kp d c H H1 := by rw [← hH1]; exact Kp.at1
  clear hH1
  refine ⟨fun σ G => ∃ (cell : Int) (ms : List Int), σ = [some (.ref d), some (.int m), some (.int cell), none] ∧ Kp d c H G ∧ G d = some (.lst [.ref c, .int seed, .int (k0 + 1)]) ∧ G c = some (.lst (ms.map V.int)) ∧ ms.length ≤ 62, ?_, ?b2⟩
  · refine ⟨_, rfl, d, _, _, _, rfl, rfl, SqL.of d1, atI_nat (j := 0) rfl, Nat.zero_le _, fun p np => ?_⟩
    have sp : Same H1 (upd H1 p (.lst [])) := newS np
    have d2 := sp _ _ d1
    have c2 := sp _ _ c1
    have p2 : Kp d c H (upd H1 p (.lst [])) := p1.trans (.of sp)
    refine ⟨.list (ns.map PyData.int), .list [], .lst (SqL.of c2) (dpInts K _ ns), .lst (SqL.of upd_same) .nil, PySem.W.ke_shaped_ints ns, rfl, _, rfl, ?_⟩
    generalize upd H1 p (.lst []) = H2 at d2 c2 p2
    refine ite2 (fun he => ?_) (fun hne => ?_)
    · have n0 : ns = [] := by
        cases ns with
        | nil => rfl
        | cons a b => simp [PyData.eqv, PyData.eqvAll] at he
      subst n0
      exact ⟨_, rfl, d, _, _, _, rfl, rfl, SqL.of d2, atI_nat (j := 1) rfl, seed, [], rfl, p2, d2, c2, Nat.zero_le _⟩
    · have nn : ns ≠ [] := fun z => hne (by rw [z]; rfl)
      obtain ⟨n, hn⟩ : ∃ n, (ns.map V.int)[(ns.map V.int).length - 1]? = some (.int n) := by
        have h0 : 0 < ns.length := List.length_pos_iff.mpr nn
        rw [List.length_map, List.getElem?_map, List.getElem?_eq_getElem (by omega)]
        exact ⟨_, rfl⟩
      have ed : (ns.map V.int).dropLast = ns.dropLast.map V.int := by rw [List.map_dropLast]
      refine ⟨_, rfl, d, _, _, _, rfl, rfl, SqL.of d2, atI_nat (j := 0) rfl, .inl ⟨rfl, _, SqL.of c2⟩, c, _, _, rfl, rfl, c2, hn, ?_⟩
      rw [ed]
      refine ⟨n, ns.dropLast, rfl, p2.trans Kp.at2, by rw [upd_ne ndc]; exact d2, upd_same, ?_⟩
      rw [List.length_dropLast]
      omega
  case b2 =>
    rintro σ G ⟨cell, ms, rfl, kp, gd, gc, lm⟩
    refine ⟨_, rfl, _, _, rfl, rfl, ⟨by decide, by decide, by decide⟩, _, _, rfl, rfl, _, rfl, ite2 (fun _ => ?_) (fun _ => ?_)⟩
    · refine ⟨_, rfl, d, _, _, _, rfl, rfl, SqL.of gd, atI_nat (j := 0) rfl, .inl ⟨rfl, _, SqL.of gc⟩, _, rfl, _, rfl, _, _, rfl, rfl, wide_div m0 (b := 120) (by show m.natAbs < 1329227995784915872903807060280344576; omega) (by decide) (by decide), c, _, _, rfl, rfl, gc, (by rw [List.length_map]; exact small1000 (by omega)), ?_⟩
      refine ⟨_, rfl, _, rfl, _, _, rfl, rfl, m0, q _ _ (Int.emod_nonneg _ (by omega)) (Int.emod_lt_of_pos _ m0) (kp.trans Kp.at2) ⟨ndc, ⟨seed, k0 + 1, (by rw [upd_ne ndc]; exact gd)⟩, ⟨ms ++ [cell / m], ?_, ?_⟩⟩⟩
      · rw [upd_same, List.map_append]
        rfl
      · rw [List.length_append]
        show _ + 1 ≤ 63
        omega
    · refine ⟨_, rfl, _, _, rfl, rfl, (by show (0 : Int) < 2147483629; decide), _, rfl, d, _, _, _, rfl, rfl, SqL.of gd, atI_nat (j := 2) rfl, _, _, rfl, rfl, .inl ⟨by decide, by decide⟩, _, _, rfl, rfl, _, _, rfl, rfl, _, _, rfl, rfl, .inr ⟨by decide, by decide⟩, _, _, rfl, rfl, (by show (0 : Int) < 2147483647; decide), ?_⟩
      generalize hx : (cell % 2147483629 + 104729 * (k0 + 1) + 1) * 48271 % 2147483647 = x
      have x0 : 0 ≤ x := by rw [← hx]; exact Int.emod_nonneg _ (by decide)
      have x1 : x < 2147483647 := by rw [← hx]; exact Int.emod_lt_of_pos _ (by decide)
      refine ⟨_, rfl, _, rfl, _, _, rfl, rfl, .inl ⟨by omega, by omega⟩, _, rfl, d, _, _, _, rfl, rfl, SqL.of gd, atI_nat (j := 2) rfl, _, _, rfl, rfl, .inl ⟨by decide, by decide⟩, _, _, rfl, rfl, _, _, rfl, rfl, _, _, rfl, rfl, (by show (0 : Int) < 2147483587; decide), ?_⟩
      generalize hy : (x * x + 69621 * (k0 + 1) + 7) % 2147483587 = y
      have y0 : 0 ≤ y := by rw [← hy]; exact Int.emod_nonneg _ (by decide)
      have y1 : y < 2147483587 := by rw [← hy]; exact Int.emod_lt_of_pos _ (by decide)
      refine ⟨_, rfl, _, rfl, _, _, rfl, rfl, ⟨by decide, by decide⟩, _, _, rfl, rfl, _, _, rfl, rfl, .inl ⟨by omega, by omega⟩, _, _, rfl, rfl, (by show (0 : Int) < 2305843009213693951; decide), _, _, rfl, rfl, ⟨by decide, by decide⟩, _, rfl, _, _, rfl, rfl, m0, ?_⟩
      exact q _ _ (Int.emod_nonneg _ (by omega)) (Int.emod_lt_of_pos _ m0) kp ⟨ndc, ⟨_, _, gd⟩, ⟨ms, gc, by omega⟩⟩
/-! _law_deck -/
theorem scDeck : FnScope ["_law_script", "_law_cells"] ["_law_script"] (defScope tDeck) := ⟨rfl, rfl, rfl, by decide +kernel, rfl, by decide +kernel, by decide +kernel⟩
def spDeck (K : PySem.W.Frag) : Sp := fun vs H Q _ => ∃ (a : Addr) (ns : List Int), vs = [.ref a] ∧ SqL K H a (ns.map V.int) ∧ ns.length ≤ 63 ∧ ∀ (d c : Addr) (G : Hp), Same H G → H d = none → H c = none → Dk G d c → Q (.ref d) G
theorem okDeck {f : Addr} {fd : FuncData} {k : Nat} (F : Fun K "_law_deck" "_law_deck" tDeck f fd) (ml : mg "list" = none) (mr : mg "reversed" = none) (ms : mg "sum" = none) (mn : mg "len" = none) : FnOk P w K mg base CX0 (k + 1) f fd ["_law_script"] (spDeck K) := by
  refine F.ok scDeck (fun vs H Q E h => ?_) (fun cdv A outer s H vs Q E hr h => ?_)
  · obtain ⟨a, ns, rfl, _⟩ := h
    rfl
  obtain ⟨a, ns, rfl, hS, hl, q⟩ := h
  refine ⟨_, pss_cons (ps_set (i := 1) scDeck.nd rfl (.inl rfl) (Kr.pe_listRev rfl (by rfl) ml (by rfl) mr (pe_slice sl_list (pv 0) po_none (po_some pe_int))))
    (pss_one (ps_ret (pe_lst (pa_cons (pv 1) (pa_cons (pe_op op_add (pe_op op_mod (pe_callB (cr_sum rfl) (by rfl) ms PyProof.Rows.boot_sum (pa_cons (pv 1) pa_nil)) pe_int) (pe_op op_mul pe_int (pe_callB call_len_seq (by rfl) mn PySem.boot_len (pa_cons (pv 1) pa_nil)))) (pa_cons pe_int pa_nil)))))), ?_⟩
  refine ⟨_, rfl, 63, rfl, a, _, rfl, hS, fun p np => ?_⟩
  refine ⟨p, _, rfl, SqL.of upd_same, fun c nc => ?_⟩
  have e0 : cutV (ns.map V.int) none (some 63) = (ns.take 63).map V.int := by
    rw [List.take_of_length_le hl]
    unfold cutV
    rw [HT.sIx_none, show HT.sIx (ns.map V.int).length (ns.map V.int).length (some 63) = min 63 (ns.map V.int).length from HT.sIx_nat _ _ 63, List.drop_zero, List.take_of_length_le]
    rw [List.length_map]
    omega
  rw [e0, ← List.map_reverse]
  generalize hm : (ns.take 63).reverse = ms'
  have lm : ms'.length ≤ 63 := by rw [← hm, List.length_reverse, List.length_take]; omega
  generalize hG : upd (upd H p _) c (.lst (ms'.map V.int)) = G
  have gc : G c = some (.lst (ms'.map V.int)) := by rw [← hG, upd_same]
  have hc : H c = none := (newS np).free nc
  have hcp : c ≠ p := fun z => by
    rw [z, upd_same] at nc
    cases nc
  have sG : Same H G := by
    rw [← hG]
    exact (newS np).trans (newS (by rw [upd_ne hcp]; exact hc))
  refine ⟨_, rfl, _, rfl, c, _, rfl, SqL.of gc, _, _, rfl, rfl, (by show (0 : Int) < 2147483629; decide), _, rfl, c, _, rfl, .inl (SqL.of gc), _, _, rfl, rfl, .inl ⟨by decide, by decide⟩, _, _, rfl, rfl, (by show 3 ≤ sizeLine; decide), fun d nd => q d c _ (sG.trans (newS nd)) (sG.free nd) hc ⟨(ne_of_none gc nd).symm, ⟨_, _, upd_same⟩, ⟨ms', ?_, lm⟩⟩⟩
  rw [upd_ne (ne_of_none gc nd)]
  exact gc
end
end Kq

/-! defs that are called where no repr is under way -/
namespace Kf
open PySem PySem.Spec PyProof.Rows L2 LamX
/-- no repr is under way -/
abbrev Still (A : Around) : Prop := A.guards = some []
/-- a def's promise, called where no repr is under way -/
structure FnG (P : Program) (w : World) (K : PySem.W.Frag) (mg : Str → Option Value) (base : Heap) (CX : CXT) (k : Nat) (f : Addr) (fd : FuncData) (ps : List Str) (sp : Sp) : Prop where
  cnt : ∀ vs H Q E, sp vs H Q E → vs.length = ps.length
  go : ∀ (A : Around) (o : List Env) (s : Shared) (H : Hp) (r : Args) (us : List Value) (vs : List V) (Q : VK) (E : XK), Still A → Room k A → Env0 P w K mg base A o s H → BindsTo s fd r (ps.zip us) → Vals vs us → sp vs H Q E →
    codeAny (model P w) A (.call (.ref f) r) (CR CX o P w H s Q E) s
section
variable {P : Program} {w : World} {K : PySem.W.Frag} {mg : Str → Option Value} {base : Heap} {CX : CXT}
theorem FnG.of {k : Nat} {f : Addr} {fd : FuncData} {ps : List Str} {sp : Sp} (F : FnOk P w K mg base CX k f fd ps sp) : FnG P w K mg base CX k f fd ps sp :=
  ⟨F.len, fun A o s H r us vs Q E _ => F.run A o s H r us vs Q E⟩
theorem FnG.up {j k : Nat} {f : Addr} {fd : FuncData} {ps : List Str} {sp : Sp} (F : FnG P w K mg base CX j f fd ps sp) (h : j ≤ k) : FnG P w K mg base CX k f fd ps sp :=
  ⟨F.cnt, fun A o s H r us vs Q E g hr => F.go A o s H r us vs Q E g (hr.mono h)⟩
/-- a def by its body -/
theorem fnG_of {k : Nat} {f : Addr} {nm ql : Str} {prm : Arguments} {bd : List Stmt} {sco : Scope} {dV kV doc pm cdv ct oc : Value} {an od : Option Addr} {sl : Array (Option Value)} {N ps : List Str} {sp : Sp}
    (at' : K.lookup f = some ⟨oc, od, .func (PySem.W.fnOf nm ql prm bd sco dV kV doc pm an cdv ct), sl⟩) (hc : PySem.W.codeIn K cdv ql = true) (S : FnScope N ps sco) (cnt : ∀ vs H Q E, sp vs H Q E → vs.length = ps.length)
    (body : ∀ (A : Around) (o : List Env) (s : Shared) (H : Hp) (vs : List V) (Q : VK) (E : XK), Still A → Room k (A.deeper (envOfC ql sco s.heap.objs.size f cdv)) → sp vs H Q E →
      ∃ t, PSs (cxOf CX P w K mg base N ql sco f cdv A o s H E) bd t ∧ t { nx := fun _ G => Q .non G, rt := Q } (start N vs) H) : FnG P w K mg base CX (k + 1) f (PySem.W.fnOf nm ql prm bd sco dV kV doc pm an cdv ct) ps sp where
  cnt := cnt
  go := by
    intro A o s H r us vs Q E still room e0 binds vals hsp
    have hold := fun b u (z : base.get? b = some u) => (e0.bs b u z).1
    have kx := e0.mod.kin.keeps hold
    have par : ∀ z ∈ ps.zip us, sco.names.lookup z.1 = some .local ∨ (sco.names.lookup z.1 = some .cell ∧ ((cellsFrom (s.heap.objs.size + 1) sco.names []).lookup z.1).isSome = true) := by
      intro z hz
      have hm : z.1 ∈ ps := (List.of_mem_zip (a := z.1) (b := z.2) hz).1
      exact (S.par z.1 hm).imp id fun q => ⟨q, PySem.W.cellsFrom_some _ _ _ (.inl q)⟩
    refine codeAny_call_function room.depth (kx _ _ at') rfl S.co S.gen rfl (PySem.W.codeRec_of kx hc) (binds _ _ _ _ (wpAny_newFunctionEnv_cells S.kind par ?_))
    rintro env rfl s1 x
    refine ⟨(e0.mod.nolimit.keeps hold).keeps x.toInCall.keep, codeAny_func ?_⟩
    obtain ⟨t, ht, hq⟩ := body A o s H vs Q E still (room.deeper _) hsp
    refine wpAny_mono (ht.run [] s1 (start N vs) H _ (inv_start S room.hd e0 (cnt _ _ _ _ hsp) vals x) hq) ?_ (fun _ _ z => z)
    intro fl s2 z
    match fl, z with
    | .ret u, ⟨v, _, G, J, rv, q⟩ => exact ⟨v, G, J.os, J.bare, J.base, J.hok, rv, q⟩
    | .next, ⟨_, G, J, q⟩ => exact ⟨V.non, G, J.os, J.bare, J.base, J.hok, rfl, q⟩
    | .brk, ⟨_, _, _, q⟩ => exact q.elim
    | .cont, ⟨_, _, _, q⟩ => exact q.elim
/-- a def of the text that lets nothing out -/
theorem okG {x ql : Str} {st : Stmt} {f : Addr} {fd : FuncData} {N ps : List Str} {k : Nat} {sp : Sp} (F : Fun K x ql st f fd) (S : FnScope N ps (defScope st)) (cnt : ∀ vs H Q E, sp vs H Q E → vs.length = ps.length)
    (body : ∀ (cdv : Value) (A : Around) (o : List Env) (s : Shared) (H : Hp) (vs : List V) (Q : VK) (E : XK), Still A → Room k (A.deeper (envOfC ql (defScope st) s.heap.objs.size f cdv)) → sp vs H Q E →
      ∃ t, PSs (cxOf CX0 P w K mg base N ql (defScope st) f cdv A o s H E).nox (defBody st) t ∧ t { nx := fun _ G => Q .non G, rt := Q } (start N vs) H) : FnG P w K mg base CX0 (k + 1) f fd ps sp := by
  obtain ⟨oc, od, kV, doc, pm, an, cdv, ct, sl, rfl, hl, hc⟩ := F.ex
  exact fnG_of hl hc S cnt fun A o s H vs Q E g hr h => (body cdv A o s H vs Q E g hr h).imp fun t z => ⟨z.1.nox, z.2⟩
end
section
variable {X : Cx} {CX : CXT} {k : Nat} {f : Addr} {fd : FuncData} {ps : List Str} {sp : Sp} {dvs : List V} {ds : List Value} {E : XK} {x : Str} {p pos : Pos} {e : Expr} {es : List Expr} {t : TA}
theorem goG {pins : List (Addr × Obj)} {σ : L2.St} {H : Hp} {s : Shared} {Q : VK} {us : List Value} {vs : List V} (F : FnG X.prog X.w X.K X.mg X.base CX k f fd ps sp) (g : Still X.A) (hr : Room k X.A) (hb : Binds X.K fd ps ds) (hd : Vals dvs ds) (hx : Passes CX X E) (I : Inv X pins σ H s) (rv : Vals vs us)
    (h : sp (vs ++ dvs) H Q E) : wpAny (model X.prog X.w) X.A (call (.ref f) us) (EP X pins σ Q) X.xe s := by
  have both := rv.append hd
  have n : (us ++ ds).length = ps.length := both.length.symm.trans (F.cnt _ _ _ _ h)
  refine wpAny_call (codeAny_mono (F.go X.A X.stack s H ⟨us, []⟩ _ _ Q E g hr I.env0 (hb s us I.kIn n) both h) ?_)
  intro r s2 z
  match r, z with
  | .error u, z => exact hx pins σ H s u s2 I z
  | .ok (.ret u), z => exact I.after z
  | .ok .next, z => exact z.elim
  | .ok .brk, z => exact z.elim
  | .ok .cont, z => exact z.elim
/-- f(e, ..) -/
theorem pe_callG (F : FnG X.prog X.w X.K X.mg X.base CX k f fd ps sp) (g : Still X.A) (hr : Room k X.A) (hg : Gl X x) (hm : X.mg x = some (.ref f)) (hk : PySem.W.keepIn X.K (.ref f) = true) (hb : Binds X.K fd ps ds) (hd : Vals dvs ds) (hx : Passes CX X E) (ha : PA X (e :: es) t)
    (hn : (x == ("__debug__" : Str)) = false := by decide) (h1 : starEach (e :: es) X.env = (false, eval e X.env) :: starEach es X.env := by rfl) (h2 : (backTo pos (starEach es X.env)).any (·.1) = false := by rfl) : PE X (.Call (.Name x p) (e :: es) [] pos) (tCall sp dvs E t) := by
  constructor
  intro pins s σ H Q I h
  refine wpAny_Call_Name_kw (ld_glob I hg hm (PySem.W.callWith_K (h₀ := X.base) I.ok.mod.kin hk (thn (ha.run pos pins s σ H _ I h) ?_) h1 h2) hn)
  rintro us s2 ⟨vs, G, J, rv, q⟩
  exact ⟨J.kIn, goG F g hr hb hd hx J rv q⟩
end
end Kf

/-! repr of data -/
namespace Kf
open PySem PySem.Spec PyProof.Rows L2
/-- data that shows as it is, of at most so many in one another -/
structure Shows (n : Nat) (d : PyData) : Prop where
  ok : d.showable = true
  nd : d.hasDict = false
  dp : d.depth ≤ n
  sz : d.shown.length ≤ sizeLine
def rShow (K : PySem.W.Frag) (n : Nat) : List V → Hp → VK → Prop := fun xs H Q => ∃ (a : Addr) (d : PyData), xs = [.ref a] ∧ Dp K H (.ref a) d ∧ Shows n d ∧ Q (.str d.shown) H
theorem call_show {X : Cx} {n : Nat} (g : Still X.A) (hu : X.A.units + (n + 1) < cLine) : CallR X (.builtin "repr") (rShow X.K n) := by
  intro pins s σ H xs us Q I r h
  obtain ⟨a, d, rfl, hd, sh, q⟩ := h
  rw [Vals.ref1 r]
  obtain ⟨as, rd⟩ := Dp.reads I d _ (.ref a) hd rfl
  exact repr_of_reads' rd sh.ok (PyData.noDict_hsm sh.nd) g (by have := sh.dp; omega) (fun _ _ e => e) (fun h' u tk hk => ⟨.str d.shown, H, I.kept hk, ⟨u, rfl⟩, q⟩) sh.sz
end Kf

/-! things of anything: none, truths, numbers, texts, tuples, lists, the empty dict -/
namespace Kv
open PySem PySem.Spec PyProof.Rows L2 Kf
inductive Dt where
  | non
  | bl (b : Bool)
  | int (i : Int)
  | str (x : Str)
  | tup (xs : List Dt)
  | lst (xs : List Dt)
  | emp
mutual
/-- the thing stands at v; its lists and dicts at places N -/
inductive Dd (N : Addr → Prop) (H : Hp) : Dt → V → Prop
  | non : Dd N H .non .non
  | bl (b : Bool) : Dd N H (.bl b) (.bl b)
  | int (i : Int) : Dd N H (.int i) (.int i)
  | str (x : Str) : Dd N H (.str x) (.str x)
  | tup {a : Addr} {xs : List Dt} {vs : List V} : H a = some (.tup vs) → DdL N H xs vs → Dd N H (.tup xs) (.ref a)
  | lst {a : Addr} {xs : List Dt} {vs : List V} : N a → H a = some (.lst vs) → DdL N H xs vs → Dd N H (.lst xs) (.ref a)
  | emp {a : Addr} : N a → H a = some (.dK []) → Dd N H .emp (.ref a)
inductive DdL (N : Addr → Prop) (H : Hp) : List Dt → List V → Prop
  | nil : DdL N H [] []
  | cons {x : Dt} {xs : List Dt} {v : V} {vs : List V} : Dd N H x v → DdL N H xs vs → DdL N H (x :: xs) (v :: vs)
end
/-- what stood of tuples, and of lists and dicts at N, stands -/
structure Kn (N : Addr → Prop) (H G : Hp) : Prop where
  tup : ∀ b xs, H b = some (.tup xs) → G b = some (.tup xs)
  lst : ∀ b xs, N b → H b = some (.lst xs) → G b = some (.lst xs)
  dic : ∀ b xs, N b → H b = some (.dK xs) → G b = some (.dK xs)
theorem Kn.of {N : Addr → Prop} {H G : Hp} (s : Same H G) : Kn N H G := ⟨fun b _ e => s b _ e, fun b _ _ e => s b _ e, fun b _ _ e => s b _ e⟩
theorem Kn.trans {N : Addr → Prop} {H G F : Hp} (a : Kn N H G) (b : Kn N G F) : Kn N H F := ⟨fun x _ e => b.tup x _ (a.tup x _ e), fun x _ n e => b.lst x _ n (a.lst x _ n e), fun x _ n e => b.dic x _ n (a.dic x _ n e)⟩
theorem Kn.rfl {N : Addr → Prop} {H : Hp} : Kn N H H := ⟨fun _ _ e => e, fun _ _ _ e => e, fun _ _ _ e => e⟩
theorem Kn.sub {N M : Addr → Prop} {H G : Hp} (k : Kn N H G) (h : ∀ b, M b → N b) : Kn M H G := ⟨k.tup, fun b xs n e => k.lst b xs (h b n) e, fun b xs n e => k.dic b xs (h b n) e⟩
/-- another list, dict or the like is put at p -/
theorem Kn.put {N : Addr → Prop} {H G : Hp} {p : Addr} {o : HO} (k : Kn N H G) (n : ¬ N p) (h : ∀ xs, H p ≠ some (.tup xs)) : Kn N H (upd G p o) := by
  refine ⟨fun b xs e => ?_, fun b u hb e => ?_, fun b u hb e => ?_⟩
  · rw [upd_ne (fun z => h xs (by rw [← z]; exact e))]
    exact k.tup b xs e
  · rw [upd_ne (fun z => n (by rw [← z]; exact hb))]
    exact k.lst b u hb e
  · rw [upd_ne (fun z => n (by rw [← z]; exact hb))]
    exact k.dic b u hb e
/-- what was free is put at p -/
theorem Kn.new {N : Addr → Prop} {H G : Hp} {p : Addr} {o : HO} (k : Kn N H G) (h : H p = none) : Kn N H (upd G p o) := by
  refine ⟨fun b xs e => ?_, fun b u hb e => ?_, fun b u hb e => ?_⟩
  · rw [upd_ne (ne_of_none e h)]
    exact k.tup b xs e
  · rw [upd_ne (ne_of_none e h)]
    exact k.lst b u hb e
  · rw [upd_ne (ne_of_none e h)]
    exact k.dic b u hb e
mutual
theorem Dd.kn {N : Addr → Prop} {H G : Hp} (k : Kn N H G) : ∀ {x : Dt} {v : V}, Dd N H x v → Dd N G x v
  | _, _, .non => .non
  | _, _, .bl b => .bl b
  | _, _, .int i => .int i
  | _, _, .str x => .str x
  | _, _, .tup h t => .tup (k.tup _ _ h) (t.kn k)
  | _, _, .lst n h t => .lst n (k.lst _ _ n h) (t.kn k)
  | _, _, .emp n h => .emp n (k.dic _ _ n h)
theorem DdL.kn {N : Addr → Prop} {H G : Hp} (k : Kn N H G) : ∀ {xs : List Dt} {vs : List V}, DdL N H xs vs → DdL N G xs vs
  | _, _, .nil => .nil
  | _, _, .cons h t => .cons (h.kn k) (t.kn k)
end
mutual
/-- at fewer, or other places, where the heap has nothing elsewhere -/
theorem Dd.at {N M : Addr → Prop} {H : Hp} (k : ∀ b u, N b → H b = some u → M b) : ∀ {x : Dt} {v : V}, Dd N H x v → Dd M H x v
  | _, _, .non => .non
  | _, _, .bl b => .bl b
  | _, _, .int i => .int i
  | _, _, .str x => .str x
  | _, _, .tup h t => .tup h (t.at k)
  | _, _, .lst n h t => .lst (k _ _ n h) h (t.at k)
  | _, _, .emp n h => .emp (k _ _ n h) h
theorem DdL.at {N M : Addr → Prop} {H : Hp} (k : ∀ b u, N b → H b = some u → M b) : ∀ {xs : List Dt} {vs : List V}, DdL N H xs vs → DdL M H xs vs
  | _, _, .nil => .nil
  | _, _, .cons h t => .cons (h.at k) (t.at k)
end
/-- at any places -/
abbrev Any : Addr → Prop := fun _ => True
theorem Dd.any {N : Addr → Prop} {H : Hp} {x : Dt} {v : V} (h : Dd N H x v) : Dd Any H x v := h.at fun _ _ _ _ => trivial
theorem DdL.any {N : Addr → Prop} {H : Hp} {x : List Dt} {v : List V} (h : DdL N H x v) : DdL Any H x v := h.at fun _ _ _ _ => trivial
theorem Dd.same {N : Addr → Prop} {H G : Hp} {x : Dt} {v : V} (h : Dd N H x v) (s : Same H G) : Dd N G x v := h.kn (.of s)
theorem DdL.same {N : Addr → Prop} {H G : Hp} {x : List Dt} {v : List V} (h : DdL N H x v) (s : Same H G) : DdL N G x v := h.kn (.of s)
section
variable {N : Addr → Prop} {H : Hp}
theorem DdL.len : ∀ {xs : List Dt} {vs : List V}, DdL N H xs vs → xs.length = vs.length
  | _, _, .nil => rfl
  | _, _, .cons _ t => congrArg (· + 1) t.len
theorem DdL.app : ∀ {xs ys : List Dt} {vs ws : List V}, DdL N H xs vs → DdL N H ys ws → DdL N H (xs ++ ys) (vs ++ ws)
  | _, _, _, _, .nil, h => h
  | _, _, _, _, .cons h t, k => .cons h (t.app k)
theorem DdL.get : ∀ {xs : List Dt} {vs : List V} {i : Nat} {v : V}, DdL N H xs vs → vs[i]? = some v → ∃ x, xs[i]? = some x ∧ Dd N H x v
  | _, _, i, v, .nil, e => by simp at e
  | _, _, 0, v, .cons (x := x) (v := w) h t, e => ⟨x, rfl, by rw [← show w = v from Option.some.inj e]; exact h⟩
  | _, _, i + 1, v, .cons h t, e => DdL.get (i := i) t e
theorem DdL.get' : ∀ {xs : List Dt} {vs : List V} {i : Nat} {x : Dt}, DdL N H xs vs → xs[i]? = some x → ∃ v, vs[i]? = some v ∧ Dd N H x v
  | _, _, i, v, .nil, e => by simp at e
  | _, _, 0, v, .cons (x := w) (v := y) h t, e => ⟨y, rfl, by rw [← show w = v from Option.some.inj e]; exact h⟩
  | _, _, i + 1, v, .cons h t, e => DdL.get' (i := i) t e
theorem DdL.drop : ∀ {xs : List Dt} {vs : List V} (n : Nat), DdL N H xs vs → DdL N H (xs.drop n) (vs.drop n)
  | _, _, 0, h => h
  | _, _, n + 1, .nil => .nil
  | _, _, n + 1, .cons _ t => t.drop n
theorem DdL.take : ∀ {xs : List Dt} {vs : List V} (n : Nat), DdL N H xs vs → DdL N H (xs.take n) (vs.take n)
  | _, _, 0, h => .nil
  | _, _, n + 1, .nil => .nil
  | _, _, n + 1, .cons h t => .cons h (t.take n)
theorem DdL.rev : ∀ {xs : List Dt} {vs : List V}, DdL N H xs vs → DdL N H xs.reverse vs.reverse
  | _, _, .nil => .nil
  | _, _, .cons (x := x) (xs := xs) (v := v) (vs := vs) h t => by
    rw [List.reverse_cons, List.reverse_cons]
    exact t.rev.app (.cons h .nil)
theorem DdL.last : ∀ {xs : List Dt} {vs : List V}, DdL N H xs vs → vs ≠ [] → ∃ ys y ws w, xs = ys ++ [y] ∧ vs = ws ++ [w] ∧ DdL N H ys ws ∧ Dd N H y w
  | _, _, .nil, n => absurd rfl n
  | _, _, .cons (x := x) (v := v) h .nil, _ => ⟨[], x, [], v, rfl, rfl, .nil, h⟩
  | _, _, .cons (x := x) (v := v) h (.cons h' t'), _ => by
    obtain ⟨ys, y, ws, w, e1, e2, k, r⟩ := DdL.last (.cons h' t') (by simp)
    exact ⟨x :: ys, y, v :: ws, w, by rw [e1]; rfl, by rw [e2]; rfl, .cons h k, r⟩
theorem DdL.strs : ∀ (xs : List Str), DdL N H (xs.map Dt.str) (xs.map V.str)
  | [] => .nil
  | x :: xs => .cons (.str x) (DdL.strs xs)
theorem DdL.ints : ∀ (xs : List Int), DdL N H (xs.map Dt.int) (xs.map V.int)
  | [] => .nil
  | x :: xs => .cons (.int x) (DdL.ints xs)
end
/-! their classes -/
def Dt.cls : Dt → String
  | .non => "NoneType"
  | .bl _ => "bool"
  | .int _ => "int"
  | .str _ => "str"
  | .tup _ => "tuple"
  | .lst _ => "list"
  | .emp => "dict"
theorem Dd.ty {K : PySem.W.Frag} {N : Addr → Prop} {H : Hp} {x : Dt} {v : V} (h : Dd N H x v) : TyX K H v (.type x.cls) := by
  cases h with
  | non => exact .base .non
  | bl b => exact .base (.bl b)
  | int i => exact .base (.int i)
  | str x => exact .base (.str x)
  | tup h _ => exact .base (.tup h)
  | lst _ h _ => exact .base (.lst h)
  | emp _ h => exact .base (.dK h)
def Dt.isTup : Dt → Bool
  | .tup _ => true
  | _ => false
def Dt.isStr : Dt → Bool
  | .str _ => true
  | _ => false
def Dt.isBl : Dt → Bool
  | .bl _ => true
  | _ => false
def Dt.isInt : Dt → Bool
  | .bl _ => true
  | .int _ => true
  | _ => false
def Dt.isLst : Dt → Bool
  | .lst _ => true
  | _ => false
/-- isinstance of such a thing: the answers -/
theorem kTup (K : PySem.W.Frag) : ∀ x : Dt, PySem.W.kitOne K (.type x.cls) (.type "tuple") = some x.isTup := by
  intro x
  cases x <;> (refine kit_ty ?_; simp only [Dt.cls, Dt.isTup]; decide +kernel)
theorem kStr (K : PySem.W.Frag) : ∀ x : Dt, PySem.W.kitOne K (.type x.cls) (.type "str") = some x.isStr := by
  intro x
  cases x <;> (refine kit_ty ?_; simp only [Dt.cls, Dt.isStr]; decide +kernel)
theorem kBl (K : PySem.W.Frag) : ∀ x : Dt, PySem.W.kitOne K (.type x.cls) (.type "bool") = some x.isBl := by
  intro x
  cases x <;> (refine kit_ty ?_; simp only [Dt.cls, Dt.isBl]; decide +kernel)
theorem kInt (K : PySem.W.Frag) : ∀ x : Dt, PySem.W.kitOne K (.type x.cls) (.type "int") = some x.isInt := by
  intro x
  cases x <;> (refine kit_ty ?_; simp only [Dt.cls, Dt.isInt]; decide +kernel)
theorem kLst (K : PySem.W.Frag) : ∀ x : Dt, PySem.W.kitOne K (.type x.cls) (.type "list") = some x.isLst := by
  intro x
  cases x <;> (refine kit_ty ?_; simp only [Dt.cls, Dt.isLst]; decide +kernel)
/-! as data, shown -/
mutual
def Dt.toP : Dt → PyData
  | .non => .none
  | .bl b => .bool b
  | .int i => .int i
  | .str x => .str x
  | .tup xs => .tuple (Dt.toPs xs)
  | .lst xs => .list (Dt.toPs xs)
  | .emp => .dict []
def Dt.toPs : List Dt → List PyData
  | [] => []
  | x :: xs => x.toP :: Dt.toPs xs
end
section
variable {X : Cx} {pins : List (Addr × Obj)} {σ : L2.St} {H : Hp} {s : Shared} {N : Addr → Prop}
/-- the empty dict, as an object -/
theorem emp_obj (I : Inv X pins σ H s) {a : Addr} (h : H a = some (.dK [])) : ∃ o n, s.heap.get? a = some o ∧ o.cls = .type "dict" ∧ o.data = .dict #[] n ∧ (a == sysModules) = false := by
  obtain ⟨_, low, vs, kv, o, es, ep, ho, hx, hd, _, pr, _⟩ := dk_of I.hok h
  cases kv
  have ee : es = #[] := by
    obtain ⟨l⟩ := es
    cases l with
    | nil => rfl
    | cons e r => cases pr
  subst ee
  exact ⟨o, ep, ho, hx.1, hd, low⟩
mutual
theorem Dd.reads (I : Inv X pins σ H s) : ∀ {x : Dt} {v : V}, Dd N H x v → ∀ {u : Value}, RelV v u → ∃ as, Reads s.heap u x.toP as
  | _, _, .non, _, r => by
    cases r
    exact ⟨_, .none⟩
  | _, _, .bl b, _, r => by
    cases r
    exact ⟨_, .bool b⟩
  | _, _, .int i, _, r => by
    obtain ⟨t, rfl⟩ := r
    exact ⟨_, .int i t⟩
  | _, _, .str x, _, r => by
    obtain ⟨t, rfl⟩ := r
    exact ⟨_, .str x t⟩
  | _, _, .tup h t, _, r => by
    cases r
    obtain ⟨its, rv, ⟨o, ho, hc, n, hd⟩, _⟩ := I.tuple (SqT.of h)
    obtain ⟨as, ra⟩ := t.reads I rv
    exact ⟨_, .tuple ho hc hd ra⟩
  | _, _, .lst _ h t, _, r => by
    cases r
    obtain ⟨its, rv, ⟨o, n, ho, hc, _, hd⟩, _⟩ := I.list (SqL.of h)
    obtain ⟨as, ra⟩ := t.reads I rv
    exact ⟨_, .list ho hc hd ra⟩
  | _, _, .emp _ h, _, r => by
    cases r
    obtain ⟨o, n, ho, hc, hd, _⟩ := emp_obj I h
    exact ⟨_, .dict (kvs := []) ho hc hd .nil .nil⟩
theorem DdL.reads (I : Inv X pins σ H s) : ∀ {xs : List Dt} {vs : List V}, DdL N H xs vs → ∀ {us : List Value}, Vals vs us → ∃ as, ReadsAll s.heap us (Dt.toPs xs) as
  | _, _, .nil, _, r => by
    cases r
    exact ⟨_, .nil⟩
  | _, _, .cons h t, _, r => by
    cases r with
    | cons r1 r2 =>
      obtain ⟨as, ra⟩ := h.reads I r1
      obtain ⟨bs, rb⟩ := t.reads I r2
      exact ⟨_, .cons ra rb⟩
end
theorem shownAll_le {xs : List PyData} {n : Nat} (h : ∀ t ∈ PyData.shownAll xs, t.length ≤ n) : ∀ t ∈ PyData.shownAll xs, t.length ≤ n := h
mutual
theorem Dd.reprK (I : Inv X pins σ H s) : ∀ {x : Dt} {v : V}, Dd N H x v → ∀ {u : Value}, RelV v u → x.toP.showable = true → x.toP.shown.length ≤ sizeLine → ∃ bs, ReadAtMost s.heap x.toP.depth bs ∧ ReprK X.prog X.w bs s.heap x.toP.depth u x.toP.shown
  | _, _, .non, _, r, _, _ => by
    cases r
    exact ⟨[], (fun _ h => nomatch h), by simp only [Dt.toP, PyData.shown]; exact .of_is ReprIs.none _ _ _⟩
  | _, _, .bl b, _, r, _, _ => by
    cases r
    exact ⟨[], (fun _ h => nomatch h), by simp only [Dt.toP, PyData.shown]; exact .of_is (ReprIs.bool b) _ _ _⟩
  | _, _, .int i, _, r, hs, _ => by
    obtain ⟨t, rfl⟩ := r
    exact ⟨[], (fun _ h => nomatch h), by simp only [Dt.toP, PyData.shown]; exact .of_is (ReprIs.int t (by simpa [Dt.toP, PyData.showable] using hs)) _ _ _⟩
  | _, _, .str x, _, r, _, hz => by
    obtain ⟨t, rfl⟩ := r
    exact ⟨[], (fun _ h => nomatch h), by simp only [Dt.toP, PyData.shown]; exact .of_is (ReprIs.str x t (by simpa only [Dt.toP, PyData.shown] using hz)) _ _ _⟩
  | _, _, .tup (a := a) (xs := xs) h t, _, r, hs, hz => by
    cases r
    obtain ⟨its, rv, ⟨o, ho, hc, n, hd⟩, _⟩ := I.tuple (SqT.of h)
    have hz' : (tupleText (PyData.shownAll (Dt.toPs xs))).length ≤ sizeLine := by simpa only [Dt.toP, PyData.shown] using hz
    obtain ⟨as, ra⟩ := t.reads I rv
    obtain ⟨bs, hb, hk⟩ := t.reprK I rv (by simpa [Dt.toP, PyData.showable] using hs) (fun t ht => Nat.le_trans (tupleText_mem_le ht) hz')
    have rd : Reads s.heap (.ref a) (.tuple (Dt.toPs xs)) _ := .tuple ho hc hd ra
    have na : a ∉ bs := not_mem_of_deeper rd (by simp only [PyData.depth]; omega) hb
    have le : PyData.depthAll (Dt.toPs xs) ≤ (PyData.tuple (Dt.toPs xs)).depth := by simp only [PyData.depth]; omega
    exact ⟨a :: bs, ReadAtMost.cons rd le hb, by simp only [Dt.toP, PyData.depth, PyData.shown]; exact ReprK.tuple ho hc hd na hk⟩
  | _, _, .lst (a := a) (xs := xs) (vs := vs) _ h t, _, r, hs, hz => by
    cases r
    obtain ⟨its, rv, ⟨o, n, ho, hc, _, hd⟩, _⟩ := I.list (SqL.of h)
    have hz' : (listText (PyData.shownAll (Dt.toPs xs))).length ≤ sizeLine := by simpa only [Dt.toP, PyData.shown] using hz
    obtain ⟨as, ra⟩ := t.reads I rv
    obtain ⟨bs, hb, hk⟩ := t.reprK I rv (by simpa [Dt.toP, PyData.showable] using hs) (fun t ht => Nat.le_trans (listText_mem_le ht) hz')
    have rd : Reads s.heap (.ref a) (.list (Dt.toPs xs)) _ := .list ho hc hd ra
    have na : a ∉ bs := not_mem_of_deeper rd (by simp only [PyData.depth]; omega) hb
    have le : PyData.depthAll (Dt.toPs xs) ≤ (PyData.list (Dt.toPs xs)).depth := by simp only [PyData.depth]; omega
    refine ⟨a :: bs, ReadAtMost.cons rd le hb, ?_⟩
    simp only [Dt.toP, PyData.depth, PyData.shown]
    cases its with
    | nil =>
      cases rv
      cases t
      simp only [Dt.toPs, PyData.shownAll, listText_nil]
      exact ReprK.listEmpty ho hc hd
    | cons y l => exact ReprK.list ho hc hd na (by simpa using hk.length_eq) (fun i y e => hk.item i y (by simpa using e))
  | _, _, .emp (a := a) _ h, _, r, _, hz => by
    cases r
    obtain ⟨o, n, ho, hc, hd, low⟩ := emp_obj I h
    have rd : Reads s.heap (.ref a) (.dict []) _ := .dict (kvs := []) ho hc hd .nil .nil
    refine ⟨a :: [], ReadAtMost.cons (n := 0) rd (Nat.zero_le _) (fun _ h => nomatch h), ?_⟩
    simp only [Dt.toP, PyData.depth, PyData.shown, PyData.shownKv_eq]
    exact ReprK.dict ho hc hd low (by simp) .nil
theorem DdL.reprK (I : Inv X pins σ H s) : ∀ {xs : List Dt} {vs : List V}, DdL N H xs vs → ∀ {us : List Value}, Vals vs us → PyData.showableAll (Dt.toPs xs) = true → (∀ t ∈ PyData.shownAll (Dt.toPs xs), t.length ≤ sizeLine) →
    ∃ bs, ReadAtMost s.heap (PyData.depthAll (Dt.toPs xs)) bs ∧ ReprAllK X.prog X.w bs s.heap (PyData.depthAll (Dt.toPs xs)) us (PyData.shownAll (Dt.toPs xs))
  | _, _, .nil, _, r, _, _ => by
    cases r
    exact ⟨[], (fun _ h => nomatch h), .nil⟩
  | _, _, .cons (x := x) (xs := xs) h t, _, r, hs, hz => by
    cases r with
    | cons r1 r2 =>
      have hs' : x.toP.showable = true ∧ PyData.showableAll (Dt.toPs xs) = true := by simpa [Dt.toPs, PyData.showableAll] using hs
      obtain ⟨as, ha, ka⟩ := h.reprK I r1 hs'.1 (hz _ (by simp [Dt.toPs, PyData.shownAll]))
      obtain ⟨bs, hb, kb⟩ := t.reprK I r2 hs'.2 (fun t ht => hz _ (by simp [Dt.toPs, PyData.shownAll, ht]))
      have m1 : x.toP.depth ≤ PyData.depthAll (Dt.toPs (x :: xs)) := by simp only [Dt.toPs, PyData.depthAll]; omega
      have m2 : PyData.depthAll (Dt.toPs xs) ≤ PyData.depthAll (Dt.toPs (x :: xs)) := by simp only [Dt.toPs, PyData.depthAll]; omega
      refine ⟨as ++ bs, (ha.mono m1).append (hb.mono m2), ?_⟩
      simp only [Dt.toPs, PyData.shownAll]
      exact .cons ((ka.more fun b hb => List.mem_append_left _ hb).level_le m1) (kb.more_le (fun b hb => List.mem_append_right _ hb) m2)
end
/-- it is shown: within the bounds -/
structure Shw (n : Nat) (x : Dt) : Prop where
  ok : x.toP.showable = true
  dp : x.toP.depth ≤ n
  sz : x.toP.shown.length ≤ sizeLine
def rShowU (n : Nat) : List V → Hp → VK → Prop := fun xs H Q => ∃ (v : V) (x : Dt), xs = [v] ∧ Dd Any H x v ∧ Shw n x ∧ Q (.str x.toP.shown) H
theorem call_showU {n : Nat} (g : Still X.A) (hu : X.A.units + (n + 1) < cLine) : CallR X (.builtin "repr") (rShowU n) := by
  intro pins s σ H xs us Q I r h
  obtain ⟨v, x, rfl, hd, sh, q⟩ := h
  cases r with
  | cons r1 r2 =>
    cases r2
    have done : ∀ (h' : Heap) (u tk : Tok), (∀ b o, s.heap.get? b = some o → h'.get? b = some o) → EP X pins σ Q (.str x.toP.shown u) { s with heap := h', toks := tk } := fun h' u tk hk => ⟨.str _, H, I.kept hk, ⟨u, rfl⟩, q⟩
    have dpx := sh.dp
    cases hd with
    | non =>
      cases r1
      exact PySem.P.repr_of_none (done s.heap _ _ fun _ _ e => e)
    | bl b =>
      cases r1
      exact PySem.P.repr_of_bool (by simpa only [Dt.toP, PyData.shown] using done s.heap _ _ fun _ _ e => e)
    | int i =>
      obtain ⟨t, rfl⟩ := r1
      exact PySem.P.repr_of_int (by simpa [Dt.toP, PyData.showable] using sh.ok) (by simpa only [Dt.toP, PyData.shown] using done s.heap _ _ fun _ _ e => e)
    | str y =>
      obtain ⟨t, rfl⟩ := r1
      exact PySem.P.repr_of_str (by simpa only [Dt.toP, PyData.shown] using done s.heap _ _ fun _ _ e => e) (by simpa only [Dt.toP, PyData.shown] using sh.sz)
    | tup h t =>
      rename_i a ys ws
      cases r1
      obtain ⟨its, rv, ⟨o, ho, hc, m, hd⟩, _⟩ := I.tuple (SqT.of h)
      have hz' : (tupleText (PyData.shownAll (Dt.toPs ys))).length ≤ sizeLine := by simpa only [Dt.toP, PyData.shown] using sh.sz
      obtain ⟨as, ra⟩ := t.reads I rv
      obtain ⟨bs, hb, hk⟩ := t.reprK I rv (by simpa [Dt.toP, PyData.showable] using sh.ok) (fun t ht => Nat.le_trans (tupleText_mem_le ht) hz')
      have rd : Reads s.heap (.ref a) (.tuple (Dt.toPs ys)) _ := .tuple ho hc hd ra
      have na : a ∉ bs := not_mem_of_deeper rd (by simp only [PyData.depth]; omega) hb
      have dp : PyData.depthAll (Dt.toPs ys) + 1 ≤ n := by simpa only [Dt.toP, PyData.depth, Nat.add_comm] using dpx
      exact call_repr_slot (by omega) ⟨o, ho, hc⟩ PySem.F.slot_tuple_repr (call_tuple_reprK ho hc hd na hk (A := X.A.in1) g (fun b _ => Clear.nil b) (by show X.A.units + 1 + _ < cLine; omega) (fun _ _ e => e) (fun h' u tk hk' => ⟨_, _, rfl, by simpa only [Dt.toP, PyData.shown] using done h' u tk hk'⟩) hz')
    | lst _ h t =>
      rename_i a ys ws _
      cases r1
      obtain ⟨its, rv, ⟨o, m, ho, hc, _, hd⟩, _⟩ := I.list (SqL.of h)
      have hz' : (listText (PyData.shownAll (Dt.toPs ys))).length ≤ sizeLine := by simpa only [Dt.toP, PyData.shown] using sh.sz
      obtain ⟨as, ra⟩ := t.reads I rv
      obtain ⟨bs, hb, hk⟩ := t.reprK I rv (by simpa [Dt.toP, PyData.showable] using sh.ok) (fun t ht => Nat.le_trans (listText_mem_le ht) hz')
      have rd : Reads s.heap (.ref a) (.list (Dt.toPs ys)) _ := .list ho hc hd ra
      have na : a ∉ bs := not_mem_of_deeper rd (by simp only [PyData.depth]; omega) hb
      have dp : PyData.depthAll (Dt.toPs ys) + 1 ≤ n := by simpa only [Dt.toP, PyData.depth, Nat.add_comm] using dpx
      cases its with
      | nil =>
        cases rv
        cases t
        exact call_repr_slot (by omega) ⟨o, ho, hc⟩ PySem.F.slot_list_repr.toG (call_list_repr_empty ⟨o, ho, hc⟩ ho hd ⟨_, _, rfl, by
          have z := done s.heap s.toks (s.toks + 1) fun _ _ e => e
          simp only [Dt.toP, Dt.toPs, PyData.shown, PyData.shownAll, listText_nil] at z
          exact z⟩)
      | cons y l =>
        exact call_repr_slot (by omega) ⟨o, ho, hc⟩ PySem.F.slot_list_repr.toG (call_list_reprK ho hc hd na (by simpa using hk.length_eq) (fun i y e => hk.item i y (by simpa using e)) (A := X.A.in1) g (fun b _ => Clear.nil b) (by show X.A.units + 1 + _ < cLine; omega) (fun _ _ e => e) (fun h' u tk hk' => ⟨_, _, rfl, by simpa only [Dt.toP, PyData.shown] using done h' u tk hk'⟩) hz')
    | emp _ h =>
      rename_i a _
      cases r1
      obtain ⟨o, m, ho, hc, hd, low⟩ := emp_obj I h
      have dp : 1 ≤ n := by simpa only [Dt.toP, PyData.depth, PyData.depthKv] using dpx
      exact call_repr_slot (by omega) ⟨o, ho, hc⟩ PySem.F.slot_dict_repr (call_dict_reprK (as := []) (d := 0) (ps := []) ho hc hd low (by simp) .nil (A := X.A.in1) g (fun b _ => Clear.nil b) (by show X.A.units + 1 + _ < cLine; omega) (fun _ _ e => e) (fun h' u tk hk' => ⟨_, _, rfl, by simpa only [Dt.toP, PyData.shown, PyData.shownKv] using done h' u tk hk'⟩) (by decide))
end
end Kv

/-! d.update(e), two dicts of numbers and texts -/
namespace Kc
open PySem PySem.Spec PyProof.Rows L2
theorem mergeK_le : ∀ (more kvs : List (Key × V)), (mergeK kvs more).length ≤ kvs.length + more.length
  | [], kvs => Nat.le_refl _
  | kv :: r, kvs => by
    show (mergeK (putK kvs kv.1 kv.2) r).length ≤ _
    have h1 := mergeK_le r (putK kvs kv.1 kv.2)
    have h2 := length_putK kvs kv.1 kv.2
    rw [List.length_cons]
    omega
section
variable {X : Cx}
def rUpd : V → List V → Hp → VK → Prop := fun x vs H Q => ∃ d o kvs more, x = .ref d ∧ vs = [.ref o] ∧ d ≠ o ∧ H d = some (.dK kvs) ∧ H o = some (.dK more) ∧ kvs.length + more.length ≤ sizeLine ∧ Q .non (upd H d (.dK (mergeK kvs more)))
theorem mt_update : MtR X "dict.update" rUpd := by
  intro pins s σ H x xs v us Q I rx rxs h
  obtain ⟨d, o, kvs, more, rfl, rfl, hne, hd, ho, hz, q⟩ := h
  cases rx
  obtain ⟨u, rfl, ru⟩ := rxs.one
  cases ru
  obtain ⟨z1, n1, vs1, r1, dd1⟩ := dk_of I.hok hd
  obtain ⟨z2, n2, vs2, r2, dd2⟩ := dk_of I.hok ho
  refine call_meetsIn PySem.F.slot_dict_update dd1.typeIs PySem.F.entry_dict_update (PySem.F.args_dict_update_2 _ _) (meets_dict_update (mixKind X.prog X.w) d o hne n2)
    ⟨vs1, vs2, dd1, dd2, by rw [← Paired.length r1, ← Paired.length r2]; exact hz, fun h' hm _ hs => ?_⟩
  have hm' := hm
  obtain ⟨ob, es, ep, hq, _⟩ := hm'
  have I2 : Inv X pins σ (upd H d (.dK (mergeK kvs more))) { s with heap := h' } :=
    d_write (t' := s.toks) I (by rw [hd]; exact True.intro) hs ⟨ob, hq⟩ ⟨Nat.le_trans (mergeK_le _ _) hz, n1, _, KV.merge r2 r1, hm⟩
  exact ⟨.non, _, I2, rfl, q⟩
end
end Kc

/-! {**d, k: v, ..} of a dict of numbers and texts -/
namespace Ku
open PySem PySem.Spec PyProof.Rows L2
section
variable {prog : Program} {w : World} {K : Type} [DecidableEq K] {knd : KeyKind prog w K} {A : Around} {E : Value → Shared → Prop} {s : Shared}
theorem put_pairs {d : Addr} {kvs : List (K × Value)} {k : K} {key v : Value} {Q : Unit → Shared → Prop} (ik : knd.is k key = true) (dd : s.heap.DictOf knd d kvs) (few : kvs.length ≤ sizeLine)
    (hQ : ∀ h', h'.DictOf knd d (stored kvs k v) → Heap.SameBut d s.heap h' → Q () { s with heap := h' }) : wpAny (model prog w) A (dictPut d (knd.hash k) key v) Q E s := by
  obtain ⟨ob, es, n, hob, hcl, hda, hks, hps, hnd⟩ := dd
  have hz : es.size ≤ sizeLine := by
    have z := hps.length
    simp only [Array.length_toList] at z
    omega
  unfold dictPut
  refine wpAny_bind (wpAny_dictFind_of ik hob hda hks ?_)
  have hix : (es.findIdx? fun e => knd.is k e.key) = kvs.findIdx? fun p => decide (p.1 = k) := by
    have z := hps.findIdx k
    obtain ⟨l⟩ := es
    simpa using z
  cases hf : es.findIdx? fun e => knd.is k e.key with
  | some i =>
    have hany := any_of_findIdx_some (hix ▸ hf)
    refine wpAny_updateDict hob hda (hQ _ ⟨_, _, n, Heap.get?_update_self _ hob (Obj.isFreed_of_dict (Obj.data_mapDict hda _)), hcl.mapDict _, Obj.data_mapDict hda _, hks.modify _ _, ?_, ?_⟩ (Heap.SameBut.update ..))
    · rw [stored, if_pos hany]
      have hl : (es.toList.findIdx? fun e => knd.is k e.key) = some i := by
        obtain ⟨l⟩ := es
        simpa using hf
      have z := hps.modify hnd hl v
      obtain ⟨l⟩ := es
      simpa using z
    · rw [stored, if_pos hany, keys_map_store]
      exact hnd
  | none =>
    have out : k ∉ kvs.map (·.1) := not_mem_of_findIdx_none (hix ▸ hf)
    have hany : ¬ (kvs.any fun p => decide (p.1 = k)) = true := fun z => by
      obtain ⟨p, hp, e⟩ := List.any_eq_true.mp z
      exact out (List.mem_map.mpr ⟨p, hp, of_decide_eq_true e⟩)
    refine wpAny_updateDictKeys (hz := hz) hob hda (hQ _ ⟨_, _, n + 1, Heap.get?_update_self _ hob (Obj.isFreed_of_dict (Obj.data_mapDictKeys hda _)), hcl.mapDictKeys _, Obj.data_mapDictKeys hda _, hks.push ik _, ?_, ?_⟩ (Heap.SameBut.update ..))
    · rw [stored, if_neg hany]
      have z := hps.append ik (knd.hash k) v
      obtain ⟨l⟩ := es
      simpa using z
    · rw [stored, if_neg hany, List.map_append]
      refine List.nodup_append.mpr ⟨hnd, by simp, fun x hx y hy e => ?_⟩
      have hy : y = k := by simpa using hy
      rw [e, hy] at hx
      exact out hx
theorem merge_map {d o : Addr} {kvs more : List (K × Value)} {Q : Unit → Shared → Prop} (hdo : d ≠ o) (hoS : (o == sysModules) = false) (noref : ∀ (k : K) (a : Addr), knd.is k (.ref a) = false)
    (hd : s.heap.DictOf knd d kvs) (ho : s.heap.DictOf knd o more) (few : kvs.length + more.length ≤ sizeLine)
    (hQ : ∀ h', h'.DictOf knd d (merged kvs more) → h'.DictOf knd o more → Heap.SameBut d s.heap h' → Q () { s with heap := h' }) :
    wpAny (model prog w) A (mergeMapping d (.ref o) false) Q E s := by
  obtain ⟨od, esd, epd, hod, hcd, hdd, hkd, hpd, hnd⟩ := id hd
  obtain ⟨oo, eso, epo, hoo, hco, hdo', hko, hpo, hno⟩ := id ho
  have hlen : more.length = eso.size := by
    rw [← hpo.length]
    simp
  unfold mergeMapping
  refine wpAny_bind (wpAny_isInstance ho.typeIs isSubtype_dict_dict ?_)
  rw [if_pos rfl]
  refine wpAny_bind (wpAny_specialOf ho.typeIs F.slot_dict_iter.lookup (wpAny_bind (wpAny_pure ?_)))
  simp only [beq_self_eq_true, hoS, Bool.false_eq_true, if_false]
  have loop : wpAny (model prog w) A (do
      let l ← dictEntries o
      let epoch ← dictEpoch o
      forIn (List.range l.size) PUnit.unit fun i (_ : PUnit) => do
        let l ← dictEntries o
        match l[i]? with
          | some e => do
            holding [e.key, e.val] (dictPut d e.hash e.key e.val)
            let ep ← dictEpoch o
            if (ep != epoch) = true then do
              unsupported "dict.changed-during-merge"
              pure (ForInStep.yield PUnit.unit)
            else pure (ForInStep.yield PUnit.unit)
          | x => do
            unsupported "dict.changed-during-merge"
            pure (ForInStep.yield PUnit.unit)
      pure () : Sem Unit) Q E s := by
    refine wpAny_bind (wpAny_dictEntries hoo hdo' (wpAny_bind (wpAny_dictEpoch hoo hdo' (wpAny_bind ?_))))
    refine wpAny_forIn_list _ (fun rest _ s' => ∃ h' i, s' = { s with heap := h' } ∧ rest = (List.range eso.size).drop i ∧ i ≤ eso.size ∧ h'.DictOf knd d (merged kvs (more.take i)) ∧ h'.get? o = some oo ∧ Heap.SameBut d s.heap h') _ ?_ ?_ _ _ ⟨s.heap, 0, rfl, rfl, Nat.zero_le _, by simpa [merged] using hd, hoo, Heap.SameBut.refl _ _⟩
    · rintro x rest b s' ⟨h', i, rfl, hr, hi, hd', hoo', hs'⟩
      have hlt : i < eso.size := by
        rcases Nat.lt_or_ge i eso.size with h | h
        · exact h
        · rw [List.drop_eq_nil_of_le (by rw [List.length_range]; exact h)] at hr
          cases hr
      have hr2 := hr
      rw [List.drop_eq_getElem_cons (by rw [List.length_range]; exact hlt), List.getElem_range] at hr2
      injection hr2 with e1 e2
      subst e1
      obtain ⟨kv, hkv⟩ : ∃ kv, more[x]? = some kv := ⟨_, List.getElem?_eq_getElem (by rw [hlen]; exact hlt)⟩
      obtain ⟨k, v⟩ := kv
      obtain ⟨ik, ev⟩ := hpo.get? (e := eso[x]) (by simp [hlt]) hkv
      obtain ⟨k', ik', eh⟩ := hko eso[x] (Array.getElem_mem hlt)
      obtain rfl : k' = k := knd.inj _ _ _ ik' ik
      refine wpAny_bind (wpAny_dictEntries hoo' hdo' ?_)
      rw [Array.getElem?_eq_getElem hlt]
      have hmx : (merged kvs (more.take x)).length ≤ sizeLine := by
        have z1 := merged_length_le kvs (more.take x)
        have z2 : (more.take x).length ≤ more.length := by
          rw [List.length_take]
          omega
        omega
      refine wpAny_bind (wpAny_holding ?_)
      rw [eh, ev]
      refine put_pairs ik hd' hmx fun h2 hd2 hs2 => ?_
      have hoo2 : h2.get? o = some oo := (hs2.2 o (Ne.symm hdo)).trans hoo'
      refine wpAny_bind (wpAny_dictEpoch hoo2 hdo' ?_)
      rw [if_neg (by simp)]
      exact wpAny_pure ⟨h2, x + 1, rfl, e2, hlt, by rw [merged_take_succ kvs more x (k', v) hkv]; exact hd2, hoo2, hs'.trans hs2⟩
    · rintro b s' ⟨h', i, rfl, hr, hi, hd', hoo', hs'⟩
      have hin : i = eso.size := by
        rcases Nat.lt_or_ge i eso.size with h | h
        · rw [List.drop_eq_getElem_cons (by rw [List.length_range]; exact h)] at hr
          cases hr
        · omega
      refine wpAny_pure (hQ h' ?_ ⟨oo, eso, epo, hoo', hco, hdo', hko, hpo, hno⟩ hs')
      rw [hin, ← hlen, List.take_length] at hd'
      exact hd'
  refine wpAny_bind (wpAny_dictEntries hod hdd ?_)
  split
  · refine wpAny_bind (wpAny_dictEntries hoo hdo' (wpAny_bind ?_))
    rw [← Array.forIn_toList]
    refine wpAny_forIn_list _ (fun rest _ s' => s' = s ∧ ∀ e ∈ rest, e ∈ eso) _ ?_ ?_ _ _ ⟨rfl, fun e he => Array.mem_toList_iff.mp he⟩
    · rintro e rest b s' ⟨rfl, hm⟩
      obtain ⟨k, ik, _⟩ := hko e (hm e List.mem_cons_self)
      split
      · rename_i a ea
        rw [ea, noref] at ik
        cases ik
      · exact wpAny_pure ⟨rfl, fun e' he' => hm e' (List.mem_cons_of_mem _ he')⟩
    · rintro b s' ⟨rfl, _⟩
      exact loop
  · exact loop
theorem gather {D : Addr} (f : (Option (Sem Value) × Sem Value) → (Option Addr × List (Sem Value × Sem Value)) → Sem (ForInStep (Option Addr × List (Sem Value × Sem Value))))
    (hf : ∀ (p : Sem Value × Sem Value) (run : List (Sem Value × Sem Value)), run.length + 1 < 17 → f (some p.1, p.2) (some D, run) = pure (.yield (some D, run ++ [p]))) :
    ∀ (items run : List (Sem Value × Sem Value)), run.length + items.length < 17 → forIn (items.map fun p => (some p.1, p.2)) (some D, run) f = pure (some D, run ++ items)
  | [], run, _ => by simp
  | p :: r, run, h => by
    rw [List.length_cons] at h
    rw [List.map_cons, List.forIn_cons, hf p run (by omega), pure_bind]
    have z := gather f hf r (run ++ [p]) (by rw [List.length_append, List.length_singleton]; omega)
    simpa using z
theorem display_splat {t0 : Sem Value} {pairs : List (Sem Value × Sem Value)} {Q : Value → Shared → Prop} (h0 : pairs ≠ []) (hl : pairs.length ≤ 15)
    (h : wpAny (model prog w) A t0 (fun m s1 => wpAny (model prog w) A (mergeMapping s.heap.objs.size m false) (fun _ s2 => wpAny (model prog w) A (subDict pairs) (fun b s3 => wpAny (model prog w) A (mergeMapping s.heap.objs.size (.ref b) false) (fun _ s4 => Q (.ref s.heap.objs.size) s4) (fun _ _ => False) s3) E s2) (fun _ _ => False) s1) E { s with heap := s.heap.push { cls := .type "dict", data := .dict #[] } }) :
    wpAny (model prog w) A (dictDisplay ((none, t0) :: pairs.map fun p => (some p.1, p.2))) Q E s := by
  unfold dictDisplay
  dsimp only
  rw [List.forIn_cons]
  simp only [List.isEmpty_nil, if_true, pure_bind]
  refine wpAny_bind (wpAny_bind (wpAny_bind (wpAny_alloc (wpAny_bind (wpAny_holding (wpAny_mono h (fun m s1 h1 => ?_) fun _ _ e => e))))))
  refine wpAny_bind (wpAny_onRaise (wpAny_tryCatch (wpAny_onRaise (wpAny_holding (wpAny_mono h1 (fun _ s2 h2 => ?_) fun _ _ z => z.elim)))))
  refine wpAny_pure ?_
  dsimp only
  rw [gather _ (fun p run hr => by
    have z : ((run ++ [(p.1, p.2)]).length == 17) = false := by
      rw [List.length_append, List.length_singleton]
      exact beq_false_of_ne (by omega)
    simp only [z, Bool.false_eq_true, if_false]) pairs [] (by rw [List.length_nil]; omega)]
  refine wpAny_pure ?_
  have hne : ([] ++ pairs).isEmpty = false := by
    rw [List.nil_append]
    cases pairs with
    | nil => exact absurd rfl h0
    | cons _ _ => rfl
  simp only [hne, Bool.false_eq_true, if_false]
  refine wpAny_bind (wpAny_bind (wpAny_holding (wpAny_mono h2 (fun b s3 h3 => ?_) fun _ _ e => e)))
  refine wpAny_bind (wpAny_onRaise (wpAny_holding (wpAny_mono h3 (fun _ s4 h4 => ?_) fun _ _ z => z.elim)))
  exact wpAny_pure (wpAny_pure h4)
end
theorem zip_splat (e0 : Expr) (ks : List (Option Expr)) (vs : List Expr) (env : Env) (pos : Pos) (h : ks.all (·.isSome) = true) (hl : ks.length = vs.length) :
    (evalEachOpt (none :: ks) env).zip ((evalEach (e0 :: vs) env).map fun v => do let x ← v; standAt pos; pure x) = (none, do let x ← eval e0 env; standAt pos; pure x) :: (pairTrees ks vs env pos).map fun p => (some p.1, p.2) := by
  rw [← zip_pairTrees ks vs env pos h hl]
  rfl
theorem mix_noref (P : Program) (w : World) (k : Key) (a : Addr) : (mixKind P w).is k (.ref a) = false := by
  cases k <;> rfl
/-- {**d, k: v, ..} -/
def tSplat (te : TE) (trs : List (TE × TE)) : TE := fun σ H Q => ∀ p, H p = none → te σ (upd H p (.dK [])) fun x H1 => H1 p = some (.dK []) ∧ ∃ (o : Addr) (more : List (Key × V)), x = .ref o ∧ o ≠ p ∧ H1 o = some (.dK more) ∧ more.length ≤ 900 ∧
  ∀ q, (upd H1 p (.dK (mergeK [] more))) q = none → tPairs trs σ (upd (upd H1 p (.dK (mergeK [] more))) q (.dK [])) fun ps H2 => H2 q = some (.dK []) ∧ H2 p = some (.dK (mergeK [] more)) ∧ ∃ kvs : List (Key × V), ps = kvs.map (fun kv => (kV kv.1, kv.2)) ∧ kvs.length ≤ 15 ∧
    Q (.ref p) (upd (upd H2 q (.dK (mergeK [] kvs))) p (.dK (mergeK (mergeK [] more) (mergeK [] kvs))))
theorem pe_dsplat {X : Cx} {pos : Pos} {e0 : Expr} {te : TE} {keys : List (Option Expr)} {values : List Expr} {trs : List (TE × TE)} (he : PE X e0 te) (h : PPs X pos keys values trs) (hall : keys.all (·.isSome) = true) (hl : keys.length = values.length) (h0 : keys ≠ [])
    (h15 : keys.length ≤ 15) : PE X (.Dict (none :: keys) (e0 :: values) pos) (tSplat te trs) := by
  refine ⟨fun pins s σ H Q I q => ?_⟩
  have hn := I.hok.fresh (Nat.le_refl s.heap.objs.size)
  have I1 := I.laid (a := s.heap.objs.size) (o := .dK []) (h' := s.heap.push { cls := .type "dict", data := .dict #[] }) (t' := s.toks) (fun _ _ q => Heap.get?_push_of_some _ q) (Nat.le_refl _) (dk_empty s.heap I.big)
  have hn' := pairTrees_length keys values X.env pos hall hl
  rw [arm_eval_Dict, zip_splat _ _ _ _ _ hall hl]
  refine wpAny_bind (wpAny_standAt (display_splat (fun z => h0 (List.length_eq_zero_iff.mp (by rw [← hn', z]; rfl))) (by rw [hn']; exact h15) ?_))
  refine wpAny_bind (wpAny_mono (he.run pins _ σ _ _ I1 (q _ hn)) (fun m s1 z => wpAny_bind (wpAny_standAt (wpAny_pure ?_))) fun _ _ e => e)
  obtain ⟨x, H1, I2, rx, e1, o, more, ex, hop, e2, hm, q2⟩ := z
  subst ex
  obtain rfl : m = Value.ref o := rx
  obtain ⟨z1, n1, vs1, r1, dd1⟩ := dk_of I2.hok e1
  cases r1
  obtain ⟨z2, n2, vs2, r2, dd2⟩ := dk_of I2.hok e2
  have lr2 := Paired.length r2
  have big : sizeLine = 16777216 := rfl
  refine merge_map hop.symm n2 (mix_noref _ _) dd1 dd2 (by rw [List.length_nil]; omega) fun h1 hd1 ho1 hs1 => ?_
  have hex1 : ∃ b, h1.get? s.heap.objs.size = some b := let ⟨b, _, _, hq, _⟩ := hd1; ⟨b, hq⟩
  have lm : (mergeK [] more).length ≤ 900 := by
    have z := Kc.mergeK_le more []
    rw [List.length_nil] at z
    omega
  have I3 : Inv X pins σ (upd H1 s.heap.objs.size (.dK (mergeK [] more))) { s1 with heap := h1 } :=
    d_write (t' := s1.toks) I2 (by rw [e1]; exact True.intro) hs1 hex1 ⟨by omega, n1, _, KV.merge r2 .nil, hd1⟩
  have hnq := I3.hok.fresh (Nat.le_refl h1.objs.size)
  have pq : s.heap.objs.size ≠ h1.objs.size := ne_of_none upd_same hnq
  have I4 := I3.laid (a := h1.objs.size) (o := .dK []) (h' := h1.push { cls := .type "dict", data := .dict #[] }) (t' := s1.toks) (fun _ _ q => Heap.get?_push_of_some _ q) (Nat.le_refl _) (dk_empty h1 I3.big)
  refine wpAny_subDict (knd := mixKind X.prog X.w) (by rw [hn']; exact h15) (thn (h.run pins _ σ _ _ I4 (q2 _ hnq)) fun ws s2 ⟨ps, H2, I5, rel, e3, e4, kvs, ep, lk, q3⟩ => ?_)
  subst ep
  obtain ⟨rs, c, rk⟩ := carries_of (P := X.prog) (w := X.w) rel
  obtain ⟨z3, n3, vs3, r3, dd3⟩ := dk_of I5.hok e3
  cases r3
  refine ⟨rs, c, dd3, fun h2 hd2 hs2 => ?_⟩
  have lk2 : (mergeK [] kvs).length ≤ 15 := by
    have z := Kc.mergeK_le kvs []
    rw [List.length_nil] at z
    omega
  have hex2 : ∃ b, h2.get? h1.objs.size = some b := let ⟨b, _, _, hq, _⟩ := hd2; ⟨b, hq⟩
  have I6 : Inv X pins σ (upd H2 h1.objs.size (.dK (mergeK [] kvs))) { s2 with heap := h2, toks := s2.toks + ws.length } :=
    d_write (t' := s2.toks + ws.length) I5 (by rw [e3]; exact True.intro) hs2 hex2 ⟨by omega, n3, _, KV.merge rk .nil, hd2⟩
  have e5 : (upd H2 h1.objs.size (.dK (mergeK [] kvs))) s.heap.objs.size = some (.dK (mergeK [] more)) := by
    rw [upd_ne pq]
    exact e4
  obtain ⟨z5, n5, vs5, r5, dd5⟩ := dk_of I6.hok e5
  obtain ⟨z6, n6, vs6, r6, dd6⟩ := dk_of I6.hok (a := h1.objs.size) upd_same
  have lr5 := Paired.length r5
  have lr6 := Paired.length r6
  refine merge_map pq n6 (mix_noref _ _) dd5 dd6 (by omega) fun h3 hd3 ho3 hs3 => ?_
  have hex3 : ∃ b, h3.get? s.heap.objs.size = some b := let ⟨b, _, _, hq, _⟩ := hd3; ⟨b, hq⟩
  have lm2 : (mergeK (mergeK [] more) (mergeK [] kvs)).length ≤ 915 := by
    have z := Kc.mergeK_le (mergeK [] kvs) (mergeK [] more)
    omega
  refine ⟨.ref s.heap.objs.size, upd (upd H2 h1.objs.size (.dK (mergeK [] kvs))) s.heap.objs.size (.dK (mergeK (mergeK [] more) (mergeK [] kvs))), ?_, rfl, q3⟩
  exact d_write (s := { s2 with heap := h2, toks := s2.toks + ws.length }) (t' := s2.toks + ws.length) I6 (by rw [e5]; exact True.intro) hs3 hex3 ⟨by omega, n5, _, KV.merge r6 r5, hd3⟩
end Ku

/-! worths as a run holds them, and what a run tells -/
namespace Kq
open PySem PySem.Spec PyProof.Rows L2 Kf Kv
abbrev Non : Addr → Prop := fun _ => False
inductive Hv where
  | int (i : Int)
  | bl (b : Bool)
  | thing (n : Str) (i : Int)
  | pair (x y : Hv)
  | nil
  | more (a r : Hv)
  | side (b : Bool) (x : Hv)
  | clo (x : Str) (t : Dt) (e : Str → Option Hv)
  | putter
  | putting (i : Hv)
abbrev En := Str → Option Hv
def En.put (e : En) (x : Str) (h : Hv) : En := fun y => if y = x then some h else e y
def En.none : En := fun _ => Option.none
def pts : Hv → Int
  | .pair x y => 1 + pts x + pts y
  | .more a r => pts a + pts r
  | .side _ x => 1 + pts x
  | _ => 1
def ofList : List Hv → Hv
  | [] => .nil
  | a :: r => .more a (ofList r)
def sideW (b : Bool) : Str := if b then "right" else "left"
def tmName (x : Str) : Dt := .tup [.str "name", .str x]
def tmFun (x : Str) (k t : Dt) : Dt := .tup [.str "fun", .str x, k, t]
def tmNum (i : Int) : Dt := .tup [.str "num", .int i]
def tmTruth (b : Bool) : Dt := .tup [.str "truth", .bl b]
def tmTwo (w : Str) (a b : Dt) : Dt := .tup [.str w, a, b]
def tmOne (w : Str) (a : Dt) : Dt := .tup [.str w, a]
def tmIf (a b c : Dt) : Dt := .tup [.str "if", a, b, c]
def tmLeft (a k : Dt) : Dt := .tup [.str "left", a, k]
def tmRight (k a : Dt) : Dt := .tup [.str "right", k, a]
def tmFold (a b : Dt) (x y : Str) (t : Dt) : Dt := .tup [.str "fold", a, b, .str x, .str y, t]
def tmBuilt (k : Dt) (o x y : Str) (t : Dt) : Dt := .tup [.str "built", k, .str o, .str x, .str y, t]
def tmRounds (m : Nat) (a : Dt) (x : Str) (t : Dt) : Dt := .tup [.str "rounds", .int (m : Int), a, .str x, t]
abbrev GR : Int := 1000000000000000000000000000000
def Hv.nc : Hv → Prop
  | .clo _ _ _ => False
  | .putter => False
  | .putting _ => False
  | _ => True
def Hv.fn : Hv → Prop
  | .clo _ _ _ => True
  | .putter => True
  | .putting _ => True
  | _ => False
abbrev w2 (w : Str) : Prop := w = "plus" ∨ w = "less" ∨ w = "pair" ∨ w = "more" ∨ w = "call"
/-- an outcome: a worth, or what ends the run: a fault, or too much -/
inductive Oc where
  | ok (h : Hv)
  | ex (much : Bool)
def num (i : Int) : Oc := if i ≤ GR then .ok (.int i) else .ex true
def made (m : Int) (h : Hv) : Oc := if m ≤ 200 then .ok h else .ex true
def tmCase (a : Dt) (x : Str) (b : Dt) (y : Str) (c : Dt) : Dt := .tup [.str "case", a, .str x, b, .str y, c]
mutual
/-- a term's outcome where names have these: from k steps to so many -/
inductive Ev (NS : List Str) : Nat → En → Dt → Nat → Oc → Nat → Prop
  | num {n : Nat} {e : En} {i : Int} {k : Nat} {oh : Oc} : oh = num i → Ev NS (n + 1) e (tmNum i) k oh k
  | truth {n : Nat} {e : En} {b : Bool} {k : Nat} : Ev NS (n + 1) e (tmTruth b) k (.ok (.bl b)) k
  | none {n : Nat} {e : En} {d : Dt} {k : Nat} : Ev NS (n + 1) e (tmOne "none" d) k (.ok .nil) k
  | bad {n : Nat} {e : En} {d : Dt} {k : Nat} : Ev NS (n + 1) e (tmOne "fault" d) k (.ex false) k
  | name {n : Nat} {e : En} {x : Str} {h : Hv} {k : Nat} : e x = some h → Ev NS (n + 1) e (tmName x) k (.ok h) k
  | fn {n : Nat} {e : En} {x : Str} {d t : Dt} {k : Nat} : x ∈ NS → Ev NS (n + 1) e (tmFun x d t) k (.ok (.clo x t e)) k
  | plus {n : Nat} {e : En} {a b : Dt} {k k1 k2 : Nat} {i j : Int} {oh : Oc} : Ev NS n e a k (.ok (.int i)) k1 → Ev NS n e b k1 (.ok (.int j)) k2 → oh = Kq.num (i + j) → Ev NS (n + 1) e (tmTwo "plus" a b) k oh k2
  | less {n : Nat} {e : En} {a b : Dt} {k k1 k2 : Nat} {i j : Int} : Ev NS n e a k (.ok (.int i)) k1 → Ev NS n e b k1 (.ok (.int j)) k2 → Ev NS (n + 1) e (tmTwo "less" a b) k (.ok (.bl (decide (i < j)))) k2
  | pair {n : Nat} {e : En} {a b : Dt} {k k1 k2 : Nat} {x y : Hv} {oh : Oc} : Ev NS n e a k (.ok x) k1 → Ev NS n e b k1 (.ok y) k2 → x.nc → y.nc → oh = made (1 + pts x + pts y) (.pair x y) → Ev NS (n + 1) e (tmTwo "pair" a b) k oh k2
  | more {n : Nat} {e : En} {a b : Dt} {k k1 k2 : Nat} {x : Hv} {xs : List Hv} {oh : Oc} : Ev NS n e a k (.ok x) k1 → Ev NS n e b k1 (.ok (ofList xs)) k2 → x.nc → k2 + 1 ≤ 1000 → oh = made (pts x + pts (ofList xs)) (ofList (x :: xs)) → Ev NS (n + 1) e (tmTwo "more" a b) k oh (k2 + 1)
  | moreO {n : Nat} {e : En} {a b : Dt} {k k1 k2 : Nat} {x : Hv} {xs : List Hv} : x.nc → Ev NS n e a k (.ok x) k1 → Ev NS n e b k1 (.ok (ofList xs)) k2 → 1000 < k2 + 1 → Ev NS (n + 1) e (tmTwo "more" a b) k (.ex true) (k2 + 1)
  | call {n : Nat} {e : En} {a b : Dt} {k k1 k2 k3 : Nat} {f x : Hv} {oh : Oc} : Ev NS n e a k (.ok f) k1 → Ev NS n e b k1 (.ok x) k2 → Ca NS n f x k2 oh k3 → Ev NS (n + 1) e (tmTwo "call" a b) k oh k3
  | bad1 {n : Nat} {e : En} {w : Str} {a b : Dt} {k k1 : Nat} {z : Bool} : w2 w → Ev NS n e a k (.ex z) k1 → Ev NS (n + 1) e (tmTwo w a b) k (.ex z) k1
  | bad2 {n : Nat} {e : En} {w : Str} {a b : Dt} {k k1 k2 : Nat} {x : Hv} {z : Bool} : w2 w → Ev NS n e a k (.ok x) k1 → Ev NS n e b k1 (.ex z) k2 → Ev NS (n + 1) e (tmTwo w a b) k (.ex z) k2
  | iff {n : Nat} {e : En} {a b c : Dt} {k k1 k2 : Nat} {t : Bool} {oh : Oc} : Ev NS n e a k (.ok (.bl t)) k1 → Ev NS n e (if t then b else c) k1 oh k2 → Ev NS (n + 1) e (tmIf a b c) k oh k2
  | iffB {n : Nat} {e : En} {a b c : Dt} {k k1 : Nat} {z : Bool} : Ev NS n e a k (.ex z) k1 → Ev NS (n + 1) e (tmIf a b c) k (.ex z) k1
  | first {n : Nat} {e : En} {a : Dt} {k k1 : Nat} {x y : Hv} : Ev NS n e a k (.ok (.pair x y)) k1 → Ev NS (n + 1) e (tmOne "first" a) k (.ok x) k1
  | second {n : Nat} {e : En} {a : Dt} {k k1 : Nat} {x y : Hv} : Ev NS n e a k (.ok (.pair x y)) k1 → Ev NS (n + 1) e (tmOne "second" a) k (.ok y) k1
  | oneB {n : Nat} {e : En} {w : Str} {a : Dt} {k k1 : Nat} {z : Bool} : w = "first" ∨ w = "second" → Ev NS n e a k (.ex z) k1 → Ev NS (n + 1) e (tmOne w a) k (.ex z) k1
  | left {n : Nat} {e : En} {a d : Dt} {k k1 : Nat} {x : Hv} {oh : Oc} : Ev NS n e a k (.ok x) k1 → x.nc → oh = made (1 + pts x) (.side false x) → Ev NS (n + 1) e (tmLeft a d) k oh k1
  | leftB {n : Nat} {e : En} {a d : Dt} {k k1 : Nat} {z : Bool} : Ev NS n e a k (.ex z) k1 → Ev NS (n + 1) e (tmLeft a d) k (.ex z) k1
  | right {n : Nat} {e : En} {a d : Dt} {k k1 : Nat} {x : Hv} {oh : Oc} : Ev NS n e a k (.ok x) k1 → x.nc → oh = made (1 + pts x) (.side true x) → Ev NS (n + 1) e (tmRight d a) k oh k1
  | rightB {n : Nat} {e : En} {a d : Dt} {k k1 : Nat} {z : Bool} : Ev NS n e a k (.ex z) k1 → Ev NS (n + 1) e (tmRight d a) k (.ex z) k1
  | case {n : Nat} {e : En} {a b c : Dt} {x y : Str} {k k1 k2 : Nat} {s : Bool} {h : Hv} {oh : Oc} : x ∈ NS → y ∈ NS → Ev NS n e a k (.ok (.side s h)) k1 → Ev NS n (e.put (if s then y else x) h) (if s then c else b) k1 oh k2 → Ev NS (n + 1) e (tmCase a x b y c) k oh k2
  | caseB {n : Nat} {e : En} {a b c : Dt} {x y : Str} {k k1 : Nat} {z : Bool} : Ev NS n e a k (.ex z) k1 → Ev NS (n + 1) e (tmCase a x b y c) k (.ex z) k1
  | fold {n : Nat} {e : En} {a b t : Dt} {x y : Str} {k k1 k2 k3 : Nat} {xs : List Hv} {h0 : Hv} {oh : Oc} : x ∈ NS → y ∈ NS → Ev NS n e a k (.ok (ofList xs)) k1 → xs.length ≤ 1000 → Ev NS n e b k1 (.ok h0) k2 → k2 + 1 ≤ 1000 → Fo NS n e x y t xs.reverse h0 (k2 + 1) oh k3 → Ev NS (n + 1) e (tmFold a b x y t) k oh k3
  | foldO {n : Nat} {e : En} {a b t : Dt} {x y : Str} {k k1 k2 : Nat} {xs : List Hv} {h0 : Hv} : Ev NS n e a k (.ok (ofList xs)) k1 → xs.length ≤ 1000 → Ev NS n e b k1 (.ok h0) k2 → 1000 < k2 + 1 → Ev NS (n + 1) e (tmFold a b x y t) k (.ex true) (k2 + 1)
  | foldB1 {n : Nat} {e : En} {a b t : Dt} {x y : Str} {k k1 : Nat} {z : Bool} : Ev NS n e a k (.ex z) k1 → Ev NS (n + 1) e (tmFold a b x y t) k (.ex z) k1
  | foldB2 {n : Nat} {e : En} {a b t : Dt} {x y : Str} {k k1 k2 : Nat} {xs : List Hv} {z : Bool} : Ev NS n e a k (.ok (ofList xs)) k1 → xs.length ≤ 1000 → Ev NS n e b k1 (.ex z) k2 → Ev NS (n + 1) e (tmFold a b x y t) k (.ex z) k2
  | built {n : Nat} {e : En} {d t : Dt} {o x y : Str} {k k1 : Nat} {oh : Oc} : x ∈ NS → y ∈ NS → k + 1 ≤ 1000 → Ev NS n ((e.put x .putter).put y .nil) t (k + 1) oh k1 → Ev NS (n + 1) e (tmBuilt d o x y t) k oh k1
  | builtO {n : Nat} {e : En} {d t : Dt} {o x y : Str} {k : Nat} : 1000 < k + 1 → Ev NS (n + 1) e (tmBuilt d o x y t) k (.ex true) (k + 1)
  | rounds {n : Nat} {e : En} {a t : Dt} {m : Nat} {x : Str} {k k1 k2 : Nat} {h : Hv} {oh : Oc} : x ∈ NS → m ≤ 30 → Ev NS n e a k (.ok h) k1 → Ro NS n m e x t h k1 oh k2 → Ev NS (n + 1) e (tmRounds m a x t) k oh k2
  | roundsB {n : Nat} {e : En} {a t : Dt} {m : Nat} {x : Str} {k k1 : Nat} {z : Bool} : Ev NS n e a k (.ex z) k1 → Ev NS (n + 1) e (tmRounds m a x t) k (.ex z) k1
inductive Fo (NS : List Str) : Nat → En → Str → Str → Dt → List Hv → Hv → Nat → Oc → Nat → Prop
  | nil {n : Nat} {e : En} {x y : Str} {t : Dt} {h : Hv} {k : Nat} : Fo NS n e x y t [] h k (.ok h) k
  | cons {n : Nat} {e : En} {x y : Str} {t : Dt} {h h1 i : Hv} {oh : Oc} {r : List Hv} {k k1 k2 : Nat} : k + 1 ≤ 1000 → Ev NS n ((e.put x i).put y h) t (k + 1) (.ok h1) k1 → Fo NS n e x y t r h1 k1 oh k2 → Fo NS n e x y t (i :: r) h k oh k2
  | bad {n : Nat} {e : En} {x y : Str} {t : Dt} {h i : Hv} {r : List Hv} {k k1 : Nat} {z : Bool} : k + 1 ≤ 1000 → Ev NS n ((e.put x i).put y h) t (k + 1) (.ex z) k1 → Fo NS n e x y t (i :: r) h k (.ex z) k1
  | over {n : Nat} {e : En} {x y : Str} {t : Dt} {h i : Hv} {r : List Hv} {k : Nat} : 1000 < k + 1 → Fo NS n e x y t (i :: r) h k (.ex true) (k + 1)
/-- so many turns of rounds -/
inductive Ro (NS : List Str) : Nat → Nat → En → Str → Dt → Hv → Nat → Oc → Nat → Prop
  | zero {n : Nat} {e : En} {x : Str} {t : Dt} {h : Hv} {k : Nat} : Ro NS n 0 e x t h k (.ex false) k
  | right {n m : Nat} {e : En} {x : Str} {t : Dt} {h h1 : Hv} {k k1 : Nat} : k + 1 ≤ 1000 → Ev NS n (e.put x h) t (k + 1) (.ok (.side true h1)) k1 → Ro NS n (m + 1) e x t h k (.ok h1) k1
  | left {n m : Nat} {e : En} {x : Str} {t : Dt} {h h1 : Hv} {oh : Oc} {k k1 k2 : Nat} : k + 1 ≤ 1000 → Ev NS n (e.put x h) t (k + 1) (.ok (.side false h1)) k1 → Ro NS n m e x t h1 k1 oh k2 → Ro NS n (m + 1) e x t h k oh k2
  | bad {n m : Nat} {e : En} {x : Str} {t : Dt} {h : Hv} {k k1 : Nat} {z : Bool} : k + 1 ≤ 1000 → Ev NS n (e.put x h) t (k + 1) (.ex z) k1 → Ro NS n (m + 1) e x t h k (.ex z) k1
  | over {n m : Nat} {e : En} {x : Str} {t : Dt} {h : Hv} {k : Nat} : 1000 < k + 1 → Ro NS n (m + 1) e x t h k (.ex true) (k + 1)
/-- a function is handed an argument -/
inductive Ca (NS : List Str) : Nat → Hv → Hv → Nat → Oc → Nat → Prop
  | over {n : Nat} {f a : Hv} {k : Nat} : 1000 < k + 1 → Ca NS n f a k (.ex true) (k + 1)
  | clo {n : Nat} {x : Str} {t : Dt} {e : En} {a : Hv} {oh : Oc} {k k1 : Nat} : x ∈ NS → k + 1 ≤ 1000 → Ev NS n (e.put x a) t (k + 1) oh k1 → Ca NS n (.clo x t e) a k oh k1
  | putter {n : Nat} {a : Hv} {k : Nat} : k + 1 ≤ 1000 → Ca NS n .putter a k (.ok (.putting a)) (k + 1)
  | putting {n : Nat} {i : Hv} {xs : List Hv} {k : Nat} {oh : Oc} : k + 1 + 1 ≤ 1000 → i.nc → oh = made (pts i + pts (ofList xs)) (ofList (i :: xs)) → Ca NS n (.putting i) (ofList xs) k oh (k + 1 + 1)
  | puttingO {n : Nat} {i : Hv} {xs : List Hv} {k : Nat} : i.nc → k + 1 ≤ 1000 → 1000 < k + 1 + 1 → Ca NS n (.putting i) (ofList xs) k (.ex true) (k + 1 + 1)
end
/-- a dict of names -/
structure NmD (NS : List Str) (kvs : List (Key × V)) : Prop where
  nd : (kvs.map (·.1)).Nodup
  ns : ∀ k ∈ kvs.map (·.1), ∃ x ∈ NS, k = Sum.inr x
theorem nodup_le {α : Type} [DecidableEq α] : ∀ {xs ys : List α}, xs.Nodup → (∀ x ∈ xs, x ∈ ys) → xs.length ≤ ys.length
  | [], _, _, _ => Nat.zero_le _
  | x :: xs, ys, nd, h => by
    rw [List.nodup_cons] at nd
    have hx := h x List.mem_cons_self
    have z := nodup_le (xs := xs) (ys := ys.erase x) nd.2 fun y hy => (List.mem_erase_of_ne (fun e => nd.1 (by rw [← e]; exact hy))).mpr (h y (List.mem_cons_of_mem _ hy))
    rw [List.length_erase_of_mem hx] at z
    have := List.length_pos_of_mem hx
    rw [List.length_cons]
    omega
theorem NmD.len {NS : List Str} {kvs : List (Key × V)} (h : NmD NS kvs) : kvs.length ≤ NS.length := by
  have z := nodup_le (xs := kvs.map (·.1)) (ys := NS.map (Sum.inr : Str → Key)) h.nd fun k hk => by
    obtain ⟨x, hx, rfl⟩ := h.ns k hk
    exact List.mem_map.mpr ⟨x, hx, rfl⟩
  rw [List.length_map, List.length_map] at z
  exact z
/-- a held worth stands at v -/
inductive Hd (K : PySem.W.Frag) (oN oP : Addr) (NS : List Str) (H : Hp) : Hv → V → Prop
  | int (i : Int) : Hd K oN oP NS H (.int i) (.int i)
  | bl (b : Bool) : Hd K oN oP NS H (.bl b) (.bl b)
  | thing {a : Addr} {n : Str} {i : Int} : H a = some (.tup [.str "thing", .str n, .int i]) → Hd K oN oP NS H (.thing n i) (.ref a)
  | pair {a : Addr} {x y : Hv} {v w : V} : H a = some (.tup [.str "pair", v, w, .int (pts (.pair x y))]) → Hd K oN oP NS H x v → Hd K oN oP NS H y w → Hd K oN oP NS H (.pair x y) (.ref a)
  | nil : Hd K oN oP NS H .nil (.ref oN)
  | more {a : Addr} {x y : Hv} {v w : V} : H a = some (.tup [.str "more", v, w, .int (pts (.more x y))]) → Hd K oN oP NS H x v → Hd K oN oP NS H y w → Hd K oN oP NS H (.more x y) (.ref a)
  | side {a : Addr} {b : Bool} {x : Hv} {v : V} : H a = some (.tup [.str (sideW b), v, .int (pts (.side b x))]) → Hd K oN oP NS H x v → Hd K oN oP NS H (.side b x) (.ref a)
  | putter : Hd K oN oP NS H .putter (.ref oP)
  | putting {a : Addr} {i : Hv} {v : V} : H a = some (.tup [.str "putting", v]) → Hd K oN oP NS H i v → Hd K oN oP NS H (.putting i) (.ref a)
  | clo {a d : Addr} {x : Str} {t : Dt} {e : En} {vt : V} {kvs : List (Key × V)} (vf : Str → V) : H a = some (.tup [.str "closure", .str x, vt, .ref d]) → Dd Non H t vt → H d = some (.dK kvs) → NmD NS kvs → (∀ y h, e y = some h → valV kvs (Sum.inr y) = some (vf y)) → (∀ y h, e y = some h → Hd K oN oP NS H h (vf y)) → Hd K oN oP NS H (.clo x t e) (.ref a)
/-- names stand at d -/
structure Ed (K : PySem.W.Frag) (oN oP : Addr) (NS : List Str) (H : Hp) (e : En) (d : Addr) : Prop where
  at_ : ∃ kvs, H d = some (.dK kvs) ∧ NmD NS kvs ∧ ∀ y h, e y = some h → ∃ v, valV kvs (Sum.inr y) = some v ∧ Hd K oN oP NS H h v
/-- tuples and dicts stay -/
structure Rk (H G : Hp) : Prop where
  tup : ∀ b xs, H b = some (.tup xs) → G b = some (.tup xs)
  dic : ∀ b kvs, H b = some (.dK kvs) → G b = some (.dK kvs)
theorem Rk.rfl {H : Hp} : Rk H H := ⟨fun _ _ e => e, fun _ _ e => e⟩
theorem Rk.trans {H G F : Hp} (a : Rk H G) (b : Rk G F) : Rk H F := ⟨fun x u e => b.tup x u (a.tup x u e), fun x u e => b.dic x u (a.dic x u e)⟩
theorem Rk.of {H G : Hp} (s : Same H G) : Rk H G := ⟨fun _ _ e => s _ _ e, fun _ _ e => s _ _ e⟩
theorem Rk.kn {H G : Hp} (k : Rk H G) : Kn Non H G := ⟨k.tup, fun _ _ n => n.elim, fun _ _ n => n.elim⟩
/-- all but the steps' object stays -/
def Ss (st : Addr) (H G : Hp) : Prop := ∀ b o, b ≠ st → H b = some o → G b = some o
theorem Ss.rfl {st : Addr} {H : Hp} : Ss st H H := fun _ _ _ e => e
theorem Ss.trans {st : Addr} {H G F : Hp} (a : Ss st H G) (b : Ss st G F) : Ss st H F := fun x o n e => b x o n (a x o n e)
theorem Ss.of {st : Addr} {H G : Hp} (s : Same H G) : Ss st H G := fun b o _ e => s b o e
/-- so many steps are taken -/
def Stp (C st : Addr) (k : Nat) (H : Hp) : Prop := ∃ dx, H st = some (.ins C dx [("taken", .int k)])
theorem Stp.same {C st : Addr} {k : Nat} {H G : Hp} (h : Stp C st k H) (s : Same H G) : Stp C st k G := by
  obtain ⟨dx, e⟩ := h
  exact ⟨dx, s _ _ e⟩
theorem Ss.rk {C st : Addr} {k : Nat} {H G : Hp} (a : Ss st H G) (h : Stp C st k H) : Rk H G := by
  obtain ⟨dx, e⟩ := h
  refine ⟨fun b xs eb => a b _ (fun z => ?_) eb, fun b xs eb => a b _ (fun z => ?_) eb⟩ <;>
    (rw [z, e] at eb; cases eb)
theorem Stp.off {C st p : Addr} {k : Nat} {H : Hp} (h : Stp C st k H) (n : H p = none) : p ≠ st := by
  obtain ⟨dx, e⟩ := h
  exact (ne_of_none e n).symm
theorem Hd.rk {K : PySem.W.Frag} {oN oP : Addr} {NS : List Str} {H G : Hp} (k : Rk H G) : ∀ {h : Hv} {v : V}, Hd K oN oP NS H h v → Hd K oN oP NS G h v := by
  intro h v d
  induction d with
  | int i => exact .int i
  | bl b => exact .bl b
  | thing e => exact .thing (k.tup _ _ e)
  | pair e _ _ ih1 ih2 => exact .pair (k.tup _ _ e) ih1 ih2
  | nil => exact .nil
  | more e _ _ ih1 ih2 => exact .more (k.tup _ _ e) ih1 ih2
  | side e _ ih => exact .side (k.tup _ _ e) ih
  | putter => exact .putter
  | putting e _ ih => exact .putting (k.tup _ _ e) ih
  | clo vf e dt ed nm lk _ ih => exact .clo vf (k.tup _ _ e) (dt.kn k.kn) (k.dic _ _ ed) nm lk ih
theorem Ed.rk {K : PySem.W.Frag} {oN oP : Addr} {NS : List Str} {H G : Hp} {e : En} {d : Addr} (h : Ed K oN oP NS H e d) (k : Rk H G) : Ed K oN oP NS G e d := by
  obtain ⟨kvs, hd, nm, q⟩ := h
  refine ⟨kvs, k.dic _ _ hd, nm, fun y h e => ?_⟩
  obtain ⟨v, e1, e2⟩ := q y h e
  exact ⟨v, e1, e2.rk k⟩
theorem Hd.same {K : PySem.W.Frag} {oN oP : Addr} {NS : List Str} {H G : Hp} {h : Hv} {v : V} (d : Hd K oN oP NS H h v) (s : Same H G) : Hd K oN oP NS G h v := d.rk (.of s)
theorem Ed.same {K : PySem.W.Frag} {oN oP : Addr} {NS : List Str} {H G : Hp} {e : En} {d : Addr} (h : Ed K oN oP NS H e d) (s : Same H G) : Ed K oN oP NS G e d := h.rk (.of s)
/-- a closure's parts -/
theorem Ed.clo {K : PySem.W.Frag} {oN oP : Addr} {NS : List Str} {H : Hp} {e : En} {d a : Addr} {x : Str} {t : Dt} {vt : V} (h : Ed K oN oP NS H e d) (dt : Dd Non H t vt) (ha : H a = some (.tup [.str "closure", .str x, vt, .ref d])) : Hd K oN oP NS H (.clo x t e) (.ref a) := by
  obtain ⟨kvs, hd, nm, q⟩ := h
  refine .clo (fun y => (valV kvs (Sum.inr y)).getD .non) ha dt hd nm (fun y h ey => ?_) (fun y h ey => ?_)
  · obtain ⟨v, e1, _⟩ := q y h ey
    rw [e1]
    rfl
  · obtain ⟨v, e1, e2⟩ := q y h ey
    rw [e1]
    exact e2
theorem Hd.cloOf {K : PySem.W.Frag} {oN oP : Addr} {NS : List Str} {H : Hp} {e : En} {x : Str} {t : Dt} {v : V} (h : Hd K oN oP NS H (.clo x t e) v) : ∃ a d vt, v = .ref a ∧ H a = some (.tup [.str "closure", .str x, vt, .ref d]) ∧ Dd Non H t vt ∧ Ed K oN oP NS H e d := by
  cases h with
  | clo vf e dt ed nm lk r => exact ⟨_, _, _, rfl, e, dt, ⟨_, ed, nm, fun y h ey => ⟨_, lk y h ey, r y h ey⟩⟩⟩
end Kq

/-! d.get(k) of a dict of the module; statements and expressions that are never reached -/
namespace Kk
open PySem PySem.Spec PyProof.Rows L2
theorem ps_no {X : Cx} {st : Stmt} : PS X st (fun _ _ _ => False) := ⟨fun _ _ _ _ _ _ h => h.elim⟩
theorem pss_no {X : Cx} {b : List Stmt} : PSs X b (fun _ _ _ => False) := ⟨fun _ _ _ _ _ _ h => h.elim⟩
theorem pe_no {X : Cx} {e : Expr} : PE X e (fun _ _ _ => False) := ⟨fun _ _ _ _ _ _ h => h.elim⟩
section
variable {X : Cx} {d : Addr} {es : Array DictEntry} {n : Nat}
def tKGet (K : PySem.W.Frag) (d : Addr) (to ty : TE) : TE := fun σ H Q => to σ H fun x H1 => x = .ref d ∧ ty σ H1 fun y H2 => ∃ (z : Str) (r : Option Value) (v : V), y = .str z ∧ PySem.W.nsIn K d z = some r ∧ RelV v (r.getD .none) ∧ Q v H2
theorem pe_kget {o e : Expr} {apos cpos : Pos} {to ty : TE} (D : KDict X.K X.w d es n) (ho : PE X o to) (he : PE X e ty) (m : M1 X o "get" apos e cpos) : PE X (.Call (.Attribute o "get" apos) [e] [] cpos) (tKGet X.K d to ty) := by
  refine ⟨fun pins s σ H Q I h => ?_⟩
  refine wpAny_Call_method m.base m.few m.line PySem.F.plainAttrs_dict PySem.F.slot_dict_get PySem.F.type_dict_get (thn (ho.run pins s σ H _ I h) fun u s1 ⟨x, H1, I1, rx, ex, q1⟩ => ?_)
  subst ex
  obtain rfl : u = Value.ref d := rx
  have M := PySem.W.mapOf_K (prog := X.prog) (w := X.w) I1.kIn D.at_ D.lit
  refine ⟨M.typeIs, M.noDict, ?_⟩
  rw [m.trees]
  refine Calls.callWith_builtin rfl (Calls.evalArgs_plain (Calls.spliced_cons (thn (he.run pins s1 σ H1 _ I1 q1) fun iv s2 ⟨y, H2, I2, ry, z, r, v, ey, e, rv, q2⟩ => Calls.spliced_nil ?_)))
  subst ey
  obtain ⟨t, rfl⟩ := (show ∃ t, iv = Value.str z t from ry)
  have M2 := PySem.W.mapOf_K (prog := X.prog) (w := X.w) I2.kIn D.at_ D.lit
  refine call_meetsIn PySem.F.slot_dict_get M2.typeIs PySem.F.entry_dict_get (PySem.F.args_dict_get_2 _ _) (meets_dict_get _ d (PySem.strKind_is X.prog X.w z t) D.low) ⟨_, M2, ?_⟩
  rw [PySem.W.find_K D.at_ e]
  exact ⟨v, H2, I2.tok _, rv, q2⟩
end
end Kk

/-! True > n, False > n; what is told of a number or a truth alike -/
namespace Kc
open PySem PySem.Spec PyProof.Rows L2
theorem sub_int_bool : isSubtype (.type "int") (.type "bool") = pure false := by kernel_rfl
theorem gives_gt_bi (p : Bool) (n : Int) (u : Tok) : Gives (Builtin.«int.__gt__» ⟨[.bool p, .int n u], []⟩) (.val (Value.bool (decide (b2i p > n)))) :=
  .of_wp fun M A E s Q h => by obtain ⟨hp, g, d, tk, os⟩ := s; wp_walk; exact ⟨_, rfl, h⟩
def rGtU : V → V → Hp → VK → Prop := fun x y H Q => (∃ i j : Int, x = .int i ∧ y = .int j ∧ Q (.bl (decide (i > j))) H) ∨ ∃ (a : Bool) (j : Int), x = .bl a ∧ y = .int j ∧ Q (.bl (decide (b2i a > j))) H
theorem op_gtBI {X : Cx} : OpR X (compareOp .Gt) rGtU := by
  intro pins s σ H x y v u Q I rx ry h
  rcases h with ⟨i, j, rfl, rfl, q⟩ | ⟨a, j, rfl, rfl, q⟩
  · exact op_gt pins s σ H _ _ v u Q I rx ry ⟨i, j, rfl, rfl, q⟩
  · cases rx
    obtain ⟨t, rfl⟩ := ry
    show wpAny _ _ (richCompare .Gt _ _) _ _ _
    refine wpAny_richCompare_left (typeIs_bool' s a) (typeIs_int s j t) (by decide) sub_int_bool F.slot_bool_gt (call_gives F.slot_bool_gt (typeIs_bool' s a) F.entry_int_gt (F.args_int_gt_2 _ _) (gives_gt_bi a j t) (Made.post_and (by intro hq; cases hq) (fin_bl I q rfl)))
end Kc

/-! the steps; what worths have within them -/
namespace Kq
open PySem PySem.Spec PyProof.Rows L2 Kf Kv Kk
abbrev tSInit : Stmt := inClass (tp 7) 0
abbrev tTake : Stmt := inClass (tp 7) 1
abbrev tNums : Stmt := tp 8
abbrev tParts : Stmt := tp 9
abbrev tWW : Stmt := tp 10
abbrev tPIn : Stmt := tp 13
abbrev tItems : Stmt := tp 18
/-- what is known of the class of steps -/
structure StT (K : PySem.W.Frag) (mg : Str → Option Value) (C : Addr) : Prop where
  cl : Cls K C
  nT : NoAttr K C "taken"
  mgC : mg "Steps" = some (.ref C)
/-- the class TooMuch, as the written part has it -/
structure XM (K : PySem.W.Frag) (mg : Str → Option Value) (cM : Addr) : Prop where
  gP : mg "TooMuch" = some (.ref cM)
  xP : PySem.W.excIn K cM [.type "ValueError", .type "Exception", .type "BaseException", .type "object"] "ValueError.__new__" = true
  kP : PySem.W.keepIn K (.ref cM) = true
  bP : PySem.W.subIn K (.ref cM) (.type "BaseException") = some true
  tP : PySem.W.typeIn K (.ref cM) = some (.type "type")
section
variable {P : Program} {w : World} {K : PySem.W.Frag} {mg : Str → Option Value} {base : Heap}
theorem scSInit : FnScope ["self"] ["self"] (defScope tSInit) := ⟨rfl, rfl, rfl, by decide +kernel, rfl, by decide +kernel, by decide +kernel⟩
def spSInit (C : Addr) : Sp := fun vs H Q _ => ∃ p dx, vs = [.ref p] ∧ H p = some (.ins C dx []) ∧ Q .non (upd H p (.ins C dx [("taken", .int 0)]))
theorem okSInit {f C : Addr} {fd : FuncData} (F : Fun K "__init__" "Steps.__init__" tSInit f fd) (T : StT K mg C) : FnOk P w K mg base CX0 1 f fd ["self"] (spSInit C) := by
  refine F.ok scSInit (fun vs H Q E h => ?_) (fun cdv A outer s H vs Q E hr h => ?_)
  · obtain ⟨p, dx, rfl, _⟩ := h
    rfl
  obtain ⟨p, dx, rfl, hp, q⟩ := h
  refine ⟨_, pss_one (ps_fld (pv 0) pe_int rfl), ?_⟩
  exact ⟨_, rfl, p, C, dx, [], rfl, hp, T.cl, T.nT, (by show 0 < 1000; decide), q⟩
theorem scTake : FnScope ["self"] ["self"] (defScope tTake) := ⟨rfl, rfl, rfl, by decide +kernel, rfl, by decide +kernel, by decide +kernel⟩
def spTake (C cM : Addr) : Sp := fun vs H Q E => ∃ (st : Addr) (k : Nat), vs = [.ref st] ∧ Stp C st k H ∧ (k + 1 ≤ 1000 → ∀ G, Ss st H G → Stp C st (k + 1) G → Q .non G) ∧ (1000 < k + 1 → ∀ G, Ss st H G → Stp C st (k + 1) G → E (.ref cM) none G)
theorem putTaken (i j : Int) : putF ("taken" : Str) (V.int j) [(("taken" : Str), V.int i)] = [(("taken" : Str), V.int j)] := by
  show (if ("taken" : Str) = "taken" then [(("taken" : Str), V.int j)] else (("taken" : Str), V.int i) :: putF ("taken" : Str) (V.int j) []) = _
  rw [if_pos rfl]
theorem okTake {f C cM : Addr} {fd : FuncData} {k : Nat} {uM : Value} (F : Fun K "take" "Steps.take" tTake f fd) (T : StT K mg C) (xm : XM K mg cM) (mM : mg "MOST_STEPS" = some uM) (rM : RelV (.int 1000) uM) : FnOk P w K mg base (L2.CX P w) (k + 1) f fd ["self"] (spTake C cM) := by
  refine F.okX scTake (fun vs H Q E h => ?_) (fun cdv A outer s H vs Q E hr h => ?_)
  · obtain ⟨p, dx, rfl, _⟩ := h
    rfl
  obtain ⟨st, k, rfl, ⟨dx, hs⟩, q, qe⟩ := h
  refine ⟨_, pss_cons (ps_fldaug (pv 0) pe_int in_add) (pss_one (ps_if (pt_cmpR op_gt (pe_fld (pv 0) rfl) (pe_glob (v := .int 1000) (by rfl) mM rM) (nomark _))
    (pss_one (ps_raise rfl (takes_of rfl rfl rfl rfl) (SkE.pmk_own1 PySem.F.excBase_ValueError xm.xP xm.gP xm.kP (raises_own xm.bP xm.tP) rfl (pe_joined (.cons pe_str (.cons (pe_fmt (pe_glob (v := .int 1000) (by rfl) mM rM)) (.cons pe_str .nil))))))) pss_nil)), ?_⟩
  refine ⟨_, rfl, st, C, dx, _, _, rfl, hs, T.cl, T.nT, (by show List.lookup ("taken" : Str) [(("taken" : Str), V.int k)] = some (.int k); simp), _, _, rfl, rfl, dx, _, hs, (by show 1 < 1000; decide), ?_⟩
  rw [putTaken]
  have s1 : Ss st H (upd H st (.ins C dx [("taken", .int (k + 1))])) := fun b o n e => by
    rw [upd_ne n]
    exact e
  refine ⟨_, rfl, st, C, dx, _, _, rfl, upd_same, T.cl, T.nT, (by show List.lookup ("taken" : Str) [(("taken" : Str), V.int (k + 1))] = some (.int (k + 1)); simp), _, _, rfl, rfl, _, rfl, ite2 (fun e => ?_) (fun e => ?_)⟩
  · have e : (1000 : Int) < ((k : Int) + 1) := of_decide_eq_true e
    exact ⟨_, rfl, by decide +kernel, .inr ⟨_, rfl, by decide, _, rfl, by decide +kernel, _, rfl, by decide +kernel, qe (by omega) _ s1 ⟨dx, upd_same⟩⟩⟩
  · have e : ¬ (1000 : Int) < ((k : Int) + 1) := fun z => e (decide_eq_true z)
    exact q (by omega) _ s1 ⟨dx, upd_same⟩
/-! numbers -/
theorem scNums : FnScope ["number"] ["number"] (defScope tNums) := ⟨rfl, rfl, rfl, by decide +kernel, rfl, by decide +kernel, by decide +kernel⟩
def spNums : Sp := fun vs H Q _ => (∃ i : Int, vs = [.int i] ∧ i ≤ GR ∧ Q (.int i) H) ∨ ∃ b : Bool, vs = [.bl b] ∧ Q (.bl b) H
theorem okNums {f : Addr} {fd : FuncData} {k : Nat} {t : Tok} (F : Fun K "within_numbers" "within_numbers" tNums f fd) (mM : mg "GREATEST" = some (.int GR t)) : FnOk P w K mg base CX0 (k + 1) f fd ["number"] spNums := by
  refine F.ok scNums (fun vs H Q E h => ?_) (fun cdv A outer s H vs Q E hr h => ?_)
  · rcases h with ⟨i, rfl, _⟩ | ⟨b, rfl, _⟩ <;> rfl
  refine ⟨_, pss_cons (ps_if (pt_cmpR Kc.op_gtBI (pv 0) (pe_glob (v := .int GR) (by rfl) mM ⟨_, rfl⟩) (nomark _)) (pss_one ps_no) pss_nil) (pss_one (ps_ret (pv 0))), ?_⟩
  rcases h with ⟨i, rfl, hi, q⟩ | ⟨b, rfl, q⟩
  · exact ⟨_, rfl, .inl ⟨_, _, rfl, rfl, _, rfl, ite2 (fun e => absurd (of_decide_eq_true e) (by omega)) (fun _ => ⟨_, rfl, q⟩)⟩⟩
  · refine ⟨_, rfl, .inr ⟨_, _, rfl, rfl, _, rfl, ite2 (fun e => absurd (of_decide_eq_true e) ?_) (fun _ => ⟨_, rfl, q⟩)⟩⟩
    cases b <;> decide
/-- numbers, the too great ones too -/
def spNumsX (cM : Addr) : Sp := fun vs H Q E => ∃ i : Int, vs = [.int i] ∧ (i ≤ GR → Q (.int i) H) ∧ (GR < i → E (.ref cM) none H)
theorem okNumsX {f cM : Addr} {fd : FuncData} {k : Nat} {uM : Value} (F : Fun K "within_numbers" "within_numbers" tNums f fd) (xm : XM K mg cM) (mM : mg "GREATEST" = some uM) (rM : RelV (.int GR) uM) : FnOk P w K mg base (L2.CX P w) (k + 1) f fd ["number"] (spNumsX cM) := by
  refine F.okX scNums (fun vs H Q E h => ?_) (fun cdv A outer s H vs Q E hr h => ?_)
  · obtain ⟨i, rfl, _⟩ := h
    rfl
  obtain ⟨i, rfl, q, qe⟩ := h
  refine ⟨_, pss_cons (ps_if (pt_cmpR op_gt (pv 0) (pe_glob (v := .int GR) (by rfl) mM rM) (nomark _))
    (pss_one (ps_raise rfl (takes_of rfl rfl rfl rfl) (SkE.pmk_own1 PySem.F.excBase_ValueError xm.xP xm.gP xm.kP (raises_own xm.bP xm.tP) rfl (pe_joined (.cons pe_str (.cons (pe_fmt (pe_glob (v := .int GR) (by rfl) mM rM)) .nil)))))) pss_nil) (pss_one (ps_ret (pv 0))), ?_⟩
  refine ⟨_, rfl, _, _, rfl, rfl, _, rfl, ite2 (fun e => ?_) (fun e => ?_)⟩
  · exact ⟨_, rfl, by decide +kernel, .inr ⟨_, rfl, by decide, _, rfl, by decide +kernel, qe (of_decide_eq_true e)⟩⟩
  · have e : ¬ GR < i := fun z => e (decide_eq_true z)
    exact ⟨_, rfl, q (by omega)⟩
end
end Kq

/-! del xs[a:] -/
namespace Kd
open PySem PySem.Spec PyProof.Rows L2
theorem cut_off {sel : Nat → Bool} {a : Nat} : ∀ (xs : List Value) (i : Nat), (∀ k, i ≤ k → k < i + xs.length → sel k = decide (a ≤ k)) → ((xs.zipIdx i).filterMap fun p => if sel p.2 = true then none else some p.1) = xs.take (a - i)
  | [], i, _ => by simp
  | x :: xs, i, h => by
    have h0 := h i (Nat.le_refl _) (by rw [List.length_cons]; omega)
    have ih := cut_off (sel := sel) (a := a) xs (i + 1) fun k h1 h2 => h k (by omega) (by rw [List.length_cons]; omega)
    rw [List.zipIdx_cons, List.filterMap_cons, ih]
    by_cases c : a ≤ i
    · rw [if_pos (by rw [h0]; exact decide_eq_true c), show a - i = 0 by omega, show a - (i + 1) = 0 by omega]
      simp
    · rw [if_neg (by rw [h0, decide_eq_false c]; exact Bool.false_ne_true), show a - i = (a - (i + 1)) + 1 by omega, List.take_succ_cons]
section
variable {prog : Program} {w : World} {A : Around} {E : Value → Shared → Prop} {s : Shared}
theorem delSlice {l sl : Addr} {its : List Value} {n a : Nat} {vl vu : Value} {Q : Unit → Shared → Prop} (e : s.heap.get? l = some { cls := .type "list", data := .seq its.toArray n }) (hs : s.heap.IsSliceOf sl vl vu .none)
    (pl : IsPart vl (some (a : Int))) (pu : IsPart vu none) (ha : a ≤ its.length) (hz : its.length ≤ sizeLine)
    (h : ∀ f : Array Value → Array Value, f its.toArray = (its.take a).toArray → Q () { s with heap := s.heap.update l (Obj.mapSeq f) }) : wpAny (model prog w) A (delItem (.ref l) (.ref sl)) Q E s := by
  obtain ⟨os, hos, hcs, hds⟩ := id hs
  have hTs : s.TypeIs (.ref sl) "slice" := ⟨os, hos, hcs⟩
  have ty : s.TypeIs (.ref l) "list" := ⟨_, e, rfl⟩
  refine wpAny_delItem_slot ty (by decide) F.slot_list_delitem ?_
  refine wpAny_call_entry F.slot_list_delitem ty F.entry_list_delitem ?_ (F.args_list_delitem_2 _ _)
  show wpAny _ _ (Builtin.List.listSubscript? (.ref sl) >>= _) _ _ s
  refine wpAny_bind ?_
  unfold Builtin.List.listSubscript?
  refine wpAny_bind (wpAny_specialOf hTs slice_no_index ?_)
  simp only [Option.isNone_none, if_true]
  refine wpAny_pure ?_
  show wpAny _ _ (typeOf (.ref sl) >>= _) _ _ s
  refine wpAny_bind (wpAny_typeOf hTs ?_)
  first
    | rw [if_neg (by decide)]
    | refine PySem.W.KFB.if_not (by decide) ?_
  rw [listSliceParts_eq]
  refine wpAny_bind (wpAny_bind (wpAny_field hos hds (x := .none) rfl (wpAny_bind (wpAny_listPart .none ?_))))
  rw [if_neg (by decide)]
  refine wpAny_bind (wpAny_field hos hds (x := vl) rfl (wpAny_bind (wpAny_listPart pl ?_)))
  refine wpAny_bind (wpAny_field hos hds (x := vu) rfl (wpAny_bind (wpAny_listPart pu (wpAny_pure ?_))))
  unfold Builtin.List.listItems
  refine wpAny_bind (wpAny_bind (wpAny_seqItems e rfl (wpAny_pure ?_)))
  have bd : sliceBounds (some (a : Int)) none none its.toArray.size = ((a : Int), (its.length : Int), 1) := by
    unfold sliceBounds
    simp
    omega
  refine wpAny_bind (wpAny_of_eq ((sliceIndices_raw (some (a : Int)) none none its.toArray.size (by simp)).trans (congrArg (pure : Int × Int × Int → Sem (Int × Int × Int)) bd)) ?_)
  refine wpAny_bind (wpAny_rule ?_)
  have cut := cut_off (a := a) (sel := fun k => if (1 : Int) > 0 then decide ((a : Int) ≤ (k : Int)) && decide ((k : Int) < (its.length : Int)) && (((k : Int) - (a : Int)) % 1 == 0) else decide ((its.length : Int) < (k : Int)) && decide ((k : Int) ≤ (a : Int)) && (((a : Int) - (k : Int)) % (-1) == 0)) its 0 fun k _ h2 => by
    rw [if_pos (by decide), Int.emod_one]
    rw [Nat.zero_add] at h2
    have e2 : decide ((k : Int) < (its.length : Int)) = true := decide_eq_true (by omega)
    rw [e2, Bool.and_true]
    have e3 : decide ((a : Int) ≤ (k : Int)) = decide (a ≤ k) := by
      by_cases c : a ≤ k
      · rw [decide_eq_true c, decide_eq_true (by omega)]
      · rw [decide_eq_false c, decide_eq_false (by omega)]
    rw [e3]
    simp
  rw [Nat.sub_zero] at cut
  have cut2 := congrArg List.toArray cut
  have lt : (its.take a).length ≤ its.length := by rw [List.length_take]; omega
  refine wpAny_bind (m := updateSeq l _) (wpAny_updateSeq e rfl ?_ (by rw [List.size_toArray]; omega) (Nat.le_trans (Nat.le_of_eq (congrArg Array.size cut2)) (by rw [List.size_toArray]; omega)))
  refine wpAny_bind (wpAny_letGo ?_)
  exact wpAny_pure ⟨.none, rfl, h _ cut2⟩
end
section
variable {X : Cx}
/-- del xs[a:], a list that may change -/
def tDelFrom (to ta : TE) : TS := fun D σ H => to σ H fun x H1 => tPart ta σ H1 fun o H2 => ∃ (l : Addr) (xs : List V) (a : Nat), x = .ref l ∧ o = some (a : Int) ∧ H2 l = some (.lst xs) ∧ a ≤ xs.length ∧ D.nx σ (upd H2 l (.lst (xs.take a)))
theorem ps_delFrom {o i : Expr} {to ta : TE} {p tpos pos : Pos} (ho : PE X o to) (hi : PE X i ta) : PS X (.Delete [.Subscript o (.Slice (some i) none none p) tpos] pos) (tDelFrom to ta) := by
  refine ⟨fun pins s σ H D I h => ?_⟩
  refine wpAny_Delete (wpAny_deleteEach_cons (wpAny_delete_Subscript (thn (ho.run pins s σ H _ I h) fun u s1 ⟨x, H1, I1, rx, q1⟩ => ?_)))
  refine wpAny_Slice (thn ((po_some hi).run pins s1 σ H1 (fun o H2 => ∃ (l : Addr) (xs : List V) (a : Nat), x = .ref l ∧ o = some (a : Int) ∧ H2 l = some (.lst xs) ∧ a ≤ xs.length ∧ D.nx σ (upd H2 l (.lst (xs.take a)))) I1 q1) fun vl s2 ⟨lo, H2, I2, pl, q2⟩ => ?_)
  obtain ⟨l, xs, a, ex, el, hH, ha, q2⟩ := q2
  subst ex el
  cases (show u = Value.ref l from rx)
  refine thn (po_none.run pins s2 σ H2 (fun o H3 => o = none ∧ H3 = H2) I2 ⟨rfl, rfl⟩) fun vu s3 ⟨w1, H3, I3, pu, eu, e3⟩ => ?_
  subst eu e3
  refine thn (po_none.run pins s3 σ H3 (fun o H4 => o = none ∧ H4 = H3) I3 ⟨rfl, rfl⟩) fun vs s4 ⟨o4, H4, I4, ps, eo, e4⟩ => ?_
  subst eo e4
  cases ps
  have I5 : Inv X pins σ H4 { s4 with heap := s4.heap.push { cls := .type "slice", data := .fields #[vl, vu, .none] } } := I4.kept (t' := s4.toks) fun b ob q => Heap.get?_push_of_some _ q
  obtain ⟨z, its, n, r, hl, e⟩ := I5.lstM hH
  refine delSlice e (Heap.IsSliceOf.new _ vl vu .none) pl pu (by omega) (by omega) fun f hf => wpAny_deleteEach_nil ⟨σ, _, I5.lset (t' := s4.toks) hH e hf (r.take a) (by rw [List.length_take]; omega), q2⟩
end
end Kd

/-! rebuilt: any trees, gone through by lists -/
namespace Kq
open PySem PySem.Spec PyProof.Rows L2 Kf Kv Kk
abbrev tReb : Stmt := tp 24
theorem smk {H G : Hp} {p : Addr} {o : HO} (s : Same H G) (h : H p = none) : Same H (upd G p o) := fun b u e => by
  rw [upd_ne (ne_of_none e h)]
  exact s b u e
theorem szBig {n : Nat} (h : n ≤ 200000) : n ≤ sizeLine := by
  show n ≤ 16777216
  omega
theorem cutFrom {xs : List V} {j : Nat} (h : j ≤ xs.length) : cutV xs (some (j : Int)) none = xs.drop j := by
  unfold cutV HT.sIx
  simp only
  rw [if_neg (by omega), Int.toNat_natCast, Nat.min_eq_left h, ← List.length_drop, List.take_length]
theorem Rk.put {H G : Hp} {p : Addr} {o : HO} {xs : List V} (k : Rk H G) (h : G p = some (.lst xs)) : Rk H (upd G p o) := by
  refine ⟨fun b u e => ?_, fun b u e => ?_⟩
  · have z := k.tup b u e
    rw [upd_ne (fun w => by rw [w, h] at z; cases z)]
    exact z
  · have z := k.dic b u e
    rw [upd_ne (fun w => by rw [w, h] at z; cases z)]
    exact z
theorem le_sumN : ∀ {xs : List Nat} {n : Nat}, n ∈ xs → n ≤ xs.sum
  | x :: xs, n, h => by
    rw [List.sum_cons]
    rcases List.mem_cons.mp h with rfl | h
    · omega
    · have := le_sumN h
      omega
structure Tree (α β : Type) where
  kids : α → List α
  fold : α → β
  ord : α → List α
  sz : α → Nat
  ord_eq : ∀ a, ord a = a :: (kids a).reverse.flatMap ord
  sz_eq : ∀ a, sz a = 1 + ((kids a).map sz).sum
section
variable {α β : Type}
/-- what is done of these comes to this -/
inductive Gd (T : Tree α β) : List β → List α → List β → Prop
  | nil (ds : List β) : Gd T ds [] ds
  | cons {ds e : List β} {a : α} {r : List α} : Gd T (ds ++ [T.fold a]) r e → Gd T (ds ++ (T.kids a).map T.fold) (a :: r) e
theorem gd_of (T : Tree α β) : ∀ (n : Nat) (a : α), T.sz a ≤ n → ∀ (ds : List β) (r : List α) (e : List β), Gd T (ds ++ [T.fold a]) r e → Gd T ds ((T.ord a).reverse ++ r) e
  | 0, a, h => by
    have := T.sz_eq a
    omega
  | n + 1, a, h => by
    have go : ∀ (ks : List α), (ks.map T.sz).sum ≤ n → ∀ (ds : List β) (r : List α) (e : List β), Gd T (ds ++ ks.map T.fold) r e → Gd T ds ((ks.reverse.flatMap T.ord).reverse ++ r) e := by
      intro ks
      induction ks with
      | nil =>
        intro _ ds r e g
        rw [List.map_nil, List.append_nil] at g
        simpa using g
      | cons k ks ih =>
        intro hk ds r e g
        rw [List.map_cons, List.sum_cons] at hk
        rw [List.reverse_cons, List.flatMap_append, List.reverse_append, List.flatMap_cons, List.flatMap_nil, List.append_nil, List.append_assoc]
        refine gd_of T n k (by omega) ds _ e (ih (by omega) _ _ _ ?_)
        rw [List.append_assoc]
        exact g
    intro ds r e g
    rw [T.ord_eq, List.reverse_cons, List.append_assoc]
    have hs := T.sz_eq a
    exact go _ (by omega) ds _ e (.cons g)
theorem szs_ge {T : Tree α β} : ∀ (ws : List α), ws.length ≤ (ws.map T.sz).sum
  | [] => Nat.le_refl _
  | a :: r => by
    have h1 := szs_ge (T := T) r
    have h2 := T.sz_eq a
    rw [List.map_cons, List.sum_cons, List.length_cons]
    omega
theorem Paired.snocs {α' β' : Type} {R : α' → β' → Prop} {xs : List α'} {ys : List β'} (h : Paired R xs ys) (n : ys ≠ []) : ∃ xs' x ys' y, xs = xs' ++ [x] ∧ ys = ys' ++ [y] ∧ Paired R xs' ys' ∧ R x y := by
  induction h with
  | nil => exact absurd rfl n
  | @cons a b l1 l2 h t ih =>
    cases t with
    | nil => exact ⟨[], a, [], b, rfl, rfl, .nil, h⟩
    | cons h' t' =>
      obtain ⟨xs', x, ys', y, e1, e2, p, r⟩ := ih (by simp)
      exact ⟨a :: xs', x, b :: ys', y, by rw [e1]; rfl, by rw [e2]; rfl, .cons h p, r⟩
theorem Paired.appP {α' β' : Type} {R : α' → β' → Prop} {xs us : List α'} {ys vs : List β'} (h : Paired R xs ys) (k : Paired R us vs) : Paired R (xs ++ us) (ys ++ vs) := by
  induction h with
  | nil => exact k
  | cons h t ih => exact .cons h ih
theorem Paired.split {α' β' : Type} {R : α' → β' → Prop} : ∀ {xs us : List α'} {ys : List β'}, Paired R (xs ++ us) ys → Paired R xs (ys.take xs.length) ∧ Paired R us (ys.drop xs.length)
  | [], us, ys, h => ⟨.nil, h⟩
  | x :: xs, us, _, .cons h t => by
    obtain ⟨a, b⟩ := Paired.split t
    exact ⟨.cons h a, b⟩
theorem Paired.atP {α' β' : Type} {R : α' → β' → Prop} : ∀ {xs : List α'} {ys : List β'} {i : Nat} {y : β'}, Paired R xs ys → ys[i]? = some y → ∃ x, xs[i]? = some x ∧ R x y
  | _, _, i, y, .nil, e => by simp at e
  | _, _, 0, y, .cons (a := a) (b := b) h t, e => ⟨a, rfl, by rw [← show b = y from Option.some.inj e]; exact h⟩
  | _, _, i + 1, y, .cons h t, e => Paired.atP (i := i) t e
variable {P : Program} {w : World} {K : PySem.W.Frag} {mg : Str → Option Value} {base : Heap}
abbrev nReb : List Str := ["worth", "within", "joined", "order", "waiting", "part", "inner", "done", "many", "behind"]
theorem scReb : FnScope nReb ["worth", "within", "joined"] (defScope tReb) := ⟨rfl, rfl, rfl, by decide +kernel, rfl, by decide +kernel, by decide +kernel⟩
/-- a tuple, or a new list -/
def Sq2 (K : PySem.W.Frag) (H G : Hp) (p : Addr) (us : List V) : Prop := SqT K G p us ∨ (H p = none ∧ G p = some (.lst us))
def rExt2 (K : PySem.W.Frag) : V → List V → Hp → VK → Prop := fun x vs H Q => ∃ l b xs zs, x = .ref l ∧ vs = [.ref b] ∧ H l = some (.lst xs) ∧ (SqT K H b zs ∨ H b = some (.lst zs)) ∧ xs.length + zs.length ≤ sizeLine ∧ Q .non (upd H l (.lst (xs ++ zs)))
theorem mt_ext2 {X : Cx} : MtM X "list.extend" (rExt2 X.K) := by
  intro pins s σ H x xs v us Q I rx rv h
  obtain ⟨l, b, ys, zs, e1, e2, hl, hb, hz, q⟩ := h
  rcases hb with hb | hb
  · exact Kr.mt_extT pins s σ H x xs v us Q I rx rv ⟨l, b, ys, zs, e1, e2, hl, hb, hz, q⟩
  · exact mt_extend pins s σ H x xs v us Q I rx rv ⟨l, b, ys, zs, e1, e2, hl, hb, hz, q⟩
def spWi (K : PySem.W.Frag) (T : Tree α β) (In : Hp → α → V → Prop) : Sp := fun vs H Q _ => ∃ (v : V) (a : α), vs = [v] ∧ In H a v ∧ ∀ (p : Addr) (us : List V) (G : Hp), Same H G → Sq2 K H G p us → Paired (In G) (T.kids a) us → Q (.ref p) G
def spJo (T : Tree α β) (In : Hp → α → V → Prop) (Out : Hp → β → V → Prop) : Sp := fun vs H Q _ => ∃ (v : V) (a : α) (l : Addr) (us : List V), vs = [v, .ref l] ∧ In H a v ∧ H l = some (.lst us) ∧ Paired (Out H) ((T.kids a).map T.fold) us ∧ T.sz a ≤ 100000 ∧ ∀ (u : V) (G : Hp), Same H G → Out G (T.fold a) u → Q u G
def spReb (fW fJ : Addr) (T : Tree α β) (In : Hp → α → V → Prop) (Out : Hp → β → V → Prop) : Sp := fun vs H Q _ => ∃ (v : V) (a : α), vs = [v, .ref fW, .ref fJ] ∧ In H a v ∧ T.sz a ≤ 100000 ∧ ∀ (u : V) (G : Hp), Same H G → Out G (T.fold a) u → Q u G
theorem okReb {f fW fJ : Addr} {fd fdW fdJ : FuncData} {k : Nat} {x y z : Str} {T : Tree α β} {In : Hp → α → V → Prop} {Out : Hp → β → V → Prop} (F : Fun K "rebuilt" "rebuilt" tReb f fd)
    (iR : ∀ H G a v, Rk H G → In H a v → In G a v) (oR : ∀ H G a v, Rk H G → Out H a v → Out G a v)
    (GW : FnOk P w K mg base CX0 k fW fdW [x] (spWi K T In)) (bW : Binds K fdW [x] []) (kW : PySem.W.keepIn K (.ref fW) = true)
    (GJ : FnOk P w K mg base CX0 k fJ fdJ [y, z] (spJo T In Out)) (bJ : Binds K fdJ [y, z] []) (kJ : PySem.W.keepIn K (.ref fJ) = true)
    (mr : mg "reversed" = none) (mn : mg "len" = none) : FnOk P w K mg base CX0 (k + 1) f fd ["worth", "within", "joined"] (spReb fW fJ T In Out) := by
  refine F.ok scReb (fun vs H Q E h => ?_) (fun cdv A outer s H vs Q E hr h => ?_)
  · obtain ⟨v, a, rfl, _⟩ := h
    rfl
  obtain ⟨v, a, rfl, hi, hz, q⟩ := h
  refine ⟨_, pss_cons (ps_set (i := 3) scReb.nd rfl (.inl rfl) (pe_lst pa_nil))
    (pss_cons (ps_set (i := 4) scReb.nd rfl (.inl rfl) (pe_lst (pa_cons (pv 0) pa_nil)))
    (pss_cons (ps_while PassesOwn.never (pt_truth (pv 4) (by intro _; rfl))
      (pss_cons (ps_set (i := 5) scReb.nd rfl (.inl rfl) (pe_bm0 PySem.F.plainAttrs_list PySem.F.slot_list_pop PySem.F.type_list_pop mt_pop (pv 4)))
      (pss_cons (ps_set (i := 6) scReb.nd rfl (.inl rfl) (ItX.pe_callV (i := 1) (GW.raw bW .nil) hr kW pass0 rfl (Or.inl rfl) (pa_cons (pv 5) pa_nil)))
      (pss_cons (ps_expr (pe_bm PySem.F.plainAttrs_list PySem.F.slot_list_append PySem.F.type_list_append mt_append (pv 3) (pa_cons (pe_tup (pa_cons (pv 5) (pa_cons (pe_callB call_len_seq (by rfl) mn PySem.boot_len (pa_cons (pv 6) pa_nil)) pa_nil))) pa_nil)))
      (pss_one (ps_expr (pe_bm PySem.F.plainAttrs_list PySem.F.slot_list_extend PySem.F.type_list_extend mt_ext2 (pv 4) (pa_cons (pv 6) pa_nil))))))))
    (pss_cons (ps_set (i := 7) scReb.nd rfl (.inl rfl) (pe_lst pa_nil))
    (pss_cons (ps_for PassesOwn.never rfl (RT.pi_revA (by rfl) mr (pv 3)) (pg_tup rfl (pgs_cons (pg_name (i := 5) scReb.nd rfl (.inl rfl)) (pgs_cons (pg_name (i := 8) scReb.nd rfl (.inl rfl)) pgs_nil)))
      (pss_cons (ps_set (i := 9) scReb.nd rfl (.inl rfl) (pe_op op_sub (pe_callB call_len_seq (by rfl) mn PySem.boot_len (pa_cons (pv 7) pa_nil)) (pv 8)))
      (pss_cons (ps_set (i := 6) scReb.nd rfl (.inl rfl) (pe_slice sl_list (pv 7) (po_some (pv 9)) po_none))
      (pss_cons (Kd.ps_delFrom (pv 7) (pv 9))
      (pss_one (ps_expr (pe_bm PySem.F.plainAttrs_list PySem.F.slot_list_append PySem.F.type_list_append mt_append (pv 7) (pa_cons (ItX.pe_callV (i := 2) (GJ.raw bJ .nil) hr kJ pass0 rfl (Or.inl rfl) (pa_cons (pv 5) (pa_cons (pv 6) pa_nil))) pa_nil))))))))
    (pss_one (ps_ret (pe_ix ix_list (pv 7) pe_int (fun _ _ => rfl)))))))), ?_⟩
  refine ⟨Nat.zero_le _, fun oa noa => ⟨_, rfl, (by show 1 ≤ sizeLine; decide), fun wa nwa => ?_⟩⟩
  have how : oa ≠ wa := fun z => by
    rw [z, upd_same] at nwa
    cases nwa
  have hwa : H wa = none := (newS noa).free nwa
  have s2 : Same H (upd (upd H oa (.lst [])) wa (.lst [v])) := (newS noa).trans (newS nwa)
  refine ⟨fun m σ G => ∃ (Os Ws : List α) (os ws : List V) (y5 y6 : Option V), m = (Ws.map T.sz).sum ∧ σ = [some v, some (.ref fW), some (.ref fJ), some (.ref oa), some (.ref wa), y5, y6, none, none, none] ∧ Same H G ∧ G oa = some (.lst os) ∧ G wa = some (.lst ws) ∧
      Paired (fun (b : α) (r : V) => ∃ t v, r = .ref t ∧ G t = some (.tup [v, .int ((T.kids b).length : Int)]) ∧ In G b v) Os os ∧ Paired (In G) Ws ws ∧ Os ++ Ws.reverse.flatMap T.ord = T.ord a ∧ Os.length + (Ws.map T.sz).sum = T.sz a,
    ⟨_, [], [a], [], [v], none, none, rfl, rfl, s2, ?_, upd_same, .nil, .cons (iR _ _ _ _ (.of s2) hi) .nil, ?_, ?_⟩, fun m σ G z => ?_⟩
  · rw [upd_ne how, upd_same]
  · simp
  · simp
  obtain ⟨Os, Ws, os, ws, y5, y6, rfl, rfl, sG, go, gw, ro, rw', eo, ez⟩ := z
  refine ⟨_, rfl, _, .inl ⟨ws, SqL.of gw, rfl⟩, ?_⟩
  have lO := ro.length
  have lW := rw'.length
  have geW := szs_ge (T := T) Ws
  refine ite2 (fun e => ?_) (fun e => ?_)
  · have nn : ws ≠ [] := fun z => by
      rw [z] at e
      cases e
    obtain ⟨Ws', b, ws', u, rfl, rfl, rx, ru⟩ := Paired.snocs rw' nn
    refine ⟨_, fun σ' G' z => z, ?_⟩
    refine ⟨_, rfl, .inl ⟨rfl, _, SqL.of gw⟩, wa, _, u, rfl, rfl, gw, ?_, ?_⟩
    · rw [List.length_append, List.length_singleton, Nat.add_sub_cancel, List.getElem?_concat_length]
    rw [List.dropLast_concat]
    have t1 : Rk G (upd G wa (.lst ws')) := Rk.rfl.put gw
    have g1o : (upd G wa (.lst ws')) oa = some (.lst os) := by rw [upd_ne how]; exact go
    have g1w : (upd G wa (.lst ws')) wa = some (.lst ws') := upd_same
    have s3 : Same H (upd G wa (.lst ws')) := smk sG hwa
    generalize upd G wa (.lst ws') = G1 at t1 g1o g1w s3
    refine ⟨rfl, _, rfl, u, b, rfl, iR _ _ _ _ t1 ru, fun p us G2 s4 hp pu => ?_⟩
    have g2o := s4 _ _ g1o
    have g2w := s4 _ _ g1w
    have t2 : Rk G G2 := t1.trans (.of s4)
    have lk := pu.length
    have zb := T.sz_eq b
    have gek := szs_ge (T := T) (T.kids b)
    rw [List.map_append, List.sum_append] at ez
    simp only [List.map_cons, List.map_nil, List.sum_cons, List.sum_nil, Nat.add_zero] at ez
    have geW' := szs_ge (T := T) Ws'
    have lW' := rx.length
    have hpL : SqL K G2 p us ∨ SqT K G2 p us := by
      rcases hp with h | h
      · exact .inr h
      · exact .inl (SqL.of h.2)
    refine ⟨_, rfl, .inl ⟨rfl, _, SqL.of g2o⟩, _, rfl, _, rfl, p, _, rfl, hpL, (by show 2 ≤ sizeLine; decide), fun t nt => ?_⟩
    have s5 := newS (o := .tup [u, .int (us.length : Int)]) nt
    have g3t : (upd G2 t (.tup [u, .int (us.length : Int)])) t = some (.tup [u, .int (us.length : Int)]) := upd_same
    generalize upd G2 t (.tup [u, .int (us.length : Int)]) = G3 at s5 g3t
    have g3o := s5 _ _ g2o
    have g3w := s5 _ _ g2w
    refine ⟨oa, _, _, rfl, rfl, g3o, ?_, ?_⟩
    · show os.length < 16777216
      omega
    have t3 : Rk G3 (upd G3 oa (.lst (os ++ [.ref t]))) := Rk.rfl.put g3o
    have g4o : (upd G3 oa (.lst (os ++ [.ref t]))) oa = some (.lst (os ++ [.ref t])) := upd_same
    have g4w : (upd G3 oa (.lst (os ++ [.ref t]))) wa = some (.lst ws') := by rw [upd_ne how.symm]; exact g3w
    have s6 : Same H (upd G3 oa (.lst (os ++ [.ref t]))) := smk ((s3.trans s4).trans s5) noa
    have hp4 : SqT K (upd G3 oa (.lst (os ++ [.ref t]))) p us ∨ (upd G3 oa (.lst (os ++ [.ref t]))) p = some (.lst us) := by
      rcases hp with h | h
      · refine .inl ?_
        rcases h with h | h
        · rcases h with h | ⟨o, h⟩
          · exact .inl (.inl (t3.tup _ _ (s5 _ _ h)))
          · refine .inl (.inr ⟨o, ?_⟩)
            have h := s5 _ _ h
            rw [upd_ne (fun z => by rw [z, g3o] at h; cases h)]
            exact h
        · exact .inr h
      · refine .inr ?_
        rw [upd_ne (fun z => by have h1 := h.1; rw [z, g1o] at h1; cases h1)]
        exact s5 _ _ h.2
    have g4t := t3.tup _ _ g3t
    have tt : Rk G (upd G3 oa (.lst (os ++ [.ref t]))) := (t2.trans (.of s5)).trans t3
    have tt2 : Rk G2 (upd G3 oa (.lst (os ++ [.ref t]))) := (Rk.of s5).trans t3
    have tt1 : Rk G1 (upd G3 oa (.lst (os ++ [.ref t]))) := (Rk.of s4).trans tt2
    generalize upd G3 oa (.lst (os ++ [.ref t])) = G4 at g4o g4w s6 hp4 g4t tt tt2 tt1
    refine ⟨_, rfl, .inl ⟨rfl, _, SqL.of g4w⟩, _, rfl, wa, p, _, _, rfl, rfl, g4w, hp4, szBig (by omega), ?_⟩
    have t5 : Rk G4 (upd G4 wa (.lst (ws' ++ us))) := Rk.rfl.put g4w
    refine ⟨_, ?_, Os ++ [b], Ws' ++ T.kids b, os ++ [.ref t], ws' ++ us, _, _, rfl, rfl, smk s6 hwa, (by rw [upd_ne how]; exact g4o), upd_same, ?_, ?_, ?_, ?_⟩
    · rw [List.map_append, List.sum_append, List.map_append, List.sum_append]
      simp only [List.map_cons, List.map_nil, List.sum_cons, List.sum_nil, Nat.add_zero]
      omega
    · refine Paired.snoc (Paired.mapP ro fun c r z => ?_) ⟨t, u, rfl, ?_, iR _ _ _ _ (tt.trans t5) ru⟩
      · obtain ⟨t', v', e1, e2, e3⟩ := z
        exact ⟨t', v', e1, (tt.trans t5).tup _ _ e2, iR _ _ _ _ (tt.trans t5) e3⟩
      · rw [lk]
        exact t5.tup _ _ g4t
    · exact Paired.appP (Paired.mapP rx fun c r z => iR _ _ _ _ (tt.trans t5) z) (Paired.mapP pu fun c r z => iR _ _ _ _ (tt2.trans t5) z)
    · rw [← eo, List.reverse_append, List.reverse_append, List.flatMap_append, List.reverse_cons, List.reverse_nil, List.nil_append, List.flatMap_append, List.flatMap_cons, List.flatMap_nil, List.append_nil, T.ord_eq b]
      simp only [List.append_assoc, List.cons_append, List.nil_append]
    · rw [List.map_append, List.sum_append, List.length_append, List.length_singleton]
      omega
  · have en : ws = [] := by
      cases ws with
      | nil => rfl
      | cons a b => exact absurd rfl e
    subst en
    cases rw'
    rw [List.reverse_nil, List.flatMap_nil, List.append_nil] at eo
    subst eo
    refine ⟨Nat.zero_le _, fun da nda => ?_⟩
    have s3 := newS (o := .lst []) nda
    have gd0 : (upd G da (.lst [])) da = some (.lst []) := upd_same
    generalize upd G da (.lst []) = G0 at s3 gd0
    have go0 := s3 _ _ go
    have hdn : G da = none := nda
    have hda : H da = none := sG.free nda
    have hdo : oa ≠ da := ne_of_none go nda
    have sG0 := sG.trans s3
    have ro0 := Paired.mapP (G := fun (b : α) (r : V) => ∃ t v, r = .ref t ∧ G0 t = some (.tup [v, .int ((T.kids b).length : Int)]) ∧ In G0 b v) ro fun c r z => by
      obtain ⟨t', v', e1, e2, e3⟩ := z
      exact ⟨t', v', e1, s3 _ _ e2, iR _ _ _ _ (.of s3) e3⟩
    have g0 := gd_of T (T.sz a) a (Nat.le_refl _) [] [] [T.fold a] (.nil _)
    rw [List.append_nil] at g0
    have lz : (T.ord a).length = T.sz a := by simpa using ez
    refine ⟨_, rfl, oa, os, rfl, .inl ⟨SqL.of go0, ?_⟩⟩
    refine RT.for_Itv (fun i σ G' => ∃ (Ds : List β) (ds : List V) (y5 y6 y8 y9 : Option V), σ = [some v, some (.ref fW), some (.ref fJ), some (.ref oa), some (.ref wa), y5, y6, some (.ref da), y8, y9] ∧ Same H G' ∧ Rk G0 G' ∧ G' oa = some (.lst os) ∧ G' da = some (.lst ds) ∧ Paired (Out G') Ds ds ∧ Gd T Ds ((T.ord a).reverse.drop i) [T.fold a] ∧ Ds.length ≤ i)
      ⟨[], [], _, _, _, _, rfl, sG0, Rk.rfl, go0, gd0, .nil, g0, Nat.le_refl _⟩ (fun i σ G' ⟨Ds, ds, y5, y6, y8, y9, _, _, _, g, _⟩ => SqL.of g) (fun i x σ G' hi hx z => ?_) (fun σ G' z => ?_)
    · obtain ⟨Ds, ds, y5, y6, y8, y9, rfl, sH, kG, gO, gD, pD, gG, lD⟩ := z
      obtain ⟨b, hb, t, vb, rfl, ht, hin⟩ := Paired.atP ro0 hx
      have hj : i < (T.ord a).reverse.length := by rw [List.length_reverse]; omega
      have eb : (T.ord a).reverse[i] = b := by
        rw [List.getElem_reverse]
        have e1 : (T.ord a).length - 1 - i = os.length - 1 - i := by rw [lO]
        refine Option.some.inj (Eq.trans (List.getElem?_eq_getElem _).symm ?_)
        rw [e1]
        exact hb
      rw [List.drop_eq_getElem_cons hj, eb] at gG
      generalize hrest : (T.ord a).reverse.drop (i + 1) = rest at gG
      cases gG with
      | @cons ds0 _ _ _ gG =>
      have lDs := pD.length
      rw [List.length_append, List.length_map] at lDs lD
      obtain ⟨p1, p2⟩ := Paired.split pD
      have hli : i < T.sz a := by omega
      refine ⟨t, _, rfl, SqT.of (kG.tup _ _ ht), rfl, _, _, rfl, _, _, rfl, rfl, ?_⟩
      have ei : ((ds.length : Nat) : Int) - ((T.kids b).length : Int) = ((ds0.length : Nat) : Int) := by omega
      refine ⟨_, rfl, da, _, rfl, .inl (SqL.of gD), _, rfl, _, _, rfl, rfl, ?_⟩
      refine ⟨_, rfl, _, rfl, _, rfl, da, _, rfl, SqL.of gD, fun q nq => ?_⟩
      rw [ei, cutFrom (by omega)]
      have s4 := newS (o := .lst (ds.drop ds0.length)) nq
      have g4 : (upd G' q (.lst (ds.drop ds0.length))) q = some (.lst (ds.drop ds0.length)) := upd_same
      generalize upd G' q (.lst (ds.drop ds0.length)) = G1 at s4 g4
      have g4d := s4 _ _ gD
      have hqd : q ≠ da := fun z => by rw [z, gD] at nq; cases nq
      have g4o := s4 _ _ gO
      refine ⟨_, rfl, _, rfl, _, rfl, da, _, ds0.length, rfl, congrArg some ei, g4d, by omega, ?_⟩
      have k5 : Rk G1 (upd G1 da (.lst (ds.take ds0.length))) := Rk.rfl.put g4d
      have s5 : Same H (upd G1 da (.lst (ds.take ds0.length))) := smk (sH.trans s4) hda
      have g5q : (upd G1 da (.lst (ds.take ds0.length))) q = some (.lst (ds.drop ds0.length)) := by rw [upd_ne hqd]; exact g4
      have g5o : (upd G1 da (.lst (ds.take ds0.length))) oa = some (.lst os) := by rw [upd_ne hdo]; exact g4o
      have g5d : (upd G1 da (.lst (ds.take ds0.length))) da = some (.lst (ds.take ds0.length)) := upd_same
      generalize upd G1 da (.lst (ds.take ds0.length)) = G2 at k5 s5 g5q g5o g5d
      have k6 : Rk G' G2 := (Rk.of s4).trans k5
      refine ⟨_, rfl, .inl ⟨rfl, _, SqL.of g5d⟩, rfl, _, rfl, _, rfl, vb, b, q, _, rfl, iR _ _ _ _ (kG.trans k6) hin, g5q, Paired.mapP p2 (fun c r z => oR _ _ _ _ k6 z), ?_, fun u G3 s6 ou => ?_⟩
      · have : T.sz b ≤ T.sz a := by
          have hb2 : b ∈ T.ord a := List.mem_of_getElem? hb
          have key : ∀ n c, T.sz c ≤ n → ∀ d ∈ T.ord c, T.sz d ≤ T.sz c := by
            intro n
            induction n with
            | zero =>
              intro c hc
              have := T.sz_eq c
              omega
            | succ n ih =>
              intro c hc d hd
              rw [T.ord_eq] at hd
              rcases List.mem_cons.mp hd with rfl | hd
              · exact Nat.le_refl _
              · obtain ⟨e, he, hd⟩ := List.mem_flatMap.mp hd
                have he' := List.mem_reverse.mp he
                have hle : T.sz e ≤ ((T.kids c).map T.sz).sum := le_sumN (List.mem_map.mpr ⟨e, he', rfl⟩)
                have := T.sz_eq c
                have := ih e (by omega) d hd
                omega
          exact key _ a (Nat.le_refl _) b hb2
        omega
      have g6d := s6 _ _ g5d
      have g6o := s6 _ _ g5o
      have k7 : Rk G3 (upd G3 da (.lst (ds.take ds0.length ++ [u]))) := Rk.rfl.put g6d
      refine ⟨da, _, _, rfl, rfl, g6d, ?_, ?_⟩
      · show (ds.take ds0.length).length < 16777216
        rw [List.length_take]
        omega
      have k8 : Rk G' (upd G3 da (.lst (ds.take ds0.length ++ [u]))) := (k6.trans (.of s6)).trans k7
      refine ⟨ds0 ++ [T.fold b], _, _, _, _, _, rfl, smk (s5.trans s6) hda, kG.trans k8, (by rw [upd_ne hdo]; exact g6o), upd_same, Paired.snoc (Paired.mapP p1 fun c r z => oR _ _ _ _ k8 z) (oR _ _ _ _ k7 ou), ?_, ?_⟩
      · exact gG
      · rw [List.length_append, List.length_singleton]
        omega
    · obtain ⟨Ds, ds, y5, y6, y8, y9, rfl, sH, kG, gO, gD, pD, gG, lD⟩ := z
      rw [List.drop_of_length_le (by rw [List.length_reverse]; omega)] at gG
      cases gG
      cases pD with
      | @cons _ u _ _ hu t =>
      cases t
      refine ⟨_, rfl, da, _, _, u, rfl, rfl, SqL.of gD, atI_nat (j := 0) rfl, q u _ sH hu⟩
end
end Kq

/-! worths handed in, and held -/
namespace Kq
open PySem PySem.Spec PyProof.Rows L2 Kf Kv Kk
abbrev tHeld : Stmt := tp 20
theorem isiK {X : Cx} (K : PySem.W.Frag) (h : X.K = K) : CallR X (.builtin "isinstance") (rIsi K) := by
  subst h
  exact call_isi
/-- the global list of none -/
structure NoI (K : PySem.W.Frag) (mg : Str → Option Value) (oN : Addr) : Prop where
  mgN : mg "NO_ITEMS" = some (.ref oN)
  tup : ∀ H : Hp, SqT K H oN [.str "none", .int 1]
  lk : ∃ o, K.lookup oN = some o ∧ o.cls = .type "tuple"
/-- worths as they are handed in -/
inductive Wt where
  | int (i : Int)
  | bl (b : Bool)
  | thing (n : Str) (i : Int)
  | pair (x y : Wt)
  | list (xs : List Wt)
  | side (b : Bool) (x : Wt)
mutual
def Wt.d : Wt → Dt
  | .int i => .int i
  | .bl b => .bl b
  | .thing n i => .tup [.str "thing", .str n, .int i]
  | .pair x y => .tup [.str "pair", x.d, y.d]
  | .list xs => .tup [.str "list", .tup (Wt.ds xs)]
  | .side b x => .tup [.str (sideW b), x.d]
def Wt.ds : List Wt → List Dt
  | [] => []
  | x :: r => x.d :: Wt.ds r
end
mutual
def Wt.ok : Wt → Prop
  | .int i => i ≤ GR
  | .pair x y => x.ok ∧ y.ok
  | .list xs => Wt.oks xs
  | .side _ _ => False
  | _ => True
def Wt.oks : List Wt → Prop
  | [] => True
  | x :: r => x.ok ∧ Wt.oks r
end
mutual
def Wt.hv : Wt → Hv
  | .int i => .int i
  | .bl b => .bl b
  | .thing n i => .thing n i
  | .pair x y => .pair x.hv y.hv
  | .list xs => ofList (Wt.hvs xs)
  | .side b x => .side b x.hv
def Wt.hvs : List Wt → List Hv
  | [] => []
  | x :: r => x.hv :: Wt.hvs r
end
def Wt.kids : Wt → List Wt
  | .pair x y => [x, y]
  | .list xs => xs
  | .side _ x => [x]
  | _ => []
mutual
def Wt.ord : Wt → List Wt
  | .pair x y => .pair x y :: (y.ord ++ x.ord)
  | .list xs => .list xs :: Wt.ords xs
  | .side b x => .side b x :: x.ord
  | .int i => [.int i]
  | .bl b => [.bl b]
  | .thing n i => [.thing n i]
def Wt.ords : List Wt → List Wt
  | [] => []
  | x :: r => Wt.ords r ++ x.ord
end
mutual
def Wt.sz : Wt → Nat
  | .pair x y => 1 + (x.sz + y.sz)
  | .list xs => 1 + Wt.szs xs
  | .side _ x => 1 + x.sz
  | _ => 1
def Wt.szs : List Wt → Nat
  | [] => 0
  | x :: r => x.sz + Wt.szs r
end
theorem ords_eq : ∀ xs : List Wt, Wt.ords xs = xs.reverse.flatMap Wt.ord
  | [] => by simp [Wt.ords]
  | x :: r => by
    rw [Wt.ords, ords_eq r, List.reverse_cons, List.flatMap_append]
    simp
theorem szs_eq : ∀ xs : List Wt, Wt.szs xs = (xs.map Wt.sz).sum
  | [] => by simp [Wt.szs]
  | x :: r => by rw [Wt.szs, szs_eq r, List.map_cons, List.sum_cons]
theorem hvs_eq : ∀ xs : List Wt, Wt.hvs xs = xs.map Wt.hv
  | [] => by simp [Wt.hvs]
  | x :: r => by rw [Wt.hvs, hvs_eq r, List.map_cons]
theorem ds_eq : ∀ xs : List Wt, Wt.ds xs = xs.map Wt.d
  | [] => by simp [Wt.ds]
  | x :: r => by rw [Wt.ds, ds_eq r, List.map_cons]
def TW : Tree Wt Hv where
  kids := Wt.kids
  fold := Wt.hv
  ord := Wt.ord
  sz := Wt.sz
  ord_eq a := by
    cases a with
    | list xs => rw [Wt.ord, ords_eq, Wt.kids]
    | _ => simp [Wt.ord, Wt.kids]
  sz_eq a := by
    cases a with
    | list xs => rw [Wt.sz, szs_eq, Wt.kids]
    | _ => simp [Wt.sz, Wt.kids]
def InW (H : Hp) (a : Wt) (v : V) : Prop := Dd Non H a.d v ∧ a.ok
theorem nc_list (xs : List Hv) : (ofList xs).nc := by cases xs <;> trivial
theorem hv_nc (a : Wt) : a.hv.nc := by
  cases a with
  | list xs =>
    rw [Wt.hv]
    exact nc_list _
  | _ => simp [Wt.hv, Hv.nc]
section
variable {P : Program} {w : World} {K : PySem.W.Frag} {mg : Str → Option Value} {base : Heap} {oN oP : Addr} {NS : List Str}
theorem DdL.pairs {N : Addr → Prop} {H : Hp} : ∀ {xs : List Wt} {us : List V}, DdL N H (Wt.ds xs) us → Paired (fun a v => Dd N H a.d v) xs us
  | [], _, h => by
    rw [Wt.ds] at h
    cases h
    exact .nil
  | x :: r, _, h => by
    rw [Wt.ds] at h
    cases h with
    | cons a b => exact .cons a (DdL.pairs b)
theorem oks_at : ∀ {xs : List Wt}, Wt.oks xs → ∀ x ∈ xs, x.ok
  | y :: r, h, x, hx => by
    rw [Wt.oks] at h
    rcases List.mem_cons.mp hx with rfl | hx
    · exact h.1
    · exact oks_at h.2 x hx
theorem Paired.andP {α β : Type} {R S : α → β → Prop} : ∀ {xs : List α} {ys : List β}, Paired R xs ys → (∀ x ∈ xs, ∀ y, R x y → S x y) → Paired S xs ys
  | _, _, .nil, _ => .nil
  | _, _, .cons h t, k => .cons (k _ List.mem_cons_self _ h) (Paired.andP t fun x hx => k x (List.mem_cons_of_mem _ hx))
/-! parts_in -/
theorem scPIn : FnScope ["worth"] ["worth"] (defScope tPIn) := ⟨rfl, rfl, rfl, by decide +kernel, rfl, by decide +kernel, by decide +kernel⟩
def spPIn (K : PySem.W.Frag) (oN oP : Addr) (NS : List Str) : Sp := fun vs H Q _ => ∃ (v : V) (h : Hv), vs = [v] ∧ Hd K oN oP NS H h v ∧ h.nc ∧ Q (.int (pts h)) H
theorem okPIn {f : Addr} {fd : FuncData} {k : Nat} (F : Fun K "parts_in" "parts_in" tPIn f fd) (N : NoI K mg oN) (mi : mg "isinstance" = none) (mt : mg "tuple" = none) : FnOk P w K mg base CX0 (k + 1) f fd ["worth"] (spPIn K oN oP NS) := by
  refine F.ok scPIn (fun vs H Q E h => ?_) (fun cdv A outer s H vs Q E hr h => ?_)
  · obtain ⟨v, h, rfl, _⟩ := h
    rfl
  obtain ⟨v, h, rfl, hd, nc, q⟩ := h
  refine ⟨_, pss_cons (ps_if (PW.pt (pw_or (pt_not (pt_val (pe_callB (isiK K rfl) (by rfl) mi PyProof.Rows.boot_isinstance (pa_cons (pv 0) (pa_cons (pe_bltn (v := .ty "tuple") (by rfl) mt PyProof.Rows.boot_tuple rfl) pa_nil)))))
      (pw_or1 (pt_cmpR op_eq (pe_ix ix_tup (pv 0) pe_int (fun _ _ => rfl)) pe_str (nomark _))))) (pss_one (ps_ret pe_int)) pss_nil)
    (pss_one (ps_ret (pe_ix ix_tup (pv 0) (pe_un un_neg pe_int) (fun _ _ => rfl)))), ?_⟩
  cases hd with
  | int i => exact ⟨_, rfl, _, _, _, _, false, rfl, .ty "tuple", .base (.int i), kit_ty (by decide +kernel), _, rfl, iteT q⟩
  | bl b => exact ⟨_, rfl, _, _, _, _, false, rfl, .ty "tuple", .base (.bl b), kit_ty (by decide +kernel), _, rfl, iteT q⟩
  | thing e => exact ⟨_, rfl, _, _, _, _, true, rfl, .ty "tuple", .base (.tup e), kit_ty (by decide +kernel), _, rfl, iteF ⟨_, rfl, _, _, _, _, rfl, rfl, SqT.of e, atI_nat (j := 0) rfl, rfl, _, rfl, iteT q⟩⟩
  | pair e _ _ => exact ⟨_, rfl, _, _, _, _, true, rfl, .ty "tuple", .base (.tup e), kit_ty (by decide +kernel), _, rfl, iteF ⟨_, rfl, _, _, _, _, rfl, rfl, SqT.of e, atI_nat (j := 0) rfl, rfl, _, rfl, iteF ⟨_, rfl, _, rfl, _, _, _, _, rfl, rfl, SqT.of e, by rfl, q⟩⟩⟩
  | nil =>
    obtain ⟨o, e, c⟩ := N.lk
    exact ⟨_, rfl, _, _, _, _, true, rfl, .ty "tuple", .kTuple e c, kit_ty (by decide +kernel), _, rfl, iteF ⟨_, rfl, _, _, _, _, rfl, rfl, N.tup H, atI_nat (j := 0) rfl, rfl, _, rfl, iteF ⟨_, rfl, _, rfl, _, _, _, _, rfl, rfl, N.tup H, by rfl, q⟩⟩⟩
  | more e _ _ => exact ⟨_, rfl, _, _, _, _, true, rfl, .ty "tuple", .base (.tup e), kit_ty (by decide +kernel), _, rfl, iteF ⟨_, rfl, _, _, _, _, rfl, rfl, SqT.of e, atI_nat (j := 0) rfl, rfl, _, rfl, iteF ⟨_, rfl, _, rfl, _, _, _, _, rfl, rfl, SqT.of e, by rfl, q⟩⟩⟩
  | @side _ b _ _ e _ =>
    cases b with
    | _ => exact ⟨_, rfl, _, _, _, _, true, rfl, .ty "tuple", .base (.tup e), kit_ty (by decide +kernel), _, rfl, iteF ⟨_, rfl, _, _, _, _, rfl, rfl, SqT.of e, atI_nat (j := 0) rfl, rfl, _, rfl, iteF ⟨_, rfl, _, rfl, _, _, _, _, rfl, rfl, SqT.of e, by rfl, q⟩⟩⟩
  | clo => exact nc.elim
  | putter => exact nc.elim
  | putting => exact nc.elim
/-! worths_within -/
theorem scWW : FnScope ["worth", "word"] ["worth"] (defScope tWW) := ⟨rfl, rfl, rfl, by decide +kernel, rfl, by decide +kernel, by decide +kernel⟩
theorem cutTail (x : V) (vs : List V) : cutV (x :: vs) (some 1) none = vs := by
  show ((x :: vs).take (HT.sIx (x :: vs).length (x :: vs).length none)).drop (HT.sIx (x :: vs).length 0 (some 1)) = vs
  rw [HT.sIx_none, show HT.sIx (x :: vs).length 0 (some 1) = min 1 (x :: vs).length from HT.sIx_nat _ _ 1, List.length_cons, Nat.min_eq_left (by omega), show (x :: vs).take (vs.length + 1) = x :: vs from List.take_of_length_le (by simp)]
  rfl
theorem notWhole (x : V) (vs : List V) : ¬ (HT.sIx (x :: vs).length 0 (some 1) = 0 ∧ HT.sIx (x :: vs).length (x :: vs).length none = (x :: vs).length) := by
  rw [show HT.sIx (x :: vs).length 0 (some 1) = min 1 (x :: vs).length from HT.sIx_nat _ _ 1, List.length_cons, Nat.min_eq_left (by omega)]
  rintro ⟨h, _⟩
  cases h
theorem okWW {f : Addr} {fd : FuncData} {k : Nat} (F : Fun K "worths_within" "worths_within" tWW f fd) (mi : mg "isinstance" = none) (mt : mg "tuple" = none) : FnOk P w K mg base CX0 (k + 1) f fd ["worth"] (spWi K TW InW) := by
  refine F.ok scWW (fun vs H Q E h => ?_) (fun cdv A outer s H vs Q E hr h => ?_)
  · obtain ⟨v, a, rfl, _⟩ := h
    rfl
  obtain ⟨v, a, rfl, ⟨hd, ok⟩, q⟩ := h
  refine ⟨_, pss_cons (ps_if (pt_not (pt_val (pe_callB (isiK K rfl) (by rfl) mi PyProof.Rows.boot_isinstance (pa_cons (pv 0) (pa_cons (pe_bltn (v := .ty "tuple") (by rfl) mt PyProof.Rows.boot_tuple rfl) pa_nil))))) (pss_one (ps_ret (pe_tup pa_nil))) pss_nil)
    (pss_cons (ps_set (i := 1) scWW.nd rfl (.inl rfl) (pe_ix ix_tup (pv 0) pe_int (fun _ _ => rfl)))
    (pss_cons (ps_if (pt_cmpR op_in_seq (pv 1) (pe_tup (pa_cons pe_str (pa_cons pe_str (pa_cons pe_str pa_nil)))) rfl) (pss_one (ps_ret (pe_slice sl_tup (pv 0) (po_some pe_int) po_none))) pss_nil)
    (pss_cons (ps_if (pt_cmpR op_eq (pv 1) pe_str (nomark _)) (pss_one (ps_ret (pe_ix ix_tup (pv 0) pe_int (fun _ _ => rfl)))) pss_nil)
    (pss_cons (ps_if (pt_cmpR op_eq (pv 1) pe_str (nomark _)) (pss_one (ps_ret (pe_ix ix_tup (pv 0) pe_int (fun _ _ => rfl)))) pss_nil)
    (pss_one (ps_ret (pe_tup pa_nil))))))), ?_⟩
  have none : ∀ (G : Hp), Same H G → TW.kids a = [] → ∀ p, G p = Option.none → Q (.ref p) (upd G p (.tup [])) := fun G s e p np => q p [] _ (s.trans (newS np)) (.inl (SqT.of upd_same)) (by rw [e]; exact .nil)
  cases a with
  | int i =>
    rw [Wt.d] at hd
    cases hd
    exact ⟨_, rfl, _, _, _, _, false, rfl, .ty "tuple", .base (.int i), kit_ty (by decide +kernel), _, rfl, iteT ⟨Nat.zero_le _, fun p np => none H (Same.refl _) rfl p np⟩⟩
  | bl i =>
    rw [Wt.d] at hd
    cases hd
    exact ⟨_, rfl, _, _, _, _, false, rfl, .ty "tuple", .base (.bl i), kit_ty (by decide +kernel), _, rfl, iteT ⟨Nat.zero_le _, fun p np => none H (Same.refl _) rfl p np⟩⟩
  | thing n i =>
    rw [Wt.d] at hd
    cases hd with
    | tup e t =>
    cases t with
    | cons t1 t =>
    cases t1
    refine ⟨_, rfl, _, _, _, _, true, rfl, .ty "tuple", .base (.tup e), kit_ty (by decide +kernel), _, rfl, iteF ⟨_, rfl, _, _, _, _, rfl, rfl, SqT.of e, atI_nat (j := 0) rfl, _, rfl, (by show 3 ≤ sizeLine; decide), fun p np => ⟨_, _, rfl, .inr (SqT.of upd_same), rfl, rfl, _, rfl, iteF ?_⟩⟩⟩
    exact ⟨_, rfl, rfl, _, rfl, iteF ⟨_, rfl, rfl, _, rfl, iteF ⟨Nat.zero_le _, fun p' np' => none _ (newS np) rfl p' np'⟩⟩⟩
  | pair x y =>
    rw [Wt.d] at hd
    rw [Wt.ok] at ok
    cases hd with
    | tup e t =>
    cases t with
    | cons t1 t =>
    cases t1
    refine ⟨_, rfl, _, _, _, _, true, rfl, .ty "tuple", .base (.tup e), kit_ty (by decide +kernel), _, rfl, iteF ⟨_, rfl, _, _, _, _, rfl, rfl, SqT.of e, atI_nat (j := 0) rfl, _, rfl, (by show 3 ≤ sizeLine; decide), fun p np => ⟨_, _, rfl, .inr (SqT.of upd_same), rfl, rfl, _, rfl, iteT ?_⟩⟩⟩
    have s1 := newS (o := .tup [.str "pair", .str "left", .str "right"]) np
    refine ⟨_, rfl, 1, rfl, _, _, rfl, SqT.of (s1 _ _ e), notWhole _ _, fun p' np' => ?_⟩
    rw [cutTail]
    refine q p' _ _ (s1.trans (newS np')) (.inl (SqT.of upd_same)) ?_
    cases t with
    | cons t2 t =>
    cases t with
    | cons t3 t =>
    cases t
    exact .cons ⟨t2.same (s1.trans (newS np')), ok.1⟩ (.cons ⟨t3.same (s1.trans (newS np')), ok.2⟩ .nil)
  | side b x =>
    rw [Wt.ok] at ok
    exact ok.elim
  | list xs =>
    rw [Wt.d] at hd
    rw [Wt.ok] at ok
    cases hd with
    | tup e t =>
    cases t with
    | cons t1 t =>
    cases t with
    | cons t2 t =>
    cases t1
    cases t
    cases t2 with
    | tup e2 t2 =>
    refine ⟨_, rfl, _, _, _, _, true, rfl, .ty "tuple", .base (.tup e), kit_ty (by decide +kernel), _, rfl, iteF ⟨_, rfl, _, _, _, _, rfl, rfl, SqT.of e, atI_nat (j := 0) rfl, _, rfl, (by show 3 ≤ sizeLine; decide), fun p np => ⟨_, _, rfl, .inr (SqT.of upd_same), rfl, rfl, _, rfl, iteF ?_⟩⟩⟩
    have s1 := newS (o := .tup [.str "pair", .str "left", .str "right"]) np
    refine ⟨_, rfl, rfl, _, rfl, iteT ⟨_, rfl, _, _, _, _, rfl, rfl, SqT.of (s1 _ _ e), atI_nat (j := 1) rfl, ?_⟩⟩
    exact q _ _ _ s1 (.inl (SqT.of (s1 _ _ e2))) (Paired.andP (DdL.pairs t2) fun x hx y r => ⟨r.same s1, oks_at ok x hx⟩)
end
end Kq

/-! list(zip(a, b)) -/
namespace Kz
open PySem PySem.Spec PyProof.Rows L2
section
variable {prog : Program} {w : World} {A : Around} {E : Value → Shared → Prop} {s : Shared} {z TI TO i1 i2 T : Addr} {fp1 fp2 : List Addr} {n1 n2 i : Nat} {P1 P2 : Nat → Value → Prop} {St1 St2 : Nat → Heap → Prop} {f : Bool} {oT : Obj}
/-- a turn of the zip while its tuple T is out -/
theorem outItem {Q : Value → Shared → Prop} (S : ZipSep2 z TI TO i1 i2 fp1 fp2) (D1 : Draws prog w A i1 fp1 n1 P1 St1) (D2 : Draws prog w A i2 fp2 n2 P2 St2)
    (hz : IsZipHeld s.heap z TI TO T f) (hT : s.heap.get? T = some oT) (hTI : IsTupOf2 s.heap TI (.ref i1) (.ref i2)) (st1 : St1 i s.heap) (st2 : St2 i s.heap) (l1 : i < n1) (l2 : i < n2)
    (q : ∀ x1 x2 h' tk, P1 i x1 → P2 i x2 → IsZipHeld h' z TI TO T true → St1 (i + 1) h' → St2 (i + 1) h' → IsTupOf2 h' s.heap.objs.size x1 x2 → h'.objs.size = s.heap.objs.size + 1 →
      (∀ c o, c ≠ z → c ≠ i1 → c ≠ i2 → s.heap.get? c = some o → h'.get? c = some o) → Q (.ref s.heap.objs.size) { s with heap := h', toks := tk }) :
    wpAny (model prog w) A (Builtin.«zip.__next__» ⟨[.ref z], []⟩) (fun fin s' => ∃ v, fin = .done (.ret v) ∧ Q v s') E s := by
  obtain ⟨hp, g, d, tk0, os⟩ := s
  show wpAny _ _ (field (.ref z) 2 >>= _) _ _ _
  refine wpAny_bind (wpAny_field hz rfl (x := .bool false) rfl ?_)
  show wpAny _ _ (field (.ref z) 3 >>= _) _ _ _
  refine wpAny_bind (wpAny_field hz rfl (x := .ref TI) rfl ?_)
  refine wpAny_bind (wpAny_seqItems hTI rfl ?_)
  show wpAny _ _ (Builtin.SmallTypes.ownedTupleIsFree (.ref z) >>= _) _ _ _
  refine wpAny_bind (wpAny_tupleHeld_zip hz hT fun ha za sa => ?_)
  replace sa : Heap.SameBut z hp ha := sa
  simp only [Bool.false_eq_true, if_false]
  refine wpAny_bind ?_
  rw [← Array.forIn_toList]
  simp only [List.forIn_cons, List.forIn_nil]
  refine wpAny_bind (wpAny_bind (wpAny_holding ?_))
  show wpAny _ _ (Builtin.SmallTypes.nextOf (.ref i1) >>= _) _ _ ⟨ha, g, d, tk0, os⟩
  refine wpAny_bind (D1.item i ⟨ha, g, d, tk0, os⟩ _ _ l1 (D1.over st1 sa S.zf1) fun x1 hb tkb px1 tb sb => wpAny_pure ?_)
  replace sb : Heap.SameBut i1 ha hb := sb
  refine wpAny_pure ?_
  refine wpAny_bind (wpAny_bind (wpAny_holding ?_))
  show wpAny _ _ (Builtin.SmallTypes.nextOf (.ref i2) >>= _) _ _ ⟨hb, g, d, tkb, os⟩
  refine wpAny_bind (D2.item i ⟨hb, g, d, tkb, os⟩ _ _ l2 (D2.over (D2.over st2 sa S.zf2) sb S.sep1_2) fun x2 hc tkc px2 tc sc => wpAny_pure ?_)
  replace sc : Heap.SameBut i2 hb hc := sc
  refine wpAny_pure (wpAny_pure ?_)
  show wpAny _ _ (newTuple [x1, x2] >>= _) _ _ ⟨hc, g, d, tkc, os⟩
  refine wpAny_bind (wpAny_newTuple ?_)
  have sz : hc.objs.size = hp.objs.size := by rw [sc.1, sb.1, sa.1]
  have zc : IsZipHeld hc z TI TO T true := sc.extBut _ _ S.zi2 (sb.extBut _ _ S.zi1 za)
  have kc : ∀ c o, c ≠ z → c ≠ i1 → c ≠ i2 → hp.get? c = some o → hc.get? c = some o := fun c o c1 c2 c3 e => sc.extBut _ _ c3 (sb.extBut _ _ c2 (sa.extBut _ _ c1 e))
  have ub : ∀ b o, hc.get? b = some o → (hc.push { cls := .type "tuple", data := .seq #[x1, x2] }).get? b = some o := fun b o e => Heap.get?_push_of_some _ e
  refine wpAny_pure ⟨_, rfl, ?_⟩
  show Q (.ref hc.objs.size) _
  have pp : IsTupOf2 (hc.push { cls := .type "tuple", data := .seq #[x1, x2] }) hc.objs.size x1 x2 := Heap.get?_push_size _ rfl
  have ps : (hc.push { cls := .type "tuple", data := .seq #[x1, x2] }).objs.size = hc.objs.size + 1 := Heap.size_push ..
  rw [sz] at pp ps ⊢
  exact q x1 x2 _ tkc px1 px2 (ub _ _ zc) (D1.frame _ _ _ (D1.over tb sc S.sep2_1) fun b _ o e => ub b o e) (D2.frame _ _ _ tc fun b _ o e => ub b o e) pp ps fun c o c1 c2 c3 e => ub _ _ (kc c o c1 c2 c3 e)
theorem outEnd {Q : Fin → Shared → Prop} (S : ZipSep2 z TI TO i1 i2 fp1 fp2) (D1 : Draws prog w A i1 fp1 n1 P1 St1) (D2 : Draws prog w A i2 fp2 n2 P2 St2)
    (hz : IsZipHeld s.heap z TI TO T f) (hT : s.heap.get? T = some oT) (hTI : IsTupOf2 s.heap TI (.ref i1) (.ref i2)) (st1 : St1 i s.heap) (st2 : St2 i s.heap) (l1 : i ≤ n1) (l2 : i ≤ n2) (last : i = n1 ∨ i = n2)
    (q : ∀ h' tk e, (∀ c o, c ≠ z → c ≠ i1 → c ≠ i2 → s.heap.get? c = some o → h'.get? c = some o) → (∃ o, h'.get? e = some o ∧ o.cls = .type "StopIteration") → E (.ref e) { s with heap := h', toks := tk }) :
    wpAny (model prog w) A (Builtin.«zip.__next__» ⟨[.ref z], []⟩) Q E s := by
  obtain ⟨hp, g, d, tk0, os⟩ := s
  show wpAny _ _ (field (.ref z) 2 >>= _) _ _ _
  refine wpAny_bind (wpAny_field hz rfl (x := .bool false) rfl ?_)
  show wpAny _ _ (field (.ref z) 3 >>= _) _ _ _
  refine wpAny_bind (wpAny_field hz rfl (x := .ref TI) rfl ?_)
  refine wpAny_bind (wpAny_seqItems hTI rfl ?_)
  show wpAny _ _ (Builtin.SmallTypes.ownedTupleIsFree (.ref z) >>= _) _ _ _
  refine wpAny_bind (wpAny_tupleHeld_zip hz hT fun ha za sa => ?_)
  replace sa : Heap.SameBut z hp ha := sa
  simp only [Bool.false_eq_true, if_false]
  refine wpAny_bind ?_
  rw [← Array.forIn_toList]
  simp only [List.forIn_cons, List.forIn_nil]
  refine wpAny_bind (wpAny_bind (wpAny_holding ?_))
  show wpAny _ _ (Builtin.SmallTypes.nextOf (.ref i1) >>= _) _ _ ⟨ha, g, d, tk0, os⟩
  by_cases lt : i < n1
  · refine wpAny_bind (D1.item i ⟨ha, g, d, tk0, os⟩ _ _ lt (D1.over st1 sa S.zf1) fun x1 hb tkb px1 tb sb => wpAny_pure ?_)
    replace sb : Heap.SameBut i1 ha hb := sb
    refine wpAny_pure ?_
    refine wpAny_bind (wpAny_bind (wpAny_holding ?_))
    show wpAny _ _ (Builtin.SmallTypes.nextOf (.ref i2) >>= _) _ _ ⟨hb, g, d, tkb, os⟩
    have e2 : i = n2 := by omega
    refine wpAny_bind (D2.done ⟨hb, g, d, tkb, os⟩ _ _ (by rw [← e2]; exact D2.over (D2.over st2 sa S.zf2) sb S.sep1_2) fun hc e sc he => ?_)
    replace sc : Heap.ExtBut i2 hb hc := sc
    exact q hc tkb e (fun c o c1 c2 c3 u => sc _ _ c3 (sb.extBut _ _ c2 (sa.extBut _ _ c1 u))) he
  · have e1 : i = n1 := by omega
    refine wpAny_bind (D1.done ⟨ha, g, d, tk0, os⟩ _ _ (by rw [← e1]; exact D1.over st1 sa S.zf1) fun hb e sb he => ?_)
    replace sb : Heap.ExtBut i1 ha hb := sb
    exact q hb tk0 e (fun c o c1 c2 c3 u => sb _ _ c2 (sa.extBut _ _ c1 u)) he
/-- the zip before its turn i: nothing is out yet, or a tuple is -/
def Zs (z TI TO : Addr) (h : Heap) : Prop := (∃ o, h.get? TO = some o) ∧ ((IsZip h z TI TO .none ∧ ∃ a b, IsTupOf2 h TO a b) ∨ ∃ T f oT, IsZipHeld h z TI TO T f ∧ h.get? T = some oT ∧ T ≠ z ∧ oT.cls = .type "tuple")
theorem zNext {Q : Option Value → Shared → Prop} (S : ZipSep2 z TI TO i1 i2 fp1 fp2) (D1 : Draws prog w A.in1 i1 fp1 n1 P1 St1) (D2 : Draws prog w A.in1 i2 fp2 n2 P2 St2)
    (hz : Zs z TI TO s.heap) (hTI : IsTupOf2 s.heap TI (.ref i1) (.ref i2)) (hi : ∀ T, s.heap.get? T = none → T ≠ i1 ∧ T ≠ i2) (ho : ∀ T f oT, IsZipHeld s.heap z TI TO T f → s.heap.get? T = some oT → T ≠ i1 ∧ T ≠ i2) (st1 : St1 i s.heap) (st2 : St2 i s.heap) (l1 : i < n1) (l2 : i < n2)
    (q : ∀ x1 x2 h' tk, P1 i x1 → P2 i x2 → Zs z TI TO h' → IsTupOf2 h' TI (.ref i1) (.ref i2) → (∀ T f oT, IsZipHeld h' z TI TO T f → h'.get? T = some oT → T ≠ i1 ∧ T ≠ i2) → St1 (i + 1) h' → St2 (i + 1) h' → IsTupOf2 h' s.heap.objs.size x1 x2 → h'.objs.size = s.heap.objs.size + 1 →
      (∀ c o, c ≠ z → c ≠ TO → c ≠ i1 → c ≠ i2 → s.heap.get? c = some o → h'.get? c = some o) → Q (some (.ref s.heap.objs.size)) { s with heap := h', toks := tk }) :
    wpAny (model prog w) A (pyNext (.ref z)) Q E s := by
  obtain ⟨⟨oO, eO⟩, hz⟩ := hz
  rcases hz with ⟨hz, a, b, hTO⟩ | ⟨T, f, oT, hz, hT, hne, hcl⟩
  · refine wpAny_pyNext_zipD2_item S D1 D2 hz hTI hTO st1 st2 l1 l2 fun x1 x2 h' tk p1 p2 z' TO' t1 t2 nw sz kp => ?_
    have lt : z < s.heap.objs.size := Heap.lt_size hz
    have nf : s.heap.get? s.heap.objs.size = none := by
      cases e : s.heap.get? s.heap.objs.size with
      | none => rfl
      | some o => exact absurd (Heap.lt_size e) (Nat.lt_irrefl _)
    refine q x1 x2 h' tk p1 p2 ⟨⟨_, TO'⟩, .inr ⟨s.heap.objs.size, false, _, z', nw, Nat.ne_of_gt lt, rfl⟩⟩ (kp _ _ S.TIz S.TITO S.TIi1 S.TIi2 hTI) (fun T f oT hz2 hT2 => ?_) t1 t2 nw sz kp
    have e := z'.symm.trans hz2
    have e2 : T = s.heap.objs.size := by
      injection e with e
      injection e with _ _ e _
      injection e with e
      have q0 := congrArg (fun (t : Array Value) => t[0]?) e
      have q1 : some (rawInt (s.heap.objs.size : Int)) = some (rawInt (T : Int)) := q0
      injection q1 with q1
      injection q1 with q1
      exact (Int.ofNat.inj q1).symm
    rw [e2]
    exact hi _ nf
  · have ty : s.TypeIs (.ref z) "zip" := ⟨_, hz, rfl⟩
    unfold pyNext
    refine wpAny_bind (wpAny_attempt (wpAny_callSpecial?_slot (name := Str.ofString "__next__") ty F.slot_zip_next (wpAny_call_entry F.slot_zip_next ty F.entry_zip_next
      (outItem S D1 D2 hz hT hTI st1 st2 l1 l2 fun x1 x2 h' tk p1 p2 z' t1 t2 nw sz kp => wpAny_pure ?_) (F.args_zip_next_1 _))))
    obtain ⟨n1, n2⟩ := ho T f oT hz hT
    have hT' := kp _ _ hne n1 n2 hT
    refine q x1 x2 h' tk p1 p2 ⟨⟨_, kp _ _ S.TOz S.Ti1 S.Ti2 eO⟩, .inr ⟨T, true, oT, z', hT', hne, hcl⟩⟩ (kp _ _ S.TIz S.TIi1 S.TIi2 hTI) (fun T2 f2 o2 hz2 hT2 => ?_) t1 t2 nw sz fun c o c1 _ c3 c4 e => kp c o c1 c3 c4 e
    have e := z'.symm.trans hz2
    have e2 : T2 = T := by
      injection e with e
      injection e with _ _ e _
      injection e with e
      have q0 := congrArg (fun (t : Array Value) => t[0]?) e
      have q1 : some (rawInt (T : Int)) = some (rawInt (T2 : Int)) := q0
      injection q1 with q1
      injection q1 with q1
      exact (Int.ofNat.inj q1).symm
    rw [e2]
    exact ⟨n1, n2⟩
theorem zDone {Q : Option Value → Shared → Prop} (S : ZipSep2 z TI TO i1 i2 fp1 fp2) (D1 : Draws prog w A.in1 i1 fp1 n1 P1 St1) (D2 : Draws prog w A.in1 i2 fp2 n2 P2 St2)
    (hz : Zs z TI TO s.heap) (hTI : IsTupOf2 s.heap TI (.ref i1) (.ref i2)) (st1 : St1 i s.heap) (st2 : St2 i s.heap) (l1 : i ≤ n1) (l2 : i ≤ n2) (last : i = n1 ∨ i = n2)
    (q : ∀ h' tk, (∀ c o, c ≠ z → c ≠ TO → c ≠ i1 → c ≠ i2 → s.heap.get? c = some o → h'.get? c = some o) → Q none { s with heap := h', toks := tk }) :
    wpAny (model prog w) A (pyNext (.ref z)) Q E s := by
  obtain ⟨⟨oO, eO⟩, hz⟩ := hz
  rcases hz with ⟨hz, a, b, hTO⟩ | ⟨T, f, oT, hz, hT, hne, hcl⟩
  · exact wpAny_pyNext_zipD2_end S D1 D2 hz hTI hTO st1 st2 l1 l2 last q
  · have ty : s.TypeIs (.ref z) "zip" := ⟨_, hz, rfl⟩
    unfold pyNext
    refine wpAny_bind (wpAny_attempt (wpAny_callSpecial?_slot (name := Str.ofString "__next__") ty F.slot_zip_next (wpAny_call_entry F.slot_zip_next ty F.entry_zip_next
      (outEnd S D1 D2 hz hT hTI st1 st2 l1 l2 last fun h' tk e kp he => ?_) (F.args_zip_next_1 _))))
    obtain ⟨o, ho, hc⟩ := he
    refine wpAny_bind (wpAny_isInstance (T := "StopIteration") (b := true) ⟨o, ho, hc⟩ isSubtype_stop ?_)
    exact wpAny_pure (q _ _ fun c o c1 _ c3 c4 e => kp c o c1 c3 c4 e)
end
theorem nolen_zip : typeLookup (.type "zip") "__len__" = pure none := by rw [typeLookup_type, builtinLookup_eq_fast]; kernel_rfl
theorem nohint_zip : typeLookup (.type "zip") "__length_hint__" = pure none := by rw [typeLookup_type, builtinLookup_eq_fast]; kernel_rfl
/-- the pairs stand -/
def Prs (G : Hp) (ts : List Addr) (xs ys : List V) : Prop := ∀ (j : Nat) (t : Addr) (x y : V), ts[j]? = some t → xs[j]? = some x → ys[j]? = some y → G t = some (.tup [x, y])
section
variable {A : Around} {X : Cx} {pins : List (Addr × Obj)} {σ : L2.St} {z TI TO i1 i2 D : Addr} {fp1 fp2 : List Addr} {n1 n2 n : Nat} {P1 P2 : Nat → Value → Prop} {St1 St2 : Nat → Heap → Prop} {R : Result → Shared → Prop} {res : Value} {xs ys : List V} {H : Hp}
theorem zLoop (S : ZipSep2 z TI TO i1 i2 fp1 fp2) (D1 : Draws X.prog X.w A.in1.in1 i1 fp1 n1 P1 St1) (D2 : Draws X.prog X.w A.in1.in1 i2 fp2 n2 P2 St2) (hn : n = min n1 n2) (hz : n ≤ sizeLine)
    (r1 : ∀ i v, P1 i v → ∃ x, xs[i]? = some x ∧ RelV x v) (r2 : ∀ i v, P2 i v → ∃ y, ys[i]? = some y ∧ RelV y v) (nD1 : D ∉ fp1) (nD2 : D ∉ fp2) (hD : H D = none)
    (q : ∀ (s' : Shared) (G' : Hp) (ts : List Addr), Inv X pins σ G' s' → Same H G' → G' D = some (.lst (ts.map V.ref)) → ts.length = n → Prs G' ts xs ys → (∀ t ∈ ts, H t = none) → R (.ok (.ret res)) s') :
    ∀ (k i : Nat) (s : Shared) (G : Hp) (ts : List Addr), n - i = k → i ≤ n → Inv X pins σ G s → (∀ b ∈ [z, TI, TO, i1, i2], FpOk X pins G b) → Zs z TI TO s.heap → IsTupOf2 s.heap TI (.ref i1) (.ref i2) →
      (∀ T f oT, IsZipHeld s.heap z TI TO T f → s.heap.get? T = some oT → T ≠ i1 ∧ T ≠ i2) → St1 i s.heap → St2 i s.heap → Same H G → G D = some (.lst (ts.map V.ref)) → ts.length = i → Prs G ts xs ys → (∀ t ∈ ts, H t = none) →
      codeAny (model X.prog X.w) A (.builtin "list.extend.loop" ⟨[.ref D, .ref z, res], []⟩) R s := by
  intro k
  induction k with
  | zero =>
    intro i s G ts hk hi I hf hzs hTI ho t1 t2 sm gD lt pr nw
    have ei : i = n := by omega
    refine codeAny_builtin F.entry_extend_loop ?_
    rw [Around.under_plainId F.plain_extend_loop _]
    show wpAny _ A.in1 (pyNext (.ref z) >>= _) _ _ s
    refine wpAny_bind (zDone S D1 D2 hzs hTI t1 t2 (by omega) (by omega) (by omega) fun h' tk kp => ?_)
    refine wpAny_pure (q _ G ts (I.turnedL (ch := [z, TI, TO, i1, i2]) (fun c o hb e => kp c o (fun u => hb (by simp [u])) (fun u => hb (by simp [u])) (fun u => hb (by simp [u])) (fun u => hb (by simp [u])) e) hf) sm gD (by omega) pr nw)
  | succ k ih =>
    intro i s G ts hk hi I hf hzs hTI ho t1 t2 sm gD lt pr nw
    have hlt : i < n := by omega
    have live : ∀ b ∈ [z, TI, TO, i1, i2], b < s.heap.objs.size := fun b hb => by
      have hzl : z < s.heap.objs.size := by
        rcases hzs.2 with ⟨e, _⟩ | ⟨_, _, _, e, _⟩
        · exact Heap.lt_size e
        · exact Heap.lt_size e
      have hb : b = z ∨ b = TI ∨ b = TO ∨ b = i1 ∨ b = i2 := by simpa using hb
      rcases hb with e | e | e | e | e
      · rw [e]; exact hzl
      · rw [e]; exact Heap.lt_size hTI
      · rw [e]; obtain ⟨_, e⟩ := hzs.1; exact Heap.lt_size e
      · rw [e]; obtain ⟨_, e⟩ := D1.live _ _ t1; exact Heap.lt_size e
      · rw [e]; obtain ⟨_, e⟩ := D2.live _ _ t2; exact Heap.lt_size e
    have nDc : ∀ b ∈ [z, TI, TO, i1, i2], D ≠ b := fun b hb e => by
      have h0 := (hf b hb).1
      rw [← e, gD] at h0
      cases h0
    refine codeAny_builtin F.entry_extend_loop ?_
    rw [Around.under_plainId F.plain_extend_loop _]
    show wpAny _ A.in1 (pyNext (.ref z) >>= _) _ _ s
    refine wpAny_bind (zNext S D1 D2 hzs hTI (fun T e => ?_) ho t1 t2 (by omega) (by omega) fun x1 x2 h' tk p1 p2 zs' ti' ho' u1 u2 nt sz kp => ?_)
    · obtain ⟨_, e1⟩ := D1.live _ _ t1
      obtain ⟨_, e2⟩ := D2.live _ _ t2
      exact ⟨fun w => (by rw [w, e1] at e; cases e), fun w => (by rw [w, e2] at e; cases e)⟩
    obtain ⟨x, hx, rx⟩ := r1 i x1 p1
    obtain ⟨y, hy, ry⟩ := r2 i x2 p2
    have gT : G s.heap.objs.size = none := I.hok.fresh (Nat.le_refl _)
    have new : ObjOk X.prog X.w (upd G s.heap.objs.size (.tup [x, y])) h' s.heap.objs.size (.tup [x, y]) := ⟨by show 2 ≤ sizeLine; decide, [x1, x2], .cons rx (.cons ry .nil), ⟨_, nt, rfl, _, rfl⟩⟩
    have I1 : Inv X pins σ (upd G s.heap.objs.size (.tup [x, y])) { s with heap := h', toks := tk } :=
      I.turnedNew (ch := [z, TI, TO, i1, i2]) (fun c o hb e => kp c o (fun u => hb (by simp [u])) (fun u => hb (by simp [u])) (fun u => hb (by simp [u])) (fun u => hb (by simp [u])) e) hf (Nat.le_refl _) new
    have DT : D ≠ s.heap.objs.size := ne_of_none gD gT
    have gD1 : upd G s.heap.objs.size (.tup [x, y]) D = some (.lst (ts.map V.ref)) := by rw [upd_ne DT]; exact gD
    obtain ⟨_, its, c0, rv, _, raw⟩ := I1.lstM gD1
    have ln := rv.length
    rw [List.length_map] at ln
    show wpAny _ A.in1 (updateSeq D (·.push (.ref s.heap.objs.size)) >>= _) _ _ _
    refine wpAny_bind ?_
    refine wpAny_updateSeq raw rfl ?_ (by rw [List.size_toArray]; omega) (by rw [Array.size_push, List.size_toArray]; omega)
    have I2 := I1.lset (ys := (ts ++ [s.heap.objs.size]).map V.ref) (its' := its ++ [Value.ref s.heap.objs.size]) (t' := tk) gD1 raw (f := (·.push (Value.ref s.heap.objs.size))) (by simp) (by rw [List.map_append]; exact rv.append (.cons rfl .nil)) (by rw [List.length_map, List.length_append]; simp only [List.length_cons, List.length_nil]; omega)
    have oth : ∀ b o, b ≠ D → h'.get? b = some o → (h'.update D (Obj.mapSeq (·.push (Value.ref s.heap.objs.size)))).get? b = some o := fun b o hb e => (Heap.get?_update_other _ _ (Ne.symm hb)).trans e
    have smT : ∀ t o, G t = some o → t ≠ D → upd (upd G s.heap.objs.size (.tup [x, y])) D (.lst ((ts ++ [s.heap.objs.size]).map V.ref)) t = some o := fun t o e hd => by
      rw [upd_ne hd, upd_ne (ne_of_none e gT)]
      exact e
    refine wpAny_pure ⟨plainId_quiet F.plain_extend_loop _, ih (i + 1) _ _ (ts ++ [s.heap.objs.size]) (by omega) hlt I2 (fun b hb => ?_) ?_ (oth _ _ (Ne.symm (nDc TI (by simp))) ti') (fun T f oT e1 e2 => ?_) (D1.frame _ _ _ u1 fun b hb o e => oth b o (fun w => nD1 (w ▸ hb)) e) (D2.frame _ _ _ u2 fun b hb o e => oth b o (fun w => nD2 (w ▸ hb)) e)
      ?sm upd_same (by rw [List.length_append]; simp only [List.length_cons, List.length_nil]; omega) ?pr (fun t ht => ?_)⟩
    · refine ⟨?_, (hf b hb).2⟩
      rw [upd_ne (Ne.symm (nDc b hb)), upd_ne (Nat.ne_of_lt (live b hb))]
      exact (hf b hb).1
    · obtain ⟨⟨oO, eO⟩, zz⟩ := zs'
      refine ⟨⟨oO, oth _ _ (Ne.symm (nDc TO (by simp))) eO⟩, ?_⟩
      rcases zz with ⟨hz, a, b, hTO⟩ | ⟨T, f, oT, hz, hT, hne, hcl⟩
      · exact .inl ⟨oth _ _ (Ne.symm (nDc z (by simp))) hz, a, b, oth _ _ (Ne.symm (nDc TO (by simp))) hTO⟩
      · refine .inr ⟨T, f, oT, oth _ _ (Ne.symm (nDc z (by simp))) hz, oth _ _ (fun w => ?_) hT, hne, hcl⟩
        rw [w] at hT
        have q0 := raw.symm.trans hT
        injection q0 with q0
        rw [← q0] at hcl
        injection hcl with hcl
        exact absurd hcl (by decide)
    · have e1 : IsZipHeld h' z TI TO T f := (Heap.get?_update_other _ _ (nDc z (by simp))).symm.trans e1
      by_cases w : D = T
      · exact ⟨fun u => nDc i1 (by simp) (w.trans u), fun u => nDc i2 (by simp) (w.trans u)⟩
      · exact ho' T f oT e1 ((Heap.get?_update_other _ _ w).symm.trans e2)
    case sm => exact fun t o e => smT t o (sm t o e) (fun w => by rw [w, hD] at e; cases e)
    case pr =>
      intro j t a b e1 e2 e3
      by_cases hj : j < ts.length
      · rw [List.getElem?_append_left hj] at e1
        have g := pr j t a b e1 e2 e3
        exact smT t _ g fun w => by rw [w, gD] at g; cases g
      · have hj2 : j < (ts ++ [s.heap.objs.size]).length := (List.getElem?_eq_some_iff.mp e1).1
        rw [List.length_append] at hj2
        simp only [List.length_cons, List.length_nil] at hj2
        have ej : j = i := by omega
        subst ej
        rw [List.getElem?_append_right (by omega), show j - ts.length = 0 by omega] at e1
        cases e1
        rw [hx] at e2
        rw [hy] at e3
        cases e2
        cases e3
        rw [upd_ne (Ne.symm DT)]
        exact upd_same
    · rcases List.mem_append.mp ht with h | h
      · exact nw t h
      · rw [List.mem_singleton.mp h]
        cases e : H s.heap.objs.size with
        | none => rfl
        | some o => rw [sm _ _ e] at gT; cases gT
/-- listExtendWith of a zip -/
theorem zGrow {s : Shared} (T : s.TypeIs (.ref z) "zip") (hz : IsZip s.heap z TI TO .none) (hne : D ≠ z) (eD : s.heap.get? D = some { cls := .type "list", data := .seq #[] })
    (k : ∀ h', (∀ b o, b ≠ D → s.heap.get? b = some o → h'.get? b = some o) → (∃ c0, h'.get? D = some { cls := .type "list", data := .seq #[] c0 }) → codeAny (model X.prog X.w) A (.builtin "list.extend.loop" ⟨[.ref D, .ref z, res], []⟩) R { s with heap := h' }) :
    wpAny (model X.prog X.w) A.in1 (Builtin.List.listExtendWith (.ref D) (.ref z) res)
      (fun fin s' => match fin with
        | .done f => R (.ok f) s'
        | .again c' => c'.quiet = true ∧ codeAny (model X.prog X.w) A c' R s') (fun e s' => R (.error e) s') s := by
  unfold Builtin.List.listExtendWith
  refine wpAny_bind (wpAny_typeOf T ?_)
  have no : Builtin.List.listSameRef (.ref D) (.ref z) = false := by simp [Builtin.List.listSameRef, hne]
  rw [if_neg (by rw [no]; decide)]
  refine wpAny_bind (wpAny_pyIter_zip hz ?_)
  refine wpAny_bind (wpAny_holding ?_)
  unfold Builtin.List.listLengthHint
  refine wpAny_bind (wpAny_specialOf T nolen_zip ?_)
  show wpAny _ A.in1 (specialOf (.ref z) (Str.ofString "__length_hint__") >>= _) _ _ _
  refine wpAny_bind (wpAny_specialOf T nohint_zip ?_)
  refine wpAny_pure ?_
  show wpAny _ A.in1 (rule "list.extend.makes-room" >>= fun _ => Builtin.List.listTouch (.ref D) >>= fun _ => again (.builtin "list.extend.loop" ⟨[.ref D, .ref z, res], []⟩)) _ _ _
  refine wpAny_bind (wpAny_rule (wpAny_bind ?_))
  show wpAny _ A.in1 (updateSeq D (·.push .none) >>= fun _ => updateSeq D (·.pop)) _ _ _
  refine wpAny_bind (wpAny_updateSeq eD rfl ?_)
  have e2 := Heap.get?_update_self (Obj.mapSeq (·.push Value.none)) eD rfl
  refine wpAny_updateSeq e2 rfl ?_
  have e3 := Heap.get?_update_self (Obj.mapSeq (·.pop)) e2 rfl
  exact wpAny_pure ⟨plainId_quiet F.plain_extend_loop _, k _ (fun b o hb e => (Heap.get?_update_other _ _ (Ne.symm hb)).trans ((Heap.get?_update_other _ _ (Ne.symm hb)).trans e)) ⟨_, e3⟩⟩
theorem neN (a b : Nat) (h : a < b ∨ b < a) : a ≠ b := by omega
theorem nin2 (D B l : Nat) (h1 : D < B ∨ B < D) (h2 : D < l ∨ l < D) : D ∉ [B, l] := by
  simp only [List.mem_cons, List.not_mem_nil, or_false]
  omega
theorem sepN (B l1 l2 : Nat) (h1 : l1 < B) (h2 : l2 < B) : ZipSep2 (B + 4) (B + 2) (B + 3) B (B + 1) [B, l1] [B + 1, l2] :=
  ⟨neN _ _ (by omega), neN _ _ (by omega), neN _ _ (by omega), neN _ _ (by omega), List.mem_cons_self, nin2 _ _ _ (by omega) (by omega), nin2 _ _ _ (by omega) (by omega), neN _ _ (by omega), List.mem_cons_self,
    nin2 _ _ _ (by omega) (by omega), nin2 _ _ _ (by omega) (by omega), nin2 _ _ _ (by omega) (by omega), nin2 _ _ _ (by omega) (by omega)⟩
theorem ninN (D B l : Nat) (h : B < D) (hl : l < D) : D ∉ [B, l] := by
  simp only [List.mem_cons, List.not_mem_nil, or_false]
  omega
theorem inN (B b : Nat) (h : b = B + 4 ∨ b = B + 2 ∨ b = B + 3 ∨ b = B ∨ b = B + 1) : B ≤ b ∧ b < B + 5 := by omega
theorem vback {xs : List V} {its : List Value} {i : Nat} {v : Value} (r : Vals xs its) (e : its[i]? = some v) : ∃ x, xs[i]? = some x ∧ RelV x v := by
  have h := (List.getElem?_eq_some_iff.mp e).1
  rw [← r.length] at h
  obtain ⟨u, hu, ru⟩ := r.get (List.getElem?_eq_getElem h)
  rw [e] at hu
  cases hu
  exact ⟨_, List.getElem?_eq_getElem h, ru⟩
/-- what list(zip(a, b)) asks -/
def tZipL (K : PySem.W.Frag) (ta : TA) : TE := fun σ H Q => ta σ H fun vs G => ∃ (a b : Addr) (xs ys : List V), vs = [.ref a, .ref b] ∧ ((SqL K G a xs ∧ SqL K G b ys) ∨ (SqT K G a xs ∧ SqT K G b ys)) ∧
  ∀ (q : Addr) (ts : List Addr) (F : Hp), Same G F → G q = none → F q = some (.lst (ts.map V.ref)) → ts.length = min xs.length ys.length → Prs F ts xs ys → (∀ t ∈ ts, G t = none) → Q (.ref q) F
theorem zList {Q0 Q : Value → Shared → Prop} {E : Value → Shared → Prop} {s1 : Shared} {o1 o2 : Obj} {v1 v2 : Value} {H1 H2 : Heap → Prop} {l1 l2 : Addr} (hh : A.handled = none) (I : Inv X pins σ H s1) (B1 : Begins v1 o1 H1) (B2 : Begins v2 o2 H2) (h1 : H1 s1.heap) (h2 : H2 s1.heap)
    (L1 : l1 < s1.heap.objs.size) (L2 : l2 < s1.heap.objs.size)
    (D1 : ∀ A' : Around, A'.handled = none → Draws X.prog X.w A' s1.heap.objs.size [s1.heap.objs.size, l1] n1 P1 St1) (D2 : ∀ A' : Around, A'.handled = none → Draws X.prog X.w A' (s1.heap.objs.size + 1) [s1.heap.objs.size + 1, l2] n2 P2 St2)
    (hn : n = min n1 n2) (hz : n ≤ sizeLine) (r1 : ∀ i v, P1 i v → ∃ x, xs[i]? = some x ∧ RelV x v) (r2 : ∀ i v, P2 i v → ∃ y, ys[i]? = some y ∧ RelV y v)
    (b1 : ∀ h', h'.get? s1.heap.objs.size = some o1 → (∀ c o, s1.heap.get? c = some o → h'.get? c = some o) → St1 0 h') (b2 : ∀ h', h'.get? (s1.heap.objs.size + 1) = some o2 → (∀ c o, s1.heap.get? c = some o → h'.get? c = some o) → St2 0 h')
    (q : ∀ (s' : Shared) (G' : Hp) (ts : List Addr) (D : Addr), Inv X pins σ G' s' → Same H G' → H D = none → G' D = some (.lst (ts.map V.ref)) → ts.length = n → Prs G' ts xs ys → (∀ t ∈ ts, H t = none) → Q (.ref D) s')
    (q0 : ∀ v s2, wpAny (model X.prog X.w) A (call (.type "list") [v]) Q E s2 → Q0 v s2) : wpAny (model X.prog X.w) A (call (.type "zip") [v1, v2]) Q0 E s1 := by
  refine zip_begins2 B1 B2 h1 h2 fun h' hz0 hTI hTO e1 e2 sz kp => q0 _ _ ?_
  generalize hB : s1.heap.objs.size = B at *
  have dz : h'.objs.size ≠ B + 4 := by omega
  refine callType_codes (Q₁ := fun obj s₁ => obj = .ref h'.objs.size ∧ s₁ = { s1 with heap := h'.push { cls := .type "list", data := .seq #[] } })
    F.called_list (F.typeCall_list_1 _) F.entry_list_init (code_list_new _ ⟨rfl, rfl⟩) (fun obj s₁ h₁ => ?_)
  obtain ⟨rfl, rfl⟩ := h₁
  have eD : (h'.push { cls := .type "list", data := .seq #[] }).get? h'.objs.size = some { cls := .type "list", data := .seq #[] } := Heap.get?_push_size _ rfl
  refine ⟨⟨_, eD, rfl⟩, F.args_list_init_2 _ _, ?_⟩
  show wpAny _ _ (do
    let old ← Builtin.List.listItems (.ref h'.objs.size)
    Builtin.List.listUpdate (.ref h'.objs.size) (fun _ => #[])
    letGo old.toList.reverse
    Builtin.List.listExtendWith (.ref h'.objs.size) (.ref (B + 4)) .none) _ _ _
  refine wpAny_bind ?_
  unfold Builtin.List.listItems
  refine wpAny_bind (wpAny_seqItems eD rfl (wpAny_pure ?_))
  show wpAny _ _ (do
    updateSeq h'.objs.size (fun _ => #[])
    letGo (#[] : Array Value).toList.reverse
    Builtin.List.listExtendWith (.ref h'.objs.size) (.ref (B + 4)) .none) _ _ _
  refine wpAny_bind (wpAny_updateSeq eD rfl ?_)
  have eD2 := Heap.get?_update_self (Obj.mapSeq fun _ => (#[] : Array Value)) eD rfl
  refine wpAny_bind (wpAny_letGo ?_)
  generalize hh2 : (h'.push { cls := .type "list", data := .seq #[] }).update h'.objs.size (Obj.mapSeq fun _ => (#[] : Array Value)) = g2 at eD2 ⊢
  have k2 : ∀ b o, h'.get? b = some o → g2.get? b = some o := fun b o e => by
    rw [← hh2, Heap.get?_update_other _ _ (Nat.ne_of_gt (Heap.lt_size e))]
    exact Heap.get?_push_of_some _ e
  refine zGrow (X := X) (s := { s1 with heap := g2 }) ⟨_, k2 _ _ hz0, rfl⟩ (k2 _ _ hz0) dz eD2 fun g3 k3 e3 => ?_
  obtain ⟨c0, e3⟩ := e3
  have k23 : ∀ b o, h'.get? b = some o → g3.get? b = some o := fun b o e => k3 b o (Nat.ne_of_lt (Heap.lt_size e)) (k2 b o e)
  have kall : ∀ b o, s1.heap.get? b = some o → g3.get? b = some o := fun b o e => k23 b o (kp b o e)
  have hle : s1.heap.objs.size ≤ h'.objs.size := by omega
  have hD : H h'.objs.size = none := I.hok.fresh hle
  have I3 : Inv X pins σ (upd H h'.objs.size (.lst [])) { s1 with heap := g3 } := I.laid (t' := s1.toks) kall hle (show ObjOk X.prog X.w _ _ _ (.lst []) from ⟨Nat.zero_le _, [], c0, .nil, e3⟩)
  have S := sepN B l1 l2 L1 L2
  refine zLoop (A := A.in1) S (D1 _ hh) (D2 _ hh) hn hz r1 r2 (D := h'.objs.size) (xs := xs) (ys := ys) ?_ ?_ hD (fun s' G' ts I' sm gD lt pr nw => ⟨rfl, q s' G' ts _ I' sm hD gD lt pr nw⟩) n 0 _ (upd H h'.objs.size (.lst [])) [] (by omega) (Nat.zero_le _) I3 (fun b hb => ?_) ⟨⟨_, k23 _ _ hTO⟩, .inl ⟨k23 _ _ hz0, _, _, k23 _ _ hTO⟩⟩ (k23 _ _ hTI) (fun T f oT e1 e2 => ?_) (b1 _ (k23 _ _ e1) kall) (b2 _ (k23 _ _ e2) kall)
    (fun t o e => by rw [upd_ne (ne_of_none e hD)]; exact e) upd_same rfl (fun j t x y e => by simp at e) (fun t h => absurd h List.not_mem_nil)
  · exact ninN _ _ _ (by omega) (Nat.lt_of_lt_of_le L1 (by omega))
  · exact ninN _ _ _ (by omega) (Nat.lt_of_lt_of_le L2 (by omega))
  · have hb : b = B + 4 ∨ b = B + 2 ∨ b = B + 3 ∨ b = B ∨ b = B + 1 := by simpa using hb
    have l0 := inN B b hb
    have lb : s1.heap.objs.size ≤ b ∧ b ≠ h'.objs.size := ⟨by rw [hB]; exact l0.1, Nat.ne_of_lt (by omega)⟩
    refine I.fpOk lb.1 ?_
    rw [upd_ne lb.2]
    exact I.hok.fresh lb.1
  · have e := (k23 _ _ hz0).symm.trans e1
    injection e with e
    injection e with _ _ e _
    injection e with e
    have q0 := congrArg (fun (t : Array Value) => t[0]?) e
    have q1 : some Value.none = some (rawInt (T : Int)) := q0
    injection q1 with q1
    cases q1
end
section
variable {X : Cx}
theorem pe_listZip {e e2 : Expr} {ta : TA} {p p2 pos pos2 : Pos} (hc : X.calm = true) (hg : Gl X "list") (hm : X.mg "list" = none) (hg2 : Gl X "zip") (hm2 : X.mg "zip" = none) (ha : PA X [e, e2] ta)
    (hs : starEach [e, e2] X.env = (false, eval e X.env) :: starEach [e2] X.env := by rfl) (hpl : (backTo pos2 (starEach [e2] X.env)).any (·.1) = false := by rfl)
    (hs2 : starEach [.Call (.Name "zip" p2) [e, e2] [] pos2] X.env = (false, eval (.Call (.Name "zip" p2) [e, e2] [] pos2) X.env) :: starEach [] X.env := by rfl) :
    PE X (.Call (.Name "list" p) [.Call (.Name "zip" p2) [e, e2] [] pos2] [] pos) (tZipL X.K ta) := by
  refine ⟨fun pins s σ H Q I h => ?_⟩
  refine Call_ (ld_blt I hg hm boot_list (PyProof.Rows.callWith_type1 (args_cons (Call_ (ld_blt I hg2 hm2 PyProof.Rows.boot_zip (PyProof.Rows.callWith_type1 (thn (ha.run pos2 pins s σ H _ I h) fun us s1 ⟨vs, G, I1, rr, a, b, xs, ys, ev, sq, q⟩ => ?_) hs hpl))) hs2) hs2 rfl))
  subst ev
  cases rr with
  | cons ra rr =>
    cases rr with
    | cons rb rr =>
      cases rr
      cases ra
      cases rb
      have hd : X.A.handled = none := I1.ok.hd hc
      have fin : ∀ (s' : Shared) (G' : Hp) (ts : List Addr) (D : Addr), Inv X pins σ G' s' → Same G G' → G D = none → G' D = some (.lst (ts.map V.ref)) → ts.length = min xs.length ys.length → Prs G' ts xs ys → (∀ t ∈ ts, G t = none) → EP X pins σ Q (.ref D) s' :=
        fun s' G' ts D I' sm hD gD lt pr nw => ⟨.ref D, G', I', rfl, q D ts G' sm hD gD lt pr nw⟩
      rcases sq with ⟨sx, sy⟩ | ⟨sx, sy⟩
      · obtain ⟨its, rv, p1, z1⟩ := I1.list sx
        obtain ⟨jts, rw, p2, z2⟩ := I1.list sy
        have n1 := rv.length
        have n2 := rw.length
        refine zList (n := min its.toArray.size jts.toArray.size) hd I1 (begins_list a its.toArray) (begins_list b jts.toArray) p1.isList p2.isList p1.lt p2.lt (fun A' h' => .list h' _ a (Nat.ne_of_lt p1.lt) its.toArray) (fun A' h' => .list h' _ b (Nat.ne_of_lt (Nat.lt_succ_of_lt p2.lt)) jts.toArray) rfl ?_
          (fun i v e => ?_) (fun i v e => ?_) (fun h' e k => ⟨⟨_, e, rfl, rfl⟩, ?_⟩) (fun h' e k => ⟨⟨_, e, rfl, rfl⟩, ?_⟩) (fun s' G' ts D I' sm hD gD lt pr nw => fin s' G' ts D I' sm hD gD (by rw [lt, List.size_toArray, List.size_toArray, n1, n2]) pr nw) (fun v s2 hv => args_nil hv)
        · rw [List.size_toArray]
          omega
        · exact vback rv (by simpa using e)
        · exact vback rw (by simpa using e)
        · exact p1.isList.at fun o u => k _ _ u
        · exact p2.isList.at fun o u => k _ _ u
      · obtain ⟨its, rv, p1, z1⟩ := I1.tuple sx
        obtain ⟨jts, rw, p2, z2⟩ := I1.tuple sy
        have l1 : a < s1.heap.objs.size := let ⟨_, e, _⟩ := p1; Heap.lt_size e
        have l2 : b < s1.heap.objs.size := let ⟨_, e, _⟩ := p2; Heap.lt_size e
        have p1 : s1.heap.IsTuple a its.toArray := p1
        have p2 : s1.heap.IsTuple b jts.toArray := p2
        have n1 := rv.length
        have n2 := rw.length
        refine zList (n := min its.toArray.size jts.toArray.size) hd I1 (begins_tuple a its.toArray) (begins_tuple b jts.toArray) p1 p2 l1 l2 (fun A' h' => .tuple h' _ a (Nat.ne_of_lt l1) its.toArray) (fun A' h' => .tuple h' _ b (Nat.ne_of_lt (Nat.lt_succ_of_lt l2)) jts.toArray) rfl ?_
          (fun i v e => ?_) (fun i v e => ?_) (fun h' e k => ⟨⟨_, e, rfl, rfl⟩, ?_⟩) (fun h' e k => ⟨⟨_, e, rfl, rfl⟩, ?_⟩) (fun s' G' ts D I' sm hD gD lt pr nw => fin s' G' ts D I' sm hD gD (by rw [lt, List.size_toArray, List.size_toArray, n1, n2]) pr nw) (fun v s2 hv => args_nil hv)
        · rw [List.size_toArray]
          omega
        · exact vback rv (by simpa using e)
        · exact vback rw (by simpa using e)
        · exact p1.at fun o u => k _ _ u
        · exact p2.at fun o u => k _ _ u
end
end Kz

/-! a turn of a zip whose tuple is no more there; zip over tuples and texts for any target of one name or of several -/
namespace Kz
open PySem PySem.Spec PyProof.Rows L2
section
variable {prog : Program} {w : World} {A : Around} {E : Value → Shared → Prop} {s : Shared} {z TI TO i1 i2 T : Addr} {fp1 fp2 : List Addr} {n1 n2 i : Nat} {P1 P2 : Nat → Value → Prop} {St1 St2 : Nat → Heap → Prop} {f : Bool} {c1 c2 : Value}
theorem gone {a : Addr} {Q : Option Obj → Shared → Prop} (e : s.heap.get? a = none) (q : Q none s) : wpAny (model prog w) A (loadIfAlive a) Q E s := by
  have q' : Q (s.heap.get? a) s := by rw [e]; exact q
  exact fun _ _ _ => q'
theorem free_gone {Q : Bool → Shared → Prop} (hz : IsZipHeld s.heap z TI TO T f) (hT : s.heap.get? T = none) (q : Q true s) : wpAny (model prog w) A (Builtin.SmallTypes.ownedTupleIsFree (.ref z)) Q E s := by
  unfold Builtin.SmallTypes.ownedTupleIsFree
  refine wpAny_bind (wpAny_field hz rfl (x := rawInt T) rfl ?_)
  show wpAny _ _ (loadIfAlive ((T : Int).toNat) >>= _) _ _ _
  rw [Int.toNat_natCast]
  refine wpAny_bind (gone hT ?_)
  simp only [Option.isNone_none, if_true]
  exact wpAny_pure q
theorem goneItem {Q : Value → Shared → Prop} (S : ZipSep2 z TI TO i1 i2 fp1 fp2) (D1 : Draws prog w A i1 fp1 n1 P1 St1) (D2 : Draws prog w A i2 fp2 n2 P2 St2)
    (hz : IsZipHeld s.heap z TI TO T f) (hT : s.heap.get? T = none) (hTI : IsTupOf2 s.heap TI (.ref i1) (.ref i2)) (hTO : IsTupOf2 s.heap TO c1 c2) (st1 : St1 i s.heap) (st2 : St2 i s.heap) (l1 : i < n1) (l2 : i < n2)
    (q : ∀ x1 x2 h' tk, P1 i x1 → P2 i x2 → IsZip h' z TI TO (rawInt s.heap.objs.size) → IsTupOf2 h' TO x1 x2 → St1 (i + 1) h' → St2 (i + 1) h' → IsTupOf2 h' s.heap.objs.size x1 x2 → h'.objs.size = s.heap.objs.size + 1 →
      (∀ c o, c ≠ z → c ≠ TO → c ≠ i1 → c ≠ i2 → s.heap.get? c = some o → h'.get? c = some o) → Q (.ref s.heap.objs.size) { s with heap := h', toks := tk }) :
    wpAny (model prog w) A (Builtin.«zip.__next__» ⟨[.ref z], []⟩) (fun fin s' => ∃ v, fin = .done (.ret v) ∧ Q v s') E s := by
  obtain ⟨hp, ge, dr, tk0, os⟩ := s
  show wpAny _ _ (field (.ref z) 2 >>= _) _ _ _
  refine wpAny_bind (wpAny_field hz rfl (x := .bool false) rfl ?_)
  show wpAny _ _ (field (.ref z) 3 >>= _) _ _ _
  refine wpAny_bind (wpAny_field hz rfl (x := .ref TI) rfl ?_)
  refine wpAny_bind (wpAny_seqItems hTI rfl ?_)
  show wpAny _ _ (Builtin.SmallTypes.ownedTupleIsFree (.ref z) >>= _) _ _ _
  refine wpAny_bind (free_gone hz hT ?_)
  simp only [if_true]
  refine wpAny_bind (wpAny_rule ?_)
  refine wpAny_bind (wpAny_field hz rfl (x := .ref TO) rfl ?_)
  refine wpAny_bind (wpAny_setField_rec hz (by simp) fun k0 zk0 sk0 => ?_)
  replace zk0 : k0.get? z = some { cls := .type "zip", dict := none, data := .fields #[.ellipsis, .bool f, .bool false, .ref TI, .ref TO], slots := #[] } := zk0
  replace sk0 : Heap.SameBut z hp k0 := sk0
  refine wpAny_bind ?_
  simp only [List.zipIdx_cons, List.zipIdx_nil, List.forIn_cons, List.forIn_nil]
  refine wpAny_bind (wpAny_bind (wpAny_onRaise ?_))
  show wpAny _ _ (Builtin.SmallTypes.nextOf (.ref i1) >>= _) _ _ ⟨k0, ge, dr, tk0, os⟩
  refine wpAny_bind (D1.item i _ _ _ l1 (D1.over st1 sk0 S.zf1) fun x1 k1 t1 px1 n1' sk1 => wpAny_pure ?_)
  replace sk1 : Heap.SameBut i1 k0 k1 := sk1
  have u1 : IsTupOf2 k1 TO c1 c2 := sk1.extBut _ _ S.Ti1 (sk0.extBut _ _ S.TOz hTO)
  refine wpAny_bind (wpAny_seqItems (s := ⟨k1, ge, dr, t1, os⟩) u1 rfl ?_)
  refine wpAny_bind (updateSeq_IsTupOf2 (s := ⟨k1, ge, dr, t1, os⟩) u1 fun k2 v2 sk2 => ?_)
  replace v2 : IsTupOf2 k2 TO x1 c2 := v2
  replace sk2 : Heap.SameBut TO k1 k2 := sk2
  refine wpAny_bind (wpAny_letGo (wpAny_pure ?_))
  refine wpAny_bind (wpAny_bind (wpAny_onRaise ?_))
  show wpAny _ _ (Builtin.SmallTypes.nextOf (.ref i2) >>= _) _ _ ⟨k2, ge, dr, t1, os⟩
  refine wpAny_bind (D2.item i _ _ _ l2 (D2.over (D2.over (D2.over st2 sk0 S.zf2) sk1 S.sep1_2) sk2 S.Tf2) fun x2 k3 t2 px2 n2' sk3 => wpAny_pure ?_)
  replace sk3 : Heap.SameBut i2 k2 k3 := sk3
  have u2 : IsTupOf2 k3 TO x1 c2 := sk3.extBut _ _ S.Ti2 v2
  refine wpAny_bind (wpAny_seqItems (s := ⟨k3, ge, dr, t2, os⟩) u2 rfl ?_)
  refine wpAny_bind (updateSeq_IsTupOf2 (s := ⟨k3, ge, dr, t2, os⟩) u2 fun k4 v4 sk4 => ?_)
  replace v4 : IsTupOf2 k4 TO x1 x2 := v4
  replace sk4 : Heap.SameBut TO k3 k4 := sk4
  refine wpAny_bind (wpAny_letGo (wpAny_pure (wpAny_pure ?_)))
  refine wpAny_bind (wpAny_seqItems (s := ⟨k4, ge, dr, t2, os⟩) v4 rfl ?_)
  refine wpAny_bind (wpAny_newTuple ?_)
  have esz : k4.objs.size = hp.objs.size := by rw [sk4.1, sk3.1, sk2.1, sk1.1, sk0.1]
  have zk4 := sk4.extBut _ _ S.TOz.symm (sk3.extBut _ _ S.zi2 (sk2.extBut _ _ S.TOz.symm (sk1.extBut _ _ S.zi1 zk0)))
  have kk : ∀ c o, c ≠ z → c ≠ TO → c ≠ i1 → c ≠ i2 → hp.get? c = some o → k4.get? c = some o := fun c o d1 d2 d3 d4 e =>
    sk4.extBut _ _ d2 (sk3.extBut _ _ d4 (sk2.extBut _ _ d2 (sk1.extBut _ _ d3 (sk0.extBut _ _ d1 e))))
  have j1 : St1 (i + 1) k4 := D1.over (D1.over (D1.over n1' sk2 S.Tf1) sk3 S.sep2_1) sk4 S.Tf1
  have j2 : St2 (i + 1) k4 := D2.over n2' sk4 S.Tf2
  have zlt : z < k4.objs.size := Heap.lt_size zk4
  show wpAny _ _ (Builtin.SmallTypes.ownedTupleHandOut (.ref z) (.ref k4.objs.size) >>= _) _ _ ⟨k4.push { cls := .type "tuple", data := .seq #[x1, x2] }, ge, dr, t2, os⟩
  refine wpAny_bind ?_
  unfold Builtin.SmallTypes.ownedTupleHandOut
  refine wpAny_bind (wpAny_setField_rec (Heap.get?_push_of_some _ zk4) (by simp) fun k5 zk5 sk5 => ?_)
  replace sk5 : Heap.SameBut z (k4.push { cls := .type "tuple", data := .seq #[x1, x2] }) k5 := sk5
  refine wpAny_setField_rec (s := ⟨k5, ge, dr, t2, os⟩) zk5 (by simp) fun k6 zk6 sk6 => ?_
  replace zk6 : IsZip k6 z TI TO (rawInt k4.objs.size) := zk6
  replace sk6 : Heap.SameBut z k5 k6 := sk6
  have up : ∀ c o, c ≠ z → k4.get? c = some o → k6.get? c = some o := fun c o d e => sk6.extBut _ _ d (sk5.extBut _ _ d (Heap.get?_push_of_some _ e))
  have nt : IsTupOf2 k6 k4.objs.size x1 x2 := sk6.extBut _ _ (Nat.ne_of_gt zlt) (sk5.extBut _ _ (Nat.ne_of_gt zlt) (Heap.get?_push_size _ rfl))
  have sz6 : k6.objs.size = k4.objs.size + 1 := by rw [sk6.1, sk5.1, Heap.size_push]
  rw [esz] at zk6 nt sz6
  refine wpAny_pure ⟨_, rfl, ?_⟩
  show Q (.ref k4.objs.size) ⟨k6, ge, dr, t2, os⟩
  rw [esz]
  exact q x1 x2 k6 t2 px1 px2 zk6 (up _ _ S.TOz v4) (D1.frame _ _ _ j1 fun b hb o e => up b o (fun y => S.zf1 (y ▸ hb)) e) (D2.frame _ _ _ j2 fun b hb o e => up b o (fun y => S.zf2 (y ▸ hb)) e) nt sz6 fun c o d1 d2 d3 d4 e => up c o d1 (kk c o d1 d2 d3 d4 e)
theorem goneEnd {Q : Fin → Shared → Prop} (S : ZipSep2 z TI TO i1 i2 fp1 fp2) (D1 : Draws prog w A i1 fp1 n1 P1 St1) (D2 : Draws prog w A i2 fp2 n2 P2 St2)
    (hz : IsZipHeld s.heap z TI TO T f) (hT : s.heap.get? T = none) (hTI : IsTupOf2 s.heap TI (.ref i1) (.ref i2)) (hTO : IsTupOf2 s.heap TO c1 c2) (st1 : St1 i s.heap) (st2 : St2 i s.heap) (l1 : i ≤ n1) (l2 : i ≤ n2) (last : i = n1 ∨ i = n2)
    (q : ∀ h' tk e, (∀ c o, c ≠ z → c ≠ TO → c ≠ i1 → c ≠ i2 → s.heap.get? c = some o → h'.get? c = some o) → (∃ o, h'.get? e = some o ∧ o.cls = .type "StopIteration") → E (.ref e) { s with heap := h', toks := tk }) :
    wpAny (model prog w) A (Builtin.«zip.__next__» ⟨[.ref z], []⟩) Q E s := by
  obtain ⟨hp, ge, dr, tk0, os⟩ := s
  show wpAny _ _ (field (.ref z) 2 >>= _) _ _ _
  refine wpAny_bind (wpAny_field hz rfl (x := .bool false) rfl ?_)
  show wpAny _ _ (field (.ref z) 3 >>= _) _ _ _
  refine wpAny_bind (wpAny_field hz rfl (x := .ref TI) rfl ?_)
  refine wpAny_bind (wpAny_seqItems hTI rfl ?_)
  show wpAny _ _ (Builtin.SmallTypes.ownedTupleIsFree (.ref z) >>= _) _ _ _
  refine wpAny_bind (free_gone hz hT ?_)
  simp only [if_true]
  refine wpAny_bind (wpAny_rule ?_)
  refine wpAny_bind (wpAny_field hz rfl (x := .ref TO) rfl ?_)
  refine wpAny_bind (wpAny_setField_rec hz (by simp) fun k0 zk0 sk0 => ?_)
  replace zk0 : k0.get? z = some { cls := .type "zip", dict := none, data := .fields #[.ellipsis, .bool f, .bool false, .ref TI, .ref TO], slots := #[] } := zk0
  replace sk0 : Heap.SameBut z hp k0 := sk0
  refine wpAny_bind ?_
  simp only [List.zipIdx_cons, List.zipIdx_nil, List.forIn_cons, List.forIn_nil]
  refine wpAny_bind (wpAny_bind (wpAny_onRaise ?_))
  show wpAny _ _ (Builtin.SmallTypes.nextOf (.ref i1) >>= _) _ _ ⟨k0, ge, dr, tk0, os⟩
  have fin : ∀ (k : Heap) (tk : Nat) (e : Addr), k.get? z = some { cls := .type "zip", dict := none, data := .fields #[.ellipsis, .bool f, .bool false, .ref TI, .ref TO], slots := #[] } → (∃ o, k.get? e = some o ∧ o.cls = .type "StopIteration") → (∀ c o, c ≠ z → c ≠ TO → c ≠ i1 → c ≠ i2 → hp.get? c = some o → k.get? c = some o) →
      wpAny (model prog w) A (setField (.ref z) 0 .none) (fun _ s' => E (.ref e) s') E ⟨k, ge, dr, tk, os⟩ := fun k tk e zk ⟨oe, eo, ec⟩ kk => by
    have ne : e ≠ z := fun y => by
      rw [y, zk] at eo
      cases eo
      exact absurd (show Value.type "zip" = Value.type "StopIteration" from ec) (by decide)
    refine wpAny_setField_rec (s := ⟨k, ge, dr, tk, os⟩) zk (by simp) fun k' _ sk' => ?_
    replace sk' : Heap.SameBut z k k' := sk'
    exact q k' tk e (fun c o d1 d2 d3 d4 y => sk'.extBut _ _ d1 (kk c o d1 d2 d3 d4 y)) ⟨oe, sk'.extBut _ _ ne eo, ec⟩
  by_cases lt : i < n1
  · refine wpAny_bind (D1.item i _ _ _ lt (D1.over st1 sk0 S.zf1) fun x1 k1 t1 px1 n1' sk1 => wpAny_pure ?_)
    replace sk1 : Heap.SameBut i1 k0 k1 := sk1
    have u1 : IsTupOf2 k1 TO c1 c2 := sk1.extBut _ _ S.Ti1 (sk0.extBut _ _ S.TOz hTO)
    refine wpAny_bind (wpAny_seqItems (s := ⟨k1, ge, dr, t1, os⟩) u1 rfl ?_)
    refine wpAny_bind (updateSeq_IsTupOf2 (s := ⟨k1, ge, dr, t1, os⟩) u1 fun k2 v2 sk2 => ?_)
    replace sk2 : Heap.SameBut TO k1 k2 := sk2
    refine wpAny_bind (wpAny_letGo (wpAny_pure ?_))
    have e2 : i = n2 := by omega
    refine wpAny_bind (wpAny_bind (wpAny_onRaise ?_))
    show wpAny _ _ (Builtin.SmallTypes.nextOf (.ref i2) >>= _) _ _ ⟨k2, ge, dr, t1, os⟩
    refine wpAny_bind (D2.done ⟨k2, ge, dr, t1, os⟩ _ _ (by rw [← e2]; exact D2.over (D2.over (D2.over st2 sk0 S.zf2) sk1 S.sep1_2) sk2 S.Tf2) fun k3 e sk3 he => ?_)
    replace sk3 : Heap.ExtBut i2 k2 k3 := sk3
    exact fin k3 t1 e (sk3 _ _ S.zi2 (sk2.extBut _ _ S.TOz.symm (sk1.extBut _ _ S.zi1 zk0))) he fun c o d1 d2 d3 d4 y => sk3 _ _ d4 (sk2.extBut _ _ d2 (sk1.extBut _ _ d3 (sk0.extBut _ _ d1 y)))
  · have e1 : i = n1 := by omega
    refine wpAny_bind (D1.done ⟨k0, ge, dr, tk0, os⟩ _ _ (by rw [← e1]; exact D1.over st1 sk0 S.zf1) fun k3 e sk3 he => ?_)
    replace sk3 : Heap.ExtBut i1 k0 k3 := sk3
    exact fin k3 tk0 e (sk3 _ _ S.zi1 zk0) he fun c o d1 d2 d3 d4 y => sk3 _ _ d3 (sk0.extBut _ _ d1 y)
/-- the zip before a turn: nothing is out, or a tuple was given out, there or no more -/
def Zg (z TI TO : Addr) (h : Heap) : Prop := (∃ a b, IsTupOf2 h TO a b) ∧ (IsZip h z TI TO .none ∨ ∃ T f, IsZipHeld h z TI TO T f)
theorem gNext {Q : Option Value → Shared → Prop} (S : ZipSep2 z TI TO i1 i2 fp1 fp2) (D1 : Draws prog w A.in1 i1 fp1 n1 P1 St1) (D2 : Draws prog w A.in1 i2 fp2 n2 P2 St2)
    (hz : Zg z TI TO s.heap) (hTI : IsTupOf2 s.heap TI (.ref i1) (.ref i2)) (st1 : St1 i s.heap) (st2 : St2 i s.heap) (l1 : i < n1) (l2 : i < n2)
    (q : ∀ x1 x2 h' tk, P1 i x1 → P2 i x2 → ((∃ a b, IsTupOf2 h' TO a b) ∧ ∃ T f, IsZipHeld h' z TI TO T f ∧ (IsZip s.heap z TI TO .none → T = s.heap.objs.size ∧ f = false)) → IsTupOf2 h' TI (.ref i1) (.ref i2) → St1 (i + 1) h' → St2 (i + 1) h' → IsTupOf2 h' s.heap.objs.size x1 x2 → h'.objs.size = s.heap.objs.size + 1 →
      (∀ c o, c ≠ z → c ≠ TO → c ≠ i1 → c ≠ i2 → s.heap.get? c = some o → h'.get? c = some o) → Q (some (.ref s.heap.objs.size)) { s with heap := h', toks := tk }) :
    wpAny (model prog w) A (pyNext (.ref z)) Q E s := by
  obtain ⟨⟨a, b, hTO⟩, hz⟩ := hz
  rcases hz with hz | ⟨T, f, hz⟩
  · refine wpAny_pyNext_zipD2_item S D1 D2 hz hTI hTO st1 st2 l1 l2 fun x1 x2 h' tk p1 p2 z' t' u1 u2 nt sz kp => ?_
    exact q x1 x2 h' tk p1 p2 ⟨⟨_, _, t'⟩, s.heap.objs.size, false, z', fun _ => ⟨rfl, rfl⟩⟩ (kp _ _ S.TIz S.TITO S.TIi1 S.TIi2 hTI) u1 u2 nt sz kp
  · have no : ¬ IsZip s.heap z TI TO .none := fun e => by
      have e := e.symm.trans hz
      injection e with e
      injection e with _ _ e _
      injection e with e
      have q0 := congrArg (fun (t : Array Value) => t[0]?) e
      have q1 : some Value.none = some (rawInt (T : Int)) := q0
      injection q1 with q1
      cases q1
    have ty : s.TypeIs (.ref z) "zip" := ⟨_, hz, rfl⟩
    unfold pyNext
    cases hT : s.heap.get? T with
    | none =>
      refine wpAny_bind (wpAny_attempt (wpAny_callSpecial?_slot (name := Str.ofString "__next__") ty F.slot_zip_next (wpAny_call_entry F.slot_zip_next ty F.entry_zip_next
        (goneItem S D1 D2 hz hT hTI hTO st1 st2 l1 l2 fun x1 x2 h' tk p1 p2 z' t' u1 u2 nt sz kp => wpAny_pure ?_) (F.args_zip_next_1 _))))
      exact q x1 x2 h' tk p1 p2 ⟨⟨_, _, t'⟩, s.heap.objs.size, false, z', fun e => absurd e no⟩ (kp _ _ S.TIz S.TITO S.TIi1 S.TIi2 hTI) u1 u2 nt sz kp
    | some oT =>
      refine wpAny_bind (wpAny_attempt (wpAny_callSpecial?_slot (name := Str.ofString "__next__") ty F.slot_zip_next (wpAny_call_entry F.slot_zip_next ty F.entry_zip_next
        (outItem S D1 D2 hz hT hTI st1 st2 l1 l2 fun x1 x2 h' tk p1 p2 z' t1 t2 nw sz kp => wpAny_pure ?_) (F.args_zip_next_1 _))))
      exact q x1 x2 h' tk p1 p2 ⟨⟨a, b, kp _ _ S.TOz S.Ti1 S.Ti2 hTO⟩, T, true, z', fun e => absurd e no⟩ (kp _ _ S.TIz S.TIi1 S.TIi2 hTI) t1 t2 nw sz fun c o d1 _ d3 d4 e => kp c o d1 d3 d4 e
theorem gDone {Q : Option Value → Shared → Prop} (S : ZipSep2 z TI TO i1 i2 fp1 fp2) (D1 : Draws prog w A.in1 i1 fp1 n1 P1 St1) (D2 : Draws prog w A.in1 i2 fp2 n2 P2 St2)
    (hz : Zg z TI TO s.heap) (hTI : IsTupOf2 s.heap TI (.ref i1) (.ref i2)) (st1 : St1 i s.heap) (st2 : St2 i s.heap) (l1 : i ≤ n1) (l2 : i ≤ n2) (last : i = n1 ∨ i = n2)
    (q : ∀ h' tk, (∀ c o, c ≠ z → c ≠ TO → c ≠ i1 → c ≠ i2 → s.heap.get? c = some o → h'.get? c = some o) → Q none { s with heap := h', toks := tk }) :
    wpAny (model prog w) A (pyNext (.ref z)) Q E s := by
  obtain ⟨⟨a, b, hTO⟩, hz⟩ := hz
  rcases hz with hz | ⟨T, f, hz⟩
  · exact wpAny_pyNext_zipD2_end S D1 D2 hz hTI hTO st1 st2 l1 l2 last q
  · have ty : s.TypeIs (.ref z) "zip" := ⟨_, hz, rfl⟩
    unfold pyNext
    have fin : ∀ (h' : Heap) (tk : Nat) (e : Addr), (∀ c o, c ≠ z → c ≠ TO → c ≠ i1 → c ≠ i2 → s.heap.get? c = some o → h'.get? c = some o) → (∃ o, h'.get? e = some o ∧ o.cls = .type "StopIteration") → wpAny (model prog w) A (isInstance (.ref e) (.type "StopIteration")) (fun b s' => wpAny (model prog w) A (if b = true then pure none else throw (.ref e)) Q E s') E { s with heap := h', toks := tk } := fun h' tk e kp ⟨o, ho, hc⟩ =>
      wpAny_isInstance (T := "StopIteration") (b := true) ⟨o, ho, hc⟩ isSubtype_stop (wpAny_pure (q _ _ kp))
    cases hT : s.heap.get? T with
    | none =>
      refine wpAny_bind (wpAny_attempt (wpAny_callSpecial?_slot (name := Str.ofString "__next__") ty F.slot_zip_next (wpAny_call_entry F.slot_zip_next ty F.entry_zip_next
        (goneEnd S D1 D2 hz hT hTI hTO st1 st2 l1 l2 last fun h' tk e kp he => ?_) (F.args_zip_next_1 _))))
      exact wpAny_bind (fin h' tk e kp he)
    | some oT =>
      refine wpAny_bind (wpAny_attempt (wpAny_callSpecial?_slot (name := Str.ofString "__next__") ty F.slot_zip_next (wpAny_call_entry F.slot_zip_next ty F.entry_zip_next
        (outEnd S D1 D2 hz hT hTI st1 st2 l1 l2 last fun h' tk e kp he => ?_) (F.args_zip_next_1 _))))
      exact wpAny_bind (fin h' tk e (fun c o d1 _ d3 d4 y => kp c o d1 d3 d4 y) he)
end
end Kz

/-! zip over tuples and texts, for a target of one name or of several -/
namespace Kz
open PySem PySem.Spec PyProof.Rows L2
/-- what a zip draws from: a tuple that stands, or a text -/
inductive Sr where
  | tup (a : Addr) (xs : List V)
  | txt (x : Str)
def Sr.vs : Sr → List V
  | .tup _ xs => xs
  | .txt x => x.cps.toList.map fun c => V.str ⟨#[c]⟩
def Sr.v : Sr → V
  | .tup a _ => .ref a
  | .txt x => .str x
def Sr.at (K : PySem.W.Frag) (H : Hp) : Sr → Prop
  | .tup a xs => SqT K H a xs
  | .txt _ => True
def Sr.cell (h : Heap) (it : Addr) (i : Nat) : Sr → Prop
  | .tup a _ => h.IsTupleIter it a i
  | .txt x => ∃ t, h.IsStrIter it (strIterType x) x t i
theorem Sr.cell_obj {h : Heap} {it : Addr} {i : Nat} : ∀ {r : Sr}, r.cell h it i → ∃ o, h.get? it = some o ∧ ∀ v, o.data ≠ .cell v
  | .tup _ _, ⟨o, e, _, d⟩ => ⟨o, e, fun v q => by rw [d] at q; cases q⟩
  | .txt _, ⟨_, o, e, _, d⟩ => ⟨o, e, fun v q => by rw [d] at q; cases q⟩
theorem Sr.cell_keep {h h' : Heap} {it : Addr} {i : Nat} (k : ∀ o, h.get? it = some o → h'.get? it = some o) : ∀ {r : Sr}, r.cell h it i → r.cell h' it i
  | .tup _ _, ⟨o, e, c⟩ => ⟨o, k o e, c⟩
  | .txt _, ⟨t, o, e, c⟩ => ⟨t, o, k o e, c⟩
/-- below -/
def Sr.low (B : Nat) : Sr → Prop
  | .tup a _ => @LT.lt Nat _ a B
  | .txt _ => True
theorem Sr.draws {X : Cx} {pins : List (Addr × Obj)} {σ : L2.St} {H : Hp} {s : Shared} {it : Addr} {i B : Nat} (I : Inv X pins σ H s) (hB : @LE.le Nat _ B it) : ∀ {r : Sr}, r.at X.K H → r.cell s.heap it i → r.low B →
    ∃ fp P St, (∀ A' : Around, A'.handled = none → Draws X.prog X.w A' it fp r.vs.length P St) ∧ (∀ j v, P j v → ∃ x, r.vs[j]? = some x ∧ RelV x v) ∧ St i s.heap ∧ (∀ j h, St j h → r.cell h it j) ∧ it ∈ fp ∧ ∀ b ∈ fp, b = it ∨ @LT.lt Nat _ b B
  | .tup a xs, hq, c, lo => by
    obtain ⟨its, rv, p, _⟩ := I.tuple hq
    have lo : @LT.lt Nat _ a B := lo
    have ne : a ≠ it := Nat.ne_of_lt (Nat.lt_of_lt_of_le lo hB)
    have e : its.toArray.size = xs.length := by rw [List.size_toArray]; exact rv.length.symm
    refine ⟨[it, a], fun i v => its.toArray[i]? = some v, fun i h => h.IsTupleIter it a i ∧ h.IsTuple a its.toArray, fun A' hA => ?_, fun j v z => ?_, ⟨c, p⟩, fun j h z => z.1, List.mem_cons_self, fun b hb => ?_⟩
    · have D := Draws.tuple (prog := X.prog) (w := X.w) hA it a ne its.toArray
      rw [e] at D
      exact D
    · exact vback rv (by simpa using z)
    · rcases List.mem_cons.mp hb with rfl | hb
      · exact .inl rfl
      · rw [List.mem_singleton.mp hb]
        exact .inr lo
  | .txt x, _, ⟨t, c⟩, _ => by
    have e : x.cps.size = (Sr.txt x).vs.length := by
      show _ = (x.cps.toList.map _).length
      rw [List.length_map, Array.length_toList]
    refine ⟨[it], fun i v => ∃ c u, x.cps[i]? = some c ∧ v = .str ⟨#[c]⟩ u, fun i h => h.IsStrIter it (strIterType x) x t i, fun A' hA => ?_, fun j v z => ?_, c, fun j h z => ⟨t, z⟩, List.mem_cons_self, fun b hb => .inl (List.mem_singleton.mp hb)⟩
    · have D := Draws.text (prog := X.prog) (w := X.w) hA it x t
      rw [e] at D
      exact D
    · obtain ⟨cc, u, h1, rfl⟩ := z
      refine ⟨.str ⟨#[cc]⟩, ?_, u, rfl⟩
      show (x.cps.toList.map fun c => V.str ⟨#[c]⟩)[j]? = _
      rw [List.getElem?_map, Array.getElem?_toList, h1]
      rfl
theorem sepG (B : Nat) (fp1 fp2 : List Addr) (m1 : B ∈ fp1) (a1 : ∀ b ∈ fp1, b = B ∨ @LT.lt Nat _ b B) (m2 : B + 1 ∈ fp2) (a2 : ∀ b ∈ fp2, b = B + 1 ∨ @LT.lt Nat _ b B) : ZipSep2 (B + 4) (B + 2) (B + 3) B (B + 1) fp1 fp2 := by
  have n1 : ∀ k : Nat, k ≠ 0 → (B + k) ∉ fp1 := fun k hk h => by
    rcases a1 _ h with z | z
    · have z : B + k = B := z
      omega
    · omega
  have n2 : ∀ k : Nat, k ≠ 1 → (B + k) ∉ fp2 := fun k hk h => by
    rcases a2 _ h with z | z
    · have z : B + k = B + 1 := z
      omega
    · omega
  exact ⟨neN _ _ (by omega), neN _ _ (by omega), neN _ _ (by omega), neN _ _ (by omega), m1, n1 4 (by omega), n1 3 (by omega), neN _ _ (by omega), m2, n2 4 (by omega), n2 3 (by omega), n2 0 (by omega), n1 1 (by omega)⟩
/-- the pairs, new ones -/
def Jg (K : PySem.W.Frag) (p q : Sr) : It :=
  ⟨fun i H => p.at K H ∧ q.at K H ∧ i < p.vs.length ∧ i < q.vs.length,
    fun i H v H' => ∃ T x y, v = .ref T ∧ H T = none ∧ H' = upd H T (.tup [x, y]) ∧ p.vs[i]? = some x ∧ q.vs[i]? = some y,
    fun i H => p.at K H ∧ q.at K H ∧ i ≤ p.vs.length ∧ i ≤ q.vs.length ∧ (i = p.vs.length ∨ i = q.vs.length)⟩
theorem turn_zipG {P : Program} {w : World} {K : PySem.W.Frag} {tg : Expr} {p q : Sr} {B : Nat} {Z : Heap → Prop} (lp : p.low B) (lq : q.low B) (hZ : ∀ h, Z h → Zg (B + 4) (B + 2) (B + 3) h) (kZ : ∀ h h', Z h → (∀ o, h.get? (B + 4) = some o → h'.get? (B + 4) = some o) → (∀ o, h.get? (B + 3) = some o → h'.get? (B + 3) = some o) → Z h')
    (go : ∀ (A : Around) (E : Value → Shared → Prop) (s : Shared) (h0 : Heap) (T T' : Addr) (f : Bool) (Q : Unit → Shared → Prop), Z h0 → (IsZip h0 (B + 4) (B + 2) (B + 3) .none → T = T' ∧ f = false) → (∃ a b, IsTupOf2 s.heap (B + 3) a b) → IsZipHeld s.heap (B + 4) (B + 2) (B + 3) T f →
      (∀ h', Z h' → Heap.SameBut (B + 4) s.heap h' → Q () { s with heap := h' }) → wpAny (model P w) A (letOwnedTupleGo tg (.ref (B + 4)) (.ref T')) Q E s) :
    Turn P w K tg (Jg K p q) [B + 4, B + 2, B + 3, B, B + 1] (B + 4) (fun i h => Z h ∧ IsTupOf2 h (B + 2) (.ref B) (.ref (B + 1)) ∧ p.cell h B i ∧ q.cell h (B + 1) i) where
  mem := by simp
  obj := fun i h st c hc => by
    obtain ⟨zz, hTI, h1, h2⟩ := st
    obtain ⟨⟨a, b, hTO⟩, hz⟩ := hZ h zz
    have e' : c = B + 4 ∨ c = B + 2 ∨ c = B + 3 ∨ c = B ∨ c = B + 1 := by simpa using hc
    rcases e' with y | y | y | y | y
    · rw [y]
      rcases hz with hz | ⟨T, f, hz⟩
      · exact ⟨_, hz, fun v q => nomatch q⟩
      · exact ⟨_, hz, fun v q => nomatch q⟩
    · rw [y]; exact ⟨_, hTI, fun v q => nomatch q⟩
    · rw [y]; exact ⟨_, hTO, fun v q => nomatch q⟩
    · rw [y]; exact Sr.cell_obj (r := p) h1
    · rw [y]; exact Sr.cell_obj (r := q) h2
  keep := fun i h h' st k => by
    obtain ⟨zz, hTI, h1, h2⟩ := st
    exact ⟨kZ h h' zz (k _ (by simp)) (k _ (by simp)), k (B + 2) (by simp) _ hTI, Sr.cell_keep (r := p) (k B (by simp)) h1, Sr.cell_keep (r := q) (k (B + 1) (by simp)) h2⟩
  item := by
    intro X hP hw hK hc i pins s σ H E I hf st hg
    subst hP hw hK
    obtain ⟨zz, hTI, h1, h2⟩ := st
    obtain ⟨hp, hq, lt1, lt2⟩ := hg
    obtain ⟨fp1, P1, St1, D1, r1, s1, b1, m1, f1⟩ := Sr.draws I (Nat.le_refl B) hp h1 lp
    obtain ⟨fp2, P2, St2, D2, r2, s2, b2, m2, f2⟩ := Sr.draws I (show B ≤ B + 1 from Nat.le_succ B) hq h2 lq
    have S := sepG B fp1 fp2 m1 f1 m2 f2
    have hh : X.A.handled = none := I.ok.hd hc
    have hzl : ∃ o, s.heap.get? (B + 4) = some o := by
      rcases (hZ _ zz).2 with z | ⟨_, _, z⟩
      · exact ⟨_, z⟩
      · exact ⟨_, z⟩
    obtain ⟨oz, ez⟩ := hzl
    have hzl : B + 4 < s.heap.objs.size := Heap.lt_size ez
    refine gNext S (D1 _ hh) (D2 _ hh) (hZ _ zz) hTI s1 s2 lt1 lt2 fun x1 x2 h' tk p1 p2 ⟨nTO, T, f, nz, cond⟩ nTI u1 u2 nt sz kp => ?_
    obtain ⟨x, hx, rx⟩ := r1 _ _ p1
    obtain ⟨y, hy, ry⟩ := r2 _ _ p2
    refine ⟨_, rfl, go X.A E { s with heap := h', toks := tk } s.heap T s.heap.objs.size f _ zz cond nTO nz fun h'' z'' sb => ?_⟩
    replace sb : Heap.SameBut (B + 4) h' h'' := sb
    have nt2 : h''.get? s.heap.objs.size = some { cls := .type "tuple", data := .seq #[x1, x2] } := (sb.2 _ (Nat.ne_of_gt hzl)).trans nt
    have new : ObjOk X.prog X.w (upd H s.heap.objs.size (.tup [x, y])) h'' s.heap.objs.size (.tup [x, y]) :=
      ⟨by show 2 ≤ sizeLine; decide, [x1, x2], .cons rx (.cons ry .nil), ⟨_, nt2, rfl, _, rfl⟩⟩
    have I1 : Inv X pins σ (upd H s.heap.objs.size (.tup [x, y])) { s with heap := h'', toks := tk } :=
      I.turnedNew (ch := [B + 4, B + 2, B + 3, B, B + 1]) (fun c o hb e => (sb.2 c (fun q' => hb (by simp [q']))).trans (kp c o (fun q' => hb (by simp [q'])) (fun q' => hb (by simp [q'])) (fun q' => hb (by simp [q'])) (fun q' => hb (by simp [q'])) e)) hf (Nat.le_refl _) new
    have kc : ∀ c, c ≠ B + 4 → ∀ o, h'.get? c = some o → h''.get? c = some o := fun c hc o e => (sb.2 c hc).trans e
    refine ⟨.ref s.heap.objs.size, _, I1, rfl, ⟨_, x, y, rfl, I.hok.fresh (Nat.le_refl _), rfl, hx, hy⟩, ⟨z'', kc _ (neN _ _ (by omega)) _ nTI, Sr.cell_keep (r := p) (kc _ (neN _ _ (by omega))) (b1 _ _ u1), Sr.cell_keep (r := q) (kc _ (neN _ _ (by omega))) (b2 _ _ u2)⟩, fun c hcm => ?_⟩
    have hlt : c < s.heap.objs.size := by
      have e' : c = B + 4 ∨ c = B + 2 ∨ c = B + 3 ∨ c = B ∨ c = B + 1 := by simpa using hcm
      rcases e' with y | y | y | y | y
      · rw [y]; exact hzl
      · rw [y]; exact Nat.lt_trans (by omega) hzl
      · rw [y]; exact Nat.lt_trans (by omega) hzl
      · rw [y]; exact Nat.lt_trans (by omega) hzl
      · rw [y]; exact Nat.lt_trans (by omega) hzl
    rw [upd_ne (Nat.ne_of_lt hlt)]
    exact (hf c hcm).1
  done := by
    intro X hP hw hK hc i pins s σ H E I hf st hg
    subst hP hw hK
    obtain ⟨zz, hTI, h1, h2⟩ := st
    obtain ⟨hp, hq, le1, le2, last⟩ := hg
    obtain ⟨fp1, P1, St1, D1, r1, s1, b1, m1, f1⟩ := Sr.draws I (Nat.le_refl B) hp h1 lp
    obtain ⟨fp2, P2, St2, D2, r2, s2, b2, m2, f2⟩ := Sr.draws I (show B ≤ B + 1 from Nat.le_succ B) hq h2 lq
    have S := sepG B fp1 fp2 m1 f1 m2 f2
    have hh : X.A.handled = none := I.ok.hd hc
    exact gDone S (D1 _ hh) (D2 _ hh) (hZ _ zz) hTI s1 s2 le1 le2 last fun h' tk kp => ⟨rfl, I.turnedL (ch := [B + 4, B + 2, B + 3, B, B + 1]) (fun c o hb e =>
      kp c o (fun q' => hb (by simp [q'])) (fun q' => hb (by simp [q'])) (fun q' => hb (by simp [q'])) (fun q' => hb (by simp [q'])) e) hf⟩
  self := fun A i s Q E st h => by
    rcases (hZ _ st.1).2 with z | ⟨_, _, z⟩
    · exact wpAny_pyIter_zip z h
    · exact iter_held z h
where
  iter_held {A : Around} {s : Shared} {z TI TO T : Addr} {f : Bool} {Q : Value → Shared → Prop} {E : Value → Shared → Prop} (hz : IsZipHeld s.heap z TI TO T f) (h : Q (.ref z) s) : wpAny (model P w) A (pyIter (.ref z)) Q E s := by
    have ty : s.TypeIs (.ref z) "zip" := ⟨_, hz, rfl⟩
    refine wpAny_pyIter_slot ty F.slot_zip_iter (wpAny_call_entry F.slot_zip_iter ty F.entry_zip_iter ?_ (F.args_zip_iter_1 _))
    show wpAny _ _ (ret (.ref z)) _ _ s
    exact wpAny_pure ⟨_, rfl, "zip", _, ty, F.slot_zip_next.lookup, h⟩
end Kz

/-! zip(a, b) over tuples and texts, as what a loop or a comprehension goes through -/
namespace Kz
open PySem PySem.Spec PyProof.Rows L2
theorem Sr.begins {X : Cx} {pins : List (Addr × Obj)} {σ : L2.St} {H : Hp} {s : Shared} {u : Value} (I : Inv X pins σ H s) : ∀ {r : Sr}, r.at X.K H → RelV r.v u → ∃ o Hh, Begins u o Hh ∧ Hh s.heap ∧ (∀ (h : Heap) (it : Addr), h.get? it = some o → r.cell h it 0) ∧ r.low s.heap.objs.size
  | .tup a xs, hq, rv => by
    obtain ⟨its, _, p, _⟩ := I.tuple hq
    have e : u = Value.ref a := rv
    subst e
    obtain ⟨o, ho, _⟩ := id p
    exact ⟨_, _, begins_tuple a its.toArray, p, fun h it e => ⟨_, e, rfl, rfl⟩, Heap.lt_size ho⟩
  | .txt x, _, rv => by
    obtain ⟨t, rfl⟩ := (show ∃ t, u = .str x t from rv)
    exact ⟨_, _, begins_text x t, trivial, fun h it e => ⟨t, _, e, rfl, rfl⟩, trivial⟩
def iZipG (K : PySem.W.Frag) (ta : TA) : TI := fun σ H R => ta σ H fun vs H1 => ∃ p q : Sr, vs = [p.v, q.v] ∧ p.at K H1 ∧ q.at K H1 ∧ R (Jg K p q) H1
section
variable {X : Cx} {e e2 : Expr} {ta : TA} {p pos tpos : Pos} {tg : Expr}
theorem pi_zip_of {Z : Nat → Heap → Prop} (hg : Gl X "zip") (hm : X.mg "zip" = none) (ha : PA X [e, e2] ta)
    (hZ : ∀ B h, Z B h → Zg (B + 4) (B + 2) (B + 3) h) (kZ : ∀ B h h', Z B h → (∀ o, h.get? (B + 4) = some o → h'.get? (B + 4) = some o) → (∀ o, h.get? (B + 3) = some o → h'.get? (B + 3) = some o) → Z B h')
    (bZ : ∀ B h, (∃ a b, IsTupOf2 h (B + 3) a b) → IsZip h (B + 4) (B + 2) (B + 3) .none → Z B h)
    (go : ∀ (B : Nat) (A : Around) (E : Value → Shared → Prop) (s : Shared) (h0 : Heap) (T T' : Addr) (f : Bool) (Q : Unit → Shared → Prop), Z B h0 → (IsZip h0 (B + 4) (B + 2) (B + 3) .none → T = T' ∧ f = false) → (∃ a b, IsTupOf2 s.heap (B + 3) a b) → IsZipHeld s.heap (B + 4) (B + 2) (B + 3) T f →
      (∀ h', Z B h' → Heap.SameBut (B + 4) s.heap h' → Q () { s with heap := h' }) → wpAny (model X.prog X.w) A (letOwnedTupleGo tg (.ref (B + 4)) (.ref T')) Q E s)
    (hs : starEach [e, e2] X.env = (false, eval e X.env) :: starEach [e2] X.env := by rfl) (hpl : (backTo pos (starEach [e2] X.env)).any (·.1) = false := by rfl) :
    PI X tg (.Call (.Name "zip" p) [e, e2] [] pos) (iZipG X.K ta) := by
  refine ⟨fun pins s σ H R I h => ?_⟩
  refine Call_ (ld_blt I hg hm PyProof.Rows.boot_zip (PyProof.Rows.callWith_type1 (thn (ha.run pos pins s σ H _ I h) fun us s1 ⟨vs, H1, I1, r1, a, b, ev, qa, qb, q⟩ => ?_) hs hpl))
  subst ev
  cases r1 with
  | cons ra rr =>
    cases rr with
    | cons rb rr =>
      cases rr
      rename_i u1 u2
      obtain ⟨o1, H1', B1, h1, c1, l1⟩ := Sr.begins I1 qa ra
      obtain ⟨o2, H2', B2, h2, c2, l2⟩ := Sr.begins I1 qb rb
      refine zip_begins2 B1 B2 h1 h2 fun h' hz hTI hTO e1 e2 sz kp => wpAny_pyIter_zip hz ?_
      have I2 : Inv X pins σ H1 { s1 with heap := h' } := I1.kept (t' := s1.toks) kp
      refine ⟨s1.heap.objs.size + 4, [s1.heap.objs.size + 4, s1.heap.objs.size + 2, s1.heap.objs.size + 3, s1.heap.objs.size, s1.heap.objs.size + 1], _, _, H1, rfl, I2, turn_zipG (Z := Z s1.heap.objs.size) l1 l2 (hZ _) (kZ _) (go _), ⟨bZ _ _ ⟨_, _, hTO⟩ hz, hTI, c1 _ _ e1, c2 _ _ e2⟩, fun c hc => ?_, q⟩
      have e' : c = s1.heap.objs.size + 4 ∨ c = s1.heap.objs.size + 2 ∨ c = s1.heap.objs.size + 3 ∨ c = s1.heap.objs.size ∨ c = s1.heap.objs.size + 1 := by simpa using hc
      have hle : s1.heap.objs.size ≤ c := (inN _ _ e').1
      exact I1.fpOk hle (I1.hok.fresh hle)
/-- for x in zip(a, b) -/
theorem pi_zipN {nm : Str} (hg : Gl X "zip") (hm : X.mg "zip" = none) (ha : PA X [e, e2] ta)
    (hs : starEach [e, e2] X.env = (false, eval e X.env) :: starEach [e2] X.env := by rfl) (hpl : (backTo pos (starEach [e2] X.env)).any (·.1) = false := by rfl) :
    PI X (.Name nm tpos) (.Call (.Name "zip" p) [e, e2] [] pos) (iZipG X.K ta) := by
  refine pi_zip_of (Z := fun B h => Zg (B + 4) (B + 2) (B + 3) h) hg hm ha (fun _ _ z => z) (fun B h h' z k4 k3 => ?_) (fun B h a z => ⟨a, .inl z⟩) (fun B A E s h0 T T' f Q _ _ nTO nz q => ?_) hs hpl
  · obtain ⟨⟨a, b, hTO⟩, hz⟩ := z
    refine ⟨⟨a, b, k3 _ hTO⟩, ?_⟩
    rcases hz with hz | ⟨T, f, hz⟩
    · exact .inl (k4 _ hz)
    · exact .inr ⟨T, f, k4 _ hz⟩
  · exact wpAny_of_eq (show letOwnedTupleGo (.Name nm tpos) (.ref (B + 4)) (.ref T') = pure () from rfl) (q s.heap ⟨nTO, .inr ⟨T, f, nz⟩⟩ (Heap.SameBut.refl _ _))
/-- for x, y in zip(a, b) -/
theorem pi_zipM {elts : List Expr} {kk : Nat} (hg : Gl X "zip") (hm : X.mg "zip" = none) (ha : PA X [e, e2] ta)
    (hs : starEach [e, e2] X.env = (false, eval e X.env) :: starEach [e2] X.env := by rfl) (hpl : (backTo pos (starEach [e2] X.env)).any (·.1) = false := by rfl) :
    PI X (.Tuple elts kk tpos) (.Call (.Name "zip" p) [e, e2] [] pos) (iZipG X.K ta) := by
  refine pi_zip_of (Z := fun B h => (∃ a b, IsTupOf2 h (B + 3) a b) ∧ IsZip h (B + 4) (B + 2) (B + 3) .none) hg hm ha (fun _ _ z => ⟨z.1, .inl z.2⟩) (fun B h h' z k4 k3 => ?_) (fun B h a z => ⟨a, z⟩) (fun B A E s h0 T T' f Q hz0 cond nTO nz q => ?_) hs hpl
  · obtain ⟨⟨a, b, hTO⟩, hz⟩ := z
    exact ⟨⟨a, b, k3 _ hTO⟩, k4 _ hz⟩
  · obtain ⟨rfl, rfl⟩ := cond hz0.2
    refine wpAny_letOwnedTupleGo_zip (s := s) nz fun h' z' sb => q h' ⟨?_, z'⟩ sb
    obtain ⟨a, b, t⟩ := nTO
    exact ⟨a, b, sb.extBut _ _ (neN _ _ (by omega)) t⟩
/-- the same, the written part named -/
theorem pi_zipNK {nm : Str} (K : PySem.W.Frag) (hK : X.K = K) (hg : Gl X "zip") (hm : X.mg "zip" = none) (ha : PA X [e, e2] ta)
    (hs : starEach [e, e2] X.env = (false, eval e X.env) :: starEach [e2] X.env := by rfl) (hpl : (backTo pos (starEach [e2] X.env)).any (·.1) = false := by rfl) :
    PI X (.Name nm tpos) (.Call (.Name "zip" p) [e, e2] [] pos) (iZipG K ta) := by
  subst hK
  exact pi_zipN hg hm ha hs hpl
theorem pi_zipMK {elts : List Expr} {kk : Nat} (K : PySem.W.Frag) (hK : X.K = K) (hg : Gl X "zip") (hm : X.mg "zip" = none) (ha : PA X [e, e2] ta)
    (hs : starEach [e, e2] X.env = (false, eval e X.env) :: starEach [e2] X.env := by rfl) (hpl : (backTo pos (starEach [e2] X.env)).any (·.1) = false := by rfl) :
    PI X (.Tuple elts kk tpos) (.Call (.Name "zip" p) [e, e2] [] pos) (iZipG K ta) := by
  subst hK
  exact pi_zipM hg hm ha hs hpl
end
/-! loops -/
section
variable {K : PySem.W.Frag} {p q : Sr}
theorem for_zipG {g : TG} {tb : TS} {D : Ends} {σ : L2.St} {H : Hp} (Pv : Nat → L2.St → Hp → Prop) (hl : p.vs.length = q.vs.length) (h0 : Pv 0 σ H) (hq : ∀ i σ H, Pv i σ H → p.at K H ∧ q.at K H)
    (hs : ∀ (i : Nat) (x y : V) (T : Addr) (σ : L2.St) (H : Hp), p.vs[i]? = some x → q.vs[i]? = some y → Pv i σ H → H T = none → g (.ref T) σ (upd H T (.tup [x, y])) fun σ2 H2 => tb { D with nx := Pv (i + 1), ct := Pv (i + 1), bk := D.nx } σ2 H2) (hd : ∀ σ H, Pv p.vs.length σ H → D.nx σ H) :
    ∃ W : Nat → Nat → L2.St → Hp → Prop, (∃ m, W 0 m σ H) ∧ ∀ i m σ H, W i m σ H →
      ((Jg K p q).stop i H ∧ D.nx σ H) ∨ ((Jg K p q).go i H ∧ ∃ N : L2.St → Hp → Prop, (∀ σ' H', N σ' H' → ∃ m', m' < m ∧ W (i + 1) m' σ' H') ∧ ∀ v H', (Jg K p q).yld i H v H' → g v σ H' fun σ2 H2 => tb { D with nx := N, ct := N, bk := D.nx } σ2 H2) := by
  refine ⟨fun i m σ H => m = p.vs.length - i ∧ i ≤ p.vs.length ∧ Pv i σ H, ⟨_, rfl, Nat.zero_le _, h0⟩, fun i m σ H z => ?_⟩
  obtain ⟨rfl, hi, pv⟩ := z
  obtain ⟨q1, q2⟩ := hq i σ H pv
  by_cases lt : i < p.vs.length
  · refine .inr ⟨⟨q1, q2, lt, by omega⟩, Pv (i + 1), fun σ' H' p' => ⟨p.vs.length - (i + 1), by omega, rfl, lt, p'⟩, fun v H' y => ?_⟩
    obtain ⟨T, x, y, rfl, hT, rfl, e1, e2⟩ := y
    exact hs i x y T σ H e1 e2 pv hT
  · have e : i = p.vs.length := by omega
    subst e
    exact .inl ⟨⟨q1, q2, Nat.le_refl _, by omega, .inl rfl⟩, hd σ H pv⟩
end
end Kz

/-! tuple * number, none and one too -/
namespace Kz
open PySem PySem.Spec PyProof.Rows L2
theorem mul_one_same (l : Addr) (items : Array Value) (n : Nat) (dd : Option Addr) (sl : Array (Option Value)) (u : Tok) :
    Meets (Builtin.«tuple.__mul__» ⟨[.ref l, .int 1 u], []⟩) (fun _ R s => s.heap.get? l = some { cls := .type "tuple", dict := dd, data := .seq items n, slots := sl } ∧ R (.ok (.ret (Value.ref l))) s) :=
  .of_wp fun prog w A R s h => by
    obtain ⟨hp, g, d, tk, os⟩ := s
    obtain ⟨hl, h⟩ := h
    have f1 := AutoSeq1.idx_int
    have hT : Shared.TypeIs ⟨hp, g, d, tk, os⟩ (.ref l) "tuple" := ⟨_, hl, rfl⟩
    wp_walk using wpAny_loadPart' hl, wpAny_typeOf hT
    repeat (first
      | (refine wpAny_ite_false (by decide) ?_; wp_walk using wpAny_loadPart' hl, wpAny_typeOf hT)
      | (refine wpAny_ite_true (by simp) ?_; wp_walk using wpAny_loadPart' hl, wpAny_typeOf hT))
    all_goals first | exact ⟨_, rfl, h⟩ | skip
theorem mul_none (l : Addr) (items : Array Value) (n : Nat) (dd : Option Addr) (sl : Array (Option Value)) (u : Tok) (ne : items.isEmpty = false) :
    Meets (Builtin.«tuple.__mul__» ⟨[.ref l, .int 0 u], []⟩) (fun _ R s => s.heap.get? l = some { cls := .type "tuple", dict := dd, data := .seq items n, slots := sl } ∧
      R (.ok (.ret (Value.ref s.heap.objs.size))) { s with heap := s.heap.push { cls := Value.type "tuple", data := Data.seq #[] }, toks := s.toks }) :=
  .of_wp fun prog w A R s h => by
    obtain ⟨hp, g, d, tk, os⟩ := s
    obtain ⟨hl, h⟩ := h
    have f1 := AutoSeq1.idx_int
    have c1 : (items.isEmpty || (0 : Int) == 1) = false := by rw [ne]; rfl
    wp_walk using wpAny_loadPart' hl
    repeat (first
      | (refine wpAny_ite_false (by decide) ?_; wp_walk using wpAny_loadPart' hl)
      | (refine wpAny_ite_false (decide_eq_false (by rw [c1]; exact Bool.false_ne_true)) ?_; wp_walk using wpAny_loadPart' hl)
      | (refine wpAny_ite_true (by simp) ?_; wp_walk using wpAny_loadPart' hl))
    all_goals first | exact ⟨_, rfl, h⟩ | skip
def rRepA (K : PySem.W.Frag) : R2 := fun x y H Q => ∃ l k xs, x = .ref l ∧ y = .int k ∧ SqT K H l xs ∧ xs ≠ [] ∧ 0 ≤ k ∧ k ≤ 1000 ∧ xs.length ≤ 1000 ∧ ∀ t G, Same H G → SqT K G t (List.replicate k.toNat xs).flatten → Q (.ref t) G
theorem newSm {H : Hp} {p : Addr} {o : HO} (h : H p = none) : Same H (upd H p o) := fun b u e => by
  rw [upd_ne (ne_of_none e h)]
  exact e
section
variable {X : Cx}
theorem op_repA : OpR X (binaryOp .Mult) (rRepA X.K) := by
  intro pins s σ H x y v u Q I rx ry h
  obtain ⟨l, k, xs, rfl, rfl, hT, hne, h1, h2, hz, q⟩ := h
  by_cases h3 : 2 ≤ k
  · exact op_repT pins s σ H _ _ v u Q I rx ry ⟨l, k, xs, rfl, rfl, hT, hne, h3, h2, hz, fun p hp => q p _ (newSm hp) (SqT.of upd_same)⟩
  cases rx
  obtain ⟨t, rfl⟩ := ry
  obtain ⟨its, r, ⟨⟨cls, dd, data, sl⟩, ho, hc, n, hd⟩, hs⟩ := I.tuple hT
  simp only at hc hd
  subst hc hd
  have hn : its.toArray.isEmpty = false := by
    cases its with
    | nil =>
      have := r.length
      exact absurd (List.eq_nil_of_length_eq_zero this) hne
    | cons a b => rfl
  have k01 : k = 0 ∨ k = 1 := by omega
  rcases k01 with rfl | rfl
  · refine wpAny_binaryOp_repeat_ref (T := "tuple") (U := "int") (by decide) ⟨_, ho, rfl⟩ (fun s' => typeIs_int s' 0 t) noFill_tuple_mul F.fills_int_mul F.slot_int_rmul repeat_tuple F.slot_int_index.lookup
      (call_meets F.slot_int_rmul (typeIs_int s 0 t) F.entry_int_rmul (F.args_int_rmul_2 _ _) (int_rmul_tuple 0 t l its.toArray n dd sl)
        ⟨ho, rfl, ⟨_, ho, rfl⟩, call_meets F.slot_tuple_mul ⟨_, ho, rfl⟩ F.entry_tuple_mul (F.args_tuple_mul_2 _ _) (mul_none l its.toArray n dd sl t hn) ⟨ho, ?_⟩⟩)
    have hn := I.hok.fresh (Nat.le_refl s.heap.objs.size)
    refine ⟨.ref s.heap.objs.size, _, I.laid (t' := s.toks) (o := .tup []) (fun b ob q => Heap.get?_push_of_some _ q) (Nat.le_refl _) ?_, rfl, q _ _ (newSm hn) (SqT.of upd_same)⟩
    exact ⟨Nat.zero_le _, [], .nil, IsTup.new _ _⟩
  · refine wpAny_binaryOp_repeat_ref (T := "tuple") (U := "int") (by decide) ⟨_, ho, rfl⟩ (fun s' => typeIs_int s' 1 t) noFill_tuple_mul F.fills_int_mul F.slot_int_rmul repeat_tuple F.slot_int_index.lookup
      (call_meets F.slot_int_rmul (typeIs_int s 1 t) F.entry_int_rmul (F.args_int_rmul_2 _ _) (int_rmul_tuple 1 t l its.toArray n dd sl)
        ⟨ho, rfl, ⟨_, ho, rfl⟩, call_meets F.slot_tuple_mul ⟨_, ho, rfl⟩ F.entry_tuple_mul (F.args_tuple_mul_2 _ _) (mul_one_same l its.toArray n dd sl t) ⟨ho, ?_⟩⟩)
    refine ⟨.ref l, H, I, rfl, q l H (fun _ _ e => e) ?_⟩
    have e : (List.replicate (1 : Int).toNat xs).flatten = xs := by simp
    rw [e]
    exact hT
end
end Kz

/-! int(text) and str(int) to 4,300 figures, where the program leaves the limit alone -/
namespace Ki
open PySem PySem.Spec PyProof.Rows L2 PySem.Calls PySem.NumText PySem.W
theorem nodig_in {K : PySem.W.Frag} {h : Heap} (X : K.In h) (e : nsOkIn K cStatics = true) (q : nsIn K cStatics "sys.int_max_str_digits" = some none) : h.NoDigits :=
  ⟨_, .of_isNs (isNs_of_in X e), nsMap_none_of_in X e q⟩
theorem maxDig {M : Model} {A : Around} {E : Value → Shared → Prop} {s : Shared} {Q : Nat → Shared → Prop} (hn : s.heap.NoDigits) (h : Q 4300 s) : wpAny M A Builtin.intMaxStrDigits Q E s := by
  obtain ⟨mc, hns, hnone⟩ := hn
  unfold Builtin.intMaxStrDigits
  refine wpAny_bind (wpAny_nsGet hns ?_)
  rw [hnone]
  exact wpAny_pure h
theorem wp_textA {M : Model} {A : Around} {E : Value → Shared → Prop} {s : Shared} {Q : Value → Shared → Prop} {v : Value} {text : List Nat} {n : Int} (hn : s.heap.NoDigits)
    (hs : ¬ (text.takeWhile (· != 0)).length ≤ 640) (hr : (int_private% "readNumeral") 4300 10 (text.takeWhile (· != 0)) = (int_private% "Numeral.value") n)
    (ha : ((text.takeWhile (· != 0)).length == text.length) = true) (h : Q (.int n s.toks) { s with toks := s.toks + 1 }) :
    wpAny M A ((int_private% "intFromText") v text 10) Q E s := by
  wp_step
  rw [if_neg hs]
  refine wpAny_bind (maxDig hn ?_)
  dsimp only
  rw [hr]
  dsimp only
  rw [if_pos ha]
  obtain ⟨hp, g, d, tk, os⟩ := s
  repeat (any_goals (first
    | assumption
    | wp_step))
theorem meets_textA {x : PySem.Str} {u : Tok} {n : Int} (hl : x.length ≤ 4300) (hn : PySem.intText? x = some n) :
    Meets (Builtin.«int.__new__» ⟨[.type "int", .str x u], []⟩) (fun _ R s => s.heap.NoDigits ∧ R (.ok (.ret (.int n s.toks))) { s with toks := s.toks + 1 }) := by
  intro prog w A R s hq
  refine wpAny_mono (Q := fun fin s' => ∃ v, fin = .done (.ret v) ∧ R (.ok (.ret v)) s') ?_ (fun fin s' h' => by obtain ⟨v, rfl, hv⟩ := h'; exact hv) fun _ _ x => x
  have hd := hq.1
  have h := hq.2
  clear hq
  generalize hM : model prog w = M
  generalize A.in1 = A'
  clear hM
  have f1 := F.conv_sub_int
  have f2 := F.madeHere_int
  have f3 := KIN.str_int
  have f4 := KIN.str_idx
  have f5 := KIN.str_trunc
  have f6 : typeOf (.str x u) = pure (.type "str") := rfl
  by_cases h6 : (numSeenOf x).length ≤ 640
  · have hr : (int_private% "readNumeral") 0 10 (numSeenOf x) = (int_private% "Numeral.value") n ∧ ((numSeenOf x).length == (numTextOf x).length) = true := by
      rcases read0 x h6 with ⟨m, h1, h2, h3⟩ | ⟨h1, _⟩
      · rw [hn] at h1
        injection h1 with h1
        subst h1
        exact ⟨h3, h2⟩
      · rw [hn] at h1
        cases h1
    have hk := KIN.Hid.mk (And.intro h6 hr)
    clear h6 hr hl hn hd
    obtain ⟨hp, g, d, tk, os⟩ := s
    repeat (any_goals (first
      | assumption
      | ((with_reducible show wpAny _ _ ((int_private% "intFromText") _ _ _) _ _ _); refine KIN.wp_text hk.out.1 hk.out.2.1 hk.out.2.2 ?_)
      | wp_step))
    all_goals first | exact ⟨_, rfl, h⟩ | skip
  · have hr : (int_private% "readNumeral") 4300 10 (numSeenOf x) = (int_private% "Numeral.value") n ∧ ((numSeenOf x).length == (numTextOf x).length) = true := by
      rcases read4300 x (Nat.le_trans hl (by decide)) with ⟨m, h1, h2, h3⟩ | ⟨h1, _⟩
      · rw [hn] at h1
        injection h1 with h1
        subst h1
        exact ⟨h3, h2⟩
      · rw [hn] at h1
        cases h1
    have hk := KIN.Hid.mk (And.intro (And.intro h6 hd) hr)
    clear h6 hr hl hn hd
    obtain ⟨hp, g, d, tk, os⟩ := s
    repeat (any_goals (first
      | assumption
      | ((with_reducible show wpAny _ _ ((int_private% "intFromText") _ _ _) _ _ _); refine wp_textA hk.out.1.2 hk.out.1.1 hk.out.2.1 hk.out.2.2 ?_)
      | wp_step))
    all_goals first | exact ⟨_, rfl, h⟩ | skip
section
variable {X : Cx}
/-- int(text) -/
theorem call_int_strA (e : nsOkIn X.K cStatics = true) (q : nsIn X.K cStatics "sys.int_max_str_digits" = some none) : CallR X (.type "int") (fun xs H Q => ∃ a n, xs = [.str a] ∧ PySem.intText? a = some n ∧ a.length ≤ 4300 ∧ Q (.int n) H) := by
  intro pins s σ H xs us Q I rs h
  obtain ⟨a, n, rfl, hn, hl, h⟩ := h
  cases rs with
  | cons r1 rs =>
    cases rs
    obtain ⟨t, rfl⟩ := r1
    exact call_int_1 (meets_textA hl hn) ⟨nodig_in I.kIn e q, ⟨rfl, ⟨.int n, H, I.tok _, ⟨_, rfl⟩, h⟩⟩⟩
/-- str(int) -/
theorem call_str_intA (hc : X.A.handled = none) (e : nsOkIn X.K cStatics = true) (q : nsIn X.K cStatics "sys.int_max_str_digits" = some none) : CallR X (.type "str") (fun xs H Q => ∃ a : Int, xs = [.int a] ∧ a.natAbs < 10 ^ 4300 ∧ Q (.str (toString a)) H) := by
  intro pins s σ H xs us Q I rs h
  obtain ⟨a, rfl, hl, h⟩ := h
  cases rs with
  | cons r1 rs =>
    cases rs
    obtain ⟨t, rfl⟩ := r1
    exact str_of_int_or hc (nodig_in I.kIn e q) (fun _ => ⟨.str (toString a), H, I.tok _, ⟨_, rfl⟩, h⟩) fun h2 => absurd hl (Nat.not_lt.mpr h2)
end
end Ki

/-! comprehensions of two loops: a tuple, within it a zip; str of a text or of a number from nought on -/
namespace Kz
open PySem PySem.Spec PyProof.Rows L2
/-- the inner loop of a comprehension of two -/
def inn (J1 : It) (g1 : TG) (tt1 : TT) (te : TE) (vs1 : List Nat) (D : Addr) (Nx : Hp → Prop) (σ2 : L2.St) (H4 : Hp) : Prop :=
  ∃ W1 : Nat → Nat → Hp → Prop, (∃ m, W1 0 m H4) ∧ ∀ j k H, W1 j k H →
      (J1.stop j H ∧ Nx H) ∨ (J1.go j H ∧ ∃ Nx1 : Hp → Prop, (∀ H', Nx1 H' → ∃ k', k' < k ∧ W1 (j + 1) k' H') ∧ ∀ x H', J1.yld j H x H' → g1 x (wipe σ2 vs1) H' fun σ3 H5 => wipe σ3 vs1 = wipe σ2 vs1 ∧ tt1 σ3 H5 fun b H6 =>
        if b = true then te σ3 H6 fun y H7 => ∃ acc, H7 D = some (.lst acc) ∧ acc.length < sizeLine ∧ Nx1 (upd H7 D (.lst (acc ++ [y]))) else Nx1 H6)
theorem lc2_tup {K : PySem.W.Frag} {a : Addr} {xs : List V} {g g1 : TG} {tt tt1 : TT} {te : TE} {wi1 : TI} {vs vs1 : List Nat} {σ : L2.St} {H1 : Hp} {D : Addr} {Qd : Hp → Prop} (Pv : Nat → Hp → Prop) (h0 : Pv 0 (upd H1 D (.lst []))) (hl : ∀ i H, i ≤ xs.length → Pv i H → SqT K H a xs)
    (hs : ∀ i x H, xs[i]? = some x → Pv i H → g x (wipe σ vs) H fun σ2 H2 => wipe σ2 vs = wipe σ vs ∧ tt σ2 H2 fun b H3 => if b = true then wi1 σ2 H3 fun J1 H4 => inn J1 g1 tt1 te vs1 D (Pv (i + 1)) σ2 H4 else Pv (i + 1) H3) (hd : ∀ H, Pv xs.length H → Qd H) :
    ∃ W : Nat → Nat → Hp → Prop, (∃ m, W 0 m (upd H1 D (.lst []))) ∧ ∀ i m H, W i m H →
      ((Itt K a).stop i H ∧ Qd H) ∨ ((Itt K a).go i H ∧ ∃ Nx : Hp → Prop, (∀ H', Nx H' → ∃ m', m' < m ∧ W (i + 1) m' H') ∧ ∀ x H', (Itt K a).yld i H x H' → g x (wipe σ vs) H' fun σ2 H2 => wipe σ2 vs = wipe σ vs ∧ tt σ2 H2 fun b H3 =>
        if b = true then wi1 σ2 H3 fun J1 H4 => inn J1 g1 tt1 te vs1 D Nx σ2 H4 else Nx H3) := by
  refine ⟨fun i m H => m = xs.length - i ∧ i ≤ xs.length ∧ Pv i H, ⟨_, rfl, Nat.zero_le _, h0⟩, fun i m H z => ?_⟩
  obtain ⟨rfl, hi, p⟩ := z
  have q := hl i H hi p
  by_cases lt : i < xs.length
  · refine .inr ⟨⟨xs, xs[i], q, by simp [lt]⟩, Pv (i + 1), fun H' p' => ⟨xs.length - (i + 1), by omega, rfl, lt, p'⟩, fun x H' y => ?_⟩
    obtain ⟨e, y⟩ := y
    subst e
    exact hs i x _ (y xs q) p
  · have e : i = xs.length := by omega
    subst e
    exact .inl ⟨⟨xs, q, by simp⟩, hd H p⟩
theorem inn_zip {K : PySem.W.Frag} {p q : Sr} {g1 : TG} {tt1 : TT} {te : TE} {vs1 : List Nat} {D : Addr} {Nx : Hp → Prop} {σ2 : L2.St} {H4 : Hp} (Pw : Nat → Hp → Prop) (hl : p.vs.length = q.vs.length) (h0 : Pw 0 H4) (hq : ∀ i H, Pw i H → p.at K H ∧ q.at K H)
    (hs : ∀ i x y T H, p.vs[i]? = some x → q.vs[i]? = some y → Pw i H → H T = none → g1 (.ref T) (wipe σ2 vs1) (upd H T (.tup [x, y])) fun σ3 H5 => wipe σ3 vs1 = wipe σ2 vs1 ∧ tt1 σ3 H5 fun b H6 =>
        if b = true then te σ3 H6 fun y H7 => ∃ acc, H7 D = some (.lst acc) ∧ acc.length < sizeLine ∧ Pw (i + 1) (upd H7 D (.lst (acc ++ [y]))) else Pw (i + 1) H6) (hd : ∀ H, Pw p.vs.length H → Nx H) : inn (Jg K p q) g1 tt1 te vs1 D Nx σ2 H4 := by
  refine ⟨fun i m H => m = p.vs.length - i ∧ i ≤ p.vs.length ∧ Pw i H, ⟨_, rfl, Nat.zero_le _, h0⟩, fun i m H z => ?_⟩
  obtain ⟨rfl, hi, pw⟩ := z
  obtain ⟨q1, q2⟩ := hq i H pw
  by_cases lt : i < p.vs.length
  · refine .inr ⟨⟨q1, q2, lt, by omega⟩, Pw (i + 1), fun H' p' => ⟨p.vs.length - (i + 1), by omega, rfl, lt, p'⟩, fun v H' y => ?_⟩
    obtain ⟨T, x, y, rfl, hT, rfl, e1, e2⟩ := y
    exact hs i x y T H e1 e2 pw hT
  · have e : i = p.vs.length := by omega
    subst e
    exact .inl ⟨⟨q1, q2, Nat.le_refl _, by omega, .inl rfl⟩, hd H pw⟩
/-- str of a text, of a number from nought on -/
theorem call_strB {X : Cx} (hc : X.A.handled = none) (e : PySem.W.nsOkIn X.K cStatics = true) (q : PySem.W.nsIn X.K cStatics "sys.int_max_str_digits" = some none) : CallR X (.type "str") (fun xs H Q => (∃ a : Str, xs = [.str a] ∧ Q (.str a) H) ∨ ∃ n : Nat, xs = [.int n] ∧ n < 10 ^ 4300 ∧ Q (.str (Str.ofString (toString ((n : Nat) : Int)))) H) := by
  intro pins s σ H xs us Q I r h
  rcases h with ⟨a, rfl, h⟩ | ⟨n, rfl, hn, h⟩
  · exact SkE.call_str_str pins s σ H _ us Q I r ⟨a, rfl, h⟩
  · exact Ki.call_str_intA hc e q pins s σ H _ us Q I r ⟨(n : Int), rfl, by rw [Int.natAbs_natCast]; exact hn, h⟩
end Kz

/-! comprehensions of two loops: a list, within it a tuple -/
namespace Kz
open PySem PySem.Spec PyProof.Rows L2
theorem pi_tupK {X : Cx} (K : PySem.W.Frag) (h : X.K = K) {tg l : Expr} {tl : TE} (hl : PE X l tl) : PI X tg l (iTup K tl) := by
  subst h
  exact pi_tup hl
theorem pi_listK {X : Cx} (K : PySem.W.Frag) (h : X.K = K) {tg l : Expr} {tl : TE} (hl : PE X l tl) : PI X tg l (iList K tl) := by
  subst h
  exact pi_list hl
theorem pa_starK {X : Cx} (K : PySem.W.Frag) (h : X.K = K) {e : Expr} {es : List Expr} {te : TE} {t : TA} {p : Pos} (he : PE X e te) (hr : PA X es t) (hs : starEach (.Starred e p :: es) X.env = (true, eval e X.env) :: starEach es X.env := by rfl) : PA X (.Starred e p :: es) (StX.tStar K te t) := by
  subst h
  exact StX.pa_star he hr hs
theorem lc2_list {K : PySem.W.Frag} {a : Addr} {xs : List V} {g g1 : TG} {tt tt1 : TT} {te : TE} {wi1 : TI} {vs vs1 : List Nat} {σ : L2.St} {H1 : Hp} {D : Addr} {Qd : Hp → Prop} (Pv : Nat → Hp → Prop) (h0 : Pv 0 (upd H1 D (.lst []))) (hl : ∀ i H, i ≤ xs.length → Pv i H → SqL K H a xs)
    (hs : ∀ i x H, xs[i]? = some x → Pv i H → g x (wipe σ vs) H fun σ2 H2 => wipe σ2 vs = wipe σ vs ∧ tt σ2 H2 fun b H3 => if b = true then wi1 σ2 H3 fun J1 H4 => inn J1 g1 tt1 te vs1 D (Pv (i + 1)) σ2 H4 else Pv (i + 1) H3) (hd : ∀ H, Pv xs.length H → Qd H) :
    ∃ W : Nat → Nat → Hp → Prop, (∃ m, W 0 m (upd H1 D (.lst []))) ∧ ∀ i m H, W i m H →
      ((Itl K a).stop i H ∧ Qd H) ∨ ((Itl K a).go i H ∧ ∃ Nx : Hp → Prop, (∀ H', Nx H' → ∃ m', m' < m ∧ W (i + 1) m' H') ∧ ∀ x H', (Itl K a).yld i H x H' → g x (wipe σ vs) H' fun σ2 H2 => wipe σ2 vs = wipe σ vs ∧ tt σ2 H2 fun b H3 =>
        if b = true then wi1 σ2 H3 fun J1 H4 => inn J1 g1 tt1 te vs1 D Nx σ2 H4 else Nx H3) := by
  refine ⟨fun i m H => m = xs.length - i ∧ i ≤ xs.length ∧ Pv i H, ⟨_, rfl, Nat.zero_le _, h0⟩, fun i m H z => ?_⟩
  obtain ⟨rfl, hi, p⟩ := z
  have q := hl i H hi p
  by_cases lt : i < xs.length
  · refine .inr ⟨⟨xs, xs[i], q, by simp [lt]⟩, Pv (i + 1), fun H' p' => ⟨xs.length - (i + 1), by omega, rfl, lt, p'⟩, fun x H' y => ?_⟩
    obtain ⟨e, y⟩ := y
    subst e
    exact hs i x _ (y xs q) p
  · have e : i = xs.length := by omega
    subst e
    exact .inl ⟨⟨xs, q, by simp⟩, hd H p⟩
theorem inn_tup {K : PySem.W.Frag} {a : Addr} {xs : List V} {g1 : TG} {tt1 : TT} {te : TE} {vs1 : List Nat} {D : Addr} {Nx : Hp → Prop} {σ2 : L2.St} {H4 : Hp} (Pw : Nat → Hp → Prop) (h0 : Pw 0 H4) (hl : ∀ i H, i ≤ xs.length → Pw i H → SqT K H a xs)
    (hs : ∀ i x H, xs[i]? = some x → Pw i H → g1 x (wipe σ2 vs1) H fun σ3 H5 => wipe σ3 vs1 = wipe σ2 vs1 ∧ tt1 σ3 H5 fun b H6 =>
        if b = true then te σ3 H6 fun y H7 => ∃ acc, H7 D = some (.lst acc) ∧ acc.length < sizeLine ∧ Pw (i + 1) (upd H7 D (.lst (acc ++ [y]))) else Pw (i + 1) H6) (hd : ∀ H, Pw xs.length H → Nx H) : inn (Itt K a) g1 tt1 te vs1 D Nx σ2 H4 := by
  refine ⟨fun i m H => m = xs.length - i ∧ i ≤ xs.length ∧ Pw i H, ⟨_, rfl, Nat.zero_le _, h0⟩, fun i m H z => ?_⟩
  obtain ⟨rfl, hi, p⟩ := z
  have q := hl i H hi p
  by_cases lt : i < xs.length
  · refine .inr ⟨⟨xs, xs[i], q, by simp [lt]⟩, Pw (i + 1), fun H' p' => ⟨xs.length - (i + 1), by omega, rfl, lt, p'⟩, fun x H' y => ?_⟩
    obtain ⟨e, y⟩ := y
    subst e
    exact hs i x _ (y xs q) p
  · have e : i = xs.length := by omega
    subst e
    exact .inl ⟨⟨xs, q, by simp⟩, hd H p⟩
end Kz

/-! held, items_of, taken_in, given_out -/
namespace Kq
open PySem PySem.Spec PyProof.Rows L2 Kf Kv Kk
abbrev tTaken : Stmt := tp 19
abbrev tGiven : Stmt := tp 21
abbrev tHW : Stmt := tp 22
abbrev tRel : Stmt := tp 23
theorem Paired.revP {α β : Type} {R : α → β → Prop} : ∀ {xs : List α} {ys : List β}, Paired R xs ys → Paired R xs.reverse ys.reverse
  | _, _, .nil => .nil
  | _, _, .cons (a := a) (b := b) h t => by
    rw [List.reverse_cons, List.reverse_cons]
    exact Paired.snoc (Paired.revP t) h
section
variable {P : Program} {w : World} {K : PySem.W.Frag} {mg : Str → Option Value} {base : Heap} {oN oP : Addr} {NS : List Str}
/-- a held list's first word, and how many parts it has -/
theorem Hd.lst {H : Hp} (N : NoI K mg oN) {xs : List Hv} {v : V} (h : Hd K oN oP NS H (ofList xs) v) : ∃ a us, v = .ref a ∧ SqT K H a us ∧ atI us (-1) = some (.int (pts (ofList xs))) ∧ ((xs = [] ∧ atI us 0 = some (.str "none")) ∨ ∃ x r vx vr, xs = x :: r ∧ atI us 0 = some (.str "more") ∧ atI us 1 = some vx ∧ atI us 2 = some vr ∧ Hd K oN oP NS H x vx ∧ Hd K oN oP NS H (ofList r) vr) := by
  cases xs with
  | nil =>
    rw [ofList] at h ⊢
    cases h
    exact ⟨_, _, rfl, N.tup H, rfl, .inl ⟨rfl, rfl⟩⟩
  | cons x r =>
    rw [ofList] at h ⊢
    cases h with
    | more e a b => exact ⟨_, _, rfl, SqT.of e, rfl, .inr ⟨x, r, _, _, rfl, rfl, rfl, rfl, a, b⟩⟩
abbrev nHeld : List Str := ["worth", "inner", "word", "told", "item", "many", "part"]
theorem scHeld : FnScope nHeld ["worth", "inner"] (defScope tHeld) := ⟨rfl, rfl, rfl, by decide +kernel, rfl, by decide +kernel, by decide +kernel⟩
theorem okHeld {f fN fP : Addr} {fd fdN fdP : FuncData} {k : Nat} (F : Fun K "held" "held" tHeld f fd) (N : NoI K mg oN)
    (GN : FnOk P w K mg base CX0 (k + 1) fN fdN ["number"] spNums) (bN : Binds K fdN ["number"] []) (gN : mg "within_numbers" = some (.ref fN)) (kN : PySem.W.keepIn K (.ref fN) = true)
    (GP : FnOk P w K mg base CX0 (k + 1) fP fdP ["worth"] (spPIn K oN oP NS)) (bP : Binds K fdP ["worth"] []) (gP : mg "parts_in" = some (.ref fP)) (kP : PySem.W.keepIn K (.ref fP) = true)
    (mi : mg "isinstance" = none) (mt : mg "tuple" = none) (ms : mg "sum" = none) : FnOk P w K mg base CX0 (k + 2) f fd ["worth", "inner"] (spJo TW InW (Hd K oN oP NS)) := by
  refine F.ok scHeld (fun vs H Q E h => ?_) (fun cdv A outer s H vs Q E hr h => ?_)
  · obtain ⟨v, a, l, us, rfl, _⟩ := h
    rfl
  obtain ⟨v, a, l, us, rfl, ⟨hd, ok⟩, gl, pu, hz, q⟩ := h
  refine ⟨_, pss_cons (ps_if (pt_not (pt_val (pe_callB (isiK K rfl) (by rfl) mi PyProof.Rows.boot_isinstance (pa_cons (pv 0) (pa_cons (pe_bltn (v := .ty "tuple") (by rfl) mt PyProof.Rows.boot_tuple rfl) pa_nil)))))
      (pss_one (ps_ret (pe_call GN hr (by rfl) gN kN bN .nil pass0 (pa_cons (pv 0) pa_nil)))) pss_nil)
    (pss_cons (ps_set (i := 2) scHeld.nd rfl (.inl rfl) (pe_ix ix_tup (pv 0) pe_int (fun _ _ => rfl)))
    (pss_cons (ps_if (pt_cmpR op_eq (pv 2) pe_str (nomark _))
      (pss_cons (ps_set (i := 3) scHeld.nd rfl (.inl rfl) (pe_glob (v := .ref oN) (by rfl) N.mgN rfl))
      (pss_cons (ps_for PassesOwn.never rfl (pi_list (pe_revL (pv 1))) (pg_name (i := 4) scHeld.nd rfl (.inl rfl))
        (pss_one (ps_set (i := 3) scHeld.nd rfl (.inl rfl) (pe_tup (pa_cons pe_str (pa_cons (pv 4) (pa_cons (pv 3) (pa_cons (pe_op op_add (pe_call GP hr (by rfl) gP kP bP .nil pass0 (pa_cons (pv 4) pa_nil)) (pe_ix ix_tup (pv 3) (pe_un un_neg pe_int) (fun _ _ => rfl))) pa_nil))))))))
      (pss_one (ps_ret (pv 3))))) pss_nil)
    (pss_cons (ps_if (pt_not (pt_truth (pv 1) (by intro _; rfl))) (pss_one (ps_ret (pv 0))) pss_nil)
    (pss_cons (ps_set (i := 5) scHeld.nd rfl (.inl rfl) (pe_op op_add pe_int (pe_callB (cr_sum rfl) (by rfl) ms PyProof.Rows.boot_sum (pa_cons
      (pe_lc (own := [("part", 6)]) (g := gName 6) (tt := tYes) (by rfl) scHeld.nd (pi_list (pv 1)) (blkOk_by (own := [("part", 6)]) (N := nHeld) (sc := defScope tHeld) (by decide +kernel))
        (fun _ _ _ _ _ => pg_name (i := 6) scHeld.nd rfl (.inl rfl)) (fun _ _ _ _ _ => pts_nil)
        (fun _ _ _ _ _ => pe_call GP hr (by rfl) gP kP bP .nil pass0 (pa_cons (pv 6) pa_nil))) pa_nil))))
    (pss_cons (ps_if (pt_cmpR op_eq (pv 2) pe_str (nomark _)) (pss_one ps_no) pss_nil)
    (pss_one (ps_ret (pe_tup (pa_cons (pv 2) (Kz.pa_starK K rfl (pv 1) (pa_cons (pv 5) pa_nil)))))))))))
    , ?_⟩
  cases a with
  | int i =>
    rw [Wt.d] at hd
    rw [Wt.ok] at ok
    cases hd
    exact ⟨_, rfl, _, _, _, _, false, rfl, .ty "tuple", .base (.int i), kit_ty (by decide +kernel), _, rfl, iteT ⟨_, rfl, .inl ⟨i, rfl, ok, q _ H (Same.refl _) (by show Hd K oN oP NS H (Wt.hv (.int i)) _; rw [Wt.hv]; exact .int i)⟩⟩⟩
  | bl i =>
    rw [Wt.d] at hd
    cases hd
    exact ⟨_, rfl, _, _, _, _, false, rfl, .ty "tuple", .base (.bl i), kit_ty (by decide +kernel), _, rfl, iteT ⟨_, rfl, .inr ⟨i, rfl, q _ H (Same.refl _) (by show Hd K oN oP NS H (Wt.hv (.bl i)) _; rw [Wt.hv]; exact .bl i)⟩⟩⟩
  | thing n i =>
    rw [Wt.d] at hd
    cases hd with
    | tup e t =>
    cases t with
    | cons t1 t =>
    cases t with
    | cons t2 t =>
    cases t with
    | cons t3 t =>
    cases t1
    cases t2
    cases t3
    cases t
    have eu : us = [] := by
      cases pu
      rfl
    subst eu
    refine ⟨_, rfl, _, _, _, _, true, rfl, .ty "tuple", .base (.tup e), kit_ty (by decide +kernel), _, rfl, iteF ⟨_, rfl, _, _, _, _, rfl, rfl, SqT.of e, atI_nat (j := 0) rfl, _, rfl, rfl, _, rfl, iteF ?_⟩⟩
    refine ⟨_, rfl, _, .inl ⟨[], SqL.of gl, rfl⟩, iteT ⟨_, rfl, q _ H (Same.refl _) ?_⟩⟩
    show Hd K oN oP NS H (Wt.hv (.thing n i)) _
    rw [Wt.hv]
    exact .thing e
  | pair x y =>
    rw [Wt.d] at hd
    cases hd with
    | tup e t =>
    cases t with
    | cons t1 t =>
    cases t1
    obtain ⟨u1, u2, rfl, h1, h2⟩ : ∃ u1 u2, us = [u1, u2] ∧ Hd K oN oP NS H x.hv u1 ∧ Hd K oN oP NS H y.hv u2 := by
      cases pu with
      | cons a b =>
      cases b with
      | cons b c =>
      cases c
      exact ⟨_, _, rfl, a, b⟩
    refine ⟨_, rfl, _, _, _, _, true, rfl, .ty "tuple", .base (.tup e), kit_ty (by decide +kernel), _, rfl, iteF ⟨_, rfl, _, _, _, _, rfl, rfl, SqT.of e, atI_nat (j := 0) rfl, _, rfl, rfl, _, rfl, iteF ?_⟩⟩
    refine ⟨_, rfl, _, .inl ⟨[u1, u2], SqL.of gl, rfl⟩, iteF ⟨_, rfl, l, rfl, ⟨_, SqL.of gl⟩, fun D nD => ?_⟩⟩
    refine lc_list (K := K) (a := l) (xs := [u1, u2]) (fun i G => Same H G ∧ G D = some (.lst (([pts x.hv, pts y.hv].take i).map V.int))) ⟨newS nD, upd_same⟩ (fun i G _ z => SqL.of (z.1 _ _ gl)) (fun i u G hu z => ?_) (fun G z => ?_)
    · obtain ⟨sG, gD⟩ := z
      refine ⟨rfl, _, rfl, ?_⟩
      have step : ∀ (h : Hv), Hd K oN oP NS H h u → h.nc → [pts x.hv, pts y.hv][i]? = some (pts h) → spPIn K oN oP NS [u] G (fun v G' => ∃ acc, G' D = some (.lst acc) ∧ acc.length < sizeLine ∧ (Same H (upd G' D (.lst (acc ++ [v]))) ∧ (upd G' D (.lst (acc ++ [v]))) D = some (.lst (([pts x.hv, pts y.hv].take (i + 1)).map V.int)))) E0 := fun h r nc ei =>
        ⟨u, h, rfl, r.same sG, nc, _, gD, (by rw [List.length_map, List.length_take]; exact Nat.lt_of_le_of_lt (Nat.min_le_right _ _) (by show 2 < 16777216; decide)), smk sG nD, by rw [upd_same, List.take_add_one, ei, List.map_append]; rfl⟩
      match i, hu with
      | 0, hu =>
        cases hu
        exact step _ h1 (hv_nc x) rfl
      | 1, hu =>
        cases hu
        exact step _ h2 (hv_nc y) rfl
    · obtain ⟨sG, gD⟩ := z
      refine ⟨D, _, rfl, SqL.of gD, _, _, rfl, rfl, _, rfl, rfl, _, rfl, iteF ?_⟩
      refine ⟨_, rfl, _, rfl, l, _, rfl, .inr (SqL.of (sG _ _ gl)), _, rfl, (by show 4 ≤ sizeLine; decide), fun p np => q _ _ (smk sG (sG.free np)) ?_⟩
      have sp := newS (o := .tup [V.str "pair", u1, u2, .int (1 + (pts x.hv + (pts y.hv + 0)))]) np
      show Hd K oN oP NS _ (Wt.hv (.pair x y)) _
      rw [Wt.hv]
      refine .pair ?_ ((h1.same sG).same sp) ((h2.same sG).same sp)
      have e0 : pts (.pair x.hv y.hv) = 1 + (pts x.hv + (pts y.hv + 0)) := by
        rw [pts]
        omega
      rw [e0]
      exact upd_same
  | side b x =>
    rw [Wt.ok] at ok
    exact ok.elim
  | list xs =>
    rw [Wt.d] at hd
    cases hd with
    | @tup aa _ _ e t =>
    cases t with
    | cons t1 t =>
    cases t1
    refine ⟨_, rfl, _, _, _, _, true, rfl, .ty "tuple", .base (.tup e), kit_ty (by decide +kernel), _, rfl, iteF ⟨_, rfl, _, _, _, _, rfl, rfl, SqT.of e, atI_nat (j := 0) rfl, _, rfl, rfl, _, rfl, iteT ?_⟩⟩
    have pu' : Paired (Hd K oN oP NS H) (xs.map Wt.hv) us := pu
    generalize hhs : xs.map Wt.hv = hs at pu'
    have pr := Paired.revP pu'
    have lp := pr.length
    refine ⟨_, rfl, l, us, rfl, SqL.of gl, fun r nr => ⟨r, rfl, ⟨_, SqL.of upd_same⟩, ?_⟩⟩
    have s1 := newS (o := .lst us.reverse) nr
    have gr : (upd H r (.lst us.reverse)) r = some (.lst us.reverse) := upd_same
    generalize upd H r (.lst us.reverse) = H1 at s1 gr
    refine for_list (K := K) (a := r) (xs := us.reverse) (fun i σ G => ∃ (tv : V) (y4 : Option V), σ = [some (.ref aa), some (.ref l), some (.str "list"), some tv, y4, none, none] ∧ Same H1 G ∧ Hd K oN oP NS G (ofList (hs.reverse.take i).reverse) tv)
      ⟨.ref oN, none, rfl, Same.refl _, .nil⟩ (fun i σ G _ ⟨tv, y4, _, sG, _⟩ => SqL.of (sG _ _ gr)) (fun i u σ G hu z => ?_) (fun σ G z => ?_)
    · obtain ⟨tv, y4, rfl, sG, ht⟩ := z
      obtain ⟨h, eh, hh⟩ := Paired.atP pr hu
      obtain ⟨a, ws, rfl, ha, hl, _⟩ := Hd.lst N ht
      have nc : h.nc := by
        have hm := List.mem_of_getElem? eh
        rw [← hhs] at hm
        obtain ⟨x, _, rfl⟩ := List.mem_map.mp (List.mem_reverse.mp hm)
        exact hv_nc x
      refine ⟨_, rfl, _, rfl, _, rfl, u, h, rfl, (hh.same s1).same sG, nc, _, rfl, _, rfl, a, ws, _, _, rfl, rfl, ha, hl, _, _, rfl, rfl, (by show 4 ≤ sizeLine; decide), fun p np => ?_⟩
      have sp := newS (o := .tup [V.str "more", u, .ref a, .int (pts h + pts (ofList (hs.reverse.take i).reverse))]) np
      refine ⟨_, _, rfl, sG.trans sp, ?_⟩
      rw [List.take_add_one, eh, Option.toList_some, List.reverse_append, List.reverse_cons, List.reverse_nil, List.nil_append, List.cons_append, List.nil_append, ofList]
      refine .more ?_ (((hh.same s1).same sG).same sp) (ht.same sp)
      rw [pts]
      exact upd_same
    · obtain ⟨tv, y4, rfl, sG, ht⟩ := z
      refine ⟨_, rfl, q _ _ (s1.trans sG) ?_⟩
      rw [List.take_of_length_le (by rw [lp]; exact Nat.le_refl _), List.reverse_reverse] at ht
      show Hd K oN oP NS _ (Wt.hv (.list xs)) _
      rw [Wt.hv, hvs_eq, hhs]
      exact ht
/-! items_of -/
theorem scItems : FnScope ["worth", "items", "rest"] ["worth"] (defScope tItems) := ⟨rfl, rfl, rfl, by decide +kernel, rfl, by decide +kernel, by decide +kernel⟩
def spItems (K : PySem.W.Frag) (oN oP : Addr) (NS : List Str) : Sp := fun vs H Q _ => ∃ (v : V) (xs : List Hv), vs = [v] ∧ Hd K oN oP NS H (ofList xs) v ∧ xs.length ≤ 1000 ∧ ∀ (l : Addr) (us : List V) (G : Hp), Same H G → H l = none → G l = some (.lst us) → Paired (Hd K oN oP NS G) xs us → Q (.ref l) G
theorem okItems {f : Addr} {fd : FuncData} {k : Nat} (F : Fun K "items_of" "items_of" tItems f fd) (N : NoI K mg oN) : FnOk P w K mg base CX0 (k + 1) f fd ["worth"] (spItems K oN oP NS) := by
  refine F.ok scItems (fun vs H Q E h => ?_) (fun cdv A outer s H vs Q E hr h => ?_)
  · obtain ⟨v, xs, rfl, _⟩ := h
    rfl
  obtain ⟨v, xs, rfl, hd, hl, q⟩ := h
  refine ⟨_, pss_cons (ps_set (i := 1) scItems.nd rfl (.inl rfl) (pe_lst pa_nil))
    (pss_cons (ps_set (i := 2) scItems.nd rfl (.inl rfl) (pv 0))
    (pss_cons (ps_while PassesOwn.never (pt_cmpR op_eq (pe_ix ix_tup (pv 2) pe_int (fun _ _ => rfl)) pe_str (nomark _))
      (pss_cons (ps_expr (pe_bm PySem.F.plainAttrs_list PySem.F.slot_list_append PySem.F.type_list_append mt_append (pv 1) (pa_cons (pe_ix ix_tup (pv 2) pe_int (fun _ _ => rfl)) pa_nil)))
      (pss_one (ps_set (i := 2) scItems.nd rfl (.inl rfl) (pe_ix ix_tup (pv 2) pe_int (fun _ _ => rfl))))))
    (pss_one (ps_ret (pv 1))))), ?_⟩
  refine ⟨Nat.zero_le _, fun l nl => ⟨_, rfl, ?_⟩⟩
  refine ⟨fun m σ G => ∃ (ds r : List Hv) (us : List V) (rv : V), m = r.length ∧ σ = [some v, some (.ref l), some rv] ∧ Same H G ∧ G l = some (.lst us) ∧ Paired (Hd K oN oP NS G) ds us ∧ Hd K oN oP NS G (ofList r) rv ∧ ds ++ r = xs,
    ⟨_, [], xs, [], v, rfl, rfl, newS nl, upd_same, .nil, hd.same (newS nl), rfl⟩, fun m σ G z => ?_⟩
  obtain ⟨ds, r, us, rv, rfl, rfl, sG, gl, pu, hr', exs⟩ := z
  obtain ⟨a, ws, rfl, ha, _, hc⟩ := Hd.lst N hr'
  have lu := pu.length
  rcases hc with ⟨rfl, h0⟩ | ⟨x, r', vx, vr, rfl, h0, h1, h2, hx, hrr⟩
  · refine ⟨_, rfl, a, _, _, _, rfl, rfl, ha, h0, rfl, _, rfl, iteF ⟨_, rfl, q l us G sG nl gl ?_⟩⟩
    rw [List.append_nil] at exs
    rw [← exs]
    exact pu
  · refine ⟨_, rfl, a, _, _, _, rfl, rfl, ha, h0, rfl, _, rfl, iteT ⟨_, fun σ' G' z => z, ?_⟩⟩
    have ll := congrArg List.length exs
    rw [List.length_append, List.length_cons] at ll
    refine ⟨_, rfl, .inl ⟨rfl, _, SqL.of gl⟩, _, rfl, a, _, _, vx, rfl, rfl, ha, h1, l, _, _, rfl, rfl, gl, small1000 (by omega), ?_⟩
    have k1 : Rk G (upd G l (.lst (us ++ [vx]))) := Rk.rfl.put gl
    have ha2 : SqT K (upd G l (.lst (us ++ [vx]))) a ws := by
      rcases ha with h | h
      · rcases h with h | ⟨o, h⟩
        · exact .inl (.inl (k1.tup _ _ h))
        · refine .inl (.inr ⟨o, ?_⟩)
          rw [upd_ne (fun z => by rw [z, gl] at h; cases h)]
          exact h
      · exact .inr h
    refine ⟨_, rfl, a, _, _, vr, rfl, rfl, ha2, h2, r'.length, by simp, ds ++ [x], r', us ++ [vx], vr, rfl, rfl, smk sG nl, upd_same, Paired.snoc (Paired.mapP pu fun _ _ z => z.rk k1) (hx.rk k1), hrr.rk k1, ?_⟩
    rw [List.append_assoc]
    exact exs
end
end Kq

/-! names put to names -/
namespace Kq
open PySem PySem.Spec PyProof.Rows L2 Kf Kv Kk Ku
theorem keys_in {kvs : List (Key × V)} {k : Key} (v : V) (h : k ∈ kvs.map (·.1)) : (putK kvs k v).map (·.1) = kvs.map (·.1) := by
  have ha : (kvs.any fun kv => decide (kv.1 = k)) = true := by
    obtain ⟨p, hp, e⟩ := List.mem_map.mp h
    exact List.any_eq_true.mpr ⟨p, hp, decide_eq_true e⟩
  unfold putK
  rw [if_pos ha, List.map_map]
  refine List.map_congr_left fun p _ => ?_
  show (if p.1 = k then (p.1, v) else p).1 = p.1
  by_cases e : p.1 = k
  · rw [if_pos e]
  · rw [if_neg e]
theorem keys_out {kvs : List (Key × V)} {k : Key} (v : V) (h : ¬ k ∈ kvs.map (·.1)) : (putK kvs k v).map (·.1) = kvs.map (·.1) ++ [k] := by
  have ha : ¬ (kvs.any fun kv => decide (kv.1 = k)) = true := fun z => by
    obtain ⟨p, hp, e⟩ := List.any_eq_true.mp z
    exact h (List.mem_map.mpr ⟨p, hp, of_decide_eq_true e⟩)
  unfold putK
  rw [if_neg ha, List.map_append]
  rfl
theorem NmD.put {NS : List Str} {kvs : List (Key × V)} (h : NmD NS kvs) {x : Str} (hx : x ∈ NS) (v : V) : NmD NS (putK kvs (.inr x) v) := by
  by_cases c : (Sum.inr x : Key) ∈ kvs.map (·.1)
  · refine ⟨?_, fun k hk => ?_⟩
    · rw [keys_in v c]
      exact h.nd
    · rw [keys_in v c] at hk
      exact h.ns k hk
  · refine ⟨?_, fun k hk => ?_⟩
    · rw [keys_out v c]
      refine List.nodup_append.mpr ⟨h.nd, by simp, fun a ha b hb e => ?_⟩
      rw [List.mem_singleton] at hb
      exact c (by rw [← hb, ← e]; exact ha)
    · rw [keys_out v c] at hk
      rcases List.mem_append.mp hk with hk | hk
      · exact h.ns k hk
      · exact ⟨x, hx, List.mem_singleton.mp hk⟩
theorem NmD.nil {NS : List Str} : NmD NS [] := ⟨List.nodup_nil, fun k h => by cases h⟩
theorem NmD.merge {NS : List Str} : ∀ {more kvs : List (Key × V)}, NmD NS kvs → (∀ kv ∈ more, ∃ x ∈ NS, kv.1 = Sum.inr x) → NmD NS (mergeK kvs more)
  | [], kvs, h, _ => h
  | kv :: r, kvs, h, m => by
    obtain ⟨x, hx, e⟩ := m kv List.mem_cons_self
    show NmD NS (mergeK (putK kvs kv.1 kv.2) r)
    rw [e]
    exact NmD.merge (h.put hx _) fun k hk => m k (List.mem_cons_of_mem _ hk)
theorem merge_app : ∀ {more kvs : List (Key × V)}, ((kvs ++ more).map (·.1)).Nodup → mergeK kvs more = kvs ++ more
  | [], kvs, _ => by rw [List.append_nil]; rfl
  | kv :: r, kvs, h => by
    show mergeK (putK kvs kv.1 kv.2) r = _
    have hn : valV kvs kv.1 = none := by
      cases e : valV kvs kv.1 with
      | none => rfl
      | some v =>
        exfalso
        have z : (kvs.any fun p => decide (p.1 = kv.1)) = true := by rw [valV_any, e]; rfl
        obtain ⟨p, hp, e⟩ := List.any_eq_true.mp z
        rw [List.map_append] at h
        exact (List.nodup_append.mp h).2.2 p.1 (List.mem_map.mpr ⟨p, hp, rfl⟩) kv.1 (by simp) (of_decide_eq_true e)
    rw [putK_new _ hn, merge_app (by rw [List.append_assoc]; exact h), List.append_assoc]
    rfl
theorem NmD.same {NS : List Str} {kvs : List (Key × V)} (h : NmD NS kvs) : mergeK [] kvs = kvs := merge_app (more := kvs) (kvs := []) h.nd
theorem valV_merge (j : Key) : ∀ {more : List (Key × V)} {kvs : List (Key × V)}, (more.map (·.1)).Nodup → valV (mergeK kvs more) j = (valV more j).or (valV kvs j)
  | [], kvs, _ => rfl
  | kv :: r, kvs, h => by
    rw [List.map_cons, List.nodup_cons] at h
    show valV (mergeK (putK kvs kv.1 kv.2) r) j = _
    rw [valV_merge j h.2, valV_put]
    by_cases e : kv.1 = j
    · rw [valV_pos e, if_pos e.symm]
      have hn : valV r j = none := by
        cases e1 : valV r j with
        | none => rfl
        | some v =>
          exfalso
          have z : (r.any fun p => decide (p.1 = j)) = true := by rw [valV_any, e1]; rfl
          obtain ⟨p, hp, e2⟩ := List.any_eq_true.mp z
          exact h.1 (List.mem_map.mpr ⟨p, hp, (of_decide_eq_true e2).trans e.symm⟩)
      rw [hn]
      rfl
    · rw [valV_neg e, if_neg (fun z => e z.symm)]
section
variable {K : PySem.W.Frag} {oN oP : Addr} {NS : List Str}
theorem Ed.none {H : Hp} {d : Addr} (h : H d = some (.dK [])) : Ed K oN oP NS H En.none d := ⟨[], h, .nil, fun y h e => by cases e⟩
/-- more names are put -/
theorem Ed.merge {H G : Hp} {e e' : En} {d p : Addr} {more kvs : List (Key × V)} (hd : H d = some (.dK more)) (nm : NmD NS more) (lk : ∀ y h, e y = some h → ∃ v, valV more (Sum.inr y) = some v ∧ Hd K oN oP NS H h v) (s : Same H G)
    (gp : G p = some (.dK (mergeK (mergeK [] more) (mergeK [] kvs)))) (ks : ∀ kv ∈ kvs, ∃ x ∈ NS, kv.1 = Sum.inr x) (he : ∀ y h, e' y = some h → (∃ v, valV (mergeK [] kvs) (Sum.inr y) = some v ∧ Hd K oN oP NS G h v) ∨ (valV (mergeK [] kvs) (Sum.inr y) = Option.none ∧ e y = some h)) : Ed K oN oP NS G e' p := by
  have nk : NmD NS (mergeK [] kvs) := NmD.nil.merge ks
  refine ⟨_, gp, ?_, fun y h ey => ?_⟩
  · rw [nm.same]
    refine nm.merge fun kv hk => nk.ns _ (List.mem_map.mpr ⟨kv, hk, rfl⟩)
  · rw [nm.same, valV_merge _ nk.nd]
    rcases he y h ey with ⟨v, e1, e2⟩ | ⟨e1, e2⟩
    · exact ⟨v, by rw [e1]; rfl, e2⟩
    · obtain ⟨v, e3, e4⟩ := lk y h e2
      exact ⟨v, by rw [e1, e3]; rfl, e4.same s⟩
theorem splat1 {H : Hp} {σ : L2.St} {Q : VK} {i a b : Nat} {d : Addr} {e : En} {x : Str} {u : V} {h : Hv} (he : Ed K oN oP NS H e d) (hn : NS.length ≤ 400) (hx : x ∈ NS) (hh : Hd K oN oP NS H h u) (si : σ[i]? = some (some (.ref d))) (sa : σ[a]? = some (some (.str x))) (sb : σ[b]? = some (some u))
    (hq : ∀ p G, Same H G → Ed K oN oP NS G (e.put x h) p → Q (.ref p) G) : tSplat (tVar i) [(tVar a, tVar b)] σ H Q := by
  obtain ⟨more, hd, nm, lk⟩ := he
  intro p np
  have s1 := newS (o := .dK []) np
  have l1 := nm.len
  refine ⟨_, si, upd_same, d, more, rfl, (ne_of_none hd np), s1 _ _ hd, by omega, fun q nq => ?_⟩
  have qp : p ≠ q := fun z => by rw [← z, upd_same] at nq; cases nq
  have nq0 : H q = Option.none := by rw [upd_ne qp.symm, upd_ne qp.symm] at nq; exact nq
  refine ⟨_, sa, _, sb, upd_same, (by rw [upd_ne qp, upd_same]), [(.inr x, u)], rfl, (by show 1 ≤ 15; decide), hq p _ ?_ ?_⟩
  · exact smk (smk (smk (smk (smk (Same.refl H) np) np) nq0) nq0) np
  · refine Ed.merge hd nm lk (smk (smk (smk (smk (smk (Same.refl H) np) np) nq0) nq0) np) upd_same (fun kv hk => ?_) (fun y h' ey => ?_)
    · rw [List.mem_singleton] at hk
      exact ⟨x, hx, by rw [hk]⟩
    · have e0 : valV (mergeK [] [((Sum.inr x : Key), u)]) (Sum.inr y) = if (Sum.inr y : Key) = Sum.inr x then some u else Option.none := by
        show valV (putK [] _ _) _ = _
        rw [valV_put]
        rfl
      rw [e0]
      unfold En.put at ey
      by_cases c : y = x
      · rw [if_pos c] at ey
        rw [if_pos (by rw [c])]
        exact .inl ⟨u, rfl, by rw [← Option.some.inj ey]; exact hh.same (smk (smk (smk (smk (smk (Same.refl H) np) np) nq0) nq0) np)⟩
      · rw [if_neg c] at ey
        rw [if_neg (fun z => c (Sum.inr.inj z))]
        exact .inr ⟨rfl, ey⟩
theorem splat2 {H : Hp} {σ : L2.St} {Q : VK} {i a b a' b' : Nat} {d : Addr} {e : En} {x y : Str} {u v : V} {h g : Hv} (he : Ed K oN oP NS H e d) (hn : NS.length ≤ 400) (hx : x ∈ NS) (hy : y ∈ NS) (hh : Hd K oN oP NS H h u) (hg : Hd K oN oP NS H g v) (si : σ[i]? = some (some (.ref d))) (sa : σ[a]? = some (some (.str x))) (sb : σ[b]? = some (some u))
    (sa' : σ[a']? = some (some (.str y))) (sb' : σ[b']? = some (some v)) (hq : ∀ p G, Same H G → Ed K oN oP NS G ((e.put x h).put y g) p → Q (.ref p) G) : tSplat (tVar i) [(tVar a, tVar b), (tVar a', tVar b')] σ H Q := by
  obtain ⟨more, hd, nm, lk⟩ := he
  intro p np
  have s1 := newS (o := .dK []) np
  have l1 := nm.len
  refine ⟨_, si, upd_same, d, more, rfl, (ne_of_none hd np), s1 _ _ hd, by omega, fun q nq => ?_⟩
  have qp : p ≠ q := fun z => by rw [← z, upd_same] at nq; cases nq
  have nq0 : H q = Option.none := by rw [upd_ne qp.symm, upd_ne qp.symm] at nq; exact nq
  have ss : ∀ (o1 o2 o3 o4 o5 : HO), Same H (upd (upd (upd (upd (upd H p o1) p o2) q o3) q o4) p o5) := fun o1 o2 o3 o4 o5 => smk (smk (smk (smk (smk (Same.refl H) np) np) nq0) nq0) np
  refine ⟨_, sa, _, sb, _, sa', _, sb', upd_same, (by rw [upd_ne qp, upd_same]), [(.inr x, u), (.inr y, v)], rfl, (by show 2 ≤ 15; decide), hq p _ (ss _ _ _ _ _) ?_⟩
  · refine Ed.merge hd nm lk (ss _ _ _ _ _) upd_same (fun kv hk => ?_) (fun z h' ey => ?_)
    · rcases List.mem_cons.mp hk with rfl | hk
      · exact ⟨x, hx, rfl⟩
      · rw [List.mem_singleton] at hk
        exact ⟨y, hy, by rw [hk]⟩
    · have e0 : valV (mergeK [] [((Sum.inr x : Key), u), (Sum.inr y, v)]) (Sum.inr z) = if (Sum.inr z : Key) = Sum.inr y then some v else if (Sum.inr z : Key) = Sum.inr x then some u else Option.none := by
        show valV (putK (putK [] _ _) _ _) _ = _
        rw [valV_put, valV_put]
        rfl
      rw [e0]
      unfold En.put at ey
      by_cases c : z = y
      · rw [if_pos c] at ey
        rw [if_pos (by rw [c])]
        exact .inl ⟨v, rfl, by rw [← Option.some.inj ey]; exact hg.same (ss _ _ _ _ _)⟩
      · rw [if_neg c] at ey
        rw [if_neg (fun z => c (Sum.inr.inj z))]
        by_cases c2 : z = x
        · rw [if_pos c2] at ey
          rw [if_pos (by rw [c2])]
          exact .inl ⟨u, rfl, by rw [← Option.some.inj ey]; exact hh.same (ss _ _ _ _ _)⟩
        · rw [if_neg c2] at ey
          rw [if_neg (fun z => c2 (Sum.inr.inj z))]
          exact .inr ⟨rfl, ey⟩
end
end Kq

/-! taken_in, given_out -/
namespace Kq
open PySem PySem.Spec PyProof.Rows L2 Kf Kv Kk
section
variable {P : Program} {w : World} {K : PySem.W.Frag} {mg : Str → Option Value} {base : Heap} {oN oP : Addr} {NS : List Str}
theorem scTaken : FnScope ["worth"] ["worth"] (defScope tTaken) := ⟨rfl, rfl, rfl, by decide +kernel, rfl, by decide +kernel, by decide +kernel⟩
def spTaken (K : PySem.W.Frag) (oN oP : Addr) (NS : List Str) : Sp := fun vs H Q _ => ∃ (v : V) (a : Wt), vs = [v] ∧ InW H a v ∧ a.sz ≤ 100000 ∧ ∀ (u : V) (G : Hp), Same H G → Hd K oN oP NS G a.hv u → Q u G
theorem okTaken {f fN fR fW fJ : Addr} {fd fdN fdR : FuncData} {k : Nat} (F : Fun K "taken_in" "taken_in" tTaken f fd)
    (GN : FnOk P w K mg base CX0 k fN fdN ["number"] spNums) (bN : Binds K fdN ["number"] []) (gN : mg "within_numbers" = some (.ref fN)) (kN : PySem.W.keepIn K (.ref fN) = true)
    (GR : FnOk P w K mg base CX0 k fR fdR ["worth", "within", "joined"] (spReb fW fJ TW InW (Hd K oN oP NS))) (bR : Binds K fdR ["worth", "within", "joined"] []) (gR : mg "rebuilt" = some (.ref fR)) (kR : PySem.W.keepIn K (.ref fR) = true)
    (gW : mg "worths_within" = some (.ref fW)) (gJ : mg "held" = some (.ref fJ))
    (mi : mg "isinstance" = none) (mt : mg "tuple" = none) : FnOk P w K mg base CX0 (k + 1) f fd ["worth"] (spTaken K oN oP NS) := by
  refine F.ok scTaken (fun vs H Q E h => ?_) (fun cdv A outer s H vs Q E hr h => ?_)
  · obtain ⟨v, a, rfl, _⟩ := h
    rfl
  obtain ⟨v, a, rfl, ⟨hd, ok⟩, hz, q⟩ := h
  refine ⟨_, pss_cons (ps_if (pt_not (pt_val (pe_callB (isiK K rfl) (by rfl) mi PyProof.Rows.boot_isinstance (pa_cons (pv 0) (pa_cons (pe_bltn (v := .ty "tuple") (by rfl) mt PyProof.Rows.boot_tuple rfl) pa_nil)))))
      (pss_one (ps_ret (pe_call GN hr (by rfl) gN kN bN .nil pass0 (pa_cons (pv 0) pa_nil)))) pss_nil)
    (pss_cons (ps_if (pt_cmpR op_eq (pe_ix ix_tup (pv 0) pe_int (fun _ _ => rfl)) pe_str (nomark _)) (pss_one (ps_ret (pv 0))) pss_nil)
    (pss_one (ps_ret (pe_call GR hr (by rfl) gR kR bR .nil pass0 (pa_cons (pv 0) (pa_cons (pe_glob (v := .ref fW) (by rfl) gW rfl) (pa_cons (pe_glob (v := .ref fJ) (by rfl) gJ rfl) pa_nil))))))), ?_⟩
  cases a with
  | int i =>
    rw [Wt.d] at hd
    rw [Wt.ok] at ok
    cases hd
    exact ⟨_, rfl, _, _, _, _, false, rfl, .ty "tuple", .base (.int i), kit_ty (by decide +kernel), _, rfl, iteT ⟨_, rfl, .inl ⟨i, rfl, ok, q _ H (Same.refl _) (by rw [Wt.hv]; exact .int i)⟩⟩⟩
  | bl i =>
    rw [Wt.d] at hd
    cases hd
    exact ⟨_, rfl, _, _, _, _, false, rfl, .ty "tuple", .base (.bl i), kit_ty (by decide +kernel), _, rfl, iteT ⟨_, rfl, .inr ⟨i, rfl, q _ H (Same.refl _) (by rw [Wt.hv]; exact .bl i)⟩⟩⟩
  | thing n i =>
    rw [Wt.d] at hd
    cases hd with
    | tup e t =>
    cases t with
    | cons t1 t =>
    cases t with
    | cons t2 t =>
    cases t with
    | cons t3 t =>
    cases t1
    cases t2
    cases t3
    cases t
    refine ⟨_, rfl, _, _, _, _, true, rfl, .ty "tuple", .base (.tup e), kit_ty (by decide +kernel), _, rfl, iteF ⟨_, rfl, _, _, _, _, rfl, rfl, SqT.of e, atI_nat (j := 0) rfl, rfl, _, rfl, iteT ⟨_, rfl, q _ H (Same.refl _) ?_⟩⟩⟩
    rw [Wt.hv]
    exact .thing e
  | pair x y =>
    have hd' := hd
    rw [Wt.d] at hd'
    cases hd' with
    | @tup aa _ _ e t =>
    cases t with
    | cons t1 t =>
    cases t1
    exact ⟨_, rfl, _, _, _, _, true, rfl, .ty "tuple", .base (.tup e), kit_ty (by decide +kernel), _, rfl, iteF ⟨_, rfl, _, _, _, _, rfl, rfl, SqT.of e, atI_nat (j := 0) rfl, rfl, _, rfl, iteF ⟨_, rfl, _, .pair x y, rfl, ⟨hd, ok⟩, hz, q⟩⟩⟩
  | side b x =>
    rw [Wt.ok] at ok
    exact ok.elim
  | list xs =>
    have hd' := hd
    rw [Wt.d] at hd'
    cases hd' with
    | @tup aa _ _ e t =>
    cases t with
    | cons t1 t =>
    cases t1
    exact ⟨_, rfl, _, _, _, _, true, rfl, .ty "tuple", .base (.tup e), kit_ty (by decide +kernel), _, rfl, iteF ⟨_, rfl, _, _, _, _, rfl, rfl, SqT.of e, atI_nat (j := 0) rfl, rfl, _, rfl, iteF ⟨_, rfl, _, .list xs, rfl, ⟨hd, ok⟩, hz, q⟩⟩⟩
/-! given out -/
def TG : Tree Wt Dt where
  kids := Wt.kids
  fold := Wt.d
  ord := Wt.ord
  sz := Wt.sz
  ord_eq := TW.ord_eq
  sz_eq := TW.sz_eq
def InG (K : PySem.W.Frag) (oN oP : Addr) (NS : List Str) (H : Hp) (a : Wt) (v : V) : Prop := Hd K oN oP NS H a.hv v ∧ a.sz ≤ 1000
theorem szs_len : ∀ xs : List Wt, xs.length ≤ Wt.szs xs
  | [] => Nat.zero_le _
  | x :: r => by
    have h1 := szs_len r
    have h2 := TW.sz_eq x
    have h3 : x.sz = TW.sz x := rfl
    rw [Wt.szs, List.length_cons]
    omega
theorem szs_mem : ∀ {xs : List Wt} {x : Wt}, x ∈ xs → x.sz ≤ Wt.szs xs
  | y :: r, x, h => by
    rw [Wt.szs]
    rcases List.mem_cons.mp h with rfl | h
    · omega
    · have := szs_mem h
      omega
theorem Paired.of_map {α β γ : Type} {R : β → γ → Prop} {f : α → β} : ∀ {xs : List α} {ys : List γ}, Paired R (xs.map f) ys → Paired (fun a y => R (f a) y) xs ys
  | [], _, h => by
    cases h
    exact .nil
  | x :: xs, _, h => by
    cases h with
    | cons a b => exact .cons a (Paired.of_map b)
theorem scHW : FnScope ["worth", "word"] ["worth"] (defScope tHW) := ⟨rfl, rfl, rfl, by decide +kernel, rfl, by decide +kernel, by decide +kernel⟩
theorem okHW {f fI : Addr} {fd fdI : FuncData} {k : Nat} (F : Fun K "held_within" "held_within" tHW f fd) (N : NoI K mg oN)
    (GI : FnOk P w K mg base CX0 k fI fdI ["worth"] (spItems K oN oP NS)) (bI : Binds K fdI ["worth"] []) (gI : mg "items_of" = some (.ref fI)) (kI : PySem.W.keepIn K (.ref fI) = true)
    (mi : mg "isinstance" = none) (mt : mg "tuple" = none) : FnOk P w K mg base CX0 (k + 1) f fd ["worth"] (spWi K TG (InG K oN oP NS)) := by
  refine F.ok scHW (fun vs H Q E h => ?_) (fun cdv A outer s H vs Q E hr h => ?_)
  · obtain ⟨v, a, rfl, _⟩ := h
    rfl
  obtain ⟨v, a, rfl, ⟨hv, hz⟩, q⟩ := h
  refine ⟨_, pss_cons (ps_if (pt_not (pt_val (pe_callB (isiK K rfl) (by rfl) mi PyProof.Rows.boot_isinstance (pa_cons (pv 0) (pa_cons (pe_bltn (v := .ty "tuple") (by rfl) mt PyProof.Rows.boot_tuple rfl) pa_nil))))) (pss_one (ps_ret (pe_tup pa_nil))) pss_nil)
    (pss_cons (ps_set (i := 1) scHW.nd rfl (.inl rfl) (pe_ix ix_tup (pv 0) pe_int (fun _ _ => rfl)))
    (pss_cons (ps_if (pt_cmpR op_in_seq (pv 1) (pe_tup (pa_cons pe_str (pa_cons pe_str (pa_cons pe_str pa_nil)))) rfl) (pss_one (ps_ret (pe_slice sl_tup (pv 0) (po_some pe_int) (po_some (pe_un un_neg pe_int))))) pss_nil)
    (pss_cons (ps_if (pt_cmpR op_eq (pv 1) pe_str (nomark _)) (pss_one (ps_ret (pe_call GI hr (by rfl) gI kI bI .nil pass0 (pa_cons (pv 0) pa_nil)))) pss_nil)
    (pss_cons (ps_if (pt_cmpR op_eq (pv 1) pe_str (nomark _)) (pss_one (ps_ret (pe_ix ix_tup (pv 0) pe_int (fun _ _ => rfl)))) pss_nil)
    (pss_one (ps_ret (pe_tup pa_nil))))))), ?_⟩
  have none : ∀ (G : Hp), Same H G → TG.kids a = [] → ∀ p, G p = Option.none → Q (.ref p) (upd G p (.tup [])) := fun G s e p np => q p [] _ (s.trans (newS np)) (.inl (SqT.of upd_same)) (by rw [e]; exact .nil)
  cases a with
  | int i =>
    rw [Wt.hv] at hv
    cases hv
    exact ⟨_, rfl, _, _, _, _, false, rfl, .ty "tuple", .base (.int i), kit_ty (by decide +kernel), _, rfl, iteT ⟨Nat.zero_le _, fun p np => none H (Same.refl _) rfl p np⟩⟩
  | bl i =>
    rw [Wt.hv] at hv
    cases hv
    exact ⟨_, rfl, _, _, _, _, false, rfl, .ty "tuple", .base (.bl i), kit_ty (by decide +kernel), _, rfl, iteT ⟨Nat.zero_le _, fun p np => none H (Same.refl _) rfl p np⟩⟩
  | thing n i =>
    rw [Wt.hv] at hv
    cases hv with
    | thing e =>
    refine ⟨_, rfl, _, _, _, _, true, rfl, .ty "tuple", .base (.tup e), kit_ty (by decide +kernel), _, rfl, iteF ⟨_, rfl, _, _, _, _, rfl, rfl, SqT.of e, atI_nat (j := 0) rfl, _, rfl, (by show 3 ≤ sizeLine; decide), fun p np => ⟨_, _, rfl, .inr (SqT.of upd_same), rfl, rfl, _, rfl, iteF ?_⟩⟩⟩
    exact ⟨_, rfl, rfl, _, rfl, iteF ⟨_, rfl, rfl, _, rfl, iteF ⟨Nat.zero_le _, fun p' np' => none _ (newS np) rfl p' np'⟩⟩⟩
  | pair x y =>
    rw [Wt.hv] at hv
    rw [Wt.sz] at hz
    cases hv with
    | @pair aa _ _ v1 v2 e hx hy =>
    refine ⟨_, rfl, _, _, _, _, true, rfl, .ty "tuple", .base (.tup e), kit_ty (by decide +kernel), _, rfl, iteF ⟨_, rfl, _, _, _, _, rfl, rfl, SqT.of e, atI_nat (j := 0) rfl, _, rfl, (by show 3 ≤ sizeLine; decide), fun p np => ⟨_, _, rfl, .inr (SqT.of upd_same), rfl, rfl, _, rfl, iteT ?_⟩⟩⟩
    have s1 := newS (o := .tup [.str "pair", .str "left", .str "right"]) np
    refine ⟨_, rfl, 1, rfl, _, rfl, -1, rfl, _, _, rfl, SqT.of (s1 _ _ e), (fun z => absurd z.1 (show ¬ HT.sIx 4 0 (some 1) = 0 by decide)), fun p' np' => ?_⟩
    have ec : cutV [V.str "pair", v1, v2, .int (pts (.pair x.hv y.hv))] (some 1) (some (-1)) = [v1, v2] := rfl
    rw [ec]
    have s2 := s1.trans (newS (o := .tup [v1, v2]) np')
    refine q p' _ _ s2 (.inl (SqT.of upd_same)) ?_
    exact .cons ⟨hx.same s2, by omega⟩ (.cons ⟨hy.same s2, by omega⟩ .nil)
  | side b x =>
    rw [Wt.hv] at hv
    rw [Wt.sz] at hz
    cases hv with
    | @side aa _ _ v1 e hx =>
    cases b with
    | _ =>
      refine ⟨_, rfl, _, _, _, _, true, rfl, .ty "tuple", .base (.tup e), kit_ty (by decide +kernel), _, rfl, iteF ⟨_, rfl, _, _, _, _, rfl, rfl, SqT.of e, atI_nat (j := 0) rfl, _, rfl, (by show 3 ≤ sizeLine; decide), fun p np => ⟨_, _, rfl, .inr (SqT.of upd_same), rfl, rfl, _, rfl, iteT ?_⟩⟩⟩
      have s1 := newS (o := .tup [.str "pair", .str "left", .str "right"]) np
      refine ⟨_, rfl, 1, rfl, _, rfl, -1, rfl, _, _, rfl, SqT.of (s1 _ _ e), (fun z => absurd z.1 (show ¬ HT.sIx 3 0 (some 1) = 0 by decide)), fun p' np' => ?_⟩
      have ec : ∀ (a b : V), cutV [a, v1, b] (some 1) (some (-1)) = [v1] := fun _ _ => rfl
      rw [ec]
      have s2 := s1.trans (newS (o := .tup [v1]) np')
      refine q p' _ _ s2 (.inl (SqT.of upd_same)) ?_
      exact .cons ⟨hx.same s2, by omega⟩ .nil
  | list xs =>
    rw [Wt.hv, hvs_eq] at hv
    rw [Wt.sz] at hz
    have hl := szs_len xs
    have hin : ∀ x ∈ xs, x.sz ≤ 1000 := fun x hx => by
      have := szs_mem hx
      omega
    generalize hhs : xs.map Wt.hv = hs at hv
    have lhs : hs.length = xs.length := by rw [← hhs, List.length_map]
    obtain ⟨a, ws, rfl, ha, _, hc⟩ := Hd.lst N hv
    rcases hc with ⟨rfl, h0⟩ | ⟨x, r', vx, vr, rfl, h0, h1, h2, hx, hrr⟩
    · have exs : xs = [] := List.map_eq_nil_iff.mp hhs
      subst exs
      cases hv
      obtain ⟨o, e, c⟩ := N.lk
      refine ⟨_, rfl, _, _, _, _, true, rfl, .ty "tuple", .kTuple e c, kit_ty (by decide +kernel), _, rfl, iteF ⟨_, rfl, _, _, _, _, rfl, rfl, N.tup H, atI_nat (j := 0) rfl, _, rfl, (by show 3 ≤ sizeLine; decide), fun p np => ⟨_, _, rfl, .inr (SqT.of upd_same), rfl, rfl, _, rfl, iteF ?_⟩⟩⟩
      exact ⟨_, rfl, rfl, _, rfl, iteF ⟨_, rfl, rfl, _, rfl, iteF ⟨Nat.zero_le _, fun p' np' => none _ (newS np) rfl p' np'⟩⟩⟩
    · have hv0 := hv
      rw [ofList] at hv
      cases hv with
      | more e a b =>
      refine ⟨_, rfl, _, _, _, _, true, rfl, .ty "tuple", .base (.tup e), kit_ty (by decide +kernel), _, rfl, iteF ⟨_, rfl, _, _, _, _, rfl, rfl, SqT.of e, atI_nat (j := 0) rfl, _, rfl, (by show 3 ≤ sizeLine; decide), fun p np => ⟨_, _, rfl, .inr (SqT.of upd_same), rfl, rfl, _, rfl, iteF ?_⟩⟩⟩
      have s1 := newS (o := .tup [.str "pair", .str "left", .str "right"]) np
      refine ⟨_, rfl, rfl, _, rfl, iteT ⟨_, rfl, _, _, rfl, hv0.same s1, by omega, fun l us G s2 nl gl pu => ?_⟩⟩
      refine q l us G (s1.trans s2) (.inr ⟨?_, gl⟩) ?_
      · exact s1.free nl
      · rw [← hhs] at pu
        exact Paired.andP (Paired.of_map pu) fun x hx y r => ⟨r, hin x hx⟩
theorem scRel : FnScope ["worth", "inner", "word"] ["worth", "inner"] (defScope tRel) := ⟨rfl, rfl, rfl, by decide +kernel, rfl, by decide +kernel, by decide +kernel⟩
theorem okRel {f : Addr} {fd : FuncData} {k : Nat} (F : Fun K "released" "released" tRel f fd) (N : NoI K mg oN) (mi : mg "isinstance" = none) (mt : mg "tuple" = none) : FnOk P w K mg base CX0 (k + 1) f fd ["worth", "inner"] (spJo TG (InG K oN oP NS) (Dd Non)) := by
  refine F.ok scRel (fun vs H Q E h => ?_) (fun cdv A outer s H vs Q E hr h => ?_)
  · obtain ⟨v, a, l, us, rfl, _⟩ := h
    rfl
  obtain ⟨v, a, l, us, rfl, ⟨hv, hz'⟩, gl, pu, _, q⟩ := h
  refine ⟨_, pss_cons (ps_if (pt_not (pt_val (pe_callB (isiK K rfl) (by rfl) mi PyProof.Rows.boot_isinstance (pa_cons (pv 0) (pa_cons (pe_bltn (v := .ty "tuple") (by rfl) mt PyProof.Rows.boot_tuple rfl) pa_nil))))) (pss_one (ps_ret (pv 0))) pss_nil)
    (pss_cons (ps_set (i := 2) scRel.nd rfl (.inl rfl) (pe_ix ix_tup (pv 0) pe_int (fun _ _ => rfl)))
    (pss_cons (ps_if (pt_cmpR op_in_seq (pv 2) (pe_tup (pa_cons pe_str (pa_cons pe_str pa_nil))) rfl) (pss_one (ps_ret (pe_tup (pa_cons pe_str (pa_cons (pe_callTy call_tuple_of (by rfl) mt PyProof.Rows.boot_tuple (pa_cons (pv 1) pa_nil)) pa_nil))))) pss_nil)
    (pss_cons (ps_if (pt_cmpR op_in_seq (pv 2) (pe_tup (pa_cons pe_str (pa_cons pe_str (pa_cons pe_str pa_nil)))) rfl) (pss_one (ps_ret (pe_tup (pa_cons (pv 2) (Kz.pa_starK K rfl (pv 1) pa_nil))))) pss_nil)
    (pss_cons (ps_if (pt_cmpR op_eq (pv 2) pe_str (nomark _)) (pss_one ps_no) pss_nil)
    (pss_one (ps_ret (pv 0))))))), ?_⟩
  cases a with
  | int i =>
    rw [Wt.hv] at hv
    cases hv
    exact ⟨_, rfl, _, _, _, _, false, rfl, .ty "tuple", .base (.int i), kit_ty (by decide +kernel), _, rfl, iteT ⟨_, rfl, q _ H (Same.refl _) (by show Dd Non H (Wt.d (.int i)) _; rw [Wt.d]; exact .int i)⟩⟩
  | bl i =>
    rw [Wt.hv] at hv
    cases hv
    exact ⟨_, rfl, _, _, _, _, false, rfl, .ty "tuple", .base (.bl i), kit_ty (by decide +kernel), _, rfl, iteT ⟨_, rfl, q _ H (Same.refl _) (by show Dd Non H (Wt.d (.bl i)) _; rw [Wt.d]; exact .bl i)⟩⟩
  | thing n i =>
    rw [Wt.hv] at hv
    cases hv with
    | thing e =>
    refine ⟨_, rfl, _, _, _, _, true, rfl, .ty "tuple", .base (.tup e), kit_ty (by decide +kernel), _, rfl, iteF ⟨_, rfl, _, _, _, _, rfl, rfl, SqT.of e, atI_nat (j := 0) rfl, _, rfl, (by show 2 ≤ sizeLine; decide), fun p np => ⟨_, _, rfl, .inr (SqT.of upd_same), rfl, rfl, _, rfl, iteF ?_⟩⟩⟩
    have s1 := newS (o := .tup [.str "more", .str "none"]) np
    refine ⟨_, rfl, (by show 3 ≤ sizeLine; decide), fun p2 np2 => ⟨_, _, rfl, .inr (SqT.of upd_same), rfl, rfl, _, rfl, iteF ?_⟩⟩
    have s2 := s1.trans (newS (o := .tup [.str "pair", .str "left", .str "right"]) np2)
    refine ⟨_, rfl, rfl, _, rfl, iteF ⟨_, rfl, q _ _ s2 ?_⟩⟩
    show Dd Non _ (Wt.d (.thing n i)) _
    rw [Wt.d]
    exact .tup (s2 _ _ e) (.cons (.str _) (.cons (.str _) (.cons (.int _) .nil)))
  | pair x y =>
    rw [Wt.hv] at hv
    cases hv with
    | pair e hx hy =>
    obtain ⟨u1, u2, rfl, h1, h2⟩ : ∃ u1 u2, us = [u1, u2] ∧ Dd Non H x.d u1 ∧ Dd Non H y.d u2 := by
      cases pu with
      | cons a b =>
      cases b with
      | cons b c =>
      cases c
      exact ⟨_, _, rfl, a, b⟩
    refine ⟨_, rfl, _, _, _, _, true, rfl, .ty "tuple", .base (.tup e), kit_ty (by decide +kernel), _, rfl, iteF ⟨_, rfl, _, _, _, _, rfl, rfl, SqT.of e, atI_nat (j := 0) rfl, _, rfl, (by show 2 ≤ sizeLine; decide), fun p np => ⟨_, _, rfl, .inr (SqT.of upd_same), rfl, rfl, _, rfl, iteF ?_⟩⟩⟩
    have s1 := newS (o := .tup [.str "more", .str "none"]) np
    refine ⟨_, rfl, (by show 3 ≤ sizeLine; decide), fun p2 np2 => ⟨_, _, rfl, .inr (SqT.of upd_same), rfl, rfl, _, rfl, iteT ?_⟩⟩
    have s2 := s1.trans (newS (o := .tup [.str "pair", .str "left", .str "right"]) np2)
    refine ⟨_, rfl, _, rfl, l, _, rfl, .inr (SqL.of (s2 _ _ gl)), (by show 3 ≤ sizeLine; decide), fun p3 np3 => ?_⟩
    have s3 := s2.trans (newS (o := .tup [V.str "pair", u1, u2]) np3)
    refine q _ _ s3 ?_
    show Dd Non _ (Wt.d (.pair x y)) _
    rw [Wt.d]
    exact .tup upd_same (.cons (.str _) (.cons (h1.same s3) (.cons (h2.same s3) .nil)))
  | side b x =>
    rw [Wt.hv] at hv
    cases hv with
    | side e hx =>
    obtain ⟨u1, rfl, h1⟩ : ∃ u1, us = [u1] ∧ Dd Non H x.d u1 := by
      cases pu with
      | cons a b =>
      cases b
      exact ⟨_, rfl, a⟩
    cases b with
    | _ =>
      refine ⟨_, rfl, _, _, _, _, true, rfl, .ty "tuple", .base (.tup e), kit_ty (by decide +kernel), _, rfl, iteF ⟨_, rfl, _, _, _, _, rfl, rfl, SqT.of e, atI_nat (j := 0) rfl, _, rfl, (by show 2 ≤ sizeLine; decide), fun p np => ⟨_, _, rfl, .inr (SqT.of upd_same), rfl, rfl, _, rfl, iteF ?_⟩⟩⟩
      have s1 := newS (o := .tup [.str "more", .str "none"]) np
      refine ⟨_, rfl, (by show 3 ≤ sizeLine; decide), fun p2 np2 => ⟨_, _, rfl, .inr (SqT.of upd_same), rfl, rfl, _, rfl, iteT ?_⟩⟩
      have s2 := s1.trans (newS (o := .tup [.str "pair", .str "left", .str "right"]) np2)
      refine ⟨_, rfl, _, rfl, l, _, rfl, .inr (SqL.of (s2 _ _ gl)), (by show 2 ≤ sizeLine; decide), fun p3 np3 => ?_⟩
      refine q _ _ (s2.trans (newS np3)) ?_
      show Dd Non _ (Wt.d (.side _ x)) _
      rw [Wt.d]
      exact .tup upd_same (.cons (.str _) (.cons ((h1.same s2).same (newS np3)) .nil))
  | list xs =>
    have pu' : Paired (Dd Non H) (xs.map Wt.d) us := pu
    have dl : DdL Non H (xs.map Wt.d) us := by
      clear pu gl hv hz' q hr
      generalize xs.map Wt.d = ds at pu'
      induction pu' with
      | nil => exact .nil
      | cons a b ih => exact .cons a ih
    rw [Wt.hv, hvs_eq] at hv
    have fin : ∀ (G : Hp) (p : Addr), Same H G → G p = Option.none → Q (.ref p) (upd G p (.tup [V.str "list", .ref l])) → True := fun _ _ _ _ _ => trivial
    have fin : ∀ (G : Hp), Same H G → ∀ t, G t = Option.none → ∀ p2, (upd G t (.tup us)) p2 = Option.none → Q (.ref p2) (upd (upd G t (.tup us)) p2 (.tup [V.str "list", .ref t])) := fun G s t nt p2 np2 => by
      have s3 := (s.trans (newS (o := .tup us) nt)).trans (newS (o := .tup [V.str "list", .ref t]) np2)
      refine q _ _ s3 ?_
      show Dd Non _ (Wt.d (.list xs)) _
      rw [Wt.d, ds_eq]
      refine .tup upd_same (.cons (.str _) (.cons (.tup ?_ (dl.same s3)) .nil))
      rw [upd_ne (ne_of_none upd_same np2)]
      exact upd_same
    generalize hhs : xs.map Wt.hv = hs at hv
    cases hs with
    | nil =>
      rw [ofList] at hv
      cases hv
      obtain ⟨o, e, c⟩ := N.lk
      refine ⟨_, rfl, _, _, _, _, true, rfl, .ty "tuple", .kTuple e c, kit_ty (by decide +kernel), _, rfl, iteF ⟨_, rfl, _, _, _, _, rfl, rfl, N.tup H, atI_nat (j := 0) rfl, _, rfl, (by show 2 ≤ sizeLine; decide), fun p np => ⟨_, _, rfl, .inr (SqT.of upd_same), rfl, rfl, _, rfl, iteT ?_⟩⟩⟩
      have s1 := newS (o := .tup [V.str "more", V.str "none"]) np
      exact ⟨_, rfl, l, _, rfl, .inl ⟨SqL.of (s1 _ _ gl), fun t nt => ⟨by show 2 ≤ sizeLine; decide, fun p2 np2 => fin _ s1 t nt p2 np2⟩⟩⟩
    | cons x r =>
      rw [ofList] at hv
      cases hv with
      | more e a b =>
      refine ⟨_, rfl, _, _, _, _, true, rfl, .ty "tuple", .base (.tup e), kit_ty (by decide +kernel), _, rfl, iteF ⟨_, rfl, _, _, _, _, rfl, rfl, SqT.of e, atI_nat (j := 0) rfl, _, rfl, (by show 2 ≤ sizeLine; decide), fun p np => ⟨_, _, rfl, .inr (SqT.of upd_same), rfl, rfl, _, rfl, iteT ?_⟩⟩⟩
      have s1 := newS (o := .tup [V.str "more", V.str "none"]) np
      exact ⟨_, rfl, l, _, rfl, .inl ⟨SqL.of (s1 _ _ gl), fun t nt => ⟨by show 2 ≤ sizeLine; decide, fun p2 np2 => fin _ s1 t nt p2 np2⟩⟩⟩
theorem scGiven : FnScope ["worth"] ["worth"] (defScope tGiven) := ⟨rfl, rfl, rfl, by decide +kernel, rfl, by decide +kernel, by decide +kernel⟩
def spGiven (K : PySem.W.Frag) (oN oP : Addr) (NS : List Str) : Sp := fun vs H Q _ => ∃ (v : V) (a : Wt), vs = [v] ∧ Hd K oN oP NS H a.hv v ∧ a.sz ≤ 1000 ∧ ∀ (u : V) (G : Hp), Same H G → Dd Non G a.d u → Q u G
theorem okGiven {f fR fW fJ : Addr} {fd fdR : FuncData} {k : Nat} (F : Fun K "given_out" "given_out" tGiven f fd) (N : NoI K mg oN)
    (GR : FnOk P w K mg base CX0 k fR fdR ["worth", "within", "joined"] (spReb fW fJ TG (InG K oN oP NS) (Dd Non))) (bR : Binds K fdR ["worth", "within", "joined"] []) (gR : mg "rebuilt" = some (.ref fR)) (kR : PySem.W.keepIn K (.ref fR) = true)
    (gW : mg "held_within" = some (.ref fW)) (gJ : mg "released" = some (.ref fJ))
    (mi : mg "isinstance" = none) (mt : mg "tuple" = none) : FnOk P w K mg base CX0 (k + 1) f fd ["worth"] (spGiven K oN oP NS) := by
  refine F.ok scGiven (fun vs H Q E h => ?_) (fun cdv A outer s H vs Q E hr h => ?_)
  · obtain ⟨v, a, rfl, _⟩ := h
    rfl
  obtain ⟨v, a, rfl, hv, hz, q⟩ := h
  refine ⟨_, pss_cons (ps_if (PW.pt (pw_or (pt_not (pt_val (pe_callB (isiK K rfl) (by rfl) mi PyProof.Rows.boot_isinstance (pa_cons (pv 0) (pa_cons (pe_bltn (v := .ty "tuple") (by rfl) mt PyProof.Rows.boot_tuple rfl) pa_nil)))))
      (pw_or1 (pt_cmpR op_eq (pe_ix ix_tup (pv 0) pe_int (fun _ _ => rfl)) pe_str (nomark _))))) (pss_one (ps_ret (pv 0))) pss_nil)
    (pss_one (ps_ret (pe_call GR hr (by rfl) gR kR bR .nil pass0 (pa_cons (pv 0) (pa_cons (pe_glob (v := .ref fW) (by rfl) gW rfl) (pa_cons (pe_glob (v := .ref fJ) (by rfl) gJ rfl) pa_nil)))))), ?_⟩
  have hin : InG K oN oP NS H a v := ⟨hv, hz⟩
  have hz2 : TG.sz a ≤ 100000 := Nat.le_trans hz (by decide)
  cases a with
  | int i =>
    rw [Wt.hv] at hv
    cases hv
    exact ⟨_, rfl, _, _, _, _, false, rfl, .ty "tuple", .base (.int i), kit_ty (by decide +kernel), _, rfl, iteT ⟨_, rfl, q _ H (Same.refl _) (by rw [Wt.d]; exact .int i)⟩⟩
  | bl b =>
    rw [Wt.hv] at hv
    cases hv
    exact ⟨_, rfl, _, _, _, _, false, rfl, .ty "tuple", .base (.bl b), kit_ty (by decide +kernel), _, rfl, iteT ⟨_, rfl, q _ H (Same.refl _) (by rw [Wt.d]; exact .bl b)⟩⟩
  | thing n i =>
    rw [Wt.hv] at hv
    cases hv with
    | thing e =>
    exact ⟨_, rfl, _, _, _, _, true, rfl, .ty "tuple", .base (.tup e), kit_ty (by decide +kernel), _, rfl, iteF ⟨_, rfl, _, _, _, _, rfl, rfl, SqT.of e, atI_nat (j := 0) rfl, rfl, _, rfl, iteT ⟨_, rfl, q _ H (Same.refl _) (by rw [Wt.d]; exact .tup e (.cons (.str _) (.cons (.str _) (.cons (.int _) .nil))))⟩⟩⟩
  | pair x y =>
    rw [Wt.hv] at hv
    cases hv with
    | pair e hx hy =>
    exact ⟨_, rfl, _, _, _, _, true, rfl, .ty "tuple", .base (.tup e), kit_ty (by decide +kernel), _, rfl, iteF ⟨_, rfl, _, _, _, _, rfl, rfl, SqT.of e, atI_nat (j := 0) rfl, rfl, _, rfl, iteF ⟨_, rfl, _, _, rfl, hin, hz2, q⟩⟩⟩
  | side b x =>
    rw [Wt.hv] at hv
    cases hv with
    | side e hx =>
    cases b with
    | _ => exact ⟨_, rfl, _, _, _, _, true, rfl, .ty "tuple", .base (.tup e), kit_ty (by decide +kernel), _, rfl, iteF ⟨_, rfl, _, _, _, _, rfl, rfl, SqT.of e, atI_nat (j := 0) rfl, rfl, _, rfl, iteF ⟨_, rfl, _, _, rfl, hin, hz2, q⟩⟩⟩
  | list xs =>
    rw [Wt.hv, hvs_eq] at hv
    generalize hhs : xs.map Wt.hv = hs at hv
    cases hs with
    | nil =>
      rw [ofList] at hv
      cases hv
      obtain ⟨o, e, c⟩ := N.lk
      exact ⟨_, rfl, _, _, _, _, true, rfl, .ty "tuple", .kTuple e c, kit_ty (by decide +kernel), _, rfl, iteF ⟨_, rfl, _, _, _, _, rfl, rfl, N.tup H, atI_nat (j := 0) rfl, rfl, _, rfl, iteF ⟨_, rfl, _, _, rfl, hin, hz2, q⟩⟩⟩
    | cons x r =>
      rw [ofList] at hv
      cases hv with
      | more e a b => exact ⟨_, rfl, _, _, _, _, true, rfl, .ty "tuple", .base (.tup e), kit_ty (by decide +kernel), _, rfl, iteF ⟨_, rfl, _, _, _, _, rfl, rfl, SqT.of e, atI_nat (j := 0) rfl, rfl, _, rfl, iteF ⟨_, rfl, _, _, rfl, hin, hz2, q⟩⟩⟩
end
end Kq

/-! the rules of a run, with faults -/
namespace Kq
open PySem PySem.Spec PyProof.Rows L2 Kf Kv Kk Ku
abbrev tWA : Stmt := tp 34
abbrev tBoth : Stmt := tp 35
abbrev tCalled : Stmt := tp 36
abbrev tClo : Stmt := tp 37
abbrev tCPutter : Stmt := tp 41
abbrev tCPutting : Stmt := tp 42
abbrev tPutOn : Stmt := tp 43
abbrev tRName : Stmt := tp 45
abbrev tRFun : Stmt := tp 46
abbrev tRCall : Stmt := tp 47
abbrev tRNum : Stmt := tp 48
abbrev tRPlus : Stmt := tp 49
abbrev tRLess : Stmt := tp 50
abbrev tRTruth : Stmt := tp 51
abbrev tRIf : Stmt := tp 52
abbrev tRPair : Stmt := tp 53
abbrev tRFst : Stmt := tp 54
abbrev tRSnd : Stmt := tp 55
abbrev tRLeft : Stmt := tp 56
abbrev tRRight : Stmt := tp 57
abbrev tRNone : Stmt := tp 59
abbrev tRMore : Stmt := tp 60
abbrev tRFold : Stmt := tp 61
abbrev tRBuilt : Stmt := tp 62
abbrev tRFault : Stmt := tp 64
abbrev tRRounds : Stmt := tp 65
abbrev tMkPair : Stmt := tp 14
abbrev tMkSide : Stmt := tp 15
abbrev tMkList : Stmt := tp 16
/-- the class of faults, as the written part has it -/
structure FM (K : PySem.W.Frag) (mg : Str → Option Value) (cF : Addr) : Prop where
  gP : mg "Faulted" = some (.ref cF)
  xP : PySem.W.excIn K cF [.type "Exception", .type "BaseException", .type "object"] "Exception.__new__" = true
  kP : PySem.W.keepIn K (.ref cF) = true
  bP : PySem.W.subIn K (.ref cF) (.type "BaseException") = some true
  tP : PySem.W.typeIn K (.ref cF) = some (.type "type")
/-- the global putter -/
structure NoP (K : PySem.W.Frag) (mg : Str → Option Value) (oP : Addr) : Prop where
  mgP : mg "PUTTER" = some (.ref oP)
  tup : ∀ H : Hp, SqT K H oP [.str "putter"]
theorem Ss.mk {st p : Addr} {H : Hp} {o : HO} (h : H p = none) : Ss st H (upd H p o) := Ss.of (newS h)
abbrev psR : List Str := ["term", "names", "steps"]
abbrev REv := En → Dt → Nat → Oc → Nat → Prop
/-- an outcome of two terms -/
inductive Ob where
  | ok (h g : Hv)
  | ex (much : Bool)
abbrev RBo := En → Dt → Dt → Nat → Ob → Nat → Prop
abbrev tRCase : Stmt := tp 58
theorem passV {X : Cx} {E : XK} (tk : Takes X (fun cls d _ H => E cls d H)) : Passes (L2.CX X.prog X.w) X E := fun pins σ H s e s' I c => passAt tk σ pins H s e s' I c
inductive Bo (R : REv) : RBo
  | both {e : En} {a b : Dt} {k k1 k2 : Nat} {h g : Hv} : R e a k (.ok h) k1 → R e b k1 (.ok g) k2 → Bo R e a b k (.ok h g) k2
  | bad1 {e : En} {a b : Dt} {k k1 : Nat} {z : Bool} : R e a k (.ex z) k1 → Bo R e a b k (.ex z) k1
  | bad2 {e : En} {a b : Dt} {k k1 k2 : Nat} {h : Hv} {z : Bool} : R e a k (.ok h) k1 → R e b k1 (.ex z) k2 → Bo R e a b k (.ex z) k2
section
variable (K : PySem.W.Frag) (oN oP : Addr) (NS : List Str) (C cF cM : Addr)
/-- what follows an outcome -/
def Ko (st : Addr) (k1 : Nat) : Oc → Hp → VK → XK → Prop
  | .ok h, H, Q, _ => ∀ (u : V) (G : Hp), Ss st H G → Stp C st k1 G → Hd K oN oP NS G h u → Q u G
  | .ex z, H, _, E => ∀ G : Hp, Ss st H G → Stp C st k1 G → E (.ref (if z then cM else cF)) none G
def KoB (st : Addr) (k1 : Nat) : Ob → Hp → VK → XK → Prop
  | .ok h g, H, Q, _ => ∀ (p : Addr) (u v : V) (G : Hp), Ss st H G → Stp C st k1 G → G p = some (.tup [u, v]) → Hd K oN oP NS G h u → Hd K oN oP NS G g v → Q (.ref p) G
  | .ex z, H, _, E => ∀ G : Hp, Ss st H G → Stp C st k1 G → E (.ref (if z then cM else cF)) none G
def spEv (R : REv) : Sp := fun vs H Q E => ∃ (vt : V) (d st : Addr) (e : En) (t : Dt) (k k1 : Nat) (oh : Oc), vs = [vt, .ref d, .ref st] ∧ Dd Non H t vt ∧ Ed K oN oP NS H e d ∧ Stp C st k H ∧ R e t k oh k1 ∧ Ko K oN oP NS C cF cM st k1 oh H Q E
def spBoth (B : RBo) : Sp := fun vs H Q E => ∃ (vt : V) (d st : Addr) (e : En) (x : Str) (a b : Dt) (k k2 : Nat) (o : Ob), vs = [vt, .ref d, .ref st] ∧ Dd Non H (.tup [.str x, a, b]) vt ∧ Ed K oN oP NS H e d ∧ Stp C st k H ∧ B e a b k o k2 ∧ KoB K oN oP NS C cF cM st k2 o H Q E
end
section
variable {P : Program} {w : World} {K : PySem.W.Frag} {mg : Str → Option Value} {base : Heap} {oN oP : Addr} {NS : List Str} {C cF cM : Addr}
theorem Ko.ss {st : Addr} {k1 : Nat} {oh : Oc} {H G : Hp} {Q : VK} {E : XK} (q : Ko K oN oP NS C cF cM st k1 oh H Q E) (s : Ss st H G) : Ko K oN oP NS C cF cM st k1 oh G Q E := by
  cases oh with
  | ex z => exact fun F s1 sp => q F (s.trans s1) sp
  | ok h => exact fun u F s1 sp hh => q u F (s.trans s1) sp hh
theorem noFn {CX : CXT} {f : Addr} {fd : FuncData} {ps : List Str} {sp : Sp} {k : Nat} (no : ∀ vs H Q E, ¬ sp vs H Q E) : FnOk P w K mg base CX k f fd ps sp :=
  ⟨fun vs H Q E h => absurd h (no vs H Q E), fun A outer s H args us vs Q E _ _ _ _ h => absurd h (no vs H Q E)⟩
theorem upOk {CX : CXT} {j k : Nat} {f : Addr} {fd : FuncData} {ps : List Str} {sp : Sp} (F : FnOk P w K mg base CX j f fd ps sp) (h : j ≤ k) : FnOk P w K mg base CX k f fd ps sp :=
  ⟨F.len, fun A outer s H args us vs Q E hr => F.run A outer s H args us vs Q E (hr.mono h)⟩
theorem spEv_len {R : REv} {vs : List V} {H : Hp} {Q : VK} {E : XK} (h : spEv K oN oP NS C cF cM R vs H Q E) : vs.length = 3 := by
  obtain ⟨vt, d, st, e, t, k, k1, oh, rfl, _⟩ := h
  rfl
/-- a rule's term, by its word -/
theorem Dd.of2 {N : Addr → Prop} {H : Hp} {x : Str} {a : Dt} {v : V} (h : Dd N H (.tup [.str x, a]) v) : ∃ p u, v = .ref p ∧ H p = some (.tup [.str x, u]) ∧ Dd N H a u := by
  cases h with
  | tup e t =>
  cases t with
  | cons t1 t =>
  cases t with
  | cons t2 t =>
  cases t
  cases t1
  exact ⟨_, _, rfl, e, t2⟩
theorem Dd.of3 {N : Addr → Prop} {H : Hp} {x : Str} {a b : Dt} {v : V} (h : Dd N H (.tup [.str x, a, b]) v) : ∃ p u u', v = .ref p ∧ H p = some (.tup [.str x, u, u']) ∧ Dd N H a u ∧ Dd N H b u' := by
  cases h with
  | tup e t =>
  cases t with
  | cons t1 t =>
  cases t with
  | cons t2 t =>
  cases t with
  | cons t3 t =>
  cases t
  cases t1
  exact ⟨_, _, _, rfl, e, t2, t3⟩
theorem Dd.of4 {N : Addr → Prop} {H : Hp} {x : Str} {a b c : Dt} {v : V} (h : Dd N H (.tup [.str x, a, b, c]) v) : ∃ p u u' u'', v = .ref p ∧ H p = some (.tup [.str x, u, u', u'']) ∧ Dd N H a u ∧ Dd N H b u' ∧ Dd N H c u'' := by
  cases h with
  | tup e t =>
  cases t with
  | cons t1 t =>
  cases t with
  | cons t2 t =>
  cases t with
  | cons t3 t =>
  cases t with
  | cons t4 t =>
  cases t
  cases t1
  exact ⟨_, _, _, _, rfl, e, t2, t3, t4⟩
theorem Dd.of6 {N : Addr → Prop} {H : Hp} {x y z : Str} {a b c : Dt} {v : V} (h : Dd N H (.tup [.str x, a, b, .str y, .str z, c]) v) : ∃ p u u' u'', v = .ref p ∧ H p = some (.tup [.str x, u, u', .str y, .str z, u'']) ∧ Dd N H a u ∧ Dd N H b u' ∧ Dd N H c u'' := by
  cases h with
  | tup e t =>
  cases t with
  | cons t1 t =>
  cases t with
  | cons t2 t =>
  cases t with
  | cons t3 t =>
  cases t with
  | cons t4 t =>
  cases t with
  | cons t5 t =>
  cases t with
  | cons t6 t =>
  cases t
  cases t1
  cases t4
  cases t5
  exact ⟨_, _, _, _, rfl, e, t2, t3, t6⟩
/-! names, funs, numbers, truths, faults -/
theorem scRName : FnScope psR psR (defScope tRName) := ⟨rfl, rfl, rfl, by decide +kernel, rfl, by decide +kernel, by decide +kernel⟩
def evName : REv := fun e t k oh k1 => ∃ x h, t = tmName x ∧ e x = some h ∧ oh = .ok h ∧ k1 = k
theorem okRName {f : Addr} {fd : FuncData} {k : Nat} (F : Fun K "run_name" "run_name" tRName f fd) : FnOk P w K mg base (L2.CX P w) (k + 1) f fd psR (spEv K oN oP NS C cF cM evName) := by
  refine F.okX scRName (fun vs H Q E h => spEv_len h) (fun cdv A outer s H vs Q E hr h => ?_)
  obtain ⟨vt, d, st, e, t, k, k1, oh, rfl, hd, ed, sp, ⟨x, h, rfl, ex, rfl, rfl⟩, q⟩ := h
  refine ⟨_, pss_one (ps_ret (pe_dget (hu_of hr) (pv 1) (pe_ix ix_tup (pv 0) pe_int (fun _ _ => rfl)) (fun _ _ => rfl))), ?_⟩
  obtain ⟨p, u, rfl, hp, hx⟩ := Dd.of2 hd
  cases hx
  obtain ⟨kvs, hk, nm, lk⟩ := ed
  obtain ⟨v, ev, hv⟩ := lk x h ex
  exact ⟨_, rfl, _, rfl, _, _, _, _, rfl, rfl, SqT.of hp, atI_nat (j := 1) rfl, _, _, rfl, ev ▸ DGet.k (k := Sum.inr x) hk, q v H Ss.rfl sp hv⟩
theorem scRFun : FnScope psR psR (defScope tRFun) := ⟨rfl, rfl, rfl, by decide +kernel, rfl, by decide +kernel, by decide +kernel⟩
def evFun : REv := fun e t k oh k1 => ∃ x d t', t = tmFun x d t' ∧ oh = .ok (.clo x t' e) ∧ k1 = k
theorem okRFun {f : Addr} {fd : FuncData} {k : Nat} (F : Fun K "run_fun" "run_fun" tRFun f fd) : FnOk P w K mg base (L2.CX P w) (k + 1) f fd psR (spEv K oN oP NS C cF cM evFun) := by
  refine F.okX scRFun (fun vs H Q E h => spEv_len h) (fun cdv A outer s H vs Q E hr h => ?_)
  obtain ⟨vt, d, st, e, t, k, k1, oh, rfl, hd, ed, sp, ⟨x, d', t', rfl, rfl, rfl⟩, q⟩ := h
  refine ⟨_, pss_one (ps_ret (pe_tup (pa_cons pe_str (pa_cons (pe_ix ix_tup (pv 0) pe_int (fun _ _ => rfl)) (pa_cons (pe_ix ix_tup (pv 0) pe_int (fun _ _ => rfl)) (pa_cons (pv 1) pa_nil)))))), ?_⟩
  obtain ⟨p, u, u', u'', rfl, hp, hx, _, ht⟩ := Dd.of4 hd
  cases hx
  refine ⟨_, rfl, _, _, _, _, rfl, rfl, SqT.of hp, atI_nat (j := 1) rfl, _, rfl, _, _, _, _, rfl, rfl, SqT.of hp, atI_nat (j := 3) rfl, _, rfl, (by show 4 ≤ sizeLine; decide), fun p np => q _ _ (Ss.mk np) (sp.same (newS np)) ?_⟩
  exact Ed.clo (ed.same (newS np)) (ht.same (newS np)) upd_same
theorem scRNum : FnScope psR psR (defScope tRNum) := ⟨rfl, rfl, rfl, by decide +kernel, rfl, by decide +kernel, by decide +kernel⟩
def evNum : REv := fun e t k oh k1 => ∃ i, t = tmNum i ∧ oh = num i ∧ k1 = k
theorem Ko.num {st : Addr} {k1 : Nat} {i : Int} {H : Hp} {Q : VK} {E : XK} (q : Ko K oN oP NS C cF cM st k1 (num i) H Q E) {G : Hp} (s : Ss st H G) (sp : Stp C st k1 G) : (i ≤ GR → Q (.int i) G) ∧ (GR < i → E (.ref cM) none G) := by
  unfold Kq.num at q
  constructor
  · intro h
    rw [if_pos h] at q
    exact q _ G s sp (.int i)
  · intro h
    rw [if_neg (by omega)] at q
    exact q G s sp
theorem okRNum {f fN : Addr} {fd fdN : FuncData} {k : Nat} (F : Fun K "run_num" "run_num" tRNum f fd)
    (GN : FnOk P w K mg base (L2.CX P w) (k + 1) fN fdN ["number"] (spNumsX cM)) (bN : Binds K fdN ["number"] []) (gN : mg "within_numbers" = some (.ref fN)) (kN : PySem.W.keepIn K (.ref fN) = true) : FnOk P w K mg base (L2.CX P w) (k + 2) f fd psR (spEv K oN oP NS C cF cM evNum) := by
  refine F.okX scRNum (fun vs H Q E h => spEv_len h) (fun cdv A outer s H vs Q E hr h => ?_)
  obtain ⟨vt, d, st, e, t, k, k1, oh, rfl, hd, ed, sp, ⟨i, rfl, rfl, rfl⟩, q⟩ := h
  refine ⟨_, pss_one (ps_ret (pe_callS GN hr (by rfl) gN kN bN (fun σ => passAt (takes_of rfl rfl rfl rfl) σ) (pa_cons (pe_ix ix_tup (pv 0) pe_int (fun _ _ => rfl)) pa_nil))), ?_⟩
  obtain ⟨p, u, rfl, hp, hx⟩ := Dd.of2 hd
  cases hx
  exact ⟨_, rfl, _, _, _, _, rfl, rfl, SqT.of hp, atI_nat (j := 1) rfl, i, rfl, q.num Ss.rfl sp⟩
theorem scRTruth : FnScope psR psR (defScope tRTruth) := ⟨rfl, rfl, rfl, by decide +kernel, rfl, by decide +kernel, by decide +kernel⟩
def evTruth : REv := fun e t k oh k1 => ∃ b, t = tmTruth b ∧ oh = .ok (.bl b) ∧ k1 = k
theorem okRTruth {f : Addr} {fd : FuncData} {k : Nat} (F : Fun K "run_truth" "run_truth" tRTruth f fd) : FnOk P w K mg base (L2.CX P w) (k + 1) f fd psR (spEv K oN oP NS C cF cM evTruth) := by
  refine F.okX scRTruth (fun vs H Q E h => spEv_len h) (fun cdv A outer s H vs Q E hr h => ?_)
  obtain ⟨vt, d, st, e, t, k, k1, oh, rfl, hd, ed, sp, ⟨b, rfl, rfl, rfl⟩, q⟩ := h
  refine ⟨_, pss_one (ps_ret (pe_ix ix_tup (pv 0) pe_int (fun _ _ => rfl))), ?_⟩
  obtain ⟨p, u, rfl, hp, hx⟩ := Dd.of2 hd
  cases hx
  exact ⟨_, rfl, _, _, _, _, rfl, rfl, SqT.of hp, atI_nat (j := 1) rfl, q _ H Ss.rfl sp (.bl b)⟩
theorem scRNone : FnScope psR psR (defScope tRNone) := ⟨rfl, rfl, rfl, by decide +kernel, rfl, by decide +kernel, by decide +kernel⟩
def evNone : REv := fun e t k oh k1 => ∃ d, t = tmOne "none" d ∧ oh = .ok .nil ∧ k1 = k
theorem okRNone {f : Addr} {fd : FuncData} {k : Nat} (F : Fun K "run_none" "run_none" tRNone f fd) (N : NoI K mg oN) : FnOk P w K mg base (L2.CX P w) (k + 1) f fd psR (spEv K oN oP NS C cF cM evNone) := by
  refine F.okX scRNone (fun vs H Q E h => spEv_len h) (fun cdv A outer s H vs Q E hr h => ?_)
  obtain ⟨vt, d, st, e, t, k, k1, oh, rfl, hd, ed, sp, ⟨b, rfl, rfl, rfl⟩, q⟩ := h
  exact ⟨_, pss_one (ps_ret (pe_glob (v := .ref oN) (by rfl) N.mgN rfl)), q _ H Ss.rfl sp .nil⟩
theorem scRFault : FnScope psR psR (defScope tRFault) := ⟨rfl, rfl, rfl, by decide +kernel, rfl, by decide +kernel, by decide +kernel⟩
def evFault : REv := fun e t k oh k1 => ∃ d, t = tmOne "fault" d ∧ oh = .ex false ∧ k1 = k
theorem okRFault {f : Addr} {fd : FuncData} {k : Nat} (F : Fun K "run_fault" "run_fault" tRFault f fd) (M : FM K mg cF) : FnOk P w K mg base (L2.CX P w) (k + 1) f fd psR (spEv K oN oP NS C cF cM evFault) := by
  refine F.okX scRFault (fun vs H Q E h => spEv_len h) (fun cdv A outer s H vs Q E hr h => ?_)
  obtain ⟨vt, d, st, e, t, k, k1, oh, rfl, hd, ed, sp, ⟨b, rfl, rfl, rfl⟩, q⟩ := h
  exact ⟨_, pss_one (ps_raise rfl (takes_of rfl rfl rfl rfl) (SkE.pmk_own1 PySem.F.excBase_Exception M.xP M.gP M.kP (raises_own M.bP M.tP) rfl pe_str)), q H Ss.rfl sp⟩
/-! both_at -/
theorem scBoth : FnScope ["term", "names", "steps", "one"] psR (defScope tBoth) := ⟨rfl, rfl, rfl, by decide +kernel, rfl, by decide +kernel, by decide +kernel⟩
theorem okBoth {f fW : Addr} {fd fdW : FuncData} {k : Nat} {R : REv} (F : Fun K "both_at" "both_at" tBoth f fd)
    (GW : FnOk P w K mg base (L2.CX P w) k fW fdW psR (spEv K oN oP NS C cF cM R)) (bW : Binds K fdW psR []) (gW : mg "worth_at" = some (.ref fW)) (kW : PySem.W.keepIn K (.ref fW) = true) : FnOk P w K mg base (L2.CX P w) (k + 1) f fd psR (spBoth K oN oP NS C cF cM (Bo R)) := by
  refine F.okX scBoth (fun vs H Q E h => ?_) (fun cdv A outer s H vs Q E hr h => ?_)
  · obtain ⟨vt, d, st, e, x, a, b, k, k2, o, rfl, _⟩ := h
    rfl
  obtain ⟨vt, d, st, e, x, a, b, k, k2, o, rfl, hd, ed, sp, bo, q⟩ := h
  refine ⟨_, pss_cons (ps_set (i := 3) scBoth.nd rfl (.inl rfl) (pe_callS GW hr (by rfl) gW kW bW (fun σ => passAt (takes_of rfl rfl rfl rfl) σ) (pa_cons (pe_ix ix_tup (pv 0) pe_int (fun _ _ => rfl)) (pa_cons (pv 1) (pa_cons (pv 2) pa_nil)))))
    (pss_one (ps_ret (pe_tup (pa_cons (pv 3) (pa_cons (pe_callS GW hr (by rfl) gW kW bW (fun σ => passAt (takes_of rfl rfl rfl rfl) σ) (pa_cons (pe_ix ix_tup (pv 0) pe_int (fun _ _ => rfl)) (pa_cons (pv 1) (pa_cons (pv 2) pa_nil)))) pa_nil))))), ?_⟩
  obtain ⟨p, u, u', rfl, hp, ha, hb⟩ := Dd.of3 hd
  cases bo with
  | bad1 r1 => exact ⟨_, rfl, _, _, _, _, rfl, rfl, SqT.of hp, atI_nat (j := 1) rfl, _, rfl, _, rfl, u, d, st, e, a, k, k2, .ex _, rfl, ha, ed, sp, r1, q⟩
  | @bad2 _ _ _ _ k1 _ h _ r1 r2 =>
    refine ⟨_, rfl, _, _, _, _, rfl, rfl, SqT.of hp, atI_nat (j := 1) rfl, _, rfl, _, rfl, u, d, st, e, a, k, k1, .ok h, rfl, ha, ed, sp, r1, fun y G s1 sp1 hh => ?_⟩
    have k1' := s1.rk sp
    exact ⟨_, rfl, _, rfl, _, _, _, _, rfl, rfl, SqT.of (k1'.tup _ _ hp), atI_nat (j := 2) rfl, _, rfl, _, rfl, u', d, st, e, b, _, _, .ex _, rfl, hb.kn k1'.kn, ed.rk k1', sp1, r2, fun G2 s2 sp2 => q G2 (s1.trans s2) sp2⟩
  | @both _ _ _ _ k1 _ h g r1 r2 =>
    refine ⟨_, rfl, _, _, _, _, rfl, rfl, SqT.of hp, atI_nat (j := 1) rfl, _, rfl, _, rfl, u, d, st, e, a, k, k1, .ok h, rfl, ha, ed, sp, r1, fun y G s1 sp1 hh => ?_⟩
    have k1' := s1.rk sp
    refine ⟨_, rfl, _, rfl, _, _, _, _, rfl, rfl, SqT.of (k1'.tup _ _ hp), atI_nat (j := 2) rfl, _, rfl, _, rfl, u', d, st, e, b, _, _, .ok g, rfl, hb.kn k1'.kn, ed.rk k1', sp1, r2, fun z G2 s2 sp2 hg => ?_⟩
    have k2 := s2.rk sp1
    refine ⟨(by show 2 ≤ sizeLine; decide), fun p np => q p y z _ ((s1.trans s2).trans (Ss.mk np)) (sp2.same (newS np)) upd_same ((hh.rk k2).same (newS np)) (hg.same (newS np))⟩
end
end Kq

/-! pairs, sides, lists made; the rules of two terms -/
namespace Kq
open PySem PySem.Spec PyProof.Rows L2 Kf Kv Kk Ku
section
variable {P : Program} {w : World} {K : PySem.W.Frag} {mg : Str → Option Value} {base : Heap} {oN oP : Addr} {NS : List Str} {C cF cM : Addr}
theorem scWP : FnScope ["many"] ["many"] (defScope tParts) := ⟨rfl, rfl, rfl, by decide +kernel, rfl, by decide +kernel, by decide +kernel⟩
def spWP (cM : Addr) : Sp := fun vs H Q E => ∃ i : Int, vs = [.int i] ∧ (i ≤ 200 → Q (.int i) H) ∧ (200 < i → E (.ref cM) none H)
theorem okWP {f : Addr} {fd : FuncData} {k : Nat} {uM : Value} (F : Fun K "within_parts" "within_parts" tParts f fd) (xm : XM K mg cM) (mM : mg "MOST_PARTS" = some uM) (rM : RelV (.int 200) uM) : FnOk P w K mg base (L2.CX P w) (k + 1) f fd ["many"] (spWP cM) := by
  refine F.okX scWP (fun vs H Q E h => ?_) (fun cdv A outer s H vs Q E hr h => ?_)
  · obtain ⟨i, rfl, _⟩ := h
    rfl
  obtain ⟨i, rfl, q, qe⟩ := h
  refine ⟨_, pss_cons (ps_if (pt_cmpR op_gt (pv 0) (pe_glob (v := .int 200) (by rfl) mM rM) (nomark _))
    (pss_one (ps_raise rfl (takes_of rfl rfl rfl rfl) (SkE.pmk_own1 PySem.F.excBase_ValueError xm.xP xm.gP xm.kP (raises_own xm.bP xm.tP) rfl (pe_joined (.cons pe_str (.cons (pe_fmt (pe_glob (v := .int 200) (by rfl) mM rM)) (.cons pe_str .nil))))))) pss_nil) (pss_one (ps_ret (pv 0))), ?_⟩
  refine ⟨_, rfl, _, _, rfl, rfl, _, rfl, ite2 (fun e => ?_) (fun e => ?_)⟩
  · exact ⟨_, rfl, by decide +kernel, .inr ⟨_, rfl, by decide, _, rfl, by decide +kernel, _, rfl, by decide +kernel, qe (of_decide_eq_true e)⟩⟩
  · have e : ¬ (200 : Int) < i := fun z => e (decide_eq_true z)
    exact ⟨_, rfl, q (by omega)⟩
theorem scMkPair : FnScope ["one", "other"] ["one", "other"] (defScope tMkPair) := ⟨rfl, rfl, rfl, by decide +kernel, rfl, by decide +kernel, by decide +kernel⟩
def spMkPair (K : PySem.W.Frag) (oN oP : Addr) (NS : List Str) (cM : Addr) : Sp := fun vs H Q E => ∃ (u v : V) (h g : Hv), vs = [u, v] ∧ Hd K oN oP NS H h u ∧ Hd K oN oP NS H g v ∧ h.nc ∧ g.nc ∧ (1 + pts h + pts g ≤ 200 → ∀ (p : Addr) (G : Hp), Same H G → Hd K oN oP NS G (.pair h g) (.ref p) → Q (.ref p) G) ∧ (200 < 1 + pts h + pts g → E (.ref cM) none H)
theorem okMkPair {f fN fP : Addr} {fd fdN fdP : FuncData} {k : Nat} (F : Fun K "make_pair" "make_pair" tMkPair f fd)
    (GN : FnOk P w K mg base (L2.CX P w) k fN fdN ["many"] (spWP cM)) (bN : Binds K fdN ["many"] []) (gN : mg "within_parts" = some (.ref fN)) (kN : PySem.W.keepIn K (.ref fN) = true)
    (GP : FnOk P w K mg base CX0 k fP fdP ["worth"] (spPIn K oN oP NS)) (bP : Binds K fdP ["worth"] []) (gP : mg "parts_in" = some (.ref fP)) (kP : PySem.W.keepIn K (.ref fP) = true) : FnOk P w K mg base (L2.CX P w) (k + 1) f fd ["one", "other"] (spMkPair K oN oP NS cM) := by
  refine F.okX scMkPair (fun vs H Q E h => ?_) (fun cdv A outer s H vs Q E hr h => ?_)
  · obtain ⟨u, v, h, g, rfl, _⟩ := h
    rfl
  obtain ⟨u, v, h, g, rfl, hu, hv, n1, n2, q, qe⟩ := h
  refine ⟨_, pss_one (ps_ret (pe_tup (pa_cons pe_str (pa_cons (pv 0) (pa_cons (pv 1) (pa_cons (pe_callS GN hr (by rfl) gN kN bN (fun σ => passAt (takes_of rfl rfl rfl rfl) σ) (pa_cons (pe_op op_add (pe_op op_add pe_int (pe_call GP hr (by rfl) gP kP bP .nil pass0 (pa_cons (pv 0) pa_nil))) (pe_call GP hr (by rfl) gP kP bP .nil pass0 (pa_cons (pv 1) pa_nil))) pa_nil)) pa_nil)))))), ?_⟩
  refine ⟨_, rfl, _, rfl, _, rfl, u, h, rfl, hu, n1, _, _, rfl, rfl, _, rfl, v, g, rfl, hv, n2, _, _, rfl, rfl, _, rfl, fun hl => ⟨(by show 4 ≤ sizeLine; decide), fun p np => q hl p _ (newS np) ?_⟩, qe⟩
  exact .pair upd_same (hu.same (newS np)) (hv.same (newS np))
theorem scMkSide : FnScope ["side", "worth"] ["side", "worth"] (defScope tMkSide) := ⟨rfl, rfl, rfl, by decide +kernel, rfl, by decide +kernel, by decide +kernel⟩
def spMkSide (K : PySem.W.Frag) (oN oP : Addr) (NS : List Str) (cM : Addr) : Sp := fun vs H Q E => ∃ (b : Bool) (v : V) (h : Hv), vs = [.str (sideW b), v] ∧ Hd K oN oP NS H h v ∧ h.nc ∧ (1 + pts h ≤ 200 → ∀ (p : Addr) (G : Hp), Same H G → Hd K oN oP NS G (.side b h) (.ref p) → Q (.ref p) G) ∧ (200 < 1 + pts h → E (.ref cM) none H)
theorem okMkSide {f fN fP : Addr} {fd fdN fdP : FuncData} {k : Nat} (F : Fun K "make_side" "make_side" tMkSide f fd)
    (GN : FnOk P w K mg base (L2.CX P w) k fN fdN ["many"] (spWP cM)) (bN : Binds K fdN ["many"] []) (gN : mg "within_parts" = some (.ref fN)) (kN : PySem.W.keepIn K (.ref fN) = true)
    (GP : FnOk P w K mg base CX0 k fP fdP ["worth"] (spPIn K oN oP NS)) (bP : Binds K fdP ["worth"] []) (gP : mg "parts_in" = some (.ref fP)) (kP : PySem.W.keepIn K (.ref fP) = true) : FnOk P w K mg base (L2.CX P w) (k + 1) f fd ["side", "worth"] (spMkSide K oN oP NS cM) := by
  refine F.okX scMkSide (fun vs H Q E h => ?_) (fun cdv A outer s H vs Q E hr h => ?_)
  · obtain ⟨b, v, h, rfl, _⟩ := h
    rfl
  obtain ⟨b, v, h, rfl, hv, n1, q, qe⟩ := h
  refine ⟨_, pss_one (ps_ret (pe_tup (pa_cons (pv 0) (pa_cons (pv 1) (pa_cons (pe_callS GN hr (by rfl) gN kN bN (fun σ => passAt (takes_of rfl rfl rfl rfl) σ) (pa_cons (pe_op op_add pe_int (pe_call GP hr (by rfl) gP kP bP .nil pass0 (pa_cons (pv 1) pa_nil))) pa_nil)) pa_nil))))), ?_⟩
  refine ⟨_, rfl, _, rfl, _, rfl, v, h, rfl, hv, n1, _, _, rfl, rfl, _, rfl, fun hl => ⟨(by show 3 ≤ sizeLine; decide), fun p np => q hl p _ (newS np) ?_⟩, qe⟩
  exact .side upd_same (hv.same (newS np))
theorem scMkList : FnScope ["item", "rest"] ["item", "rest"] (defScope tMkList) := ⟨rfl, rfl, rfl, by decide +kernel, rfl, by decide +kernel, by decide +kernel⟩
def spMkList (K : PySem.W.Frag) (oN oP : Addr) (NS : List Str) (cM : Addr) : Sp := fun vs H Q E => ∃ (u v : V) (h : Hv) (xs : List Hv), vs = [u, v] ∧ Hd K oN oP NS H h u ∧ Hd K oN oP NS H (ofList xs) v ∧ h.nc ∧ (pts h + pts (ofList xs) ≤ 200 → ∀ (p : Addr) (G : Hp), Same H G → Hd K oN oP NS G (ofList (h :: xs)) (.ref p) → Q (.ref p) G) ∧ (200 < pts h + pts (ofList xs) → E (.ref cM) none H)
theorem okMkList {f fN fP : Addr} {fd fdN fdP : FuncData} {k : Nat} (F : Fun K "make_list" "make_list" tMkList f fd) (N : NoI K mg oN)
    (GN : FnOk P w K mg base (L2.CX P w) k fN fdN ["many"] (spWP cM)) (bN : Binds K fdN ["many"] []) (gN : mg "within_parts" = some (.ref fN)) (kN : PySem.W.keepIn K (.ref fN) = true)
    (GP : FnOk P w K mg base CX0 k fP fdP ["worth"] (spPIn K oN oP NS)) (bP : Binds K fdP ["worth"] []) (gP : mg "parts_in" = some (.ref fP)) (kP : PySem.W.keepIn K (.ref fP) = true) : FnOk P w K mg base (L2.CX P w) (k + 1) f fd ["item", "rest"] (spMkList K oN oP NS cM) := by
  refine F.okX scMkList (fun vs H Q E h => ?_) (fun cdv A outer s H vs Q E hr h => ?_)
  · obtain ⟨u, v, h, xs, rfl, _⟩ := h
    rfl
  obtain ⟨u, v, h, xs, rfl, hu, hv, n1, q, qe⟩ := h
  refine ⟨_, pss_one (ps_ret (pe_tup (pa_cons pe_str (pa_cons (pv 0) (pa_cons (pv 1) (pa_cons (pe_callS GN hr (by rfl) gN kN bN (fun σ => passAt (takes_of rfl rfl rfl rfl) σ) (pa_cons (pe_op op_add (pe_call GP hr (by rfl) gP kP bP .nil pass0 (pa_cons (pv 0) pa_nil)) (pe_ix ix_tup (pv 1) (pe_un un_neg pe_int) (fun _ _ => rfl))) pa_nil)) pa_nil)))))), ?_⟩
  obtain ⟨a, us, rfl, ha, hi, _⟩ := Hd.lst N hv
  refine ⟨_, rfl, _, rfl, _, rfl, u, h, rfl, hu, n1, _, rfl, _, rfl, _, _, _, _, rfl, rfl, ha, hi, _, _, rfl, rfl, _, rfl, fun hl => ⟨(by show 4 ≤ sizeLine; decide), fun p np => q hl p _ (newS np) ?_⟩, qe⟩
  exact .more upd_same (hu.same (newS np)) (hv.same (newS np))
theorem scPutOn : FnScope ["item", "rest", "steps"] ["item", "rest", "steps"] (defScope tPutOn) := ⟨rfl, rfl, rfl, by decide +kernel, rfl, by decide +kernel, by decide +kernel⟩
def spPutOn (K : PySem.W.Frag) (oN oP : Addr) (NS : List Str) (C cM : Addr) : Sp := fun vs H Q E => ∃ (u v : V) (st : Addr) (h : Hv) (xs : List Hv) (k : Nat), vs = [u, v, .ref st] ∧ Hd K oN oP NS H h u ∧ Hd K oN oP NS H (ofList xs) v ∧ Stp C st k H ∧ h.nc ∧ (k + 1 ≤ 1000 → pts h + pts (ofList xs) ≤ 200 → ∀ (p : V) (G : Hp), Ss st H G → Stp C st (k + 1) G → Hd K oN oP NS G (ofList (h :: xs)) p → Q p G) ∧
  (1000 < k + 1 ∨ 200 < pts h + pts (ofList xs) → ∀ G : Hp, Ss st H G → Stp C st (k + 1) G → E (.ref cM) none G)
theorem okPutOn {f fL fT : Addr} {fd fdL fdT : FuncData} {k : Nat} (F : Fun K "put_on" "put_on" tPutOn f fd)
    (GL : FnOk P w K mg base (L2.CX P w) (k + 1) fL fdL ["item", "rest"] (spMkList K oN oP NS cM)) (bL : Binds K fdL ["item", "rest"] []) (gL : mg "make_list" = some (.ref fL)) (kL : PySem.W.keepIn K (.ref fL) = true)
    (T : StT K mg C) (GT : FnOk P w K mg base (L2.CX P w) 1 fT fdT ["self"] (spTake C cM)) (bT : Binds K fdT ["self"] []) (mT : Meth K C "take" fT) : FnOk P w K mg base (L2.CX P w) (k + 2) f fd ["item", "rest", "steps"] (spPutOn K oN oP NS C cM) := by
  refine F.okX scPutOn (fun vs H Q E h => ?_) (fun cdv A outer s H vs Q E hr h => ?_)
  · obtain ⟨u, v, st, h, xs, k, rfl, _⟩ := h
    rfl
  obtain ⟨u, v, st, h, xs, k, rfl, hu, hv, sp, n1, q, qe⟩ := h
  have hr1 : Room 1 _ := hr.mono (by omega)
  refine ⟨_, pss_cons (ps_expr (pe_meth0 (pv 2) T.cl mT GT hr1 bT .nil (passV (takes_of rfl rfl rfl rfl)))) (pss_one (ps_ret (pe_callS GL hr (by rfl) gL kL bL (fun σ => passAt (takes_of rfl rfl rfl rfl) σ) (pa_cons (pv 0) (pa_cons (pv 1) pa_nil))))), ?_⟩
  obtain ⟨dx, hst⟩ := id sp
  refine ⟨_, rfl, st, dx, _, rfl, hst, (by rfl), st, k, rfl, sp, fun hk G s1 sp1 => ?_, fun hk G s1 sp1 => qe (.inl hk) G s1 sp1⟩
  have q1 := s1.rk sp
  exact ⟨_, rfl, _, rfl, u, v, h, xs, rfl, hu.rk q1, hv.rk q1, n1, fun hl p G2 s2 hp => q hk hl _ G2 (s1.trans (.of s2)) (sp1.same s2) hp, fun hl => qe (.inr hl) G s1 sp1⟩
/-- what is made -/
theorem Ko.made {st : Addr} {k1 : Nat} {m : Int} {h : Hv} {H : Hp} {Q : VK} {E : XK} (q : Ko K oN oP NS C cF cM st k1 (made m h) H Q E) : (m ≤ 200 → ∀ (u : V) (G : Hp), Ss st H G → Stp C st k1 G → Hd K oN oP NS G h u → Q u G) ∧ (200 < m → ∀ G : Hp, Ss st H G → Stp C st k1 G → E (.ref cM) none G) := by
  unfold Kq.made at q
  constructor
  · intro h
    rw [if_pos h] at q
    exact q
  · intro h
    rw [if_neg (by omega)] at q
    exact q
/-! two terms -/
abbrev nTwo : List Str := ["term", "names", "steps", "one", "other"]
theorem scRPlus : FnScope nTwo psR (defScope tRPlus) := ⟨rfl, rfl, rfl, by decide +kernel, rfl, by decide +kernel, by decide +kernel⟩
def evPlus (B : RBo) : REv := fun e t k oh k2 => ∃ a b, t = tmTwo "plus" a b ∧ ((∃ i j, B e a b k (.ok (.int i) (.int j)) k2 ∧ oh = num (i + j)) ∨ (∃ z, B e a b k (.ex z) k2 ∧ oh = .ex z))
theorem okRPlus {f fB fN : Addr} {fd fdB fdN : FuncData} {k : Nat} {B : RBo} (F : Fun K "run_plus" "run_plus" tRPlus f fd)
    (GB : FnOk P w K mg base (L2.CX P w) (k + 1) fB fdB psR (spBoth K oN oP NS C cF cM B)) (bB : Binds K fdB psR []) (gB : mg "both_at" = some (.ref fB)) (kB : PySem.W.keepIn K (.ref fB) = true)
    (GN : FnOk P w K mg base (L2.CX P w) (k + 1) fN fdN ["number"] (spNumsX cM)) (bN : Binds K fdN ["number"] []) (gN : mg "within_numbers" = some (.ref fN)) (kN : PySem.W.keepIn K (.ref fN) = true) : FnOk P w K mg base (L2.CX P w) (k + 2) f fd psR (spEv K oN oP NS C cF cM (evPlus B)) := by
  refine F.okX scRPlus (fun vs H Q E h => spEv_len h) (fun cdv A outer s H vs Q E hr h => ?_)
  obtain ⟨vt, d, st, e, t, k, k2, oh, rfl, hd, ed, sp, ⟨a, b, rfl, ho⟩, q⟩ := h
  refine ⟨_, pss_cons (ps_asg (pe_callS GB hr (by rfl) gB kB bB (fun σ => passAt (takes_of rfl rfl rfl rfl) σ) (pa_cons (pv 0) (pa_cons (pv 1) (pa_cons (pv 2) pa_nil)))) (pg_tup rfl (pgs_cons (pg_name (i := 3) scRPlus.nd rfl (.inl rfl)) (pgs_cons (pg_name (i := 4) scRPlus.nd rfl (.inl rfl)) pgs_nil))))
    (pss_one (ps_ret (pe_callS GN hr (by rfl) gN kN bN (fun σ => passAt (takes_of rfl rfl rfl rfl) σ) (pa_cons (pe_op op_add (pv 3) (pv 4)) pa_nil)))), ?_⟩
  rcases ho with ⟨i, j, bo, rfl⟩ | ⟨z, bo, rfl⟩
  · refine ⟨_, rfl, _, rfl, _, rfl, vt, d, st, e, _, a, b, k, k2, _, rfl, hd, ed, sp, bo, fun p u v G s1 sp1 hp hu hv => ?_⟩
    cases hu
    cases hv
    refine ⟨p, _, rfl, SqT.of hp, rfl, _, _, rfl, _, _, rfl, rfl, ?_⟩
    exact ⟨_, rfl, _, rfl, _, _, rfl, rfl, _, rfl, q.num s1 sp1⟩
  · exact ⟨_, rfl, _, rfl, _, rfl, vt, d, st, e, _, a, b, k, k2, .ex z, rfl, hd, ed, sp, bo, q⟩
theorem scRLess : FnScope nTwo psR (defScope tRLess) := ⟨rfl, rfl, rfl, by decide +kernel, rfl, by decide +kernel, by decide +kernel⟩
def evLess (B : RBo) : REv := fun e t k oh k2 => ∃ a b, t = tmTwo "less" a b ∧ ((∃ i j, B e a b k (.ok (.int i) (.int j)) k2 ∧ oh = .ok (.bl (decide (i < j)))) ∨ (∃ z, B e a b k (.ex z) k2 ∧ oh = .ex z))
theorem okRLess {f fB : Addr} {fd fdB : FuncData} {k : Nat} {B : RBo} (F : Fun K "run_less" "run_less" tRLess f fd)
    (GB : FnOk P w K mg base (L2.CX P w) (k + 1) fB fdB psR (spBoth K oN oP NS C cF cM B)) (bB : Binds K fdB psR []) (gB : mg "both_at" = some (.ref fB)) (kB : PySem.W.keepIn K (.ref fB) = true) : FnOk P w K mg base (L2.CX P w) (k + 2) f fd psR (spEv K oN oP NS C cF cM (evLess B)) := by
  refine F.okX scRLess (fun vs H Q E h => spEv_len h) (fun cdv A outer s H vs Q E hr h => ?_)
  obtain ⟨vt, d, st, e, t, k, k2, oh, rfl, hd, ed, sp, ⟨a, b, rfl, ho⟩, q⟩ := h
  refine ⟨_, pss_cons (ps_asg (pe_callS GB hr (by rfl) gB kB bB (fun σ => passAt (takes_of rfl rfl rfl rfl) σ) (pa_cons (pv 0) (pa_cons (pv 1) (pa_cons (pv 2) pa_nil)))) (pg_tup rfl (pgs_cons (pg_name (i := 3) scRLess.nd rfl (.inl rfl)) (pgs_cons (pg_name (i := 4) scRLess.nd rfl (.inl rfl)) pgs_nil))))
    (pss_one (ps_ret (pe_cmpR op_lt (pv 3) (pv 4) (nomark _)))), ?_⟩
  rcases ho with ⟨i, j, bo, rfl⟩ | ⟨z, bo, rfl⟩
  · refine ⟨_, rfl, _, rfl, _, rfl, vt, d, st, e, _, a, b, k, k2, _, rfl, hd, ed, sp, bo, fun p u v G s1 sp1 hp hu hv => ?_⟩
    cases hu
    cases hv
    refine ⟨p, _, rfl, SqT.of hp, rfl, _, _, rfl, _, _, rfl, rfl, ?_⟩
    exact ⟨_, rfl, _, rfl, _, _, rfl, rfl, q _ G s1 sp1 (.bl _)⟩
  · exact ⟨_, rfl, _, rfl, _, rfl, vt, d, st, e, _, a, b, k, k2, .ex z, rfl, hd, ed, sp, bo, q⟩
theorem scRPair : FnScope nTwo psR (defScope tRPair) := ⟨rfl, rfl, rfl, by decide +kernel, rfl, by decide +kernel, by decide +kernel⟩
def evPair (B : RBo) : REv := fun e t k oh k2 => ∃ a b, t = tmTwo "pair" a b ∧ ((∃ x y, B e a b k (.ok x y) k2 ∧ x.nc ∧ y.nc ∧ oh = made (1 + pts x + pts y) (.pair x y)) ∨ (∃ z, B e a b k (.ex z) k2 ∧ oh = .ex z))
theorem okRPair {f fB fN : Addr} {fd fdB fdN : FuncData} {k : Nat} {B : RBo} (F : Fun K "run_pair" "run_pair" tRPair f fd)
    (GB : FnOk P w K mg base (L2.CX P w) (k + 1) fB fdB psR (spBoth K oN oP NS C cF cM B)) (bB : Binds K fdB psR []) (gB : mg "both_at" = some (.ref fB)) (kB : PySem.W.keepIn K (.ref fB) = true)
    (GN : FnOk P w K mg base (L2.CX P w) (k + 1) fN fdN ["one", "other"] (spMkPair K oN oP NS cM)) (bN : Binds K fdN ["one", "other"] []) (gN : mg "make_pair" = some (.ref fN)) (kN : PySem.W.keepIn K (.ref fN) = true) : FnOk P w K mg base (L2.CX P w) (k + 2) f fd psR (spEv K oN oP NS C cF cM (evPair B)) := by
  refine F.okX scRPair (fun vs H Q E h => spEv_len h) (fun cdv A outer s H vs Q E hr h => ?_)
  obtain ⟨vt, d, st, e, t, k, k2, oh, rfl, hd, ed, sp, ⟨a, b, rfl, ho⟩, q⟩ := h
  refine ⟨_, pss_cons (ps_asg (pe_callS GB hr (by rfl) gB kB bB (fun σ => passAt (takes_of rfl rfl rfl rfl) σ) (pa_cons (pv 0) (pa_cons (pv 1) (pa_cons (pv 2) pa_nil)))) (pg_tup rfl (pgs_cons (pg_name (i := 3) scRPair.nd rfl (.inl rfl)) (pgs_cons (pg_name (i := 4) scRPair.nd rfl (.inl rfl)) pgs_nil))))
    (pss_one (ps_ret (pe_callS GN hr (by rfl) gN kN bN (fun σ => passAt (takes_of rfl rfl rfl rfl) σ) (pa_cons (pv 3) (pa_cons (pv 4) pa_nil))))), ?_⟩
  rcases ho with ⟨x, y, bo, n1, n2, rfl⟩ | ⟨z, bo, rfl⟩
  · refine ⟨_, rfl, _, rfl, _, rfl, vt, d, st, e, _, a, b, k, k2, _, rfl, hd, ed, sp, bo, fun p u v G s1 sp1 hp hu hv => ?_⟩
    refine ⟨p, _, rfl, SqT.of hp, rfl, _, _, rfl, _, _, rfl, rfl, ?_⟩
    exact ⟨_, rfl, _, rfl, u, v, x, y, rfl, hu, hv, n1, n2, fun hl p2 G2 s2 h2 => q.made.1 hl _ G2 (s1.trans (.of s2)) (sp1.same s2) h2, fun hl => q.made.2 hl _ s1 sp1⟩
  · exact ⟨_, rfl, _, rfl, _, rfl, vt, d, st, e, _, a, b, k, k2, .ex z, rfl, hd, ed, sp, bo, q⟩
theorem scRMore : FnScope ["term", "names", "steps", "item", "rest"] psR (defScope tRMore) := ⟨rfl, rfl, rfl, by decide +kernel, rfl, by decide +kernel, by decide +kernel⟩
def evMore (B : RBo) : REv := fun e t k oh k2 => ∃ a b, t = tmTwo "more" a b ∧ ((∃ x xs k1, B e a b k (.ok x (ofList xs)) k1 ∧ x.nc ∧ k1 + 1 ≤ 1000 ∧ oh = made (pts x + pts (ofList xs)) (ofList (x :: xs)) ∧ k2 = k1 + 1) ∨ (∃ x xs k1, B e a b k (.ok x (ofList xs)) k1 ∧ x.nc ∧ 1000 < k1 + 1 ∧ oh = .ex true ∧ k2 = k1 + 1) ∨ (∃ z, B e a b k (.ex z) k2 ∧ oh = .ex z))
theorem okRMore {f fB fN : Addr} {fd fdB fdN : FuncData} {k : Nat} {B : RBo} (F : Fun K "run_more" "run_more" tRMore f fd)
    (GB : FnOk P w K mg base (L2.CX P w) (k + 1) fB fdB psR (spBoth K oN oP NS C cF cM B)) (bB : Binds K fdB psR []) (gB : mg "both_at" = some (.ref fB)) (kB : PySem.W.keepIn K (.ref fB) = true)
    (GN : FnOk P w K mg base (L2.CX P w) (k + 1) fN fdN ["item", "rest", "steps"] (spPutOn K oN oP NS C cM)) (bN : Binds K fdN ["item", "rest", "steps"] []) (gN : mg "put_on" = some (.ref fN)) (kN : PySem.W.keepIn K (.ref fN) = true) : FnOk P w K mg base (L2.CX P w) (k + 2) f fd psR (spEv K oN oP NS C cF cM (evMore B)) := by
  refine F.okX scRMore (fun vs H Q E h => spEv_len h) (fun cdv A outer s H vs Q E hr h => ?_)
  obtain ⟨vt, d, st, e, t, k, k2, oh, rfl, hd, ed, sp, ⟨a, b, rfl, ho⟩, q⟩ := h
  refine ⟨_, pss_cons (ps_asg (pe_callS GB hr (by rfl) gB kB bB (fun σ => passAt (takes_of rfl rfl rfl rfl) σ) (pa_cons (pv 0) (pa_cons (pv 1) (pa_cons (pv 2) pa_nil)))) (pg_tup rfl (pgs_cons (pg_name (i := 3) scRMore.nd rfl (.inl rfl)) (pgs_cons (pg_name (i := 4) scRMore.nd rfl (.inl rfl)) pgs_nil))))
    (pss_one (ps_ret (pe_callS GN hr (by rfl) gN kN bN (fun σ => passAt (takes_of rfl rfl rfl rfl) σ) (pa_cons (pv 3) (pa_cons (pv 4) (pa_cons (pv 2) pa_nil)))))), ?_⟩
  rcases ho with ⟨x, xs, k1, bo, n1, hk, rfl, rfl⟩ | ⟨x, xs, k1, bo, n1, hk, rfl, rfl⟩ | ⟨z, bo, rfl⟩
  · refine ⟨_, rfl, _, rfl, _, rfl, vt, d, st, e, _, a, b, k, k1, _, rfl, hd, ed, sp, bo, fun p u v G s1 sp1 hp hu hv => ?_⟩
    refine ⟨p, _, rfl, SqT.of hp, rfl, _, _, rfl, _, _, rfl, rfl, ?_⟩
    refine ⟨_, rfl, _, rfl, _, rfl, u, v, st, x, xs, k1, rfl, hu, hv, sp1, n1, fun _ hl p2 G2 s2 sp2 h2 => q.made.1 hl _ G2 (s1.trans s2) sp2 h2, fun hl G2 s2 sp2 => ?_⟩
    rcases hl with hl | hl
    · omega
    · exact q.made.2 hl _ (s1.trans s2) sp2
  · refine ⟨_, rfl, _, rfl, _, rfl, vt, d, st, e, _, a, b, k, k1, _, rfl, hd, ed, sp, bo, fun p u v G s1 sp1 hp hu hv => ?_⟩
    refine ⟨p, _, rfl, SqT.of hp, rfl, _, _, rfl, _, _, rfl, rfl, ?_⟩
    exact ⟨_, rfl, _, rfl, _, rfl, u, v, st, x, xs, k1, rfl, hu, hv, sp1, n1, fun z => absurd z (by omega), fun _ G2 s2 sp2 => q G2 (s1.trans s2) sp2⟩
  · exact ⟨_, rfl, _, rfl, _, rfl, vt, d, st, e, _, a, b, k, k2, .ex z, rfl, hd, ed, sp, bo, q⟩
/-! one term -/
theorem scRFst : FnScope psR psR (defScope tRFst) := ⟨rfl, rfl, rfl, by decide +kernel, rfl, by decide +kernel, by decide +kernel⟩
def evFst (R : REv) : REv := fun e t k oh k1 => ∃ a, t = tmOne "first" a ∧ ((∃ x y, R e a k (.ok (.pair x y)) k1 ∧ oh = .ok x) ∨ (∃ z, R e a k (.ex z) k1 ∧ oh = .ex z))
theorem okRFst {f fW : Addr} {fd fdW : FuncData} {k : Nat} {R : REv} (F : Fun K "run_first" "run_first" tRFst f fd)
    (GW : FnOk P w K mg base (L2.CX P w) k fW fdW psR (spEv K oN oP NS C cF cM R)) (bW : Binds K fdW psR []) (gW : mg "worth_at" = some (.ref fW)) (kW : PySem.W.keepIn K (.ref fW) = true) : FnOk P w K mg base (L2.CX P w) (k + 1) f fd psR (spEv K oN oP NS C cF cM (evFst R)) := by
  refine F.okX scRFst (fun vs H Q E h => spEv_len h) (fun cdv A outer s H vs Q E hr h => ?_)
  obtain ⟨vt, d, st, e, t, k, k1, oh, rfl, hd, ed, sp, ⟨a, rfl, ho⟩, q⟩ := h
  refine ⟨_, pss_one (ps_ret (pe_ix ix_tup (pe_callS GW hr (by rfl) gW kW bW (fun σ => passAt (takes_of rfl rfl rfl rfl) σ) (pa_cons (pe_ix ix_tup (pv 0) pe_int (fun _ _ => rfl)) (pa_cons (pv 1) (pa_cons (pv 2) pa_nil)))) pe_int (fun _ _ => rfl))), ?_⟩
  obtain ⟨p, u, rfl, hp, hx⟩ := Dd.of2 hd
  rcases ho with ⟨x, y, r1, rfl⟩ | ⟨z, r1, rfl⟩
  · refine ⟨_, rfl, _, _, _, _, rfl, rfl, SqT.of hp, atI_nat (j := 1) rfl, _, rfl, _, rfl, u, d, st, e, a, k, k1, _, rfl, hx, ed, sp, r1, fun y G s1 sp1 hh => ?_⟩
    cases hh with
    | pair e a b => exact ⟨_, _, _, _, rfl, rfl, SqT.of e, atI_nat (j := 1) rfl, q _ G s1 sp1 a⟩
  · exact ⟨_, rfl, _, _, _, _, rfl, rfl, SqT.of hp, atI_nat (j := 1) rfl, _, rfl, _, rfl, u, d, st, e, a, k, k1, .ex z, rfl, hx, ed, sp, r1, q⟩
theorem scRSnd : FnScope psR psR (defScope tRSnd) := ⟨rfl, rfl, rfl, by decide +kernel, rfl, by decide +kernel, by decide +kernel⟩
def evSnd (R : REv) : REv := fun e t k oh k1 => ∃ a, t = tmOne "second" a ∧ ((∃ x y, R e a k (.ok (.pair x y)) k1 ∧ oh = .ok y) ∨ (∃ z, R e a k (.ex z) k1 ∧ oh = .ex z))
theorem okRSnd {f fW : Addr} {fd fdW : FuncData} {k : Nat} {R : REv} (F : Fun K "run_second" "run_second" tRSnd f fd)
    (GW : FnOk P w K mg base (L2.CX P w) k fW fdW psR (spEv K oN oP NS C cF cM R)) (bW : Binds K fdW psR []) (gW : mg "worth_at" = some (.ref fW)) (kW : PySem.W.keepIn K (.ref fW) = true) : FnOk P w K mg base (L2.CX P w) (k + 1) f fd psR (spEv K oN oP NS C cF cM (evSnd R)) := by
  refine F.okX scRSnd (fun vs H Q E h => spEv_len h) (fun cdv A outer s H vs Q E hr h => ?_)
  obtain ⟨vt, d, st, e, t, k, k1, oh, rfl, hd, ed, sp, ⟨a, rfl, ho⟩, q⟩ := h
  refine ⟨_, pss_one (ps_ret (pe_ix ix_tup (pe_callS GW hr (by rfl) gW kW bW (fun σ => passAt (takes_of rfl rfl rfl rfl) σ) (pa_cons (pe_ix ix_tup (pv 0) pe_int (fun _ _ => rfl)) (pa_cons (pv 1) (pa_cons (pv 2) pa_nil)))) pe_int (fun _ _ => rfl))), ?_⟩
  obtain ⟨p, u, rfl, hp, hx⟩ := Dd.of2 hd
  rcases ho with ⟨x, y, r1, rfl⟩ | ⟨z, r1, rfl⟩
  · refine ⟨_, rfl, _, _, _, _, rfl, rfl, SqT.of hp, atI_nat (j := 1) rfl, _, rfl, _, rfl, u, d, st, e, a, k, k1, _, rfl, hx, ed, sp, r1, fun y G s1 sp1 hh => ?_⟩
    cases hh with
    | pair e a b => exact ⟨_, _, _, _, rfl, rfl, SqT.of e, atI_nat (j := 2) rfl, q _ G s1 sp1 b⟩
  · exact ⟨_, rfl, _, _, _, _, rfl, rfl, SqT.of hp, atI_nat (j := 1) rfl, _, rfl, _, rfl, u, d, st, e, a, k, k1, .ex z, rfl, hx, ed, sp, r1, q⟩
theorem scRLeft : FnScope psR psR (defScope tRLeft) := ⟨rfl, rfl, rfl, by decide +kernel, rfl, by decide +kernel, by decide +kernel⟩
def evLeft (R : REv) : REv := fun e t k oh k1 => ∃ a d, t = tmLeft a d ∧ ((∃ x, R e a k (.ok x) k1 ∧ x.nc ∧ oh = made (1 + pts x) (.side false x)) ∨ (∃ z, R e a k (.ex z) k1 ∧ oh = .ex z))
theorem okRLeft {f fW fM : Addr} {fd fdW fdM : FuncData} {k : Nat} {R : REv} (F : Fun K "run_left" "run_left" tRLeft f fd)
    (GW : FnOk P w K mg base (L2.CX P w) k fW fdW psR (spEv K oN oP NS C cF cM R)) (bW : Binds K fdW psR []) (gW : mg "worth_at" = some (.ref fW)) (kW : PySem.W.keepIn K (.ref fW) = true)
    (GM : FnOk P w K mg base (L2.CX P w) k fM fdM ["side", "worth"] (spMkSide K oN oP NS cM)) (bM : Binds K fdM ["side", "worth"] []) (gM : mg "make_side" = some (.ref fM)) (kM : PySem.W.keepIn K (.ref fM) = true) : FnOk P w K mg base (L2.CX P w) (k + 1) f fd psR (spEv K oN oP NS C cF cM (evLeft R)) := by
  refine F.okX scRLeft (fun vs H Q E h => spEv_len h) (fun cdv A outer s H vs Q E hr h => ?_)
  obtain ⟨vt, d, st, e, t, k, k1, oh, rfl, hd, ed, sp, ⟨a, b, rfl, ho⟩, q⟩ := h
  refine ⟨_, pss_one (ps_ret (pe_callS GM hr (by rfl) gM kM bM (fun σ => passAt (takes_of rfl rfl rfl rfl) σ) (pa_cons pe_str (pa_cons (pe_callS GW hr (by rfl) gW kW bW (fun σ => passAt (takes_of rfl rfl rfl rfl) σ) (pa_cons (pe_ix ix_tup (pv 0) pe_int (fun _ _ => rfl)) (pa_cons (pv 1) (pa_cons (pv 2) pa_nil)))) pa_nil)))), ?_⟩
  obtain ⟨p, u, u', rfl, hp, hx, _⟩ := Dd.of3 hd
  rcases ho with ⟨x, r1, n1, rfl⟩ | ⟨z, r1, rfl⟩
  · refine ⟨_, rfl, _, _, _, _, rfl, rfl, SqT.of hp, atI_nat (j := 1) rfl, _, rfl, _, rfl, u, d, st, e, a, k, k1, _, rfl, hx, ed, sp, r1, fun y G s1 sp1 hh => ?_⟩
    exact ⟨false, y, x, rfl, hh, n1, fun hl p2 G2 s2 h2 => q.made.1 hl _ G2 (s1.trans (.of s2)) (sp1.same s2) h2, fun hl => q.made.2 hl _ s1 sp1⟩
  · exact ⟨_, rfl, _, _, _, _, rfl, rfl, SqT.of hp, atI_nat (j := 1) rfl, _, rfl, _, rfl, u, d, st, e, a, k, k1, .ex z, rfl, hx, ed, sp, r1, q⟩
theorem scRRight : FnScope psR psR (defScope tRRight) := ⟨rfl, rfl, rfl, by decide +kernel, rfl, by decide +kernel, by decide +kernel⟩
def evRight (R : REv) : REv := fun e t k oh k1 => ∃ a d, t = tmRight d a ∧ ((∃ x, R e a k (.ok x) k1 ∧ x.nc ∧ oh = made (1 + pts x) (.side true x)) ∨ (∃ z, R e a k (.ex z) k1 ∧ oh = .ex z))
theorem okRRight {f fW fM : Addr} {fd fdW fdM : FuncData} {k : Nat} {R : REv} (F : Fun K "run_right" "run_right" tRRight f fd)
    (GW : FnOk P w K mg base (L2.CX P w) k fW fdW psR (spEv K oN oP NS C cF cM R)) (bW : Binds K fdW psR []) (gW : mg "worth_at" = some (.ref fW)) (kW : PySem.W.keepIn K (.ref fW) = true)
    (GM : FnOk P w K mg base (L2.CX P w) k fM fdM ["side", "worth"] (spMkSide K oN oP NS cM)) (bM : Binds K fdM ["side", "worth"] []) (gM : mg "make_side" = some (.ref fM)) (kM : PySem.W.keepIn K (.ref fM) = true) : FnOk P w K mg base (L2.CX P w) (k + 1) f fd psR (spEv K oN oP NS C cF cM (evRight R)) := by
  refine F.okX scRRight (fun vs H Q E h => spEv_len h) (fun cdv A outer s H vs Q E hr h => ?_)
  obtain ⟨vt, d, st, e, t, k, k1, oh, rfl, hd, ed, sp, ⟨a, b, rfl, ho⟩, q⟩ := h
  refine ⟨_, pss_one (ps_ret (pe_callS GM hr (by rfl) gM kM bM (fun σ => passAt (takes_of rfl rfl rfl rfl) σ) (pa_cons pe_str (pa_cons (pe_callS GW hr (by rfl) gW kW bW (fun σ => passAt (takes_of rfl rfl rfl rfl) σ) (pa_cons (pe_ix ix_tup (pv 0) pe_int (fun _ _ => rfl)) (pa_cons (pv 1) (pa_cons (pv 2) pa_nil)))) pa_nil)))), ?_⟩
  obtain ⟨p, u, u', rfl, hp, _, hx⟩ := Dd.of3 hd
  rcases ho with ⟨x, r1, n1, rfl⟩ | ⟨z, r1, rfl⟩
  · refine ⟨_, rfl, _, _, _, _, rfl, rfl, SqT.of hp, atI_nat (j := 2) rfl, _, rfl, _, rfl, u', d, st, e, a, k, k1, _, rfl, hx, ed, sp, r1, fun y G s1 sp1 hh => ?_⟩
    exact ⟨true, y, x, rfl, hh, n1, fun hl p2 G2 s2 h2 => q.made.1 hl _ G2 (s1.trans (.of s2)) (sp1.same s2) h2, fun hl => q.made.2 hl _ s1 sp1⟩
  · exact ⟨_, rfl, _, _, _, _, rfl, rfl, SqT.of hp, atI_nat (j := 2) rfl, _, rfl, _, rfl, u', d, st, e, a, k, k1, .ex z, rfl, hx, ed, sp, r1, q⟩
end
end Kq

/-! ifs, folds, builts, rounds, calls -/
namespace Kq
open PySem PySem.Spec PyProof.Rows L2 Kf Kv Kk Ku
section
variable {P : Program} {w : World} {K : PySem.W.Frag} {mg : Str → Option Value} {base : Heap} {oN oP : Addr} {NS : List Str} {C cF cM : Addr}
abbrev nRIf : List Str := ["term", "names", "steps", "word", "asked", "yes", "no"]
theorem scRIf : FnScope nRIf psR (defScope tRIf) := ⟨rfl, rfl, rfl, by decide +kernel, rfl, by decide +kernel, by decide +kernel⟩
def evIf (R : REv) : REv := fun e t k oh k2 => ∃ a b c, t = tmIf a b c ∧ ((∃ k1 z, R e a k (.ok (.bl z)) k1 ∧ R e (if z then b else c) k1 oh k2) ∨ (∃ z, R e a k (.ex z) k2 ∧ oh = .ex z))
theorem okRIf {f fW : Addr} {fd fdW : FuncData} {k : Nat} {R : REv} (F : Fun K "run_if" "run_if" tRIf f fd)
    (GW : FnOk P w K mg base (L2.CX P w) k fW fdW psR (spEv K oN oP NS C cF cM R)) (bW : Binds K fdW psR []) (gW : mg "worth_at" = some (.ref fW)) (kW : PySem.W.keepIn K (.ref fW) = true) : FnOk P w K mg base (L2.CX P w) (k + 1) f fd psR (spEv K oN oP NS C cF cM (evIf R)) := by
  refine F.okX scRIf (fun vs H Q E h => spEv_len h) (fun cdv A outer s H vs Q E hr h => ?_)
  obtain ⟨vt, d, st, e, t, k, k2, oh, rfl, hd, ed, sp, ⟨a, b, c, rfl, ho⟩, q⟩ := h
  refine ⟨_, pss_cons (ps_asg (pv 0) (pg_tup rfl (pgs_cons (pg_name (i := 3) scRIf.nd rfl (.inl rfl)) (pgs_cons (pg_name (i := 4) scRIf.nd rfl (.inl rfl)) (pgs_cons (pg_name (i := 5) scRIf.nd rfl (.inl rfl)) (pgs_cons (pg_name (i := 6) scRIf.nd rfl (.inl rfl)) pgs_nil))))))
    (pss_cons (ps_if (pt_val (pe_callS GW hr (by rfl) gW kW bW (fun σ => passAt (takes_of rfl rfl rfl rfl) σ) (pa_cons (pv 4) (pa_cons (pv 1) (pa_cons (pv 2) pa_nil)))))
      (pss_one (ps_ret (pe_callS GW hr (by rfl) gW kW bW (fun σ => passAt (takes_of rfl rfl rfl rfl) σ) (pa_cons (pv 5) (pa_cons (pv 1) (pa_cons (pv 2) pa_nil)))))) pss_nil)
    (pss_one (ps_ret (pe_callS GW hr (by rfl) gW kW bW (fun σ => passAt (takes_of rfl rfl rfl rfl) σ) (pa_cons (pv 6) (pa_cons (pv 1) (pa_cons (pv 2) pa_nil))))))), ?_⟩
  obtain ⟨p, ua, ub, uc, rfl, hp, ha, hb, hc⟩ := Dd.of4 hd
  refine ⟨_, rfl, p, _, rfl, SqT.of hp, rfl, _, _, rfl, _, _, rfl, _, _, rfl, _, _, rfl, rfl, ?_⟩
  rcases ho with ⟨k1, z, r1, r2⟩ | ⟨z, r1, rfl⟩
  · refine ⟨_, rfl, _, rfl, _, rfl, ua, d, st, e, a, k, k1, _, rfl, ha, ed, sp, r1, fun y G s1 sp1 hh => ?_⟩
    cases hh
    have q1 := s1.rk sp
    cases z with
    | true => exact ⟨true, rfl, iteT ⟨_, rfl, _, rfl, _, rfl, ub, d, st, e, b, k1, k2, oh, rfl, hb.kn q1.kn, ed.rk q1, sp1, r2, q.ss s1⟩⟩
    | false => exact ⟨false, rfl, iteF ⟨_, rfl, _, rfl, _, rfl, uc, d, st, e, c, k1, k2, oh, rfl, hc.kn q1.kn, ed.rk q1, sp1, r2, q.ss s1⟩⟩
  · exact ⟨_, rfl, _, rfl, _, rfl, ua, d, st, e, a, k, k2, .ex z, rfl, ha, ed, sp, r1, q⟩
/-! folds -/
abbrev nRFold : List Str := ["term", "names", "steps", "word", "asked", "begun", "x", "y", "turn", "items", "told", "item"]
theorem scRFold : FnScope nRFold psR (defScope tRFold) := ⟨rfl, rfl, rfl, by decide +kernel, rfl, by decide +kernel, by decide +kernel⟩
def evFold (NS : List Str) (n : Nat) : REv := fun e t k oh k3 => ∃ a b t' x y, t = tmFold a b x y t' ∧ ((∃ k1 k2 xs h0, x ∈ NS ∧ y ∈ NS ∧ Ev NS n e a k (.ok (ofList xs)) k1 ∧ xs.length ≤ 1000 ∧ Ev NS n e b k1 (.ok h0) k2 ∧ k2 + 1 ≤ 1000 ∧ Fo NS n e x y t' xs.reverse h0 (k2 + 1) oh k3) ∨
  (∃ z, Ev NS n e a k (.ex z) k3 ∧ oh = .ex z) ∨ (∃ k1 xs z, Ev NS n e a k (.ok (ofList xs)) k1 ∧ xs.length ≤ 1000 ∧ Ev NS n e b k1 (.ex z) k3 ∧ oh = .ex z) ∨
  (∃ k1 k2 xs h0, Ev NS n e a k (.ok (ofList xs)) k1 ∧ xs.length ≤ 1000 ∧ Ev NS n e b k1 (.ok h0) k2 ∧ 1000 < k2 + 1 ∧ oh = .ex true ∧ k3 = k2 + 1))
theorem okRFold {f fW fI fT : Addr} {fd fdW fdI fdT : FuncData} {k n : Nat} (F : Fun K "run_fold" "run_fold" tRFold f fd) (hn : NS.length ≤ 400)
    (GW : FnOk P w K mg base (L2.CX P w) (k + 1) fW fdW psR (spEv K oN oP NS C cF cM (Ev NS n))) (bW : Binds K fdW psR []) (gW : mg "worth_at" = some (.ref fW)) (kW : PySem.W.keepIn K (.ref fW) = true)
    (GI : FnOk P w K mg base CX0 (k + 1) fI fdI ["worth"] (spItems K oN oP NS)) (bI : Binds K fdI ["worth"] []) (gI : mg "items_of" = some (.ref fI)) (kI : PySem.W.keepIn K (.ref fI) = true)
    (T : StT K mg C) (GT : FnOk P w K mg base (L2.CX P w) 1 fT fdT ["self"] (spTake C cM)) (bT : Binds K fdT ["self"] []) (mT : Meth K C "take" fT) : FnOk P w K mg base (L2.CX P w) (k + 2) f fd psR (spEv K oN oP NS C cF cM (evFold NS n)) := by
  refine F.okX scRFold (fun vs H Q E h => spEv_len h) (fun cdv A outer s H vs Q E hr h => ?_)
  obtain ⟨vt, d, st, e, t, k, k3, oh, rfl, hd, ed, sp, ⟨a, b, t', x, y, rfl, ho⟩, q⟩ := h
  have hr1 : Room 1 _ := hr.mono (by omega)
  refine ⟨_, pss_cons (ps_asg (pv 0) (pg_tup rfl (pgs_cons (pg_name (i := 3) scRFold.nd rfl (.inl rfl)) (pgs_cons (pg_name (i := 4) scRFold.nd rfl (.inl rfl)) (pgs_cons (pg_name (i := 5) scRFold.nd rfl (.inl rfl)) (pgs_cons (pg_name (i := 6) scRFold.nd rfl (.inl rfl)) (pgs_cons (pg_name (i := 7) scRFold.nd rfl (.inl rfl)) (pgs_cons (pg_name (i := 8) scRFold.nd rfl (.inl rfl)) pgs_nil))))))))
    (pss_cons (ps_set (i := 9) scRFold.nd rfl (.inl rfl) (pe_call GI hr (by rfl) gI kI bI .nil pass0 (pa_cons (pe_callS GW hr (by rfl) gW kW bW (fun σ => passAt (takes_of rfl rfl rfl rfl) σ) (pa_cons (pv 4) (pa_cons (pv 1) (pa_cons (pv 2) pa_nil)))) pa_nil)))
    (pss_cons (ps_set (i := 10) scRFold.nd rfl (.inl rfl) (pe_callS GW hr (by rfl) gW kW bW (fun σ => passAt (takes_of rfl rfl rfl rfl) σ) (pa_cons (pv 5) (pa_cons (pv 1) (pa_cons (pv 2) pa_nil)))))
    (pss_cons (ps_expr (pe_meth0 (pv 2) T.cl mT GT hr1 bT .nil (passV (takes_of rfl rfl rfl rfl))))
    (pss_cons (ps_for (passes_of rfl) rfl (pi_list (pe_revL (pv 9))) (pg_name (i := 11) scRFold.nd rfl (.inl rfl))
      (pss_cons (ps_expr (pe_meth0 (pv 2) T.cl mT GT hr1 bT .nil (passV (takes_of rfl rfl rfl rfl))))
      (pss_one (ps_set (i := 10) scRFold.nd rfl (.inl rfl) (pe_callS GW hr (by rfl) gW kW bW (fun σ => passAt (takes_of rfl rfl rfl rfl) σ) (pa_cons (pv 8) (pa_cons (pe_dsplat (pv 1) (pps_cons (pv 6) (pv 11) (pps_cons (pv 7) (pv 10) pps_nil)) (by rfl) (by rfl) (fun z => by cases z) (by decide)) (pa_cons (pv 2) pa_nil))))))))
    (pss_one (ps_ret (pv 10))))))), ?_⟩
  obtain ⟨p, ua, ub, ut, rfl, hp, ha, hb, ht⟩ := Dd.of6 hd
  refine ⟨_, rfl, p, _, rfl, SqT.of hp, rfl, _, _, rfl, _, _, rfl, _, _, rfl, _, _, rfl, _, _, rfl, _, _, rfl, rfl, ?_⟩
  rcases ho with ⟨k1, k2, xs, h0, hx, hy, r1, hl, r2, h2, fo⟩ | ⟨z, r1, rfl⟩ | ⟨k1, xs, z, r1, hl, r2, rfl⟩ | ⟨k1, k2, xs, h0, r1, hl, r2, h2, rfl, rfl⟩
  · refine ⟨_, rfl, _, rfl, _, rfl, ua, d, st, e, a, k, k1, _, rfl, ha, ed, sp, r1, fun v1 G1 s1 sp1 hv1 => ?_⟩
    have q1 := s1.rk sp
    refine ⟨v1, xs, rfl, hv1, hl, fun l us G2 s2 nl gl pu => ?_⟩
    have q2 : Rk H G2 := q1.trans (.of s2)
    have sp2 := sp1.same s2
    refine ⟨_, rfl, _, rfl, _, rfl, ub, d, st, e, b, k1, k2, .ok h0, rfl, hb.kn q2.kn, ed.rk q2, sp2, r2, fun v2 G3 s3 sp3 hv2 => ?_⟩
    have q3 := s3.rk sp2
    have gl3 : G3 l = some (.lst us) := s3 l _ (fun z => by obtain ⟨dx, z2⟩ := sp2; rw [← z, gl] at z2; cases z2) gl
    obtain ⟨dx3, hst3⟩ := id sp3
    refine ⟨_, rfl, st, dx3, _, rfl, hst3, (by rfl), st, k2, rfl, sp3, fun _ G4 s4 sp4 => ?_, fun z => absurd z (by omega)⟩
    have q4 := s4.rk sp3
    have gl4 : G4 l = some (.lst us) := s4 l _ (fun z => by rw [← z, gl3] at hst3; cases hst3) gl3
    have ssA : Ss st H G4 := ((s1.trans (.of s2)).trans s3).trans s4
    have qA : Rk H G4 := ssA.rk sp
    have pu4 : Paired (Hd K oN oP NS G4) xs us := Paired.mapP pu fun _ _ z => (z.rk q3).rk q4
    have pr := Paired.revP pu4
    refine ⟨_, rfl, l, us, rfl, SqL.of gl4, fun r nr => ⟨r, rfl, ⟨_, SqL.of upd_same⟩, ?_⟩⟩
    have s5 := newS (o := .lst us.reverse) nr
    have gr : (upd G4 r (.lst us.reverse)) r = some (.lst us.reverse) := upd_same
    have sp5 := sp4.same s5
    generalize upd G4 r (.lst us.reverse) = G5 at s5 gr sp5
    have nrs : r ≠ st := fun z => by obtain ⟨dx, z2⟩ := sp5; rw [← z, gr] at z2; cases z2
    refine for_list (K := K) (a := r) (xs := us.reverse) (fun i σ G => ∃ (tv : V) (hc : Hv) (kc : Nat) (y11 : Option V), σ = [some (.ref p), some (.ref d), some (.ref st), some (.str "fold"), some ua, some ub, some (.str x), some (.str y), some ut, some (.ref l), some tv, y11] ∧ Ss st G5 G ∧ Stp C st kc G ∧ Hd K oN oP NS G hc tv ∧ Fo NS n e x y t' (xs.reverse.drop i) hc kc oh k3)
      ⟨v2, h0, k2 + 1, none, rfl, Ss.rfl, sp5, (hv2.rk q4).same s5, fo⟩ (fun i σ G _ ⟨tv, hc, kc, y11, _, sG, _⟩ => SqL.of (sG r _ nrs gr)) (fun i u σ G hu z => ?_) (fun σ G z => ?_)
    · obtain ⟨tv, hc, kc, y11, rfl, sG, spc, htv, fo⟩ := z
      obtain ⟨hi, ei, hui⟩ := Paired.atP pr hu
      have li : i < xs.reverse.length := (List.getElem?_eq_some_iff.mp ei).1
      rw [List.drop_eq_getElem_cons li] at fo
      have ei2 : xs.reverse[i] = hi := Option.some.inj ((List.getElem?_eq_getElem li).symm.trans ei)
      rw [ei2] at fo
      obtain ⟨dxc, hstc⟩ := id spc
      have qG : Rk G5 G := sG.rk sp5
      cases fo with
      | @cons _ _ _ _ _ _ hm _ _ _ _ km _ hk rt fo =>
        refine ⟨_, rfl, st, dxc, _, rfl, hstc, (by rfl), st, kc, rfl, spc, fun _ G6 s6 sp6 => ?_, fun z => absurd z (by omega)⟩
        have q6 := s6.rk spc
        have qT : Rk H G6 := ((qA.trans (.of s5)).trans qG).trans q6
        have huT : Hd K oN oP NS G6 hi u := ((hui.same s5).rk qG).rk q6
        refine ⟨_, rfl, ?_⟩
        refine splat2 (ed.rk qT) hn hx hy huT (htv.rk q6) rfl rfl rfl rfl rfl (fun p2 G7 s7 ed7 => ?_)
        refine ⟨_, rfl, ut, p2, st, _, t', kc + 1, km, .ok hm, rfl, (ht.kn qT.kn).same s7, ed7, sp6.same s7, rt, fun v3 G8 s8 sp8 hv3 => ?_⟩
        exact ⟨v3, hm, km, _, rfl, ((sG.trans s6).trans (.of s7)).trans s8, sp8, hv3, fo⟩
      | bad hk rt =>
        refine ⟨_, rfl, st, dxc, _, rfl, hstc, (by rfl), st, kc, rfl, spc, fun _ G6 s6 sp6 => ?_, fun z => absurd z (by omega)⟩
        have q6 := s6.rk spc
        have qT : Rk H G6 := ((qA.trans (.of s5)).trans qG).trans q6
        have huT : Hd K oN oP NS G6 hi u := ((hui.same s5).rk qG).rk q6
        refine ⟨_, rfl, ?_⟩
        refine splat2 (ed.rk qT) hn hx hy huT (htv.rk q6) rfl rfl rfl rfl rfl (fun p2 G7 s7 ed7 => ?_)
        exact ⟨_, rfl, ut, p2, st, _, t', kc + 1, k3, .ex _, rfl, (ht.kn qT.kn).same s7, ed7, sp6.same s7, rt, fun G8 s8 sp8 => q G8 (((((ssA.trans (.of s5)).trans sG).trans s6).trans (.of s7)).trans s8) sp8⟩
      | over hk =>
        exact ⟨_, rfl, st, dxc, _, rfl, hstc, (by rfl), st, kc, rfl, spc, fun z => absurd z (by omega), fun _ G6 s6 sp6 => q G6 (((ssA.trans (.of s5)).trans sG).trans s6) sp6⟩
    · obtain ⟨tv, hc, kc, y11, rfl, sG, spc, htv, fo⟩ := z
      rw [List.drop_of_length_le (by rw [pr.length]; exact Nat.le_refl _)] at fo
      cases fo
      exact ⟨_, rfl, q tv G ((ssA.trans (.of s5)).trans sG) spc htv⟩
  · exact ⟨_, rfl, _, rfl, _, rfl, ua, d, st, e, a, k, k3, .ex z, rfl, ha, ed, sp, r1, q⟩
  · refine ⟨_, rfl, _, rfl, _, rfl, ua, d, st, e, a, k, k1, _, rfl, ha, ed, sp, r1, fun v1 G1 s1 sp1 hv1 => ?_⟩
    have q1 := s1.rk sp
    refine ⟨v1, xs, rfl, hv1, hl, fun l us G2 s2 nl gl pu => ?_⟩
    have q2 : Rk H G2 := q1.trans (.of s2)
    have sp2 := sp1.same s2
    exact ⟨_, rfl, _, rfl, _, rfl, ub, d, st, e, b, k1, k3, .ex z, rfl, hb.kn q2.kn, ed.rk q2, sp2, r2, fun G3 s3 sp3 => q G3 ((s1.trans (.of s2)).trans s3) sp3⟩
  · refine ⟨_, rfl, _, rfl, _, rfl, ua, d, st, e, a, k, k1, _, rfl, ha, ed, sp, r1, fun v1 G1 s1 sp1 hv1 => ?_⟩
    have q1 := s1.rk sp
    refine ⟨v1, xs, rfl, hv1, hl, fun l us G2 s2 nl gl pu => ?_⟩
    have q2 : Rk H G2 := q1.trans (.of s2)
    have sp2 := sp1.same s2
    refine ⟨_, rfl, _, rfl, _, rfl, ub, d, st, e, b, k1, k2, .ok h0, rfl, hb.kn q2.kn, ed.rk q2, sp2, r2, fun v2 G3 s3 sp3 hv2 => ?_⟩
    obtain ⟨dx3, hst3⟩ := id sp3
    exact ⟨_, rfl, st, dx3, _, rfl, hst3, (by rfl), st, k2, rfl, sp3, fun z => absurd z (by omega), fun _ G4 s4 sp4 => q G4 (((s1.trans (.of s2)).trans s3).trans s4) sp4⟩
/-! cases -/
abbrev nRCase : List Str := ["term", "names", "steps", "word", "asked", "x", "left", "y", "right", "side", "worth", "parts"]
theorem scRCase : FnScope nRCase psR (defScope tRCase) := ⟨rfl, rfl, rfl, by decide +kernel, rfl, by decide +kernel, by decide +kernel⟩
def evCase (NS : List Str) (R : REv) : REv := fun e t k oh k2 => ∃ a b c x y, t = tmCase a x b y c ∧ ((∃ k1 s h, x ∈ NS ∧ y ∈ NS ∧ R e a k (.ok (.side s h)) k1 ∧ R (e.put (if s then y else x) h) (if s then c else b) k1 oh k2) ∨ (∃ z, R e a k (.ex z) k2 ∧ oh = .ex z))
theorem Dd.ofC {N : Addr → Prop} {H : Hp} {x y z : Str} {a b c : Dt} {v : V} (h : Dd N H (.tup [.str x, a, .str y, b, .str z, c]) v) : ∃ p u u' u'', v = .ref p ∧ H p = some (.tup [.str x, u, .str y, u', .str z, u'']) ∧ Dd N H a u ∧ Dd N H b u' ∧ Dd N H c u'' := by
  cases h with
  | tup e t =>
  cases t with
  | cons t1 t =>
  cases t with
  | cons t2 t =>
  cases t with
  | cons t3 t =>
  cases t with
  | cons t4 t =>
  cases t with
  | cons t5 t =>
  cases t with
  | cons t6 t =>
  cases t
  cases t1
  cases t3
  cases t5
  exact ⟨_, _, _, _, rfl, e, t2, t4, t6⟩
theorem okRCase {f fW : Addr} {fd fdW : FuncData} {k : Nat} {R : REv} (F : Fun K "run_case" "run_case" tRCase f fd) (hn : NS.length ≤ 400)
    (GW : FnOk P w K mg base (L2.CX P w) k fW fdW psR (spEv K oN oP NS C cF cM R)) (bW : Binds K fdW psR []) (gW : mg "worth_at" = some (.ref fW)) (kW : PySem.W.keepIn K (.ref fW) = true) : FnOk P w K mg base (L2.CX P w) (k + 1) f fd psR (spEv K oN oP NS C cF cM (evCase NS R)) := by
  refine F.okX scRCase (fun vs H Q E h => spEv_len h) (fun cdv A outer s H vs Q E hr h => ?_)
  obtain ⟨vt, d, st, e, t, k, k2, oh, rfl, hd, ed, sp, ⟨a, b, c, x, y, rfl, ho⟩, q⟩ := h
  refine ⟨_, pss_cons (ps_asg (pv 0) (pg_tup rfl (pgs_cons (pg_name (i := 3) scRCase.nd rfl (.inl rfl)) (pgs_cons (pg_name (i := 4) scRCase.nd rfl (.inl rfl)) (pgs_cons (pg_name (i := 5) scRCase.nd rfl (.inl rfl)) (pgs_cons (pg_name (i := 6) scRCase.nd rfl (.inl rfl)) (pgs_cons (pg_name (i := 7) scRCase.nd rfl (.inl rfl)) (pgs_cons (pg_name (i := 8) scRCase.nd rfl (.inl rfl)) pgs_nil))))))))
    (pss_cons (ps_asg (pe_callS GW hr (by rfl) gW kW bW (fun σ => passAt (takes_of rfl rfl rfl rfl) σ) (pa_cons (pv 4) (pa_cons (pv 1) (pa_cons (pv 2) pa_nil)))) (pg_tup rfl (pgs_cons (pg_name (i := 9) scRCase.nd rfl (.inl rfl)) (pgs_cons (pg_name (i := 10) scRCase.nd rfl (.inl rfl)) (pgs_cons (pg_name (i := 11) scRCase.nd rfl (.inl rfl)) pgs_nil)))))
    (pss_cons (ps_if (pt_cmpR op_eq (pv 9) pe_str (nomark _))
      (pss_one (ps_ret (pe_callS GW hr (by rfl) gW kW bW (fun σ => passAt (takes_of rfl rfl rfl rfl) σ) (pa_cons (pv 6) (pa_cons (pe_dsplat (pv 1) (pps_cons (pv 5) (pv 10) pps_nil) (by rfl) (by rfl) (fun z => by cases z) (by decide)) (pa_cons (pv 2) pa_nil)))))) pss_nil)
    (pss_one (ps_ret (pe_callS GW hr (by rfl) gW kW bW (fun σ => passAt (takes_of rfl rfl rfl rfl) σ) (pa_cons (pv 8) (pa_cons (pe_dsplat (pv 1) (pps_cons (pv 7) (pv 10) pps_nil) (by rfl) (by rfl) (fun z => by cases z) (by decide)) (pa_cons (pv 2) pa_nil)))))))), ?_⟩
  obtain ⟨p, ua, ub, uc, rfl, hp, ha, hb, hc⟩ := Dd.ofC hd
  refine ⟨_, rfl, p, _, rfl, SqT.of hp, rfl, _, _, rfl, _, _, rfl, _, _, rfl, _, _, rfl, _, _, rfl, _, _, rfl, rfl, ?_⟩
  rcases ho with ⟨k1, s, h, hx, hy, r1, r2⟩ | ⟨z, r1, rfl⟩
  · refine ⟨_, rfl, _, rfl, _, rfl, ua, d, st, e, a, k, k1, _, rfl, ha, ed, sp, r1, fun y1 G s1 sp1 hh => ?_⟩
    have q1 := s1.rk sp
    have ed1 := ed.rk q1
    cases hh with
    | @side aa _ _ v1 e1 hh =>
    cases s with
    | false =>
      refine ⟨aa, _, rfl, SqT.of e1, rfl, _, _, rfl, _, _, rfl, _, _, rfl, rfl, _, rfl, rfl, _, rfl, iteT ⟨_, rfl, ?_⟩⟩
      refine splat1 ed1 hn hx hh rfl rfl rfl (fun p2 G2 s2 ed2 => ?_)
      exact ⟨_, rfl, ub, p2, st, _, b, k1, k2, oh, rfl, (hb.kn q1.kn).same s2, ed2, sp1.same s2, r2, (q.ss s1).ss (.of s2)⟩
    | true =>
      refine ⟨aa, _, rfl, SqT.of e1, rfl, _, _, rfl, _, _, rfl, _, _, rfl, rfl, _, rfl, rfl, _, rfl, iteF ⟨_, rfl, ?_⟩⟩
      refine splat1 ed1 hn hy hh rfl rfl rfl (fun p2 G2 s2 ed2 => ?_)
      exact ⟨_, rfl, uc, p2, st, _, c, k1, k2, oh, rfl, (hc.kn q1.kn).same s2, ed2, sp1.same s2, r2, (q.ss s1).ss (.of s2)⟩
  · exact ⟨_, rfl, _, rfl, _, rfl, ua, d, st, e, a, k, k2, .ex z, rfl, ha, ed, sp, r1, q⟩
end
end Kq

/-! builts, rounds -/
namespace Kq
open PySem PySem.Spec PyProof.Rows L2 Kf Kv Kk Ku
section
variable {P : Program} {w : World} {K : PySem.W.Frag} {mg : Str → Option Value} {base : Heap} {oN oP : Addr} {NS : List Str} {C cF cM : Addr}
theorem splat2C {H : Hp} {σ : L2.St} {Q : VK} {i a a' : Nat} {d : Addr} {e : En} {x y : Str} {u v : V} {h g : Hv} (he : Ed K oN oP NS H e d) (hn : NS.length ≤ 400) (hx : x ∈ NS) (hy : y ∈ NS) (hh : Hd K oN oP NS H h u) (hg : Hd K oN oP NS H g v) (si : σ[i]? = some (some (.ref d))) (sa : σ[a]? = some (some (.str x)))
    (sa' : σ[a']? = some (some (.str y))) (hq : ∀ p G, Same H G → Ed K oN oP NS G ((e.put x h).put y g) p → Q (.ref p) G) : tSplat (tVar i) [(tVar a, tC u), (tVar a', tC v)] σ H Q := by
  obtain ⟨more, hd, nm, lk⟩ := he
  intro p np
  have s1 := newS (o := .dK []) np
  have l1 := nm.len
  refine ⟨_, si, upd_same, d, more, rfl, (ne_of_none hd np), s1 _ _ hd, by omega, fun q nq => ?_⟩
  have qp : p ≠ q := fun z => by rw [← z, upd_same] at nq; cases nq
  have nq0 : H q = Option.none := by rw [upd_ne qp.symm, upd_ne qp.symm] at nq; exact nq
  have ss : ∀ (o1 o2 o3 o4 o5 : HO), Same H (upd (upd (upd (upd (upd H p o1) p o2) q o3) q o4) p o5) := fun o1 o2 o3 o4 o5 => smk (smk (smk (smk (smk (Same.refl H) np) np) nq0) nq0) np
  refine ⟨_, sa, _, sa', upd_same, (by rw [upd_ne qp, upd_same]), [(.inr x, u), (.inr y, v)], rfl, (by show 2 ≤ 15; decide), hq p _ (ss _ _ _ _ _) ?_⟩
  · refine Ed.merge hd nm lk (ss _ _ _ _ _) upd_same (fun kv hk => ?_) (fun z h' ey => ?_)
    · rcases List.mem_cons.mp hk with rfl | hk
      · exact ⟨x, hx, rfl⟩
      · rw [List.mem_singleton] at hk
        exact ⟨y, hy, by rw [hk]⟩
    · have e0 : valV (mergeK [] [((Sum.inr x : Key), u), (Sum.inr y, v)]) (Sum.inr z) = if (Sum.inr z : Key) = Sum.inr y then some v else if (Sum.inr z : Key) = Sum.inr x then some u else Option.none := by
        show valV (putK (putK [] _ _) _ _) _ = _
        rw [valV_put, valV_put]
        rfl
      rw [e0]
      unfold En.put at ey
      by_cases c : z = y
      · rw [if_pos c] at ey
        rw [if_pos (by rw [c])]
        exact .inl ⟨v, rfl, by rw [← Option.some.inj ey]; exact hg.same (ss _ _ _ _ _)⟩
      · rw [if_neg c] at ey
        rw [if_neg (fun z => c (Sum.inr.inj z))]
        by_cases c2 : z = x
        · rw [if_pos c2] at ey
          rw [if_pos (by rw [c2])]
          exact .inl ⟨u, rfl, by rw [← Option.some.inj ey]; exact hh.same (ss _ _ _ _ _)⟩
        · rw [if_neg c2] at ey
          rw [if_neg (fun z => c2 (Sum.inr.inj z))]
          exact .inr ⟨rfl, ey⟩
/-- a built's parts -/
theorem Dd.ofB {N : Addr → Prop} {H : Hp} {w o x y : Str} {a b : Dt} {v : V} (h : Dd N H (.tup [.str w, a, .str o, .str x, .str y, b]) v) : ∃ p u u', v = .ref p ∧ H p = some (.tup [.str w, u, .str o, .str x, .str y, u']) ∧ Dd N H a u ∧ Dd N H b u' := by
  cases h with
  | tup e t =>
  cases t with
  | cons t1 t =>
  cases t with
  | cons t2 t =>
  cases t with
  | cons t3 t =>
  cases t with
  | cons t4 t =>
  cases t with
  | cons t5 t =>
  cases t with
  | cons t6 t =>
  cases t
  cases t1
  cases t3
  cases t4
  cases t5
  exact ⟨_, _, _, rfl, e, t2, t6⟩
abbrev nRBuilt : List Str := ["term", "names", "steps", "word", "data", "own", "x", "y", "inner"]
theorem scRBuilt : FnScope nRBuilt psR (defScope tRBuilt) := ⟨rfl, rfl, rfl, by decide +kernel, rfl, by decide +kernel, by decide +kernel⟩
def evBuilt (NS : List Str) (R : REv) : REv := fun e t k oh k1 => ∃ d o x y b, t = tmBuilt d o x y b ∧ ((x ∈ NS ∧ y ∈ NS ∧ k + 1 ≤ 1000 ∧ R ((e.put x .putter).put y .nil) b (k + 1) oh k1) ∨ (1000 < k + 1 ∧ oh = .ex true ∧ k1 = k + 1))
theorem okRBuilt {f fW fT : Addr} {fd fdW fdT : FuncData} {k : Nat} {R : REv} (F : Fun K "run_built" "run_built" tRBuilt f fd) (hn : NS.length ≤ 400) (N : NoI K mg oN) (N2 : NoP K mg oP)
    (GW : FnOk P w K mg base (L2.CX P w) (k + 1) fW fdW psR (spEv K oN oP NS C cF cM R)) (bW : Binds K fdW psR []) (gW : mg "worth_at" = some (.ref fW)) (kW : PySem.W.keepIn K (.ref fW) = true)
    (T : StT K mg C) (GT : FnOk P w K mg base (L2.CX P w) 1 fT fdT ["self"] (spTake C cM)) (bT : Binds K fdT ["self"] []) (mT : Meth K C "take" fT) : FnOk P w K mg base (L2.CX P w) (k + 2) f fd psR (spEv K oN oP NS C cF cM (evBuilt NS R)) := by
  refine F.okX scRBuilt (fun vs H Q E h => spEv_len h) (fun cdv A outer s H vs Q E hr h => ?_)
  obtain ⟨vt, d, st, e, t, k, k1, oh, rfl, hd, ed, sp, ⟨dk, o, x, y, b, rfl, ho⟩, q⟩ := h
  have hr1 : Room 1 _ := hr.mono (by omega)
  refine ⟨_, pss_cons (ps_asg (pv 0) (pg_tup rfl (pgs_cons (pg_name (i := 3) scRBuilt.nd rfl (.inl rfl)) (pgs_cons (pg_name (i := 4) scRBuilt.nd rfl (.inl rfl)) (pgs_cons (pg_name (i := 5) scRBuilt.nd rfl (.inl rfl)) (pgs_cons (pg_name (i := 6) scRBuilt.nd rfl (.inl rfl)) (pgs_cons (pg_name (i := 7) scRBuilt.nd rfl (.inl rfl)) (pgs_cons (pg_name (i := 8) scRBuilt.nd rfl (.inl rfl)) pgs_nil))))))))
    (pss_cons (ps_expr (pe_meth0 (pv 2) T.cl mT GT hr1 bT .nil (passV (takes_of rfl rfl rfl rfl))))
    (pss_one (ps_ret (pe_callS GW hr (by rfl) gW kW bW (fun σ => passAt (takes_of rfl rfl rfl rfl) σ) (pa_cons (pv 8) (pa_cons (pe_dsplat (pv 1) (pps_cons (pv 6) (pe_glob (v := .ref oP) (by rfl) N2.mgP rfl) (pps_cons (pv 7) (pe_glob (v := .ref oN) (by rfl) N.mgN rfl) pps_nil)) (by rfl) (by rfl) (fun z => by cases z) (by decide)) (pa_cons (pv 2) pa_nil))))))), ?_⟩
  obtain ⟨p, ua, ub, rfl, hp, ha, hb⟩ := Dd.ofB hd
  obtain ⟨dx, hst⟩ := id sp
  refine ⟨_, rfl, p, _, rfl, SqT.of hp, rfl, _, _, rfl, _, _, rfl, _, _, rfl, _, _, rfl, _, _, rfl, _, _, rfl, rfl, ?_⟩
  rcases ho with ⟨hx, hy, hk, r⟩ | ⟨hk, rfl, rfl⟩
  · refine ⟨_, rfl, st, dx, _, rfl, hst, (by rfl), st, k, rfl, sp, fun _ G s1 sp1 => ?_, fun z => absurd z (by omega)⟩
    have q1 := s1.rk sp
    refine ⟨_, rfl, splat2C (ed.rk q1) hn hx hy .putter .nil rfl rfl rfl (fun p2 G2 s2 ed2 => ?_)⟩
    exact ⟨_, rfl, ub, p2, st, _, b, k + 1, k1, oh, rfl, (hb.kn q1.kn).same s2, ed2, sp1.same s2, r, (q.ss s1).ss (.of s2)⟩
  · exact ⟨_, rfl, st, dx, _, rfl, hst, (by rfl), st, k, rfl, sp, fun z => absurd z (by omega), fun _ G s1 sp1 => q G s1 sp1⟩
/-! rounds -/
theorem Dd.ofR {N : Addr → Prop} {H : Hp} {w x : Str} {i : Int} {a b : Dt} {v : V} (h : Dd N H (.tup [.str w, .int i, a, .str x, b]) v) : ∃ p u u', v = .ref p ∧ H p = some (.tup [.str w, .int i, u, .str x, u']) ∧ Dd N H a u ∧ Dd N H b u' := by
  cases h with
  | tup e t =>
  cases t with
  | cons t1 t =>
  cases t with
  | cons t2 t =>
  cases t with
  | cons t3 t =>
  cases t with
  | cons t4 t =>
  cases t with
  | cons t5 t =>
  cases t
  cases t1
  cases t2
  cases t4
  exact ⟨_, _, _, rfl, e, t3, t5⟩
abbrev nRRounds : List Str := ["term", "names", "steps", "word", "turns", "begun", "x", "turn", "told", "number", "side", "parts"]
theorem scRRounds : FnScope nRRounds psR (defScope tRRounds) := ⟨rfl, rfl, rfl, by decide +kernel, rfl, by decide +kernel, by decide +kernel⟩
def evRounds (NS : List Str) (n : Nat) : REv := fun e t k oh k2 => ∃ m a x b, t = tmRounds m a x b ∧ ((∃ k1 h, x ∈ NS ∧ m ≤ 30 ∧ Ev NS n e a k (.ok h) k1 ∧ Ro NS n m e x b h k1 oh k2) ∨ (∃ z, Ev NS n e a k (.ex z) k2 ∧ oh = .ex z))
theorem okRRounds {f fW fT : Addr} {fd fdW fdT : FuncData} {k n : Nat} (F : Fun K "run_rounds" "run_rounds" tRRounds f fd) (hn : NS.length ≤ 400) (M : FM K mg cF)
    (GW : FnOk P w K mg base (L2.CX P w) (k + 1) fW fdW psR (spEv K oN oP NS C cF cM (Ev NS n))) (bW : Binds K fdW psR []) (gW : mg "worth_at" = some (.ref fW)) (kW : PySem.W.keepIn K (.ref fW) = true)
    (T : StT K mg C) (GT : FnOk P w K mg base (L2.CX P w) 1 fT fdT ["self"] (spTake C cM)) (bT : Binds K fdT ["self"] []) (mT : Meth K C "take" fT) (mr : mg "range" = none) : FnOk P w K mg base (L2.CX P w) (k + 2) f fd psR (spEv K oN oP NS C cF cM (evRounds NS n)) := by
  refine F.okX scRRounds (fun vs H Q E h => spEv_len h) (fun cdv A outer s H vs Q E hr h => ?_)
  obtain ⟨vt, d, st, e, t, k, k2, oh, rfl, hd, ed, sp, ⟨m, a, x, b, rfl, ho⟩, q⟩ := h
  have hr1 : Room 1 _ := hr.mono (by omega)
  refine ⟨_, pss_cons (ps_asg (pv 0) (pg_tup rfl (pgs_cons (pg_name (i := 3) scRRounds.nd rfl (.inl rfl)) (pgs_cons (pg_name (i := 4) scRRounds.nd rfl (.inl rfl)) (pgs_cons (pg_name (i := 5) scRRounds.nd rfl (.inl rfl)) (pgs_cons (pg_name (i := 6) scRRounds.nd rfl (.inl rfl)) (pgs_cons (pg_name (i := 7) scRRounds.nd rfl (.inl rfl)) pgs_nil)))))))
    (pss_cons (ps_set (i := 8) scRRounds.nd rfl (.inl rfl) (pe_callS GW hr (by rfl) gW kW bW (fun σ => passAt (takes_of rfl rfl rfl rfl) σ) (pa_cons (pv 5) (pa_cons (pv 1) (pa_cons (pv 2) pa_nil)))))
    (pss_cons (ps_for (passes_of rfl) rfl (pi_range1 (by rfl) mr (pa_cons (pv 4) pa_nil)) (pg_name (i := 9) scRRounds.nd rfl (.inl rfl))
      (pss_cons (ps_expr (pe_meth0 (pv 2) T.cl mT GT hr1 bT .nil (passV (takes_of rfl rfl rfl rfl))))
      (pss_cons (ps_asg (pe_callS GW hr (by rfl) gW kW bW (fun σ => passAt (takes_of rfl rfl rfl rfl) σ) (pa_cons (pv 7) (pa_cons (pe_dsplat (pv 1) (pps_cons (pv 6) (pv 8) pps_nil) (by rfl) (by rfl) (fun z => by cases z) (by decide)) (pa_cons (pv 2) pa_nil)))) (pg_tup rfl (pgs_cons (pg_name (i := 10) scRRounds.nd rfl (.inl rfl)) (pgs_cons (pg_name (i := 8) scRRounds.nd rfl (.inl rfl)) (pgs_cons (pg_name (i := 11) scRRounds.nd rfl (.inl rfl)) pgs_nil)))))
      (pss_one (ps_if (pt_cmpR op_eq (pv 10) pe_str (nomark _)) (pss_one (ps_ret (pv 8))) pss_nil)))))
    (pss_one (ps_raise rfl (takes_of rfl rfl rfl rfl) (SkE.pmk_own1 PySem.F.excBase_Exception M.xP M.gP M.kP (raises_own M.bP M.tP) rfl pe_str))))), ?_⟩
  obtain ⟨p, ua, ub, rfl, hp, ha, hb⟩ := Dd.ofR hd
  refine ⟨_, rfl, p, _, rfl, SqT.of hp, rfl, _, _, rfl, _, _, rfl, _, _, rfl, _, _, rfl, _, _, rfl, rfl, ?_⟩
  rcases ho with ⟨k1, h, hx, hm, r1, ro⟩ | ⟨z, r1, rfl⟩
  · refine ⟨_, rfl, _, rfl, _, rfl, ua, d, st, e, a, k, k1, _, rfl, ha, ed, sp, r1, fun v1 G1 s1 sp1 hv1 => ?_⟩
    refine ⟨_, rfl, (m : Int), rfl, by omega, by omega, for_range (lo := 0) (n := m) (fun i σ G => ∃ (tv : V) (hc : Hv) (kc : Nat) (y9 y10 y11 : Option V), σ = [some (.ref p), some (.ref d), some (.ref st), some (.str "rounds"), some (.int (m : Int)), some ua, some (.str x), some ub, some tv, y9, y10, y11] ∧ Ss st G1 G ∧ Stp C st kc G ∧ Hd K oN oP NS G hc tv ∧ Ro NS n (m - i) e x b hc kc oh k2)
      ⟨v1, h, k1, none, none, none, rfl, Ss.rfl, sp1, hv1, ro⟩ (fun i σ G hi z => ?_) (fun σ G z => ?_)⟩
    · obtain ⟨tv, hc, kc, y9, y10, y11, rfl, sG, spc, htv, ro⟩ := z
      obtain ⟨dxc, hstc⟩ := id spc
      have qT : Rk H G := (s1.trans sG).rk sp
      rw [show m - i = (m - (i + 1)) + 1 by omega] at ro
      cases ro with
      | over hk => exact ⟨_, rfl, st, dxc, _, rfl, hstc, (by rfl), st, kc, rfl, spc, fun z => absurd z (by omega), fun _ G6 s6 sp6 => q G6 ((s1.trans sG).trans s6) sp6⟩
      | @right _ _ _ _ _ _ h1 _ _ hk rt =>
        refine ⟨_, rfl, st, dxc, _, rfl, hstc, (by rfl), st, kc, rfl, spc, fun _ G6 s6 sp6 => ?_, fun z => absurd z (by omega)⟩
        have q6 := s6.rk spc
        refine ⟨_, rfl, splat1 (ed.rk (qT.trans q6)) hn hx (htv.rk q6) rfl rfl rfl (fun p2 G7 s7 ed7 => ?_)⟩
        refine ⟨_, rfl, ub, p2, st, _, b, kc + 1, k2, .ok (.side true h1), rfl, (hb.kn (qT.trans q6).kn).same s7, ed7, sp6.same s7, rt, fun v3 G8 s8 sp8 hv3 => ?_⟩
        cases hv3 with
        | side e3 h3 =>
        refine ⟨_, _, rfl, SqT.of e3, rfl, _, _, rfl, _, _, rfl, _, _, rfl, rfl, _, rfl, rfl, _, rfl, iteT ⟨_, rfl, ?_⟩⟩
        exact q _ G8 (((((s1.trans sG).trans s6).trans (.of s7)).trans s8)) sp8 h3
      | @left _ _ _ _ _ _ h1 _ _ km _ hk rt ro =>
        refine ⟨_, rfl, st, dxc, _, rfl, hstc, (by rfl), st, kc, rfl, spc, fun _ G6 s6 sp6 => ?_, fun z => absurd z (by omega)⟩
        have q6 := s6.rk spc
        refine ⟨_, rfl, splat1 (ed.rk (qT.trans q6)) hn hx (htv.rk q6) rfl rfl rfl (fun p2 G7 s7 ed7 => ?_)⟩
        refine ⟨_, rfl, ub, p2, st, _, b, kc + 1, km, .ok (.side false h1), rfl, (hb.kn (qT.trans q6).kn).same s7, ed7, sp6.same s7, rt, fun v3 G8 s8 sp8 hv3 => ?_⟩
        cases hv3 with
        | side e3 h3 =>
        refine ⟨_, _, rfl, SqT.of e3, rfl, _, _, rfl, _, _, rfl, _, _, rfl, rfl, _, rfl, rfl, _, rfl, iteF ?_⟩
        exact ⟨_, h1, km, _, _, _, rfl, ((sG.trans s6).trans (.of s7)).trans s8, sp8, h3, ro⟩
      | bad hk rt =>
        refine ⟨_, rfl, st, dxc, _, rfl, hstc, (by rfl), st, kc, rfl, spc, fun _ G6 s6 sp6 => ?_, fun z => absurd z (by omega)⟩
        have q6 := s6.rk spc
        refine ⟨_, rfl, splat1 (ed.rk (qT.trans q6)) hn hx (htv.rk q6) rfl rfl rfl (fun p2 G7 s7 ed7 => ?_)⟩
        exact ⟨_, rfl, ub, p2, st, _, b, kc + 1, k2, .ex _, rfl, (hb.kn (qT.trans q6).kn).same s7, ed7, sp6.same s7, rt, fun G8 s8 sp8 => q G8 (((((s1.trans sG).trans s6).trans (.of s7)).trans s8)) sp8⟩
    · obtain ⟨tv, hc, kc, y9, y10, y11, rfl, sG, spc, htv, ro⟩ := z
      rw [Nat.sub_self] at ro
      cases ro
      exact q G (s1.trans sG) spc
  · exact ⟨_, rfl, _, rfl, _, rfl, ua, d, st, e, a, k, k2, .ex z, rfl, ha, ed, sp, r1, q⟩
end
end Kq

/-! calls; terms by their words -/
namespace Kq
open PySem PySem.Spec PyProof.Rows L2 Kf Kv Kk Ku
abbrev psF : List Str := ["function", "argument", "steps"]
abbrev CaR := Hv → Hv → Nat → Oc → Nat → Prop
/-- a def, with its promise -/
def Okd (P : Program) (w : World) (K : PySem.W.Frag) (mg : Str → Option Value) (base : Heap) (CX : CXT) (k : Nat) (nm : Str) (ps : List Str) (sp : Sp) : Prop := ∃ f fd, FnOk P w K mg base CX k f fd ps sp ∧ Binds K fd ps [] ∧ mg nm = some (.ref f) ∧ PySem.W.keepIn K (.ref f) = true
/-- a def, as the written part has it -/
def Dfn (K : PySem.W.Frag) (mg : Str → Option Value) (nm : Str) (st : Stmt) (ps : List Str) : Prop := ∃ f fd, Fun K nm nm st f fd ∧ Binds K fd ps [] ∧ mg nm = some (.ref f)
/-- a def that a dict of words tells -/
def Rdn (K : PySem.W.Frag) (dA : Addr) (x nm : Str) (st : Stmt) (ps : List Str) : Prop := ∃ f fd, Fun K nm nm st f fd ∧ Binds K fd ps [] ∧ PySem.W.nsIn K dA x = some (some (.ref f))
def Rok (P : Program) (w : World) (K : PySem.W.Frag) (mg : Str → Option Value) (base : Heap) (CX : CXT) (k : Nat) (dA : Addr) (x : Str) (ps : List Str) (sp : Sp) : Prop := ∃ f fd, FnOk P w K mg base CX k f fd ps sp ∧ Binds K fd ps [] ∧ PySem.W.nsIn K dA x = some (some (.ref f)) ∧ PySem.W.keepIn K (.ref f) = true
section
variable {P : Program} {w : World} {K : PySem.W.Frag} {mg : Str → Option Value} {base : Heap} {oN oP : Addr} {NS : List Str} {C cF cM : Addr}
theorem Okd.up {CX : CXT} {j k : Nat} {nm : Str} {ps : List Str} {sp : Sp} (h : Okd P w K mg base CX j nm ps sp) (l : j ≤ k) : Okd P w K mg base CX k nm ps sp := by
  obtain ⟨f, fd, F, b, g, kp⟩ := h
  exact ⟨f, fd, upOk F l, b, g, kp⟩
theorem Rok.up {CX : CXT} {j k : Nat} {dA : Addr} {x : Str} {ps : List Str} {sp : Sp} (h : Rok P w K mg base CX j dA x ps sp) (l : j ≤ k) : Rok P w K mg base CX k dA x ps sp := by
  obtain ⟨f, fd, F, b, g, kp⟩ := h
  exact ⟨f, fd, upOk F l, b, g, kp⟩
def spCa (K : PySem.W.Frag) (oN oP : Addr) (NS : List Str) (C cF cM : Addr) (R : CaR) : Sp := fun vs H Q E => ∃ (vf va : V) (st : Addr) (f a : Hv) (k k1 : Nat) (oh : Oc), vs = [vf, va, .ref st] ∧ Hd K oN oP NS H f vf ∧ Hd K oN oP NS H a va ∧ Stp C st k H ∧ R f a k oh k1 ∧ Ko K oN oP NS C cF cM st k1 oh H Q E
theorem spCa_len {R : CaR} {vs : List V} {H : Hp} {Q : VK} {E : XK} (h : spCa K oN oP NS C cF cM R vs H Q E) : vs.length = 3 := by
  obtain ⟨vf, va, st, f, a, k, k1, oh, rfl, _⟩ := h
  rfl
theorem scClo : FnScope ["function", "argument", "steps", "word", "x", "inner", "names"] psF (defScope tClo) := ⟨rfl, rfl, rfl, by decide +kernel, rfl, by decide +kernel, by decide +kernel⟩
def evClo (NS : List Str) (R : REv) : CaR := fun f a k oh k1 => ∃ (x : Str) (t : Dt) (e : En), f = .clo x t e ∧ x ∈ NS ∧ R (e.put x a) t k oh k1
theorem okClo {f : Addr} {fd : FuncData} {k : Nat} {R : REv} (F : Fun K "call_closure" "call_closure" tClo f fd) (hn : NS.length ≤ 400)
    (GW : Okd P w K mg base (L2.CX P w) k "worth_at" psR (spEv K oN oP NS C cF cM R)) : FnOk P w K mg base (L2.CX P w) (k + 1) f fd psF (spCa K oN oP NS C cF cM (evClo NS R)) := by
  obtain ⟨fW, fdW, GW, bW, gW, kW⟩ := GW
  refine F.okX scClo (fun vs H Q E h => spCa_len h) (fun cdv A outer s H vs Q E hr h => ?_)
  obtain ⟨vf, va, st, f, a, k, k1, oh, rfl, hf, ha, sp, ⟨x, t, e, rfl, hx, ev⟩, q⟩ := h
  refine ⟨_, pss_cons (ps_asg (pv 0) (pg_tup rfl (pgs_cons (pg_name (i := 3) scClo.nd rfl (.inl rfl)) (pgs_cons (pg_name (i := 4) scClo.nd rfl (.inl rfl)) (pgs_cons (pg_name (i := 5) scClo.nd rfl (.inl rfl)) (pgs_cons (pg_name (i := 6) scClo.nd rfl (.inl rfl)) pgs_nil))))))
    (pss_one (ps_ret (pe_callS GW hr (by rfl) gW kW bW (fun σ => passAt (takes_of rfl rfl rfl rfl) σ) (pa_cons (pv 5) (pa_cons (pe_dsplat (pv 6) (pps_cons (pv 4) (pv 1) pps_nil) (by rfl) (by rfl) (fun z => by cases z) (by decide)) (pa_cons (pv 2) pa_nil)))))), ?_⟩
  obtain ⟨p, d, vt, rfl, hp, ht, ed⟩ := Hd.cloOf hf
  refine ⟨_, rfl, p, _, rfl, SqT.of hp, rfl, _, _, rfl, _, _, rfl, _, _, rfl, _, _, rfl, rfl, ?_⟩
  refine ⟨_, rfl, splat1 ed hn hx ha rfl rfl rfl (fun p2 G s1 ed1 => ?_)⟩
  exact ⟨_, rfl, vt, p2, st, _, t, k, k1, oh, rfl, ht.same s1, ed1, sp.same s1, ev, q.ss (.of s1)⟩
theorem scCPutter : FnScope psF psF (defScope tCPutter) := ⟨rfl, rfl, rfl, by decide +kernel, rfl, by decide +kernel, by decide +kernel⟩
def evPutter : CaR := fun f a k oh k1 => f = .putter ∧ oh = .ok (.putting a) ∧ k1 = k
theorem okCPutter {f : Addr} {fd : FuncData} {k : Nat} (F : Fun K "call_putter" "call_putter" tCPutter f fd) : FnOk P w K mg base (L2.CX P w) (k + 1) f fd psF (spCa K oN oP NS C cF cM evPutter) := by
  refine F.okX scCPutter (fun vs H Q E h => spCa_len h) (fun cdv A outer s H vs Q E hr h => ?_)
  obtain ⟨vf, va, st, f, a, k, k1, oh, rfl, hf, ha, sp, ⟨rfl, rfl, rfl⟩, q⟩ := h
  refine ⟨_, pss_one (ps_ret (pe_tup (pa_cons pe_str (pa_cons (pv 1) pa_nil)))), ?_⟩
  exact ⟨_, rfl, (by show 2 ≤ sizeLine; decide), fun p np => q _ _ (Ss.mk np) (sp.same (newS np)) (.putting upd_same (ha.same (newS np)))⟩
theorem scCPutting : FnScope psF psF (defScope tCPutting) := ⟨rfl, rfl, rfl, by decide +kernel, rfl, by decide +kernel, by decide +kernel⟩
def evPutting : CaR := fun f a k oh k1 => ∃ i xs, f = .putting i ∧ a = ofList xs ∧ i.nc ∧ k1 = k + 1 ∧ ((k + 1 ≤ 1000 ∧ oh = made (pts i + pts (ofList xs)) (ofList (i :: xs))) ∨ (1000 < k + 1 ∧ oh = .ex true))
theorem okCPutting {f : Addr} {fd : FuncData} {k : Nat} (F : Fun K "call_putting" "call_putting" tCPutting f fd)
    (GN : Okd P w K mg base (L2.CX P w) k "put_on" ["item", "rest", "steps"] (spPutOn K oN oP NS C cM)) : FnOk P w K mg base (L2.CX P w) (k + 1) f fd psF (spCa K oN oP NS C cF cM evPutting) := by
  obtain ⟨fN, fdN, GN, bN, gN, kN⟩ := GN
  refine F.okX scCPutting (fun vs H Q E h => spCa_len h) (fun cdv A outer s H vs Q E hr h => ?_)
  obtain ⟨vf, va, st, f, a, k, k1, oh, rfl, hf, ha, sp, ⟨i, xs, rfl, rfl, hi, rfl, ho⟩, q⟩ := h
  refine ⟨_, pss_one (ps_ret (pe_callS GN hr (by rfl) gN kN bN (fun σ => passAt (takes_of rfl rfl rfl rfl) σ) (pa_cons (pe_ix ix_tup (pv 0) pe_int (fun _ _ => rfl)) (pa_cons (pv 1) (pa_cons (pv 2) pa_nil))))), ?_⟩
  cases hf with
  | putting e1 h1 =>
  rcases ho with ⟨hk, rfl⟩ | ⟨hk, rfl⟩
  · refine ⟨_, rfl, _, _, _, _, rfl, rfl, SqT.of e1, atI_nat (j := 1) rfl, _, rfl, _, rfl, _, va, st, i, xs, k, rfl, h1, ha, sp, hi, fun _ hl p2 G2 s2 sp2 h2 => q.made.1 hl _ G2 s2 sp2 h2, fun hl G2 s2 sp2 => ?_⟩
    rcases hl with hl | hl
    · omega
    · exact q.made.2 hl _ s2 sp2
  · exact ⟨_, rfl, _, _, _, _, rfl, rfl, SqT.of e1, atI_nat (j := 1) rfl, _, rfl, _, rfl, _, va, st, i, xs, k, rfl, h1, ha, sp, hi, fun z => absurd z (by omega), fun _ G2 s2 sp2 => q G2 s2 sp2⟩
theorem scCalled : FnScope ["function", "argument", "steps", "way"] psF (defScope tCalled) := ⟨rfl, rfl, rfl, by decide +kernel, rfl, by decide +kernel, by decide +kernel⟩
theorem okCalled {f fT dA : Addr} {fd fdT : FuncData} {k n m : Nat} {es : Array DictEntry} (F : Fun K "called" "called" tCalled f fd)
    (gD : mg "CALLS" = some (.ref dA)) (hD : KDict K w dA es m) (N2 : NoP K mg oP)
    (G1 : Rok P w K mg base (L2.CX P w) (k + 1) dA "closure" psF (spCa K oN oP NS C cF cM (evClo NS (Ev NS n))))
    (G2 : Rok P w K mg base (L2.CX P w) (k + 1) dA "putter" psF (spCa K oN oP NS C cF cM evPutter))
    (G3 : Rok P w K mg base (L2.CX P w) (k + 1) dA "putting" psF (spCa K oN oP NS C cF cM evPutting))
    (T : StT K mg C) (GT : FnOk P w K mg base (L2.CX P w) 1 fT fdT ["self"] (spTake C cM)) (bT : Binds K fdT ["self"] []) (mT : Meth K C "take" fT) : FnOk P w K mg base (L2.CX P w) (k + 2) f fd psF (spCa K oN oP NS C cF cM (Ca NS n)) := by
  refine F.okX scCalled (fun vs H Q E h => spCa_len h) (fun cdv A outer s H vs Q E hr h => ?_)
  obtain ⟨vf, va, st, g0, a, j, k1, oh, rfl, hf, ha, sp, cl, q⟩ := h
  have hr1 : Room 1 _ := hr.mono (by omega)
  obtain ⟨dx, hst⟩ := id sp
  have go : ∀ {R : CaR} {x : Str} (G : Rok P w K mg base (L2.CX P w) (k + 1) dA x psF (spCa K oN oP NS C cF cM R)), j + 1 ≤ 1000 → R g0 a (j + 1) oh k1 → (∀ G' : Hp, Rk H G' → ∃ pt rest, vf = .ref pt ∧ SqT K G' pt (.str x :: rest)) →
      ∃ u, PSs (cxOf (L2.CX P w) P w K mg base ["function", "argument", "steps", "way"] "called" (defScope tCalled) f cdv A outer s H E) (defBody tCalled) u ∧ u { nx := fun _ H' => Q .non H', rt := Q } (start ["function", "argument", "steps", "way"] [vf, va, .ref st]) H := by
    intro R x G hk hR hw
    obtain ⟨g, gd, G, b, hg, kg⟩ := G
    refine ⟨_, pss_cons (ps_expr (pe_meth0 (pv 2) T.cl mT GT hr1 bT .nil (passV (takes_of rfl rfl rfl rfl))))
      (pss_cons (ps_set (i := 3) scCalled.nd rfl (.inl rfl) (pe_ix ix_kdict (pe_glob (v := .ref dA) (by rfl) gD rfl) (pe_ix ix_tup (pv 0) pe_int (fun _ _ => rfl)) (fun _ _ => rfl)))
      (pss_one (ps_ret (ItX.pe_callV (i := 3) (G.raw b .nil) hr kg (passV (takes_of rfl rfl rfl rfl)) rfl (Or.inl rfl) (pa_cons (pv 0) (pa_cons (pv 1) (pa_cons (pv 2) pa_nil))))))), ?_⟩
    refine ⟨_, rfl, st, dx, _, rfl, hst, (by rfl), st, j, rfl, sp, fun _ G1 s1 sp1 => ?_, fun z => absurd z (by omega)⟩
    have q1 := s1.rk sp
    obtain ⟨pt, rest, rfl, hpt⟩ := hw G1 q1
    refine ⟨_, rfl, pt, _, _, _, rfl, rfl, hpt, atI_nat (j := 0) rfl, dA, x, .ref g, rfl, rfl, ⟨es, m, _, hD.at_, hD.lit, hg, rfl⟩, rfl, _, rfl, _, rfl, _, rfl, ?_⟩
    exact ⟨_, va, st, g0, a, j + 1, k1, oh, rfl, hf.rk q1, ha.rk q1, sp1, hR, q.ss s1⟩
  cases cl with
  | over hk =>
    obtain ⟨g, gd, G, b, hg, kg⟩ := G1
    refine ⟨_, pss_cons (ps_expr (pe_meth0 (pv 2) T.cl mT GT hr1 bT .nil (passV (takes_of rfl rfl rfl rfl))))
      (pss_cons (ps_set (i := 3) scCalled.nd rfl (.inl rfl) (pe_ix ix_kdict (pe_glob (v := .ref dA) (by rfl) gD rfl) (pe_ix ix_tup (pv 0) pe_int (fun _ _ => rfl)) (fun _ _ => rfl)))
      (pss_one (ps_ret (ItX.pe_callV (i := 3) (G.raw b .nil) hr kg (passV (takes_of rfl rfl rfl rfl)) rfl (Or.inl rfl) (pa_cons (pv 0) (pa_cons (pv 1) (pa_cons (pv 2) pa_nil))))))), ?_⟩
    exact ⟨_, rfl, st, dx, _, rfl, hst, (by rfl), st, j, rfl, sp, fun z => absurd z (by omega), fun _ G1 s1 sp1 => q G1 s1 sp1⟩
  | clo hx hk ev =>
    refine go G1 hk ⟨_, _, _, rfl, hx, ev⟩ fun G' kk => ?_
    obtain ⟨p, d, vt, e1, hp, _⟩ := Hd.cloOf (hf.rk kk)
    exact ⟨p, _, e1, SqT.of hp⟩
  | putter hk =>
    refine go G2 hk ⟨rfl, rfl, rfl⟩ fun G' kk => ?_
    cases hf
    exact ⟨_, _, rfl, N2.tup G'⟩
  | putting hk hi ho =>
    refine go G3 (by omega) ⟨_, _, rfl, rfl, hi, rfl, .inl ⟨hk, ho⟩⟩ fun G' kk => ?_
    cases hf with
    | putting e1 h1 => exact ⟨_, _, rfl, SqT.of (kk.tup _ _ e1)⟩
  | puttingO hi hk hk2 =>
    refine go G3 hk ⟨_, _, rfl, rfl, hi, rfl, .inr ⟨hk2, rfl⟩⟩ fun G' kk => ?_
    cases hf with
    | putting e1 h1 => exact ⟨_, _, rfl, SqT.of (kk.tup _ _ e1)⟩
end
end Kq

/-! terms by their words -/
namespace Kq
open PySem PySem.Spec PyProof.Rows L2 Kf Kv Kk Ku
def evCall (B : RBo) (R : CaR) : REv := fun e t k oh k3 => ∃ a b, t = tmTwo "call" a b ∧ ((∃ f x k2, B e a b k (.ok f x) k2 ∧ R f x k2 oh k3) ∨ (∃ z, B e a b k (.ex z) k3 ∧ oh = .ex z))
abbrev nRCall : List Str := ["term", "names", "steps", "function", "argument"]
abbrev nWA : List Str := ["term", "names", "steps", "rule"]
section
variable {P : Program} {w : World} {K : PySem.W.Frag} {mg : Str → Option Value} {base : Heap} {oN oP : Addr} {NS : List Str} {C cF cM : Addr}
theorem scRCall : FnScope nRCall psR (defScope tRCall) := ⟨rfl, rfl, rfl, by decide +kernel, rfl, by decide +kernel, by decide +kernel⟩
theorem okRCall {f fB fN : Addr} {fd fdB fdN : FuncData} {k : Nat} {B : RBo} {R : CaR} (F : Fun K "run_call" "run_call" tRCall f fd)
    (GB : FnOk P w K mg base (L2.CX P w) (k + 1) fB fdB psR (spBoth K oN oP NS C cF cM B)) (bB : Binds K fdB psR []) (gB : mg "both_at" = some (.ref fB)) (kB : PySem.W.keepIn K (.ref fB) = true)
    (GN : FnOk P w K mg base (L2.CX P w) (k + 1) fN fdN psF (spCa K oN oP NS C cF cM R)) (bN : Binds K fdN psF []) (gN : mg "called" = some (.ref fN)) (kN : PySem.W.keepIn K (.ref fN) = true) : FnOk P w K mg base (L2.CX P w) (k + 2) f fd psR (spEv K oN oP NS C cF cM (evCall B R)) := by
  refine F.okX scRCall (fun vs H Q E h => spEv_len h) (fun cdv A outer s H vs Q E hr h => ?_)
  obtain ⟨vt, d, st, e, t, k, k2, oh, rfl, hd, ed, sp, ⟨a, b, rfl, ho⟩, q⟩ := h
  refine ⟨_, pss_cons (ps_asg (pe_callS GB hr (by rfl) gB kB bB (fun σ => passAt (takes_of rfl rfl rfl rfl) σ) (pa_cons (pv 0) (pa_cons (pv 1) (pa_cons (pv 2) pa_nil)))) (pg_tup rfl (pgs_cons (pg_name (i := 3) scRCall.nd rfl (.inl rfl)) (pgs_cons (pg_name (i := 4) scRCall.nd rfl (.inl rfl)) pgs_nil))))
    (pss_one (ps_ret (pe_callS GN hr (by rfl) gN kN bN (fun σ => passAt (takes_of rfl rfl rfl rfl) σ) (pa_cons (pv 3) (pa_cons (pv 4) (pa_cons (pv 2) pa_nil)))))), ?_⟩
  rcases ho with ⟨g, x, k1, bo, rr⟩ | ⟨z, bo, rfl⟩
  · refine ⟨_, rfl, _, rfl, _, rfl, vt, d, st, e, _, a, b, k, k1, _, rfl, hd, ed, sp, bo, fun p u v G s1 sp1 hp hu hv => ?_⟩
    refine ⟨p, _, rfl, SqT.of hp, rfl, _, _, rfl, _, _, rfl, rfl, ?_⟩
    exact ⟨_, rfl, _, rfl, _, rfl, u, v, st, g, x, k1, k2, oh, rfl, hu, hv, sp1, rr, q.ss s1⟩
  · exact ⟨_, rfl, _, rfl, _, rfl, vt, d, st, e, _, a, b, k, k2, .ex z, rfl, hd, ed, sp, bo, q⟩
theorem scWA : FnScope nWA psR (defScope tWA) := ⟨rfl, rfl, rfl, by decide +kernel, rfl, by decide +kernel, by decide +kernel⟩
/-- the rules of a run, each by its word -/
structure Rls (P : Program) (w : World) (K : PySem.W.Frag) (mg : Str → Option Value) (base : Heap) (oN oP : Addr) (NS : List Str) (C cF cM dA : Addr) (k n : Nat) : Prop where
  num : Rok P w K mg base (L2.CX P w) k dA "num" psR (spEv K oN oP NS C cF cM evNum)
  truth : Rok P w K mg base (L2.CX P w) k dA "truth" psR (spEv K oN oP NS C cF cM evTruth)
  none : Rok P w K mg base (L2.CX P w) k dA "none" psR (spEv K oN oP NS C cF cM evNone)
  fault : Rok P w K mg base (L2.CX P w) k dA "fault" psR (spEv K oN oP NS C cF cM evFault)
  name : Rok P w K mg base (L2.CX P w) k dA "name" psR (spEv K oN oP NS C cF cM evName)
  fn : Rok P w K mg base (L2.CX P w) k dA "fun" psR (spEv K oN oP NS C cF cM evFun)
  plus : Rok P w K mg base (L2.CX P w) k dA "plus" psR (spEv K oN oP NS C cF cM (evPlus (Bo (Ev NS n))))
  less : Rok P w K mg base (L2.CX P w) k dA "less" psR (spEv K oN oP NS C cF cM (evLess (Bo (Ev NS n))))
  pair : Rok P w K mg base (L2.CX P w) k dA "pair" psR (spEv K oN oP NS C cF cM (evPair (Bo (Ev NS n))))
  more : Rok P w K mg base (L2.CX P w) k dA "more" psR (spEv K oN oP NS C cF cM (evMore (Bo (Ev NS n))))
  call : Rok P w K mg base (L2.CX P w) k dA "call" psR (spEv K oN oP NS C cF cM (evCall (Bo (Ev NS n)) (Ca NS n)))
  iff : Rok P w K mg base (L2.CX P w) k dA "if" psR (spEv K oN oP NS C cF cM (evIf (Ev NS n)))
  first : Rok P w K mg base (L2.CX P w) k dA "first" psR (spEv K oN oP NS C cF cM (evFst (Ev NS n)))
  second : Rok P w K mg base (L2.CX P w) k dA "second" psR (spEv K oN oP NS C cF cM (evSnd (Ev NS n)))
  left : Rok P w K mg base (L2.CX P w) k dA "left" psR (spEv K oN oP NS C cF cM (evLeft (Ev NS n)))
  right : Rok P w K mg base (L2.CX P w) k dA "right" psR (spEv K oN oP NS C cF cM (evRight (Ev NS n)))
  case : Rok P w K mg base (L2.CX P w) k dA "case" psR (spEv K oN oP NS C cF cM (evCase NS (Ev NS n)))
  fold : Rok P w K mg base (L2.CX P w) k dA "fold" psR (spEv K oN oP NS C cF cM (evFold NS n))
  built : Rok P w K mg base (L2.CX P w) k dA "built" psR (spEv K oN oP NS C cF cM (evBuilt NS (Ev NS n)))
  rounds : Rok P w K mg base (L2.CX P w) k dA "rounds" psR (spEv K oN oP NS C cF cM (evRounds NS n))
theorem okWA1 {f dA : Addr} {fd : FuncData} {k n m : Nat} {es : Array DictEntry} (F : Fun K "worth_at" "worth_at" tWA f fd) (gD : mg "RULES" = some (.ref dA)) (hD : KDict K w dA es m)
    (r : Rls P w K mg base oN oP NS C cF cM dA k n) : FnOk P w K mg base (L2.CX P w) (k + 1) f fd psR (spEv K oN oP NS C cF cM (Ev NS (n + 1))) := by
  refine F.okX scWA (fun vs H Q E h => spEv_len h) (fun cdv A outer s H vs Q E hr h => ?_)
  obtain ⟨vt, d, st, e, t, kk, kk1, oh, rfl, hd, ed, sp, ev, q⟩ := h
  have go : ∀ {R : REv} {x : Str} {rest : List V} {pt : Addr}, Rok P w K mg base (L2.CX P w) k dA x psR (spEv K oN oP NS C cF cM R) → R e t kk oh kk1 → vt = .ref pt → H pt = some (.tup (.str x :: rest)) →
      ∃ u, PSs (cxOf (L2.CX P w) P w K mg base nWA "worth_at" (defScope tWA) f cdv A outer s H E) (defBody tWA) u ∧ u { nx := fun _ H' => Q .non H', rt := Q } (start nWA [vt, .ref d, .ref st]) H := by
    intro R x rest pt G hR e1 hk
    obtain ⟨g, gd, G, b, hw, kg⟩ := G
    subst e1
    refine ⟨_, pss_cons (ps_set (i := 3) scWA.nd rfl (.inl rfl) (pe_ix ix_kdict (pe_glob (v := .ref dA) (by rfl) gD rfl) (pe_ix ix_tup (pv 0) pe_int (fun _ _ => rfl)) (fun _ _ => rfl)))
      (pss_one (ps_ret (ItX.pe_callV (i := 3) (G.raw b .nil) hr kg (passV (takes_of rfl rfl rfl rfl)) rfl (Or.inl rfl) (pa_cons (pv 0) (pa_cons (pv 1) (pa_cons (pv 2) pa_nil)))))), ?_⟩
    refine ⟨_, rfl, pt, _, _, _, rfl, rfl, SqT.of hk, atI_nat (j := 0) rfl, dA, x, .ref g, rfl, rfl, ⟨es, m, _, hD.at_, hD.lit, hw, rfl⟩, rfl, _, rfl, _, rfl, _, rfl, ?_⟩
    exact ⟨_, d, st, e, t, kk, kk1, oh, rfl, hd, ed, sp, hR, q⟩
  have at2 : ∀ {x : Str} {a : Dt}, t = tmOne x a → ∃ pt rest, vt = .ref pt ∧ H pt = some (.tup (.str x :: rest)) := fun ee => by
    subst ee
    obtain ⟨p, u, e1, hp, _⟩ := Dd.of2 hd
    exact ⟨p, _, e1, hp⟩
  have at3 : ∀ {x : Str} {a b : Dt}, t = tmTwo x a b → ∃ pt rest, vt = .ref pt ∧ H pt = some (.tup (.str x :: rest)) := fun ee => by
    subst ee
    obtain ⟨p, u, u', e1, hp, _⟩ := Dd.of3 hd
    exact ⟨p, _, e1, hp⟩
  have at4 : ∀ {x : Str} {a b c : Dt}, t = .tup [.str x, a, b, c] → ∃ pt rest, vt = .ref pt ∧ H pt = some (.tup (.str x :: rest)) := fun ee => by
    subst ee
    obtain ⟨p, u, u', u'', e1, hp, _⟩ := Dd.of4 hd
    exact ⟨p, _, e1, hp⟩
  have at6 : ∀ {x y z : Str} {a b c : Dt}, t = .tup [.str x, a, b, .str y, .str z, c] → ∃ pt rest, vt = .ref pt ∧ H pt = some (.tup (.str x :: rest)) := fun ee => by
    subst ee
    obtain ⟨p, u, u', u'', e1, hp, _⟩ := Dd.of6 hd
    exact ⟨p, _, e1, hp⟩
  have two : ∀ {x : Str} {a b : Dt} {R : REv}, t = tmTwo x a b → Rok P w K mg base (L2.CX P w) k dA x psR (spEv K oN oP NS C cF cM R) → R e t kk oh kk1 → ∃ u, PSs (cxOf (L2.CX P w) P w K mg base nWA "worth_at" (defScope tWA) f cdv A outer s H E) (defBody tWA) u ∧ u { nx := fun _ H' => Q .non H', rt := Q } (start nWA [vt, .ref d, .ref st]) H := fun ee G hR => by
    obtain ⟨p, rest, e1, hp⟩ := at3 ee
    exact go G hR e1 hp
  have one : ∀ {x : Str} {a : Dt} {R : REv}, t = tmOne x a → Rok P w K mg base (L2.CX P w) k dA x psR (spEv K oN oP NS C cF cM R) → R e t kk oh kk1 → ∃ u, PSs (cxOf (L2.CX P w) P w K mg base nWA "worth_at" (defScope tWA) f cdv A outer s H E) (defBody tWA) u ∧ u { nx := fun _ H' => Q .non H', rt := Q } (start nWA [vt, .ref d, .ref st]) H := fun ee G hR => by
    obtain ⟨p, rest, e1, hp⟩ := at2 ee
    exact go G hR e1 hp
  have six : ∀ {x y z : Str} {a b c : Dt} {R : REv}, t = .tup [.str x, a, b, .str y, .str z, c] → Rok P w K mg base (L2.CX P w) k dA x psR (spEv K oN oP NS C cF cM R) → R e t kk oh kk1 → ∃ u, PSs (cxOf (L2.CX P w) P w K mg base nWA "worth_at" (defScope tWA) f cdv A outer s H E) (defBody tWA) u ∧ u { nx := fun _ H' => Q .non H', rt := Q } (start nWA [vt, .ref d, .ref st]) H := fun ee G hR => by
    obtain ⟨p, rest, e1, hp⟩ := at6 ee
    exact go G hR e1 hp
  have four : ∀ {x : Str} {a b c : Dt} {R : REv}, t = .tup [.str x, a, b, c] → Rok P w K mg base (L2.CX P w) k dA x psR (spEv K oN oP NS C cF cM R) → R e t kk oh kk1 → ∃ u, PSs (cxOf (L2.CX P w) P w K mg base nWA "worth_at" (defScope tWA) f cdv A outer s H E) (defBody tWA) u ∧ u { nx := fun _ H' => Q .non H', rt := Q } (start nWA [vt, .ref d, .ref st]) H := fun ee G hR => by
    obtain ⟨p, rest, e1, hp⟩ := at4 ee
    exact go G hR e1 hp
  cases ev with
  | num hi => exact one rfl r.num ⟨_, rfl, hi, rfl⟩
  | truth => exact one rfl r.truth ⟨_, rfl, rfl, rfl⟩
  | none => exact one rfl r.none ⟨_, rfl, rfl, rfl⟩
  | bad => exact one rfl r.fault ⟨_, rfl, rfl, rfl⟩
  | name hx => exact one rfl r.name ⟨_, _, rfl, hx, rfl, rfl⟩
  | fn hx => exact four rfl r.fn ⟨_, _, _, rfl, rfl, rfl⟩
  | plus r1 r2 hl => exact two rfl r.plus ⟨_, _, rfl, .inl ⟨_, _, .both r1 r2, hl⟩⟩
  | less r1 r2 => exact two rfl r.less ⟨_, _, rfl, .inl ⟨_, _, .both r1 r2, rfl⟩⟩
  | pair r1 r2 n1 n2 hl => exact two rfl r.pair ⟨_, _, rfl, .inl ⟨_, _, .both r1 r2, n1, n2, hl⟩⟩
  | more r1 r2 n1 hk hl => exact two rfl r.more ⟨_, _, rfl, .inl ⟨_, _, _, .both r1 r2, n1, hk, hl, rfl⟩⟩
  | moreO n1 r1 r2 hk => exact two rfl r.more ⟨_, _, rfl, .inr (.inl ⟨_, _, _, .both r1 r2, n1, hk, rfl, rfl⟩)⟩
  | call r1 r2 c => exact two rfl r.call ⟨_, _, rfl, .inl ⟨_, _, _, .both r1 r2, c⟩⟩
  | bad1 hw r1 =>
    rcases hw with rfl | rfl | rfl | rfl | rfl
    · exact two rfl r.plus ⟨_, _, rfl, .inr ⟨_, .bad1 r1, rfl⟩⟩
    · exact two rfl r.less ⟨_, _, rfl, .inr ⟨_, .bad1 r1, rfl⟩⟩
    · exact two rfl r.pair ⟨_, _, rfl, .inr ⟨_, .bad1 r1, rfl⟩⟩
    · exact two rfl r.more ⟨_, _, rfl, .inr (.inr ⟨_, .bad1 r1, rfl⟩)⟩
    · exact two rfl r.call ⟨_, _, rfl, .inr ⟨_, .bad1 r1, rfl⟩⟩
  | bad2 hw r1 r2 =>
    rcases hw with rfl | rfl | rfl | rfl | rfl
    · exact two rfl r.plus ⟨_, _, rfl, .inr ⟨_, .bad2 r1 r2, rfl⟩⟩
    · exact two rfl r.less ⟨_, _, rfl, .inr ⟨_, .bad2 r1 r2, rfl⟩⟩
    · exact two rfl r.pair ⟨_, _, rfl, .inr ⟨_, .bad2 r1 r2, rfl⟩⟩
    · exact two rfl r.more ⟨_, _, rfl, .inr (.inr ⟨_, .bad2 r1 r2, rfl⟩)⟩
    · exact two rfl r.call ⟨_, _, rfl, .inr ⟨_, .bad2 r1 r2, rfl⟩⟩
  | iff r1 r2 => exact four rfl r.iff ⟨_, _, _, rfl, .inl ⟨_, _, r1, r2⟩⟩
  | iffB r1 => exact four rfl r.iff ⟨_, _, _, rfl, .inr ⟨_, r1, rfl⟩⟩
  | first r1 => exact one rfl r.first ⟨_, rfl, .inl ⟨_, _, r1, rfl⟩⟩
  | second r1 => exact one rfl r.second ⟨_, rfl, .inl ⟨_, _, r1, rfl⟩⟩
  | oneB hw r1 =>
    rcases hw with rfl | rfl
    · exact one rfl r.first ⟨_, rfl, .inr ⟨_, r1, rfl⟩⟩
    · exact one rfl r.second ⟨_, rfl, .inr ⟨_, r1, rfl⟩⟩
  | left r1 n1 hl => exact two rfl r.left ⟨_, _, rfl, .inl ⟨_, r1, n1, hl⟩⟩
  | leftB r1 => exact two rfl r.left ⟨_, _, rfl, .inr ⟨_, r1, rfl⟩⟩
  | right r1 n1 hl => exact two rfl r.right ⟨_, _, rfl, .inl ⟨_, r1, n1, hl⟩⟩
  | rightB r1 => exact two rfl r.right ⟨_, _, rfl, .inr ⟨_, r1, rfl⟩⟩
  | case hx hy r1 r2 =>
    obtain ⟨p, u, u', u'', e1, hp, _⟩ := Dd.ofC hd
    exact go r.case ⟨_, _, _, _, _, rfl, .inl ⟨_, _, _, hx, hy, r1, r2⟩⟩ e1 hp
  | caseB r1 =>
    obtain ⟨p, u, u', u'', e1, hp, _⟩ := Dd.ofC hd
    exact go r.case ⟨_, _, _, _, _, rfl, .inr ⟨_, r1, rfl⟩⟩ e1 hp
  | fold hx hy r1 hl r2 h2 fo => exact six rfl r.fold ⟨_, _, _, _, _, rfl, .inl ⟨_, _, _, _, hx, hy, r1, hl, r2, h2, fo⟩⟩
  | foldO r1 hl r2 h2 => exact six rfl r.fold ⟨_, _, _, _, _, rfl, .inr (.inr (.inr ⟨_, _, _, _, r1, hl, r2, h2, rfl, rfl⟩))⟩
  | foldB1 r1 => exact six rfl r.fold ⟨_, _, _, _, _, rfl, .inr (.inl ⟨_, r1, rfl⟩)⟩
  | foldB2 r1 hl r2 => exact six rfl r.fold ⟨_, _, _, _, _, rfl, .inr (.inr (.inl ⟨_, _, _, r1, hl, r2, rfl⟩))⟩
  | built hx hy hk r1 =>
    obtain ⟨p, u, u', e1, hp, _⟩ := Dd.ofB hd
    exact go r.built ⟨_, _, _, _, _, rfl, .inl ⟨hx, hy, hk, r1⟩⟩ e1 hp
  | builtO hk =>
    obtain ⟨p, u, u', e1, hp, _⟩ := Dd.ofB hd
    exact go r.built ⟨_, _, _, _, _, rfl, .inr ⟨hk, rfl, rfl⟩⟩ e1 hp
  | rounds hx hm r1 ro =>
    obtain ⟨p, u, u', e1, hp, _⟩ := Dd.ofR hd
    exact go r.rounds ⟨_, _, _, _, rfl, .inl ⟨_, _, hx, hm, r1, ro⟩⟩ e1 hp
  | roundsB r1 =>
    obtain ⟨p, u, u', e1, hp, _⟩ := Dd.ofR hd
    exact go r.rounds ⟨_, _, _, _, rfl, .inr ⟨_, r1, rfl⟩⟩ e1 hp
end
end Kq

/-! all of a run's defs; handed_in, run -/
namespace Kq
open PySem PySem.Spec PyProof.Rows L2 Kf Kv Kk Ku
abbrev tHand : Stmt := tp 33
abbrev tRun : Stmt := tp 32
abbrev psHand : List Str := ["term", "args", "steps"]
/-- what the written part has of runs -/
structure RF (K : PySem.W.Frag) (w : World) (mg : Str → Option Value) (oN oP C cF cM dR dC fI fT : Addr) : Prop where
  N : NoI K mg oN
  N2 : NoP K mg oP
  T : StT K mg C
  M : FM K mg cF
  xm : XM K mg cM
  eF : PySem.W.exmOne K (.ref cF) (.ref cF) = some true
  eM : PySem.W.exmOne K (.ref cM) (.ref cF) = some false
  mkS : Mk K C fI
  mT : Meth K C "take" fT
  init : ∃ fd, Fun K "__init__" "Steps.__init__" tSInit fI fd ∧ Binds K fd ["self"] []
  take : ∃ fd, Fun K "take" "Steps.take" tTake fT fd ∧ Binds K fd ["self"] []
  hR : ∃ es m, KDict K w dR es m
  hC : ∃ es m, KDict K w dC es m
  gR : mg "RULES" = some (.ref dR)
  gC : mg "CALLS" = some (.ref dC)
  uS : ∃ u, mg "MOST_STEPS" = some u ∧ RelV (.int 1000) u
  uG : ∃ u, mg "GREATEST" = some u ∧ RelV (.int GR) u
  uP : ∃ u, mg "MOST_PARTS" = some u ∧ RelV (.int 200) u
  nums : Dfn K mg "within_numbers" tNums ["number"]
  parts : Dfn K mg "within_parts" tParts ["many"]
  wworths : Dfn K mg "worths_within" tWW ["worth"]
  pin : Dfn K mg "parts_in" tPIn ["worth"]
  items : Dfn K mg "items_of" tItems ["worth"]
  taken : Dfn K mg "taken_in" tTaken ["worth"]
  held : Dfn K mg "held" tHeld ["worth", "inner"]
  given : Dfn K mg "given_out" tGiven ["worth"]
  hw : Dfn K mg "held_within" tHW ["worth"]
  rel : Dfn K mg "released" tRel ["worth", "inner"]
  reb : Dfn K mg "rebuilt" tReb ["worth", "within", "joined"]
  mkpair : Dfn K mg "make_pair" tMkPair ["one", "other"]
  mkside : Dfn K mg "make_side" tMkSide ["side", "worth"]
  mklist : Dfn K mg "make_list" tMkList ["item", "rest"]
  puton : Dfn K mg "put_on" tPutOn ["item", "rest", "steps"]
  run : Dfn K mg "run" tRun ["term", "args"]
  hand : Dfn K mg "handed_in" tHand psHand
  wa : Dfn K mg "worth_at" tWA psR
  both : Dfn K mg "both_at" tBoth psR
  called : Dfn K mg "called" tCalled psF
  c1 : Rdn K dC "closure" "call_closure" tClo psF
  c2 : Rdn K dC "putter" "call_putter" tCPutter psF
  c3 : Rdn K dC "putting" "call_putting" tCPutting psF
  rnum : Rdn K dR "num" "run_num" tRNum psR
  rtruth : Rdn K dR "truth" "run_truth" tRTruth psR
  rnone : Rdn K dR "none" "run_none" tRNone psR
  rfault : Rdn K dR "fault" "run_fault" tRFault psR
  rname : Rdn K dR "name" "run_name" tRName psR
  rfun : Rdn K dR "fun" "run_fun" tRFun psR
  rplus : Rdn K dR "plus" "run_plus" tRPlus psR
  rless : Rdn K dR "less" "run_less" tRLess psR
  rpair : Rdn K dR "pair" "run_pair" tRPair psR
  rmore : Rdn K dR "more" "run_more" tRMore psR
  rcall : Rdn K dR "call" "run_call" tRCall psR
  rif : Rdn K dR "if" "run_if" tRIf psR
  rfst : Rdn K dR "first" "run_first" tRFst psR
  rsnd : Rdn K dR "second" "run_second" tRSnd psR
  rleft : Rdn K dR "left" "run_left" tRLeft psR
  rright : Rdn K dR "right" "run_right" tRRight psR
  rcase : Rdn K dR "case" "run_case" tRCase psR
  rfold : Rdn K dR "fold" "run_fold" tRFold psR
  rbuilt : Rdn K dR "built" "run_built" tRBuilt psR
  rrounds : Rdn K dR "rounds" "run_rounds" tRRounds psR
  mi : mg "isinstance" = none
  mt : mg "tuple" = none
  ms : mg "sum" = none
  mr : mg "reversed" = none
  mn : mg "len" = none
  mg_ : mg "range" = none
/-- arguments handed in one by one -/
inductive Hn (NS : List Str) : Nat → Hv → List Wt → Nat → Oc → Nat → Prop
  | nil {n : Nat} {h : Hv} {k : Nat} : Hn NS n h [] k (.ok h) k
  | cons {n : Nat} {f g : Hv} {a : Wt} {r : List Wt} {k k1 k2 : Nat} {oh : Oc} : Ca NS n f a.hv k (.ok g) k1 → Hn NS n g r k1 oh k2 → Hn NS n f (a :: r) k oh k2
  | bad {n : Nat} {f : Hv} {a : Wt} {r : List Wt} {k k1 : Nat} {z : Bool} : Ca NS n f a.hv k (.ex z) k1 → Hn NS n f (a :: r) k (.ex z) k1
/-- a run -/
inductive Rn (NS : List Str) : Nat → Dt → List Wt → Oc → Nat → Prop
  | go {n : Nat} {t : Dt} {f : Hv} {as : List Wt} {k k1 : Nat} {oh : Oc} : Ev NS n En.none t 0 (.ok f) k → Hn NS n f as k oh k1 → Rn NS n t as oh k1
  | bad {n : Nat} {t : Dt} {as : List Wt} {k : Nat} {z : Bool} : Ev NS n En.none t 0 (.ex z) k → Rn NS n t as (.ex z) k
/-- what a run's outcome asks -/
def KoR (cM : Addr) (k1 : Nat) : Oc → Hp → VK → XK → Prop
  | .ok h, H, Q, _ => ∃ a : Wt, h = a.hv ∧ a.sz ≤ 1000 ∧ ∀ (p : V) (G : Hp), Same H G → Dd Non G (.tup [.str "worth", a.d, .int k1]) p → Q p G
  | .ex false, H, Q, _ => ∀ (p : V) (G : Hp), Same H G → Dd Non G (.tup [.str "fault", .int k1]) p → Q p G
  | .ex true, H, _, E => ∀ G : Hp, Same H G → E (.ref cM) none G
section
variable {P : Program} {w : World} {K : PySem.W.Frag} {mg : Str → Option Value} {base : Heap} {oN oP : Addr} {NS : List Str} {C cF cM : Addr}
theorem pe_fldK {X : Cx} (K : PySem.W.Frag) (h : X.K = K) {e : Expr} {f : Str} {pos : Pos} {ta : TE} (he : PE X e ta) (hb : attributeBase e f X.env (eval e X.env) = eval e X.env) : PE X (.Attribute e f pos) (tFld K ta f) := by
  subst h
  exact pe_fld he hb
theorem scHand : FnScope ["term", "args", "steps", "told", "argument"] psHand (defScope tHand) := ⟨rfl, rfl, rfl, by decide +kernel, rfl, by decide +kernel, by decide +kernel⟩
def spHand (K : PySem.W.Frag) (oN oP : Addr) (NS : List Str) (C cF cM : Addr) (n : Nat) : Sp := fun vs H Q E => ∃ (vt : V) (pa st : Addr) (us : List V) (t : Dt) (as : List Wt) (oh : Oc) (k1 : Nat), vs = [vt, .ref pa, .ref st] ∧ Dd Non H t vt ∧ SqT K H pa us ∧ Paired (InW H) as us ∧ (∀ a ∈ as, a.sz ≤ 100000) ∧ Stp C st 0 H ∧
  Rn NS n t as oh k1 ∧ Ko K oN oP NS C cF cM st k1 oh H Q E
theorem InW.rk {H G : Hp} {a : Wt} {v : V} (h : InW H a v) (k : Rk H G) : InW G a v := ⟨h.1.kn k.kn, h.2⟩
theorem SqT.ss {st : Addr} {H G : Hp} {p : Addr} {us : List V} {C : Addr} {k : Nat} (h : SqT K H p us) (s : Ss st H G) (sp : Stp C st k H) : SqT K G p us := by
  obtain ⟨dx, e⟩ := sp
  rcases h with h | h
  · rcases h with h | ⟨o, h⟩
    · exact .inl (.inl (s _ _ (fun z => by rw [z, e] at h; cases h) h))
    · exact .inl (.inr ⟨o, s _ _ (fun z => by rw [z, e] at h; cases h) h⟩)
  · exact .inr h
theorem okHand {f : Addr} {fd : FuncData} {k n : Nat} (F : Fun K "handed_in" "handed_in" tHand f fd)
    (GW : Okd P w K mg base (L2.CX P w) k "worth_at" psR (spEv K oN oP NS C cF cM (Ev NS n)))
    (GC : Okd P w K mg base (L2.CX P w) k "called" psF (spCa K oN oP NS C cF cM (Ca NS n)))
    (GT : Okd P w K mg base CX0 k "taken_in" ["worth"] (spTaken K oN oP NS)) : FnOk P w K mg base (L2.CX P w) (k + 1) f fd psHand (spHand K oN oP NS C cF cM n) := by
  obtain ⟨fW, fdW, GW, bW, gW, kW⟩ := GW
  obtain ⟨fC, fdC, GC, bC, gC, kC⟩ := GC
  obtain ⟨fT, fdT, GT, bT, gT, kT⟩ := GT
  refine F.okX scHand (fun vs H Q E h => ?_) (fun cdv A outer s H vs Q E hr h => ?_)
  · obtain ⟨vt, pa, st, us, t, as, oh, k1, rfl, _⟩ := h
    rfl
  obtain ⟨vt, pa, st, us, t, as, oh, k1, rfl, hd, hp, pu, hz, sp, rn, q⟩ := h
  refine ⟨_, pss_cons (ps_set (i := 3) scHand.nd rfl (.inl rfl) (pe_callS GW hr (by rfl) gW kW bW (fun σ => passAt (takes_of rfl rfl rfl rfl) σ) (pa_cons (pv 0) (pa_cons pe_dnewK (pa_cons (pv 2) pa_nil)))))
    (pss_cons (ps_for (passes_of rfl) rfl (pi_tup (pv 1)) (pg_name (i := 4) scHand.nd rfl (.inl rfl))
      (pss_one (ps_set (i := 3) scHand.nd rfl (.inl rfl) (pe_callS GC hr (by rfl) gC kC bC (fun σ => passAt (takes_of rfl rfl rfl rfl) σ) (pa_cons (pv 3) (pa_cons (pe_call GT hr (by rfl) gT kT bT .nil pass0 (pa_cons (pv 4) pa_nil)) (pa_cons (pv 2) pa_nil)))))))
    (pss_one (ps_ret (pv 3)))), ?_⟩
  refine ⟨_, rfl, fun d nd => ?_⟩
  have s1 := newS (o := .dK []) nd
  cases rn with
  | bad ev => exact ⟨_, rfl, vt, d, st, En.none, t, 0, k1, _, rfl, hd.same s1, Ed.none upd_same, sp.same s1, ev, fun G s2 sp2 => q G ((Ss.of s1).trans s2) sp2⟩
  | go ev hh =>
  rename_i f k0
  refine ⟨_, rfl, vt, d, st, En.none, t, 0, k0, .ok f, rfl, hd.same s1, Ed.none upd_same, sp.same s1, ev, fun u G s2 sp2 hu => ?_⟩
  have ss1 : Ss st H G := (Ss.of s1).trans s2
  have q1 := ss1.rk sp
  have hp1 := SqT.ss (K := K) hp ss1 sp
  have pu1 : Paired (InW G) as us := Paired.mapP pu fun _ _ z => InW.rk z q1
  refine ⟨_, rfl, pa, rfl, ⟨us, hp1⟩, ?_⟩
  refine for_tup (K := K) (a := pa) (xs := us) (fun i σ G' => ∃ (tv : V) (hc : Hv) (kc : Nat) (y4 : Option V), σ = [some vt, some (.ref pa), some (.ref st), some tv, y4] ∧ Ss st G G' ∧ Stp C st kc G' ∧ Hd K oN oP NS G' hc tv ∧ Hn NS n hc (as.drop i) kc oh k1)
    ⟨u, f, k0, none, rfl, Ss.rfl, sp2, hu, hh⟩ (fun i σ G' _ ⟨tv, hc, kc, y4, _, sG, _⟩ => SqT.ss (K := K) hp1 sG sp2) (fun i v σ G' hv z => ?_) (fun σ G' z => ?_)
  · obtain ⟨tv, hc, kc, y4, rfl, sG, spc, htv, hh⟩ := z
    obtain ⟨a, ea, hva⟩ := Paired.atP pu1 hv
    have li : i < as.length := (List.getElem?_eq_some_iff.mp ea).1
    rw [List.drop_eq_getElem_cons li] at hh
    have ei2 : as[i] = a := Option.some.inj ((List.getElem?_eq_getElem li).symm.trans ea)
    rw [ei2] at hh
    cases hh with
    | cons cl hh =>
      rename_i g km
      refine ⟨_, rfl, _, rfl, v, a, rfl, InW.rk hva (sG.rk sp2), hz a (List.mem_of_getElem? ea), fun w2 G3 s3 hw => ?_⟩
      refine ⟨_, rfl, tv, w2, st, hc, a.hv, kc, km, .ok g, rfl, htv.same s3, hw, spc.same s3, cl, fun u3 G4 s4 sp4 hu4 => ?_⟩
      exact ⟨u3, g, km, _, rfl, (sG.trans (.of s3)).trans s4, sp4, hu4, hh⟩
    | bad cl =>
      refine ⟨_, rfl, _, rfl, v, a, rfl, InW.rk hva (sG.rk sp2), hz a (List.mem_of_getElem? ea), fun w2 G3 s3 hw => ?_⟩
      exact ⟨_, rfl, tv, w2, st, hc, a.hv, kc, k1, .ex _, rfl, htv.same s3, hw, spc.same s3, cl, fun G4 s4 sp4 => q G4 (((ss1.trans sG).trans (.of s3)).trans s4) sp4⟩
  · obtain ⟨tv, hc, kc, y4, rfl, sG, spc, htv, hh⟩ := z
    rw [List.drop_of_length_le (by rw [pu1.length]; exact Nat.le_refl _)] at hh
    cases hh
    exact ⟨_, rfl, q tv G' (ss1.trans sG) spc htv⟩
/-! run -/
theorem scRun : FnScope ["term", "args", "steps", "worth"] ["term", "args"] (defScope tRun) := ⟨rfl, rfl, rfl, by decide +kernel, rfl, by decide +kernel, by decide +kernel⟩
def spRun (K : PySem.W.Frag) (cM : Addr) (NS : List Str) (n : Nat) : Sp := fun vs H Q E => ∃ (vt : V) (pa : Addr) (us : List V) (t : Dt) (as : List Wt) (oh : Oc) (k1 : Nat), vs = [vt, .ref pa] ∧ Dd Non H t vt ∧ SqT K H pa us ∧ Paired (InW H) as us ∧ (∀ a ∈ as, a.sz ≤ 100000) ∧ Rn NS n t as oh k1 ∧ KoR cM k1 oh H Q E
theorem Stp.see {C st : Addr} {k : Nat} {H : Hp} (h : Stp C st k H) (T : StT K mg C) {Q : VK} (q : Q (.int k) H) : ∃ dx, H st = some (.ins C dx [("taken", .int k)]) := h
theorem okRun {f fI dR dC fT : Addr} {fd fdI : FuncData} {k n : Nat} (F : Fun K "run" "run" tRun f fd) (R : RF K w mg oN oP C cF cM dR dC fI fT)
    (GI : FnOk P w K mg base CX0 1 fI fdI ["self"] (spSInit C)) (bI : Binds K fdI ["self"] [])
    (GH : Okd P w K mg base (L2.CX P w) (k + 2) "handed_in" psHand (spHand K oN oP NS C cF cM n))
    (GG : Okd P w K mg base CX0 (k + 2) "given_out" ["worth"] (spGiven K oN oP NS)) : FnOk P w K mg base (L2.CX P w) (k + 3) f fd ["term", "args"] (spRun K cM NS n) := by
  obtain ⟨fH, fdH, GH, bH, gH, kH⟩ := GH
  obtain ⟨fG, fdG, GG, bG, gG, kG⟩ := GG
  have T := R.T
  refine F.okX scRun (fun vs H Q E h => ?_) (fun cdv A outer s H vs Q E hr h => ?_)
  · obtain ⟨vt, pa, us, t, as, oh, k1, rfl, _⟩ := h
    rfl
  obtain ⟨vt, pa, us, t, as, oh, k1, rfl, hd, hp, pu, hz, rn, q⟩ := h
  refine ⟨_, pss_cons (ps_set (i := 2) scRun.nd rfl (.inl rfl) (pe_make0 R.mkS GI (hr.mono (by omega)) rfl T.mgC bI .nil pass0))
    (pss_cons (ps_try_only (c := .ref cF) rfl rfl ⟨rfl, by decide, .inl R.M.gP⟩ (takes_of rfl rfl rfl rfl)
      (fun W pn xe tk _ => pss_one (ps_set (i := 3) scRun.nd rfl (.inl rfl) (pe_callS GH hr (by rfl) gH kH bH (fun σ => passAt tk σ) (pa_cons (pv 0) (pa_cons (pv 1) (pa_cons (pv 2) pa_nil))))))
      (fun a oe cls d pn hz hf => pss_one (ps_ret (pe_tup (pa_cons pe_str (pa_cons (pe_fldK K rfl (pv 2) rfl) pa_nil))))))
    (pss_one (ps_ret (pe_tup (pa_cons pe_str (pa_cons (pe_call GG hr (by rfl) gG kG bG .nil pass0 (pa_cons (pv 3) pa_nil)) (pa_cons (pe_fld (pv 2) rfl) pa_nil))))))), ?_⟩
  intro x dx nx ndx nex
  have s0 : Same H (upd (upd H dx (.own x)) x (.ins C dx [])) := fun b o e => by
    rw [upd_ne (ne_of_none e nx), upd_ne (ne_of_none e ndx)]
    exact e
  refine ⟨x, dx, rfl, upd_same, rfl, ?_⟩
  have s1 : Same H (upd (upd (upd H dx (.own x)) x (.ins C dx [])) x (.ins C dx [("taken", .int 0)])) := smk s0 nx
  have sp1 : Stp C x 0 (upd (upd (upd H dx (.own x)) x (.ins C dx [])) x (.ins C dx [("taken", .int 0)])) := ⟨dx, upd_same⟩
  generalize upd (upd (upd H dx (.own x)) x (.ins C dx [])) x (.ins C dx [("taken", .int 0)]) = H1 at s1 sp1
  have hp1 : SqT K H1 pa us := by
    rcases hp with h | h
    · rcases h with h | ⟨o, h⟩
      · exact .inl (.inl (s1 _ _ h))
      · exact .inl (.inr ⟨o, s1 _ _ h⟩)
    · exact .inr h
  have all : ∀ {G : Hp}, Ss x H1 G → Same H G := fun s2 b o e => s2 _ _ (ne_of_none e nx) (s1 _ _ e)
  refine ⟨_, rfl, _, rfl, _, rfl, vt, pa, x, us, t, as, oh, k1, rfl, hd.same s1, hp1, Paired.mapP pu fun _ _ z => InW.rk z (.of s1), hz, sp1, rn, ?_⟩
  cases oh with
  | ok h =>
    obtain ⟨a, rfl, ha, q⟩ := q
    intro u G s2 sp2 hu
    refine ⟨_, rfl, u, a, rfl, hu, ha, fun u2 G2 s3 hd2 => ?_⟩
    obtain ⟨dx2, hst⟩ := sp2.same s3
    refine ⟨_, rfl, x, C, dx2, _, _, rfl, hst, T.cl, T.nT, (by show List.lookup ("taken" : Str) [(("taken" : Str), V.int k1)] = some (.int k1); simp), (by show 3 ≤ sizeLine; decide), fun p np => q _ _ ((all s2).trans (s3.trans (newS np))) ?_⟩
    exact .tup upd_same (.cons (.str _) (.cons (hd2.same (newS np)) (.cons (.int _) .nil)))
  | ex z =>
    cases z with
    | false =>
      intro G s2 sp2
      refine ⟨true, R.eF, fun _ a ha => ?_, fun z => nomatch z⟩
      obtain ⟨dx2, hst⟩ := id sp2
      refine ⟨_, rfl, x, C, dx2, _, _, rfl, hst, T.cl, T.nT, (by show List.lookup ("taken" : Str) [(("taken" : Str), V.int k1)] = some (.int k1); simp), (by show 2 ≤ sizeLine; decide), fun p np => q _ _ ((all s2).trans (newS np)) ?_⟩
      exact .tup upd_same (.cons (.str _) (.cons (.int _) .nil))
    | true =>
      intro G s2 sp2
      exact ⟨false, R.eM, fun z => (nomatch z), fun _ => q G (all s2)⟩
end
end Kq

/-! runs, whole -/
namespace Kq
open PySem PySem.Spec PyProof.Rows L2 Kf Kv Kk Ku
section
variable {P : Program} {w : World} {K : PySem.W.Frag} {mg : Str → Option Value} {base : Heap} {oN oP : Addr} {NS : List Str} {C cF cM dR dC fI fT : Addr}
theorem Dfn.ok {CX : CXT} {k : Nat} {nm : Str} {st : Stmt} {ps : List Str} {sp : Sp} (d : Dfn K mg nm st ps) (h : ∀ f fd, Fun K nm nm st f fd → FnOk P w K mg base CX k f fd ps sp) : Okd P w K mg base CX k nm ps sp := by
  obtain ⟨f, fd, F, b, g⟩ := d
  exact ⟨f, fd, h f fd F, b, g, F.kp⟩
theorem Rdn.ok {CX : CXT} {k : Nat} {dA : Addr} {x nm : Str} {st : Stmt} {ps : List Str} {sp : Sp} (d : Rdn K dA x nm st ps) (h : ∀ f fd, Fun K nm nm st f fd → FnOk P w K mg base CX k f fd ps sp) : Rok P w K mg base CX k dA x ps sp := by
  obtain ⟨f, fd, F, b, g⟩ := d
  exact ⟨f, fd, h f fd F, b, g, F.kp⟩
theorem RF.take1 (R : RF K w mg oN oP C cF cM dR dC fI fT) : ∃ fd, FnOk P w K mg base (L2.CX P w) 1 fT fd ["self"] (spTake C cM) ∧ Binds K fd ["self"] [] := by
  obtain ⟨fd, F, b⟩ := R.take
  obtain ⟨u, g, r⟩ := R.uS
  exact ⟨fd, okTake (k := 0) F R.T R.xm g r, b⟩
theorem RF.numX (R : RF K w mg oN oP C cF cM dR dC fI fT) (k : Nat) : Okd P w K mg base (L2.CX P w) (k + 1) "within_numbers" ["number"] (spNumsX cM) := by
  obtain ⟨u, g, r⟩ := R.uG
  exact R.nums.ok fun f fd F => okNumsX F R.xm g r
theorem RF.num0 (R : RF K w mg oN oP C cF cM dR dC fI fT) (k : Nat) : Okd P w K mg base CX0 (k + 1) "within_numbers" ["number"] spNums := by
  obtain ⟨u, g, t, rfl⟩ := R.uG
  exact R.nums.ok fun f fd F => okNums F g
theorem RF.partsX (R : RF K w mg oN oP C cF cM dR dC fI fT) (k : Nat) : Okd P w K mg base (L2.CX P w) (k + 1) "within_parts" ["many"] (spWP cM) := by
  obtain ⟨u, g, r⟩ := R.uP
  exact R.parts.ok fun f fd F => okWP F R.xm g r
theorem RF.pin1 (R : RF K w mg oN oP C cF cM dR dC fI fT) (k : Nat) : Okd P w K mg base CX0 (k + 1) "parts_in" ["worth"] (spPIn K oN oP NS) := R.pin.ok fun f fd F => okPIn F R.N R.mi R.mt
theorem RF.items1 (R : RF K w mg oN oP C cF cM dR dC fI fT) (k : Nat) : Okd P w K mg base CX0 (k + 1) "items_of" ["worth"] (spItems K oN oP NS) := R.items.ok fun f fd F => okItems F R.N
theorem RF.ww1 (R : RF K w mg oN oP C cF cM dR dC fI fT) (k : Nat) : Okd P w K mg base CX0 (k + 1) "worths_within" ["worth"] (spWi K TW InW) := R.wworths.ok fun f fd F => okWW F R.mi R.mt
theorem RF.held1 (R : RF K w mg oN oP C cF cM dR dC fI fT) (k : Nat) : Okd P w K mg base CX0 (k + 2) "held" ["worth", "inner"] (spJo TW InW (Hd K oN oP NS)) := by
  obtain ⟨f1, fd1, G1, b1, g1, k1⟩ := R.num0 (P := P) (base := base) k
  obtain ⟨f2, fd2, G2, b2, g2, k2⟩ := R.pin1 (P := P) (base := base) (NS := NS) k
  exact R.held.ok fun f fd F => okHeld F R.N G1 b1 g1 k1 G2 b2 g2 k2 R.mi R.mt R.ms
theorem RF.taken1 (R : RF K w mg oN oP C cF cM dR dC fI fT) : Okd P w K mg base CX0 4 "taken_in" ["worth"] (spTaken K oN oP NS) := by
  obtain ⟨f1, fd1, G1, b1, g1, k1⟩ := R.num0 (P := P) (base := base) 2
  obtain ⟨f2, fd2, G2, b2, g2, k2⟩ := R.ww1 (P := P) (base := base) 1
  obtain ⟨f3, fd3, G3, b3, g3, k3⟩ := R.held1 (P := P) (base := base) (NS := NS) 0
  obtain ⟨f4, fd4, F4, b4, g4⟩ := R.reb
  have R1 := okReb (P := P) (w := w) (base := base) (k := 2) F4 (T := TW) (In := InW) (Out := Hd K oN oP NS) (fun _ _ _ _ k h => InW.rk h k) (fun _ _ _ _ k h => Hd.rk k h) G2 b2 k2 G3 b3 k3 R.mr R.mn
  exact R.taken.ok fun f fd F => okTaken F G1 b1 g1 k1 R1 b4 g4 F4.kp g2 g3 R.mi R.mt
theorem InG.rk {H G : Hp} {a : Wt} {v : V} (k : Rk H G) (h : InG K oN oP NS H a v) : InG K oN oP NS G a v := ⟨h.1.rk k, h.2⟩
theorem RF.given1 (R : RF K w mg oN oP C cF cM dR dC fI fT) : Okd P w K mg base CX0 4 "given_out" ["worth"] (spGiven K oN oP NS) := by
  obtain ⟨f1, fd1, G1, b1, g1, k1⟩ := R.items1 (P := P) (base := base) (NS := NS) 0
  obtain ⟨f2, fd2, F2, b2, g2⟩ := R.hw
  obtain ⟨f3, fd3, F3, b3, g3⟩ := R.rel
  obtain ⟨f4, fd4, F4, b4, g4⟩ := R.reb
  have H2 := okHW (P := P) (w := w) (base := base) (k := 1) F2 R.N G1 b1 g1 k1 R.mi R.mt
  have H3 := okRel (P := P) (w := w) (base := base) (oP := oP) (NS := NS) (k := 1) F3 R.N R.mi R.mt
  have R2 := okReb (P := P) (w := w) (base := base) (k := 2) F4 (T := TG) (In := InG K oN oP NS) (Out := Dd Non) (fun _ _ _ _ k h => InG.rk k h) (fun _ _ _ _ k h => Dd.kn k.kn h) H2 b2 F2.kp H3 b3 F3.kp R.mr R.mn
  exact R.given.ok fun f fd F => okGiven F R.N R2 b4 g4 F4.kp g2 g3 R.mi R.mt
theorem RF.mkpair1 (R : RF K w mg oN oP C cF cM dR dC fI fT) (k : Nat) : Okd P w K mg base (L2.CX P w) (k + 2) "make_pair" ["one", "other"] (spMkPair K oN oP NS cM) := by
  obtain ⟨f1, fd1, G1, b1, g1, k1⟩ := R.partsX (P := P) (base := base) k
  obtain ⟨f2, fd2, G2, b2, g2, k2⟩ := R.pin1 (P := P) (base := base) (NS := NS) k
  exact R.mkpair.ok fun f fd F => okMkPair F G1 b1 g1 k1 G2 b2 g2 k2
theorem RF.mkside1 (R : RF K w mg oN oP C cF cM dR dC fI fT) (k : Nat) : Okd P w K mg base (L2.CX P w) (k + 2) "make_side" ["side", "worth"] (spMkSide K oN oP NS cM) := by
  obtain ⟨f1, fd1, G1, b1, g1, k1⟩ := R.partsX (P := P) (base := base) k
  obtain ⟨f2, fd2, G2, b2, g2, k2⟩ := R.pin1 (P := P) (base := base) (NS := NS) k
  exact R.mkside.ok fun f fd F => okMkSide F G1 b1 g1 k1 G2 b2 g2 k2
theorem RF.mklist1 (R : RF K w mg oN oP C cF cM dR dC fI fT) (k : Nat) : Okd P w K mg base (L2.CX P w) (k + 2) "make_list" ["item", "rest"] (spMkList K oN oP NS cM) := by
  obtain ⟨f1, fd1, G1, b1, g1, k1⟩ := R.partsX (P := P) (base := base) k
  obtain ⟨f2, fd2, G2, b2, g2, k2⟩ := R.pin1 (P := P) (base := base) (NS := NS) k
  exact R.mklist.ok fun f fd F => okMkList F R.N G1 b1 g1 k1 G2 b2 g2 k2
theorem RF.puton1 (R : RF K w mg oN oP C cF cM dR dC fI fT) (k : Nat) : Okd P w K mg base (L2.CX P w) (k + 3) "put_on" ["item", "rest", "steps"] (spPutOn K oN oP NS C cM) := by
  obtain ⟨f1, fd1, G1, b1, g1, k1⟩ := R.mklist1 (P := P) (base := base) (NS := NS) k
  obtain ⟨fdT, GT, bT⟩ := R.take1 (P := P) (base := base)
  exact R.puton.ok fun f fd F => okPutOn F G1 b1 g1 k1 R.T GT bT R.mT
/-- terms -/
theorem RF.called1 (R : RF K w mg oN oP C cF cM dR dC fI fT) (hn : NS.length ≤ 400) {n k : Nat} (hk : 4 ≤ k) (I : Okd P w K mg base (L2.CX P w) k "worth_at" psR (spEv K oN oP NS C cF cM (Ev NS n))) : Okd P w K mg base (L2.CX P w) (k + 2) "called" psF (spCa K oN oP NS C cF cM (Ca NS n)) := by
  obtain ⟨fdT, GT, bT⟩ := R.take1 (P := P) (base := base)
  obtain ⟨es, m, hD⟩ := R.hC
  exact R.called.ok fun f fd F => okCalled (k := k) F R.gC hD R.N2 (R.c1.ok fun f fd F => okClo F hn I) ((R.c2.ok fun f fd F => okCPutter (k := k) F)) (R.c3.ok fun f fd F => okCPutting F (Okd.up (R.puton1 0) (by omega))) R.T GT bT R.mT
theorem RF.rls (R : RF K w mg oN oP C cF cM dR dC fI fT) (hn : NS.length ≤ 400) {n k : Nat} (hk : 4 ≤ k) (I : Okd P w K mg base (L2.CX P w) k "worth_at" psR (spEv K oN oP NS C cF cM (Ev NS n))) : Rls P w K mg base oN oP NS C cF cM dR (k + 3) n := by
  obtain ⟨fdT, GT, bT⟩ := R.take1 (P := P) (base := base)
  obtain ⟨fW, fdW, GW, bW, gW, kW⟩ := id I
  obtain ⟨fC, fdC, GC, bC, gC, kC⟩ := R.called1 hn hk I
  obtain ⟨fB, fdB, GB, bB, gB, kB⟩ : Okd P w K mg base (L2.CX P w) (k + 1) "both_at" psR (spBoth K oN oP NS C cF cM (Bo (Ev NS n))) := R.both.ok fun f fd F => okBoth F GW bW gW kW
  obtain ⟨f1, fd1, G1, b1, g1, k1⟩ := R.numX (P := P) (base := base) k
  obtain ⟨f2, fd2, G2, b2, g2, k2⟩ := Okd.up (R.mkpair1 (P := P) (base := base) (NS := NS) 0) (show 0 + 2 ≤ k + 1 by omega)
  obtain ⟨f3, fd3, G3, b3, g3, k3⟩ := Okd.up (R.puton1 (P := P) (base := base) (NS := NS) 0) (show 0 + 3 ≤ k + 1 by omega)
  obtain ⟨f4, fd4, G4, b4, g4, k4⟩ := Okd.up (R.mkside1 (P := P) (base := base) (NS := NS) 0) (show 0 + 2 ≤ k by omega)
  obtain ⟨f5, fd5, G5, b5, g5, k5⟩ := R.items1 (P := P) (base := base) (NS := NS) k
  have GB2 := upOk GB (show k + 1 ≤ k + 2 by omega)
  constructor
  · exact (R.rnum.ok fun f fd F => okRNum F G1 b1 g1 k1).up (show k + 2 ≤ k + 3 by omega)
  · exact (R.rtruth.ok fun f fd F => okRTruth (k := k + 2) F)
  · exact (R.rnone.ok fun f fd F => okRNone (k := k + 2) F R.N)
  · exact (R.rfault.ok fun f fd F => okRFault (k := k + 2) F R.M)
  · exact (R.rname.ok fun f fd F => okRName (k := k + 2) F)
  · exact (R.rfun.ok fun f fd F => okRFun (k := k + 2) F)
  · exact (R.rplus.ok fun f fd F => okRPlus F GB bB gB kB G1 b1 g1 k1).up (show k + 2 ≤ k + 3 by omega)
  · exact (R.rless.ok fun f fd F => okRLess F GB bB gB kB).up (show k + 2 ≤ k + 3 by omega)
  · exact (R.rpair.ok fun f fd F => okRPair F GB bB gB kB G2 b2 g2 k2).up (show k + 2 ≤ k + 3 by omega)
  · exact (R.rmore.ok fun f fd F => okRMore F GB bB gB kB G3 b3 g3 k3).up (show k + 2 ≤ k + 3 by omega)
  · exact (R.rcall.ok fun f fd F => okRCall (k := k + 1) F GB2 bB gB kB GC bC gC kC)
  · exact (R.rif.ok fun f fd F => okRIf F GW bW gW kW).up (show k + 1 ≤ k + 3 by omega)
  · exact (R.rfst.ok fun f fd F => okRFst F GW bW gW kW).up (show k + 1 ≤ k + 3 by omega)
  · exact (R.rsnd.ok fun f fd F => okRSnd F GW bW gW kW).up (show k + 1 ≤ k + 3 by omega)
  · exact (R.rleft.ok fun f fd F => okRLeft F GW bW gW kW G4 b4 g4 k4).up (show k + 1 ≤ k + 3 by omega)
  · exact (R.rright.ok fun f fd F => okRRight F GW bW gW kW G4 b4 g4 k4).up (show k + 1 ≤ k + 3 by omega)
  · exact (R.rcase.ok fun f fd F => okRCase F hn GW bW gW kW).up (show k + 1 ≤ k + 3 by omega)
  · exact (R.rfold.ok fun f fd F => okRFold F hn (upOk GW (show k ≤ k + 1 by omega)) bW gW kW G5 b5 g5 k5 R.T GT bT R.mT).up (show k + 2 ≤ k + 3 by omega)
  · exact (R.rbuilt.ok fun f fd F => okRBuilt F hn R.N R.N2 (upOk GW (show k ≤ k + 1 by omega)) bW gW kW R.T GT bT R.mT).up (show k + 2 ≤ k + 3 by omega)
  · exact (R.rrounds.ok fun f fd F => okRRounds F hn R.M (upOk GW (show k ≤ k + 1 by omega)) bW gW kW R.T GT bT R.mT R.mg_).up (show k + 2 ≤ k + 3 by omega)
theorem RF.wa1 (R : RF K w mg oN oP C cF cM dR dC fI fT) (hn : NS.length ≤ 400) : ∀ n, Okd P w K mg base (L2.CX P w) (4 * n + 4) "worth_at" psR (spEv K oN oP NS C cF cM (Ev NS n))
  | 0 => R.wa.ok fun f fd F => noFn fun vs H Q E h => by
    obtain ⟨vt, d, st, e, t, kk, kk1, h, rfl, hd, ed, sp, ev, q⟩ := h
    cases ev
  | n + 1 => by
    have I := RF.wa1 R hn n
    obtain ⟨es, m, hD⟩ := R.hR
    have e : 4 * (n + 1) + 4 = (4 * n + 4 + 3) + 1 := by omega
    rw [e]
    exact R.wa.ok fun f fd F => okWA1 F R.gR hD (R.rls hn (by omega) I)
theorem RF.run1 (R : RF K w mg oN oP C cF cM dR dC fI fT) (hn : NS.length ≤ 400) (n : Nat) : Okd P w K mg base (L2.CX P w) (4 * n + 8) "run" ["term", "args"] (spRun K cM NS n) := by
  have I := R.wa1 (P := P) (base := base) hn n
  have Cl := R.called1 hn (by omega) I
  obtain ⟨fdI, FI, bI⟩ := R.init
  have GI : FnOk P w K mg base CX0 1 fI fdI ["self"] (spSInit C) := okSInit FI R.T
  have GH : Okd P w K mg base (L2.CX P w) (4 * n + 7) "handed_in" psHand (spHand K oN oP NS C cF cM n) := R.hand.ok fun f fd F => okHand F (I.up (show 4 * n + 4 ≤ 4 * n + 6 by omega)) (Cl.up (show 4 * n + 4 + 2 ≤ 4 * n + 6 by omega)) (R.taken1.up (show 4 ≤ 4 * n + 6 by omega))
  exact R.run.ok fun f fd F => okRun (k := 4 * n + 5) F R GI bI GH (R.given1.up (show 4 ≤ 4 * n + 5 + 2 by omega))
end
end Kq

/-! things of anything: how great they are -/
namespace Kv
open PySem PySem.Spec PyProof.Rows L2 Kf
mutual
def Dt.sz : Dt → Nat
  | .tup xs => 1 + Dt.szs xs
  | .lst xs => 1 + Dt.szs xs
  | _ => 1
def Dt.szs : List Dt → Nat
  | [] => 0
  | x :: xs => x.sz + Dt.szs xs
end
theorem sz_mem : ∀ {xs : List Dt} {x : Dt}, x ∈ xs → x.sz ≤ Dt.szs xs
  | y :: ys, x, h => by
    rcases List.mem_cons.mp h with rfl | h
    · exact Nat.le_add_right _ _
    · exact Nat.le_trans (sz_mem h) (Nat.le_add_left _ _)
theorem szs_app : ∀ (xs ys : List Dt), Dt.szs (xs ++ ys) = Dt.szs xs + Dt.szs ys
  | [], ys => by show _ = 0 + _; rw [Nat.zero_add]; rfl
  | x :: xs, ys => by
    show x.sz + Dt.szs (xs ++ ys) = x.sz + Dt.szs xs + Dt.szs ys
    rw [szs_app xs ys, Nat.add_assoc]
mutual
def Dt.dp : Dt → Nat
  | .tup xs => Dt.dps xs + 1
  | .lst xs => Dt.dps xs + 1
  | .emp => 1
  | _ => 0
def Dt.dps : List Dt → Nat
  | [] => 0
  | x :: xs => max x.dp (Dt.dps xs)
end
mutual
def Dt.wt : Dt → Nat
  | .non => 4
  | .bl _ => 5
  | .int _ => 52
  | .str x => 10 * x.length + 2
  | .tup xs => Dt.wts xs + 3
  | .lst xs => Dt.wts xs + 3
  | .emp => 2
def Dt.wts : List Dt → Nat
  | [] => 0
  | x :: xs => x.wt + 2 + Dt.wts xs
end
mutual
def Dt.fine (B : Nat) : Dt → Prop
  | .int i => i.natAbs < B
  | .str x => ∀ c ∈ x.cps.toList, c < 16 ^ 8
  | .tup xs => Dt.fines B xs
  | .lst xs => Dt.fines B xs
  | _ => True
def Dt.fines (B : Nat) : List Dt → Prop
  | [] => True
  | x :: xs => x.fine B ∧ Dt.fines B xs
end
mutual
theorem Dt.shw {B : Nat} (hB : B ≤ 10 ^ 45) : ∀ (x : Dt), x.fine B → x.toP.showable = true ∧ x.toP.depth = x.dp ∧ x.toP.shown.length ≤ x.wt
  | .non, _ => ⟨by simp [Dt.toP, PyData.showable], by simp [Dt.toP, PyData.depth, Dt.dp], by simp only [Dt.toP, PyData.shown, Dt.wt]; decide⟩
  | .bl b, _ => ⟨by simp [Dt.toP, PyData.showable], by simp [Dt.toP, PyData.depth, Dt.dp], by cases b <;> (simp only [Dt.toP, PyData.shown, Dt.wt]; decide)⟩
  | .int i, h => by
    have h : i.natAbs < B := by simpa only [Dt.fine] using h
    have h : i.natAbs < 10 ^ 45 := Nat.lt_of_lt_of_le h hB
    refine ⟨?_, by simp [Dt.toP, PyData.depth, Dt.dp], ?_⟩
    · simp only [Dt.toP, PyData.showable]
      refine decide_eq_true ?_
      by_cases z : i.natAbs = 0
      · rw [z]
        decide
      · have : i.natAbs.log2 < 150 := (Nat.log2_lt z).mpr (Nat.lt_of_lt_of_le h (by decide))
        omega
    · have z := int_text_length_le10 (a := i) (k := 45) (by decide) h
      simp only [Dt.toP, PyData.shown, Dt.wt]
      have e : (Str.ofString (toString i)).length = (toString i).length := PySem.ofString_length _
      rw [e]
      omega
  | .str x, h => by
    have h : ∀ c ∈ x.cps.toList, c < 16 ^ 8 := by simpa only [Dt.fine] using h
    exact ⟨by simp [Dt.toP, PyData.showable], by simp [Dt.toP, PyData.depth, Dt.dp], by simp only [Dt.toP, PyData.shown, Dt.wt]; exact PySem.StrLaws.reprText_len x h⟩
  | .tup xs, h => by
    obtain ⟨a, b, c⟩ := Dt.shws hB xs (by simpa only [Dt.fine] using h)
    refine ⟨by simpa only [Dt.toP, PyData.showable] using a, by simp only [Dt.toP, PyData.depth, Dt.dp]; omega, ?_⟩
    simp only [Dt.toP, PyData.shown, Dt.wt]
    have := tupleText_len_le (PyData.shownAll (Dt.toPs xs))
    omega
  | .lst xs, h => by
    obtain ⟨a, b, c⟩ := Dt.shws hB xs (by simpa only [Dt.fine] using h)
    refine ⟨by simpa only [Dt.toP, PyData.showable] using a, by simp only [Dt.toP, PyData.depth, Dt.dp]; omega, ?_⟩
    simp only [Dt.toP, PyData.shown, Dt.wt]
    have := listText_len_le (PyData.shownAll (Dt.toPs xs))
    omega
  | .emp, _ => ⟨by simp [Dt.toP, PyData.showable, PyData.showableKv], by simp [Dt.toP, PyData.depth, PyData.depthKv, Dt.dp], by simp only [Dt.toP, PyData.shown, PyData.shownKv, Dt.wt]; decide⟩
theorem Dt.shws {B : Nat} (hB : B ≤ 10 ^ 45) : ∀ (xs : List Dt), Dt.fines B xs → PyData.showableAll (Dt.toPs xs) = true ∧ PyData.depthAll (Dt.toPs xs) = Dt.dps xs ∧ ((PyData.shownAll (Dt.toPs xs)).map (·.length)).sum + 2 * (PyData.shownAll (Dt.toPs xs)).length ≤ Dt.wts xs
  | [], _ => ⟨by simp [Dt.toPs, PyData.showableAll], by simp [Dt.toPs, PyData.depthAll, Dt.dps], by simp [Dt.toPs, PyData.shownAll]⟩
  | x :: xs, h => by
    have h : x.fine B ∧ Dt.fines B xs := by simpa only [Dt.fines] using h
    obtain ⟨a, b, c⟩ := x.shw hB h.1
    obtain ⟨a', b', c'⟩ := Dt.shws hB xs h.2
    refine ⟨by simp [Dt.toPs, PyData.showableAll, a, a'], by simp [Dt.toPs, PyData.depthAll, Dt.dps, b, b'], ?_⟩
    simp only [Dt.toPs, PyData.shownAll, List.map_cons, List.sum_cons, List.length_cons, Dt.wts]
    omega
end
/-- it is fine, and within the bounds -/
structure Fine (B n W : Nat) (x : Dt) : Prop where
  ok : x.fine B
  dp : x.dp ≤ n
  wt : x.wt ≤ W
theorem Fine.shw {B n W : Nat} {x : Dt} (h : Fine B n W x) (hB : B ≤ 10 ^ 45) (hW : W ≤ sizeLine) : Shw n x := by
  obtain ⟨a, b, c⟩ := x.shw hB h.ok
  exact ⟨a, by rw [b]; exact h.dp, Nat.le_trans c (Nat.le_trans h.wt hW)⟩
mutual
theorem Dt.fine_up {B C : Nat} (h : B ≤ C) : ∀ {x : Dt}, x.fine B → x.fine C
  | .non, _ => by simp only [Dt.fine]
  | .bl _, _ => by simp only [Dt.fine]
  | .int i, f => by
    simp only [Dt.fine] at f ⊢
    omega
  | .str x, f => by
    simp only [Dt.fine] at f ⊢
    exact f
  | .tup xs, f => by
    simp only [Dt.fine] at f ⊢
    exact Dt.fines_up h f
  | .lst xs, f => by
    simp only [Dt.fine] at f ⊢
    exact Dt.fines_up h f
  | .emp, _ => by simp only [Dt.fine]
theorem Dt.fines_up {B C : Nat} (h : B ≤ C) : ∀ {xs : List Dt}, Dt.fines B xs → Dt.fines C xs
  | [], _ => by simp only [Dt.fines]
  | x :: xs, f => by
    simp only [Dt.fines] at f ⊢
    exact ⟨Dt.fine_up h f.1, Dt.fines_up h f.2⟩
end
theorem Fine.mono {A B n W m V : Nat} {x : Dt} (h : Fine A n W x) (ha : A ≤ B) (hn : n ≤ m) (hw : W ≤ V) : Fine B m V x := ⟨Dt.fine_up ha h.ok, Nat.le_trans h.dp hn, Nat.le_trans h.wt hw⟩
mutual
theorem Dt.sz_wt : ∀ x : Dt, x.sz ≤ x.wt
  | .non => by simp only [Dt.sz, Dt.wt]; omega
  | .bl _ => by simp only [Dt.sz, Dt.wt]; omega
  | .int _ => by simp only [Dt.sz, Dt.wt]; omega
  | .str _ => by simp only [Dt.sz, Dt.wt]; omega
  | .tup xs => by
    have := Dt.szs_wts xs
    simp only [Dt.sz, Dt.wt]
    omega
  | .lst xs => by
    have := Dt.szs_wts xs
    simp only [Dt.sz, Dt.wt]
    omega
  | .emp => by simp only [Dt.sz, Dt.wt]; omega
theorem Dt.szs_wts : ∀ xs : List Dt, Dt.szs xs ≤ Dt.wts xs
  | [] => by simp only [Dt.szs, Dt.wts]; omega
  | x :: xs => by
    have := x.sz_wt
    have := Dt.szs_wts xs
    simp only [Dt.szs, Dt.wts]
    omega
end
theorem len_szs : ∀ xs : List Dt, xs.length ≤ Dt.szs xs
  | [] => Nat.zero_le _
  | x :: xs => by
    have := len_szs xs
    have : 1 ≤ x.sz := by cases x <;> simp only [Dt.sz] <;> omega
    simp only [Dt.szs, List.length_cons]
    omega
theorem wts_app : ∀ (xs ys : List Dt), Dt.wts (xs ++ ys) = Dt.wts xs + Dt.wts ys
  | [], ys => by simp only [List.nil_append, Dt.wts]; omega
  | x :: xs, ys => by
    simp only [List.cons_append, Dt.wts]
    rw [wts_app xs ys]
    omega
theorem dps_app : ∀ (xs ys : List Dt), Dt.dps (xs ++ ys) = max (Dt.dps xs) (Dt.dps ys)
  | [], ys => by simp only [List.nil_append, Dt.dps]; omega
  | x :: xs, ys => by
    simp only [List.cons_append, Dt.dps]
    rw [dps_app xs ys]
    omega
theorem fines_app {B : Nat} : ∀ (xs ys : List Dt), Dt.fines B (xs ++ ys) ↔ Dt.fines B xs ∧ Dt.fines B ys
  | [], ys => by simp only [List.nil_append, Dt.fines, true_and]
  | x :: xs, ys => by
    simp only [List.cons_append, Dt.fines]
    rw [fines_app xs ys, and_assoc]
end Kv

/-! helpers of laws about runs -/
namespace Kq
open PySem PySem.Spec PyProof.Rows L2 Kf Kv Kk Ku
/-- but for the deck tuples and dicts stay -/
theorem Kp.rk {d c : Addr} {H G : Hp} (a : Kp d c H G) (k : Dk H d c) : Rk H G := by
  obtain ⟨n, ⟨s, k0, e⟩, ⟨ns, f, l⟩⟩ := k
  refine ⟨fun b xs eb => a b _ (fun z => ?_) (fun z => ?_) eb, fun b xs eb => a b _ (fun z => ?_) (fun z => ?_) eb⟩
  · rw [z, e] at eb
    cases eb
  · rw [z, f] at eb
    cases eb
  · rw [z, e] at eb
    cases eb
  · rw [z, f] at eb
    cases eb
@[elab_as_elim] theorem tupG {H : Hp} {p : Addr} {vs : List V} {ds : List Dt} {motive : Hp → Prop} (np : H p = none) (dl : DdL Non H ds vs) (q : ∀ G, Same H G → Dd Non G (.tup ds) (.ref p) → motive G) : motive (upd H p (.tup vs)) := q _ (newS np) (.tup upd_same (dl.same (newS np)))
@[elab_as_elim] theorem objG {H : Hp} {p : Addr} {o : HO} {motive : Hp → Prop} (np : H p = none) (q : ∀ G, Same H G → G p = some o → motive G) : motive (upd H p o) := q _ (newS np) upd_same
@[elab_as_elim] theorem lstG {H : Hp} {p : Addr} {vs : List V} {motive : Hp → Prop} (np : H p = none) (q : ∀ G, Same H G → G p = some (.lst vs) → motive G) : motive (upd H p (.lst vs)) := q _ (newS np) upd_same
theorem Dd.of1 {N : Addr → Prop} {H : Hp} {x : Str} {v : V} (h : Dd N H (.tup [.str x]) v) : ∃ p, v = .ref p ∧ H p = some (.tup [.str x]) := by
  cases h with
  | tup e t =>
  cases t with
  | cons t1 t =>
  cases t
  cases t1
  exact ⟨_, rfl, e⟩
abbrev BM : Nat := 10 ^ 45
theorem codes_lt {z : Str} {n : Nat} (h : (z.cps.toList.all fun c => decide (c < n)) = true) : ∀ c ∈ z.cps.toList, c < n := fun c hc => of_decide_eq_true (List.all_eq_true.mp h c hc)
theorem fine_worth {d : Dt} {k : Nat} (hd : d.fine BM) (dp : d.dp ≤ 10) (wt : d.wt ≤ 100000) (hk : k ≤ 1000) : Fine BM 20 200000 (.tup [.str "worth", d, .int (k : Int)]) := by
  refine ⟨?_, ?_, ?_⟩
  · simp only [Dt.fine, Dt.fines]
    refine ⟨codes_lt (by decide +kernel), hd, ?_, trivial⟩
    show ((k : Nat) : Int).natAbs < 10 ^ 45
    rw [Int.natAbs_natCast]
    exact Nat.lt_of_le_of_lt hk (by decide)
  · simp only [Dt.dp, Dt.dps]
    omega
  · simp only [Dt.wt, Dt.wts]
    have : (Str.ofString "worth").length = 5 := by decide +kernel
    omega
theorem ixTK {X : Cx} (K : PySem.W.Frag) (h : X.K = K) : IxR X (rIxT K) := by
  subst h
  exact ix_tup
theorem call_len_seqK {X : Cx} (K : PySem.W.Frag) (h : X.K = K) : CallR X (.builtin "len") (fun xs H Q => ∃ p ys, xs = [.ref p] ∧ (SqL K H p ys ∨ SqT K H p ys) ∧ Q (.int ys.length) H) := by
  subst h
  exact call_len_seq
def rowD (r : List Int) : Dt := .tup [.str "list", .tup (r.map Dt.int)]
def rowW (r : List Int) : Wt := .list (r.map Wt.int)
theorem ints_d (r : List Int) : (r.map Wt.int).map Wt.d = r.map Dt.int := by
  rw [List.map_map]
  refine List.map_congr_left fun i _ => ?_
  show (Wt.int i).d = _
  rw [Wt.d]
theorem ints_hv (r : List Int) : (r.map Wt.int).map Wt.hv = r.map Hv.int := by
  rw [List.map_map]
  refine List.map_congr_left fun i _ => ?_
  show (Wt.int i).hv = _
  rw [Wt.hv]
theorem ints_sz (r : List Int) : ((r.map Wt.int).map Wt.sz).sum = r.length := by
  induction r with
  | nil => rfl
  | cons i r ih =>
    rw [List.map_cons, List.map_cons, List.sum_cons, ih, Wt.sz, List.length_cons]
    · omega
    all_goals (intros; first | (rename_i h; cases h) | skip)
theorem rowW_d (r : List Int) : (rowW r).d = rowD r := by
  rw [rowW, Wt.d, ds_eq, ints_d]
  rfl
theorem rowW_hv (r : List Int) : (rowW r).hv = ofList (r.map Hv.int) := by
  rw [rowW, Wt.hv, hvs_eq, ints_hv]
theorem rowW_sz (r : List Int) : (rowW r).sz = 1 + r.length := by
  rw [rowW, Wt.sz, szs_eq, ints_sz]
theorem ints_ok : ∀ (r : List Int), (∀ z ∈ r, z ≤ GR) → Wt.oks (r.map Wt.int)
  | [], _ => by rw [List.map_nil, Wt.oks]; trivial
  | i :: r, h => by
    rw [List.map_cons, Wt.oks, Wt.ok]
    exact ⟨h i List.mem_cons_self, ints_ok r fun z hz => h z (List.mem_cons_of_mem _ hz)⟩
theorem put_eq (e : En) (x : Str) (h : Hv) : (e.put x h) x = some h := by
  show (if x = x then some h else e x) = _
  rw [if_pos rfl]
theorem put_ne {e : En} {x y : Str} {h : Hv} (n : y ≠ x) : (e.put x h) y = e y := by
  show (if y = x then some h else e y) = _
  rw [if_neg n]
theorem ddInts {N : Addr → Prop} {H : Hp} : ∀ {r : List Int} {us : List V}, DdL N H (r.map Dt.int) us → us = r.map V.int
  | [], _, .nil => rfl
  | i :: r, _, .cons (.int _) t => by rw [ddInts t]; rfl
theorem ints_fine : ∀ (r : List Int), (∀ z ∈ r, 0 ≤ z ∧ z < 10 ^ 6) → Dt.fines BM (r.map Dt.int) ∧ Dt.dps (r.map Dt.int) = 0 ∧ Dt.wts (r.map Dt.int) = 54 * r.length
  | [], _ => ⟨by rw [List.map_nil, Dt.fines]; trivial, by rw [List.map_nil, Dt.dps], by rw [List.map_nil, Dt.wts]; rfl⟩
  | i :: r, h => by
    obtain ⟨h1, h2, h3⟩ := ints_fine r fun z hz => h z (List.mem_cons_of_mem _ hz)
    have hi := h i List.mem_cons_self
    refine ⟨?_, ?_, ?_⟩
    · rw [List.map_cons, Dt.fines, Dt.fine]
      refine ⟨?_, h1⟩
      show i.natAbs < 1000000000000000000000000000000000000000000000
      have : i < 1000000 := hi.2
      omega
    · rw [List.map_cons, Dt.dps, h2]
      simp only [Dt.dp]
      rfl
    · rw [List.map_cons, Dt.wts, h3, Dt.wt, List.length_cons]
      omega
theorem pts_int (i : Int) : pts (.int i) = 1 := by simp [pts]
theorem pts_more (a r : Hv) : pts (.more a r) = pts a + pts r := by simp [pts]
theorem pts_ints (xs : List Int) : pts (ofList (xs.map Hv.int)) = 1 + (xs.length : Int) := by
  induction xs with
  | nil => rfl
  | cons x r ih =>
    rw [List.map_cons, ofList, pts_more, ih, pts_int, List.length_cons]
    omega
theorem made_ok {m : Int} {h : Hv} (hm : m ≤ 200) : Oc.ok h = made m h := by
  unfold made
  rw [if_pos hm]
theorem num_ok {i : Int} (hi : i ≤ GR) : Oc.ok (.int i) = num i := by
  unfold num
  rw [if_pos hi]
theorem tupOfK {X : Cx} (K : PySem.W.Frag) (h : X.K = K) : CallR X (.type "tuple") (fun xs H Q => ∃ p ys, xs = [.ref p] ∧ ((SqL K H p ys ∧ ∀ l, H l = none → Q (.ref l) (upd H l (.tup ys))) ∨ (SqT K H p ys ∧ Q (.ref p) H))) := by
  subst h
  exact call_tuple_of

theorem row_pts (xs : List Int) : pts (rowW xs).hv = 1 + (xs.length : Int) := by
  rw [rowW_hv]
  exact pts_ints xs
theorem row_nc (xs : List Int) : (rowW xs).hv.nc := hv_nc _
theorem pts_pair (a b : Hv) : pts (.pair a b) = 1 + pts a + pts b := by simp [pts]
theorem row_fine {r : List Int} (l : r.length ≤ 200) (h : ∀ z ∈ r, 0 ≤ z ∧ z < 10 ^ 6) : (rowD r).fine BM ∧ (rowD r).dp = 2 ∧ (rowD r).wt ≤ 11000 := by
  obtain ⟨g1, g2, g3⟩ := ints_fine r h
  have l4 : (Str.ofString "list").length = 4 := by decide +kernel
  refine ⟨?_, ?_, ?_⟩
  · rw [rowD, Dt.fine, Dt.fines, Dt.fines, Dt.fine, Dt.fine, Dt.fines]
    exact ⟨codes_lt (by decide +kernel), g1, trivial⟩
  · rw [rowD]
    simp only [Dt.dp, Dt.dps, g2]
    rfl
  · rw [rowD]
    simp only [Dt.wt, Dt.wts, g3]
    omega
theorem ddL_ints {N : Addr → Prop} {H : Hp} : ∀ r : List Int, DdL N H (r.map Dt.int) (r.map V.int)
  | [] => .nil
  | i :: r => .cons (.int i) (ddL_ints r)
theorem ddLput {H : Hp} {l : Addr} {xs ys : List V} {ds : List Dt} {us : List V} (d : DdL Non H ds us) (h : H l = some (.lst xs)) : DdL Non (upd H l (.lst ys)) ds us := d.kn ((Rk.rfl.put h).kn)
theorem smallG {i : Int} (h : i ≤ 1000000) : i ≤ GR := by
  show i ≤ 1000000000000000000000000000000
  omega
theorem fault_shw {k : Nat} (h : k ≤ 1000) : Shw 20 (.tup [.str "fault", .int (k : Int)]) := by
  have l5 : (Str.ofString "fault").length = 5 := by decide +kernel
  refine Fine.shw (B := BM) (n := 20) (W := 1000) ⟨?_, ?_, ?_⟩ (Nat.le_refl _) (by decide)
  · simp only [Dt.fine, Dt.fines]
    refine ⟨codes_lt (by decide +kernel), ?_, trivial⟩
    show ((k : Nat) : Int).natAbs < 10 ^ 45
    rw [Int.natAbs_natCast]
    exact Nat.lt_of_le_of_lt h (by decide)
  · simp only [Dt.dp, Dt.dps]
    decide
  · simp only [Dt.wt, Dt.wts]
    omega
/-- a def called where no repr is under way -/
def Okg (P : Program) (w : World) (K : PySem.W.Frag) (mg : Str → Option Value) (base : Heap) (k : Nat) (nm : Str) (ps : List Str) (sp : Sp) : Prop := ∃ f fd, FnG P w K mg base CX0 k f fd ps sp ∧ Binds K fd ps [] ∧ mg nm = some (.ref f) ∧ PySem.W.keepIn K (.ref f) = true
def spYes : Sp := fun vs H Q _ => ∃ (d c : Addr), vs = [.ref d] ∧ Dk H d c ∧ ∀ G, Kp d c H G → Dk G d c → Q (.bl true) G
end Kq

/-! the law's terms, what they come to, and that a run tells the same -/
namespace Kq
open PySem PySem.Spec PyProof.Rows L2 Kf Kv Kk Ku
abbrev kN : Dt := .tup [.str "num"]
abbrev Nx := Fin 3
def NM (x : Nx) : Str := if x = 0 then "x" else if x = 1 then "y" else "xy"
theorem NM_inj : ∀ x y : Nx, NM x = NM y → x = y := by decide +kernel
inductive Lt where
  | num (i : Nat)
  | name (x : Nx)
  | plus (a b : Lt)
  | callN (f : Nx) (a : Lt)
  | callF (x : Nx) (a t : Lt)
  | bind (f x : Nx) (b t : Lt)
  | fold (a : Lt) (k : Nat) (b : Lt) (x y : Nx) (t : Lt)
  | case (s : Bool) (a : Lt) (x : Nx) (b : Lt) (y : Nx) (c : Lt)
  | rounds (m : Nat) (a : Lt) (x : Nx) (t : Lt)
def rowsD (a : Dt) (k : Nat) : Dt := tmTwo "more" a (tmTwo "more" (tmNum (k : Int)) (tmOne "none" kN))
def sideD (s : Bool) (a : Dt) : Dt := if s then tmRight kN a else tmLeft a kN
def Lt.d (ρ : Nx → Str) : Lt → Dt
  | .num i => tmNum (i : Int)
  | .name x => tmName (ρ x)
  | .plus a b => tmTwo "plus" (a.d ρ) (b.d ρ)
  | .callN f a => tmTwo "call" (tmName (ρ f)) (a.d ρ)
  | .callF x a t => tmTwo "call" (tmFun (ρ x) kN (t.d ρ)) (a.d ρ)
  | .bind f x b t => tmTwo "call" (tmFun (ρ f) (.tup [.str "fun", kN, kN]) (t.d ρ)) (tmFun (ρ x) kN (b.d ρ))
  | .fold a k b x y t => tmFold (rowsD (a.d ρ) k) (b.d ρ) (ρ x) (ρ y) (t.d ρ)
  | .case s a x b y c => tmCase (sideD s (a.d ρ)) (ρ x) (b.d ρ) (ρ y) (c.d ρ)
  | .rounds m a x t => tmRounds m (a.d ρ) (ρ x) (tmRight kN (t.d ρ))
/-- names as they are bound -/
inductive Le where
  | nil
  | int (e : Le) (x : Nx) (i : Nat)
  | clo (e : Le) (x y : Nx) (t : Lt) (c : Le)
def Le.num : Le → Nx → Option Nat
  | .nil, _ => none
  | .int e x i, z => if z = x then some i else e.num z
  | .clo e x _ _ _, z => if z = x then none else e.num z
def Le.fn : Le → Nx → Option (Nx × Lt × Le)
  | .nil, _ => none
  | .int e x _, z => if z = x then none else e.fn z
  | .clo e x y t c, z => if z = x then some (y, t, c) else e.fn z
/-- in names, a term comes to so much, by so many steps, its sums at most g -/
inductive We : Nat → Le → Lt → Nat → Nat → Nat → Prop
  | num {n : Nat} {e : Le} {i : Nat} : i ≤ 1000 → We (n + 1) e (.num i) i 0 0
  | name {n : Nat} {e : Le} {x : Nx} {i : Nat} : e.num x = some i → We (n + 1) e (.name x) i 0 0
  | plus {n : Nat} {e : Le} {a b : Lt} {i j s s' g g' : Nat} : We n e a i s g → We n e b j s' g' → We (n + 1) e (.plus a b) (i + j) (s + s') (max (max g g') (i + j))
  | callN {n : Nat} {e c : Le} {f y : Nx} {a t : Lt} {i j s s' g g' : Nat} : e.fn f = some (y, t, c) → We n e a i s g → We n (c.int y i) t j s' g' → We (n + 1) e (.callN f a) j (s + 1 + s') (max g g')
  | callF {n : Nat} {e : Le} {x : Nx} {a t : Lt} {i j s s' g g' : Nat} : We n e a i s g → We n (e.int x i) t j s' g' → We (n + 1) e (.callF x a t) j (s + 1 + s') (max g g')
  | bind {n : Nat} {e : Le} {f x : Nx} {b t : Lt} {j s g : Nat} : We n (e.clo f x b e) t j s g → We (n + 1) e (.bind f x b t) j (1 + s) g
  | fold {n : Nat} {e : Le} {a b t : Lt} {k : Nat} {x y : Nx} {i j j1 j2 s1 s2 s3 s4 g1 g2 g3 g4 : Nat} : 2 ≤ n → k ≤ 1000 → We n e a i s1 g1 → We n e b j s2 g2 → We n ((e.int x k).int y j) t j1 s3 g3 → We n ((e.int x i).int y j1) t j2 s4 g4 → We (n + 2) e (.fold a k b x y t) j2 (s1 + s2 + 3 + (1 + s3) + (1 + s4)) (max (max g1 g2) (max g3 g4))
  | case {n : Nat} {e : Le} {q : Bool} {a b c : Lt} {x y : Nx} {i j s s' g g' : Nat} : We n e a i s g → We n (e.int (if q then y else x) i) (if q then c else b) j s' g' → We (n + 2) e (.case q a x b y c) j (s + s') (max g g')
  | rounds {n : Nat} {e : Le} {m : Nat} {a t : Lt} {x : Nx} {i j s s' g g' : Nat} : 1 ≤ m → m ≤ 30 → We n e a i s g → We n (e.int x i) t j s' g' → We (n + 2) e (.rounds m a x t) j (s + 1 + s') (max g g')
theorem We.pos {n : Nat} {e : Le} {t : Lt} {i s g : Nat} (h : We n e t i s g) : 1 ≤ n := by cases h <;> omega
theorem We.up {n : Nat} {e : Le} {t : Lt} {i s g : Nat} (h : We n e t i s g) : ∀ {m : Nat}, n ≤ m → We m e t i s g := by
  induction h with
  | num h => intro m hm; obtain ⟨m, rfl⟩ : ∃ j, m = j + 1 := ⟨m - 1, by omega⟩; exact .num h
  | name h => intro m hm; obtain ⟨m, rfl⟩ : ∃ j, m = j + 1 := ⟨m - 1, by omega⟩; exact .name h
  | plus _ _ h1 h2 => intro m hm; obtain ⟨m, rfl⟩ : ∃ j, m = j + 1 := ⟨m - 1, by omega⟩; exact .plus (h1 (by omega)) (h2 (by omega))
  | callN h _ _ h1 h2 => intro m hm; obtain ⟨m, rfl⟩ : ∃ j, m = j + 1 := ⟨m - 1, by omega⟩; exact .callN h (h1 (by omega)) (h2 (by omega))
  | callF _ _ h1 h2 => intro m hm; obtain ⟨m, rfl⟩ : ∃ j, m = j + 1 := ⟨m - 1, by omega⟩; exact .callF (h1 (by omega)) (h2 (by omega))
  | bind _ h1 => intro m hm; obtain ⟨m, rfl⟩ : ∃ j, m = j + 1 := ⟨m - 1, by omega⟩; exact .bind (h1 (by omega))
  | fold h2n h _ _ _ _ h1 h2 h3 h4 => intro m hm; obtain ⟨m, rfl⟩ : ∃ j, m = j + 2 := ⟨m - 2, by omega⟩; exact .fold (by omega) h (h1 (by omega)) (h2 (by omega)) (h3 (by omega)) (h4 (by omega))
  | case _ _ h1 h2 => intro m hm; obtain ⟨m, rfl⟩ : ∃ j, m = j + 2 := ⟨m - 2, by omega⟩; exact .case (h1 (by omega)) (h2 (by omega))
  | rounds h h' _ _ h1 h2 => intro m hm; obtain ⟨m, rfl⟩ : ∃ j, m = j + 2 := ⟨m - 2, by omega⟩; exact .rounds h h' (h1 (by omega)) (h2 (by omega))
def Le.en (ρ : Nx → Str) : Le → En
  | .nil => En.none
  | .int e x i => (e.en ρ).put (ρ x) (.int (i : Int))
  | .clo e x y t c => (e.en ρ).put (ρ x) (.clo (ρ y) (t.d ρ) (c.en ρ))
section
variable {ρ : Nx → Str}
theorem num_en (hρ : ∀ x y, ρ x = ρ y → x = y) : ∀ {e : Le} {x : Nx} {i : Nat}, e.num x = some i → (e.en ρ) (ρ x) = some (.int (i : Int))
  | .nil, _, _, h => by cases h
  | .int e z j, x, i, h => by
    rw [Le.num] at h
    split at h
    · rename_i hz
      subst hz
      cases h
      exact put_eq _ _ _
    · rename_i hz
      rw [Le.en, put_ne (fun e => hz (hρ _ _ e))]
      exact num_en hρ h
  | .clo e z y t c, x, i, h => by
    rw [Le.num] at h
    split at h
    · cases h
    · rename_i hz
      rw [Le.en, put_ne (fun e => hz (hρ _ _ e))]
      exact num_en hρ h
theorem fn_en (hρ : ∀ x y, ρ x = ρ y → x = y) : ∀ {e : Le} {x y : Nx} {t : Lt} {c : Le}, e.fn x = some (y, t, c) → (e.en ρ) (ρ x) = some (.clo (ρ y) (t.d ρ) (c.en ρ))
  | .nil, _, _, _, _, h => by cases h
  | .int e z j, x, _, _, _, h => by
    rw [Le.fn] at h
    split at h
    · cases h
    · rename_i hz
      rw [Le.en, put_ne (fun e => hz (hρ _ _ e))]
      exact fn_en hρ h
  | .clo e z y t c, x, _, _, _, h => by
    rw [Le.fn] at h
    split at h
    · rename_i hz
      subst hz
      cases h
      exact put_eq _ _ _
    · rename_i hz
      rw [Le.en, put_ne (fun e => hz (hρ _ _ e))]
      exact fn_en hρ h
def NSr (ρ : Nx → Str) : List Str := [ρ 0, ρ 1, ρ 2]
theorem memR (x : Nx) : ρ x ∈ NSr ρ := by
  match x with
  | 0 => exact List.mem_cons_self
  | 1 => exact List.mem_cons_of_mem _ List.mem_cons_self
  | 2 => exact List.mem_cons_of_mem _ (List.mem_cons_of_mem _ List.mem_cons_self)
theorem natGR {i : Nat} (h : i ≤ 10 ^ 30) : (i : Int) ≤ GR := by
  show (i : Int) ≤ 1000000000000000000000000000000
  have : i ≤ 1000000000000000000000000000000 := h
  omega
theorem We.ev (hρ : ∀ x y, ρ x = ρ y → x = y) {n : Nat} {e : Le} {t : Lt} {i s g : Nat} (h : We n e t i s g) : ∀ (k N : Nat), n ≤ N → g ≤ 10 ^ 30 → k + s ≤ 1000 → Ev (NSr ρ) N (e.en ρ) (t.d ρ) k (.ok (.int (i : Int))) (k + s) := by
  induction h with
  | num h =>
    intro k N hN hg hk
    obtain ⟨N, rfl⟩ : ∃ j, N = j + 1 := ⟨N - 1, by omega⟩
    exact .num (num_ok (smallG (by omega)))
  | name h =>
    intro k N hN hg hk
    obtain ⟨N, rfl⟩ : ∃ j, N = j + 1 := ⟨N - 1, by omega⟩
    exact .name (num_en hρ h)
  | @plus n e a b i j s s' g g' _ _ h1 h2 =>
    intro k N hN hg hk
    obtain ⟨N, rfl⟩ : ∃ j, N = j + 1 := ⟨N - 1, by omega⟩
    have z := h2 (k + s) N (by omega) (by omega) (by omega)
    rw [Nat.add_assoc] at z
    exact .plus (h1 k N (by omega) (by omega) (by omega)) z (num_ok (natGR (by omega)))
  | @callN n e c f y a t i j s s' g g' hf w1 _ h1 h2 =>
    intro k N hN hg hk
    have := w1.pos
    obtain ⟨N, rfl⟩ : ∃ j, N = j + 2 := ⟨N - 2, by omega⟩
    have z := h2 (k + s + 1) (N + 1) (by omega) (by omega) (by omega)
    rw [show k + s + 1 + s' = k + (s + 1 + s') by omega] at z
    exact .call (.name (fn_en hρ hf)) (h1 k (N + 1) (by omega) (by omega) (by omega)) (.clo (memR _) (by omega) z)
  | @callF n e x a t i j s s' g g' w1 _ h1 h2 =>
    intro k N hN hg hk
    have := w1.pos
    obtain ⟨N, rfl⟩ : ∃ j, N = j + 2 := ⟨N - 2, by omega⟩
    have z := h2 (k + s + 1) (N + 1) (by omega) (by omega) (by omega)
    rw [show k + s + 1 + s' = k + (s + 1 + s') by omega] at z
    exact .call (.fn (memR _)) (h1 k (N + 1) (by omega) (by omega) (by omega)) (.clo (memR _) (by omega) z)
  | @bind n e f x b t j s g w1 h1 =>
    intro k N hN hg hk
    have := w1.pos
    obtain ⟨N, rfl⟩ : ∃ j, N = j + 2 := ⟨N - 2, by omega⟩
    have z := h1 (k + 1) (N + 1) (by omega) (by omega) (by omega)
    rw [Nat.add_assoc] at z
    exact .call (.fn (memR _)) (.fn (memR _)) (.clo (memR _) (by omega) z)
  | @fold n e a b t kk x y i j j1 j2 s1 s2 s3 s4 g1 g2 g3 g4 h2n hk0 w1 _ _ _ h1 h2 h3 h4 =>
    intro k N hN hg hk
    have := w1.pos
    obtain ⟨N, rfl⟩ : ∃ j, N = j + 4 := ⟨N - 4, by omega⟩
    have z1 := h1 k (N + 2) (by omega) (by omega) (by omega)
    have z2 := h2 (k + s1 + 2) (N + 3) (by omega) (by omega) (by omega)
    have z3 := h3 (k + s1 + 2 + s2 + 1 + 1) (N + 3) (by omega) (by omega) (by omega)
    have z4 := h4 (k + s1 + 2 + s2 + 1 + 1 + s3 + 1) (N + 3) (by omega) (by omega) (by omega)
    rw [show k + s1 + 2 + s2 + 1 + 1 + s3 + 1 + s4 = k + (s1 + s2 + 3 + (1 + s3) + (1 + s4)) by omega] at z4
    have zi : Ev (NSr ρ) (N + 2) (e.en ρ) (tmTwo "more" (tmNum (kk : Int)) (tmOne "none" kN)) (k + s1) (.ok (ofList [Hv.int (kk : Int)])) (k + s1 + 1) := .more (xs := []) (.num (num_ok (smallG (by omega)))) .none trivial (by omega) (made_ok (by rw [ofList, pts_int]; decide))
    have zr : Ev (NSr ρ) (N + 3) (e.en ρ) (rowsD (a.d ρ) kk) k (.ok (ofList [Hv.int (i : Int), Hv.int (kk : Int)])) (k + s1 + 2) := .more (xs := [Hv.int (kk : Int)]) z1 zi trivial (by omega) (made_ok (by rw [show [Hv.int (kk : Int)] = [(kk : Int)].map Hv.int from rfl, pts_ints, pts_int]; show (1 : Int) + (1 + 1) ≤ 200; decide))
    exact .fold (memR _) (memR _) zr (by show 2 ≤ 1000; decide) z2 (by omega) (.cons (by omega) z3 (.cons (by omega) z4 .nil))
  | @case n e q a b c x y i j s s' g g' w1 _ h1 h2 =>
    intro k N hN hg hk
    have := w1.pos
    obtain ⟨N, rfl⟩ : ∃ j, N = j + 2 := ⟨N - 2, by omega⟩
    have z1 := h1 k N (by omega) (by omega) (by omega)
    have z2 := h2 (k + s) (N + 1) (by omega) (by omega) (by omega)
    rw [Nat.add_assoc] at z2
    refine .case (s := q) (memR _) (memR _) (k1 := k + s) (h := .int (i : Int)) ?_ ?_
    · cases q with
      | false => exact .left z1 trivial (made_ok (by rw [pts_int]; decide))
      | true => exact .right z1 trivial (made_ok (by rw [pts_int]; decide))
    · cases q with
      | false => exact z2
      | true => exact z2
  | @rounds n e m a t x i j s s' g g' hm0 hm w1 _ h1 h2 =>
    intro k N hN hg hk
    have := w1.pos
    obtain ⟨m, rfl⟩ : ∃ j, m = j + 1 := ⟨m - 1, by omega⟩
    obtain ⟨N, rfl⟩ : ∃ j, N = j + 2 := ⟨N - 2, by omega⟩
    have z1 := h1 k (N + 1) (by omega) (by omega) (by omega)
    have z2 := h2 (k + s + 1) N (by omega) (by omega) (by omega)
    rw [show k + s + 1 + s' = k + (s + 1 + s') by omega] at z2
    exact .rounds (memR _) hm z1 (.right (by omega) (.right z2 trivial (made_ok (by rw [pts_int]; decide))))
end
end Kq

/-! terms as they are drawn, and the bounds of what they come to -/
namespace Kq
open PySem PySem.Spec PyProof.Rows L2 Kf Kv Kk Ku
/-- the known names and whether they are functions -/
inductive Sc where
  | nil
  | add (k : Sc) (x : Nx) (f : Bool)
def Sc.lk : Sc → Nx → Option Bool
  | .nil, _ => none
  | .add k x f, z => if z = x then some f else k.lk z
inductive Dr : Nat → Sc → Lt → Prop
  | num {d : Nat} {ks : Sc} {i : Nat} : i ≤ 1000 → Dr d ks (.num i)
  | name {d : Nat} {ks : Sc} {x : Nx} : ks.lk x = some false → Dr d ks (.name x)
  | plus {d : Nat} {ks : Sc} {a b : Lt} : Dr d ks a → Dr d ks b → Dr (d + 1) ks (.plus a b)
  | callN {d : Nat} {ks : Sc} {f : Nx} {a : Lt} : ks.lk f = some true → Dr d ks a → Dr (d + 1) ks (.callN f a)
  | callF {d : Nat} {ks : Sc} {x : Nx} {a t : Lt} : Dr d ks a → Dr d (ks.add x false) t → Dr (d + 1) ks (.callF x a t)
  | bind {d : Nat} {ks : Sc} {f x : Nx} {b t : Lt} : Dr d (ks.add x false) b → Dr d (ks.add f true) t → Dr (d + 1) ks (.bind f x b t)
  | fold {d : Nat} {ks : Sc} {a b t : Lt} {k : Nat} {x y : Nx} : k ≤ 1000 → Dr d ks a → Dr d ks b → Dr d ((ks.add x false).add y false) t → Dr (d + 1) ks (.fold a k b x y t)
  | case {d : Nat} {ks : Sc} {s : Bool} {a b c : Lt} {x y : Nx} : Dr d ks a → Dr d (ks.add x false) b → Dr d (ks.add y false) c → Dr (d + 1) ks (.case s a x b y c)
  | rounds {d : Nat} {ks : Sc} {m : Nat} {a t : Lt} {x : Nx} : 1 ≤ m → m ≤ 30 → Dr d ks a → Dr d (ks.add x false) t → Dr (d + 1) ks (.rounds m a x t)
def Cl (E K F m : Nat) (y : Nx) (t : Lt) (c : Le) : Prop := ∀ M i, m ≤ M → i ≤ M → ∃ j s g, We E (c.int y i) t j s g ∧ j ≤ K * M ∧ s ≤ F
structure Fit (ks : Sc) (e : Le) (E K F m : Nat) : Prop where
  n : ∀ x, ks.lk x = some false → ∃ i, e.num x = some i ∧ i ≤ m
  f : ∀ x, ks.lk x = some true → ∃ y t c, e.fn x = some (y, t, c) ∧ Cl E K F m y t c
theorem Cl.up {E K F m E' K' F' m' : Nat} {y : Nx} {t : Lt} {c : Le} (h : Cl E K F m y t c) (hE : E ≤ E') (hK : K ≤ K') (hF : F ≤ F') (hm : m ≤ m') : Cl E' K' F' m' y t c := fun M i hM hi => by
  obtain ⟨j, s, g, w, hj, hs⟩ := h M i (by omega) hi
  exact ⟨j, s, g, w.up hE, Nat.le_trans hj (Nat.mul_le_mul_right _ hK), by omega⟩
theorem Fit.up {ks : Sc} {e : Le} {E K F m E' K' F' m' : Nat} (h : Fit ks e E K F m) (hE : E ≤ E') (hK : K ≤ K') (hF : F ≤ F') (hm : m ≤ m') : Fit ks e E' K' F' m' := by
  refine ⟨fun x hx => ?_, fun x hx => ?_⟩
  · obtain ⟨i, e1, e2⟩ := h.n x hx
    exact ⟨i, e1, by omega⟩
  · obtain ⟨y, t, c, e1, e2⟩ := h.f x hx
    exact ⟨y, t, c, e1, e2.up hE hK hF hm⟩
theorem Fit.int {ks : Sc} {e : Le} {E K F m m' i : Nat} (h : Fit ks e E K F m) (x : Nx) (hm : m ≤ m') (hi : i ≤ m') : Fit (ks.add x false) (e.int x i) E K F m' := by
  refine ⟨fun z hz => ?_, fun z hz => ?_⟩
  · rw [Sc.lk] at hz
    rw [Le.num]
    split at hz
    · rename_i hh
      rw [if_pos hh]
      exact ⟨i, rfl, hi⟩
    · rename_i hh
      rw [if_neg hh]
      exact (h.up (Nat.le_refl _) (Nat.le_refl _) (Nat.le_refl _) hm).n z hz
  · rw [Sc.lk] at hz
    rw [Le.fn]
    split at hz
    · cases hz
    · rename_i hh
      rw [if_neg hh]
      exact (h.up (Nat.le_refl _) (Nat.le_refl _) (Nat.le_refl _) hm).f z hz
theorem Fit.clo {ks : Sc} {e : Le} {E K F m : Nat} (h : Fit ks e E K F m) (x y : Nx) {t : Lt} {c : Le} (hc : Cl E K F m y t c) : Fit (ks.add x true) (e.clo x y t c) E K F m := by
  refine ⟨fun z hz => ?_, fun z hz => ?_⟩
  · rw [Sc.lk] at hz
    rw [Le.num]
    split at hz
    · cases hz
    · rename_i hh
      rw [if_neg hh]
      exact h.n z hz
  · rw [Sc.lk] at hz
    rw [Le.fn]
    split at hz
    · rename_i hh
      rw [if_pos hh]
      exact ⟨y, t, c, rfl, hc⟩
    · rename_i hh
      rw [if_neg hh]
      exact h.f z hz
def Z : Nat → Nat
  | 0 => 0
  | d + 1 => max (Z d + 2) (2 * Z d + 1)
def A : Nat → Nat
  | 0 => 0
  | d + 1 => max (A d + 1) (max (3 * A d) (A d * A d))
def S : Nat → Nat → Nat
  | 0, F => F
  | d + 1, F => 5 + 4 * S d (S d F)
theorem S_ge : ∀ d F, F ≤ S d F
  | 0, F => Nat.le_refl _
  | d + 1, F => by
    have h1 := S_ge d F
    have h2 := S_ge d (S d F)
    rw [S]
    omega
theorem S_mono : ∀ d {F G : Nat}, F ≤ G → S d F ≤ S d G
  | 0, F, G, h => h
  | d + 1, F, G, h => by
    have := S_mono d (S_mono d h)
    rw [S, S]
    omega
theorem pw {K a b : Nat} (hK : 2 ≤ K) (h : a ≤ b) : K ^ a ≤ K ^ b := Nat.pow_le_pow_right (by omega) h
theorem pwm {K a b m : Nat} (hK : 2 ≤ K) (h : a ≤ b) : K ^ a * m ≤ K ^ b * m := Nat.mul_le_mul_right _ (pw hK h)
theorem ge1 {K a m : Nat} (hK : 2 ≤ K) : m ≤ K ^ a * m := Nat.le_mul_of_pos_left _ (Nat.pow_pos (by omega))
theorem A1 (d : Nat) : A d + 1 ≤ A (d + 1) := Nat.le_max_left _ _
theorem A3 (d : Nat) : 3 * A d ≤ A (d + 1) := Nat.le_trans (Nat.le_max_left _ _) (Nat.le_max_right _ _)
theorem A2 (d : Nat) : A d * A d ≤ A (d + 1) := Nat.le_trans (Nat.le_max_right _ _) (Nat.le_max_right _ _)
theorem Dr.we {d : Nat} {ks : Sc} {t : Lt} (h : Dr d ks t) : ∀ (e : Le) (E K F m : Nat), 2 ≤ E → 2 ≤ K → 1000 ≤ m → Fit ks e E K F m → ∃ j s g, We (Z d + E) e t j s g ∧ j ≤ K ^ A d * m ∧ s ≤ S d F := by
  induction h with
  | @num d ks i hi =>
    intro e E K F m hE hK hm fit
    obtain ⟨E, rfl⟩ : ∃ j, E = j + 1 := ⟨E - 1, by omega⟩
    exact ⟨i, 0, 0, .num hi, Nat.le_trans (by omega) (ge1 hK), Nat.zero_le _⟩
  | @name d ks x hx =>
    intro e E K F m hE hK hm fit
    obtain ⟨E, rfl⟩ : ∃ j, E = j + 1 := ⟨E - 1, by omega⟩
    obtain ⟨i, h1, h2⟩ := fit.n x hx
    exact ⟨i, 0, 0, .name h1, Nat.le_trans h2 (ge1 hK), Nat.zero_le _⟩
  | @plus d ks a b _ _ ih1 ih2 =>
    intro e E K F m hE hK hm fit
    obtain ⟨i, s, g, w1, b1, c1⟩ := ih1 e E K F m hE hK hm fit
    obtain ⟨j, s', g', w2, b2, c2⟩ := ih2 e E K F m hE hK hm fit
    refine ⟨_, _, _, (We.plus w1 w2).up (by rw [Z]; omega), ?_, ?_⟩
    · refine Nat.le_trans ?_ (pwm hK (A1 d))
      rw [Nat.pow_succ, Nat.mul_comm (K ^ A d) K, Nat.mul_assoc]
      have : 2 * (K ^ A d * m) ≤ K * (K ^ A d * m) := Nat.mul_le_mul_right _ hK
      omega
    · have := S_mono d (S_ge d F)
      rw [S]
      omega
  | @callN d ks f a hf _ ih1 =>
    intro e E K F m hE hK hm fit
    obtain ⟨i, s, g, w1, b1, c1⟩ := ih1 e E K F m hE hK hm fit
    obtain ⟨y, t, c, e1, cl⟩ := fit.f f hf
    obtain ⟨j, s', g', w2, b2, c2⟩ := cl (K ^ A d * m) i (ge1 hK) b1
    refine ⟨_, _, _, (We.callN e1 w1 (w2.up (show E ≤ Z d + E by omega))).up (by rw [Z]; omega), ?_, ?_⟩
    · refine Nat.le_trans b2 (Nat.le_trans ?_ (pwm hK (A1 d)))
      rw [Nat.pow_succ, Nat.mul_comm (K ^ A d) K, Nat.mul_assoc]
      exact Nat.le_refl _
    · have := S_mono d (S_ge d F)
      have := S_ge d F
      rw [S]
      omega
  | @callF d ks x a t _ _ ih1 ih2 =>
    intro e E K F m hE hK hm fit
    obtain ⟨i, s, g, w1, b1, c1⟩ := ih1 e E K F m hE hK hm fit
    obtain ⟨j, s', g', w2, b2, c2⟩ := ih2 (e.int x i) E K F (K ^ A d * m) hE hK (Nat.le_trans hm (ge1 hK)) (fit.int x (ge1 hK) b1)
    refine ⟨_, _, _, (We.callF w1 w2).up (by rw [Z]; omega), ?_, ?_⟩
    · refine Nat.le_trans b2 (Nat.le_trans ?_ (pwm hK (A3 d)))
      rw [← Nat.mul_assoc, ← Nat.pow_add]
      exact pwm hK (by omega)
    · have := S_mono d (S_ge d F)
      have := S_ge d F
      rw [S]
      omega
  | @bind d ks f x b t _ _ ih1 ih2 =>
    intro e E K F m hE hK hm fit
    have cl : Cl (Z d + E) (K ^ A d) (S d F) m x b e := fun M i hM hi => by
      obtain ⟨j, s, g, w1, b1, c1⟩ := ih1 (e.int x i) E K F M hE hK (by omega) (fit.int x hM hi)
      exact ⟨j, s, g, w1, b1, c1⟩
    have hK1 : K ≤ K ^ max 1 (A d) := Nat.le_trans (by rw [Nat.pow_one]; exact Nat.le_refl _) (pw hK (Nat.le_max_left 1 (A d)))
    have fit2 := (fit.up (show E ≤ Z d + E by omega) hK1 (S_ge d F) (Nat.le_refl m)).clo f x (cl.up (Nat.le_refl _) (pw hK (Nat.le_max_right 1 (A d))) (Nat.le_refl _) (Nat.le_refl _))
    obtain ⟨j, s, g, w2, b2, c2⟩ := ih2 (e.clo f x b e) (Z d + E) (K ^ max 1 (A d)) (S d F) m (by omega) (Nat.le_trans hK hK1) hm fit2
    refine ⟨_, _, _, (We.bind w2).up (by rw [Z]; omega), ?_, ?_⟩
    · refine Nat.le_trans b2 ?_
      rw [← Nat.pow_mul]
      refine pwm hK ?_
      by_cases h0 : A d = 0
      · rw [h0]
        simp
      · rw [Nat.max_eq_right (by omega)]
        exact A2 d
    · rw [S]
      omega
  | @fold d ks a b t k x y hk _ _ _ ih1 ih2 ih3 =>
    intro e E K F m hE hK hm fit
    obtain ⟨i, s1, g1, w1, b1, c1⟩ := ih1 e E K F m hE hK hm fit
    obtain ⟨j, s2, g2, w2, b2, c2⟩ := ih2 e E K F m hE hK hm fit
    have m1 : m ≤ K ^ A d * m := ge1 hK
    have m2 : K ^ A d * m ≤ K ^ A d * (K ^ A d * m) := ge1 hK
    obtain ⟨j1, s3, g3, w3, b3, c3⟩ := ih3 ((e.int x k).int y j) E K F (K ^ A d * m) hE hK (by omega) ((fit.int x m1 (by omega)).int y (Nat.le_refl _) b2)
    obtain ⟨j2, s4, g4, w4, b4, c4⟩ := ih3 ((e.int x i).int y j1) E K F (K ^ A d * (K ^ A d * m)) hE hK (by omega) ((fit.int x m1 b1).int y m2 b3)
    refine ⟨_, _, _, (We.fold (by omega) hk w1 w2 w3 w4).up (by rw [Z]; omega), ?_, ?_⟩
    · refine Nat.le_trans b4 (Nat.le_trans ?_ (pwm hK (A3 d)))
      rw [← Nat.mul_assoc, ← Nat.mul_assoc, ← Nat.pow_add, ← Nat.pow_add]
      exact pwm hK (by omega)
    · have := S_mono d (S_ge d F)
      rw [S]
      omega
  | @case d ks q a b c x y _ _ _ ih1 ih2 ih3 =>
    intro e E K F m hE hK hm fit
    obtain ⟨i, s, g, w1, b1, c1⟩ := ih1 e E K F m hE hK hm fit
    have hb : ∃ j s' g', We (Z d + E) (e.int (if q then y else x) i) (if q then c else b) j s' g' ∧ j ≤ K ^ A d * (K ^ A d * m) ∧ s' ≤ S d F := by
      cases q with
      | false => exact ih2 (e.int x i) E K F (K ^ A d * m) hE hK (Nat.le_trans hm (ge1 hK)) (fit.int x (ge1 hK) b1)
      | true => exact ih3 (e.int y i) E K F (K ^ A d * m) hE hK (Nat.le_trans hm (ge1 hK)) (fit.int y (ge1 hK) b1)
    obtain ⟨j, s', g', w2, b2, c2⟩ := hb
    refine ⟨_, _, _, (We.case w1 w2).up (by rw [Z]; omega), ?_, ?_⟩
    · refine Nat.le_trans b2 (Nat.le_trans ?_ (pwm hK (A3 d)))
      rw [← Nat.mul_assoc, ← Nat.pow_add]
      exact pwm hK (by omega)
    · have := S_mono d (S_ge d F)
      have := S_ge d F
      rw [S]
      omega
  | @rounds d ks mm a t x h1m h30 _ _ ih1 ih2 =>
    intro e E K F m hE hK hm fit
    obtain ⟨i, s, g, w1, b1, c1⟩ := ih1 e E K F m hE hK hm fit
    obtain ⟨j, s', g', w2, b2, c2⟩ := ih2 (e.int x i) E K F (K ^ A d * m) hE hK (Nat.le_trans hm (ge1 hK)) (fit.int x (ge1 hK) b1)
    refine ⟨_, _, _, (We.rounds h1m h30 w1 w2).up (by rw [Z]; omega), ?_, ?_⟩
    · refine Nat.le_trans b2 (Nat.le_trans ?_ (pwm hK (A3 d)))
      rw [← Nat.mul_assoc, ← Nat.pow_add]
      exact pwm hK (by omega)
    · have := S_mono d (S_ge d F)
      have := S_ge d F
      rw [S]
      omega
/-- a drawn term of no known names -/
theorem Dr.all {d : Nat} {t : Lt} (h : Dr d .nil t) (hd : d ≤ 5) : ∃ j s g, We 49 .nil t j s g ∧ j < 10 ^ 2000 ∧ s < 10 ^ 20 := by
  obtain ⟨j, s, g, w, b, c⟩ := h.we .nil 2 2 0 1000 (by decide) (by decide) (by decide) ⟨fun x h => (by cases h), fun x h => (by cases h)⟩
  have hz : Z d + 2 ≤ 49 ∧ 2 ^ A d * 1000 < 10 ^ 2000 ∧ S d 0 < 10 ^ 20 := by
    have : ∀ d, d < 6 → Z d + 2 ≤ 49 ∧ 2 ^ A d * 1000 < 10 ^ 2000 ∧ S d 0 < 10 ^ 20 := by decide +kernel
    exact this d (by omega)
  exact ⟨j, s, g, w.up hz.1, Nat.lt_of_le_of_lt b hz.2.1, Nat.lt_of_le_of_lt c hz.2.2⟩
end Kq

/-! dict(..) of a tuple of pairs, a tuple of two turned about -/
namespace Kt
open PySem PySem.Spec PyProof.Rows L2
section
variable {X : Cx}
/-- tuple(l): the object is known -/
theorem call_tupleF : CallR X (.type "tuple") (fun xs H Q => ∃ p ys, xs = [.ref p] ∧ SqL X.K H p ys ∧ ∀ l (o : Obj), H l = none → o.dict = none → o.cls = .type "tuple" → Q (.ref l) (upd H l (.frz o (.tup ys)))) := by
  intro pins s σ H xs us Q I r h
  obtain ⟨p, ys, rfl, hq, q⟩ := h
  obtain ⟨u, rfl, rx⟩ := vals1 r
  cases rx
  obtain ⟨its, r', pl, hz⟩ := I.list hq
  have hlen := r'.length
  refine call_tuple_list pl.isList (fun h' kp => ?_) (by simp only [List.size_toArray] <;> omega)
  have I1 : Inv X pins σ H { s with heap := h' } := I.kept (t' := s.toks) kp
  have I2 : Inv X pins σ (upd H h'.objs.size (.frz { cls := .type "tuple", data := .seq its.toArray } (.tup ys))) { s with heap := h'.push { cls := .type "tuple", data := .seq its.toArray } } :=
    I1.laid (t' := s.toks) (fun b o e => Heap.get?_push_of_some _ e) (Nat.le_refl _) (show ObjOk X.prog X.w _ _ _ (.frz _ (.tup ys)) from ⟨Heap.get?_push_size _ rfl, hz, its, r', IsTup.new _ _⟩)
  exact ⟨.ref h'.objs.size, _, I2, rfl, q _ _ (I1.hok.fresh (Nat.le_refl _)) rfl rfl⟩
/-- () -/
def tTup0 : TE := fun _ H Q => ∀ p (o : Obj), H p = none → o.dict = none → o.cls = .type "tuple" → Q (.ref p) (upd H p (.frz o (.tup [])))
theorem pe_tup0 {x1 : Nat} {pos : Pos} : PE X (.Tuple [] x1 pos) tTup0 := by
  refine ⟨fun pins s σ H Q I h => ?_⟩
  refine wpAny_Tuple_spliced (thn ((pa_nil (X := X)).run pos pins s σ H (fun xs H1 => xs = [] ∧ H1 = H) I ⟨rfl, rfl⟩) fun us s1 ⟨xs, H1, I1, r, e1, e2⟩ => ?_)
  subst e1 e2
  cases r
  refine ⟨Nat.zero_le _, ?_⟩
  refine ⟨.ref s1.heap.objs.size, _, I1.laid (t' := s1.toks) (o := .frz { cls := .type "tuple", data := .seq ([] : List Value).toArray } (.tup [])) (fun b u e => Heap.get?_push_of_some _ e) (Nat.le_refl _) ?_, rfl, h _ _ (I1.hok.fresh (Nat.le_refl _)) rfl rfl⟩
  exact ⟨Heap.get?_push_size _ rfl, Nat.zero_le _, [], .nil, IsTup.new _ _⟩
theorem raws_of {pins : List (Addr × Obj)} {σ : L2.St} {H : Hp} {s : Shared} (I : Inv X pins σ H s) : ∀ {ps : List Addr} {kvs : List (Key × V)}, Paired (fun p kv => SqT X.K H p [kV kv.1, kv.2]) ps kvs →
    ∃ (prs : List (Key × Value)) (raws : List (Value × Value)), KV kvs prs ∧ prs.length = ps.length ∧ raws.length = ps.length ∧ ∀ (j : Nat) (u v : Value), raws[j]? = some (u, v) → ∃ (b : Addr) (k : Key), ps[j]? = some b ∧ IsTup s.heap b #[u, v] ∧ prs[j]? = some (k, v) ∧ keyIs k u = true
  | _, _, .nil => ⟨[], [], .nil, rfl, rfl, fun j u v e => by simp at e⟩
  | _, _, .cons (a := p) (b := kv) h t => by
    obtain ⟨prs, raws, r, hl, hl2, hp⟩ := raws_of I t
    obtain ⟨its, rv, ht, _⟩ := I.tuple h
    obtain ⟨u, y, ei, ru, ry⟩ := vals2 rv
    subst ei
    refine ⟨(kv.1, y) :: prs, (u, y) :: raws, .cons ⟨rfl, ry⟩ r, by rw [List.length_cons, List.length_cons, hl], by rw [List.length_cons, List.length_cons, hl2], fun j u' v' e => ?_⟩
    cases j with
    | zero =>
      have e' : (u, y) = (u', v') := Option.some.inj e
      cases e'
      exact ⟨p, kv.1, rfl, ht, rfl, kV_is (P := X.prog) (w := X.w) ru⟩
    | succ j =>
      obtain ⟨b, k, e1, e2, e3, e4⟩ := hp j u' v' (by simpa using e)
      exact ⟨b, k, by simpa using e1, e2, by simpa using e3, e4⟩
/-- dict(t) of a tuple of pairs -/
theorem call_dictF (hcalm : X.calm = true) : CallR X (.type "dict") (fun xs H Q => ∃ (a : Addr) (o : Obj) (ps : List Addr) (kvs : List (Key × V)), xs = [.ref a] ∧ H a = some (.frz o (.tup (ps.map V.ref))) ∧ o.dict = none ∧ o.cls = .type "tuple" ∧ Paired (fun p kv => SqT X.K H p [kV kv.1, kv.2]) ps kvs ∧
    ∀ p, H p = none → Q (.ref p) (upd H p (.dK (mergeK [] kvs)))) := by
  intro pins s σ H xs us Q I r q
  obtain ⟨a, o, ps, kvs, ex, hq, hod, hoc, hp, q⟩ := q
  subst ex
  obtain ⟨u, eu, rx⟩ := vals1 r
  subst eu
  cases rx
  obtain ⟨ho, hz, its, rv, o2, ho2, hc2, n2, hdat⟩ := I.hok a _ hq
  rw [ho] at ho2
  cases ho2
  have ei := refs_at rv
  subst ei
  rw [List.length_map] at hz
  obtain ⟨prs, raws, rel, hl, hl2, hpr⟩ := raws_of I hp
  have PA := PairArg.tuple (prog := X.prog) (w := X.w) a (ps.map Value.ref).toArray (fun j => (ps[j]?).getD 0) raws
  refine PySem.call_dict_pairs (knd := mixKind X.prog X.w) (kvs := prs) PA (I.ok.hd hcalm) ⟨⟨o, n2, ho, hoc, hod, hdat⟩, by simp [hl2], fun j k v e => ?_⟩ ⟨by rw [hl, hl2], fun i key v e => ?_⟩ (by rw [hl2]; exact hz) fun h' tk hd' k => ?_
  · obtain ⟨b, kk, e1, e2, e3, e4⟩ := hpr j k v e
    refine ⟨by simp [e1], .inl ?_⟩
    show s.heap.IsTuple ((ps[j]?).getD 0) #[k, v]
    rw [e1]
    exact e2
  · obtain ⟨b, kk, e1, e2, e3, e4⟩ := hpr i key v e
    exact ⟨kk, e3, e4⟩
  · have hm : (s.heap.objs.size == sysModules) = false := beq_eq_false_iff_ne.mpr (Nat.ne_of_gt I.big)
    have hlen : (mergeK [] kvs).length ≤ sizeLine := by
      refine Nat.le_trans (length_mergeK kvs []) ?_
      rw [List.length_nil, Nat.zero_add, rel.length, hl]
      exact hz
    exact ⟨.ref s.heap.objs.size, upd H s.heap.objs.size (.dK (mergeK [] kvs)), I.laid (t' := tk) (fun b o e => k b o (by simp) e) (Nat.le_refl _) (show ObjOk X.prog X.w _ _ _ (.dK (mergeK [] kvs)) from ⟨hlen, hm, merged [] prs, KV.merge rel .nil, hd'⟩), rfl, q _ (I.hok.fresh (Nat.le_refl _))⟩
end
/-! t[::-1], t of two -/
section
variable {prog : Program} {w : World} {A : Around} {E : Value → Shared → Prop} {s : Shared}
theorem getItem_two {t sl : Addr} {x y vl vu vs : Value} {Q : Value → Shared → Prop} (ht : IsTup s.heap t #[x, y]) (hs : s.heap.IsSliceOf sl vl vu vs) (pl : IsPart vl none) (pu : IsPart vu none) (ps : IsPart vs (some (-1)))
    (h : Q (.ref s.heap.objs.size) { s with heap := s.heap.push { cls := .type "tuple", data := .seq #[y, x] } }) : wpAny (model prog w) A (getItem (.ref t) (.ref sl)) Q E s := by
  have htake : sizeOk (.seq #[y, x]) := by
    show 2 ≤ sizeLine
    decide
  obtain ⟨os, hos, hcs, hds⟩ := id hs
  have hTs : s.TypeIs (.ref sl) "slice" := ⟨os, hos, hcs⟩
  unfold getItem
  try with_reducible refine wpAny_holding ?_
  first | refine wpAny_bind (wpAny_pure ?_) | skip
  refine wpAny_bind (wpAny_sequenceKey ht.typeIs (by decide) ?_)
  refine wpAny_bind (wpAny_callSpecial?_slot (name := Str.ofString "__getitem__") ht.typeIs PyProof.Rows.slot_tuple_getitem
    (wpAny_call_entry PyProof.Rows.slot_tuple_getitem ht.typeIs entry_tuple_getitem ?_ (args_tuple_getitem _ _)))
  show wpAny _ _ (Builtin.Tuple.tupleItemsOf (.ref t) >>= _) _ _ s
  refine wpAny_bind (tupleItemsOf_ ht ?_)
  refine wpAny_bind (wpAny_typeOf hTs ?_)
  rw [if_pos (by decide)]
  refine wpAny_bind ?_
  unfold Builtin.Slice.sliceApplied Builtin.Slice.sliceFields
  refine wpAny_bind (wpAny_bind (wpAny_field hos hds (x := vl) rfl (wpAny_bind (wpAny_field hos hds (x := vu) rfl (wpAny_bind (wpAny_field hos hds (x := vs) rfl (wpAny_pure ?_)))))))
  refine wpAny_bind (HT.slicePart_ ps ?_)
  show wpAny _ _ (if ((-1 : Int) == 0) = true then _ else _) _ _ s
  rw [if_neg (by decide)]
  refine wpAny_bind (HT.slicePart_ pl (wpAny_bind (HT.slicePart_ pu (wpAny_bind (wpAny_pure ?_)))))
  refine wpAny_pure ?_
  show wpAny _ _ (if (((1 : Int) == 0 && (-1 : Int) == 1 && (2 : Nat) == 2) = true) then _ else _) _ _ s
  rw [if_neg (by decide)]
  generalize hA : (List.filterMap _ (List.range _)).toArray = arr
  have eA : arr = #[y, x] := by
    rw [← hA]
    first
      | rfl
      | kernel_rfl
      | with_unfolding_all rfl
  subst eA
  show wpAny _ _ (Builtin.Tuple.tupleExact #[y, x] >>= fun v => ret v) _ _ s
  have e : ((List.range 2).filterMap fun (m : Nat) => (#[x, y] : Array Value)[((1 : Int) + (m : Int) * (-1)).toNat]?).toArray = #[y, x] := rfl
  first
    | exact wpAny_bind (m := Builtin.Tuple.tupleExact _) (wpAny_newObj_type (wpAny_pure ⟨_, rfl, wpAny_pure h⟩) htake)
    | exact wpAny_bind (m := Builtin.Tuple.tupleExact _) (wpAny_newObj_type (wpAny_bind (wpAny_pure (wpAny_pure ⟨_, rfl, wpAny_pure h⟩))) htake)
    | exact wpAny_bind (wpAny_bind (m := Builtin.Tuple.tupleExact _) (wpAny_newObj_type (wpAny_pure (wpAny_pure ⟨_, rfl, wpAny_pure h⟩)) htake))
    | exact wpAny_bind (wpAny_bind (m := Builtin.Tuple.tupleExact _) (wpAny_newObj_type (wpAny_pure ⟨_, rfl, wpAny_pure h⟩) htake))
end
section
variable {X : Cx}
def tRev2 (K : PySem.W.Frag) (te : TE) : TE := fun σ H Q => te σ H fun x H1 => ∃ a y z, x = .ref a ∧ SqT K H1 a [y, z] ∧ ∀ p, H1 p = none → Q (.ref p) (upd H1 p (.tup [z, y]))
theorem pe_rev2 {e : Expr} {te : TE} {k : Nat} {p1 p2 p3 pos : Pos} (he : PE X e te) : PE X (.Subscript e (.Slice none none (some (.UnaryOp .USub (.Constant (.int 1) k p1) p2)) p3) pos) (tRev2 X.K te) := by
  refine ⟨fun pins s σ H Q I h => ?_⟩
  refine Subscript_ (thn (he.run pins s σ H _ I h) fun v s1 ⟨x, H1, I1, r1, q1⟩ => ?_)
  obtain ⟨a, y, z, ex, hx, q⟩ := q1
  subst ex
  cases r1
  have hst : PO X (some (.UnaryOp .USub (.Constant (.int 1) k p1) p2)) (tPart (tUn (rU fun i => .int (-i)) (tC (.int 1)))) := po_some (pe_un un_neg pe_int)
  refine wpAny_Slice (thn (po_none.run pins s1 σ H1 (fun o H2 => o = none ∧ H2 = H1) I1 ⟨rfl, rfl⟩) fun vl s2 ⟨l, H2, I2, pl, el, e2⟩ => ?_)
  subst el e2
  refine thn (po_none.run pins s2 σ H2 (fun o H3 => o = none ∧ H3 = H2) I2 ⟨rfl, rfl⟩) fun vu s3 ⟨u, H3, I3, pu, eu, e3⟩ => ?_
  subst eu e3
  refine thn (hst.run pins s3 σ H3 (fun o H4 => o = some (-1) ∧ H4 = H3) I3 ⟨1, rfl, -1, rfl, rfl, rfl⟩) fun vs s4 ⟨o, H4, I4, ps, eo, e4⟩ => ?_
  subst eo e4
  have I5 : Inv X pins σ H4 { s4 with heap := s4.heap.push { cls := .type "slice", data := .fields #[vl, vu, vs] } } := I4.kept (t' := s4.toks) fun b ob q => Heap.get?_push_of_some _ q
  obtain ⟨its, r, ht, hz⟩ := I5.tuple hx
  obtain ⟨yv, zv, ei, ry, rz⟩ := vals2 r
  subst ei
  show wpAny (model X.prog X.w) X.A (subscriptTail e (.Slice none none (some (.UnaryOp .USub (.Constant (.int 1) k p1) p2)) p3) (.ref a) (.ref s4.heap.objs.size)) (EP X pins σ Q) X.xe { s4 with heap := s4.heap.push { cls := .type "slice", data := .fields #[vl, vu, vs] } }
  refine tail_any (ops := [.ref a, .ref s4.heap.objs.size]) ht.typeIs (PyProof.Rows.slot_tuple_getitem.lookup) ?_ (by with_unfolding_all rfl)
  refine getItem_two ht (Heap.IsSliceOf.new _ vl vu vs) pl pu ps ?_
  refine ⟨.ref _, _, I5.laid (t' := s4.toks) (o := .tup [z, y]) (fun b ob q => Heap.get?_push_of_some _ q) (Nat.le_refl _) ?_, rfl, q _ (I5.hok.fresh (Nat.le_refl _))⟩
  exact ⟨by show 2 ≤ sizeLine; decide, [zv, yv], .cons rz (.cons ry .nil), IsTup.new _ _⟩
end
end Kt

/-! dict(l) of a list of pairs as a dict that stays, dict(zip(a, b)), comprehensions over items -/
namespace Kt
open PySem PySem.Spec PyProof.Rows L2
section
variable {X : Cx}
/-- dict(l) of a list of pairs: the object is known -/
theorem call_dictPF (hcalm : X.calm = true) : CallR X (.type "dict") (fun xs H Q => ∃ (a : Addr) (ps : List Addr) (kvs : List (Key × V)), xs = [.ref a] ∧ SqL X.K H a (ps.map V.ref) ∧ Paired (fun p kv => SqT X.K H p [kV kv.1, kv.2]) ps kvs ∧
    ∀ p o, H p = none → Q (.ref p) (upd H p (.frz o (.dK (mergeK [] kvs))))) := by
  intro pins s σ H xs us Q I r q
  obtain ⟨a, ps, kvs, ex, hq, hp, q⟩ := q
  subst ex
  obtain ⟨u, eu, rx⟩ := vals1 r
  subst eu
  cases rx
  obtain ⟨its, rv, pl, hz⟩ := I.list hq
  have ei := refs_at rv
  subst ei
  rw [List.length_map] at hz
  obtain ⟨prs, raws, rel, hl, hl2, hpr⟩ := raws_of I hp
  have PA := PairArg.list (prog := X.prog) (w := X.w) a (ps.map Value.ref).toArray (fun j => (ps[j]?).getD 0) raws
  refine PySem.call_dict_pairs (knd := mixKind X.prog X.w) (kvs := prs) PA (I.ok.hd hcalm) ⟨?_, by simp [hl2], fun j k v e => ?_⟩ ⟨by rw [hl, hl2], fun i key v e => ?_⟩ (by rw [hl2]; exact hz) fun h' tk hd' k => ?_
  · obtain ⟨o, n, h1, h2, h3, h4⟩ := pl
    exact ⟨o, n, h1, h2, h3, h4⟩
  · obtain ⟨b, kk, e1, e2, e3, e4⟩ := hpr j k v e
    refine ⟨by simp [e1], .inl ?_⟩
    show s.heap.IsTuple ((ps[j]?).getD 0) #[k, v]
    rw [e1]
    exact e2
  · obtain ⟨b, kk, e1, e2, e3, e4⟩ := hpr i key v e
    exact ⟨kk, e3, e4⟩
  · have hm : (s.heap.objs.size == sysModules) = false := beq_eq_false_iff_ne.mpr (Nat.ne_of_gt I.big)
    have hlen : (mergeK [] kvs).length ≤ sizeLine := by
      refine Nat.le_trans (length_mergeK kvs []) ?_
      rw [List.length_nil, Nat.zero_add, rel.length, hl]
      exact hz
    obtain ⟨o, ho⟩ : ∃ o, h'.get? s.heap.objs.size = some o := by
      obtain ⟨o, _, _, h1, _⟩ := hd'
      exact ⟨o, h1⟩
    exact ⟨.ref s.heap.objs.size, upd H s.heap.objs.size (.frz o (.dK (mergeK [] kvs))), I.laid (t' := tk) (fun b o e => k b o (by simp) e) (Nat.le_refl _) (show ObjOk X.prog X.w _ _ _ (.frz o (.dK (mergeK [] kvs))) from ⟨ho, hlen, hm, merged [] prs, KV.merge rel .nil, hd'⟩), rfl, q _ _ (I.hok.fresh (Nat.le_refl _))⟩
theorem neN (a b : Nat) (h : a < b ∨ b < a) : a ≠ b := by omega
theorem notIn (B c : Nat) (h : c < B) : c ∉ [B + 4, B + 3, B, B + 1] := by
  simp only [List.mem_cons, List.not_mem_nil, or_false]
  omega
theorem apartN (B a b : Nat) (ha : a < B) (hb : b < B) : ZipApart (B + 4) (B + 2) (B + 3) B (B + 1) a b := by
  constructor <;> exact neN _ _ (by omega)
/-- what dict(zip(a, b)) asks -/
def tDictZ (K : PySem.W.Frag) (ta : TA) : TE := fun σ H Q => ta σ H fun vs G => ∃ (a b : Addr) (ks : List Key) (ys : List V), vs = [.ref a, .ref b] ∧ SqL K G a (ks.map kV) ∧ SqL K G b ys ∧ ks.length = ys.length ∧
  ∀ p, G p = none → Q (.ref p) (upd G p (.dK (mergeK [] (ks.zip ys))))
theorem kv_zip {P : Program} {w : World} : ∀ {ks : List Key} {ys : List V} {us vs : List Value}, Vals (ks.map kV) us → Vals ys vs → ks.length = ys.length → KV (ks.zip ys) (ks.zip vs) ∧ (ks.zip vs).length = min us.length vs.length ∧ ∀ (i : Nat) (u v : Value), us[i]? = some u → vs[i]? = some v → ∃ k, (ks.zip vs)[i]? = some (k, v) ∧ (mixKind P w).is k u = true
  | [], [], _, _, .nil, .nil, _ => ⟨.nil, rfl, fun i u v e => by simp at e⟩
  | k :: ks, y :: ys, _, _, .cons (b := u0) a r, .cons (b := v0) b t, h => by
    obtain ⟨h1, h2, h3⟩ := kv_zip (P := P) (w := w) r t (by simpa using h)
    refine ⟨.cons ⟨rfl, b⟩ h1, ?_, fun i u v e1 e2 => ?_⟩
    · rw [List.zip_cons_cons, List.length_cons, h2, List.length_cons, List.length_cons]
      omega
    · cases i with
      | zero =>
        cases e1
        cases e2
        exact ⟨k, rfl, kV_is (P := P) (w := w) a⟩
      | succ i => exact h3 i u v (by simpa using e1) (by simpa using e2)
theorem pe_dictZip {e e2 : Expr} {ta : TA} {p p2 pos pos2 : Pos} (hc : X.calm = true) (hg : Gl X "dict") (hm : X.mg "dict" = none) (hg2 : Gl X "zip") (hm2 : X.mg "zip" = none) (ha : PA X [e, e2] ta)
    (hs : starEach [e, e2] X.env = (false, eval e X.env) :: starEach [e2] X.env := by rfl) (hpl : (backTo pos2 (starEach [e2] X.env)).any (·.1) = false := by rfl)
    (hs2 : starEach [.Call (.Name "zip" p2) [e, e2] [] pos2] X.env = (false, eval (.Call (.Name "zip" p2) [e, e2] [] pos2) X.env) :: starEach [] X.env := by rfl) :
    PE X (.Call (.Name "dict" p) [.Call (.Name "zip" p2) [e, e2] [] pos2] [] pos) (tDictZ X.K ta) := by
  refine ⟨fun pins s σ H Q I h => ?_⟩
  refine Call_ (ld_blt I hg hm PyProof.Rows.boot_dict (PyProof.Rows.callWith_type1 (args_cons (Call_ (ld_blt I hg2 hm2 PyProof.Rows.boot_zip (PyProof.Rows.callWith_type1 (thn (ha.run pos2 pins s σ H _ I h) fun us s1 ⟨vs, G, I1, rr, a, b, ks, ys, ev, sx, sy, le, q⟩ => ?_) hs hpl))) hs2) hs2 rfl))
  subst ev
  cases rr with
  | cons ra rr =>
    cases rr with
    | cons rb rr =>
      cases rr
      cases ra
      cases rb
      have hd : X.A.handled = none := I1.ok.hd hc
      obtain ⟨its, rv, p1, z1⟩ := I1.list sx
      obtain ⟨jts, rw, p2, z2⟩ := I1.list sy
      have n1 := rv.length
      have n2 := rw.length
      rw [List.length_map] at n1 z1
      have L1 := p1.lt
      have L2 := p2.lt
      refine call_zip_2 p1.isList p2.isList fun h' hz0 hTI hTO e1 e2 sz kp => args_nil ?_
      generalize hB : s1.heap.objs.size = B at *
      obtain ⟨m1, m2, m3⟩ := kv_zip (P := X.prog) (w := X.w) rv rw le
      have PA := PairArg.zip (prog := X.prog) (w := X.w) (B + 4) (B + 2) (B + 3) B (B + 1) a b (apartN B a b L1 L2) its.toArray jts.toArray
      refine PySem.call_dict_pairs (knd := mixKind X.prog X.w) (kvs := ks.zip jts) PA hd ⟨hz0, hTI, ⟨_, _, hTO⟩, e1, e2, p1.isList.at fun o u => kp _ _ u, p2.isList.at fun o u => kp _ _ u⟩ ⟨by rw [m2, List.size_toArray, List.size_toArray], fun i key v e => ?_⟩ ?_ fun h2 tk hd' k => ?_
      · obtain ⟨g1, g2⟩ := e
        exact m3 i key v (by simpa using g1) (by simpa using g2)
      · rw [List.size_toArray, List.size_toArray]
        omega
      · have hle : s1.heap.objs.size ≤ h'.objs.size := by omega
        have hm : (h'.objs.size == sysModules) = false := beq_eq_false_iff_ne.mpr (Nat.ne_of_gt (Nat.lt_of_lt_of_le I1.big hle))
        have hlen : (mergeK [] (ks.zip ys)).length ≤ sizeLine := by
          refine Nat.le_trans (length_mergeK _ []) ?_
          rw [List.length_nil, Nat.zero_add, List.length_zip]
          omega
        refine ⟨.ref h'.objs.size, upd G h'.objs.size (.dK (mergeK [] (ks.zip ys))), I1.laid (t' := tk) (fun c o e => k c o (fun hc => ?_) (kp c o e)) hle (show ObjOk X.prog X.w _ _ _ (.dK (mergeK [] (ks.zip ys))) from ⟨hlen, hm, merged [] (ks.zip jts), KV.merge m1 .nil, hd'⟩), rfl, q _ (I1.hok.fresh hle)⟩
        have lc := Heap.lt_size e
        rw [hB] at lc
        exact notIn B c lc hc
end
/-- a comprehension over the items of a dict that stays -/
theorem lc_items {d : Addr} {o : Obj} {kvs : List (Key × V)} {g : TG} {tt : TT} {te : TE} {vs : List Nat} {σ : L2.St} {H1 : Hp} {D : Addr} {Qd : Hp → Prop} (Pv : Nat → Hp → Prop) (h0 : Pv 0 (upd H1 D (.lst [])))
    (hl : ∀ i H, i ≤ kvs.length → Pv i H → H d = some (.frz o (.dK kvs)))
    (hs : ∀ (i : Nat) (k : Key) (v : V) (T : Addr) (H : Hp), kvs[i]? = some (k, v) → Pv i H → H T = none →
      g (.ref T) (wipe σ vs) (upd H T (.tup [kV k, v])) fun σ2 H2 => wipe σ2 vs = wipe σ vs ∧ tt σ2 H2 fun b H3 => if b = true then te σ2 H3 fun y H4 => ∃ acc, H4 D = some (.lst acc) ∧ acc.length < sizeLine ∧ Pv (i + 1) (upd H4 D (.lst (acc ++ [y]))) else Pv (i + 1) H3)
    (hd : ∀ H, Pv kvs.length H → Qd H) :
    ∃ W : Nat → Nat → Hp → Prop, (∃ m, W 0 m (upd H1 D (.lst []))) ∧ ∀ (i m : Nat) (H : Hp), W i m H → (Iti d o kvs).stop i H ∧ Qd H ∨ (Iti d o kvs).go i H ∧ ∃ Nx : Hp → Prop, (∀ H', Nx H' → ∃ m', m' < m ∧ W (i + 1) m' H') ∧
      ∀ (x : V) (H' : Hp), (Iti d o kvs).yld i H x H' → g x (wipe σ vs) H' fun σ2 H2 => wipe σ2 vs = wipe σ vs ∧ tt σ2 H2 fun b H3 => if b = true then te σ2 H3 fun y H4 => ∃ acc, H4 D = some (.lst acc) ∧ acc.length < sizeLine ∧ Nx (upd H4 D (.lst (acc ++ [y]))) else Nx H3 := by
  refine ⟨fun i m H => m = kvs.length - i ∧ i ≤ kvs.length ∧ Pv i H, ⟨kvs.length, rfl, Nat.zero_le _, h0⟩, fun i m H z => ?_⟩
  obtain ⟨rfl, hi, p⟩ := z
  have q := hl i H hi p
  by_cases hlt : i < kvs.length
  · refine .inr ⟨⟨q, hlt⟩, Pv (i + 1), fun H' p' => ⟨kvs.length - (i + 1), by omega, rfl, hlt, p'⟩, fun x H' y => ?_⟩
    obtain ⟨T, k, v, e1, rfl, e2, rfl⟩ := y
    exact hs i k v T H e1 p e2
  · have e : i = kvs.length := by omega
    subst e
    exact .inl ⟨⟨q, Nat.le_refl _⟩, hd H p⟩
end Kt

/-! terms drawn -/
namespace Kq
open PySem PySem.Spec PyProof.Rows L2 Kf Kv Kk Ku
def srt (f : Bool) : Str := if f then "f" else "n"
def kvOf (p : Nx × Bool) : Key × V := (.inr (NM p.1), .str (srt p.2))
def Sc.ls : Sc → List (Nx × Bool)
  | .nil => []
  | .add k x f => k.ls ++ [(x, f)]
def KnR (G : Hp) (p : Nx × Bool) (u : V) : Prop := ∃ a, u = .ref a ∧ G a = some (.tup [.str (NM p.1), .str (srt p.2)])
structure KnAt (d c : Addr) (G : Hp) (a : Addr) (ks : Sc) : Prop where
  ad : a ≠ d
  ac : a ≠ c
  at_ : ∃ us, G a = some (.lst us) ∧ Paired (KnR G) ks.ls us
theorem KnR.rk {G F : Hp} {p : Nx × Bool} {u : V} (h : KnR G p u) (k : Rk G F) : KnR F p u := by
  obtain ⟨a, e, g⟩ := h
  exact ⟨a, e, k.tup _ _ g⟩
theorem KnAt.kp {d c : Addr} {G F : Hp} {a : Addr} {ks : Sc} (h : KnAt d c G a ks) (k : Kp d c G F) (dk : Dk G d c) : KnAt d c F a ks := by
  obtain ⟨us, g, p⟩ := h.at_
  exact ⟨h.ad, h.ac, us, k a _ h.ad h.ac g, Paired.mapP p fun _ _ z => z.rk (k.rk dk)⟩
theorem KnAt.same {d c : Addr} {G F : Hp} {a : Addr} {ks : Sc} (h : KnAt d c G a ks) (s : Same G F) : KnAt d c F a ks := by
  obtain ⟨us, g, p⟩ := h.at_
  exact ⟨h.ad, h.ac, us, s _ _ g, Paired.mapP p fun _ _ z => z.rk (.of s)⟩
theorem merge_sc : ∀ ks : Sc, ∀ q ∈ mergeK [] (ks.ls.map kvOf), ∃ x f, q = kvOf (x, f) ∧ ks.lk x = some f
  | .nil, q, h => by cases h
  | .add k x f, q, h => by
    have e : mergeK [] ((Sc.add k x f).ls.map kvOf) = putK (mergeK [] (k.ls.map kvOf)) (.inr (NM x)) (.str (srt f)) := by
      rw [Sc.ls, List.map_append, mergeK, List.foldl_append]
      rfl
    rw [e, putK] at h
    split at h
    · obtain ⟨p, hp, rfl⟩ := List.mem_map.mp h
      obtain ⟨y, g, rfl, lk⟩ := merge_sc k p hp
      by_cases hy : y = x
      · subst hy
        refine ⟨y, f, ?_, by rw [Sc.lk, if_pos rfl]⟩
        rw [if_pos (show (kvOf (y, g)).1 = Sum.inr (NM y) from rfl)]
        rfl
      · refine ⟨y, g, ?_, by rw [Sc.lk, if_neg hy]; exact lk⟩
        exact if_neg (fun z => hy (NM_inj _ _ (Sum.inr.inj z)))
    · rename_i hn
      rcases List.mem_append.mp h with h' | h'
      · obtain ⟨y, g, e2, lk⟩ := merge_sc k q h'
        refine ⟨y, g, e2, ?_⟩
        rw [Sc.lk, if_neg]
        · exact lk
        · intro z
          refine hn (List.any_eq_true.mpr ⟨q, h', ?_⟩)
          rw [e2, ← z]
          exact decide_eq_true rfl
      · rw [List.mem_singleton.mp h']
        exact ⟨x, f, rfl, by rw [Sc.lk, if_pos rfl]⟩
theorem merge_len (ks : Sc) : (mergeK [] (ks.ls.map kvOf)).length ≤ ks.ls.length := by
  have z := length_mergeK (ks.ls.map kvOf) []
  rw [List.length_nil, Nat.zero_add, List.length_map] at z
  exact z
theorem kn_args {K : PySem.W.Frag} {G : Hp} : ∀ {ks : List (Nx × Bool)} {us : List V}, Paired (KnR G) ks us → ∃ ps : List Addr, us = ps.map V.ref ∧ Paired (fun p kv => SqT K G p [kV kv.1, kv.2]) ps (ks.map kvOf)
  | _, _, .nil => ⟨[], rfl, .nil⟩
  | _, _, .cons h t => by
    obtain ⟨ps, e, p⟩ := kn_args (K := K) t
    obtain ⟨a, e2, g⟩ := h
    exact ⟨a :: ps, by rw [e, e2]; rfl, .cons (SqT.of g) p⟩
theorem KnAt.add {d c : Addr} {G F : Hp} {p q : Addr} {ks : Sc} {us : List V} {x : Nx} {f : Bool} (s : Same G F) (pr : Paired (KnR G) ks.ls us) (gp : F p = some (.tup [.str (NM x), .str (srt f)])) (gq : F q = some (.lst (us ++ [.ref p]))) (h1 : q ≠ d) (h2 : q ≠ c) : KnAt d c F q (ks.add x f) :=
  ⟨h1, h2, _, gq, Paired.appP (Paired.mapP pr fun _ _ z => z.rk (.of s)) (.cons ⟨p, rfl, gp⟩ .nil)⟩
theorem KnAt.add2 {d c : Addr} {G F : Hp} {p p' q : Addr} {ks : Sc} {us : List V} {x x' : Nx} {f f' : Bool} (s : Same G F) (pr : Paired (KnR G) ks.ls us) (gp : F p = some (.tup [.str (NM x), .str (srt f)])) (gp' : F p' = some (.tup [.str (NM x'), .str (srt f')])) (gq : F q = some (.lst (us ++ [.ref p, .ref p']))) (h1 : q ≠ d) (h2 : q ≠ c) : KnAt d c F q ((ks.add x f).add x' f') := by
  refine ⟨h1, h2, _, gq, ?_⟩
  show Paired (KnR F) ((ks.ls ++ [(x, f)]) ++ [(x', f')]) _
  rw [List.append_assoc]
  exact Paired.appP (Paired.mapP pr fun _ _ z => z.rk (.of s)) (.cons ⟨p, rfl, gp⟩ (.cons ⟨p', rfl, gp'⟩ .nil))
theorem tupGK {X : Cx} (K : PySem.W.Frag) (h : X.K = K) {es : List Expr} {k : Nat} {t : TGs} {n : Nat} {pos : Pos} (hc : X.calm = true) (hp : PGs X es t)
    (hn : (assignEach es X.env).length = n := by rfl) (hst : (assignEach es X.env).findIdx? (·.1) = none := by rfl) : PG X (.Tuple es k pos) (gTup K n t) := by
  subst h
  exact pg_tup hc hp hn hst
theorem sqL_same {K : PySem.W.Frag} {H G : Hp} {a : Addr} {xs : List V} (h : SqL K H a xs) (s : Same H G) : SqL K G a xs := by
  rcases h with h | h
  · rcases h with h | ⟨o, h⟩
    · exact .inl (.inl (s _ _ h))
    · exact .inl (.inr ⟨o, s _ _ h⟩)
  · exact .inr h
theorem sqT_same {K : PySem.W.Frag} {H G : Hp} {a : Addr} {xs : List V} (h : SqT K H a xs) (s : Same H G) : SqT K G a xs := by
  rcases h with h | h
  · rcases h with h | ⟨o, h⟩
    · exact .inl (.inl (s _ _ h))
    · exact .inl (.inr ⟨o, s _ _ h⟩)
  · exact .inr h
theorem eqvNil (xs : List Str) : PyData.eqv (.list (xs.map PyData.str)) (.list []) = xs.isEmpty := by
  cases xs <;> simp [PyData.eqv, PyData.eqvAll]
theorem nm_ok : ∀ x : Nx, PyData.strOk (NM x) = true := by decide +kernel
theorem layNM : ∀ xs : List Nx, PyData.canLayAll0 ((xs.map NM).map PyData.str) = true ∧ PyData.depthAll ((xs.map NM).map PyData.str) = 0
  | [] => ⟨by simp [PyData.canLayAll0], by simp [PyData.depthAll]⟩
  | x :: xs => by
    obtain ⟨a, b⟩ := layNM xs
    have c := nm_ok x
    exact ⟨by rw [List.map_cons, List.map_cons]; simp only [PyData.canLayAll0, PyData.canLay0, a, c]; rfl, by rw [List.map_cons, List.map_cons]; simp only [PyData.depthAll, PyData.depth, b]; rfl⟩
theorem shNM (xs : List Nx) : SeqAt.shaped (.list ((xs.map NM).map PyData.str)) = true := by
  obtain ⟨a, b⟩ := layNM xs
  simp only [SeqAt.shaped, PyData.canLay0, PyData.depth, a, b]
  rfl
theorem dpStrs (K : PySem.W.Frag) (H : Hp) : ∀ xs : List Str, DpAll K H (xs.map V.str) (xs.map PyData.str)
  | [] => .nil
  | x :: xs => .cons (.str x) (dpStrs K H xs)
section
variable {P : Program} {w : World} {K : PySem.W.Frag} {mg : Str → Option Value} {base : Heap}
abbrev tPick : Stmt := tp 70
/-! _law_pick -/
theorem scPick : FnScope ["_law_deck_here", "_law_some"] ["_law_deck_here", "_law_some"] (defScope tPick) := ⟨rfl, rfl, rfl, by decide +kernel, rfl, by decide +kernel, by decide +kernel⟩
abbrev psPick : List Str := ["_law_deck_here", "_law_some"]
def spPick : Sp := fun vs H Q _ => ∃ (d c a : Addr) (us : List V), vs = [.ref d, .ref a] ∧ Dk H d c ∧ H a = some (.lst us) ∧ a ≠ d ∧ a ≠ c ∧ 1 ≤ us.length ∧ us.length ≤ 100 ∧ ∀ (v : V) (G : Hp), Kp d c H G → Dk G d c → v ∈ us → Q v G
theorem okPick {f fD : Addr} {fd fdD : FuncData} {k : Nat} (F : Fun K "_law_pick" "_law_pick" tPick f fd) (GD : FnOk P w K mg base CX0 (k + 1) fD fdD ["_law_deck_here", "_law_most"] spDraw) (bD : Binds K fdD ["_law_deck_here", "_law_most"] []) (gD : mg "_law_draw" = some (.ref fD)) (kD : PySem.W.keepIn K (.ref fD) = true)
    (mn : mg "len" = none) : FnOk P w K mg base CX0 (k + 2) f fd psPick spPick := by
  refine F.ok scPick (fun vs H Q E h => ?_) (fun cdv A outer s H vs Q E hr h => ?_)
  · obtain ⟨d, c, a, us, rfl, _⟩ := h
    rfl
  obtain ⟨d, c, a, us, rfl, dk, ha, ad, ac, l1, l2, q⟩ := h
  refine ⟨_, pss_one (ps_ret (pe_ix ix_list (pv 1) (pe_call GD hr (by rfl) gD kD bD .nil pass0 (pa_cons (pv 0) (pa_cons (pe_callB call_len_seq (by rfl) mn PySem.boot_len (pa_cons (pv 1) pa_nil)) pa_nil))) (fun _ _ => rfl))), ?_⟩
  refine ⟨_, rfl, _, rfl, _, rfl, a, _, rfl, .inl (SqL.of ha), d, c, _, rfl, dk, by omega, by omega, fun r G r0 r1 kp dk2 => ?_⟩
  have lr : r.toNat < us.length := by omega
  have er : r = ((r.toNat : Nat) : Int) := by omega
  have gat : atI us r = some us[r.toNat] := by
    have z := atI_nat (xs := us) (j := r.toNat) (List.getElem?_eq_getElem lr)
    rw [← er] at z
    exact z
  exact ⟨a, _, _, _, rfl, rfl, SqL.of (kp a _ ad ac ha), gat, q _ G kp dk2 (List.getElem_mem lr)⟩
abbrev tNum : Stmt := tp 72
abbrev nNum : List Str := ["_law_deck_here"]
abbrev psNum : List Str := ["_law_deck_here"]
theorem scNum : FnScope nNum psNum (defScope tNum) := ⟨rfl, rfl, rfl, by decide +kernel, rfl, by decide +kernel, by decide +kernel⟩
def spNum : Sp := fun vs H Q _ => ∃ (d c : Addr), vs = [.ref d] ∧ Dk H d c ∧ ∀ (v : V) (i : Nat) (G : Hp), Kp d c H G → Dk G d c → i ≤ 1000 → Dd Non G (tmNum (i : Int)) v → Q v G
theorem okNum {f : Addr} {fd : FuncData} {k : Nat} (F : Fun K "_law_number" "_law_number" tNum f fd)
    (DD : Okd P w K mg base CX0 (k) "_law_draw" ["_law_deck_here", "_law_most"] spDraw) : FnOk P w K mg base CX0 (k + 1) f fd psNum spNum := by
  obtain ⟨fD, fdD, GD, bD, gD, kD⟩ := DD
  refine F.ok scNum (fun vs H Q E h => ?_) (fun cdv A outer s H vs Q E hr h => ?_)
  · obtain ⟨d, c, rfl, _⟩ := h
    rfl
  obtain ⟨d, c, rfl, dk, q⟩ := h
  refine ⟨_, pss_one (ps_ret (pe_tup (pa_cons pe_str (pa_cons (pe_call GD hr (by rfl) gD kD bD .nil pass0 (pa_cons (pv 0) (pa_cons pe_int pa_nil))) pa_nil)))), ?_⟩
  refine ⟨_, rfl, d, c, _, rfl, dk, by decide, by decide, fun r G1 r0 r1 kp1 dk1 => ⟨(by show 2 ≤ sizeLine; decide), fun p np => ?_⟩⟩
  have r1 : r < 1000 := r1
  obtain ⟨i, rfl⟩ : ∃ i : Nat, r = (i : Int) := ⟨r.toNat, by omega⟩
  refine tupG np (.cons (.str _) (.cons (.int _) .nil)) fun G2 s2 d2 => ?_
  exact q _ i _ (kp1.trans (.of s2)) (dk1.same s2) (by omega) d2
def spDrawn (m : Nat) : Sp := fun vs H Q _ => ∃ (d c a : Addr) (i : Int) (n : Nat) (ks : Sc), vs = [.ref d, .ref a, .int i] ∧ i = (n : Int) ∧ n < m ∧ Dk H d c ∧ KnAt d c H a ks ∧ ks.ls.length + 2 * n ≤ 60 ∧ ∀ (v : V) (t : Lt) (G : Hp), Kp d c H G → Dk G d c → Dr n ks t → Dd Non G (t.d NM) v → Q v G
def spRounds (m : Nat) : Sp := fun vs H Q _ => ∃ (d c a : Addr) (x : Nx) (i : Int) (n : Nat) (ks : Sc), vs = [.ref d, .ref a, .str (NM x), .int i] ∧ i = (n : Int) + 1 ∧ n < m ∧ Dk H d c ∧ KnAt d c H a ks ∧ ks.ls.length + 2 * n + 2 ≤ 60 ∧ ∀ (v : V) (t : Lt) (G : Hp), Kp d c H G → Dk G d c → Dr (n + 1) ks t → Dd Non G (t.d NM) v → Q v G
abbrev tRounds : Stmt := tp 73
abbrev nRounds : List Str := ["_law_deck_here", "_law_known", "_law_here", "_law_deep", "_law_n", "_law_one", "_law_turn"]
abbrev psRounds : List Str := ["_law_deck_here", "_law_known", "_law_here", "_law_deep"]
theorem scRounds : FnScope nRounds psRounds (defScope tRounds) := ⟨rfl, rfl, rfl, by decide +kernel, rfl, by decide +kernel, by decide +kernel⟩
theorem okRounds {f : Addr} {fd : FuncData} {k m : Nat} (F : Fun K "_law_rounds" "_law_rounds" tRounds f fd)
    (DD : Okd P w K mg base CX0 (k) "_law_draw" ["_law_deck_here", "_law_most"] spDraw)
    (DW : Okd P w K mg base CX0 (k) "_law_drawn" ["_law_deck_here", "_law_known", "_law_deep"] (spDrawn m)) : FnOk P w K mg base CX0 (k + 1) f fd psRounds (spRounds m) := by
  obtain ⟨fD, fdD, GD, bD, gD, kD⟩ := DD
  obtain ⟨fW, fdW, GW, bW, gW, kW⟩ := DW
  refine F.ok scRounds (fun vs H Q E h => ?_) (fun cdv A outer s H vs Q E hr h => ?_)
  · obtain ⟨d, c, a, x, i, n, ks, rfl, _⟩ := h
    rfl
  obtain ⟨d, c, a, x, i, n, ks, rfl, ei, hn, dk, ka, hl, q⟩ := h
  refine ⟨_, pss_cons (ps_set (i := 4) scRounds.nd rfl (.inl rfl) (pe_tup (pa_cons pe_str pa_nil)))
    (pss_cons (ps_set (i := 5) scRounds.nd rfl (.inl rfl) (pe_call GW hr (by rfl) gW kW bW .nil pass0 (pa_cons (pv 0) (pa_cons (pv 1) (pa_cons (pe_op op_sub (pv 3) pe_int) pa_nil)))))
    (pss_cons (ps_set (i := 6) scRounds.nd rfl (.inl rfl) (pe_tup (pa_cons pe_str (pa_cons (pv 4) (pa_cons (pe_call GW hr (by rfl) gW kW bW .nil pass0 (pa_cons (pv 0) (pa_cons (pe_op op_cat (pv 1) (pe_lst (pa_cons (pe_tup (pa_cons (pv 2) (pa_cons pe_str pa_nil))) pa_nil))) (pa_cons (pe_op op_sub (pv 3) pe_int) pa_nil)))) pa_nil)))))
    (pss_one (ps_ret (pe_tup (pa_cons pe_str (pa_cons (pe_op op_add pe_int (pe_call GD hr (by rfl) gD kD bD .nil pass0 (pa_cons (pv 0) (pa_cons pe_int pa_nil)))) (pa_cons (pv 5) (pa_cons (pv 2) (pa_cons (pv 6) pa_nil)))))))))), ?_⟩
  refine ⟨(by show 1 ≤ sizeLine; decide), fun p0 n0 => tupG n0 (.cons (.str _) .nil) fun G0 s0 d0 => ?_⟩
  have dk0 := dk.same s0
  have ka0 := ka.same s0
  refine ⟨_, rfl, _, rfl, _, rfl, _, _, rfl, rfl, d, c, a, _, n, ks, rfl, by omega, hn, dk0, ka0, by omega, fun v1 t1 G1 kp1 dk1 dr1 dd1 => ?_⟩
  have kpA := (Kp.of (d := d) (c := c) s0).trans kp1
  obtain ⟨us, gA, pr⟩ := (ka0.kp kp1 dk0).at_
  have lp := pr.length
  have d0' := d0.kn (kp1.rk dk0).kn
  refine ⟨_, rfl, _, rfl, _, rfl, _, rfl, (by show 2 ≤ sizeLine; decide), fun p2 n2 => objG n2 fun G2 s2 g2 => ⟨(by show 1 ≤ sizeLine; decide), fun p3 n3 => lstG n3 fun G3 s3 g3 => ⟨_, _, _, _, rfl, rfl, s3 _ _ (s2 _ _ gA), g3, szBig (by show _ + 1 ≤ _; omega), fun p4 n4 => objG n4 fun G4 s4 g4 => ⟨_, rfl, _, _, rfl, rfl, ?_⟩⟩⟩⟩
  have s24 := s2.trans (s3.trans s4)
  have off := (dk1.same (s2.trans s3)).off n4
  have kb : KnAt d c G4 p4 (ks.add x false) := KnAt.add s24 pr (s4 _ _ (s3 _ _ g2)) g4 off.1 off.2
  have dk4 := dk1.same s24
  refine ⟨d, c, p4, _, n, _, rfl, by omega, hn, dk4, kb, (by rw [Sc.ls, List.length_append]; show _ + 1 + _ ≤ _; omega), fun v2 t2 G5 kp5 dk5 dr2 dd2 => ?_⟩
  have d0'' := (d0'.same s24).kn (kp5.rk dk4).kn
  have dd1' := (dd1.same s24).kn (kp5.rk dk4).kn
  refine ⟨(by show 3 ≤ sizeLine; decide), fun p6 n6 => tupG n6 (.cons (.str _) (.cons d0'' (.cons dd2 .nil))) fun G6 s6 d6 => ⟨_, rfl, d, c, _, rfl, dk5.same s6, by decide, by decide, fun r G7 r0 r1 kp7 dk7 => ?_⟩⟩
  have r1 : r < 30 := r1
  obtain ⟨j, rfl⟩ : ∃ j : Nat, r = (j : Int) := ⟨r.toNat, by omega⟩
  have k67 := (Kp.of (d := d) (c := c) s6).trans kp7
  have dd1'' := (dd1'.same s6).kn (kp7.rk (dk5.same s6)).kn
  have d6' := d6.kn (kp7.rk (dk5.same s6)).kn
  refine ⟨_, _, rfl, rfl, _, rfl, _, rfl, _, rfl, (by show 5 ≤ sizeLine; decide), fun p8 n8 => ?_⟩
  show Q (.ref p8) (upd G7 p8 (.tup [.str "rounds", .int (1 + (j : Int)), v1, .str (NM x), .ref p6]))
  rw [show (1 : Int) + (j : Int) = ((j + 1 : Nat) : Int) by omega]
  refine tupG n8 (.cons (.str _) (.cons (.int _) (.cons dd1'' (.cons (.str _) (.cons d6' .nil))))) fun G8 s8 d8 => ?_
  exact q _ (.rounds (j + 1) t1 x t2) _ (((kpA.trans (.of s24)).trans kp5).trans (k67.trans (.of s8))) (dk7.same s8) (.rounds (by omega) (by omega) dr1 dr2) d8
abbrev tDrawn : Stmt := tp 74
abbrev nDrawn : List Str := ["_law_deck_here", "_law_known", "_law_deep", "_law_way", "_law_names_here", "_law_here", "_law_name", "_law_sort", "_law_numbers", "_law_functions", "_law_one", "_law_n", "_law_body", "_law_other", "_law_rows", "_law_side", "_law_first", "_law_second", "_law_inner", "_law_function"]
abbrev psDrawn : List Str := ["_law_deck_here", "_law_known", "_law_deep"]
theorem scDrawn : FnScope nDrawn psDrawn (defScope tDrawn) := ⟨rfl, rfl, rfl, by decide +kernel, rfl, by decide +kernel, by decide +kernel⟩
theorem okDrawn {f : Addr} {fd : FuncData} {k m : Nat} (F : Fun K "_law_drawn" "_law_drawn" tDrawn f fd)
    (DW : Okd P w K mg base CX0 (k) "_law_drawn" ["_law_deck_here", "_law_known", "_law_deep"] (spDrawn m))
    (DP : Okd P w K mg base CX0 (k) "_law_pick" ["_law_deck_here", "_law_some"] spPick)
    (DR : Okd P w K mg base CX0 (k) "_law_rounds" ["_law_deck_here", "_law_known", "_law_here", "_law_deep"] (spRounds m))
    (DD : Okd P w K mg base CX0 (k) "_law_draw" ["_law_deck_here", "_law_most"] spDraw)
    (DN : Okd P w K mg base CX0 (k) "_law_number" ["_law_deck_here"] spNum)
    (m_dict : mg "dict" = none) : FnOk P w K mg base CX0 (k + 1) f fd psDrawn (spDrawn (m + 1)) := by
  obtain ⟨fW, fdW, GW, bW, gW, kW⟩ := DW
  obtain ⟨fP, fdP, GP, bP, gP, kP⟩ := DP
  obtain ⟨fR, fdR, GR, bR, gR, kR⟩ := DR
  obtain ⟨fD, fdD, GD, bD, gD, kD⟩ := DD
  obtain ⟨fN, fdN, GN, bN, gN, kN⟩ := DN
  refine F.ok scDrawn (fun vs H Q E h => ?_) (fun cdv A outer s H vs Q E hr h => ?_)
  · obtain ⟨d, c, a, i, n, ks, rfl, _⟩ := h
    rfl
  obtain ⟨d, c, a, i, n, ks, rfl, ei, hn, dk, ka, hl, q⟩ := h
  refine ⟨_, pss_cons (ps_set (i := 3) scDrawn.nd rfl (.inl rfl) (pe_call GD hr (by rfl) gD kD bD .nil pass0 (pa_cons (pv 0) (pa_cons pe_int pa_nil))))
    (pss_cons (ps_set (i := 4) scDrawn.nd rfl (.inl rfl) (pe_lst (pa_cons pe_str (pa_cons pe_str (pa_cons pe_str pa_nil)))))
    (pss_cons (ps_set (i := 5) scDrawn.nd rfl (.inr rfl) (pe_call GP hr (by rfl) gP kP bP .nil pass0 (pa_cons (pv 0) (pa_cons (pv 4) pa_nil))))
    (pss_cons (ps_setLc (i := 8) (own := [("_law_name", 6), ("_law_sort", 7)]) (g := gTup K 2 (gCons (gName 6) (gCons (gName 7) gNil))) (tt := _) (by rfl) scDrawn.nd rfl rfl (sw_true rfl rfl rfl (by decide +kernel)) (pi_items (pe_callTy (Kt.call_dictPF rfl) (by rfl) m_dict PyProof.Rows.boot_dict (pa_cons (pv 1) pa_nil))) (blkOk_by (own := [("_law_name", 6), ("_law_sort", 7)]) (N := nDrawn) (sc := defScope tDrawn) (by decide +kernel)) (fun _ _ _ _ _ => (tupGK K rfl rfl (pgs_cons (pg_name (i := 6) scDrawn.nd rfl (.inl rfl)) (pgs_cons (pg_name (i := 7) scDrawn.nd rfl (.inl rfl)) pgs_nil)))) (fun _ _ _ _ _ => pts_one (pt_cmpR op_eq (pv 7) pe_str (nomark _))) (fun _ _ _ _ _ => (pv 6)))
    (pss_cons (ps_setLc (i := 9) (own := [("_law_name", 6), ("_law_sort", 7)]) (g := gTup K 2 (gCons (gName 6) (gCons (gName 7) gNil))) (tt := _) (by rfl) scDrawn.nd rfl rfl (sw_true rfl rfl rfl (by decide +kernel)) (pi_items (pe_callTy (Kt.call_dictPF rfl) (by rfl) m_dict PyProof.Rows.boot_dict (pa_cons (pv 1) pa_nil))) (blkOk_by (own := [("_law_name", 6), ("_law_sort", 7)]) (N := nDrawn) (sc := defScope tDrawn) (by decide +kernel)) (fun _ _ _ _ _ => (tupGK K rfl rfl (pgs_cons (pg_name (i := 6) scDrawn.nd rfl (.inl rfl)) (pgs_cons (pg_name (i := 7) scDrawn.nd rfl (.inl rfl)) pgs_nil)))) (fun _ _ _ _ _ => pts_one (pt_cmpR op_eq (pv 7) pe_str (nomark _))) (fun _ _ _ _ _ => (pv 6)))
    (pss_cons (ps_if (PW.pt (pw_or (pt_cmpR op_eq (pv 2) pe_int (nomark _)) (pw_or1 (pt_cmpR op_lt (pv 3) pe_int (nomark _))))) (pss_one (ps_ret (pe_ifExp (pt_cmpR (op_neD hr.units) (pv 8) (pe_lst pa_nil) (nomark _)) (pe_tup (pa_cons pe_str (pa_cons (pe_call GP hr (by rfl) gP kP bP .nil pass0 (pa_cons (pv 0) (pa_cons (pv 8) pa_nil))) pa_nil))) (pe_call GN hr (by rfl) gN kN bN .nil pass0 (pa_cons (pv 0) pa_nil))))) pss_nil)
    (C8.pss_cut (ps_if (PW.pt (pw_and (pt_cmpR op_lt (pv 3) pe_int (nomark _)) (pw_and1 (pt_cmpR (op_neD hr.units) (pv 9) (pe_lst pa_nil) (nomark _))))) (pss_cons (ps_set (i := 6) scDrawn.nd rfl (.inl rfl) (pe_call GP hr (by rfl) gP kP bP .nil pass0 (pa_cons (pv 0) (pa_cons (pv 9) pa_nil))))
    (pss_one (ps_ret (pe_tup (pa_cons pe_str (pa_cons (pe_tup (pa_cons pe_str (pa_cons (pv 6) pa_nil))) (pa_cons (pe_call GW hr (by rfl) gW kW bW .nil pass0 (pa_cons (pv 0) (pa_cons (pv 1) (pa_cons (pe_op op_sub (pv 2) pe_int) pa_nil)))) pa_nil))))))) pss_nil)
    (pss_cons (ps_if (pt_cmpR op_eq (pv 3) pe_int (nomark _)) (pss_cons (ps_set (i := 10) scDrawn.nd rfl (.inl rfl) (pe_call GW hr (by rfl) gW kW bW .nil pass0 (pa_cons (pv 0) (pa_cons (pv 1) (pa_cons (pe_op op_sub (pv 2) pe_int) pa_nil)))))
    (pss_one (ps_ret (pe_tup (pa_cons pe_str (pa_cons (pv 10) (pa_cons (pe_call GW hr (by rfl) gW kW bW .nil pass0 (pa_cons (pv 0) (pa_cons (pv 1) (pa_cons (pe_op op_sub (pv 2) pe_int) pa_nil)))) pa_nil))))))) pss_nil)
    (pss_cons (ps_set (i := 11) scDrawn.nd rfl (.inl rfl) (pe_tup (pa_cons pe_str pa_nil)))
    (pss_cons (ps_if (pt_cmpR op_lt (pv 3) pe_int (nomark _)) (pss_cons (ps_set (i := 10) scDrawn.nd rfl (.inl rfl) (pe_call GW hr (by rfl) gW kW bW .nil pass0 (pa_cons (pv 0) (pa_cons (pv 1) (pa_cons (pe_op op_sub (pv 2) pe_int) pa_nil)))))
    (pss_cons (ps_set (i := 12) scDrawn.nd rfl (.inl rfl) (pe_call GW hr (by rfl) gW kW bW .nil pass0 (pa_cons (pv 0) (pa_cons (pe_op op_cat (pv 1) (pe_lst (pa_cons (pe_tup (pa_cons (pv 5) (pa_cons pe_str pa_nil))) pa_nil))) (pa_cons (pe_op op_sub (pv 2) pe_int) pa_nil)))))
    (pss_one (ps_ret (pe_tup (pa_cons pe_str (pa_cons (pe_tup (pa_cons pe_str (pa_cons (pv 5) (pa_cons (pv 11) (pa_cons (pv 12) pa_nil))))) (pa_cons (pv 10) pa_nil)))))))) pss_nil)
    (pss_cons (ps_if (pt_cmpR op_eq (pv 3) pe_int (nomark _)) (pss_cons (ps_set (i := 13) scDrawn.nd rfl (.inl rfl) (pe_call GP hr (by rfl) gP kP bP .nil pass0 (pa_cons (pv 0) (pa_cons (pe_lc (own := [("_law_name", 6)]) (g := gName 6) (tt := _) (by rfl) scDrawn.nd (pi_list (pv 4)) (blkOk_by (own := [("_law_name", 6)]) (N := nDrawn) (sc := defScope tDrawn) (by decide +kernel)) (fun _ _ _ _ _ => (pg_name (i := 6) scDrawn.nd rfl (.inl rfl))) (fun _ _ _ _ _ => pts_one (pt_cmpR op_ne (pv 6) (pv 5) (nomark _))) (fun _ _ _ _ _ => (pv 6))) pa_nil))))
    (pss_cons (ps_set (i := 14) scDrawn.nd rfl (.inl rfl) (pe_tup (pa_cons pe_str (pa_cons (pe_call GN hr (by rfl) gN kN bN .nil pass0 (pa_cons (pv 0) pa_nil)) (pa_cons (pe_tup (pa_cons pe_str (pa_cons (pv 11) pa_nil))) pa_nil)))))
    (pss_cons (ps_set (i := 14) scDrawn.nd rfl (.inl rfl) (pe_tup (pa_cons pe_str (pa_cons (pe_call GW hr (by rfl) gW kW bW .nil pass0 (pa_cons (pv 0) (pa_cons (pv 1) (pa_cons (pe_op op_sub (pv 2) pe_int) pa_nil)))) (pa_cons (pv 14) pa_nil)))))
    (pss_cons (ps_set (i := 12) scDrawn.nd rfl (.inl rfl) (pe_call GW hr (by rfl) gW kW bW .nil pass0 (pa_cons (pv 0) (pa_cons (pe_op op_cat (pv 1) (pe_lst (pa_cons (pe_tup (pa_cons (pv 5) (pa_cons pe_str pa_nil))) (pa_cons (pe_tup (pa_cons (pv 13) (pa_cons pe_str pa_nil))) pa_nil)))) (pa_cons (pe_op op_sub (pv 2) pe_int) pa_nil)))))
    (pss_one (ps_ret (pe_tup (pa_cons pe_str (pa_cons (pv 14) (pa_cons (pe_call GW hr (by rfl) gW kW bW .nil pass0 (pa_cons (pv 0) (pa_cons (pv 1) (pa_cons (pe_op op_sub (pv 2) pe_int) pa_nil)))) (pa_cons (pv 5) (pa_cons (pv 13) (pa_cons (pv 12) pa_nil))))))))))))) pss_nil)
    (pss_cons (ps_if (pt_cmpR op_eq (pv 3) pe_int (nomark _)) (pss_cons (ps_set (i := 10) scDrawn.nd rfl (.inl rfl) (pe_call GW hr (by rfl) gW kW bW .nil pass0 (pa_cons (pv 0) (pa_cons (pv 1) (pa_cons (pe_op op_sub (pv 2) pe_int) pa_nil)))))
    (pss_cons (ps_set (i := 15) scDrawn.nd rfl (.inl rfl) (pe_ix ix_list (pe_lst (pa_cons (pe_tup (pa_cons pe_str (pa_cons (pv 10) (pa_cons (pv 11) pa_nil)))) (pa_cons (pe_tup (pa_cons pe_str (pa_cons (pv 11) (pa_cons (pv 10) pa_nil)))) pa_nil))) (pe_call GD hr (by rfl) gD kD bD .nil pass0 (pa_cons (pv 0) (pa_cons pe_int pa_nil))) (fun _ _ => rfl)))
    (pss_cons (ps_set (i := 13) scDrawn.nd rfl (.inl rfl) (pe_call GP hr (by rfl) gP kP bP .nil pass0 (pa_cons (pv 0) (pa_cons (pv 4) pa_nil))))
    (pss_cons (ps_set (i := 16) scDrawn.nd rfl (.inl rfl) (pe_call GW hr (by rfl) gW kW bW .nil pass0 (pa_cons (pv 0) (pa_cons (pe_op op_cat (pv 1) (pe_lst (pa_cons (pe_tup (pa_cons (pv 5) (pa_cons pe_str pa_nil))) pa_nil))) (pa_cons (pe_op op_sub (pv 2) pe_int) pa_nil)))))
    (pss_cons (ps_set (i := 17) scDrawn.nd rfl (.inl rfl) (pe_call GW hr (by rfl) gW kW bW .nil pass0 (pa_cons (pv 0) (pa_cons (pe_op op_cat (pv 1) (pe_lst (pa_cons (pe_tup (pa_cons (pv 13) (pa_cons pe_str pa_nil))) pa_nil))) (pa_cons (pe_op op_sub (pv 2) pe_int) pa_nil)))))
    (pss_one (ps_ret (pe_tup (pa_cons pe_str (pa_cons (pv 15) (pa_cons (pv 5) (pa_cons (pv 16) (pa_cons (pv 13) (pa_cons (pv 17) pa_nil)))))))))))))) pss_nil)
    (pss_cons (ps_if (pt_cmpR op_eq (pv 3) pe_int (nomark _)) (pss_one (ps_ret (pe_call GR hr (by rfl) gR kR bR .nil pass0 (pa_cons (pv 0) (pa_cons (pv 1) (pa_cons (pv 5) (pa_cons (pv 2) pa_nil))))))) pss_nil)
    (pss_cons (ps_set (i := 18) scDrawn.nd rfl (.inl rfl) (pe_call GP hr (by rfl) gP kP bP .nil pass0 (pa_cons (pv 0) (pa_cons (pv 4) pa_nil))))
    (pss_cons (ps_set (i := 19) scDrawn.nd rfl (.inl rfl) (pe_tup (pa_cons pe_str (pa_cons (pv 18) (pa_cons (pv 11) (pa_cons (pe_call GW hr (by rfl) gW kW bW .nil pass0 (pa_cons (pv 0) (pa_cons (pe_op op_cat (pv 1) (pe_lst (pa_cons (pe_tup (pa_cons (pv 18) (pa_cons pe_str pa_nil))) pa_nil))) (pa_cons (pe_op op_sub (pv 2) pe_int) pa_nil)))) pa_nil))))))
    (pss_cons (ps_set (i := 12) scDrawn.nd rfl (.inl rfl) (pe_call GW hr (by rfl) gW kW bW .nil pass0 (pa_cons (pv 0) (pa_cons (pe_op op_cat (pv 1) (pe_lst (pa_cons (pe_tup (pa_cons (pv 5) (pa_cons pe_str pa_nil))) pa_nil))) (pa_cons (pe_op op_sub (pv 2) pe_int) pa_nil)))))
    (pss_one (ps_ret (pe_tup (pa_cons pe_str (pa_cons (pe_tup (pa_cons pe_str (pa_cons (pv 5) (pa_cons (pe_tup (pa_cons pe_str (pa_cons (pv 11) (pa_cons (pv 11) pa_nil)))) (pa_cons (pv 12) pa_nil))))) (pa_cons (pv 19) pa_nil))))))))))))))))))))), ?_⟩
  have lw := merge_len ks
  obtain ⟨us, gA, pr⟩ := ka.at_
  have lp := pr.length
  refine ⟨_, rfl, d, c, _, rfl, dk, by decide, by decide, fun way G1 w0 w1 kp1 dk1 => ?_⟩
  have w1 : way < 11 := w1
  have ka1 := ka.kp kp1 dk
  refine ⟨(by show 3 ≤ sizeLine; decide), fun pN nN => lstG nN fun G2 s2 gN => ?_⟩
  have offN := dk1.off nN
  have dk2 := dk1.same s2
  have ka2 := ka1.same s2
  refine ⟨_, rfl, _, rfl, d, c, pN, _, rfl, dk2, gN, offN.1, offN.2, (by show 1 ≤ 3; decide), (by show 3 ≤ 100; decide), fun vX G3 kp3 dk3 hvX => ?_⟩
  have inN : ∀ v : V, v ∈ ([.str "x", .str "y", .str "xy"] : List V) → ∃ x : Nx, v = .str (NM x) := fun v hv => by
    rcases List.mem_cons.mp hv with rfl | hv
    · exact ⟨0, rfl⟩
    rcases List.mem_cons.mp hv with rfl | hv
    · exact ⟨1, rfl⟩
    rcases List.mem_cons.mp hv with rfl | hv
    · exact ⟨2, rfl⟩
    cases hv
  obtain ⟨x, rfl⟩ := inN vX hvX
  have gN3 := kp3 _ _ offN.1 offN.2 gN
  have ka3 := ka2.kp kp3 dk2
  have kp03 := (kp1.trans (.of s2)).trans kp3
  obtain ⟨us3, gA3, pr3⟩ := ka3.at_
  obtain ⟨ps3, rfl, args3⟩ := kn_args (K := K) pr3
  have lp3 := pr3.length
  refine ⟨_, rfl, a, ps3, _, rfl, SqL.of gA3, args3, fun pD4 oD4 nD4 => objG nD4 fun G4 s4 g4 => ⟨pD4, oD4, _, rfl, g4, fun L4 nL4 => ?_⟩⟩
  refine Kt.lc_items (fun j F => Same G4 F ∧ ∃ xs : List Nx, F L4 = some (.lst ((xs.map NM).map V.str)) ∧ xs.length ≤ j ∧ ∀ z ∈ xs, ks.lk z = some false) ⟨newS nL4, [], upd_same, Nat.le_refl _, fun z hz => by cases hz⟩ (fun j F _ z => z.1 _ _ g4) (fun j ky vl T F hk z nT => ?_) (fun F4 z => ?_)
  · obtain ⟨sF, xs, gL, lx, hx⟩ := z
    have lj := (List.getElem?_eq_some_iff.mp hk).1
    obtain ⟨z, ff, e, lk⟩ := merge_sc ks _ (List.mem_of_getElem? hk)
    cases e
    refine ⟨T, _, rfl, SqT.of upd_same, rfl, _, _, rfl, _, _, rfl, rfl, rfl, _, rfl, rfl, _, rfl, ite2 (fun c1 => ?_) (fun c1 => ⟨smk sF (sF.free nT), xs, newS nT _ _ gL, by omega, hx⟩)⟩
    have hf : ff = false := by
      cases ff with
      | false => rfl
      | true => exact absurd c1 (show ¬ decide (V.str (srt true) = V.str (srt false)) = true by decide +kernel)
    subst hf
    refine ⟨_, rfl, _, newS nT _ _ gL, ?_, smk (smk sF (sF.free nT)) nL4, xs ++ [z], ?_, ?_, ?_⟩
    · rw [List.length_map, List.length_map]
      exact small1000 (by omega)
    · rw [upd_same, List.map_append, List.map_append]
      rfl
    · rw [List.length_append]
      show _ + 1 ≤ _
      omega
    · intro y hy
      rcases List.mem_append.mp hy with h | h
      · exact hx y h
      · rw [List.mem_singleton.mp h]
        exact lk
  obtain ⟨sF4, xs4, gL4, lx4, hx4⟩ := z
  replace lx4 : xs4.length ≤ 60 := by omega
  have sA := s4.trans sF4
  refine ⟨_, rfl, a, ps3, _, rfl, SqL.of (sA _ _ gA3), (Paired.mapP args3 fun _ _ z => sqT_same z sA), fun pD5 oD5 nD5 => objG nD5 fun G5 s5 g5 => ⟨pD5, oD5, _, rfl, g5, fun L5 nL5 => ?_⟩⟩
  refine Kt.lc_items (fun j F => Same G5 F ∧ ∃ xs : List Nx, F L5 = some (.lst ((xs.map NM).map V.str)) ∧ xs.length ≤ j ∧ ∀ z ∈ xs, ks.lk z = some true) ⟨newS nL5, [], upd_same, Nat.le_refl _, fun z hz => by cases hz⟩ (fun j F _ z => z.1 _ _ g5) (fun j ky vl T F hk z nT => ?_) (fun F5 z => ?_)
  · obtain ⟨sF, xs, gL, lx, hx⟩ := z
    have lj := (List.getElem?_eq_some_iff.mp hk).1
    obtain ⟨z, ff, e, lk⟩ := merge_sc ks _ (List.mem_of_getElem? hk)
    cases e
    refine ⟨T, _, rfl, SqT.of upd_same, rfl, _, _, rfl, _, _, rfl, rfl, rfl, _, rfl, rfl, _, rfl, ite2 (fun c1 => ?_) (fun c1 => ⟨smk sF (sF.free nT), xs, newS nT _ _ gL, by omega, hx⟩)⟩
    have hf : ff = true := by
      cases ff with
      | true => rfl
      | false => exact absurd c1 (show ¬ decide (V.str (srt false) = V.str (srt true)) = true by decide +kernel)
    subst hf
    refine ⟨_, rfl, _, newS nT _ _ gL, ?_, smk (smk sF (sF.free nT)) nL5, xs ++ [z], ?_, ?_, ?_⟩
    · rw [List.length_map, List.length_map]
      exact small1000 (by omega)
    · rw [upd_same, List.map_append, List.map_append]
      rfl
    · rw [List.length_append]
      show _ + 1 ≤ _
      omega
    · intro y hy
      rcases List.mem_append.mp hy with h | h
      · exact hx y h
      · rw [List.mem_singleton.mp h]
        exact lk
  obtain ⟨sF5, xs5, gL5, lx5, hx5⟩ := z
  replace lx5 : xs5.length ≤ 60 := by omega
  have sB := sA.trans (s5.trans sF5)
  have gL4' := (s5.trans sF5) _ _ gL4
  have offL4 := (dk3.same s4).off nL4
  have offL5 := (dk3.same (sA.trans s5)).off nL5
  clear s4 sF4 s5 sF5 sA g4 g5
  have dkB := dk3.same sB
  have kaB := ka3.same sB
  have gNB := sB _ _ gN3
  have kpB := kp03.trans (.of sB)
  generalize F5 = GB at *
  have kp := kpB
  have dk := dkB
  have ka := kaB
  have gN := gNB
  clear kpB dkB kaB gNB
  refine ⟨_, rfl, rfl, _, rfl, ite2 (fun c1 => iteT ?a1) (fun c1 => ⟨_, rfl, _, _, rfl, rfl, _, rfl, ite2 (fun c2 => ?a2) (fun c2 => ?b)⟩)⟩
  case a1 =>
    refine ⟨_, rfl, Nat.zero_le _, fun e4 ne4 => ⟨.list ((xs4.map NM).map PyData.str), .list [], .lst (SqL.of (newS ne4 _ _ gL4')) (dpStrs K _ _), .lst (SqL.of upd_same) .nil, shNM _, rfl, _, rfl, ite2 (fun z4 => ?zp) (fun z4 => ?zq)⟩⟩
    case zp =>
      have ka := ka.same (newS (o := .lst []) ne4)
      have kp := kp.trans (.of (newS (o := .lst []) ne4))
      have gN := (newS (o := .lst []) ne4) _ _ gN
      have dk := dk.same (newS (o := .lst []) ne4)
      have l0 : 0 < xs4.length := by
        rw [eqvNil] at z4
        cases xs4 with
        | nil => cases z4
        | cons x r => exact Nat.succ_pos _
      have inX : ∀ v : V, v ∈ ((xs4.map NM).map V.str) → ∃ z : Nx, v = .str (NM z) ∧ z ∈ xs4 := fun v hv => by
        rw [List.map_map] at hv
        obtain ⟨z, hz, rfl⟩ := List.mem_map.mp hv
        exact ⟨z, rfl, hz⟩
      refine ⟨_, rfl, _, rfl, d, c, L4, _, rfl, dk, newS ne4 _ _ gL4', offL4.1, offL4.2, (by rw [List.length_map, List.length_map]; omega), (by rw [List.length_map, List.length_map]; omega), fun vv G7 k7 e7 hv => ?_⟩
      obtain ⟨z, rfl, hz⟩ := inX vv hv
      refine ⟨(by show 2 ≤ sizeLine; decide), fun p8 n8 => tupG n8 (.cons (.str _) (.cons (.str _) .nil)) fun G8 s8 d8 => ?_⟩
      exact q _ (.name z) _ ((kp.trans k7).trans (.of s8)) (e7.same s8) (.name (hx4 z hz)) d8
    case zq =>
      have ka := ka.same (newS (o := .lst []) ne4)
      have kp := kp.trans (.of (newS (o := .lst []) ne4))
      have gN := (newS (o := .lst []) ne4) _ _ gN
      have dk := dk.same (newS (o := .lst []) ne4)
      refine ⟨_, rfl, d, c, rfl, dk, fun v j G7 k7 e7 hj dd => ?_⟩
      exact q _ (.num j) _ (kp.trans k7) e7 (.num hj) dd
  case a2 =>
    refine ⟨_, rfl, Nat.zero_le _, fun e4 ne4 => ⟨.list ((xs4.map NM).map PyData.str), .list [], .lst (SqL.of (newS ne4 _ _ gL4')) (dpStrs K _ _), .lst (SqL.of upd_same) .nil, shNM _, rfl, _, rfl, ite2 (fun z4 => ?zp) (fun z4 => ?zq)⟩⟩
    case zp =>
      have ka := ka.same (newS (o := .lst []) ne4)
      have kp := kp.trans (.of (newS (o := .lst []) ne4))
      have gN := (newS (o := .lst []) ne4) _ _ gN
      have dk := dk.same (newS (o := .lst []) ne4)
      have l0 : 0 < xs4.length := by
        rw [eqvNil] at z4
        cases xs4 with
        | nil => cases z4
        | cons x r => exact Nat.succ_pos _
      have inX : ∀ v : V, v ∈ ((xs4.map NM).map V.str) → ∃ z : Nx, v = .str (NM z) ∧ z ∈ xs4 := fun v hv => by
        rw [List.map_map] at hv
        obtain ⟨z, hz, rfl⟩ := List.mem_map.mp hv
        exact ⟨z, rfl, hz⟩
      refine ⟨_, rfl, _, rfl, d, c, L4, _, rfl, dk, newS ne4 _ _ gL4', offL4.1, offL4.2, (by rw [List.length_map, List.length_map]; omega), (by rw [List.length_map, List.length_map]; omega), fun vv G7 k7 e7 hv => ?_⟩
      obtain ⟨z, rfl, hz⟩ := inX vv hv
      refine ⟨(by show 2 ≤ sizeLine; decide), fun p8 n8 => tupG n8 (.cons (.str _) (.cons (.str _) .nil)) fun G8 s8 d8 => ?_⟩
      exact q _ (.name z) _ ((kp.trans k7).trans (.of s8)) (e7.same s8) (.name (hx4 z hz)) d8
    case zq =>
      have ka := ka.same (newS (o := .lst []) ne4)
      have kp := kp.trans (.of (newS (o := .lst []) ne4))
      have gN := (newS (o := .lst []) ne4) _ _ gN
      have dk := dk.same (newS (o := .lst []) ne4)
      refine ⟨_, rfl, d, c, rfl, dk, fun v j G7 k7 e7 hj dd => ?_⟩
      exact q _ (.num j) _ (kp.trans k7) e7 (.num hj) dd
  case b =>
    have i0 : i ≠ 0 := fun z => by
      rw [z] at c1
      exact c1 (by decide +kernel)
    obtain ⟨n, rfl⟩ : ∃ j, n = j + 1 := ⟨n - 1, by omega⟩
    refine ⟨fun σ G => σ = [some (.ref d), some (.ref a), some (.int i), some (.int way), some (.ref pN), some (.str (NM x)), none, none, some (.ref L4), some (.ref L5), none, none, none, none, none, none, none, none, none, none] ∧ Same GB G, ?_, ?b2⟩
    refine ⟨_, rfl, _, _, rfl, rfl, _, rfl, ite2 (fun c3 => ⟨_, rfl, Nat.zero_le _, fun e5 ne5 => ⟨.list ((xs5.map NM).map PyData.str), .list [], .lst (SqL.of (newS ne5 _ _ gL5)) (dpStrs K _ _), .lst (SqL.of upd_same) .nil, shNM _, rfl, _, rfl, ite2 (fun z5 => ?f) (fun z5 => ⟨rfl, newS ne5⟩)⟩⟩) (fun c3 => iteF ⟨rfl, fun _ _ e => e⟩)⟩
    case f =>
      have ka := ka.same (newS (o := .lst []) ne5)
      have kp := kp.trans (.of (newS (o := .lst []) ne5))
      have gN := (newS (o := .lst []) ne5) _ _ gN
      have dk := dk.same (newS (o := .lst []) ne5)
      have l0 : 0 < xs5.length := by
        rw [eqvNil] at z5
        cases xs5 with
        | nil => cases z5
        | cons x r => exact Nat.succ_pos _
      have inX : ∀ v : V, v ∈ ((xs5.map NM).map V.str) → ∃ z : Nx, v = .str (NM z) ∧ z ∈ xs5 := fun v hv => by
        rw [List.map_map] at hv
        obtain ⟨z, hz, rfl⟩ := List.mem_map.mp hv
        exact ⟨z, rfl, hz⟩
      refine ⟨_, rfl, _, rfl, d, c, L5, _, rfl, dk, newS ne5 _ _ gL5, offL5.1, offL5.2, (by rw [List.length_map, List.length_map]; omega), (by rw [List.length_map, List.length_map]; omega), fun vv G7 k7 e7 hv => ?_⟩
      obtain ⟨z, rfl, hz⟩ := inX vv hv
      have ka := ka.kp k7 dk
      have kp := kp.trans k7
      have gN := k7 _ _ offN.1 offN.2 gN
      have dk := e7
      refine ⟨_, rfl, (by show 2 ≤ sizeLine; decide), fun p101 n101 => tupG n101 (.cons (.str _) (.cons (.str _) .nil)) fun G101 s101 dd101 => ?_⟩
      have ka := ka.same (s101)
      have kp := kp.trans (.of (s101))
      have gN := (s101) _ _ gN
      have dk := dk.same (s101)
      refine ⟨_, rfl, _, rfl, _, rfl, _, _, rfl, rfl, d, c, a, _, n, ks, rfl, by omega, by omega, dk, ka, by omega, fun v102 t102 G102 k102 e102 dr102 dd102 => ?_⟩
      have ka := ka.kp k102 dk
      have kp := kp.trans k102
      have dd101 := dd101.kn (k102.rk dk).kn
      have gN := k102 _ _ offN.1 offN.2 gN
      have dk := e102
      refine ⟨(by show 3 ≤ sizeLine; decide), fun p103 n103 => tupG n103 (.cons (.str _) (.cons dd101 (.cons dd102 .nil))) fun G103 s103 dd103 => ?_⟩
      have ka := ka.same (s103)
      have kp := kp.trans (.of (s103))
      have dd101 := dd101.same (s103)
      have dd102 := dd102.same (s103)
      have gN := (s103) _ _ gN
      have dk := dk.same (s103)
      exact q _ (.callN z t102) _ kp dk (.callN (hx5 z hz) dr102) dd103
    case b2 =>
      rintro σ G ⟨rfl, sJ⟩
      have ka := ka.same (sJ)
      have kp := kp.trans (.of (sJ))
      have gN := (sJ) _ _ gN
      have dk := dk.same (sJ)
      refine ⟨_, rfl, rfl, _, rfl, ite2 (fun c4 => ?p4) (fun c4 => ?r4)⟩
      case p4 =>
        refine ⟨_, rfl, _, rfl, _, rfl, _, _, rfl, rfl, d, c, a, _, n, ks, rfl, by omega, by omega, dk, ka, by omega, fun v104 t104 G104 k104 e104 dr104 dd104 => ?_⟩
        have ka := ka.kp k104 dk
        have kp := kp.trans k104
        have gN := k104 _ _ offN.1 offN.2 gN
        have dk := e104
        refine ⟨_, rfl, _, rfl, _, rfl, _, rfl, _, _, rfl, rfl, d, c, a, _, n, ks, rfl, by omega, by omega, dk, ka, by omega, fun v105 t105 G105 k105 e105 dr105 dd105 => ?_⟩
        have ka := ka.kp k105 dk
        have kp := kp.trans k105
        have dd104 := dd104.kn (k105.rk dk).kn
        have gN := k105 _ _ offN.1 offN.2 gN
        have dk := e105
        refine ⟨(by show 3 ≤ sizeLine; decide), fun p106 n106 => tupG n106 (.cons (.str _) (.cons dd104 (.cons dd105 .nil))) fun G106 s106 dd106 => ?_⟩
        have ka := ka.same (s106)
        have kp := kp.trans (.of (s106))
        have dd104 := dd104.same (s106)
        have dd105 := dd105.same (s106)
        have gN := (s106) _ _ gN
        have dk := dk.same (s106)
        exact q _ (.plus t104 t105) _ kp dk (.plus dr104 dr105) dd106
      case r4 =>
        refine ⟨(by show 1 ≤ sizeLine; decide), fun p107 n107 => tupG n107 (.cons (.str _) .nil) fun G107 s107 dd107 => ?_⟩
        have ka := ka.same (s107)
        have kp := kp.trans (.of (s107))
        have gN := (s107) _ _ gN
        have dk := dk.same (s107)
        refine ⟨_, rfl, _, _, rfl, rfl, _, rfl, ite2 (fun c5 => ?p5) (fun c5 => ?r5)⟩
        case p5 =>
          refine ⟨_, rfl, _, rfl, _, rfl, _, _, rfl, rfl, d, c, a, _, n, ks, rfl, by omega, by omega, dk, ka, by omega, fun v108 t108 G108 k108 e108 dr108 dd108 => ?_⟩
          have ka := ka.kp k108 dk
          have kp := kp.trans k108
          have dd107 := dd107.kn (k108.rk dk).kn
          have gN := k108 _ _ offN.1 offN.2 gN
          have dk := e108
          obtain ⟨us109, gA109, pr109⟩ := ka.at_
          have lp109 := pr109.length
          refine ⟨_, rfl, _, rfl, _, rfl, (by show 2 ≤ sizeLine; decide), fun p109 np109 => objG np109 fun Ga109 sa109 ga109 => ⟨(by show 1 ≤ sizeLine; decide), fun l109 nl109 => lstG nl109 fun Gb109 sb109 gb109 => ⟨_, _, _, _, rfl, rfl, sb109 _ _ (sa109 _ _ gA109), gb109, szBig (by show _ + 1 ≤ _; omega), fun q109 nq109 => objG nq109 fun Gc109 sc109 gc109 => ⟨_, rfl, _, _, rfl, rfl, ?_⟩⟩⟩⟩
          have s24109 := sa109.trans (sb109.trans sc109)
          have off109 := (dk.same (sa109.trans sb109)).off nq109
          have kb109 : KnAt d c Gc109 q109 (ks.add x false) := KnAt.add s24109 pr109 (sc109 _ _ (sb109 _ _ ga109)) gc109 off109.1 off109.2
          have ka := ka.same (s24109)
          have kp := kp.trans (.of (s24109))
          have dd107 := dd107.same (s24109)
          have dd108 := dd108.same (s24109)
          have gN := (s24109) _ _ gN
          have dk := dk.same (s24109)
          refine ⟨d, c, q109, _, n, _, rfl, by omega, by omega, dk, kb109, (by rw [Sc.ls, List.length_append]; show _ + 1 + _ ≤ _; omega), fun v109 t109 G109 k109 e109 dr109 dd109 => ?_⟩
          have ka := ka.kp k109 dk
          have kp := kp.trans k109
          have dd107 := dd107.kn (k109.rk dk).kn
          have dd108 := dd108.kn (k109.rk dk).kn
          have gN := k109 _ _ offN.1 offN.2 gN
          have dk := e109
          refine ⟨_, rfl, _, rfl, _, rfl, (by show 4 ≤ sizeLine; decide), fun p110 n110 => tupG n110 (.cons (.str _) (.cons (.str _) (.cons dd107 (.cons dd109 .nil)))) fun G110 s110 dd110 => ?_⟩
          have ka := ka.same (s110)
          have kp := kp.trans (.of (s110))
          have dd107 := dd107.same (s110)
          have dd108 := dd108.same (s110)
          have dd109 := dd109.same (s110)
          have gN := (s110) _ _ gN
          have dk := dk.same (s110)
          refine ⟨_, rfl, (by show 3 ≤ sizeLine; decide), fun p111 n111 => tupG n111 (.cons (.str _) (.cons dd110 (.cons dd108 .nil))) fun G111 s111 dd111 => ?_⟩
          have ka := ka.same (s111)
          have kp := kp.trans (.of (s111))
          have dd107 := dd107.same (s111)
          have dd108 := dd108.same (s111)
          have dd109 := dd109.same (s111)
          have dd110 := dd110.same (s111)
          have gN := (s111) _ _ gN
          have dk := dk.same (s111)
          exact q _ (.callF x t108 t109) _ kp dk (.callF dr108 dr109) dd111
        case r5 =>
          refine ⟨_, rfl, rfl, _, rfl, ite2 (fun c6 => ?p6) (fun c6 => ?r6)⟩
          case p6 =>
            refine ⟨_, rfl, _, rfl, pN, rfl, ⟨_, SqL.of gN⟩, fun E6 nE6 => ?_⟩
            refine lc_list (K := K) (a := pN) (xs := [.str "x", .str "y", .str "xy"]) (fun j F => Same G107 F ∧ F E6 = some (.lst ((([.str "x", .str "y", .str "xy"] : List V).take j).filter fun v => !decide (v = V.str (NM x))))) ⟨newS nE6, upd_same⟩ (fun j F _ z => SqL.of (z.1 _ _ gN)) (fun j u F hu z => ?_) (fun F z => ?_)
            · obtain ⟨sF, gE⟩ := z
              obtain ⟨y, rfl⟩ := inN u (List.mem_of_getElem? hu)
              refine ⟨rfl, _, rfl, _, rfl, rfl, _, rfl, ite2 (fun c => ⟨_, rfl, _, gE, Nat.lt_of_le_of_lt (List.length_filter_le _ _) (by rw [List.length_take]; exact small1000 (Nat.le_trans (Nat.min_le_right _ _) (by show 3 ≤ 1000; decide))), smk sF nE6, ?_⟩) (fun c => ⟨sF, ?_⟩)⟩
              · rw [upd_same, List.take_add_one, hu, List.filter_append]
                have hp : (!decide (V.str (NM y) = V.str (NM x))) = true := c
                show _ = some (HO.lst (_ ++ [V.str (NM y)].filter _))
                rw [List.filter_cons_of_pos (p := fun v => !decide (v = V.str (NM x))) hp]
                rfl
              · rw [List.take_add_one, hu, List.filter_append, gE]
                have hp : ¬ (!decide (V.str (NM y) = V.str (NM x))) = true := c
                show _ = some (HO.lst (_ ++ [V.str (NM y)].filter _))
                rw [List.filter_cons_of_neg (p := fun v => !decide (v = V.str (NM x))) hp]
                show _ = some (HO.lst (_ ++ []))
                rw [List.append_nil]
            obtain ⟨sF6, gE6⟩ := z
            obtain ⟨ya, yb, ey⟩ : ∃ ya yb : Nx, ((([.str "x", .str "y", .str "xy"] : List V).take 3).filter fun v => !decide (v = V.str (NM x))) = [V.str (NM ya), V.str (NM yb)] := by
              clear gE6
              match x with
              | 0 => exact ⟨1, 2, by decide +kernel⟩
              | 1 => exact ⟨0, 2, by decide +kernel⟩
              | 2 => exact ⟨0, 1, by decide +kernel⟩
            have gE6 := gE6.trans (congrArg (fun z => some (HO.lst z)) ey)
            have offE := dk.off nE6
            have ka := ka.same (sF6)
            have kp := kp.trans (.of (sF6))
            have dd107 := dd107.same (sF6)
            have gN := (sF6) _ _ gN
            have dk := dk.same (sF6)
            refine ⟨d, c, E6, _, rfl, dk, gE6, offE.1, offE.2, (by show 1 ≤ 2; decide), (by show 2 ≤ 100; decide), fun vv G7 k7 e7 hv => ?_⟩
            obtain ⟨y, rfl⟩ : ∃ y : Nx, vv = .str (NM y) := by
              rcases List.mem_cons.mp hv with rfl | hv
              · exact ⟨ya, rfl⟩
              rcases List.mem_cons.mp hv with rfl | hv
              · exact ⟨yb, rfl⟩
              cases hv
            have ka := ka.kp k7 dk
            have kp := kp.trans k7
            have dd107 := dd107.kn (k7.rk dk).kn
            have gN := k7 _ _ offN.1 offN.2 gN
            have dk := e7
            refine ⟨_, rfl, d, c, rfl, dk, fun v8 j8 G8 k8 e8 h8 dd8 => ?_⟩
            have ka := ka.kp k8 dk
            have kp := kp.trans k8
            have dd107 := dd107.kn (k8.rk dk).kn
            have gN := k8 _ _ offN.1 offN.2 gN
            have dk := e8
            refine ⟨_, rfl, (by show 2 ≤ sizeLine; decide), fun p112 n112 => tupG n112 (.cons (.str _) (.cons dd107 .nil)) fun G112 s112 dd112 => ?_⟩
            have ka := ka.same (s112)
            have kp := kp.trans (.of (s112))
            have dd107 := dd107.same (s112)
            have dd8 := dd8.same (s112)
            have gN := (s112) _ _ gN
            have dk := dk.same (s112)
            refine ⟨(by show 3 ≤ sizeLine; decide), fun p113 n113 => tupG n113 (.cons (.str _) (.cons dd8 (.cons dd112 .nil))) fun G113 s113 dd113 => ?_⟩
            have ka := ka.same (s113)
            have kp := kp.trans (.of (s113))
            have dd107 := dd107.same (s113)
            have dd8 := dd8.same (s113)
            have dd112 := dd112.same (s113)
            have gN := (s113) _ _ gN
            have dk := dk.same (s113)
            refine ⟨_, rfl, _, rfl, _, rfl, _, _, rfl, rfl, d, c, a, _, n, ks, rfl, by omega, by omega, dk, ka, by omega, fun v114 t114 G114 k114 e114 dr114 dd114 => ?_⟩
            have ka := ka.kp k114 dk
            have kp := kp.trans k114
            have dd107 := dd107.kn (k114.rk dk).kn
            have dd8 := dd8.kn (k114.rk dk).kn
            have dd112 := dd112.kn (k114.rk dk).kn
            have dd113 := dd113.kn (k114.rk dk).kn
            have gN := k114 _ _ offN.1 offN.2 gN
            have dk := e114
            refine ⟨_, rfl, (by show 3 ≤ sizeLine; decide), fun p115 n115 => tupG n115 (.cons (.str _) (.cons dd114 (.cons dd113 .nil))) fun G115 s115 dd115 => ?_⟩
            have ka := ka.same (s115)
            have kp := kp.trans (.of (s115))
            have dd107 := dd107.same (s115)
            have dd8 := dd8.same (s115)
            have dd112 := dd112.same (s115)
            have dd113 := dd113.same (s115)
            have dd114 := dd114.same (s115)
            have gN := (s115) _ _ gN
            have dk := dk.same (s115)
            obtain ⟨us116, gA116, pr116⟩ := ka.at_
            have lp116 := pr116.length
            refine ⟨_, rfl, _, rfl, _, rfl, (by show 2 ≤ sizeLine; decide), fun p116 np116 => objG np116 fun Ga116 sa116 ga116 => ⟨_, rfl, (by show 2 ≤ sizeLine; decide), fun pp116 npp116 => objG npp116 fun Gx116 sx116 gx116 => ⟨(by show 2 ≤ sizeLine; decide), fun l116 nl116 => lstG nl116 fun Gb116 sb116 gb116 => ⟨_, _, _, _, rfl, rfl, sb116 _ _ (sx116 _ _ (sa116 _ _ gA116)), gb116, szBig (by show _ + 2 ≤ _; omega), fun q116 nq116 => objG nq116 fun Gc116 sc116 gc116 => ⟨_, rfl, _, _, rfl, rfl, ?_⟩⟩⟩⟩⟩
            have s24116 := sa116.trans (sx116.trans (sb116.trans sc116))
            have off116 := (dk.same (sa116.trans (sx116.trans sb116))).off nq116
            have kb116 : KnAt d c Gc116 q116 ((ks.add x false).add y false) := KnAt.add2 s24116 pr116 (sc116 _ _ (sb116 _ _ (sx116 _ _ ga116))) (sc116 _ _ (sb116 _ _ gx116)) gc116 off116.1 off116.2
            have ka := ka.same (s24116)
            have kp := kp.trans (.of (s24116))
            have dd107 := dd107.same (s24116)
            have dd8 := dd8.same (s24116)
            have dd112 := dd112.same (s24116)
            have dd113 := dd113.same (s24116)
            have dd114 := dd114.same (s24116)
            have dd115 := dd115.same (s24116)
            have gN := (s24116) _ _ gN
            have dk := dk.same (s24116)
            refine ⟨d, c, q116, _, n, _, rfl, by omega, by omega, dk, kb116, (by rw [Sc.ls, Sc.ls, List.length_append, List.length_append]; show _ + 1 + 1 + _ ≤ _; omega), fun v116 t116 G116 k116 e116 dr116 dd116 => ?_⟩
            have ka := ka.kp k116 dk
            have kp := kp.trans k116
            have dd107 := dd107.kn (k116.rk dk).kn
            have dd8 := dd8.kn (k116.rk dk).kn
            have dd112 := dd112.kn (k116.rk dk).kn
            have dd113 := dd113.kn (k116.rk dk).kn
            have dd114 := dd114.kn (k116.rk dk).kn
            have dd115 := dd115.kn (k116.rk dk).kn
            have gN := k116 _ _ offN.1 offN.2 gN
            have dk := e116
            refine ⟨_, rfl, _, rfl, _, rfl, _, rfl, _, _, rfl, rfl, d, c, a, _, n, ks, rfl, by omega, by omega, dk, ka, by omega, fun v117 t117 G117 k117 e117 dr117 dd117 => ?_⟩
            have ka := ka.kp k117 dk
            have kp := kp.trans k117
            have dd107 := dd107.kn (k117.rk dk).kn
            have dd8 := dd8.kn (k117.rk dk).kn
            have dd112 := dd112.kn (k117.rk dk).kn
            have dd113 := dd113.kn (k117.rk dk).kn
            have dd114 := dd114.kn (k117.rk dk).kn
            have dd115 := dd115.kn (k117.rk dk).kn
            have dd116 := dd116.kn (k117.rk dk).kn
            have gN := k117 _ _ offN.1 offN.2 gN
            have dk := e117
            refine ⟨_, rfl, _, rfl, _, rfl, (by show 6 ≤ sizeLine; decide), fun p118 n118 => tupG n118 (.cons (.str _) (.cons dd115 (.cons dd117 (.cons (.str _) (.cons (.str _) (.cons dd116 .nil)))))) fun G118 s118 dd118 => ?_⟩
            have ka := ka.same (s118)
            have kp := kp.trans (.of (s118))
            have dd107 := dd107.same (s118)
            have dd8 := dd8.same (s118)
            have dd112 := dd112.same (s118)
            have dd113 := dd113.same (s118)
            have dd114 := dd114.same (s118)
            have dd115 := dd115.same (s118)
            have dd116 := dd116.same (s118)
            have dd117 := dd117.same (s118)
            have gN := (s118) _ _ gN
            have dk := dk.same (s118)
            exact q _ (.fold t114 j8 t117 x y t116) _ kp dk (.fold h8 dr114 dr117 dr116) dd118
          case r6 =>
            refine ⟨_, rfl, rfl, _, rfl, ite2 (fun c7 => ?p7) (fun c7 => ?r7)⟩
            case p7 =>
              refine ⟨_, rfl, _, rfl, _, rfl, _, _, rfl, rfl, d, c, a, _, n, ks, rfl, by omega, by omega, dk, ka, by omega, fun v119 t119 G119 k119 e119 dr119 dd119 => ?_⟩
              have ka := ka.kp k119 dk
              have kp := kp.trans k119
              have dd107 := dd107.kn (k119.rk dk).kn
              have gN := k119 _ _ offN.1 offN.2 gN
              have dk := e119
              refine ⟨_, rfl, _, rfl, (by show 3 ≤ sizeLine; decide), fun p120 n120 => tupG n120 (.cons (.str _) (.cons dd119 (.cons dd107 .nil))) fun G120 s120 dd120 => ?_⟩
              have ka := ka.same (s120)
              have kp := kp.trans (.of (s120))
              have dd107 := dd107.same (s120)
              have dd119 := dd119.same (s120)
              have gN := (s120) _ _ gN
              have dk := dk.same (s120)
              refine ⟨_, rfl, _, rfl, (by show 3 ≤ sizeLine; decide), fun p121 n121 => tupG n121 (.cons (.str _) (.cons dd107 (.cons dd119 .nil))) fun G121 s121 dd121 => ?_⟩
              have ka := ka.same (s121)
              have kp := kp.trans (.of (s121))
              have dd107 := dd107.same (s121)
              have dd119 := dd119.same (s121)
              have dd120 := dd120.same (s121)
              have gN := (s121) _ _ gN
              have dk := dk.same (s121)
              refine ⟨(by show 2 ≤ sizeLine; decide), fun l9 n9 => lstG n9 fun G9 s9 g9 => ?_⟩
              have off9 := dk.off n9
              have ka := ka.same (s9)
              have kp := kp.trans (.of (s9))
              have dd107 := dd107.same (s9)
              have dd119 := dd119.same (s9)
              have dd120 := dd120.same (s9)
              have dd121 := dd121.same (s9)
              have gN := (s9) _ _ gN
              have dk := dk.same (s9)
              refine ⟨_, rfl, d, c, _, rfl, dk, by decide, by decide, fun r10 G10 a10 b10 k10 e10 => ?_⟩
              have b10 : r10 < 2 := b10
              have g9 := k10 _ _ off9.1 off9.2 g9
              have ka := ka.kp k10 dk
              have kp := kp.trans k10
              have dd107 := dd107.kn (k10.rk dk).kn
              have dd119 := dd119.kn (k10.rk dk).kn
              have dd120 := dd120.kn (k10.rk dk).kn
              have dd121 := dd121.kn (k10.rk dk).kn
              have gN := k10 _ _ offN.1 offN.2 gN
              have dk := e10
              obtain ⟨sd, pS, at10, ddS⟩ : ∃ (sd : Bool) (pS : Addr), atI [V.ref p120, .ref p121] r10 = some (.ref pS) ∧ Dd Non G10 (sideD sd (t119.d NM)) (.ref pS) := by
                have hr10 : r10 = 0 ∨ r10 = 1 := by omega
                rcases hr10 with rfl | rfl
                · exact ⟨false, p120, rfl, dd120⟩
                · exact ⟨true, p121, rfl, dd121⟩
              refine ⟨l9, _, _, _, rfl, rfl, SqL.of g9, at10, ?_⟩
              refine ⟨_, rfl, _, rfl, d, c, pN, _, rfl, dk, gN, offN.1, offN.2, (by show 1 ≤ 3; decide), (by show 3 ≤ 100; decide), fun vv122 G122 k122 e122 hv122 => ?_⟩
              obtain ⟨y, rfl⟩ := inN vv122 hv122
              have ka := ka.kp k122 dk
              have kp := kp.trans k122
              have dd107 := dd107.kn (k122.rk dk).kn
              have dd119 := dd119.kn (k122.rk dk).kn
              have dd120 := dd120.kn (k122.rk dk).kn
              have dd121 := dd121.kn (k122.rk dk).kn
              have ddS := ddS.kn (k122.rk dk).kn
              have gN := k122 _ _ offN.1 offN.2 gN
              have dk := e122
              obtain ⟨us123, gA123, pr123⟩ := ka.at_
              have lp123 := pr123.length
              refine ⟨_, rfl, _, rfl, _, rfl, (by show 2 ≤ sizeLine; decide), fun p123 np123 => objG np123 fun Ga123 sa123 ga123 => ⟨(by show 1 ≤ sizeLine; decide), fun l123 nl123 => lstG nl123 fun Gb123 sb123 gb123 => ⟨_, _, _, _, rfl, rfl, sb123 _ _ (sa123 _ _ gA123), gb123, szBig (by show _ + 1 ≤ _; omega), fun q123 nq123 => objG nq123 fun Gc123 sc123 gc123 => ⟨_, rfl, _, _, rfl, rfl, ?_⟩⟩⟩⟩
              have s24123 := sa123.trans (sb123.trans sc123)
              have off123 := (dk.same (sa123.trans sb123)).off nq123
              have kb123 : KnAt d c Gc123 q123 (ks.add x false) := KnAt.add s24123 pr123 (sc123 _ _ (sb123 _ _ ga123)) gc123 off123.1 off123.2
              have ka := ka.same (s24123)
              have kp := kp.trans (.of (s24123))
              have dd107 := dd107.same (s24123)
              have dd119 := dd119.same (s24123)
              have dd120 := dd120.same (s24123)
              have dd121 := dd121.same (s24123)
              have ddS := ddS.same (s24123)
              have gN := (s24123) _ _ gN
              have dk := dk.same (s24123)
              refine ⟨d, c, q123, _, n, _, rfl, by omega, by omega, dk, kb123, (by rw [Sc.ls, List.length_append]; show _ + 1 + _ ≤ _; omega), fun v123 t123 G123 k123 e123 dr123 dd123 => ?_⟩
              have ka := ka.kp k123 dk
              have kp := kp.trans k123
              have dd107 := dd107.kn (k123.rk dk).kn
              have dd119 := dd119.kn (k123.rk dk).kn
              have dd120 := dd120.kn (k123.rk dk).kn
              have dd121 := dd121.kn (k123.rk dk).kn
              have ddS := ddS.kn (k123.rk dk).kn
              have gN := k123 _ _ offN.1 offN.2 gN
              have dk := e123
              obtain ⟨us124, gA124, pr124⟩ := ka.at_
              have lp124 := pr124.length
              refine ⟨_, rfl, _, rfl, _, rfl, (by show 2 ≤ sizeLine; decide), fun p124 np124 => objG np124 fun Ga124 sa124 ga124 => ⟨(by show 1 ≤ sizeLine; decide), fun l124 nl124 => lstG nl124 fun Gb124 sb124 gb124 => ⟨_, _, _, _, rfl, rfl, sb124 _ _ (sa124 _ _ gA124), gb124, szBig (by show _ + 1 ≤ _; omega), fun q124 nq124 => objG nq124 fun Gc124 sc124 gc124 => ⟨_, rfl, _, _, rfl, rfl, ?_⟩⟩⟩⟩
              have s24124 := sa124.trans (sb124.trans sc124)
              have off124 := (dk.same (sa124.trans sb124)).off nq124
              have kb124 : KnAt d c Gc124 q124 (ks.add y false) := KnAt.add s24124 pr124 (sc124 _ _ (sb124 _ _ ga124)) gc124 off124.1 off124.2
              have ka := ka.same (s24124)
              have kp := kp.trans (.of (s24124))
              have dd107 := dd107.same (s24124)
              have dd119 := dd119.same (s24124)
              have dd120 := dd120.same (s24124)
              have dd121 := dd121.same (s24124)
              have ddS := ddS.same (s24124)
              have dd123 := dd123.same (s24124)
              have gN := (s24124) _ _ gN
              have dk := dk.same (s24124)
              refine ⟨d, c, q124, _, n, _, rfl, by omega, by omega, dk, kb124, (by rw [Sc.ls, List.length_append]; show _ + 1 + _ ≤ _; omega), fun v124 t124 G124 k124 e124 dr124 dd124 => ?_⟩
              have ka := ka.kp k124 dk
              have kp := kp.trans k124
              have dd107 := dd107.kn (k124.rk dk).kn
              have dd119 := dd119.kn (k124.rk dk).kn
              have dd120 := dd120.kn (k124.rk dk).kn
              have dd121 := dd121.kn (k124.rk dk).kn
              have ddS := ddS.kn (k124.rk dk).kn
              have dd123 := dd123.kn (k124.rk dk).kn
              have gN := k124 _ _ offN.1 offN.2 gN
              have dk := e124
              refine ⟨_, rfl, _, rfl, _, rfl, _, rfl, _, rfl, (by show 6 ≤ sizeLine; decide), fun p125 n125 => tupG n125 (.cons (.str _) (.cons ddS (.cons (.str _) (.cons dd123 (.cons (.str _) (.cons dd124 .nil)))))) fun G125 s125 dd125 => ?_⟩
              have ka := ka.same (s125)
              have kp := kp.trans (.of (s125))
              have dd107 := dd107.same (s125)
              have dd119 := dd119.same (s125)
              have dd120 := dd120.same (s125)
              have dd121 := dd121.same (s125)
              have ddS := ddS.same (s125)
              have dd123 := dd123.same (s125)
              have dd124 := dd124.same (s125)
              have gN := (s125) _ _ gN
              have dk := dk.same (s125)
              exact q _ (.case sd t119 x t123 y t124) _ kp dk (.case dr119 dr123 dr124) dd125
            case r7 =>
              refine ⟨_, rfl, rfl, _, rfl, ite2 (fun c8 => ?p8) (fun c8 => ?r8)⟩
              case p8 =>
                refine ⟨_, rfl, _, rfl, _, rfl, _, rfl, d, c, a, x, _, n, ks, rfl, by omega, by omega, dk, ka, by omega, fun v t G k e dr dd => ?_⟩
                exact q v t G (kp.trans k) e dr dd
              case r8 =>
                refine ⟨_, rfl, _, rfl, d, c, pN, _, rfl, dk, gN, offN.1, offN.2, (by show 1 ≤ 3; decide), (by show 3 ≤ 100; decide), fun vv126 G126 k126 e126 hv126 => ?_⟩
                obtain ⟨y, rfl⟩ := inN vv126 hv126
                have ka := ka.kp k126 dk
                have kp := kp.trans k126
                have dd107 := dd107.kn (k126.rk dk).kn
                have gN := k126 _ _ offN.1 offN.2 gN
                have dk := e126
                obtain ⟨us127, gA127, pr127⟩ := ka.at_
                have lp127 := pr127.length
                refine ⟨_, rfl, _, rfl, _, rfl, _, rfl, _, rfl, (by show 2 ≤ sizeLine; decide), fun p127 np127 => objG np127 fun Ga127 sa127 ga127 => ⟨(by show 1 ≤ sizeLine; decide), fun l127 nl127 => lstG nl127 fun Gb127 sb127 gb127 => ⟨_, _, _, _, rfl, rfl, sb127 _ _ (sa127 _ _ gA127), gb127, szBig (by show _ + 1 ≤ _; omega), fun q127 nq127 => objG nq127 fun Gc127 sc127 gc127 => ⟨_, rfl, _, _, rfl, rfl, ?_⟩⟩⟩⟩
                have s24127 := sa127.trans (sb127.trans sc127)
                have off127 := (dk.same (sa127.trans sb127)).off nq127
                have kb127 : KnAt d c Gc127 q127 (ks.add y false) := KnAt.add s24127 pr127 (sc127 _ _ (sb127 _ _ ga127)) gc127 off127.1 off127.2
                have ka := ka.same (s24127)
                have kp := kp.trans (.of (s24127))
                have dd107 := dd107.same (s24127)
                have gN := (s24127) _ _ gN
                have dk := dk.same (s24127)
                refine ⟨d, c, q127, _, n, _, rfl, by omega, by omega, dk, kb127, (by rw [Sc.ls, List.length_append]; show _ + 1 + _ ≤ _; omega), fun v127 t127 G127 k127 e127 dr127 dd127 => ?_⟩
                have ka := ka.kp k127 dk
                have kp := kp.trans k127
                have dd107 := dd107.kn (k127.rk dk).kn
                have gN := k127 _ _ offN.1 offN.2 gN
                have dk := e127
                refine ⟨(by show 4 ≤ sizeLine; decide), fun p128 n128 => tupG n128 (.cons (.str _) (.cons (.str _) (.cons dd107 (.cons dd127 .nil)))) fun G128 s128 dd128 => ?_⟩
                have ka := ka.same (s128)
                have kp := kp.trans (.of (s128))
                have dd107 := dd107.same (s128)
                have dd127 := dd127.same (s128)
                have gN := (s128) _ _ gN
                have dk := dk.same (s128)
                obtain ⟨us129, gA129, pr129⟩ := ka.at_
                have lp129 := pr129.length
                refine ⟨_, rfl, _, rfl, _, rfl, (by show 2 ≤ sizeLine; decide), fun p129 np129 => objG np129 fun Ga129 sa129 ga129 => ⟨(by show 1 ≤ sizeLine; decide), fun l129 nl129 => lstG nl129 fun Gb129 sb129 gb129 => ⟨_, _, _, _, rfl, rfl, sb129 _ _ (sa129 _ _ gA129), gb129, szBig (by show _ + 1 ≤ _; omega), fun q129 nq129 => objG nq129 fun Gc129 sc129 gc129 => ⟨_, rfl, _, _, rfl, rfl, ?_⟩⟩⟩⟩
                have s24129 := sa129.trans (sb129.trans sc129)
                have off129 := (dk.same (sa129.trans sb129)).off nq129
                have kb129 : KnAt d c Gc129 q129 (ks.add x true) := KnAt.add s24129 pr129 (sc129 _ _ (sb129 _ _ ga129)) gc129 off129.1 off129.2
                have ka := ka.same (s24129)
                have kp := kp.trans (.of (s24129))
                have dd107 := dd107.same (s24129)
                have dd127 := dd127.same (s24129)
                have dd128 := dd128.same (s24129)
                have gN := (s24129) _ _ gN
                have dk := dk.same (s24129)
                refine ⟨d, c, q129, _, n, _, rfl, by omega, by omega, dk, kb129, (by rw [Sc.ls, List.length_append]; show _ + 1 + _ ≤ _; omega), fun v129 t129 G129 k129 e129 dr129 dd129 => ?_⟩
                have ka := ka.kp k129 dk
                have kp := kp.trans k129
                have dd107 := dd107.kn (k129.rk dk).kn
                have dd127 := dd127.kn (k129.rk dk).kn
                have dd128 := dd128.kn (k129.rk dk).kn
                have gN := k129 _ _ offN.1 offN.2 gN
                have dk := e129
                refine ⟨_, rfl, _, rfl, _, rfl, (by show 3 ≤ sizeLine; decide), fun p130 n130 => tupG n130 (.cons (.str _) (.cons dd107 (.cons dd107 .nil))) fun G130 s130 dd130 => ?_⟩
                have ka := ka.same (s130)
                have kp := kp.trans (.of (s130))
                have dd107 := dd107.same (s130)
                have dd127 := dd127.same (s130)
                have dd128 := dd128.same (s130)
                have dd129 := dd129.same (s130)
                have gN := (s130) _ _ gN
                have dk := dk.same (s130)
                refine ⟨_, rfl, (by show 4 ≤ sizeLine; decide), fun p131 n131 => tupG n131 (.cons (.str _) (.cons (.str _) (.cons dd130 (.cons dd129 .nil)))) fun G131 s131 dd131 => ?_⟩
                have ka := ka.same (s131)
                have kp := kp.trans (.of (s131))
                have dd107 := dd107.same (s131)
                have dd127 := dd127.same (s131)
                have dd128 := dd128.same (s131)
                have dd129 := dd129.same (s131)
                have dd130 := dd130.same (s131)
                have gN := (s131) _ _ gN
                have dk := dk.same (s131)
                refine ⟨_, rfl, (by show 3 ≤ sizeLine; decide), fun p132 n132 => tupG n132 (.cons (.str _) (.cons dd131 (.cons dd128 .nil))) fun G132 s132 dd132 => ?_⟩
                have ka := ka.same (s132)
                have kp := kp.trans (.of (s132))
                have dd107 := dd107.same (s132)
                have dd127 := dd127.same (s132)
                have dd128 := dd128.same (s132)
                have dd129 := dd129.same (s132)
                have dd130 := dd130.same (s132)
                have dd131 := dd131.same (s132)
                have gN := (s132) _ _ gN
                have dk := dk.same (s132)
                exact q _ (.bind x y t127 t129) _ kp dk (.bind dr127 dr129) dd132
end
end Kq

/-! what a term comes to, as the law tells it -/
namespace Kq
open PySem PySem.Spec PyProof.Rows L2 Kf Kv Kk Ku
theorem Ss.rkl {st : Addr} {G F : Hp} {xs : List V} (a : Ss st G F) (h : G st = some (.lst xs)) : Rk G F := by
  refine ⟨fun b ys e => a b _ (fun z => ?_) e, fun b ys e => a b _ (fun z => ?_) e⟩ <;>
    (rw [z, h] at e; cases e)
@[elab_as_elim] theorem stG {H : Hp} {st : Addr} {o : HO} {motive : Hp → Prop} (q : ∀ G, Ss st H G → G st = some o → motive G) : motive (upd H st o) := q _ (fun b u n e => (upd_ne n).trans e) upd_same
inductive LeV (st : Addr) (G : Hp) : Le → List V → Prop
  | nil : LeV st G .nil []
  | int {e : Le} {us : List V} {x : Nx} {i : Nat} {p : Addr} : LeV st G e us → G p = some (.tup [.str (NM x), .int (i : Int)]) → LeV st G (.int e x i) (us ++ [.ref p])
  | clo {e c : Le} {us ws : List V} {x y : Nx} {t : Lt} {p l lc : Addr} {vt : V} : LeV st G e us → G p = some (.tup [.str (NM x), .ref l]) → l ≠ st → G l = some (.lst [.str (NM y), vt, .ref lc]) → Dd Non G (t.d NM) vt → lc ≠ st → G lc = some (.lst ws) → LeV st G c ws → LeV st G (.clo e x y t c) (us ++ [.ref p])
theorem LeV.ss {st : Addr} {G F : Hp} {xs : List V} (h : G st = some (.lst xs)) (a : Ss st G F) : ∀ {e : Le} {us : List V}, LeV st G e us → LeV st F e us := by
  intro e us l
  induction l with
  | nil => exact .nil
  | int _ g ih => exact .int ih ((a.rkl h).tup _ _ g)
  | clo _ g n1 g1 d n2 g2 _ ih1 ih2 => exact .clo ih1 ((a.rkl h).tup _ _ g) n1 (a _ _ n1 g1) (d.kn (a.rkl h).kn) n2 (a _ _ n2 g2) ih2
def CloAt (st : Addr) (G : Hp) (y : Nx) (t : Lt) (c : Le) (v : V) : Prop := ∃ (l lc : Addr) (vt : V) (ws : List V), v = .ref l ∧ l ≠ st ∧ G l = some (.lst [.str (NM y), vt, .ref lc]) ∧ Dd Non G (t.d NM) vt ∧ lc ≠ st ∧ G lc = some (.lst ws) ∧ LeV st G c ws
theorem CloAt.ss {st : Addr} {G F : Hp} {xs : List V} {y : Nx} {t : Lt} {c : Le} {v : V} (h : G st = some (.lst xs)) (a : Ss st G F) (z : CloAt st G y t c v) : CloAt st F y t c v := by
  obtain ⟨l, lc, vt, ws, e, n1, g1, d, n2, g2, le⟩ := z
  exact ⟨l, lc, vt, ws, e, n1, a _ _ n1 g1, d.kn (a.rkl h).kn, n2, a _ _ n2 g2, le.ss h a⟩
def Le.mx : Le → Nat
  | .nil => 0
  | .int e _ _ => e.mx + 1
  | .clo e _ _ _ c => max (e.mx + 1) c.mx
theorem LeV.len {st : Addr} {G : Hp} {e : Le} {us : List V} (l : LeV st G e us) : us.length ≤ e.mx := by
  induction l with
  | nil => exact Nat.le_refl _
  | int _ _ ih => rw [List.length_append, Le.mx]; show _ + 1 ≤ _; omega
  | clo _ _ _ _ _ _ _ _ ih _ => rw [List.length_append, Le.mx]; show _ + 1 ≤ _; omega
theorem fn_mx : ∀ {e : Le} {f y : Nx} {t : Lt} {c : Le}, e.fn f = some (y, t, c) → c.mx ≤ e.mx
  | .nil, _, _, _, _, h => by cases h
  | .int e x i, f, _, _, _, h => by
    rw [Le.fn] at h
    split at h
    · cases h
    · have := fn_mx h
      rw [Le.mx]
      omega
  | .clo e x y t c, f, _, _, _, h => by
    rw [Le.fn] at h
    split at h
    · cases h
      rw [Le.mx]
      omega
    · have := fn_mx h
      rw [Le.mx]
      omega
def RowN (G : Hp) (u : V) (p : Nx × V) : Prop := ∃ a, u = .ref a ∧ G a = some (.tup [.str (NM p.1), p.2])
def selN (z : Nx) (ps : List (Nx × V)) : List V := (ps.filter fun p => decide (p.1 = z)).map (·.2)
theorem selN_app (z : Nx) (ps : List (Nx × V)) (x : Nx) (v : V) : selN z (ps ++ [(x, v)]) = if z = x then selN z ps ++ [v] else selN z ps := by
  unfold selN
  rw [List.filter_append, List.map_append]
  by_cases h : z = x
  · rw [if_pos h, List.filter_cons_of_pos (by simp [h])]
    rfl
  · rw [if_neg h, List.filter_cons_of_neg (by simp; exact fun e => h e.symm)]
    show _ ++ [] = _
    rw [List.append_nil]
theorem LeV.rows {st : Addr} {G : Hp} {e : Le} {us : List V} (l : LeV st G e us) : ∃ ps : List (Nx × V), Paired (fun p u => RowN G u p) ps us ∧ (∀ z i, e.num z = some i → ∃ pre, selN z ps = pre ++ [.int (i : Int)]) ∧ ∀ z y t c, e.fn z = some (y, t, c) → ∃ pre v, selN z ps = pre ++ [v] ∧ CloAt st G y t c v := by
  induction l with
  | nil => exact ⟨[], .nil, fun z i h => (by cases h), fun z y t c h => (by cases h)⟩
  | @int e us x i p _ g ih =>
    obtain ⟨ps, pr, h1, h2⟩ := ih
    refine ⟨ps ++ [(x, .int (i : Int))], Paired.appP pr (.cons ⟨p, rfl, g⟩ .nil), fun z j h => ?_, fun z y t c h => ?_⟩
    · rw [selN_app]
      rw [Le.num] at h
      split at h
      · cases h
        rename_i hz
        rw [if_pos hz]
        exact ⟨_, rfl⟩
      · rename_i hz
        rw [if_neg hz]
        exact h1 z j h
    · rw [selN_app]
      rw [Le.fn] at h
      split at h
      · cases h
      · rename_i hz
        rw [if_neg hz]
        exact h2 z y t c h
  | @clo e c us ws x y t p l lc vt _ g n1 g1 d n2 g2 l2 ih _ =>
    obtain ⟨ps, pr, h1, h2⟩ := ih
    refine ⟨ps ++ [(x, .ref l)], Paired.appP pr (.cons ⟨p, rfl, g⟩ .nil), fun z j h => ?_, fun z y' t' c' h => ?_⟩
    · rw [selN_app]
      rw [Le.num] at h
      split at h
      · cases h
      · rename_i hz
        rw [if_neg hz]
        exact h1 z j h
    · rw [selN_app]
      rw [Le.fn] at h
      split at h
      · cases h
        rename_i hz
        rw [if_pos hz]
        exact ⟨_, _, rfl, l, lc, vt, ws, rfl, n1, g1, d, n2, g2, l2⟩
      · rename_i hz
        rw [if_neg hz]
        exact h2 z y' t' c' h
theorem atI_last {α : Type} {xs : List α} (h : 0 < xs.length) : atI xs (-1) = xs[xs.length - 1]? := by
  unfold atI ixN
  rw [if_neg (by decide), if_pos (by omega)]
  show (some _).bind _ = _
  simp only [Option.bind_some]
  congr 1
  omega
/-- tables to so many depths -/
def Shp : Nat → Dt → Prop
  | 0, _ => True
  | g + 1, x => ∃ rows, x = .tup [.str "table", .tup rows] ∧ ∀ r ∈ rows, ∃ o y, r = .tup [o, y] ∧ Shp g y
theorem atI_end {pre : List V} {v : V} : atI (pre ++ [v]) (-1) = some v := by
  rw [atI_last (by rw [List.length_append]; exact Nat.succ_pos _), List.length_append, List.length_singleton, Nat.add_sub_cancel, List.getElem?_append_right (Nat.le_refl _), Nat.sub_self]
  rfl
theorem imax (a b : Nat) : (if ((b : Nat) : Int) > ((a : Nat) : Int) then ((b : Nat) : Int) else ((a : Nat) : Int)) = ((max a b : Nat) : Int) := by
  by_cases h : a < b
  · rw [if_pos (by omega), Nat.max_eq_right (by omega)]
  · rw [if_neg (by omega), Nat.max_eq_left (by omega)]
theorem lst2 {a b a' b' : Int} (h : a = a') (h2 : b = b') : some (HO.lst [.int a, .int b]) = some (HO.lst [.int a', .int b']) := by
  rw [h, h2]
theorem fin2 {G : Hp} {st : Addr} {s m s' m' : Nat} (h : G st = some (.lst [.int (s : Int), .int (m : Int)])) (e1 : s = s') (e2 : m = m') : G st = some (.lst [.int (s' : Int), .int (m' : Int)]) := by
  subst e1 e2
  exact h
theorem LeV.int2 {st : Addr} {G : Hp} {e : Le} {us : List V} {x y : Nx} {i j : Nat} {p p' : Addr} (l : LeV st G e us) (h : G p = some (.tup [.str (NM x), .int (i : Int)])) (h' : G p' = some (.tup [.str (NM y), .int (j : Int)])) : LeV st G ((e.int x i).int y j) (us ++ [.ref p, .ref p']) := by
  have z := LeV.int (LeV.int l h) h'
  rw [List.append_assoc] at z
  exact z
def spWent (n : Nat) : Sp := fun vs H Q _ => ∃ (vt : V) (a st : Addr) (us : List V) (e : Le) (s0 m0 : Nat), vs = [vt, .ref a, .ref st] ∧ H st = some (.lst [.int (s0 : Int), .int (m0 : Int)]) ∧ a ≠ st ∧ H a = some (.lst us) ∧ LeV st H e us ∧ e.mx + 2 * n ≤ 1000 ∧
  ((∃ t i s g, Dd Non H (t.d NM) vt ∧ We n e t i s g ∧ ∀ G : Hp, Ss st H G → G st = some (.lst [.int ((s0 + s : Nat) : Int), .int ((max m0 g : Nat) : Int)]) → Q (.int (i : Int)) G) ∨
   (∃ (x : Nx) (kd : Dt) (b : Lt), 1 ≤ n ∧ Dd Non H (tmFun (NM x) kd (b.d NM)) vt ∧ ∀ (G : Hp) (v : V), Same H G → CloAt st G x b e v → Q v G) ∨
   (∃ (f y : Nx) (t : Lt) (c : Le), 1 ≤ n ∧ Dd Non H (tmName (NM f)) vt ∧ e.fn f = some (y, t, c) ∧ ∀ (G : Hp) (v : V), Same H G → CloAt st G y t c v → Q v G))
section
variable {P : Program} {w : World} {K : PySem.W.Frag} {mg : Str → Option Value} {base : Heap}
abbrev tWent : Stmt := tp 75
abbrev nWent : List Str := ["_law_term", "_law_names_here", "_law_steps", "_law_word", "_law_name", "_law_worth", "_law_found", "_law_body", "_law_around", "_law_one", "_law_side", "_law_at", "_law_rows", "_law_first", "_law_second", "_law_item", "_law_inner"]
abbrev psWent : List Str := ["_law_term", "_law_names_here", "_law_steps"]
theorem scWent : FnScope nWent psWent (defScope tWent) := ⟨rfl, rfl, rfl, by decide +kernel, rfl, by decide +kernel, by decide +kernel⟩
theorem okWent {f : Addr} {fd : FuncData} {k n : Nat} (F : Fun K "_law_went" "_law_went" tWent f fd)
    (DW : Okd P w K mg base CX0 (k) "_law_went" ["_law_term", "_law_names_here", "_law_steps"] (spWent n))
    (m_int : mg "int" = none)
    (m_list : mg "list" = none)
    (m_max : mg "max" = none) : FnOk P w K mg base CX0 (k + 1) f fd psWent (spWent (n + 1)) := by
  obtain ⟨fW, fdW, GW, bW, gW, kW⟩ := DW
  refine F.ok scWent (fun vs H Q E h => ?_) (fun cdv A outer s H vs Q E hr h => ?_)
  · obtain ⟨vt, a, st, us, e, s0, m0, rfl, _⟩ := h
    rfl
  obtain ⟨vt, a, st, us, e, s0, m0, rfl, gS, ast, gA, le, hmx, q⟩ := h
  refine ⟨_, pss_cons (ps_set (i := 3) scWent.nd rfl (.inl rfl) (pe_ix ix_tup (pv 0) pe_int (fun _ _ => rfl)))
    (pss_cons (ps_if (pt_cmpR op_eq (pv 3) pe_str (nomark _)) (pss_one (ps_ret (pe_ix ix_tup (pv 0) pe_int (fun _ _ => rfl)))) pss_nil)
    (pss_cons (ps_if (pt_cmpR op_eq (pv 3) pe_str (nomark _)) (pss_one (ps_ret (pe_ix ix_list (pe_lc (own := [("_law_name", 4), ("_law_worth", 5)]) (g := gTup K 2 (gCons (gName 4) (gCons (gName 5) gNil))) (tt := _) (by rfl) scWent.nd (pi_list (pv 1)) (blkOk_by (own := [("_law_name", 4), ("_law_worth", 5)]) (N := nWent) (sc := defScope tWent) (by decide +kernel)) (fun _ _ _ _ _ => (tupGK K rfl rfl (pgs_cons (pg_name (i := 4) scWent.nd rfl (.inl rfl)) (pgs_cons (pg_name (i := 5) scWent.nd rfl (.inl rfl)) pgs_nil)))) (fun _ _ _ _ _ => pts_one (pt_cmpR op_eq (pv 4) (pe_ix (ixTK K rfl) (pv 0) pe_int (fun _ _ => rfl)) (nomark _))) (fun _ _ _ _ _ => (pv 5))) (pe_un un_neg pe_int) (fun _ _ => rfl)))) pss_nil)
    (pss_cons (ps_if (pt_cmpR op_eq (pv 3) pe_str (nomark _)) (pss_one (ps_ret (pe_lst (pa_cons (pe_ix ix_tup (pv 0) pe_int (fun _ _ => rfl)) (pa_cons (pe_ix ix_tup (pv 0) pe_int (fun _ _ => rfl)) (pa_cons (pe_callTy call_list_of (by rfl) m_list PyProof.Rows.boot_list (pa_cons (pv 1) pa_nil)) pa_nil)))))) pss_nil)
    (pss_cons (ps_if (pt_cmpR op_eq (pv 3) pe_str (nomark _)) (pss_cons (ps_set (i := 6) scWent.nd rfl (.inl rfl) (pe_op op_add (pe_call GW hr (by rfl) gW kW bW .nil pass0 (pa_cons (pe_ix ix_tup (pv 0) pe_int (fun _ _ => rfl)) (pa_cons (pv 1) (pa_cons (pv 2) pa_nil)))) (pe_call GW hr (by rfl) gW kW bW .nil pass0 (pa_cons (pe_ix ix_tup (pv 0) pe_int (fun _ _ => rfl)) (pa_cons (pv 1) (pa_cons (pv 2) pa_nil))))))
    (pss_cons (ps_asg (pe_callB (call_max2 rfl) (by rfl) m_max PyProof.Rows.boot_max (pa_cons (pe_ix ix_list (pv 2) pe_int (fun _ _ => rfl)) (pa_cons (pv 6) pa_nil))) (pg_sub (pv 2) pe_int set_list))
    (pss_one (ps_ret (pv 6))))) pss_nil)
    (pss_cons (ps_if (pt_cmpR op_eq (pv 3) pe_str (nomark _)) (pss_cons (ps_asg (pe_call GW hr (by rfl) gW kW bW .nil pass0 (pa_cons (pe_ix ix_tup (pv 0) pe_int (fun _ _ => rfl)) (pa_cons (pv 1) (pa_cons (pv 2) pa_nil)))) (pg_lst rfl (pgs_cons (pg_name (i := 4) scWent.nd rfl (.inl rfl)) (pgs_cons (pg_name (i := 7) scWent.nd rfl (.inl rfl)) (pgs_cons (pg_name (i := 8) scWent.nd rfl (.inl rfl)) pgs_nil)))))
    (pss_cons (ps_set (i := 9) scWent.nd rfl (.inl rfl) (pe_call GW hr (by rfl) gW kW bW .nil pass0 (pa_cons (pe_ix ix_tup (pv 0) pe_int (fun _ _ => rfl)) (pa_cons (pv 1) (pa_cons (pv 2) pa_nil)))))
    (pss_cons (ps_asg (pe_op op_add (pe_ix ix_list (pv 2) pe_int (fun _ _ => rfl)) pe_int) (pg_sub (pv 2) pe_int set_list))
    (pss_one (ps_ret (pe_call GW hr (by rfl) gW kW bW .nil pass0 (pa_cons (pv 7) (pa_cons (pe_op op_cat (pv 8) (pe_lst (pa_cons (pe_tup (pa_cons (pv 4) (pa_cons (pv 9) pa_nil))) pa_nil))) (pa_cons (pv 2) pa_nil))))))))) pss_nil)
    (pss_cons (ps_if (pt_cmpR op_eq (pv 3) pe_str (nomark _)) (pss_cons (ps_set (i := 10) scWent.nd rfl (.inl rfl) (pe_ix ix_tup (pe_ix ix_tup (pv 0) pe_int (fun _ _ => rfl)) pe_int (fun _ _ => rfl)))
    (pss_cons (ps_set (i := 9) scWent.nd rfl (.inl rfl) (pe_call GW hr (by rfl) gW kW bW .nil pass0 (pa_cons (pe_ix ix_tup (pe_ix ix_tup (pv 0) pe_int (fun _ _ => rfl)) (pe_ix ix_list (pe_lst (pa_cons pe_int (pa_cons pe_int pa_nil))) (pe_callTy call_int1 (by rfl) m_int PyProof.Rows.boot_int (pa_cons (pe_cmpR op_eq (pv 10) pe_str (nomark _)) pa_nil)) (fun _ _ => rfl)) (fun _ _ => rfl)) (pa_cons (pv 1) (pa_cons (pv 2) pa_nil)))))
    (pss_cons (ps_set (i := 11) scWent.nd rfl (.inl rfl) (pe_ix ix_list (pe_lst (pa_cons pe_int (pa_cons pe_int pa_nil))) (pe_callTy call_int1 (by rfl) m_int PyProof.Rows.boot_int (pa_cons (pe_cmpR op_eq (pv 10) pe_str (nomark _)) pa_nil)) (fun _ _ => rfl)))
    (pss_one (ps_ret (pe_call GW hr (by rfl) gW kW bW .nil pass0 (pa_cons (pe_ix ix_tup (pv 0) (pe_op op_add (pv 11) pe_int) (fun _ _ => rfl)) (pa_cons (pe_op op_cat (pv 1) (pe_lst (pa_cons (pe_tup (pa_cons (pe_ix ix_tup (pv 0) (pv 11) (fun _ _ => rfl)) (pa_cons (pv 9) pa_nil))) pa_nil))) (pa_cons (pv 2) pa_nil))))))))) pss_nil)
    (pss_cons (ps_if (pt_cmpR op_eq (pv 3) pe_str (nomark _)) (pss_cons (ps_set (i := 9) scWent.nd rfl (.inl rfl) (pe_call GW hr (by rfl) gW kW bW .nil pass0 (pa_cons (pe_ix ix_tup (pv 0) pe_int (fun _ _ => rfl)) (pa_cons (pv 1) (pa_cons (pv 2) pa_nil)))))
    (pss_cons (ps_asg (pe_op op_add (pe_ix ix_list (pv 2) pe_int (fun _ _ => rfl)) pe_int) (pg_sub (pv 2) pe_int set_list))
    (pss_one (ps_ret (pe_call GW hr (by rfl) gW kW bW .nil pass0 (pa_cons (pe_ix ix_tup (pe_ix ix_tup (pv 0) pe_int (fun _ _ => rfl)) pe_int (fun _ _ => rfl)) (pa_cons (pe_op op_cat (pv 1) (pe_lst (pa_cons (pe_tup (pa_cons (pe_ix ix_tup (pv 0) pe_int (fun _ _ => rfl)) (pa_cons (pv 9) pa_nil))) pa_nil))) (pa_cons (pv 2) pa_nil)))))))) pss_nil)
    (pss_cons (ps_set (i := 12) scWent.nd rfl (.inl rfl) (pe_ix ix_tup (pv 0) pe_int (fun _ _ => rfl)))
    (pss_cons (ps_set (i := 13) scWent.nd rfl (.inl rfl) (pe_call GW hr (by rfl) gW kW bW .nil pass0 (pa_cons (pe_ix ix_tup (pv 12) pe_int (fun _ _ => rfl)) (pa_cons (pv 1) (pa_cons (pv 2) pa_nil)))))
    (pss_cons (ps_set (i := 14) scWent.nd rfl (.inl rfl) (pe_call GW hr (by rfl) gW kW bW .nil pass0 (pa_cons (pe_ix ix_tup (pe_ix ix_tup (pv 12) pe_int (fun _ _ => rfl)) pe_int (fun _ _ => rfl)) (pa_cons (pv 1) (pa_cons (pv 2) pa_nil)))))
    (pss_cons (ps_set (i := 6) scWent.nd rfl (.inl rfl) (pe_call GW hr (by rfl) gW kW bW .nil pass0 (pa_cons (pe_ix ix_tup (pv 0) pe_int (fun _ _ => rfl)) (pa_cons (pv 1) (pa_cons (pv 2) pa_nil)))))
    (pss_cons (ps_asg (pe_op op_add (pe_ix ix_list (pv 2) pe_int (fun _ _ => rfl)) pe_int) (pg_sub (pv 2) pe_int set_list))
    (pss_cons (ps_for PassesOwn.never rfl (pi_tup (pe_tup (pa_cons (pv 14) (pa_cons (pv 13) pa_nil)))) (pg_name (i := 15) scWent.nd rfl (.inl rfl))
      (pss_cons (ps_asg (pe_op op_add (pe_ix ix_list (pv 2) pe_int (fun _ _ => rfl)) pe_int) (pg_sub (pv 2) pe_int set_list))
    (pss_cons (ps_set (i := 16) scWent.nd rfl (.inl rfl) (pe_op op_cat (pv 1) (pe_lst (pa_cons (pe_tup (pa_cons (pe_ix ix_tup (pv 0) pe_int (fun _ _ => rfl)) (pa_cons (pv 15) pa_nil))) (pa_cons (pe_tup (pa_cons (pe_ix ix_tup (pv 0) pe_int (fun _ _ => rfl)) (pa_cons (pv 6) pa_nil))) pa_nil)))))
    (pss_one (ps_set (i := 6) scWent.nd rfl (.inl rfl) (pe_call GW hr (by rfl) gW kW bW .nil pass0 (pa_cons (pe_ix ix_tup (pv 0) pe_int (fun _ _ => rfl)) (pa_cons (pv 16) (pa_cons (pv 2) pa_nil)))))))))
    (pss_one (ps_ret (pv 6)))))))))))))))), ?_⟩
  rcases q with ⟨t, iR, sR, gR, dt, we, q⟩ | ⟨x, kd, b, _, dt, q⟩ | ⟨fx, y, t, c, _, dt, hf, q⟩
  · cases we with
    | num hi =>
      obtain ⟨p, u, rfl, gp, du⟩ := Dd.of2 dt
      cases du
      refine ⟨_, rfl, p, _, _, _, rfl, rfl, SqT.of gp, atI_nat (j := 0) rfl, ?_⟩
      refine ⟨_, rfl, rfl, _, rfl, iteT ⟨_, rfl, p, _, _, _, rfl, rfl, SqT.of gp, atI_nat (j := 1) rfl, ?_⟩⟩
      exact q _ (fun b o n e => e) (fin2 gS (by omega) (by omega))
    | @name _ _ x _ hx =>
      obtain ⟨p, u, rfl, gp, du⟩ := Dd.of2 dt
      cases du
      refine ⟨_, rfl, p, _, _, _, rfl, rfl, SqT.of gp, atI_nat (j := 0) rfl, ?_⟩
      refine ⟨_, rfl, rfl, _, rfl, iteF ⟨_, rfl, rfl, _, rfl, iteT ?_⟩⟩
      obtain ⟨ps, pr, h1, h2⟩ := le.rows
      have lp := pr.length
      have lu := le.len
      refine ⟨_, rfl, a, rfl, ⟨_, SqL.of gA⟩, fun D nD => ?_⟩
      refine lc_list (K := K) (a := a) (xs := us) (fun j F => Same H F ∧ F D = some (.lst (selN x (ps.take j)))) ⟨newS nD, upd_same⟩ (fun j F _ z => SqL.of (z.1 _ _ gA)) (fun j u F hu z => ?_) (fun F z => ?_)
      · obtain ⟨sF, gD⟩ := z
        have lj := (List.getElem?_eq_some_iff.mp hu).1
        obtain ⟨⟨x, w⟩, hp, pa, rfl, gp'⟩ := Paired.atP pr hu
        have etk : ps.take (j + 1) = ps.take j ++ [(x, w)] := by rw [List.take_add_one, hp]; rfl
        refine ⟨pa, _, rfl, SqT.of (sF _ _ gp'), rfl, _, _, rfl, _, _, rfl, rfl, rfl, _, rfl, _, rfl, p, _, _, _, rfl, rfl, SqT.of (sF _ _ gp), atI_nat (j := 1) rfl, rfl, _, rfl, ite2 (fun c1 => ⟨_, rfl, _, gD, ?_, smk sF nD, ?_⟩) (fun c1 => ⟨sF, ?_⟩)⟩
        · refine small1000 (Nat.le_trans ?_ (show ps.length ≤ 1000 by omega))
          unfold selN
          rw [List.length_map]
          exact Nat.le_trans (List.length_filter_le _ _) (by rw [List.length_take]; exact Nat.min_le_right _ _)
        · rw [upd_same, etk, selN_app, if_pos]
          have e := of_decide_eq_true c1
          injection e with e
          exact (NM_inj _ _ e).symm
        · rw [gD, etk, selN_app, if_neg]
          intro e
          exact c1 (decide_eq_true (by rw [e]))
      obtain ⟨sF, gD⟩ := z
      rw [List.take_of_length_le (by omega)] at gD
      obtain ⟨pre, epre⟩ := h1 _ _ hx
      refine ⟨_, rfl, D, _, _, _, rfl, rfl, SqL.of gD, (by rw [epre]; exact atI_end), ?_⟩
      exact q _ (.of sF) (fin2 (sF _ _ gS) (by omega) (by omega))
    | @plus _ _ a1 a2 i j s1 s2 g1 g2 w1 w2 =>
      obtain ⟨p, u1, u2, rfl, gp, d1, d2⟩ := Dd.of3 dt
      refine ⟨_, rfl, p, _, _, _, rfl, rfl, SqT.of gp, atI_nat (j := 0) rfl, ?_⟩
      refine ⟨_, rfl, rfl, _, rfl, iteF ⟨_, rfl, rfl, _, rfl, iteF ⟨_, rfl, rfl, _, rfl, iteF ⟨_, rfl, rfl, _, rfl, iteT ?_⟩⟩⟩⟩
      refine ⟨_, rfl, p, _, _, _, rfl, rfl, SqT.of gp, atI_nat (j := 1) rfl, _, rfl, _, rfl, _, a, st, us, e, _, _, rfl, gS, ast, gA, le, by omega, .inl ⟨_, _, _, _, d1, w1, fun G1 ss1 gS1 => ?_⟩⟩
      have rk := ss1.rkl gS
      have gA := ss1 a _ ast gA
      have le := le.ss gS ss1
      have d1 := d1.kn rk.kn
      have d2 := d2.kn rk.kn
      have gp := rk.tup _ _ gp
      have tot := ss1
      have gS := gS1
      refine ⟨_, rfl, p, _, _, _, rfl, rfl, SqT.of gp, atI_nat (j := 2) rfl, _, rfl, _, rfl, _, a, st, us, e, _, _, rfl, gS, ast, gA, le, by omega, .inl ⟨_, _, _, _, d2, w2, fun G2 ss2 gS2 => ?_⟩⟩
      have rk := ss2.rkl gS
      have gA := ss2 a _ ast gA
      have le := le.ss gS ss2
      have d1 := d1.kn rk.kn
      have d2 := d2.kn rk.kn
      have gp := rk.tup _ _ gp
      have tot := tot.trans ss2
      have gS := gS2
      refine ⟨_, _, rfl, rfl, ?_⟩
      refine ⟨_, rfl, st, _, _, _, rfl, rfl, SqL.of gS, atI_nat (j := 1) rfl, _, rfl, _, _, rfl, _, rfl, st, _, _, 1, rfl, rfl, gS, rfl, ?_⟩
      refine stG fun Gm ssm gSm => ?_
      replace gSm : Gm st = some (.lst [.int ((_ : Nat) : Int), .int (if (((_ : Nat) : Int) + ((_ : Nat) : Int)) > ((_ : Nat) : Int) then _ else _)]) := gSm
      refine ⟨_, rfl, ?_⟩
      exact q _ (tot.trans ssm) (gSm.trans (lst2 (by omega) (by rw [← Int.natCast_add, imax]; exact congrArg Nat.cast (by omega))))
    | @callN _ _ c fx y a1 t i j s1 s2 g1 g2 hf w1 w2 =>
      obtain ⟨p, u1, u2, rfl, gp, d1, d2⟩ := Dd.of3 dt
      refine ⟨_, rfl, p, _, _, _, rfl, rfl, SqT.of gp, atI_nat (j := 0) rfl, ?_⟩
      refine ⟨_, rfl, rfl, _, rfl, iteF ⟨_, rfl, rfl, _, rfl, iteF ⟨_, rfl, rfl, _, rfl, iteF ⟨_, rfl, rfl, _, rfl, iteF ⟨_, rfl, rfl, _, rfl, iteT ?_⟩⟩⟩⟩⟩
      refine ⟨_, rfl, p, _, _, _, rfl, rfl, SqT.of gp, atI_nat (j := 1) rfl, _, rfl, _, rfl, _, a, st, us, e, _, _, rfl, gS, ast, gA, le, by omega, .inr (.inr ⟨_, _, _, _, by have := w1.pos; omega, d1, hf, fun G1 v1 sm1 cl1 => ?_⟩)⟩
      have rk := (Ss.of (st := st) (sm1)).rkl gS
      have gA := (Ss.of (st := st) (sm1)) a _ ast gA
      have le := le.ss gS (Ss.of (st := st) (sm1))
      have d1 := d1.kn rk.kn
      have d2 := d2.kn rk.kn
      have gp := rk.tup _ _ gp
      have tot := (Ss.of (st := st) (sm1))
      have gS := (sm1) _ _ gS
      obtain ⟨lc, lcc, vtc, wsc, rfl, nlc, glc, dvc, nlcc, glcc, levc⟩ := cl1
      refine ⟨lc, _, rfl, SqL.of glc, rfl, _, _, rfl, _, _, rfl, _, _, rfl, rfl, ?_⟩
      refine ⟨_, rfl, p, _, _, _, rfl, rfl, SqT.of gp, atI_nat (j := 2) rfl, _, rfl, _, rfl, _, a, st, us, e, _, _, rfl, gS, ast, gA, le, by omega, .inl ⟨_, _, _, _, d2, w1, fun G2 ss2 gS2 => ?_⟩⟩
      have rk := ss2.rkl gS
      have gA := ss2 a _ ast gA
      have le := le.ss gS ss2
      have d1 := d1.kn rk.kn
      have d2 := d2.kn rk.kn
      have dvc := dvc.kn rk.kn
      have gp := rk.tup _ _ gp
      have glc := ss2 _ _ nlc glc
      have glcc := ss2 _ _ nlcc glcc
      have levc := levc.ss gS ss2
      have tot := tot.trans ss2
      have gS := gS2
      refine ⟨_, rfl, st, _, _, _, rfl, rfl, SqL.of gS, atI_nat (j := 0) rfl, _, _, rfl, rfl, _, rfl, st, _, _, 0, rfl, rfl, gS, rfl, ?_⟩
      refine stG fun Gu3 ssu3 gSu3 => ?_
      replace gSu3 : Gu3 st = some (.lst [.int (((_ + 1 : Nat)) : Int), .int (_ : Int)]) := gSu3
      have rk := ssu3.rkl gS
      have gA := ssu3 a _ ast gA
      have le := le.ss gS ssu3
      have d1 := d1.kn rk.kn
      have d2 := d2.kn rk.kn
      have dvc := dvc.kn rk.kn
      have gp := rk.tup _ _ gp
      have glc := ssu3 _ _ nlc glc
      have glcc := ssu3 _ _ nlcc glcc
      have levc := levc.ss gS ssu3
      have tot := tot.trans ssu3
      have gS := gSu3
      have lw4 := levc.len
      have mxc := fn_mx hf
      refine ⟨_, rfl, _, rfl, _, rfl, _, rfl, (by show 2 ≤ sizeLine; decide), fun p4 np4 => objG np4 fun Ga4 sa4 ga4 => ⟨(by show 1 ≤ sizeLine; decide), fun q4 nq4 => lstG nq4 fun Gb4 sb4 gb4 => ⟨_, _, _, _, rfl, rfl, sb4 _ _ (sa4 _ _ glcc), gb4, szBig (by show _ + 1 ≤ _; omega), fun r4 nr4 => objG nr4 fun Gc4 sc4 gc4 => ?_⟩⟩⟩
      have s34 := sa4.trans (sb4.trans sc4)
      have gp4 := sc4 _ _ (sb4 _ _ ga4)
      have rst4 := (ne_of_none (sb4 _ _ (sa4 _ _ gS)) nr4).symm
      have rk := (Ss.of (st := st) (s34)).rkl gS
      have gA := (Ss.of (st := st) (s34)) a _ ast gA
      have le := le.ss gS (Ss.of (st := st) (s34))
      have d1 := d1.kn rk.kn
      have d2 := d2.kn rk.kn
      have dvc := dvc.kn rk.kn
      have gp := rk.tup _ _ gp
      have glc := (Ss.of (st := st) (s34)) _ _ nlc glc
      have glcc := (Ss.of (st := st) (s34)) _ _ nlcc glcc
      have levc := levc.ss gS (Ss.of (st := st) (s34))
      have tot := tot.trans (Ss.of (st := st) (s34))
      have gS := (s34) _ _ gS
      refine ⟨_, rfl, _, r4, st, _, (c.int y i), _, _, rfl, gS, rst4, gc4, .int levc gp4, (by rw [Le.mx]; have := fn_mx hf; omega), .inl ⟨_, _, _, _, dvc, w2, fun G5 ss5 gS5 => ?_⟩⟩
      exact q _ (tot.trans ss5) (fin2 gS5 (by omega) (by omega))
    | @callF _ _ x a1 t i j s1 s2 g1 g2 w1 w2 =>
      obtain ⟨p, u1, u2, rfl, gp, d1, d2⟩ := Dd.of3 dt
      refine ⟨_, rfl, p, _, _, _, rfl, rfl, SqT.of gp, atI_nat (j := 0) rfl, ?_⟩
      refine ⟨_, rfl, rfl, _, rfl, iteF ⟨_, rfl, rfl, _, rfl, iteF ⟨_, rfl, rfl, _, rfl, iteF ⟨_, rfl, rfl, _, rfl, iteF ⟨_, rfl, rfl, _, rfl, iteT ?_⟩⟩⟩⟩⟩
      refine ⟨_, rfl, p, _, _, _, rfl, rfl, SqT.of gp, atI_nat (j := 1) rfl, _, rfl, _, rfl, _, a, st, us, e, _, _, rfl, gS, ast, gA, le, by omega, .inr (.inl ⟨_, _, _, by have := w1.pos; omega, d1, fun G1 v1 sm1 cl1 => ?_⟩)⟩
      have rk := (Ss.of (st := st) (sm1)).rkl gS
      have gA := (Ss.of (st := st) (sm1)) a _ ast gA
      have le := le.ss gS (Ss.of (st := st) (sm1))
      have d1 := d1.kn rk.kn
      have d2 := d2.kn rk.kn
      have gp := rk.tup _ _ gp
      have tot := (Ss.of (st := st) (sm1))
      have gS := (sm1) _ _ gS
      obtain ⟨lc, lcc, vtc, wsc, rfl, nlc, glc, dvc, nlcc, glcc, levc⟩ := cl1
      refine ⟨lc, _, rfl, SqL.of glc, rfl, _, _, rfl, _, _, rfl, _, _, rfl, rfl, ?_⟩
      refine ⟨_, rfl, p, _, _, _, rfl, rfl, SqT.of gp, atI_nat (j := 2) rfl, _, rfl, _, rfl, _, a, st, us, e, _, _, rfl, gS, ast, gA, le, by omega, .inl ⟨_, _, _, _, d2, w1, fun G2 ss2 gS2 => ?_⟩⟩
      have rk := ss2.rkl gS
      have gA := ss2 a _ ast gA
      have le := le.ss gS ss2
      have d1 := d1.kn rk.kn
      have d2 := d2.kn rk.kn
      have dvc := dvc.kn rk.kn
      have gp := rk.tup _ _ gp
      have glc := ss2 _ _ nlc glc
      have glcc := ss2 _ _ nlcc glcc
      have levc := levc.ss gS ss2
      have tot := tot.trans ss2
      have gS := gS2
      refine ⟨_, rfl, st, _, _, _, rfl, rfl, SqL.of gS, atI_nat (j := 0) rfl, _, _, rfl, rfl, _, rfl, st, _, _, 0, rfl, rfl, gS, rfl, ?_⟩
      refine stG fun Gu3 ssu3 gSu3 => ?_
      replace gSu3 : Gu3 st = some (.lst [.int (((_ + 1 : Nat)) : Int), .int (_ : Int)]) := gSu3
      have rk := ssu3.rkl gS
      have gA := ssu3 a _ ast gA
      have le := le.ss gS ssu3
      have d1 := d1.kn rk.kn
      have d2 := d2.kn rk.kn
      have dvc := dvc.kn rk.kn
      have gp := rk.tup _ _ gp
      have glc := ssu3 _ _ nlc glc
      have glcc := ssu3 _ _ nlcc glcc
      have levc := levc.ss gS ssu3
      have tot := tot.trans ssu3
      have gS := gSu3
      have lw4 := levc.len
      refine ⟨_, rfl, _, rfl, _, rfl, _, rfl, (by show 2 ≤ sizeLine; decide), fun p4 np4 => objG np4 fun Ga4 sa4 ga4 => ⟨(by show 1 ≤ sizeLine; decide), fun q4 nq4 => lstG nq4 fun Gb4 sb4 gb4 => ⟨_, _, _, _, rfl, rfl, sb4 _ _ (sa4 _ _ glcc), gb4, szBig (by show _ + 1 ≤ _; omega), fun r4 nr4 => objG nr4 fun Gc4 sc4 gc4 => ?_⟩⟩⟩
      have s34 := sa4.trans (sb4.trans sc4)
      have gp4 := sc4 _ _ (sb4 _ _ ga4)
      have rst4 := (ne_of_none (sb4 _ _ (sa4 _ _ gS)) nr4).symm
      have rk := (Ss.of (st := st) (s34)).rkl gS
      have gA := (Ss.of (st := st) (s34)) a _ ast gA
      have le := le.ss gS (Ss.of (st := st) (s34))
      have d1 := d1.kn rk.kn
      have d2 := d2.kn rk.kn
      have dvc := dvc.kn rk.kn
      have gp := rk.tup _ _ gp
      have glc := (Ss.of (st := st) (s34)) _ _ nlc glc
      have glcc := (Ss.of (st := st) (s34)) _ _ nlcc glcc
      have levc := levc.ss gS (Ss.of (st := st) (s34))
      have tot := tot.trans (Ss.of (st := st) (s34))
      have gS := (s34) _ _ gS
      refine ⟨_, rfl, _, r4, st, _, (e.int x i), _, _, rfl, gS, rst4, gc4, .int levc gp4, (by rw [Le.mx]; omega), .inl ⟨_, _, _, _, dvc, w2, fun G5 ss5 gS5 => ?_⟩⟩
      exact q _ (tot.trans ss5) (fin2 gS5 (by omega) (by omega))
    | @bind _ _ fx x bb t j s1 g1 w1 =>
      obtain ⟨p, u1, u2, rfl, gp, d1, d2⟩ := Dd.of3 dt
      refine ⟨_, rfl, p, _, _, _, rfl, rfl, SqT.of gp, atI_nat (j := 0) rfl, ?_⟩
      refine ⟨_, rfl, rfl, _, rfl, iteF ⟨_, rfl, rfl, _, rfl, iteF ⟨_, rfl, rfl, _, rfl, iteF ⟨_, rfl, rfl, _, rfl, iteF ⟨_, rfl, rfl, _, rfl, iteT ?_⟩⟩⟩⟩⟩
      refine ⟨_, rfl, p, _, _, _, rfl, rfl, SqT.of gp, atI_nat (j := 1) rfl, _, rfl, _, rfl, _, a, st, us, e, _, _, rfl, gS, ast, gA, le, by omega, .inr (.inl ⟨_, _, _, by have := w1.pos; omega, d1, fun G1 v1 sm1 cl1 => ?_⟩)⟩
      have rk := (Ss.of (st := st) (sm1)).rkl gS
      have gA := (Ss.of (st := st) (sm1)) a _ ast gA
      have le := le.ss gS (Ss.of (st := st) (sm1))
      have d1 := d1.kn rk.kn
      have d2 := d2.kn rk.kn
      have gp := rk.tup _ _ gp
      have tot := (Ss.of (st := st) (sm1))
      have gS := (sm1) _ _ gS
      obtain ⟨lc, lcc, vtc, wsc, rfl, nlc, glc, dvc, nlcc, glcc, levc⟩ := cl1
      refine ⟨lc, _, rfl, SqL.of glc, rfl, _, _, rfl, _, _, rfl, _, _, rfl, rfl, ?_⟩
      refine ⟨_, rfl, p, _, _, _, rfl, rfl, SqT.of gp, atI_nat (j := 2) rfl, _, rfl, _, rfl, _, a, st, us, e, _, _, rfl, gS, ast, gA, le, by omega, .inr (.inl ⟨_, _, _, by have := w1.pos; omega, d2, fun G2 v2 sm2 cl2 => ?_⟩)⟩
      have rk := (Ss.of (st := st) (sm2)).rkl gS
      have gA := (Ss.of (st := st) (sm2)) a _ ast gA
      have le := le.ss gS (Ss.of (st := st) (sm2))
      have d1 := d1.kn rk.kn
      have d2 := d2.kn rk.kn
      have dvc := dvc.kn rk.kn
      have gp := rk.tup _ _ gp
      have glc := (Ss.of (st := st) (sm2)) _ _ nlc glc
      have glcc := (Ss.of (st := st) (sm2)) _ _ nlcc glcc
      have levc := levc.ss gS (Ss.of (st := st) (sm2))
      have tot := tot.trans (Ss.of (st := st) (sm2))
      have gS := (sm2) _ _ gS
      obtain ⟨lk, lck, vtk, wsk, rfl, nlk, glk, dvk, nlck, glck, levk⟩ := cl2
      refine ⟨_, rfl, st, _, _, _, rfl, rfl, SqL.of gS, atI_nat (j := 0) rfl, _, _, rfl, rfl, _, rfl, st, _, _, 0, rfl, rfl, gS, rfl, ?_⟩
      refine stG fun Gu3 ssu3 gSu3 => ?_
      replace gSu3 : Gu3 st = some (.lst [.int (((_ + 1 : Nat)) : Int), .int (_ : Int)]) := gSu3
      have rk := ssu3.rkl gS
      have gA := ssu3 a _ ast gA
      have le := le.ss gS ssu3
      have d1 := d1.kn rk.kn
      have d2 := d2.kn rk.kn
      have dvc := dvc.kn rk.kn
      have dvk := dvk.kn rk.kn
      have gp := rk.tup _ _ gp
      have glc := ssu3 _ _ nlc glc
      have glcc := ssu3 _ _ nlcc glcc
      have glk := ssu3 _ _ nlk glk
      have glck := ssu3 _ _ nlck glck
      have levc := levc.ss gS ssu3
      have levk := levk.ss gS ssu3
      have tot := tot.trans ssu3
      have gS := gSu3
      have lw4 := levc.len
      refine ⟨_, rfl, _, rfl, _, rfl, _, rfl, (by show 2 ≤ sizeLine; decide), fun p4 np4 => objG np4 fun Ga4 sa4 ga4 => ⟨(by show 1 ≤ sizeLine; decide), fun q4 nq4 => lstG nq4 fun Gb4 sb4 gb4 => ⟨_, _, _, _, rfl, rfl, sb4 _ _ (sa4 _ _ glcc), gb4, szBig (by show _ + 1 ≤ _; omega), fun r4 nr4 => objG nr4 fun Gc4 sc4 gc4 => ?_⟩⟩⟩
      have s34 := sa4.trans (sb4.trans sc4)
      have gp4 := sc4 _ _ (sb4 _ _ ga4)
      have rst4 := (ne_of_none (sb4 _ _ (sa4 _ _ gS)) nr4).symm
      have rk := (Ss.of (st := st) (s34)).rkl gS
      have gA := (Ss.of (st := st) (s34)) a _ ast gA
      have le := le.ss gS (Ss.of (st := st) (s34))
      have d1 := d1.kn rk.kn
      have d2 := d2.kn rk.kn
      have dvc := dvc.kn rk.kn
      have dvk := dvk.kn rk.kn
      have gp := rk.tup _ _ gp
      have glc := (Ss.of (st := st) (s34)) _ _ nlc glc
      have glcc := (Ss.of (st := st) (s34)) _ _ nlcc glcc
      have glk := (Ss.of (st := st) (s34)) _ _ nlk glk
      have glck := (Ss.of (st := st) (s34)) _ _ nlck glck
      have levc := levc.ss gS (Ss.of (st := st) (s34))
      have levk := levk.ss gS (Ss.of (st := st) (s34))
      have tot := tot.trans (Ss.of (st := st) (s34))
      have gS := (s34) _ _ gS
      refine ⟨_, rfl, _, r4, st, _, (e.clo fx x bb e), _, _, rfl, gS, rst4, gc4, .clo levc gp4 nlk glk dvk nlck glck levk, (by rw [Le.mx]; omega), .inl ⟨_, _, _, _, dvc, w1, fun G5 ss5 gS5 => ?_⟩⟩
      exact q _ (tot.trans ss5) (fin2 gS5 (by omega) (by omega))
    | @rounds n _ m a1 t x i j s1 s2 g1 g2 hm1 hm w1 w2 =>
      have w1 := w1.up (Nat.le_succ _)
      have w2 := w2.up (Nat.le_succ _)
      obtain ⟨p, u1, u2, rfl, gp, d1, d2⟩ := Dd.ofR dt
      obtain ⟨p2, v1, v2, rfl, gp2, dk2, dt2⟩ := Dd.of3 d2
      refine ⟨_, rfl, p, _, _, _, rfl, rfl, SqT.of gp, atI_nat (j := 0) rfl, ?_⟩
      refine ⟨_, rfl, rfl, _, rfl, iteF ⟨_, rfl, rfl, _, rfl, iteF ⟨_, rfl, rfl, _, rfl, iteF ⟨_, rfl, rfl, _, rfl, iteF ⟨_, rfl, rfl, _, rfl, iteF ⟨_, rfl, rfl, _, rfl, iteF ⟨_, rfl, rfl, _, rfl, iteT ?_⟩⟩⟩⟩⟩⟩⟩
      refine ⟨_, rfl, p, _, _, _, rfl, rfl, SqT.of gp, atI_nat (j := 2) rfl, _, rfl, _, rfl, _, a, st, us, e, _, _, rfl, gS, ast, gA, le, by omega, .inl ⟨_, _, _, _, d1, w1, fun G1 ss1 gS1 => ?_⟩⟩
      have rk := ss1.rkl gS
      have gA := ss1 a _ ast gA
      have le := le.ss gS ss1
      have d1 := d1.kn rk.kn
      have dt2 := dt2.kn rk.kn
      have gp := rk.tup _ _ gp
      have gp2 := rk.tup _ _ gp2
      have tot := ss1
      have gS := gS1
      refine ⟨_, rfl, st, _, _, _, rfl, rfl, SqL.of gS, atI_nat (j := 0) rfl, _, _, rfl, rfl, _, rfl, st, _, _, 0, rfl, rfl, gS, rfl, ?_⟩
      refine stG fun Gu2 ssu2 gSu2 => ?_
      replace gSu2 : Gu2 st = some (.lst [.int (((_ + 1 : Nat)) : Int), .int (_ : Int)]) := gSu2
      have rk := ssu2.rkl gS
      have gA := ssu2 a _ ast gA
      have le := le.ss gS ssu2
      have d1 := d1.kn rk.kn
      have dt2 := dt2.kn rk.kn
      have gp := rk.tup _ _ gp
      have gp2 := rk.tup _ _ gp2
      have tot := tot.trans ssu2
      have gS := gSu2
      have lw3 := le.len
      refine ⟨_, rfl, p, _, _, _, rfl, rfl, SqT.of gp, atI_nat (j := 4) rfl, p2, _, _, _, rfl, rfl, SqT.of gp2, atI_nat (j := 2) rfl, _, rfl, _, rfl, p, _, _, _, rfl, rfl, SqT.of gp, atI_nat (j := 3) rfl, _, rfl, (by show 2 ≤ sizeLine; decide), fun p3 np3 => objG np3 fun Ga3 sa3 ga3 => ⟨(by show 1 ≤ sizeLine; decide), fun q3 nq3 => lstG nq3 fun Gb3 sb3 gb3 => ⟨_, _, _, _, rfl, rfl, sb3 _ _ (sa3 _ _ gA), gb3, szBig (by show _ + 1 ≤ _; omega), fun r3 nr3 => objG nr3 fun Gc3 sc3 gc3 => ?_⟩⟩⟩
      have s33 := sa3.trans (sb3.trans sc3)
      have gp3 := sc3 _ _ (sb3 _ _ ga3)
      have rst3 := (ne_of_none (sb3 _ _ (sa3 _ _ gS)) nr3).symm
      have rk := (Ss.of (st := st) (s33)).rkl gS
      have gA := (Ss.of (st := st) (s33)) a _ ast gA
      have le := le.ss gS (Ss.of (st := st) (s33))
      have d1 := d1.kn rk.kn
      have dt2 := dt2.kn rk.kn
      have gp := rk.tup _ _ gp
      have gp2 := rk.tup _ _ gp2
      have tot := tot.trans (Ss.of (st := st) (s33))
      have gS := (s33) _ _ gS
      refine ⟨_, rfl, _, r3, st, _, (e.int x i), _, _, rfl, gS, rst3, gc3, .int le gp3, (by rw [Le.mx]; omega), .inl ⟨_, _, _, _, dt2, w2, fun G4 ss4 gS4 => ?_⟩⟩
      exact q _ (tot.trans ss4) (fin2 gS4 (by omega) (by omega))
    | @case n _ qq a1 b1 c1 x y i j s1 s2 g1 g2 w1 w2 =>
      have w1 := w1.up (Nat.le_succ _)
      have w2 := w2.up (Nat.le_succ _)
      obtain ⟨p, u1, u2, u3, rfl, gp, d1, d2, d3⟩ := Dd.ofC dt
      cases qq with
      | false =>
        have w2 : We (n + 1) (e.int x i) b1 iR s2 g2 := w2
        obtain ⟨p1, v1, v2, rfl, gp1, da, dn⟩ := Dd.of3 d1
        refine ⟨_, rfl, p, _, _, _, rfl, rfl, SqT.of gp, atI_nat (j := 0) rfl, ?_⟩
        refine ⟨_, rfl, rfl, _, rfl, iteF ⟨_, rfl, rfl, _, rfl, iteF ⟨_, rfl, rfl, _, rfl, iteF ⟨_, rfl, rfl, _, rfl, iteF ⟨_, rfl, rfl, _, rfl, iteF ⟨_, rfl, rfl, _, rfl, iteT ?_⟩⟩⟩⟩⟩⟩
        refine ⟨_, rfl, p, _, _, _, rfl, rfl, SqT.of gp, atI_nat (j := 1) rfl, p1, _, _, _, rfl, rfl, SqT.of gp1, atI_nat (j := 0) rfl, ?_⟩
        refine ⟨_, rfl, p, _, _, _, rfl, rfl, SqT.of gp, atI_nat (j := 1) rfl, (by show 2 ≤ sizeLine; decide), fun l1 nl1 => lstG nl1 fun Gl1 sl1 gl1 => ?_⟩
        have rk := (Ss.of (st := st) (sl1)).rkl gS
        have gA := (Ss.of (st := st) (sl1)) a _ ast gA
        have le := le.ss gS (Ss.of (st := st) (sl1))
        have d2 := d2.kn rk.kn
        have da := da.kn rk.kn
        have gp := rk.tup _ _ gp
        have gp1 := rk.tup _ _ gp1
        have tot := (Ss.of (st := st) (sl1))
        have gS := (sl1) _ _ gS
        refine ⟨_, rfl, rfl, .inr ⟨_, rfl, l1, _, _, _, rfl, rfl, SqL.of gl1, atI_nat (j := 0) rfl, p1, _, _, _, rfl, rfl, SqT.of gp1, atI_nat (j := 1) rfl, _, rfl, _, rfl, _, a, st, us, e, _, _, rfl, gS, ast, gA, le, by omega, .inl ⟨_, _, _, _, da, w1, fun G1 ss1 gS1 => ?_⟩⟩⟩
        have rk := ss1.rkl gS
        have gA := ss1 a _ ast gA
        have le := le.ss gS ss1
        have d2 := d2.kn rk.kn
        have da := da.kn rk.kn
        have gp := rk.tup _ _ gp
        have gp1 := rk.tup _ _ gp1
        have tot := tot.trans ss1
        have gS := gS1
        refine ⟨(by show 2 ≤ sizeLine; decide), fun l2 nl2 => lstG nl2 fun Gl2 sl2 gl2 => ?_⟩
        have rk := (Ss.of (st := st) (sl2)).rkl gS
        have gA := (Ss.of (st := st) (sl2)) a _ ast gA
        have le := le.ss gS (Ss.of (st := st) (sl2))
        have d2 := d2.kn rk.kn
        have da := da.kn rk.kn
        have gp := rk.tup _ _ gp
        have gp1 := rk.tup _ _ gp1
        have tot := tot.trans (Ss.of (st := st) (sl2))
        have gS := (sl2) _ _ gS
        refine ⟨_, rfl, rfl, .inr ⟨_, rfl, l2, _, _, _, rfl, rfl, SqL.of gl2, atI_nat (j := 0) rfl, ?_⟩⟩
        have lw2 := le.len
        refine ⟨_, rfl, _, rfl, _, _, rfl, rfl, p, _, _, _, rfl, rfl, SqT.of gp, atI_nat (j := 3) rfl, _, rfl, _, rfl, _, rfl, p, _, _, _, rfl, rfl, SqT.of gp, atI_nat (j := 2) rfl, _, rfl, (by show 2 ≤ sizeLine; decide), fun p2 np2 => objG np2 fun Ga2 sa2 ga2 => ⟨(by show 1 ≤ sizeLine; decide), fun q2 nq2 => lstG nq2 fun Gb2 sb2 gb2 => ⟨_, _, _, _, rfl, rfl, sb2 _ _ (sa2 _ _ gA), gb2, szBig (by show _ + 1 ≤ _; omega), fun r2 nr2 => objG nr2 fun Gc2 sc2 gc2 => ?_⟩⟩⟩
        have s32 := sa2.trans (sb2.trans sc2)
        have gp2 := sc2 _ _ (sb2 _ _ ga2)
        have rst2 := (ne_of_none (sb2 _ _ (sa2 _ _ gS)) nr2).symm
        have rk := (Ss.of (st := st) (s32)).rkl gS
        have gA := (Ss.of (st := st) (s32)) a _ ast gA
        have le := le.ss gS (Ss.of (st := st) (s32))
        have d2 := d2.kn rk.kn
        have da := da.kn rk.kn
        have gp := rk.tup _ _ gp
        have gp1 := rk.tup _ _ gp1
        have tot := tot.trans (Ss.of (st := st) (s32))
        have gS := (s32) _ _ gS
        refine ⟨_, rfl, _, r2, st, _, (e.int x i), _, _, rfl, gS, rst2, gc2, .int le gp2, (by rw [Le.mx]; omega), .inl ⟨_, _, _, _, d2, w2, fun G3 ss3 gS3 => ?_⟩⟩
        exact q _ (tot.trans ss3) (fin2 gS3 (by omega) (by omega))
      | true =>
        have w2 : We (n + 1) (e.int y i) c1 iR s2 g2 := w2
        obtain ⟨p1, v1, v2, rfl, gp1, dn, da⟩ := Dd.of3 d1
        refine ⟨_, rfl, p, _, _, _, rfl, rfl, SqT.of gp, atI_nat (j := 0) rfl, ?_⟩
        refine ⟨_, rfl, rfl, _, rfl, iteF ⟨_, rfl, rfl, _, rfl, iteF ⟨_, rfl, rfl, _, rfl, iteF ⟨_, rfl, rfl, _, rfl, iteF ⟨_, rfl, rfl, _, rfl, iteF ⟨_, rfl, rfl, _, rfl, iteT ?_⟩⟩⟩⟩⟩⟩
        refine ⟨_, rfl, p, _, _, _, rfl, rfl, SqT.of gp, atI_nat (j := 1) rfl, p1, _, _, _, rfl, rfl, SqT.of gp1, atI_nat (j := 0) rfl, ?_⟩
        refine ⟨_, rfl, p, _, _, _, rfl, rfl, SqT.of gp, atI_nat (j := 1) rfl, (by show 2 ≤ sizeLine; decide), fun l1 nl1 => lstG nl1 fun Gl1 sl1 gl1 => ?_⟩
        have rk := (Ss.of (st := st) (sl1)).rkl gS
        have gA := (Ss.of (st := st) (sl1)) a _ ast gA
        have le := le.ss gS (Ss.of (st := st) (sl1))
        have d3 := d3.kn rk.kn
        have da := da.kn rk.kn
        have gp := rk.tup _ _ gp
        have gp1 := rk.tup _ _ gp1
        have tot := (Ss.of (st := st) (sl1))
        have gS := (sl1) _ _ gS
        refine ⟨_, rfl, rfl, .inr ⟨_, rfl, l1, _, _, _, rfl, rfl, SqL.of gl1, atI_nat (j := 1) rfl, p1, _, _, _, rfl, rfl, SqT.of gp1, atI_nat (j := 2) rfl, _, rfl, _, rfl, _, a, st, us, e, _, _, rfl, gS, ast, gA, le, by omega, .inl ⟨_, _, _, _, da, w1, fun G1 ss1 gS1 => ?_⟩⟩⟩
        have rk := ss1.rkl gS
        have gA := ss1 a _ ast gA
        have le := le.ss gS ss1
        have d3 := d3.kn rk.kn
        have da := da.kn rk.kn
        have gp := rk.tup _ _ gp
        have gp1 := rk.tup _ _ gp1
        have tot := tot.trans ss1
        have gS := gS1
        refine ⟨(by show 2 ≤ sizeLine; decide), fun l2 nl2 => lstG nl2 fun Gl2 sl2 gl2 => ?_⟩
        have rk := (Ss.of (st := st) (sl2)).rkl gS
        have gA := (Ss.of (st := st) (sl2)) a _ ast gA
        have le := le.ss gS (Ss.of (st := st) (sl2))
        have d3 := d3.kn rk.kn
        have da := da.kn rk.kn
        have gp := rk.tup _ _ gp
        have gp1 := rk.tup _ _ gp1
        have tot := tot.trans (Ss.of (st := st) (sl2))
        have gS := (sl2) _ _ gS
        refine ⟨_, rfl, rfl, .inr ⟨_, rfl, l2, _, _, _, rfl, rfl, SqL.of gl2, atI_nat (j := 1) rfl, ?_⟩⟩
        have lw2 := le.len
        refine ⟨_, rfl, _, rfl, _, _, rfl, rfl, p, _, _, _, rfl, rfl, SqT.of gp, atI_nat (j := 5) rfl, _, rfl, _, rfl, _, rfl, p, _, _, _, rfl, rfl, SqT.of gp, atI_nat (j := 4) rfl, _, rfl, (by show 2 ≤ sizeLine; decide), fun p2 np2 => objG np2 fun Ga2 sa2 ga2 => ⟨(by show 1 ≤ sizeLine; decide), fun q2 nq2 => lstG nq2 fun Gb2 sb2 gb2 => ⟨_, _, _, _, rfl, rfl, sb2 _ _ (sa2 _ _ gA), gb2, szBig (by show _ + 1 ≤ _; omega), fun r2 nr2 => objG nr2 fun Gc2 sc2 gc2 => ?_⟩⟩⟩
        have s32 := sa2.trans (sb2.trans sc2)
        have gp2 := sc2 _ _ (sb2 _ _ ga2)
        have rst2 := (ne_of_none (sb2 _ _ (sa2 _ _ gS)) nr2).symm
        have rk := (Ss.of (st := st) (s32)).rkl gS
        have gA := (Ss.of (st := st) (s32)) a _ ast gA
        have le := le.ss gS (Ss.of (st := st) (s32))
        have d3 := d3.kn rk.kn
        have da := da.kn rk.kn
        have gp := rk.tup _ _ gp
        have gp1 := rk.tup _ _ gp1
        have tot := tot.trans (Ss.of (st := st) (s32))
        have gS := (s32) _ _ gS
        refine ⟨_, rfl, _, r2, st, _, (e.int y i), _, _, rfl, gS, rst2, gc2, .int le gp2, (by rw [Le.mx]; omega), .inl ⟨_, _, _, _, d3, w2, fun G3 ss3 gS3 => ?_⟩⟩
        exact q _ (tot.trans ss3) (fin2 gS3 (by omega) (by omega))
    | @fold n _ a1 b1 t kk x y i j j1 j2 s1 s2 s3 s4 g1 g2 g3 g4 h2n hk w1 w2 w3 w4 =>
      have w1 := w1.up (Nat.le_succ _)
      have w2 := w2.up (Nat.le_succ _)
      have w3 := w3.up (Nat.le_succ _)
      have w4 := w4.up (Nat.le_succ _)
      obtain ⟨p, u1, u2, u3, rfl, gp, d1, d2, d3⟩ := Dd.of6 dt
      obtain ⟨p1, v1, v2, rfl, gp1, da, dr⟩ := Dd.of3 d1
      obtain ⟨p2, v3, v4, rfl, gp2, dk, dn⟩ := Dd.of3 dr
      refine ⟨_, rfl, p, _, _, _, rfl, rfl, SqT.of gp, atI_nat (j := 0) rfl, ?_⟩
      refine ⟨_, rfl, rfl, _, rfl, iteF ⟨_, rfl, rfl, _, rfl, iteF ⟨_, rfl, rfl, _, rfl, iteF ⟨_, rfl, rfl, _, rfl, iteF ⟨_, rfl, rfl, _, rfl, iteF ⟨_, rfl, rfl, _, rfl, iteF ⟨_, rfl, rfl, _, rfl, iteF ?_⟩⟩⟩⟩⟩⟩⟩
      refine ⟨_, rfl, p, _, _, _, rfl, rfl, SqT.of gp, atI_nat (j := 1) rfl, ?_⟩
      refine ⟨_, rfl, p1, _, _, _, rfl, rfl, SqT.of gp1, atI_nat (j := 1) rfl, _, rfl, _, rfl, _, a, st, us, e, _, _, rfl, gS, ast, gA, le, by omega, .inl ⟨_, _, _, _, da, w1, fun G1 ss1 gS1 => ?_⟩⟩
      have rk := ss1.rkl gS
      have gA := ss1 a _ ast gA
      have le := le.ss gS ss1
      have d2 := d2.kn rk.kn
      have d3 := d3.kn rk.kn
      have da := da.kn rk.kn
      have dk := dk.kn rk.kn
      have gp := rk.tup _ _ gp
      have gp1 := rk.tup _ _ gp1
      have gp2 := rk.tup _ _ gp2
      have tot := ss1
      have gS := gS1
      refine ⟨_, rfl, p1, _, _, _, rfl, rfl, SqT.of gp1, atI_nat (j := 2) rfl, p2, _, _, _, rfl, rfl, SqT.of gp2, atI_nat (j := 1) rfl, _, rfl, _, rfl, _, a, st, us, e, _, _, rfl, gS, ast, gA, le, by omega, .inl ⟨.num kk, _, _, _, dk, .num hk, fun G2 ss2 gS2 => ?_⟩⟩
      have rk := ss2.rkl gS
      have gA := ss2 a _ ast gA
      have le := le.ss gS ss2
      have d2 := d2.kn rk.kn
      have d3 := d3.kn rk.kn
      have da := da.kn rk.kn
      have dk := dk.kn rk.kn
      have gp := rk.tup _ _ gp
      have gp1 := rk.tup _ _ gp1
      have gp2 := rk.tup _ _ gp2
      have tot := tot.trans ss2
      have gS := gS2
      refine ⟨_, rfl, p, _, _, _, rfl, rfl, SqT.of gp, atI_nat (j := 2) rfl, _, rfl, _, rfl, _, a, st, us, e, _, _, rfl, gS, ast, gA, le, by omega, .inl ⟨_, _, _, _, d2, w2, fun G3 ss3 gS3 => ?_⟩⟩
      have rk := ss3.rkl gS
      have gA := ss3 a _ ast gA
      have le := le.ss gS ss3
      have d2 := d2.kn rk.kn
      have d3 := d3.kn rk.kn
      have da := da.kn rk.kn
      have dk := dk.kn rk.kn
      have gp := rk.tup _ _ gp
      have gp1 := rk.tup _ _ gp1
      have gp2 := rk.tup _ _ gp2
      have tot := tot.trans ss3
      have gS := gS3
      refine ⟨_, rfl, st, _, _, _, rfl, rfl, SqL.of gS, atI_nat (j := 0) rfl, _, _, rfl, rfl, _, rfl, st, _, _, 0, rfl, rfl, gS, rfl, ?_⟩
      refine stG fun Gu4 ssu4 gSu4 => ?_
      replace gSu4 : Gu4 st = some (.lst [.int (((_ + 3 : Nat)) : Int), .int (_ : Int)]) := gSu4
      have rk := ssu4.rkl gS
      have gA := ssu4 a _ ast gA
      have le := le.ss gS ssu4
      have d2 := d2.kn rk.kn
      have d3 := d3.kn rk.kn
      have da := da.kn rk.kn
      have dk := dk.kn rk.kn
      have gp := rk.tup _ _ gp
      have gp1 := rk.tup _ _ gp1
      have gp2 := rk.tup _ _ gp2
      have tot := tot.trans ssu4
      have gS := gSu4
      refine ⟨_, rfl, _, rfl, (by show 2 ≤ sizeLine; decide), fun l9 nl9 => objG nl9 fun G9 sl9 gl9 => ?_⟩
      have rk := (Ss.of (st := st) (sl9)).rkl gS
      have gA := (Ss.of (st := st) (sl9)) a _ ast gA
      have le := le.ss gS (Ss.of (st := st) (sl9))
      have d2 := d2.kn rk.kn
      have d3 := d3.kn rk.kn
      have da := da.kn rk.kn
      have dk := dk.kn rk.kn
      have gp := rk.tup _ _ gp
      have gp1 := rk.tup _ _ gp1
      have gp2 := rk.tup _ _ gp2
      have tot := tot.trans (Ss.of (st := st) (sl9))
      have gS := (sl9) _ _ gS
      refine ⟨l9, rfl, ⟨_, SqT.of gl9⟩, for_tup (K := K) (a := l9) (xs := [.int (kk : Int), .int (i : Int)]) (fun ii σ G => ∃ (y4 y5 y7 y8 y9 y10 y11 y15 y16 : Option V) (fi si mi : Nat), σ = [some (.ref p), some (.ref a), some (.ref st), some (.str "fold"), y4, y5, some (.int (fi : Int)), y7, y8, y9, y10, y11, some (.ref p1), some (.int (i : Int)), some (.int (kk : Int)), y15, y16] ∧ Ss st G9 G ∧ G st = some (.lst [.int (si : Int), .int (mi : Int)]) ∧ ((ii = 0 ∧ fi = j ∧ si = s0 + s1 + 0 + s2 + 3 ∧ mi = max (max (max m0 g1) 0) g2) ∨ (ii = 1 ∧ fi = j1 ∧ si = s0 + s1 + s2 + 3 + (1 + s3) ∧ mi = max (max (max m0 g1) g2) g3) ∨ (2 ≤ ii ∧ fi = iR ∧ si = s0 + (s1 + s2 + 3 + (1 + s3) + (1 + s4)) ∧ mi = max m0 (max (max g1 g2) (max g3 g4))))) ⟨_, _, _, _, _, _, _, _, _, j, _, _, rfl, fun _ _ _ e => e, gS, .inl ⟨rfl, rfl, rfl, rfl⟩⟩ (fun ii σ G _ z => ?_) (fun ii u σ G hu z => ?_) (fun σ G z => ?_)⟩
      · obtain ⟨y4, y5, y7, y8, y9, y10, y11, y15, y16, fi, si, mi, rfl, ss, _⟩ := z
        exact SqT.of ((ss.rkl gS).tup _ _ gl9)
      · obtain ⟨y4, y5, y7, y8, y9, y10, y11, y15, y16, fi, si, mi, rfl, ssl, gSl, alt⟩ := z
        have rk := ssl.rkl gS
        have gA := ssl a _ ast gA
        have le := le.ss gS ssl
        have d2 := d2.kn rk.kn
        have d3 := d3.kn rk.kn
        have da := da.kn rk.kn
        have dk := dk.kn rk.kn
        have gp := rk.tup _ _ gp
        have gp1 := rk.tup _ _ gp1
        have gp2 := rk.tup _ _ gp2
        have tot := tot.trans ssl
        have gS := gSl
        have tl := ssl
        have hii : ii < 2 := (List.getElem?_eq_some_iff.mp hu).1
        have hcase : (ii = 0 ∧ u = .int (kk : Int) ∧ fi = j ∧ si = s0 + s1 + 0 + s2 + 3 ∧ mi = max (max (max m0 g1) 0) g2) ∨ (ii = 1 ∧ u = .int (i : Int) ∧ fi = j1 ∧ si = s0 + s1 + s2 + 3 + (1 + s3) ∧ mi = max (max (max m0 g1) g2) g3) := by
          rcases alt with ⟨rfl, h1, h2, h3⟩ | ⟨rfl, h1, h2, h3⟩ | ⟨h0, _⟩
          · exact .inl ⟨rfl, (Option.some.inj hu).symm, h1, h2, h3⟩
          · exact .inr ⟨rfl, (Option.some.inj hu).symm, h1, h2, h3⟩
          · omega
        rcases hcase with ⟨rfl, rfl, rfl, rfl, rfl⟩ | ⟨rfl, rfl, rfl, rfl, rfl⟩
        · skip
          refine ⟨_, rfl, st, _, _, _, rfl, rfl, SqL.of gS, atI_nat (j := 0) rfl, _, _, rfl, rfl, _, rfl, st, _, _, 0, rfl, rfl, gS, rfl, ?_⟩
          refine stG fun Gu5 ssu5 gSu5 => ?_
          replace gSu5 : Gu5 st = some (.lst [.int (((_ + 1 : Nat)) : Int), .int (_ : Int)]) := gSu5
          have rk := ssu5.rkl gS
          have gA := ssu5 a _ ast gA
          have le := le.ss gS ssu5
          have d2 := d2.kn rk.kn
          have d3 := d3.kn rk.kn
          have da := da.kn rk.kn
          have dk := dk.kn rk.kn
          have gp := rk.tup _ _ gp
          have gp1 := rk.tup _ _ gp1
          have gp2 := rk.tup _ _ gp2
          have tot := tot.trans ssu5
          have tl := tl.trans ssu5
          have gS := gSu5
          have lw6 := le.len
          refine ⟨_, rfl, _, rfl, p, _, _, _, rfl, rfl, SqT.of gp, atI_nat (j := 3) rfl, _, rfl, (by show 2 ≤ sizeLine; decide), fun p6 np6 => objG np6 fun Ga6 sa6 ga6 => ⟨_, rfl, p, _, _, _, rfl, rfl, SqT.of (sa6 _ _ gp), atI_nat (j := 4) rfl, _, rfl, (by show 2 ≤ sizeLine; decide), fun pp6 npp6 => objG npp6 fun Gx6 sx6 gx6 => ⟨(by show 2 ≤ sizeLine; decide), fun q6 nq6 => lstG nq6 fun Gb6 sb6 gb6 => ⟨_, _, _, _, rfl, rfl, sb6 _ _ (sx6 _ _ (sa6 _ _ gA)), gb6, szBig (by show _ + 2 ≤ _; omega), fun r6 nr6 => objG nr6 fun Gc6 sc6 gc6 => ?_⟩⟩⟩⟩
          have s36 := sa6.trans (sx6.trans (sb6.trans sc6))
          have gp6 := sc6 _ _ (sb6 _ _ (sx6 _ _ ga6))
          have gpp6 := sc6 _ _ (sb6 _ _ gx6)
          have rst6 := (ne_of_none (sb6 _ _ (sx6 _ _ (sa6 _ _ gS))) nr6).symm
          have rk := (Ss.of (st := st) (s36)).rkl gS
          have gA := (Ss.of (st := st) (s36)) a _ ast gA
          have le := le.ss gS (Ss.of (st := st) (s36))
          have d2 := d2.kn rk.kn
          have d3 := d3.kn rk.kn
          have da := da.kn rk.kn
          have dk := dk.kn rk.kn
          have gp := rk.tup _ _ gp
          have gp1 := rk.tup _ _ gp1
          have gp2 := rk.tup _ _ gp2
          have tot := tot.trans (Ss.of (st := st) (s36))
          have tl := tl.trans (Ss.of (st := st) (s36))
          have gS := (s36) _ _ gS
          refine ⟨_, rfl, p, _, _, _, rfl, rfl, SqT.of gp, atI_nat (j := 5) rfl, _, rfl, _, rfl, _, r6, st, _, ((e.int x kk).int y fi), _, _, rfl, gS, rst6, gc6, le.int2 gp6 gpp6, (by rw [Le.mx, Le.mx]; omega), .inl ⟨_, _, _, _, d3, w3, fun G7 ss7 gS7 => ?_⟩⟩
          exact ⟨_, _, _, _, _, _, _, _, _, j1, _, _, rfl, tl.trans ss7, gS7, .inr (.inl ⟨rfl, rfl, by omega, by omega⟩)⟩
        · skip
          refine ⟨_, rfl, st, _, _, _, rfl, rfl, SqL.of gS, atI_nat (j := 0) rfl, _, _, rfl, rfl, _, rfl, st, _, _, 0, rfl, rfl, gS, rfl, ?_⟩
          refine stG fun Gu8 ssu8 gSu8 => ?_
          replace gSu8 : Gu8 st = some (.lst [.int (((_ + 1 : Nat)) : Int), .int (_ : Int)]) := gSu8
          have rk := ssu8.rkl gS
          have gA := ssu8 a _ ast gA
          have le := le.ss gS ssu8
          have d2 := d2.kn rk.kn
          have d3 := d3.kn rk.kn
          have da := da.kn rk.kn
          have dk := dk.kn rk.kn
          have gp := rk.tup _ _ gp
          have gp1 := rk.tup _ _ gp1
          have gp2 := rk.tup _ _ gp2
          have tot := tot.trans ssu8
          have tl := tl.trans ssu8
          have gS := gSu8
          have lw9 := le.len
          refine ⟨_, rfl, _, rfl, p, _, _, _, rfl, rfl, SqT.of gp, atI_nat (j := 3) rfl, _, rfl, (by show 2 ≤ sizeLine; decide), fun p9 np9 => objG np9 fun Ga9 sa9 ga9 => ⟨_, rfl, p, _, _, _, rfl, rfl, SqT.of (sa9 _ _ gp), atI_nat (j := 4) rfl, _, rfl, (by show 2 ≤ sizeLine; decide), fun pp9 npp9 => objG npp9 fun Gx9 sx9 gx9 => ⟨(by show 2 ≤ sizeLine; decide), fun q9 nq9 => lstG nq9 fun Gb9 sb9 gb9 => ⟨_, _, _, _, rfl, rfl, sb9 _ _ (sx9 _ _ (sa9 _ _ gA)), gb9, szBig (by show _ + 2 ≤ _; omega), fun r9 nr9 => objG nr9 fun Gc9 sc9 gc9 => ?_⟩⟩⟩⟩
          have s39 := sa9.trans (sx9.trans (sb9.trans sc9))
          have gp9 := sc9 _ _ (sb9 _ _ (sx9 _ _ ga9))
          have gpp9 := sc9 _ _ (sb9 _ _ gx9)
          have rst9 := (ne_of_none (sb9 _ _ (sx9 _ _ (sa9 _ _ gS))) nr9).symm
          have rk := (Ss.of (st := st) (s39)).rkl gS
          have gA := (Ss.of (st := st) (s39)) a _ ast gA
          have le := le.ss gS (Ss.of (st := st) (s39))
          have d2 := d2.kn rk.kn
          have d3 := d3.kn rk.kn
          have da := da.kn rk.kn
          have dk := dk.kn rk.kn
          have gp := rk.tup _ _ gp
          have gp1 := rk.tup _ _ gp1
          have gp2 := rk.tup _ _ gp2
          have tot := tot.trans (Ss.of (st := st) (s39))
          have tl := tl.trans (Ss.of (st := st) (s39))
          have gS := (s39) _ _ gS
          refine ⟨_, rfl, p, _, _, _, rfl, rfl, SqT.of gp, atI_nat (j := 5) rfl, _, rfl, _, rfl, _, r9, st, _, ((e.int x i).int y fi), _, _, rfl, gS, rst9, gc9, le.int2 gp9 gpp9, (by rw [Le.mx, Le.mx]; omega), .inl ⟨_, _, _, _, d3, w4, fun G10 ss10 gS10 => ?_⟩⟩
          exact ⟨_, _, _, _, _, _, _, _, _, iR, _, _, rfl, tl.trans ss10, gS10, .inr (.inr ⟨Nat.le_refl _, rfl, by omega, by omega⟩)⟩
      · obtain ⟨y4, y5, y7, y8, y9, y10, y11, y15, y16, fi, si, mi, rfl, ss, gSl, alt⟩ := z
        obtain ⟨rfl, rfl, rfl⟩ : fi = iR ∧ si = s0 + (s1 + s2 + 3 + (1 + s3) + (1 + s4)) ∧ mi = max m0 (max (max g1 g2) (max g3 g4)) := by
          rcases alt with ⟨h, _⟩ | ⟨h, _⟩ | ⟨_, h⟩
          · cases h
          · cases h
          · exact h
        exact ⟨_, rfl, q _ (tot.trans ss) gSl⟩
  · obtain ⟨p, u1, u2, u3, rfl, gp, d1, d2, d4⟩ := Dd.of4 dt
    cases d1
    refine ⟨_, rfl, p, _, _, _, rfl, rfl, SqT.of gp, atI_nat (j := 0) rfl, ?_⟩
    refine ⟨_, rfl, rfl, _, rfl, iteF ⟨_, rfl, rfl, _, rfl, iteF ⟨_, rfl, rfl, _, rfl, iteT ?_⟩⟩⟩
    refine ⟨_, rfl, p, _, _, _, rfl, rfl, SqT.of gp, atI_nat (j := 1) rfl, _, rfl, p, _, _, _, rfl, rfl, SqT.of gp, atI_nat (j := 3) rfl, _, rfl, a, _, rfl, .inl (SqL.of gA), fun o1 no1 => lstG no1 fun G1 sm1 g1 => ⟨(by show 3 ≤ sizeLine; decide), fun l2 nl2 => objG nl2 fun G2 sm2 g2 => ?_⟩⟩
    have sm := sm1.trans sm2
    have no := (ne_of_none gS no1).symm
    have nl := (ne_of_none (sm1 _ _ gS) nl2).symm
    exact q _ _ sm ⟨l2, o1, _, us, rfl, nl, g2, d4.same sm, no, sm2 _ _ g1, le.ss gS (.of sm)⟩
  · obtain ⟨p, u, rfl, gp, du⟩ := Dd.of2 dt
    cases du
    refine ⟨_, rfl, p, _, _, _, rfl, rfl, SqT.of gp, atI_nat (j := 0) rfl, ?_⟩
    refine ⟨_, rfl, rfl, _, rfl, iteF ⟨_, rfl, rfl, _, rfl, iteT ?_⟩⟩
    obtain ⟨ps, pr, h1, h2⟩ := le.rows
    have lp := pr.length
    have lu := le.len
    refine ⟨_, rfl, a, rfl, ⟨_, SqL.of gA⟩, fun D nD => ?_⟩
    refine lc_list (K := K) (a := a) (xs := us) (fun j F => Same H F ∧ F D = some (.lst (selN fx (ps.take j)))) ⟨newS nD, upd_same⟩ (fun j F _ z => SqL.of (z.1 _ _ gA)) (fun j u F hu z => ?_) (fun F z => ?_)
    · obtain ⟨sF, gD⟩ := z
      have lj := (List.getElem?_eq_some_iff.mp hu).1
      obtain ⟨⟨x, w⟩, hp, pa, rfl, gp'⟩ := Paired.atP pr hu
      have etk : ps.take (j + 1) = ps.take j ++ [(x, w)] := by rw [List.take_add_one, hp]; rfl
      refine ⟨pa, _, rfl, SqT.of (sF _ _ gp'), rfl, _, _, rfl, _, _, rfl, rfl, rfl, _, rfl, _, rfl, p, _, _, _, rfl, rfl, SqT.of (sF _ _ gp), atI_nat (j := 1) rfl, rfl, _, rfl, ite2 (fun c1 => ⟨_, rfl, _, gD, ?_, smk sF nD, ?_⟩) (fun c1 => ⟨sF, ?_⟩)⟩
      · refine small1000 (Nat.le_trans ?_ (show ps.length ≤ 1000 by omega))
        unfold selN
        rw [List.length_map]
        exact Nat.le_trans (List.length_filter_le _ _) (by rw [List.length_take]; exact Nat.min_le_right _ _)
      · rw [upd_same, etk, selN_app, if_pos]
        have e := of_decide_eq_true c1
        injection e with e
        exact (NM_inj _ _ e).symm
      · rw [gD, etk, selN_app, if_neg]
        intro e
        exact c1 (decide_eq_true (by rw [e]))
    obtain ⟨sF, gD⟩ := z
    rw [List.take_of_length_le (by omega)] at gD
    obtain ⟨pre, v, epre, cl⟩ := h2 _ _ _ _ hf
    refine ⟨_, rfl, D, _, _, _, rfl, rfl, SqL.of gD, (by rw [epre]; exact atI_end), ?_⟩
    exact q _ _ sF (cl.ss gS (.of sF))
end
end Kq

/-! terms with other names, how great a term is -/
namespace Kq
open PySem PySem.Spec PyProof.Rows L2 Kf Kv Kk Ku
def plainW : List Str := ["num", "none", "plus", "call", "more", "left", "right"]
/-- what a tuple of parts becomes, its parts told already -/
def Fx (ρ : Nx → Str) (w : Str) (as bs cs : List Dt) : Prop :=
  (w ∈ plainW ∧ cs = bs) ∨ (w = "name" ∧ ∃ x, as = [.str (NM x)] ∧ bs = [.str (NM x)] ∧ cs = [.str (ρ x)]) ∨
  (w = "fun" ∧ ∃ x k b k' b', as = [.str (NM x), k, b] ∧ bs = [.str (NM x), k', b'] ∧ cs = [.str (ρ x), k', b']) ∨
  (w = "fun" ∧ ∃ es b, as = [.tup es, b] ∧ cs = bs) ∨
  (w = "case" ∧ ∃ x y a b c a' b' c', as = [a, .str (NM x), b, .str (NM y), c] ∧ bs = [a', .str (NM x), b', .str (NM y), c'] ∧ cs = [a', .str (ρ x), b', .str (ρ y), c']) ∨
  (w = "rounds" ∧ ∃ x m a b m' a' b', as = [m, a, .str (NM x), b] ∧ bs = [m', a', .str (NM x), b'] ∧ cs = [m', a', .str (ρ x), b']) ∨
  (w = "fold" ∧ ∃ x y a b c a' b' c', as = [a, b, .str (NM x), .str (NM y), c] ∧ bs = [a', b', .str (NM x), .str (NM y), c'] ∧ cs = [a', b', .str (ρ x), .str (ρ y), c'])
def Od (ρ : Nx → Str) : Nat → Dt → Dt → Prop
  | 0, _, _ => False
  | n + 1, d, d' => (∃ s, d = .str s ∧ d' = .str s) ∨ (∃ i, d = .int i ∧ d' = .int i) ∨ ∃ w as bs cs, d = .tup (.str w :: as) ∧ d' = .tup (.str w :: cs) ∧ Paired (Od ρ n) (.str w :: as) (.str w :: bs) ∧ as.length ≤ 5 ∧ Fx ρ w as bs cs
theorem Od.up {ρ : Nx → Str} : ∀ {n m : Nat} {d d' : Dt}, n ≤ m → Od ρ n d d' → Od ρ m d d'
  | 0, _, _, _, _, h => h.elim
  | n + 1, 0, _, _, l, _ => by omega
  | n + 1, m + 1, d, d', l, h => by
    rcases h with h | h | ⟨w, as, bs, cs, h1, h2, h3, h5, h4⟩
    · exact .inl h
    · exact .inr (.inl h)
    · exact .inr (.inr ⟨w, as, bs, cs, h1, h2, Paired.mapP h3 fun _ _ z => Od.up (by omega) z, h5, h4⟩)
def TbAt (H : Hp) (tb : Addr) (ρ : Nx → Str) : Prop := ∃ kvs : List (Key × V), H tb = some (.dK kvs) ∧ ∀ x : Nx, valV kvs (.inr (NM x)) = some (.str (ρ x))
theorem TbAt.same {H G : Hp} {tb : Addr} {ρ : Nx → Str} (h : TbAt H tb ρ) (s : Same H G) : TbAt G tb ρ := by
  obtain ⟨kvs, g, q⟩ := h
  exact ⟨kvs, s _ _ g, q⟩
theorem TbAt.rk {H G : Hp} {tb : Addr} {ρ : Nx → Str} (h : TbAt H tb ρ) (s : Rk H G) : TbAt G tb ρ := by
  obtain ⟨kvs, g, q⟩ := h
  exact ⟨kvs, s.dic _ _ g, q⟩
theorem ddL_snoc {N : Addr → Prop} {H : Hp} : ∀ {ds : List Dt} {us : List V} {d : Dt} {u : V}, DdL N H ds us → Dd N H d u → DdL N H (ds ++ [d]) (us ++ [u])
  | _, _, _, _, .nil, h => .cons h .nil
  | _, _, _, _, .cons a b, h => .cons a (ddL_snoc b h)
theorem ddL_at {N : Addr → Prop} {H : Hp} : ∀ {ds : List Dt} {us : List V}, DdL N H ds us → ∀ {i : Nat} {u : V}, us[i]? = some u → ∃ d, ds[i]? = some d ∧ Dd N H d u
  | _, _, .nil, i, u, h => by simp at h
  | _, _, .cons a b, 0, u, h => by
    cases h
    exact ⟨_, rfl, a⟩
  | _, _, .cons a b, i + 1, u, h => by
    obtain ⟨d, e, z⟩ := ddL_at b (i := i) (u := u) (by simpa using h)
    exact ⟨d, by simpa using e, z⟩
theorem ddL_len {N : Addr → Prop} {H : Hp} : ∀ {ds : List Dt} {us : List V}, DdL N H ds us → ds.length = us.length
  | _, _, .nil => rfl
  | _, _, .cons a b => by rw [List.length_cons, List.length_cons, ddL_len b]
theorem paired_at {α β : Type} {R : α → β → Prop} : ∀ {xs : List α} {ys : List β}, Paired R xs ys → ∀ {i : Nat} {x : α}, xs[i]? = some x → ∃ y, ys[i]? = some y ∧ R x y
  | _, _, .nil, i, x, h => by simp at h
  | _, _, .cons a b, 0, x, h => by
    cases h
    exact ⟨_, rfl, a⟩
  | _, _, .cons a b, i + 1, x, h => by
    obtain ⟨y, e, z⟩ := paired_at b (i := i) (x := x) (by simpa using h)
    exact ⟨y, by simpa using e, z⟩
section
variable {P : Program} {w : World} {K : PySem.W.Frag} {mg : Str → Option Value} {base : Heap}
def spOther (n : Nat) : Sp := fun vs H Q _ => ∃ (v : V) (tb : Addr) (ρ : Nx → Str) (d d' : Dt), vs = [v, .ref tb] ∧ TbAt H tb ρ ∧ Od ρ n d d' ∧ Dd Non H d v ∧ ∀ (G : Hp) (u : V), Same H G → Dd Non G d' u → Q u G
abbrev tOther : Stmt := tp 76
abbrev nOther : List Str := ["_law_term", "_law_table", "_law_part", "_law_found"]
abbrev psOther : List Str := ["_law_term", "_law_table"]
theorem scOther : FnScope nOther psOther (defScope tOther) := ⟨rfl, rfl, rfl, by decide +kernel, rfl, by decide +kernel, by decide +kernel⟩
theorem okOther {f : Addr} {fd : FuncData} {k n : Nat} (F : Fun K "_law_called_otherwise" "_law_called_otherwise" tOther f fd)
    (DO : Okd P w K mg base CX0 (k) "_law_called_otherwise" ["_law_term", "_law_table"] (spOther n))
    (m_isinstance : mg "isinstance" = none)
    (m_str : mg "str" = none)
    (m_tuple : mg "tuple" = none) : FnOk P w K mg base CX0 (k + 1) f fd psOther (spOther (n + 1)) := by
  obtain ⟨fO, fdO, GO, bO, gO, kO⟩ := DO
  refine F.ok scOther (fun vs H Q E h => ?_) (fun cdv A outer s H vs Q E hr h => ?_)
  · obtain ⟨v, tb, ρ, d, d2, rfl, _⟩ := h
    rfl
  obtain ⟨v, tb, ρ, d, d2, rfl, gT, od, dv, q⟩ := h
  refine ⟨_, pss_cons (ps_if (pt_not (pt_val (pe_callB (isiK K rfl) (by rfl) m_isinstance PyProof.Rows.boot_isinstance (pa_cons (pv 0) (pa_cons (pe_bltn (v := .ty "tuple") (by rfl) m_tuple PyProof.Rows.boot_tuple rfl) pa_nil))))) (pss_one (ps_ret (pv 0))) pss_nil)
    (pss_cons (ps_setLc (i := 3) (own := [("_law_part", 2)]) (g := gName 2) (by rfl) scOther.nd rfl rfl (sw_true rfl rfl rfl (by decide +kernel)) (pi_tup (pv 0)) (blkOk_by (own := [("_law_part", 2)]) (N := nOther) (sc := defScope tOther) (by decide +kernel)) (fun _ _ _ _ _ => (pg_name (i := 2) scOther.nd rfl (.inl rfl))) (fun _ _ _ _ _ => pts_nil) (fun _ _ _ _ _ => (pe_call GO hr (by rfl) gO kO bO .nil pass0 (pa_cons (pv 2) (pa_cons (pv 1) pa_nil)))))
    (pss_cons (ps_if (PW.pt (pw_and (pt_cmpR op_in_seq (pe_ix ix_tup (pv 0) pe_int (fun _ _ => rfl)) (pe_tup (pa_cons pe_str (pa_cons pe_str pa_nil))) rfl) (pw_and1 (pt_val (pe_callB (isiK K rfl) (by rfl) m_isinstance PyProof.Rows.boot_isinstance (pa_cons (pe_ix ix_tup (pv 0) pe_int (fun _ _ => rfl)) (pa_cons (pe_bltn (v := .ty "str") (by rfl) m_str PyProof.Rows.boot_str rfl) pa_nil))))))) (pss_one (ps_asg (pe_dget (hu_of hr) (pv 1) (pe_ix ix_tup (pv 0) pe_int (fun _ _ => rfl)) (fun _ _ => rfl)) (pg_sub (pv 3) pe_int set_list))) pss_nil)
    (pss_cons (ps_if (pt_cmpR op_eq (pe_ix ix_tup (pv 0) pe_int (fun _ _ => rfl)) pe_str (nomark _)) (pss_cons (ps_asg (pe_dget (hu_of hr) (pv 1) (pe_ix ix_tup (pv 0) pe_int (fun _ _ => rfl)) (fun _ _ => rfl)) (pg_sub (pv 3) pe_int set_list))
    (pss_one (ps_asg (pe_dget (hu_of hr) (pv 1) (pe_ix ix_tup (pv 0) pe_int (fun _ _ => rfl)) (fun _ _ => rfl)) (pg_sub (pv 3) pe_int set_list)))) pss_nil)
    (pss_cons (ps_if (pt_cmpR op_in_seq (pe_ix ix_tup (pv 0) pe_int (fun _ _ => rfl)) (pe_tup (pa_cons pe_str (pa_cons pe_str pa_nil))) rfl) (pss_one (ps_asg (pe_dget (hu_of hr) (pv 1) (pe_ix ix_tup (pv 0) pe_int (fun _ _ => rfl)) (fun _ _ => rfl)) (pg_sub (pv 3) pe_int set_list))) pss_nil)
    (pss_cons (ps_if (pt_cmpR op_eq (pe_ix ix_tup (pv 0) pe_int (fun _ _ => rfl)) pe_str (nomark _)) (pss_one (ps_asg (pe_dget (hu_of hr) (pv 1) (pe_ix ix_tup (pv 0) pe_int (fun _ _ => rfl)) (fun _ _ => rfl)) (pg_sub (pv 3) pe_int set_list))) pss_nil)
    (pss_one (ps_ret (pe_callTy call_tuple_of (by rfl) m_tuple PyProof.Rows.boot_tuple (pa_cons (pv 3) pa_nil))))))))), ?_⟩
  rcases od with ⟨s0, rfl, rfl⟩ | ⟨i0, rfl, rfl⟩ | ⟨w0, as, bs, cs, rfl, rfl, pr, l5, fx⟩
  · cases dv
    refine ⟨_, rfl, _, _, _, _, false, rfl, .ty "tuple", .base (.str _), kit_ty (by decide +kernel), _, rfl, iteT ⟨_, rfl, ?_⟩⟩
    exact q _ _ (fun _ _ e => e) (.str _)
  · cases dv
    refine ⟨_, rfl, _, _, _, _, false, rfl, .ty "tuple", .base (.int _), kit_ty (by decide +kernel), _, rfl, iteT ⟨_, rfl, ?_⟩⟩
    exact q _ _ (fun _ _ e => e) (.int _)
  obtain ⟨p, us0, rfl, gp0, dl0⟩ : ∃ p us, v = V.ref p ∧ H p = some (.tup us) ∧ DdL Non H (.str w0 :: as) us := by
    cases dv with
    | tup e t => exact ⟨_, _, rfl, e, t⟩
  obtain ⟨us, rfl, dl⟩ : ∃ us, us0 = .str w0 :: us ∧ DdL Non H as us := by
    cases dl0 with
    | cons a b =>
      cases a
      exact ⟨_, rfl, b⟩
  have gp := gp0
  have lu := ddL_len dl
  refine ⟨_, rfl, _, _, _, _, true, rfl, .ty "tuple", .base (.tup gp), kit_ty (by decide +kernel), _, rfl, iteF ?_⟩
  refine ⟨_, rfl, p, rfl, ⟨_, SqT.of gp⟩, fun D nD => ?_⟩
  have prs := pr
  refine lc_tup (K := K) (a := p) (xs := .str w0 :: us) (fun j F => Same H F ∧ ∃ ws, F D = some (.lst ws) ∧ ws.length = j ∧ DdL Non F ((.str w0 :: bs : List Dt).take j) ws) ⟨newS nD, [], upd_same, rfl, .nil⟩ (fun j F _ z => SqT.of (z.1 _ _ gp)) (fun j u F hu z => ?_) (fun F z => ?_)
  · obtain ⟨sF, ws, gD, lw, dw⟩ := z
    have lj : j < us.length + 1 := (List.getElem?_eq_some_iff.mp hu).1
    obtain ⟨dx, e1, dx1⟩ := ddL_at dl0 hu
    obtain ⟨dy, e2, od1⟩ := paired_at prs e1
    refine ⟨rfl, _, rfl, _, rfl, _, tb, ρ, dx, dy, rfl, gT.same sF, od1, dx1.same sF, fun G u2 sG du => ⟨_, sG _ _ gD, small1000 (by omega), smk (sF.trans sG) nD, ws ++ [u2], upd_same, by rw [List.length_append, lw]; rfl, ?_⟩⟩
    rw [List.take_add_one, e2]
    exact ddLput (ddL_snoc (dw.same sG) du) (sG _ _ gD)
  obtain ⟨sF, ws, gD, lw, dw⟩ := z
  have lb : as.length + 1 = bs.length + 1 := pr.length
  rw [List.take_of_length_le (by show bs.length + 1 ≤ us.length + 1; omega)] at dw
  clear dv
  obtain ⟨vs, rfl, dv⟩ : ∃ vs, ws = .str w0 :: vs ∧ DdL Non F bs vs := by
    cases dw with
    | cons a b =>
      cases a
      exact ⟨_, rfl, b⟩
  clear dw prs
  have gp := sF _ _ gp
  have gT := gT.same sF
  have tot := sF
  clear gp0 dl0
  rcases fx with ⟨hw, rfl⟩ | ⟨rfl, x, rfl, rfl, rfl⟩ | ⟨rfl, x, k1, b1, k2, b2, rfl, rfl, rfl⟩ | ⟨rfl, es, b1, rfl, rfl⟩ | ⟨rfl, x, y, a1, b1, c1, a2, b2, c2, rfl, rfl, rfl⟩ | ⟨rfl, x, m1, a1, b1, m2, a2, b2, rfl, rfl, rfl⟩ | ⟨rfl, x, y, a1, b1, c1, a2, b2, c2, rfl, rfl, rfl⟩
  · simp only [plainW, List.mem_cons, List.not_mem_nil, or_false] at hw
    rcases hw with rfl | rfl | rfl | rfl | rfl | rfl | rfl
    · skip
      refine ⟨_, rfl, p, _, _, _, rfl, rfl, SqT.of gp, atI_nat (j := 0) rfl, (by show 2 ≤ sizeLine; decide), fun p1 n1 => objG n1 fun G1 s1 g1 => ⟨_, _, rfl, .inr (SqT.of g1), rfl, rfl, _, rfl, iteF (iteF ?_)⟩⟩
      have gp := s1 _ _ gp
      have gT := gT.same s1
      have gD := s1 _ _ gD
      have tot := tot.trans s1
      have dv := dv.same s1
      refine ⟨_, rfl, p, _, _, _, rfl, rfl, SqT.of gp, atI_nat (j := 0) rfl, rfl, _, rfl, iteF ?_⟩
      refine ⟨_, rfl, p, _, _, _, rfl, rfl, SqT.of gp, atI_nat (j := 0) rfl, (by show 2 ≤ sizeLine; decide), fun p2 n2 => objG n2 fun G2 s2 g2 => ⟨_, _, rfl, .inr (SqT.of g2), rfl, rfl, _, rfl, iteF ?_⟩⟩
      have gp := s2 _ _ gp
      have gT := gT.same s2
      have gD := s2 _ _ gD
      have tot := tot.trans s2
      have dv := dv.same s2
      refine ⟨_, rfl, p, _, _, _, rfl, rfl, SqT.of gp, atI_nat (j := 0) rfl, rfl, _, rfl, iteF ?_⟩
      exact ⟨_, rfl, D, _, rfl, .inl ⟨SqL.of gD, fun l nl => q _ _ (tot.trans (newS nl)) (.tup upd_same (DdL.same (.cons (.str _) (dv)) (newS nl)))⟩⟩
    · skip
      refine ⟨_, rfl, p, _, _, _, rfl, rfl, SqT.of gp, atI_nat (j := 0) rfl, (by show 2 ≤ sizeLine; decide), fun p1 n1 => objG n1 fun G1 s1 g1 => ⟨_, _, rfl, .inr (SqT.of g1), rfl, rfl, _, rfl, iteF (iteF ?_)⟩⟩
      have gp := s1 _ _ gp
      have gT := gT.same s1
      have gD := s1 _ _ gD
      have tot := tot.trans s1
      have dv := dv.same s1
      refine ⟨_, rfl, p, _, _, _, rfl, rfl, SqT.of gp, atI_nat (j := 0) rfl, rfl, _, rfl, iteF ?_⟩
      refine ⟨_, rfl, p, _, _, _, rfl, rfl, SqT.of gp, atI_nat (j := 0) rfl, (by show 2 ≤ sizeLine; decide), fun p2 n2 => objG n2 fun G2 s2 g2 => ⟨_, _, rfl, .inr (SqT.of g2), rfl, rfl, _, rfl, iteF ?_⟩⟩
      have gp := s2 _ _ gp
      have gT := gT.same s2
      have gD := s2 _ _ gD
      have tot := tot.trans s2
      have dv := dv.same s2
      refine ⟨_, rfl, p, _, _, _, rfl, rfl, SqT.of gp, atI_nat (j := 0) rfl, rfl, _, rfl, iteF ?_⟩
      exact ⟨_, rfl, D, _, rfl, .inl ⟨SqL.of gD, fun l nl => q _ _ (tot.trans (newS nl)) (.tup upd_same (DdL.same (.cons (.str _) (dv)) (newS nl)))⟩⟩
    · skip
      refine ⟨_, rfl, p, _, _, _, rfl, rfl, SqT.of gp, atI_nat (j := 0) rfl, (by show 2 ≤ sizeLine; decide), fun p1 n1 => objG n1 fun G1 s1 g1 => ⟨_, _, rfl, .inr (SqT.of g1), rfl, rfl, _, rfl, iteF (iteF ?_)⟩⟩
      have gp := s1 _ _ gp
      have gT := gT.same s1
      have gD := s1 _ _ gD
      have tot := tot.trans s1
      have dv := dv.same s1
      refine ⟨_, rfl, p, _, _, _, rfl, rfl, SqT.of gp, atI_nat (j := 0) rfl, rfl, _, rfl, iteF ?_⟩
      refine ⟨_, rfl, p, _, _, _, rfl, rfl, SqT.of gp, atI_nat (j := 0) rfl, (by show 2 ≤ sizeLine; decide), fun p2 n2 => objG n2 fun G2 s2 g2 => ⟨_, _, rfl, .inr (SqT.of g2), rfl, rfl, _, rfl, iteF ?_⟩⟩
      have gp := s2 _ _ gp
      have gT := gT.same s2
      have gD := s2 _ _ gD
      have tot := tot.trans s2
      have dv := dv.same s2
      refine ⟨_, rfl, p, _, _, _, rfl, rfl, SqT.of gp, atI_nat (j := 0) rfl, rfl, _, rfl, iteF ?_⟩
      exact ⟨_, rfl, D, _, rfl, .inl ⟨SqL.of gD, fun l nl => q _ _ (tot.trans (newS nl)) (.tup upd_same (DdL.same (.cons (.str _) (dv)) (newS nl)))⟩⟩
    · skip
      refine ⟨_, rfl, p, _, _, _, rfl, rfl, SqT.of gp, atI_nat (j := 0) rfl, (by show 2 ≤ sizeLine; decide), fun p1 n1 => objG n1 fun G1 s1 g1 => ⟨_, _, rfl, .inr (SqT.of g1), rfl, rfl, _, rfl, iteF (iteF ?_)⟩⟩
      have gp := s1 _ _ gp
      have gT := gT.same s1
      have gD := s1 _ _ gD
      have tot := tot.trans s1
      have dv := dv.same s1
      refine ⟨_, rfl, p, _, _, _, rfl, rfl, SqT.of gp, atI_nat (j := 0) rfl, rfl, _, rfl, iteF ?_⟩
      refine ⟨_, rfl, p, _, _, _, rfl, rfl, SqT.of gp, atI_nat (j := 0) rfl, (by show 2 ≤ sizeLine; decide), fun p2 n2 => objG n2 fun G2 s2 g2 => ⟨_, _, rfl, .inr (SqT.of g2), rfl, rfl, _, rfl, iteF ?_⟩⟩
      have gp := s2 _ _ gp
      have gT := gT.same s2
      have gD := s2 _ _ gD
      have tot := tot.trans s2
      have dv := dv.same s2
      refine ⟨_, rfl, p, _, _, _, rfl, rfl, SqT.of gp, atI_nat (j := 0) rfl, rfl, _, rfl, iteF ?_⟩
      exact ⟨_, rfl, D, _, rfl, .inl ⟨SqL.of gD, fun l nl => q _ _ (tot.trans (newS nl)) (.tup upd_same (DdL.same (.cons (.str _) (dv)) (newS nl)))⟩⟩
    · skip
      refine ⟨_, rfl, p, _, _, _, rfl, rfl, SqT.of gp, atI_nat (j := 0) rfl, (by show 2 ≤ sizeLine; decide), fun p1 n1 => objG n1 fun G1 s1 g1 => ⟨_, _, rfl, .inr (SqT.of g1), rfl, rfl, _, rfl, iteF (iteF ?_)⟩⟩
      have gp := s1 _ _ gp
      have gT := gT.same s1
      have gD := s1 _ _ gD
      have tot := tot.trans s1
      have dv := dv.same s1
      refine ⟨_, rfl, p, _, _, _, rfl, rfl, SqT.of gp, atI_nat (j := 0) rfl, rfl, _, rfl, iteF ?_⟩
      refine ⟨_, rfl, p, _, _, _, rfl, rfl, SqT.of gp, atI_nat (j := 0) rfl, (by show 2 ≤ sizeLine; decide), fun p2 n2 => objG n2 fun G2 s2 g2 => ⟨_, _, rfl, .inr (SqT.of g2), rfl, rfl, _, rfl, iteF ?_⟩⟩
      have gp := s2 _ _ gp
      have gT := gT.same s2
      have gD := s2 _ _ gD
      have tot := tot.trans s2
      have dv := dv.same s2
      refine ⟨_, rfl, p, _, _, _, rfl, rfl, SqT.of gp, atI_nat (j := 0) rfl, rfl, _, rfl, iteF ?_⟩
      exact ⟨_, rfl, D, _, rfl, .inl ⟨SqL.of gD, fun l nl => q _ _ (tot.trans (newS nl)) (.tup upd_same (DdL.same (.cons (.str _) (dv)) (newS nl)))⟩⟩
    · skip
      refine ⟨_, rfl, p, _, _, _, rfl, rfl, SqT.of gp, atI_nat (j := 0) rfl, (by show 2 ≤ sizeLine; decide), fun p1 n1 => objG n1 fun G1 s1 g1 => ⟨_, _, rfl, .inr (SqT.of g1), rfl, rfl, _, rfl, iteF (iteF ?_)⟩⟩
      have gp := s1 _ _ gp
      have gT := gT.same s1
      have gD := s1 _ _ gD
      have tot := tot.trans s1
      have dv := dv.same s1
      refine ⟨_, rfl, p, _, _, _, rfl, rfl, SqT.of gp, atI_nat (j := 0) rfl, rfl, _, rfl, iteF ?_⟩
      refine ⟨_, rfl, p, _, _, _, rfl, rfl, SqT.of gp, atI_nat (j := 0) rfl, (by show 2 ≤ sizeLine; decide), fun p2 n2 => objG n2 fun G2 s2 g2 => ⟨_, _, rfl, .inr (SqT.of g2), rfl, rfl, _, rfl, iteF ?_⟩⟩
      have gp := s2 _ _ gp
      have gT := gT.same s2
      have gD := s2 _ _ gD
      have tot := tot.trans s2
      have dv := dv.same s2
      refine ⟨_, rfl, p, _, _, _, rfl, rfl, SqT.of gp, atI_nat (j := 0) rfl, rfl, _, rfl, iteF ?_⟩
      exact ⟨_, rfl, D, _, rfl, .inl ⟨SqL.of gD, fun l nl => q _ _ (tot.trans (newS nl)) (.tup upd_same (DdL.same (.cons (.str _) (dv)) (newS nl)))⟩⟩
    · skip
      refine ⟨_, rfl, p, _, _, _, rfl, rfl, SqT.of gp, atI_nat (j := 0) rfl, (by show 2 ≤ sizeLine; decide), fun p1 n1 => objG n1 fun G1 s1 g1 => ⟨_, _, rfl, .inr (SqT.of g1), rfl, rfl, _, rfl, iteF (iteF ?_)⟩⟩
      have gp := s1 _ _ gp
      have gT := gT.same s1
      have gD := s1 _ _ gD
      have tot := tot.trans s1
      have dv := dv.same s1
      refine ⟨_, rfl, p, _, _, _, rfl, rfl, SqT.of gp, atI_nat (j := 0) rfl, rfl, _, rfl, iteF ?_⟩
      refine ⟨_, rfl, p, _, _, _, rfl, rfl, SqT.of gp, atI_nat (j := 0) rfl, (by show 2 ≤ sizeLine; decide), fun p2 n2 => objG n2 fun G2 s2 g2 => ⟨_, _, rfl, .inr (SqT.of g2), rfl, rfl, _, rfl, iteF ?_⟩⟩
      have gp := s2 _ _ gp
      have gT := gT.same s2
      have gD := s2 _ _ gD
      have tot := tot.trans s2
      have dv := dv.same s2
      refine ⟨_, rfl, p, _, _, _, rfl, rfl, SqT.of gp, atI_nat (j := 0) rfl, rfl, _, rfl, iteF ?_⟩
      exact ⟨_, rfl, D, _, rfl, .inl ⟨SqL.of gD, fun l nl => q _ _ (tot.trans (newS nl)) (.tup upd_same (DdL.same (.cons (.str _) (dv)) (newS nl)))⟩⟩
  · skip
    cases dl with
    | cons dle0 dl =>
    cases dle0
    cases dl
    cases dv with
    | cons dve0 dv =>
    cases dve0
    cases dv
    refine ⟨_, rfl, p, _, _, _, rfl, rfl, SqT.of gp, atI_nat (j := 0) rfl, (by show 2 ≤ sizeLine; decide), fun p1 n1 => objG n1 fun G1 s1 g1 => ⟨_, _, rfl, .inr (SqT.of g1), rfl, rfl, _, rfl, iteT ?_⟩⟩
    have gp := s1 _ _ gp
    have gT := gT.same s1
    have gD := s1 _ _ gD
    have tot := tot.trans s1
    refine ⟨_, rfl, p, _, _, _, rfl, rfl, SqT.of gp, atI_nat (j := 1) rfl, _, _, _, _, true, rfl, .ty "str", .base (.str _), kit_ty (by decide +kernel), _, rfl, iteT ?_⟩
    obtain ⟨kvs2, hk2, hv2⟩ := gT
    have gT : TbAt _ tb ρ := ⟨kvs2, hk2, hv2⟩
    have ev2 := hv2 x
    refine ⟨_, rfl, _, rfl, p, _, _, _, rfl, rfl, SqT.of gp, atI_nat (j := 1) rfl, _, _, rfl, ev2 ▸ DGet.k (k := Sum.inr (NM x)) hk2, _, rfl, D, _, _, 1, rfl, rfl, gD, rfl, ?_⟩
    refine stG fun G2 ss2 gD2 => ?_
    have rk2 := ss2.rkl gD
    have gp := rk2.tup _ _ gp
    have gT := gT.rk rk2
    have tot : Same H G2 := fun b o e => ss2 b o (fun z => by rw [z, nD] at e; cases e) (tot b o e)
    have gD := gD2
    refine ⟨_, rfl, p, _, _, _, rfl, rfl, SqT.of gp, atI_nat (j := 0) rfl, rfl, _, rfl, iteF ?_⟩
    refine ⟨_, rfl, p, _, _, _, rfl, rfl, SqT.of gp, atI_nat (j := 0) rfl, (by show 2 ≤ sizeLine; decide), fun p3 n3 => objG n3 fun G3 s3 g3 => ⟨_, _, rfl, .inr (SqT.of g3), rfl, rfl, _, rfl, iteF ?_⟩⟩
    have gp := s3 _ _ gp
    have gT := gT.same s3
    have gD := s3 _ _ gD
    have tot := tot.trans s3
    refine ⟨_, rfl, p, _, _, _, rfl, rfl, SqT.of gp, atI_nat (j := 0) rfl, rfl, _, rfl, iteF ?_⟩
    exact ⟨_, rfl, D, _, rfl, .inl ⟨SqL.of gD, fun l nl => q _ _ (tot.trans (newS nl)) (.tup upd_same (DdL.same (.cons (.str _) (.cons (.str _) .nil)) (newS nl)))⟩⟩
  · skip
    cases dl with
    | cons dle0 dl =>
    cases dle0
    cases dl with
    | cons dle1 dl =>
    cases dl with
    | cons dle2 dl =>
    cases dl
    cases dv with
    | cons dve0 dv =>
    cases dve0
    cases dv with
    | cons dve1 dv =>
    cases dv with
    | cons dve2 dv =>
    cases dv
    refine ⟨_, rfl, p, _, _, _, rfl, rfl, SqT.of gp, atI_nat (j := 0) rfl, (by show 2 ≤ sizeLine; decide), fun p1 n1 => objG n1 fun G1 s1 g1 => ⟨_, _, rfl, .inr (SqT.of g1), rfl, rfl, _, rfl, iteT ?_⟩⟩
    have gp := s1 _ _ gp
    have gT := gT.same s1
    have gD := s1 _ _ gD
    have tot := tot.trans s1
    have dve1 := dve1.same s1
    have dve2 := dve2.same s1
    refine ⟨_, rfl, p, _, _, _, rfl, rfl, SqT.of gp, atI_nat (j := 1) rfl, _, _, _, _, true, rfl, .ty "str", .base (.str _), kit_ty (by decide +kernel), _, rfl, iteT ?_⟩
    obtain ⟨kvs2, hk2, hv2⟩ := gT
    have gT : TbAt _ tb ρ := ⟨kvs2, hk2, hv2⟩
    have ev2 := hv2 x
    refine ⟨_, rfl, _, rfl, p, _, _, _, rfl, rfl, SqT.of gp, atI_nat (j := 1) rfl, _, _, rfl, ev2 ▸ DGet.k (k := Sum.inr (NM x)) hk2, _, rfl, D, _, _, 1, rfl, rfl, gD, rfl, ?_⟩
    refine stG fun G2 ss2 gD2 => ?_
    have rk2 := ss2.rkl gD
    have gp := rk2.tup _ _ gp
    have gT := gT.rk rk2
    have dve1 := dve1.kn rk2.kn
    have dve2 := dve2.kn rk2.kn
    have tot : Same H G2 := fun b o e => ss2 b o (fun z => by rw [z, nD] at e; cases e) (tot b o e)
    have gD := gD2
    refine ⟨_, rfl, p, _, _, _, rfl, rfl, SqT.of gp, atI_nat (j := 0) rfl, rfl, _, rfl, iteF ?_⟩
    refine ⟨_, rfl, p, _, _, _, rfl, rfl, SqT.of gp, atI_nat (j := 0) rfl, (by show 2 ≤ sizeLine; decide), fun p3 n3 => objG n3 fun G3 s3 g3 => ⟨_, _, rfl, .inr (SqT.of g3), rfl, rfl, _, rfl, iteF ?_⟩⟩
    have gp := s3 _ _ gp
    have gT := gT.same s3
    have gD := s3 _ _ gD
    have tot := tot.trans s3
    have dve1 := dve1.same s3
    have dve2 := dve2.same s3
    refine ⟨_, rfl, p, _, _, _, rfl, rfl, SqT.of gp, atI_nat (j := 0) rfl, rfl, _, rfl, iteF ?_⟩
    exact ⟨_, rfl, D, _, rfl, .inl ⟨SqL.of gD, fun l nl => q _ _ (tot.trans (newS nl)) (.tup upd_same (DdL.same (.cons (.str _) (.cons (.str _) (.cons dve1 (.cons dve2 .nil)))) (newS nl)))⟩⟩
  · skip
    cases dl with
    | cons dle0 dl =>
    cases dl with
    | cons dle1 dl =>
    cases dl
    cases dle0 with
    | tup ge te =>
    have ge := sF _ _ ge
    refine ⟨_, rfl, p, _, _, _, rfl, rfl, SqT.of gp, atI_nat (j := 0) rfl, (by show 2 ≤ sizeLine; decide), fun p1 n1 => objG n1 fun G1 s1 g1 => ⟨_, _, rfl, .inr (SqT.of g1), rfl, rfl, _, rfl, iteT ?_⟩⟩
    have gp := s1 _ _ gp
    have gT := gT.same s1
    have gD := s1 _ _ gD
    have tot := tot.trans s1
    have dv := dv.same s1
    have ge := s1 _ _ ge
    refine ⟨_, rfl, p, _, _, _, rfl, rfl, SqT.of gp, atI_nat (j := 1) rfl, _, _, _, _, false, rfl, .ty "str", .base (.tup ge), kit_ty (by decide +kernel), _, rfl, iteF ?_⟩
    refine ⟨_, rfl, p, _, _, _, rfl, rfl, SqT.of gp, atI_nat (j := 0) rfl, rfl, _, rfl, iteF ?_⟩
    refine ⟨_, rfl, p, _, _, _, rfl, rfl, SqT.of gp, atI_nat (j := 0) rfl, (by show 2 ≤ sizeLine; decide), fun p2 n2 => objG n2 fun G2 s2 g2 => ⟨_, _, rfl, .inr (SqT.of g2), rfl, rfl, _, rfl, iteF ?_⟩⟩
    have gp := s2 _ _ gp
    have gT := gT.same s2
    have gD := s2 _ _ gD
    have tot := tot.trans s2
    have dv := dv.same s2
    refine ⟨_, rfl, p, _, _, _, rfl, rfl, SqT.of gp, atI_nat (j := 0) rfl, rfl, _, rfl, iteF ?_⟩
    exact ⟨_, rfl, D, _, rfl, .inl ⟨SqL.of gD, fun l nl => q _ _ (tot.trans (newS nl)) (.tup upd_same (DdL.same (.cons (.str _) (dv)) (newS nl)))⟩⟩
  · skip
    cases dl with
    | cons dle0 dl =>
    cases dl with
    | cons dle1 dl =>
    cases dle1
    cases dl with
    | cons dle2 dl =>
    cases dl with
    | cons dle3 dl =>
    cases dle3
    cases dl with
    | cons dle4 dl =>
    cases dl
    cases dv with
    | cons dve0 dv =>
    cases dv with
    | cons dve1 dv =>
    cases dve1
    cases dv with
    | cons dve2 dv =>
    cases dv with
    | cons dve3 dv =>
    cases dve3
    cases dv with
    | cons dve4 dv =>
    cases dv
    refine ⟨_, rfl, p, _, _, _, rfl, rfl, SqT.of gp, atI_nat (j := 0) rfl, (by show 2 ≤ sizeLine; decide), fun p1 n1 => objG n1 fun G1 s1 g1 => ⟨_, _, rfl, .inr (SqT.of g1), rfl, rfl, _, rfl, iteF (iteF ?_)⟩⟩
    have gp := s1 _ _ gp
    have gT := gT.same s1
    have gD := s1 _ _ gD
    have tot := tot.trans s1
    have dve0 := dve0.same s1
    have dve2 := dve2.same s1
    have dve4 := dve4.same s1
    refine ⟨_, rfl, p, _, _, _, rfl, rfl, SqT.of gp, atI_nat (j := 0) rfl, rfl, _, rfl, iteT ?_⟩
    obtain ⟨kvs2, hk2, hv2⟩ := gT
    have gT : TbAt _ tb ρ := ⟨kvs2, hk2, hv2⟩
    have ev2 := hv2 x
    refine ⟨_, rfl, _, rfl, p, _, _, _, rfl, rfl, SqT.of gp, atI_nat (j := 2) rfl, _, _, rfl, ev2 ▸ DGet.k (k := Sum.inr (NM x)) hk2, _, rfl, D, _, _, 2, rfl, rfl, gD, rfl, ?_⟩
    refine stG fun G2 ss2 gD2 => ?_
    have rk2 := ss2.rkl gD
    have gp := rk2.tup _ _ gp
    have gT := gT.rk rk2
    have dve0 := dve0.kn rk2.kn
    have dve2 := dve2.kn rk2.kn
    have dve4 := dve4.kn rk2.kn
    have tot : Same H G2 := fun b o e => ss2 b o (fun z => by rw [z, nD] at e; cases e) (tot b o e)
    have gD := gD2
    obtain ⟨kvs3, hk3, hv3⟩ := gT
    have gT : TbAt _ tb ρ := ⟨kvs3, hk3, hv3⟩
    have ev3 := hv3 y
    refine ⟨_, rfl, _, rfl, p, _, _, _, rfl, rfl, SqT.of gp, atI_nat (j := 4) rfl, _, _, rfl, ev3 ▸ DGet.k (k := Sum.inr (NM y)) hk3, _, rfl, D, _, _, 4, rfl, rfl, gD, rfl, ?_⟩
    refine stG fun G3 ss3 gD3 => ?_
    have rk3 := ss3.rkl gD
    have gp := rk3.tup _ _ gp
    have gT := gT.rk rk3
    have dve0 := dve0.kn rk3.kn
    have dve2 := dve2.kn rk3.kn
    have dve4 := dve4.kn rk3.kn
    have tot : Same H G3 := fun b o e => ss3 b o (fun z => by rw [z, nD] at e; cases e) (tot b o e)
    have gD := gD3
    refine ⟨_, rfl, p, _, _, _, rfl, rfl, SqT.of gp, atI_nat (j := 0) rfl, (by show 2 ≤ sizeLine; decide), fun p4 n4 => objG n4 fun G4 s4 g4 => ⟨_, _, rfl, .inr (SqT.of g4), rfl, rfl, _, rfl, iteF ?_⟩⟩
    have gp := s4 _ _ gp
    have gT := gT.same s4
    have gD := s4 _ _ gD
    have tot := tot.trans s4
    have dve0 := dve0.same s4
    have dve2 := dve2.same s4
    have dve4 := dve4.same s4
    refine ⟨_, rfl, p, _, _, _, rfl, rfl, SqT.of gp, atI_nat (j := 0) rfl, rfl, _, rfl, iteF ?_⟩
    exact ⟨_, rfl, D, _, rfl, .inl ⟨SqL.of gD, fun l nl => q _ _ (tot.trans (newS nl)) (.tup upd_same (DdL.same (.cons (.str _) (.cons dve0 (.cons (.str _) (.cons dve2 (.cons (.str _) (.cons dve4 .nil)))))) (newS nl)))⟩⟩
  · skip
    cases dl with
    | cons dle0 dl =>
    cases dl with
    | cons dle1 dl =>
    cases dl with
    | cons dle2 dl =>
    cases dle2
    cases dl with
    | cons dle3 dl =>
    cases dl
    cases dv with
    | cons dve0 dv =>
    cases dv with
    | cons dve1 dv =>
    cases dv with
    | cons dve2 dv =>
    cases dve2
    cases dv with
    | cons dve3 dv =>
    cases dv
    refine ⟨_, rfl, p, _, _, _, rfl, rfl, SqT.of gp, atI_nat (j := 0) rfl, (by show 2 ≤ sizeLine; decide), fun p1 n1 => objG n1 fun G1 s1 g1 => ⟨_, _, rfl, .inr (SqT.of g1), rfl, rfl, _, rfl, iteF (iteF ?_)⟩⟩
    have gp := s1 _ _ gp
    have gT := gT.same s1
    have gD := s1 _ _ gD
    have tot := tot.trans s1
    have dve0 := dve0.same s1
    have dve1 := dve1.same s1
    have dve3 := dve3.same s1
    refine ⟨_, rfl, p, _, _, _, rfl, rfl, SqT.of gp, atI_nat (j := 0) rfl, rfl, _, rfl, iteF ?_⟩
    refine ⟨_, rfl, p, _, _, _, rfl, rfl, SqT.of gp, atI_nat (j := 0) rfl, (by show 2 ≤ sizeLine; decide), fun p2 n2 => objG n2 fun G2 s2 g2 => ⟨_, _, rfl, .inr (SqT.of g2), rfl, rfl, _, rfl, iteT ?_⟩⟩
    have gp := s2 _ _ gp
    have gT := gT.same s2
    have gD := s2 _ _ gD
    have tot := tot.trans s2
    have dve0 := dve0.same s2
    have dve1 := dve1.same s2
    have dve3 := dve3.same s2
    obtain ⟨kvs3, hk3, hv3⟩ := gT
    have gT : TbAt _ tb ρ := ⟨kvs3, hk3, hv3⟩
    have ev3 := hv3 x
    refine ⟨_, rfl, _, rfl, p, _, _, _, rfl, rfl, SqT.of gp, atI_nat (j := 3) rfl, _, _, rfl, ev3 ▸ DGet.k (k := Sum.inr (NM x)) hk3, _, rfl, D, _, _, 3, rfl, rfl, gD, rfl, ?_⟩
    refine stG fun G3 ss3 gD3 => ?_
    have rk3 := ss3.rkl gD
    have gp := rk3.tup _ _ gp
    have gT := gT.rk rk3
    have dve0 := dve0.kn rk3.kn
    have dve1 := dve1.kn rk3.kn
    have dve3 := dve3.kn rk3.kn
    have tot : Same H G3 := fun b o e => ss3 b o (fun z => by rw [z, nD] at e; cases e) (tot b o e)
    have gD := gD3
    refine ⟨_, rfl, p, _, _, _, rfl, rfl, SqT.of gp, atI_nat (j := 0) rfl, rfl, _, rfl, iteF ?_⟩
    exact ⟨_, rfl, D, _, rfl, .inl ⟨SqL.of gD, fun l nl => q _ _ (tot.trans (newS nl)) (.tup upd_same (DdL.same (.cons (.str _) (.cons dve0 (.cons dve1 (.cons (.str _) (.cons dve3 .nil))))) (newS nl)))⟩⟩
  · skip
    cases dl with
    | cons dle0 dl =>
    cases dl with
    | cons dle1 dl =>
    cases dl with
    | cons dle2 dl =>
    cases dle2
    cases dl with
    | cons dle3 dl =>
    cases dle3
    cases dl with
    | cons dle4 dl =>
    cases dl
    cases dv with
    | cons dve0 dv =>
    cases dv with
    | cons dve1 dv =>
    cases dv with
    | cons dve2 dv =>
    cases dve2
    cases dv with
    | cons dve3 dv =>
    cases dve3
    cases dv with
    | cons dve4 dv =>
    cases dv
    refine ⟨_, rfl, p, _, _, _, rfl, rfl, SqT.of gp, atI_nat (j := 0) rfl, (by show 2 ≤ sizeLine; decide), fun p1 n1 => objG n1 fun G1 s1 g1 => ⟨_, _, rfl, .inr (SqT.of g1), rfl, rfl, _, rfl, iteF (iteF ?_)⟩⟩
    have gp := s1 _ _ gp
    have gT := gT.same s1
    have gD := s1 _ _ gD
    have tot := tot.trans s1
    have dve0 := dve0.same s1
    have dve1 := dve1.same s1
    have dve4 := dve4.same s1
    refine ⟨_, rfl, p, _, _, _, rfl, rfl, SqT.of gp, atI_nat (j := 0) rfl, rfl, _, rfl, iteF ?_⟩
    refine ⟨_, rfl, p, _, _, _, rfl, rfl, SqT.of gp, atI_nat (j := 0) rfl, (by show 2 ≤ sizeLine; decide), fun p2 n2 => objG n2 fun G2 s2 g2 => ⟨_, _, rfl, .inr (SqT.of g2), rfl, rfl, _, rfl, iteT ?_⟩⟩
    have gp := s2 _ _ gp
    have gT := gT.same s2
    have gD := s2 _ _ gD
    have tot := tot.trans s2
    have dve0 := dve0.same s2
    have dve1 := dve1.same s2
    have dve4 := dve4.same s2
    obtain ⟨kvs3, hk3, hv3⟩ := gT
    have gT : TbAt _ tb ρ := ⟨kvs3, hk3, hv3⟩
    have ev3 := hv3 x
    refine ⟨_, rfl, _, rfl, p, _, _, _, rfl, rfl, SqT.of gp, atI_nat (j := 3) rfl, _, _, rfl, ev3 ▸ DGet.k (k := Sum.inr (NM x)) hk3, _, rfl, D, _, _, 3, rfl, rfl, gD, rfl, ?_⟩
    refine stG fun G3 ss3 gD3 => ?_
    have rk3 := ss3.rkl gD
    have gp := rk3.tup _ _ gp
    have gT := gT.rk rk3
    have dve0 := dve0.kn rk3.kn
    have dve1 := dve1.kn rk3.kn
    have dve4 := dve4.kn rk3.kn
    have tot : Same H G3 := fun b o e => ss3 b o (fun z => by rw [z, nD] at e; cases e) (tot b o e)
    have gD := gD3
    refine ⟨_, rfl, p, _, _, _, rfl, rfl, SqT.of gp, atI_nat (j := 0) rfl, rfl, _, rfl, iteT ?_⟩
    obtain ⟨kvs4, hk4, hv4⟩ := gT
    have gT : TbAt _ tb ρ := ⟨kvs4, hk4, hv4⟩
    have ev4 := hv4 y
    refine ⟨_, rfl, _, rfl, p, _, _, _, rfl, rfl, SqT.of gp, atI_nat (j := 4) rfl, _, _, rfl, ev4 ▸ DGet.k (k := Sum.inr (NM y)) hk4, _, rfl, D, _, _, 4, rfl, rfl, gD, rfl, ?_⟩
    refine stG fun G4 ss4 gD4 => ?_
    have rk4 := ss4.rkl gD
    have gp := rk4.tup _ _ gp
    have gT := gT.rk rk4
    have dve0 := dve0.kn rk4.kn
    have dve1 := dve1.kn rk4.kn
    have dve4 := dve4.kn rk4.kn
    have tot : Same H G4 := fun b o e => ss4 b o (fun z => by rw [z, nD] at e; cases e) (tot b o e)
    have gD := gD4
    exact ⟨_, rfl, D, _, rfl, .inl ⟨SqL.of gD, fun l nl => q _ _ (tot.trans (newS nl)) (.tup upd_same (DdL.same (.cons (.str _) (.cons dve0 (.cons dve1 (.cons (.str _) (.cons (.str _) (.cons dve4 .nil)))))) (newS nl)))⟩⟩
end
end Kq

/-! how great a term is -/
namespace Kq
open PySem PySem.Spec PyProof.Rows L2 Kf Kv Kk Ku
theorem cutFrom1 (x : V) (vs : List V) : cutV (x :: vs) (some 1) none = vs := by
  unfold cutV
  rw [show HT.sIx (x :: vs).length 0 (some 1) = min 1 (x :: vs).length from HT.sIx_nat _ _ 1, HT.sIx_none, List.length_cons, Nat.min_eq_left (by omega)]
  show (vs.take (vs.length + 1 - 1)) = vs
  rw [Nat.add_sub_cancel, List.take_length]
theorem ixLK {X : Cx} (K : PySem.W.Frag) (h : X.K = K) : IxR X (rIxL K) := by
  subst h
  exact ix_list
theorem od_s {ρ : Nx → Str} {n : Nat} {s : Str} : Od ρ (n + 1) (.str s) (.str s) := .inl ⟨s, rfl, rfl⟩
theorem od_i {ρ : Nx → Str} {n : Nat} {i : Int} : Od ρ (n + 1) (.int i) (.int i) := .inr (.inl ⟨i, rfl, rfl⟩)
theorem od_p1 {ρ : Nx → Str} {n : Nat} {w : Str} (h : w ∈ plainW) : Od ρ (n + 2) (.tup [.str w]) (.tup [.str w]) := .inr (.inr ⟨w, [], [], [], rfl, rfl, .cons od_s .nil, by decide, .inl ⟨h, rfl⟩⟩)
theorem od_p2 {ρ : Nx → Str} {n : Nat} {w : Str} {a a' : Dt} (h : w ∈ plainW) (ha : Od ρ (n + 1) a a') : Od ρ (n + 2) (.tup [.str w, a]) (.tup [.str w, a']) := .inr (.inr ⟨w, _, _, _, rfl, rfl, .cons od_s (.cons ha .nil), by show 1 ≤ 5; decide, .inl ⟨h, rfl⟩⟩)
theorem od_p3 {ρ : Nx → Str} {n : Nat} {w : Str} {a a' b b' : Dt} (h : w ∈ plainW) (ha : Od ρ (n + 1) a a') (hb : Od ρ (n + 1) b b') : Od ρ (n + 2) (.tup [.str w, a, b]) (.tup [.str w, a', b']) := .inr (.inr ⟨w, _, _, _, rfl, rfl, .cons od_s (.cons ha (.cons hb .nil)), by show 2 ≤ 5; decide, .inl ⟨h, rfl⟩⟩)
theorem od_k {ρ : Nx → Str} {n : Nat} : Od ρ (n + 2) kN kN := od_p1 (by decide +kernel)
theorem od_fun {ρ : Nx → Str} {n : Nat} {x : Nx} {k b b' : Dt} (hk : Od ρ (n + 1) k k) (hb : Od ρ (n + 1) b b') : Od ρ (n + 2) (tmFun (NM x) k b) (tmFun (ρ x) k b') := .inr (.inr ⟨"fun", _, [.str (NM x), k, b'], _, rfl, rfl, .cons od_s (.cons od_s (.cons hk (.cons hb .nil))), by show 3 ≤ 5; decide, .inr (.inr (.inl ⟨rfl, x, k, b, k, b', rfl, rfl, rfl⟩))⟩)
theorem od_nm {ρ : Nx → Str} {n : Nat} {x : Nx} : Od ρ (n + 2) (tmName (NM x)) (tmName (ρ x)) := .inr (.inr ⟨"name", _, [.str (NM x)], _, rfl, rfl, .cons od_s (.cons od_s .nil), by show 1 ≤ 5; decide, .inr (.inl ⟨rfl, x, rfl, rfl, rfl⟩)⟩)
theorem od_kf {ρ : Nx → Str} {n : Nat} : Od ρ (n + 3) (.tup [.str "fun", kN, kN]) (.tup [.str "fun", kN, kN]) := .inr (.inr ⟨"fun", _, [kN, kN], _, rfl, rfl, .cons od_s (.cons od_k (.cons od_k .nil)), by show 2 ≤ 5; decide, .inr (.inr (.inr (.inl ⟨rfl, _, _, rfl, rfl⟩)))⟩)
theorem od_mem {w : Str} (h : decide (w ∈ plainW) = true) : w ∈ plainW := of_decide_eq_true h
theorem Dr.od {ρ : Nx → Str} {d : Nat} {ks : Sc} {t : Lt} (h : Dr d ks t) : Od ρ (4 * d + 4) (t.d NM) (t.d ρ) := by
  induction h with
  | num _ => exact od_p2 (od_mem (by decide +kernel)) od_i
  | name _ => exact od_nm
  | @plus d _ _ _ _ _ ih1 ih2 => exact od_p3 (n := 4 * d + 6) (od_mem (by decide +kernel)) (ih1.up (by omega)) (ih2.up (by omega))
  | @callN d _ _ _ _ _ ih1 => exact od_p3 (n := 4 * d + 6) (od_mem (by decide +kernel)) od_nm (ih1.up (by omega))
  | @callF d _ _ _ _ _ _ ih1 ih2 => exact od_p3 (n := 4 * d + 6) (od_mem (by decide +kernel)) (od_fun (n := 4 * d + 5) od_k (ih2.up (by omega))) (ih1.up (by omega))
  | @bind d _ _ _ _ _ _ _ ih1 ih2 => exact od_p3 (n := 4 * d + 6) (od_mem (by decide +kernel)) (od_fun (n := 4 * d + 5) od_kf (ih2.up (by omega))) (od_fun (n := 4 * d + 5) od_k (ih1.up (by omega)))
  | @fold d _ a b t k x y _ _ _ _ ih1 ih2 ih3 =>
    have hr : Od ρ (4 * d + 7) (rowsD (a.d NM) k) (rowsD (a.d ρ) k) := od_p3 (n := 4 * d + 5) (od_mem (by decide +kernel)) (ih1.up (by omega)) (od_p3 (n := 4 * d + 4) (od_mem (by decide +kernel)) (od_p2 (n := 4 * d + 3) (od_mem (by decide +kernel)) od_i) (od_p2 (n := 4 * d + 3) (od_mem (by decide +kernel)) od_k))
    exact .inr (.inr ⟨"fold", _, [rowsD (a.d ρ) k, b.d ρ, .str (NM x), .str (NM y), t.d ρ], _, rfl, rfl, .cons od_s (.cons hr (.cons (ih2.up (by omega)) (.cons od_s (.cons od_s (.cons (ih3.up (by omega)) .nil))))), by show 5 ≤ 5; decide, .inr (.inr (.inr (.inr (.inr (.inr ⟨rfl, x, y, _, _, _, _, _, _, rfl, rfl, rfl⟩)))))⟩)
  | @case d _ s a b c x y _ _ _ ih1 ih2 ih3 =>
    have hs : Od ρ (4 * d + 7) (sideD s (a.d NM)) (sideD s (a.d ρ)) := by
      cases s with
      | false => exact od_p3 (n := 4 * d + 5) (od_mem (by decide +kernel)) (ih1.up (by omega)) od_k
      | true => exact od_p3 (n := 4 * d + 5) (od_mem (by decide +kernel)) od_k (ih1.up (by omega))
    exact .inr (.inr ⟨"case", _, [sideD s (a.d ρ), .str (NM x), b.d ρ, .str (NM y), c.d ρ], _, rfl, rfl, .cons od_s (.cons hs (.cons od_s (.cons (ih2.up (by omega)) (.cons od_s (.cons (ih3.up (by omega)) .nil))))), by show 5 ≤ 5; decide, .inr (.inr (.inr (.inr (.inl ⟨rfl, x, y, _, _, _, _, _, _, rfl, rfl, rfl⟩))))⟩)
  | @rounds d _ m a t x _ _ _ _ ih1 ih2 =>
    have hs : Od ρ (4 * d + 7) (tmRight kN (t.d NM)) (tmRight kN (t.d ρ)) := od_p3 (n := 4 * d + 5) (od_mem (by decide +kernel)) od_k (ih2.up (by omega))
    exact .inr (.inr ⟨"rounds", _, [.int (m : Int), a.d ρ, .str (NM x), tmRight kN (t.d ρ)], _, rfl, rfl, .cons od_s (.cons od_i (.cons (ih1.up (by omega)) (.cons od_s (.cons hs .nil)))), by show 4 ≤ 5; decide, .inr (.inr (.inr (.inr (.inr (.inl ⟨rfl, x, _, _, _, _, _, _, rfl, rfl, rfl⟩)))))⟩)
section
variable {P : Program} {w : World} {K : PySem.W.Frag} {mg : Str → Option Value} {base : Heap}
def TwoAt (G : Hp) (u : V) : Prop := ∃ (l : Addr) (a b : Int), u = .ref l ∧ G l = some (.lst [.int a, .int b])
def spSmall (n : Nat) : Sp := fun vs H Q _ => ∃ (v : V) (ρ : Nx → Str) (d d' : Dt), vs = [v] ∧ Od ρ n d d' ∧ Dd Non H d v ∧ ∀ (G : Hp) (l : Addr) (a b : Int), Same H G → H l = none → G l = some (.lst [.int a, .int b]) → Q (.ref l) G
abbrev tSmall : Stmt := tp 77
abbrev nSmall : List Str := ["_law_term", "_law_part", "_law_some", "_law_one"]
abbrev psSmall : List Str := ["_law_term"]
theorem scSmall : FnScope nSmall psSmall (defScope tSmall) := ⟨rfl, rfl, rfl, by decide +kernel, rfl, by decide +kernel, by decide +kernel⟩
theorem okSmall {f : Addr} {fd : FuncData} {k n : Nat} (F : Fun K "_law_small_enough" "_law_small_enough" tSmall f fd)
    (DE : Okd P w K mg base CX0 (k) "_law_small_enough" ["_law_term"] (spSmall n))
    (m_isinstance : mg "isinstance" = none)
    (m_max : mg "max" = none)
    (m_str : mg "str" = none)
    (m_sum : mg "sum" = none)
    (m_tuple : mg "tuple" = none) : FnOk P w K mg base CX0 (k + 1) f fd psSmall (spSmall (n + 1)) := by
  obtain ⟨fE, fdE, GE, bE, gE, kE⟩ := DE
  refine F.ok scSmall (fun vs H Q E h => ?_) (fun cdv A outer s H vs Q E hr h => ?_)
  · obtain ⟨v, ρ, d, d2, rfl, _⟩ := h
    rfl
  obtain ⟨v, ρ, d, d2, rfl, od, dv, q⟩ := h
  refine ⟨_, pss_cons (ps_if (PW.pt (pw_or (pt_not (pt_val (pe_callB (isiK K rfl) (by rfl) m_isinstance PyProof.Rows.boot_isinstance (pa_cons (pv 0) (pa_cons (pe_bltn (v := .ty "tuple") (by rfl) m_tuple PyProof.Rows.boot_tuple rfl) pa_nil))))) (pw_or1 (pt_not (pt_val (pe_callB (isiK K rfl) (by rfl) m_isinstance PyProof.Rows.boot_isinstance (pa_cons (pe_ix ix_tup (pv 0) pe_int (fun _ _ => rfl)) (pa_cons (pe_bltn (v := .ty "str") (by rfl) m_str PyProof.Rows.boot_str rfl) pa_nil)))))))) (pss_one (ps_ret (pe_lst (pa_cons pe_int (pa_cons pe_int pa_nil))))) pss_nil)
    (pss_cons (ps_setLc (i := 2) (own := [("_law_part", 1)]) (g := gName 1) (tt := _) (by rfl) scSmall.nd rfl rfl (sw_true rfl rfl rfl (by decide +kernel)) (pi_tup (pe_slice sl_tup (pv 0) (po_some pe_int) po_none)) (blkOk_by (own := [("_law_part", 1)]) (N := nSmall) (sc := defScope tSmall) (by decide +kernel)) (fun _ _ _ _ _ => (pg_name (i := 1) scSmall.nd rfl (.inl rfl))) (fun _ _ _ _ _ => pts_one (pt_val (pe_callB (isiK K rfl) (by rfl) m_isinstance PyProof.Rows.boot_isinstance (pa_cons (pv 1) (pa_cons (pe_bltn (v := .ty "tuple") (by rfl) m_tuple PyProof.Rows.boot_tuple rfl) pa_nil))))) (fun _ _ _ _ _ => (pe_call GE hr (by rfl) gE kE bE .nil pass0 (pa_cons (pv 1) pa_nil))))
    (pss_one (ps_ret (pe_lst (pa_cons (pe_op op_add pe_int (pe_callB (cr_sum rfl) (by rfl) m_sum PyProof.Rows.boot_sum (pa_cons (pe_lc (own := [("_law_one", 3)]) (g := gName 3) (by rfl) scSmall.nd (pi_list (pv 2)) (blkOk_by (own := [("_law_one", 3)]) (N := nSmall) (sc := defScope tSmall) (by decide +kernel)) (fun _ _ _ _ _ => (pg_name (i := 3) scSmall.nd rfl (.inl rfl))) (fun _ _ _ _ _ => pts_nil) (fun _ _ _ _ _ => (pe_ix (ixLK K rfl) (pv 3) pe_int (fun _ _ => rfl)))) pa_nil))) (pa_cons (pe_op op_add pe_int (pe_callB (cr_max rfl) (by rfl) m_max PyProof.Rows.boot_max (pa_cons (pe_op op_cat (pe_lst (pa_cons pe_int pa_nil)) (pe_lc (own := [("_law_one", 3)]) (g := gName 3) (by rfl) scSmall.nd (pi_list (pv 2)) (blkOk_by (own := [("_law_one", 3)]) (N := nSmall) (sc := defScope tSmall) (by decide +kernel)) (fun _ _ _ _ _ => (pg_name (i := 3) scSmall.nd rfl (.inl rfl))) (fun _ _ _ _ _ => pts_nil) (fun _ _ _ _ _ => (pe_ix (ixLK K rfl) (pv 3) pe_int (fun _ _ => rfl))))) pa_nil))) pa_nil)))))), ?_⟩
  rcases od with ⟨s0, rfl, rfl⟩ | ⟨i0, rfl, rfl⟩ | ⟨w0, as, bs, cs, rfl, rfl, pr, l5, fx⟩
  · cases dv
    refine ⟨_, rfl, _, _, _, _, false, rfl, .ty "tuple", .base (.str _), kit_ty (by decide +kernel), _, rfl, iteT (iteT ⟨(by show 2 ≤ sizeLine; decide), fun l nl => lstG nl fun G s g => ?_⟩)⟩
    exact q _ _ _ _ s nl g
  · cases dv
    refine ⟨_, rfl, _, _, _, _, false, rfl, .ty "tuple", .base (.int _), kit_ty (by decide +kernel), _, rfl, iteT (iteT ⟨(by show 2 ≤ sizeLine; decide), fun l nl => lstG nl fun G s g => ?_⟩)⟩
    exact q _ _ _ _ s nl g
  obtain ⟨p, us0, rfl, gp, dl0⟩ : ∃ p us, v = V.ref p ∧ H p = some (.tup us) ∧ DdL Non H (.str w0 :: as) us := by
    cases dv with
    | tup e t => exact ⟨_, _, rfl, e, t⟩
  obtain ⟨us, rfl, dl⟩ : ∃ us, us0 = .str w0 :: us ∧ DdL Non H as us := by
    cases dl0 with
    | cons a b =>
      cases a
      exact ⟨_, rfl, b⟩
  have lu := ddL_len dl
  refine ⟨_, rfl, _, _, _, _, true, rfl, .ty "tuple", .base (.tup gp), kit_ty (by decide +kernel), _, rfl, iteF ⟨_, rfl, p, _, _, _, rfl, rfl, SqT.of gp, atI_nat (j := 0) rfl, _, _, _, _, true, rfl, .ty "str", .base (.str _), kit_ty (by decide +kernel), _, rfl, iteF ?_⟩⟩
  refine ⟨_, rfl, _, rfl, p, _, rfl, SqT.of gp, notWhole _ _, fun p2 n2 => ?_⟩
  rw [cutFrom1]
  refine objG n2 fun G2 s2 g2 => ⟨p2, rfl, ⟨_, SqT.of g2⟩, fun D nD => ?_⟩
  have hD : H D = none := s2.free nD
  refine lc_tup (K := K) (a := p2) (xs := us) (fun j F => Same G2 F ∧ ∃ ws, F D = some (.lst ws) ∧ ws.length ≤ j ∧ ∀ u ∈ ws, ∃ (l : Addr) (a b : Int), u = .ref l ∧ l ≠ D ∧ F l = some (.lst [.int a, .int b])) ⟨newS nD, [], upd_same, Nat.le_refl _, fun u hu => by cases hu⟩ (fun j F _ z => SqT.of (z.1 _ _ g2)) (fun j u F hu z => ?_) (fun F z => ?_)
  · obtain ⟨sF, ws, gD, lw, hw⟩ := z
    have lj : j < us.length := (List.getElem?_eq_some_iff.mp hu).1
    obtain ⟨dx, e1, dx1⟩ := ddL_at dl hu
    have pr2 : Paired (Od ρ n) as bs := by
      cases pr with
      | cons a b => exact b
    obtain ⟨dy, e2, od1⟩ := paired_at pr2 e1
    have sH := s2.trans sF
    have isT : (∃ g es, u = V.ref g ∧ F g = some (.tup es)) ∨ (∃ s, u = .str s) ∨ ∃ i, u = .int i := by
      have od2 := od1
      cases n with
      | zero => exact od2.elim
      | succ n =>
        rcases od2 with ⟨s, rfl, _⟩ | ⟨s, rfl, _⟩ | ⟨w1, as1, bs1, cs1, rfl, _⟩
        · cases dx1
          exact .inr (.inl ⟨_, rfl⟩)
        · cases dx1
          exact .inr (.inr ⟨_, rfl⟩)
        · cases dx1 with
          | tup e t => exact .inl ⟨_, _, rfl, sH _ _ e⟩
    rcases isT with ⟨g, es, rfl, ge⟩ | ⟨s, rfl⟩ | ⟨i, rfl⟩
    · refine ⟨rfl, _, rfl, _, _, _, _, true, rfl, .ty "tuple", .base (.tup ge), kit_ty (by decide +kernel), _, rfl, iteT ⟨_, rfl, _, ρ, dx, dy, rfl, od1, dx1.same sH, fun G l a b sG nl gl => ⟨_, sG _ _ gD, small1000 (by omega), smk (sF.trans sG) nD, ws ++ [.ref l], upd_same, by rw [List.length_append]; show _ + 1 ≤ _; omega, fun u hu => ?_⟩⟩⟩
      have ll : l ≠ D := (ne_of_none gD nl).symm
      rcases List.mem_append.mp hu with h | h
      · obtain ⟨l', a', b', e', n', g'⟩ := hw u h
        exact ⟨l', a', b', e', n', by rw [upd_ne n']; exact sG _ _ g'⟩
      · rw [List.mem_singleton.mp h]
        exact ⟨l, a, b, rfl, ll, by rw [upd_ne ll]; exact gl⟩
    · exact ⟨rfl, _, rfl, _, _, _, _, false, rfl, .ty "tuple", .base (.str _), kit_ty (by decide +kernel), _, rfl, iteF ⟨sF, ws, gD, by omega, hw⟩⟩
    · exact ⟨rfl, _, rfl, _, _, _, _, false, rfl, .ty "tuple", .base (.int _), kit_ty (by decide +kernel), _, rfl, iteF ⟨sF, ws, gD, by omega, hw⟩⟩
  obtain ⟨sF, ws, gD, lw, hw⟩ := z
  have sH := s2.trans sF
  refine ⟨_, rfl, D, rfl, ⟨_, SqL.of gD⟩, fun E1 nE1 => ?_⟩
  refine lc_list (K := K) (a := D) (xs := ws) (fun j F' => Same F F' ∧ ∃ ns : List Int, F' E1 = some (.lst (ns.map V.int)) ∧ ns.length = j) ⟨newS nE1, [], upd_same, rfl⟩ (fun j F' _ z => SqL.of (z.1 _ _ gD)) (fun j u F' hu z => ?_) (fun F1 z => ?_)
  · obtain ⟨sF', ns, gE, ln⟩ := z
    have lj : j < ws.length := (List.getElem?_eq_some_iff.mp hu).1
    obtain ⟨l, a, b, rfl, _, gl⟩ := hw u (List.mem_of_getElem? hu)
    refine ⟨rfl, _, rfl, l, _, _, _, rfl, rfl, SqL.of (sF' _ _ gl), atI_nat (j := 0) rfl, _, gE, ?_, smk sF' nE1, ns ++ [a], by rw [upd_same, List.map_append]; rfl, by rw [List.length_append, ln]; rfl⟩
    rw [List.length_map]
    exact small1000 (by omega)
  obtain ⟨s1, ns1, gE1, ln1⟩ := z
  have gD := s1 _ _ gD
  have hw : ∀ u ∈ ws, ∃ (l : Addr) (a b : Int), u = .ref l ∧ l ≠ D ∧ F1 l = some (.lst [.int a, .int b]) := fun u hu => by
    obtain ⟨l, a, b, e, n, g⟩ := hw u hu
    exact ⟨l, a, b, e, n, s1 _ _ g⟩
  refine ⟨E1, ns1, rfl, SqL.of gE1, _, _, rfl, rfl, (by show 1 ≤ sizeLine; decide), fun l0 nl0 => lstG nl0 fun G3 s3 g3 => ?_⟩
  have gD := s3 _ _ gD
  have hw : ∀ u ∈ ws, ∃ (l : Addr) (a b : Int), u = .ref l ∧ l ≠ D ∧ G3 l = some (.lst [.int a, .int b]) := fun u hu => by
    obtain ⟨l, a, b, e, n, g⟩ := hw u hu
    exact ⟨l, a, b, e, n, s3 _ _ g⟩
  refine ⟨_, rfl, D, rfl, ⟨_, SqL.of gD⟩, fun E2 nE2 => ?_⟩
  refine lc_list (K := K) (a := D) (xs := ws) (fun j F' => Same G3 F' ∧ ∃ ns : List Int, F' E2 = some (.lst (ns.map V.int)) ∧ ns.length = j) ⟨newS nE2, [], upd_same, rfl⟩ (fun j F' _ z => SqL.of (z.1 _ _ gD)) (fun j u F' hu z => ?_) (fun F2 z => ?_)
  · obtain ⟨sF', ns, gE, ln⟩ := z
    have lj : j < ws.length := (List.getElem?_eq_some_iff.mp hu).1
    obtain ⟨l, a, b, rfl, _, gl⟩ := hw u (List.mem_of_getElem? hu)
    refine ⟨rfl, _, rfl, l, _, _, _, rfl, rfl, SqL.of (sF' _ _ gl), atI_nat (j := 1) rfl, _, gE, ?_, smk sF' nE2, ns ++ [b], by rw [upd_same, List.map_append]; rfl, by rw [List.length_append, ln]; rfl⟩
    rw [List.length_map]
    exact small1000 (by omega)
  obtain ⟨s2', ns2, gE2, ln2⟩ := z
  have gD := s2' _ _ gD
  have hw : ∀ u ∈ ws, ∃ (l : Addr) (a b : Int), u = .ref l ∧ l ≠ D ∧ F2 l = some (.lst [.int a, .int b]) := fun u hu => by
    obtain ⟨l, a, b, e, n, g⟩ := hw u hu
    exact ⟨l, a, b, e, n, s2' _ _ g⟩
  refine ⟨_, _, _, _, rfl, rfl, s2' _ _ g3, gE2, szBig (by rw [List.length_map]; show 1 + _ ≤ _; omega), fun q4 n4 => lstG n4 fun G4 s4 g4 => ⟨q4, 0 :: ns2, rfl, SqL.of g4, Nat.succ_pos _, fun m hm hle => ⟨_, _, rfl, rfl, (by show 2 ≤ sizeLine; decide), fun l nl => lstG nl fun G5 s5 g5 => ?_⟩⟩⟩
  have st := sH.trans (s1.trans (s3.trans (s2'.trans s4)))
  exact q _ _ _ _ (st.trans s5) (st.free nl) g5
end
end Kq

/-! three unlike names -/
namespace Kq
open PySem PySem.Spec PyProof.Rows L2 Kf Kv Kk Ku
def wd (ks : List Nat) (a i : Nat) : List Nat := ks.set a ((ks.getD a 0 + i) % 26)
def wdN (ks : List Nat) (a i : Nat) : Str := Txt.join (Str.ofString "") ((wd ks a i).map sg)
theorem wd0 {ks : List Nat} {a : Nat} (h : ∀ k ∈ ks, k < 26) (ha : a < ks.length) : wd ks a 0 = ks := by
  have e : ks.getD a 0 = ks[a] := by simp [List.getD, List.getElem?_eq_getElem ha]
  have := h _ (List.getElem_mem ha)
  rw [wd, Nat.add_zero, e, Nat.mod_eq_of_lt this, List.set_getElem_self]
theorem wdN_inj {ks : List Nat} {a i j : Nat} (ha : a < ks.length) (hi : i < 26) (hj : j < 26) (h : wdN ks a i = wdN ks a j) : i = j := by
  have e : (wd ks a i).map (97 + ·) = (wd ks a j).map (97 + ·) := by
    rw [← join_cps, ← join_cps]
    exact congrArg (fun s : Str => s.cps.toList) h
  have e2 := congrArg (fun l => l[a]?) e
  unfold wd at e2
  simp only [List.getElem?_map, List.getElem?_set_self ha, Option.map_some] at e2
  have e3 := Option.some.inj e2
  omega
section
variable {P : Program} {w : World} {K : PySem.W.Frag} {mg : Str → Option Value} {base : Heap}
def spNames : Sp := fun vs H Q _ => ∃ (d c : Addr), vs = [.ref d, .int 3] ∧ Dk H d c ∧ ∀ (l : Addr) (ρ : Nx → Str) (G : Hp), Kp d c H G → Dk G d c → l ≠ d → l ≠ c → G l = some (.lst [.str (ρ 0), .str (ρ 1), .str (ρ 2)]) → (∀ x y, ρ x = ρ y → x = y) → Q (.ref l) G
abbrev tNames : Stmt := tp 71
abbrev nNames : List Str := ["_law_deck_here", "_law_many", "_law_letters", "_law_k", "_law_word", "_law_at", "_law_found", "_law_sign"]
abbrev psNames : List Str := ["_law_deck_here", "_law_many"]
theorem scNames : FnScope nNames psNames (defScope tNames) := ⟨rfl, rfl, rfl, by decide +kernel, rfl, by decide +kernel, by decide +kernel⟩
theorem okNames {f : Addr} {fd : FuncData} {k : Nat} (F : Fun K "_law_names" "_law_names" tNames f fd)
    (DD : Okd P w K mg base CX0 (k) "_law_draw" ["_law_deck_here", "_law_most"] spDraw)
    (m_len : mg "len" = none)
    (m_range : mg "range" = none) : FnOk P w K mg base CX0 (k + 1) f fd psNames spNames := by
  obtain ⟨fD, fdD, GD, bD, gD, kD⟩ := DD
  refine F.ok scNames (fun vs H Q E h => ?_) (fun cdv A outer s H vs Q E hr h => ?_)
  · obtain ⟨d, c, rfl, _⟩ := h
    rfl
  obtain ⟨d, c, rfl, dk, q⟩ := h
  refine ⟨_, pss_cons (ps_set (i := 2) scNames.nd rfl (.inr rfl) pe_str)
    (pss_cons (ps_setLc (i := 4) (own := [("_law_k", 3)]) (g := gName 3) (by rfl) scNames.nd rfl rfl (sw_true rfl rfl rfl (by decide +kernel)) (pi_range1 (by rfl) m_range (pa_cons (pe_op op_add pe_int (pe_call GD hr (by rfl) gD kD bD .nil pass0 (pa_cons (pv 0) (pa_cons pe_int pa_nil)))) pa_nil)) (blkOk_by (own := [("_law_k", 3)]) (N := nNames) (sc := defScope tNames) (by decide +kernel)) (fun _ _ _ _ _ => (pg_name (i := 3) scNames.nd rfl (.inl rfl))) (fun _ _ _ _ _ => pts_nil) (fun _ _ _ _ _ => (pe_call GD hr (by rfl) gD kD bD .nil pass0 (pa_cons (pv 0) (pa_cons pe_int pa_nil)))))
    (pss_cons (ps_set (i := 5) scNames.nd rfl (.inl rfl) (pe_call GD hr (by rfl) gD kD bD .nil pass0 (pa_cons (pv 0) (pa_cons (pe_callB call_len_seq (by rfl) m_len PySem.boot_len (pa_cons (pv 4) pa_nil)) pa_nil))))
    (pss_cons (ps_set (i := 6) scNames.nd rfl (.inl rfl) (pe_lst pa_nil))
    (pss_cons (ps_for PassesOwn.never rfl (pi_range1 (by rfl) m_range (pa_cons (pv 1) pa_nil)) (pg_name (i := 3) scNames.nd rfl (.inl rfl))
      (pss_cons (ps_asg (pe_op op_mod (pe_op op_add (pe_ix ix_list (pv 4) (pv 5) (fun _ _ => rfl)) pe_int) pe_int) (pg_sub (pv 4) (pv 5) set_list))
    (pss_one (ps_expr (pe_bm PySem.F.plainAttrs_list PySem.F.slot_list_append PySem.F.type_list_append mt_append (pv 6) (pa_cons (pe_join pe_str (pe_lc (own := [("_law_sign", 7)]) (g := gName 7) (by rfl) scNames.nd (pi_list (pv 4)) (blkOk_by (own := [("_law_sign", 7)]) (N := nNames) (sc := defScope tNames) (by decide +kernel)) (fun _ _ _ _ _ => (pg_name (i := 7) scNames.nd rfl (.inl rfl))) (fun _ _ _ _ _ => pts_nil) (fun _ _ _ _ _ => (pe_ix ix_str (pv 2) (pv 7) (fun _ _ => rfl))))) pa_nil))))))
    (pss_one (ps_ret (pv 6))))))), ?_⟩
  refine ⟨_, rfl, d, c, _, rfl, dk, by decide, by decide, fun r5 G1 a0 a1 kp1 dk1 => ⟨_, _, rfl, rfl, _, rfl, by omega, ?_, fun W nW => ?_⟩⟩
  · have a1 : r5 < 8 := a1
    omega
  have a1 : r5 < 8 := a1
  refine lc_range (lo := 0) (n := (1 + r5).toNat) (fun i G => Kp d c G1 G ∧ Dk G d c ∧ ∃ ks : List Nat, ks.length = i ∧ (∀ k ∈ ks, k < 26) ∧ G W = some (.lst (ks.map fun k : Nat => V.int (k : Int)))) ⟨Kp.of (newS nW), dk1.put (dk1.off nW).1 (dk1.off nW).2, [], rfl, (fun _ z => nomatch z), upd_same⟩ (fun i G hi z => ?_) (fun G z => ?_)
  · obtain ⟨kp, dki, ks, lk, hk, gW⟩ := z
    refine ⟨rfl, _, rfl, d, c, 26, rfl, dki, by decide, by decide, fun r G2 r0 r1 kp2 dk2 => ?_⟩
    have off := dk1.off nW
    refine ⟨_, kp2 W _ off.1 off.2 gW, ?_, (kp.trans kp2).mk nW, dk2.put off.1 off.2, ks ++ [r.toNat], ?_, ?_, ?_⟩
    · rw [List.length_map]
      exact small1000 (by omega)
    · rw [List.length_append, lk]
      rfl
    · intro j hj
      rcases List.mem_append.mp hj with hj | hj
      · exact hk j hj
      · rw [List.mem_singleton.mp hj]
        omega
    · rw [upd_same, List.map_append, show r = ((r.toNat : Nat) : Int) by omega]
      rfl
  obtain ⟨kp, dk2, ks, lk, hk, gW⟩ := z
  have off := dk1.off nW
  have lk8 : 1 ≤ ks.length ∧ ks.length ≤ 8 := by omega
  refine ⟨_, rfl, _, rfl, W, _, rfl, .inl (SqL.of gW), d, c, _, rfl, dk2, ?_, ?_, fun r6 G6 b0 b1 kp6 dk6 => ?_⟩
  · rw [List.length_map]
    omega
  · rw [List.length_map]
    omega
  rw [List.length_map] at b1
  have gW6 := kp6 W _ off.1 off.2 gW
  obtain ⟨at_, rfl⟩ : ∃ j : Nat, r6 = (j : Int) := ⟨r6.toNat, by omega⟩
  have hat : at_ < ks.length := by omega
  refine ⟨Nat.zero_le _, fun Fd nF => ?_⟩
  have offF := dk6.off nF
  have kpA : Kp d c H G6 := (kp1.trans kp).trans kp6
  have hF : H Fd = none := kpA.free dk6 nF
  have hW : H W = none := kp1.free dk1 nW
  have nFW : W ≠ Fd := ne_of_none gW6 nF
  refine ⟨_, rfl, 3, rfl, by decide, by decide, for_range (lo := 0) (n := 3) (fun i σ G => ∃ y3 y7, σ = [some (.ref d), some (.int 3), some (.str lets), y3, some (.ref W), some (.int (at_ : Int)), some (.ref Fd), y7] ∧ Kp d c H G ∧ Dk G d c ∧ G W = some (.lst ((wd ks at_ i).map fun k : Nat => V.int (k : Int))) ∧ G Fd = some (.lst (((List.range i).map fun j => wdN ks at_ (j + 1)).map V.str))) ?_ (fun i σ G hi z => ?_) (fun σ G z => ?_)⟩
  · exact ⟨_, _, rfl, kpA.mk hF, dk6.put offF.1 offF.2, by rw [upd_ne nFW, gW6, wd0 hk hat], upd_same⟩
  · obtain ⟨y3, y7, rfl, kpi, dki, gWi, gFi⟩ := z
    have hi : i < 3 := hi
    have lw : (wd ks at_ i).length = ks.length := List.length_set
    have gwd : (wd ks at_ i)[at_]? = some ((ks.getD at_ 0 + i) % 26) := by
      unfold wd
      rw [List.getElem?_set_self hat]
    have gat : atI ((wd ks at_ i).map fun k : Nat => V.int (k : Int)) (at_ : Int) = some (.int (((ks.getD at_ 0 + i) % 26 : Nat) : Int)) := atI_nat (by rw [List.getElem?_map, gwd]; rfl)
    have eix : ixN ((wd ks at_ i).map fun k : Nat => V.int (k : Int)).length (at_ : Int) = some at_ := by
      unfold ixN
      rw [List.length_map, lw, if_pos (by omega), if_pos (by omega)]
      rfl
    refine ⟨_, rfl, _, rfl, W, _, _, _, rfl, rfl, SqL.of gWi, gat, _, _, rfl, rfl, _, _, rfl, rfl, (by show (0 : Int) < 26; decide), _, rfl, _, rfl, W, _, _, at_, rfl, rfl, gWi, eix, ?_⟩
    have eset : ((wd ks at_ i).map fun k : Nat => V.int (k : Int)).set at_ (.int (((((ks.getD at_ 0 + i) % 26 : Nat) : Int) + 1) % 26)) = (wd ks at_ (i + 1)).map fun k : Nat => V.int (k : Int) := by
      rw [show (((((ks.getD at_ 0 + i) % 26 : Nat) : Int) + 1) % 26) = (((ks.getD at_ 0 + (i + 1)) % 26 : Nat) : Int) by omega]
      unfold wd
      rw [List.map_set, List.map_set, List.set_set]
    rw [show ∀ z : Int, z = ((((ks.getD at_ 0 + i) % 26 : Nat) : Int) + 1) % 26 → upd G W (.lst (((wd ks at_ i).map fun k : Nat => V.int (k : Int)).set at_ (.int z))) = upd G W (.lst ((wd ks at_ (i + 1)).map fun k : Nat => V.int (k : Int))) from fun z e => by rw [e, eset]] <;> try rfl
    generalize hGu : upd G W (.lst ((wd ks at_ (i + 1)).map fun k : Nat => V.int (k : Int))) = Gu
    have gWu : Gu W = some (.lst ((wd ks at_ (i + 1)).map fun k : Nat => V.int (k : Int))) := by rw [← hGu, upd_same]
    have gFu : Gu Fd = some (.lst (((List.range i).map fun j => wdN ks at_ (j + 1)).map V.str)) := by rw [← hGu, upd_ne nFW.symm]; exact gFi
    have dku : Dk Gu d c := by rw [← hGu]; exact dki.put off.1 off.2
    have kpu : Kp d c H Gu := by rw [← hGu]; exact kpi.mk hW
    have lw2 : (wd ks at_ (i + 1)).length = ks.length := List.length_set
    have h26 : ∀ k ∈ wd ks at_ (i + 1), k < 26 := fun k hk' => by
      rcases List.mem_or_eq_of_mem_set hk' with z | z
      · exact hk k z
      · rw [z]
        omega
    clear hGu gWi gFi
    refine ⟨_, rfl, .inl ⟨rfl, _, SqL.of gFu⟩, ⟨_, rfl⟩, _, rfl, W, rfl, ⟨_, SqL.of gWu⟩, fun J nJ => ?_⟩
    refine lc_list (K := K) (a := W) (xs := (wd ks at_ (i + 1)).map fun k : Nat => V.int (k : Int)) (fun j F => Same Gu F ∧ F J = some (.lst ((((wd ks at_ (i + 1)).take j).map sg).map V.str))) ⟨newS nJ, upd_same⟩ (fun j F _ z => SqL.of (z.1 _ _ gWu)) (fun j u F hu z => ?_) (fun F z => ?_)
    · obtain ⟨sF, gJ⟩ := z
      rw [List.getElem?_map] at hu
      obtain ⟨v, hv, rfl⟩ := Option.map_eq_some_iff.mp hu
      have hv26 := h26 v (List.mem_of_getElem? hv)
      refine ⟨rfl, _, rfl, _, rfl, _, (v : Int), 97 + v, rfl, rfl, lets_len, lets_get (r := (v : Int)) (by omega) (by omega), _, gJ, ?_, smk sF nJ, ?_⟩
      · rw [List.length_map, List.length_map, List.length_take]
        exact small1000 (by omega)
      · rw [upd_same, List.take_add_one, hv, List.map_append, List.map_append]
        rfl
    obtain ⟨sF, gJ⟩ := z
    rw [List.length_map, List.take_of_length_le (Nat.le_refl _)] at gJ
    have gFJ := sF _ _ gFu
    refine ⟨_, J, (wd ks at_ (i + 1)).map sg, rfl, rfl, .inl (SqL.of gJ), ?_, Fd, _, _, rfl, rfl, gFJ, ?_, ?_⟩
    · rw [sg_len, List.length_map, lw2]
      show ks.length + ks.length * 0 ≤ 16777216
      omega
    · rw [List.length_map, List.length_map, List.length_range]
      exact small1000 (by omega)
    · refine ⟨_, _, rfl, (kpu.trans (.of sF)).mk hF, (dku.same sF).put offF.1 offF.2, ?_, ?_⟩
      · rw [upd_ne nFW]
        exact sF _ _ gWu
      · rw [upd_same, List.range_succ, List.map_append, List.map_append]
        rfl
  · obtain ⟨y3, y7, rfl, kpi, dki, gWi, gFi⟩ := z
    refine ⟨_, rfl, q Fd (fun x => wdN ks at_ (x.val + 1)) G kpi dki offF.1 offF.2 gFi fun x y e => ?_⟩
    have := wdN_inj hat (by have := x.isLt; omega) (by have := y.isLt; omega) e
    exact Fin.ext (by omega)
end
end Kq

/-! further rules: == of tuples by texts, enumerate of a tuple, a text many times, a tuple turned about -/
namespace Kv
open PySem PySem.Spec PyProof.Rows L2 Kf
theorem vals_at : ∀ {xs : List V} {us : List Value} {i : Nat} (h : i < us.length), Vals xs us → ∃ x, xs[i]? = some x ∧ RelV x us[i]
  | _, _, i, h, .nil => absurd h (Nat.not_lt_zero _)
  | _, _, 0, h, .cons r t => ⟨_, rfl, r⟩
  | _, _, i + 1, h, .cons r t => by
    obtain ⟨x, e, q⟩ := vals_at (i := i) (Nat.lt_of_succ_lt_succ h) t
    exact ⟨x, e, q⟩
/-- at places that both have stand texts -/
def BothTxt (xs ys : List V) : Prop := ∀ (i : Nat) (u v : V), xs[i]? = some u → ys[i]? = some v → ∃ a b : Str, u = .str a ∧ v = .str b
def rEqTT (K : PySem.W.Frag) : R2 := fun x y H Q => ∃ (a b : Addr) (xs ys : List V), x = .ref a ∧ y = .ref b ∧ SqT K H a xs ∧ SqT K H b ys ∧ BothTxt xs ys ∧ Q (.bl (decide (xs = ys))) H
theorem op_eqTT {X : Cx} (hu : X.A.units + 64 < cLine) : OpR X (compareOp .Eq) (rEqTT X.K) := by
  intro pins s σ H x y v u Q I rx ry h
  obtain ⟨a, b, xs, ys, rfl, rfl, ha, hb, bt, q⟩ := h
  cases rx
  cases ry
  obtain ⟨is, r1, ⟨o1, h1, c1, n1, d1⟩, _⟩ := I.tuple ha
  obtain ⟨js, r2, ⟨o2, h2, c2, n2, d2⟩, _⟩ := I.tuple hb
  have l1 := r1.length
  have l2 := r2.length
  refine PySem.SeqAt.eq_tupleAt (e := fun i => decide (xs[i]? = ys[i]?)) ⟨o1, h1, c1, n1, d1⟩ ⟨o2, h2, c2, n2, d2⟩ (by omega) (fun j j1 j2 => ?_) ?_
  · have j1' : j < is.length := by simpa using j1
    have j2' : j < js.length := by simpa using j2
    obtain ⟨p, ep, rp⟩ := vals_at j1' r1
    obtain ⟨p', ep', rp'⟩ := vals_at j2' r2
    obtain ⟨sa, sb, rfl, rfl⟩ := bt j p p' ep ep'
    obtain ⟨t1, e1⟩ := rp
    obtain ⟨t2, e2⟩ := rp'
    have z := PySem.SeqAt.EqAt.str_str (A := X.A.in1) (s := s) sa t1 sb t2
    simp only [List.getElem_toArray, e1, e2, ep, ep']
    have e : decide (some (V.str sa) = some (V.str sb)) = (sa == sb) := by
      by_cases c : sa = sb
      · subst c
        simp
      · have : ¬ some (V.str sa) = some (V.str sb) := fun z => c (V.str.inj (Option.some.inj z))
        rw [decide_eq_false this]
        exact (beq_eq_false_iff_ne.mpr c).symm
    rw [e]
    exact z
  · have e : ((List.range (min is.toArray.size js.toArray.size)).all (fun i => decide (xs[i]? = ys[i]?)) && is.toArray.size == js.toArray.size) = decide (xs = ys) := by
      rw [List.size_toArray, List.size_toArray, ← l1, ← l2]
      by_cases c : xs = ys
      · subst c
        simp
      · rw [decide_eq_false c]
        by_cases cl : xs.length = ys.length
        · rw [Bool.and_eq_false_iff]
          left
          rw [← Bool.not_eq_true, List.all_eq_true]
          intro all
          refine c (List.ext_getElem? fun i => ?_)
          by_cases hi : i < xs.length
          · exact of_decide_eq_true (all i (List.mem_range.mpr (by omega)))
          · rw [List.getElem?_eq_none (by omega), List.getElem?_eq_none (by omega)]
        · rw [Bool.and_eq_false_iff]
          right
          exact beq_eq_false_iff_ne.mpr cl
    rw [e]
    exact ⟨.bl _, H, I, rfl, q⟩
/-! a text many times -/
theorem fold_app : ∀ (l : List (Array Nat)) (acc : Array Nat), (l.foldl (· ++ ·) acc).toList = acc.toList ++ (l.map Array.toList).flatten
  | [], acc => by simp
  | x :: l, acc => by
    rw [List.foldl_cons, fold_app l]
    simp [Array.toList_append, List.append_assoc]
theorem mul_cps (z : Str) (n : Nat) : (∀ c ∈ (Txt.mul z (n : Int)).cps.toList, c ∈ z.cps.toList) ∧ (Txt.mul z (n : Int)).cps.toList.length ≤ z.cps.toList.length * n := by
  unfold Txt.mul
  by_cases h1 : (n : Int) < 1
  · rw [if_pos h1]
    exact ⟨fun c h => absurd h (by simp [Str.empty]), by simp [Str.empty]⟩
  rw [if_neg h1]
  by_cases h2 : ((n : Int) == 1 || z.length == 0) = true
  · rw [if_pos h2]
    exact ⟨fun c h => h, Nat.le_mul_of_pos_right _ (by omega)⟩
  rw [if_neg h2]
  show (∀ c ∈ ((List.replicate (n : Int).toNat z.cps).foldl (· ++ ·) #[]).toList, c ∈ z.cps.toList) ∧ ((List.replicate (n : Int).toNat z.cps).foldl (· ++ ·) #[]).toList.length ≤ _
  rw [fold_app, Int.toNat_natCast, List.map_replicate]
  refine ⟨fun c h => ?_, ?_⟩
  · have h' : c ∈ (List.replicate n z.cps.toList).flatten := by simpa using h
    obtain ⟨l, hl, hc⟩ := List.mem_flatten.mp h'
    rw [(List.mem_replicate.mp hl).2] at hc
    exact hc
  · have e : ((#[] : Array Nat).toList ++ (List.replicate n z.cps.toList).flatten).length = n * z.cps.toList.length := by simp
    rw [e, Nat.mul_comm]
    exact Nat.le_refl _
def rMulS : R2 := fun x y H Q => ∃ (z : Str) (n : Nat), x = .str z ∧ y = .int (n : Int) ∧ n ≤ 1000 ∧ z.length ≤ sizeLine ∧ z.length * n ≤ sizeLine ∧ Q (.str (Txt.mul z (n : Int))) H
theorem op_mulS {X : Cx} : OpR X (binaryOp .Mult) rMulS := by
  intro pins s σ H x y v u Q I rx ry h
  obtain ⟨z, n, rfl, rfl, hn, hz0, hz1, q⟩ := h
  have hz : z.length ≤ 16777216 := hz0
  obtain ⟨t1, rfl⟩ := rx
  obtain ⟨t2, rfl⟩ := ry
  refine SB.mul (x := z) (n := (n : Int)) ⟨?_, fun h1 _ => ?_, fun h1 _ => ?_⟩ fun t' k => ⟨.str _, H, I.tok _, ⟨t', rfl⟩, q⟩
  · have a : decide ((n : Int) < -(2 ^ 63 : Int)) = false := decide_eq_false (by omega)
    have b : decide ((n : Int) ≥ 2 ^ 63) = false := decide_eq_false (by omega)
    rw [a, b]
    rfl
  · have h0 : (0 : Int) < (n : Int) := by omega
    have h3 : (16777216 : Int) ≤ (2 ^ 63 - 1) / (n : Int) := by
      rw [Int.le_ediv_iff_mul_le h0]
      omega
    omega
  · have le : z.length * (n : Int).toNat ≤ 16777216 := by
      rw [Int.toNat_natCast]
      exact hz1
    unfold Builtin.Str.tooLong
    exact decide_eq_false (by have : sizeLine = 16777216 := rfl; omega)
/-! a tuple turned about -/
theorem fm_congr {α β : Type} {f g : α → Option β} : ∀ {l : List α}, (∀ x ∈ l, f x = g x) → l.filterMap f = l.filterMap g
  | [], _ => rfl
  | x :: l, h => by
    rw [List.filterMap_cons, List.filterMap_cons, h x List.mem_cons_self, fm_congr fun y hy => h y (List.mem_cons_of_mem _ hy)]
section
variable {prog : Program} {w : World} {A : Around} {E : Value → Shared → Prop} {s : Shared}
theorem getItem_back {t sl : Addr} {its : Array Value} {vl vu vs : Value} {Q : Value → Shared → Prop} (ht : IsTup s.heap t its) (hz : its.size ≤ sizeLine) (hs : s.heap.IsSliceOf sl vl vu vs) (pl : IsPart vl none) (pu : IsPart vu none) (ps : IsPart vs (some (-1)))
    (h : Q (.ref s.heap.objs.size) { s with heap := s.heap.push { cls := .type "tuple", data := .seq its.toList.reverse.toArray } }) : wpAny (model prog w) A (getItem (.ref t) (.ref sl)) Q E s := by
  have htake : sizeOk (.seq its.toList.reverse.toArray) := by
    show its.toList.reverse.toArray.size ≤ sizeLine
    simpa using hz
  obtain ⟨os, hos, hcs, hds⟩ := id hs
  have hTs : s.TypeIs (.ref sl) "slice" := ⟨os, hos, hcs⟩
  unfold getItem
  try with_reducible refine wpAny_holding ?_
  first | refine wpAny_bind (wpAny_pure ?_) | skip
  refine wpAny_bind (wpAny_sequenceKey ht.typeIs (by decide) ?_)
  refine wpAny_bind (wpAny_callSpecial?_slot (name := Str.ofString "__getitem__") ht.typeIs PyProof.Rows.slot_tuple_getitem
    (wpAny_call_entry PyProof.Rows.slot_tuple_getitem ht.typeIs entry_tuple_getitem ?_ (args_tuple_getitem _ _)))
  show wpAny _ _ (Builtin.Tuple.tupleItemsOf (.ref t) >>= _) _ _ s
  refine wpAny_bind (tupleItemsOf_ ht ?_)
  refine wpAny_bind (wpAny_typeOf hTs ?_)
  rw [if_pos (by decide)]
  refine wpAny_bind ?_
  unfold Builtin.Slice.sliceApplied Builtin.Slice.sliceFields
  refine wpAny_bind (wpAny_bind (wpAny_field hos hds (x := vl) rfl (wpAny_bind (wpAny_field hos hds (x := vu) rfl (wpAny_bind (wpAny_field hos hds (x := vs) rfl (wpAny_pure ?_)))))))
  refine wpAny_bind (HT.slicePart_ ps ?_)
  show wpAny _ _ (if ((-1 : Int) == 0) = true then _ else _) _ _ s
  rw [if_neg (by decide)]
  refine wpAny_bind (HT.slicePart_ pl (wpAny_bind (HT.slicePart_ pu (wpAny_bind (wpAny_pure ?_)))))
  refine wpAny_pure ?_
  have en : Builtin.Slice.slicePlaces ((its.size : Int) - 1) (-1) (-1) = its.size := by
    unfold Builtin.Slice.slicePlaces
    simp only [show ¬ ((-1 : Int) > 0) by decide, if_false, show (- -1 : Int) = 1 by decide, Int.ediv_one]
    split <;> omega
  show wpAny _ _ (if ((((its.size : Int) - 1) == 0 && (-1 : Int) == 1 && Builtin.Slice.slicePlaces ((its.size : Int) - 1) (-1) (-1) == its.size) = true) then _ else _) _ _ s
  rw [if_neg (by simp)]
  generalize hA : (List.filterMap _ (List.range _)).toArray = arr
  have hA' : (List.filterMap (fun k : Nat => its[(((its.size : Int) - 1) + (k : Int) * (-1)).toNat]?) (List.range (Builtin.Slice.slicePlaces ((its.size : Int) - 1) (-1) (-1)))).toArray = arr := hA
  have eA : arr = its.toList.reverse.toArray := by
    rw [← hA', en]
    have e : List.filterMap (fun k : Nat => its[(((its.size : Int) - 1) + (k : Int) * (-1)).toNat]?) (List.range its.size) = List.filterMap (its[·]?) ((List.range its.size).map fun k => its.size - 1 - k) := by
      rw [List.filterMap_map]
      refine fm_congr fun k hk => ?_
      have := List.mem_range.mp hk
      show its[(((its.size : Int) - 1) + (k : Int) * (-1)).toNat]? = its[its.size - 1 - k]?
      have e2 : (((its.size : Int) - 1) + (k : Int) * (-1)).toNat = its.size - 1 - k := by omega
      rw [e2]
    rw [e, PySem.W.krv_range, List.filterMap_reverse, PySem.W.krv_all]
  subst eA
  show wpAny _ _ (Builtin.Tuple.tupleExact its.toList.reverse.toArray >>= fun v => ret v) _ _ s
  first
    | exact wpAny_bind (m := Builtin.Tuple.tupleExact _) (wpAny_newObj_type (wpAny_pure ⟨_, rfl, wpAny_pure h⟩) htake)
    | exact wpAny_bind (m := Builtin.Tuple.tupleExact _) (wpAny_newObj_type (wpAny_bind (wpAny_pure (wpAny_pure ⟨_, rfl, wpAny_pure h⟩))) htake)
end
section
variable {X : Cx}
def tRevT (K : PySem.W.Frag) (te : TE) : TE := fun σ H Q => te σ H fun x H1 => ∃ (a : Addr) (xs : List V), x = .ref a ∧ SqT K H1 a xs ∧ ∀ p, H1 p = none → Q (.ref p) (upd H1 p (.tup xs.reverse))
theorem pe_revT {e : Expr} {te : TE} {k : Nat} {p1 p2 p3 pos : Pos} (he : PE X e te) : PE X (.Subscript e (.Slice none none (some (.UnaryOp .USub (.Constant (.int 1) k p1) p2)) p3) pos) (tRevT X.K te) := by
  refine ⟨fun pins s σ H Q I h => ?_⟩
  refine Subscript_ (thn (he.run pins s σ H _ I h) fun v s1 ⟨x, H1, I1, r1, q1⟩ => ?_)
  obtain ⟨a, xs, ex, hx, q⟩ := q1
  subst ex
  cases r1
  have hst : PO X (some (.UnaryOp .USub (.Constant (.int 1) k p1) p2)) (tPart (tUn (rU fun i => .int (-i)) (tC (.int 1)))) := po_some (pe_un un_neg pe_int)
  refine wpAny_Slice (thn (po_none.run pins s1 σ H1 (fun o H2 => o = none ∧ H2 = H1) I1 ⟨rfl, rfl⟩) fun vl s2 ⟨l, H2, I2, pl, el, e2⟩ => ?_)
  subst el e2
  refine thn (po_none.run pins s2 σ H2 (fun o H3 => o = none ∧ H3 = H2) I2 ⟨rfl, rfl⟩) fun vu s3 ⟨u, H3, I3, pu, eu, e3⟩ => ?_
  subst eu e3
  refine thn (hst.run pins s3 σ H3 (fun o H4 => o = some (-1) ∧ H4 = H3) I3 ⟨1, rfl, -1, rfl, rfl, rfl⟩) fun vs s4 ⟨o, H4, I4, ps, eo, e4⟩ => ?_
  subst eo e4
  have I5 : Inv X pins σ H4 { s4 with heap := s4.heap.push { cls := .type "slice", data := .fields #[vl, vu, vs] } } := I4.kept (t' := s4.toks) fun b ob q => Heap.get?_push_of_some _ q
  obtain ⟨its, r, ht, hz⟩ := I5.tuple hx
  have lr := r.length
  show wpAny (model X.prog X.w) X.A (subscriptTail e (.Slice none none (some (.UnaryOp .USub (.Constant (.int 1) k p1) p2)) p3) (.ref a) (.ref s4.heap.objs.size)) (EP X pins σ Q) X.xe { s4 with heap := s4.heap.push { cls := .type "slice", data := .fields #[vl, vu, vs] } }
  refine tail_any (ops := [.ref a, .ref s4.heap.objs.size]) ht.typeIs (PyProof.Rows.slot_tuple_getitem.lookup) ?_ (by with_unfolding_all rfl)
  refine getItem_back ht (by rw [List.size_toArray]; omega) (Heap.IsSliceOf.new _ vl vu vs) pl pu ps ?_
  refine ⟨.ref _, _, I5.laid (t' := s4.toks) (o := .tup xs.reverse) (fun b ob q => Heap.get?_push_of_some _ q) (Nat.le_refl _) ?_, rfl, q _ (I5.hok.fresh (Nat.le_refl _))⟩
  exact ⟨by rw [List.length_reverse]; exact hz, its.reverse, r.reverse, IsTup.new _ _⟩
end
/-! a list == the empty list -/
def rEqL0 (K : PySem.W.Frag) : R2 := fun x y H Q => ∃ (a b : Addr) (xs : List V), x = .ref a ∧ y = .ref b ∧ SqL K H a xs ∧ SqL K H b [] ∧ Q (.bl xs.isEmpty) H
theorem op_eqL0 {X : Cx} (hu : X.A.units + 64 < cLine) : OpR X (compareOp .Eq) (rEqL0 X.K) := by
  intro pins s σ H x y v u Q I rx ry h
  obtain ⟨a, b, xs, rfl, rfl, ha, hb, q⟩ := h
  cases rx
  cases ry
  obtain ⟨is, r1, ⟨o1, n1, h1, c1, _, d1⟩, _⟩ := I.list ha
  obtain ⟨js, r2, ⟨o2, n2, h2, c2, _, d2⟩, _⟩ := I.list hb
  cases r2
  cases r1 with
  | nil => exact PySem.SeqAt.eq_listAt (e := fun _ => true) ⟨o1, h1, c1, n1, d1⟩ ⟨o2, h2, c2, n2, d2⟩ rfl (by omega) (fun j j1 _ => absurd j1 (Nat.not_lt_zero _)) ⟨.bl true, H, I, rfl, q⟩
  | cons r t => exact PySem.SeqAt.eq_list_lengthsAt ⟨o1, h1, c1, n1, d1⟩ ⟨o2, h2, c2, n2, d2⟩ (by simp) (by omega) ⟨.bl false, H, I, rfl, q⟩
end Kv

/-! repr of a tuple of a text and a number of up to 4,300 figures; numbers from their figures -/
namespace Kt
open PySem PySem.Spec PyProof.Rows L2 Kf Kv
section
variable {prog : Program} {w : World} {A : Around} {E : Value → Shared → Prop} {s : Shared}
theorem givesAt_int_repr (a : Int) (t : Tok) (h : a.natAbs < 10 ^ 4300) : GivesAt (fun s => s.heap.NoDigits) (Builtin.«int.__repr__» ⟨[.int a t], []⟩) (.str (toString a)) := by
  intro prog w A R s hn hq
  unfold Builtin.«int.__repr__»
  show wpAny _ _ (do let r ← Builtin.overDigitLimit? a; _) _ _ s
  refine wpAny_bind (overDigitLimit_any hn (fun hlt => ?_) (fun hge => absurd h (Nat.not_lt.mpr hge)))
  exact wpAny_bind (wpAny_mkStr (wpAny_pure hq.2) (int_text_fits10 h))
theorem pyReprObj_intA {a : Int} {t : Tok} {Q : Value → Shared → Prop} (ha : a.natAbs < 10 ^ 4300) (hn : s.heap.NoDigits) (h : Q (.str (toString a) s.toks) { s with toks := s.toks + 1 }) : wpAny (model prog w) A (pyReprObj (.int a t)) Q E s := by
  have hv : [Value.int a t].any Value.onHeap = false := rfl
  unfold pyReprObj
  simp only [cRoomFor, hv, Bool.false_eq_true, if_false, pure_bind]
  refine wpAny_bind (wpAny_specialOf (name := Str.ofString "__repr__") (typeIs_int s a t) F.slot_int_repr.lookup ?_)
  refine wpAny_bind (m := callSpecialIfBound? (.int a t) (Str.ofString "__repr__")) (wpAny_callSpecialIfBound?_slot (name := Str.ofString "__repr__") (typeIs_int s a t) F.slot_int_repr (call_givesAt F.slot_int_repr (typeIs_int s a t) F.entry_int_repr (F.args_int_repr_1 _) (givesAt_int_repr a t ha) hn ⟨int_text_fits10 ha, ?_⟩))
  exact wpAny_bind (wpAny_isInstance (T := "str") (b := true) rfl isSubtype_str_str (wpAny_pure h))
theorem reprK_intA {a : Int} {h₀ : Heap} (t : Tok) (ha : a.natAbs < 10 ^ 4300) (hn : h₀.NoDigits) (as : List Addr) (d : Nat) : ReprK prog w as h₀ d (.int a t) (toString a) := by
  intro base hb A g E s Q hg hcl hu hk0 hQ
  rw [pyReprUnder_leaf (v := .int a t) (by omega) (fun _ e => nomatch e)]
  unfold pyRepr
  exact wpAny_bind (pyReprObj_intA ha (hn.keeps hk0) (wpAny_pure (hQ s.heap _ fun _ _ e => e)))
end
section
variable {X : Cx}
/-- repr of ("num", k) -/
theorem call_showN2 (g : Still X.A) (hu : X.A.units + 3 < cLine) (e : PySem.W.nsOkIn X.K cStatics = true) (q : PySem.W.nsIn X.K cStatics "sys.int_max_str_digits" = some none) : CallR X (.builtin "repr")
    (fun xs H Q => ∃ (a : Addr) (z : Str) (i j : Int), xs = [.ref a] ∧ H a = some (.tup [.str z, .int i, .int j]) ∧ i.natAbs < 10 ^ 4300 ∧ j.natAbs < 10 ^ 4300 ∧ (tupleText [reprText z, toString i, toString j]).length ≤ sizeLine ∧ Q (.str (tupleText [reprText z, toString i, toString j])) H) := by
  intro pins s σ H xs us Q I r h
  obtain ⟨a, z, i, j, rfl, ht, hi, hj, hz, q'⟩ := h
  cases r with
  | cons r1 r2 =>
    cases r2
    cases r1
    have done : ∀ (h' : Heap) (u tk : Tok), (∀ b o, s.heap.get? b = some o → h'.get? b = some o) → EP X pins σ Q (.str (tupleText [reprText z, toString i, toString j]) u) { s with heap := h', toks := tk } := fun h' u tk hk => ⟨.str _, H, I.kept hk, ⟨u, rfl⟩, q'⟩
    obtain ⟨its, rv, ⟨o, ho, hc, m, hd⟩, _⟩ := I.tuple (SqT.of ht)
    obtain ⟨t1, t2, t3, e1⟩ : ∃ t1 t2 t3, its = [.str z t1, .int i t2, .int j t3] := by
      cases rv with
      | cons r1 r2 =>
        cases r2 with
        | cons r2 r3 =>
          cases r3 with
          | cons r3 r4 =>
            cases r4
            obtain ⟨t1, rfl⟩ := r1
            obtain ⟨t2, rfl⟩ := r2
            obtain ⟨t3, rfl⟩ := r3
            exact ⟨t1, t2, t3, rfl⟩
    subst e1
    have hk : ReprAllK X.prog X.w [] s.heap 0 [.str z t1, .int i t2, .int j t3] [reprText z, toString i, toString j] :=
      .cons (.of_is (ReprIs.str z t1 (Nat.le_trans (tupleText_mem_le (by simp)) hz)) _ _ _) (.cons (reprK_intA t2 hi (Ki.nodig_in I.kIn e q) _ _) (.cons (reprK_intA t3 hj (Ki.nodig_in I.kIn e q) _ _) .nil))
    exact call_repr_slot (by omega) ⟨o, ho, hc⟩ PySem.F.slot_tuple_repr (call_tuple_reprK ho hc hd (by simp) hk (A := X.A.in1) g (fun b _ => Clear.nil b) (by show X.A.units + 1 + _ < cLine; omega) (fun _ _ e => e) (fun h' u tk hk' => ⟨_, _, rfl, done h' u tk hk'⟩) hz)
end
end Kt

/-! the law -/
namespace Kq
open PySem PySem.Spec PyProof.Rows L2 Kf Kv Kk Ku
theorem big_len {z : Str} {j k : Nat} (hz : ∀ c ∈ z.cps.toList, c < 16 ^ 8) (lz : z.length ≤ 10) (hj : j < 10 ^ 2000) (hk : k < 10 ^ 2000) : (tupleText [reprText z, toString (j : Int), toString (k : Int)]).length ≤ sizeLine := by
  have c1 := int_text_length_le10 (a := (j : Int)) (k := 2000) (by decide) (by rw [Int.natAbs_natCast]; exact hj)
  have c2 := int_text_length_le10 (a := (k : Int)) (k := 2000) (by decide) (by rw [Int.natAbs_natCast]; exact hk)
  have c0 := PySem.StrLaws.reprText_len z hz
  have t := tupleText_len_le [reprText z, Str.ofString (toString (j : Int)), Str.ofString (toString (k : Int))]
  have e1 : (Str.ofString (toString (j : Int))).length = (toString (j : Int)).length := PySem.ofString_length _
  have e2 : (Str.ofString (toString (k : Int))).length = (toString (k : Int)).length := PySem.ofString_length _
  simp only [List.map_cons, List.map_nil, List.sum_cons, List.sum_nil, List.length_cons, List.length_nil, e1, e2] at t
  refine szBig (Nat.le_trans t ?_)
  omega
theorem big43 {j : Nat} (h : j < 10 ^ 2000) : ((j : Nat) : Int).natAbs < 10 ^ 4300 := by
  rw [Int.natAbs_natCast]
  exact Nat.lt_of_lt_of_le h (by decide +kernel)
theorem hW : ∀ c ∈ ("worth" : Str).cps.toList, c < 16 ^ 8 := codes_lt (by decide +kernel)
theorem lW : ("worth" : Str).length ≤ 10 := by decide +kernel
section
variable {P : Program} {w : World} {K : PySem.W.Frag} {mg : Str → Option Value} {base : Heap}
def spRunU (K : PySem.W.Frag) (cM : Addr) (n : Nat) : Sp := fun vs H Q E => ∃ NS : List Str, NS.length ≤ 400 ∧ spRun K cM NS n vs H Q E
theorem RF.runU {oN oP C cF cM dR dC fI fT : Addr} (R : RF K w mg oN oP C cF cM dR dC fI fT) (n : Nat) : Okd P w K mg base (L2.CX P w) (4 * n + 8) "run" ["term", "args"] (spRunU K cM n) := by
  obtain ⟨fdI, FI, bI⟩ := R.init
  have GI : FnOk P w K mg base CX0 1 fI fdI ["self"] (spSInit C) := okSInit FI R.T
  have one : ∀ (NS : List Str), NS.length ≤ 400 → ∀ f fd, Fun K "run" "run" tRun f fd → FnOk P w K mg base (L2.CX P w) (4 * n + 8) f fd ["term", "args"] (spRun K cM NS n) := fun NS hn f fd F => by
    have I := R.wa1 (P := P) (base := base) hn n
    have Cl := R.called1 hn (by omega) I
    have GH : Okd P w K mg base (L2.CX P w) (4 * n + 7) "handed_in" psHand (spHand K oN oP NS C cF cM n) := R.hand.ok fun f fd F => okHand F (I.up (show 4 * n + 4 ≤ 4 * n + 6 by omega)) (Cl.up (show 4 * n + 4 + 2 ≤ 4 * n + 6 by omega)) (R.taken1.up (show 4 ≤ 4 * n + 6 by omega))
    exact okRun (k := 4 * n + 5) F R GI bI GH (R.given1.up (show 4 ≤ 4 * n + 5 + 2 by omega))
  refine R.run.ok fun f fd F => ⟨fun vs H Q E h => ?_, fun A outer s H args us vs Q E r e b v h => ?_⟩
  · obtain ⟨NS, hn, h⟩ := h
    exact (one NS hn f fd F).len vs H Q E h
  · obtain ⟨NS, hn, h⟩ := h
    exact (one NS hn f fd F).run A outer s H args us vs Q E r e b v h
def spLaw (K : PySem.W.Frag) : Sp := fun vs H Q _ => ∃ (a : Addr) (ns : List Int), vs = [.ref a] ∧ SqL K H a (ns.map V.int) ∧ ns.length ≤ 63 ∧ ∀ G : Hp, Q (.bl true) G
abbrev tLaw : Stmt := tp 78
abbrev nLaw : List Str := ["_law_script", "_law_deck_here", "_law_turn", "_law_deep", "_law_others", "_law_term", "_law_many", "_law_within", "_law_steps", "_law_found", "_law_due", "_law_other"]
abbrev psLaw : List Str := ["_law_script"]
theorem scLaw : FnScope nLaw psLaw (defScope tLaw) := ⟨rfl, rfl, rfl, by decide +kernel, rfl, by decide +kernel, by decide +kernel⟩
theorem okLaw {f cM : Addr} {fd : FuncData} {k : Nat} (F : Fun K "law" "law" tLaw f fd)
    (e1 : PySem.W.nsOkIn K cStatics = true) (e2 : PySem.W.nsIn K cStatics "sys.int_max_str_digits" = some none)
    (DR : Okd P w K mg base (L2.CX P w) (k) "run" ["term", "args"] (spRunU K cM 49))
    (DO : Okd P w K mg base CX0 (k) "_law_called_otherwise" ["_law_term", "_law_table"] (spOther 40))
    (DV : Okd P w K mg base CX0 (k) "_law_went" ["_law_term", "_law_names_here", "_law_steps"] (spWent 49))
    (DW : Okd P w K mg base CX0 (k) "_law_drawn" ["_law_deck_here", "_law_known", "_law_deep"] (spDrawn 6))
    (DE : Okd P w K mg base CX0 (k) "_law_small_enough" ["_law_term"] (spSmall 40))
    (DM : Okd P w K mg base CX0 (k) "_law_names" ["_law_deck_here", "_law_many"] spNames)
    (DD : Okd P w K mg base CX0 (k) "_law_draw" ["_law_deck_here", "_law_most"] spDraw)
    (DK : Okd P w K mg base CX0 (k) "_law_deck" ["_law_script"] (spDeck K))
    (m_dict : mg "dict" = none)
    (m_len : mg "len" = none)
    (m_max : mg "max" = none)
    (m_min : mg "min" = none)
    (m_range : mg "range" = none)
    (m_repr : mg "repr" = none)
    (m_zip : mg "zip" = none) : FnG P w K mg base CX0 (k + 1) f fd psLaw (spLaw K) := by
  obtain ⟨fR, fdR, GR, bR, gR, kR⟩ := DR
  obtain ⟨fO, fdO, GO, bO, gO, kO⟩ := DO
  obtain ⟨fV, fdV, GV, bV, gV, kV⟩ := DV
  obtain ⟨fW, fdW, GW, bW, gW, kW⟩ := DW
  obtain ⟨fE, fdE, GE, bE, gE, kE⟩ := DE
  obtain ⟨fM, fdM, GM, bM, gM, kM⟩ := DM
  obtain ⟨fD, fdD, GD, bD, gD, kD⟩ := DD
  obtain ⟨fK, fdK, GK, bK, gK, kK⟩ := DK
  refine okG F scLaw (fun vs H Q E h => ?_) (fun cdv A outer s H vs Q E still hr h => ?_)
  · obtain ⟨a, ns, rfl, _⟩ := h
    rfl
  obtain ⟨a, ns, rfl, hS, hl, q⟩ := h
  have hu : (cxOf CX0 P w K mg base nLaw "law" (defScope tLaw) f cdv A outer s H E).nox.A.units + 3 < cLine := by
    have := hr.un
    show (A.deeper _).units + 3 < cLine
    omega
  refine ⟨_, pss_cons (ps_set (i := 1) scLaw.nd rfl (.inl rfl) (pe_call GK hr (by rfl) gK kK bK .nil pass0 (pa_cons (pv 0) pa_nil)))
    (pss_cons (ps_for PassesOwn.never rfl (pi_range1 (by rfl) m_range (pa_cons (pe_callB (call_max2 rfl) (by rfl) m_max PyProof.Rows.boot_max (pa_cons pe_int (pa_cons (pe_callB (call_min2 rfl) (by rfl) m_min PyProof.Rows.boot_min (pa_cons pe_int (pa_cons (pe_callB call_len_seq (by rfl) m_len PySem.boot_len (pa_cons (pv 0) pa_nil)) pa_nil))) pa_nil))) pa_nil)) (pg_name (i := 2) scLaw.nd rfl (.inl rfl))
      (pss_cons (ps_set (i := 3) scLaw.nd rfl (.inl rfl) (pe_op op_add pe_int (pe_call GD hr (by rfl) gD kD bD .nil pass0 (pa_cons (pv 1) (pa_cons pe_int pa_nil)))))
    (pss_cons (ps_set (i := 4) scLaw.nd rfl (.inl rfl) (pe_call GM hr (by rfl) gM kM bM .nil pass0 (pa_cons (pv 1) (pa_cons pe_int pa_nil))))
    (pss_cons (ps_set (i := 5) scLaw.nd rfl (.inl rfl) (pe_call GW hr (by rfl) gW kW bW .nil pass0 (pa_cons (pv 1) (pa_cons (pe_lst pa_nil) (pa_cons (pv 3) pa_nil)))))
    (pss_cons (ps_asg (pe_call GE hr (by rfl) gE kE bE .nil pass0 (pa_cons (pv 5) pa_nil)) (pg_lst rfl (pgs_cons (pg_name (i := 6) scLaw.nd rfl (.inl rfl)) (pgs_cons (pg_name (i := 7) scLaw.nd rfl (.inl rfl)) pgs_nil))))
    (C8.pss_cut (ps_if (PW.pt (pw_or (pt_cmpR op_gt (pv 6) pe_int (nomark _)) (pw_or1 (pt_cmpR op_gt (pv 7) pe_int (nomark _))))) (pss_one (ps_set (i := 5) scLaw.nd rfl (.inl rfl) (pe_call GW hr (by rfl) gW kW bW .nil pass0 (pa_cons (pv 1) (pa_cons (pe_lst pa_nil) (pa_cons pe_int pa_nil)))))) pss_nil)
    (pss_cons (ps_set (i := 8) scLaw.nd rfl (.inl rfl) (pe_lst (pa_cons pe_int (pa_cons pe_int pa_nil))))
    (pss_cons (ps_set (i := 9) scLaw.nd rfl (.inl rfl) (pe_call GV hr (by rfl) gV kV bV .nil pass0 (pa_cons (pv 5) (pa_cons (pe_lst pa_nil) (pa_cons (pv 8) pa_nil)))))
    (pss_cons (ps_set (i := 10) scLaw.nd rfl (.inl rfl) (pe_callB (Kt.call_showN2 still hu e1 e2) (by rfl) m_repr PyProof.Rows.boot_repr (pa_cons (pe_tup (pa_cons pe_str (pa_cons (pv 9) (pa_cons (pe_ix ix_list (pv 8) pe_int (fun _ _ => rfl)) pa_nil)))) pa_nil)))
    (pss_cons (ps_if (PW.pt (pw_or (pt_cmpR op_gt (pe_ix ix_list (pv 8) pe_int (fun _ _ => rfl)) pe_int (nomark _)) (pw_or1 (pt_cmpR op_gt (pe_ix ix_list (pv 8) pe_int (fun _ _ => rfl)) (pe_op op_pow pe_int pe_int) (nomark _))))) (pss_one ps_continue) pss_nil)
    (pss_cons (ps_set (i := 11) scLaw.nd rfl (.inl rfl) (pe_call GO hr (by rfl) gO kO bO .nil pass0 (pa_cons (pv 5) (pa_cons (Kt.pe_dictZip (by rfl) (by rfl) m_dict (by rfl) m_zip (pa_cons (pe_lst (pa_cons pe_str (pa_cons pe_str (pa_cons pe_str pa_nil)))) (pa_cons (pv 4) pa_nil))) pa_nil))))
    (pss_one (ps_if (PW.pt (pw_or (pt_cmpR op_ne (pe_callB (Kt.call_showN2 still hu e1 e2) (by rfl) m_repr PyProof.Rows.boot_repr (pa_cons (pe_callS GR hr (by rfl) gR kR bR (fun σ => passAt takes0 σ) (pa_cons (pv 5) (pa_cons (pe_tup pa_nil) pa_nil))) pa_nil)) (pv 10) (nomark _)) (pw_or1 (pt_cmpR op_ne (pe_callB (Kt.call_showN2 still hu e1 e2) (by rfl) m_repr PyProof.Rows.boot_repr (pa_cons (pe_callS GR hr (by rfl) gR kR bR (fun σ => passAt takes0 σ) (pa_cons (pv 11) (pa_cons (pe_tup pa_nil) pa_nil))) pa_nil)) (pv 10) (nomark _))))) (pss_one (ps_ret pe_bl)) pss_nil)))))))))))))
    (pss_one (ps_ret pe_bl))), ?_⟩
  refine ⟨_, rfl, a, ns, rfl, hS, hl, fun d c Ga sa nd nc dka => ?_⟩
  have hSa : SqL K Ga a (ns.map V.int) := sqL_same hS sa
  refine ⟨_, rfl, a, _, rfl, .inl hSa, _, _, rfl, _, _, rfl, ?_⟩
  rw [List.length_map]
  generalize hy : (if (ns.length : Int) < 10 then (ns.length : Int) else 10) = y
  generalize hx : (if y > 3 then y else 3) = x
  have x0 : 0 ≤ x ∧ x ≤ 63 := by
    split at hx <;> split at hy <;> omega
  refine ⟨x, rfl, by omega, by omega, for_range (lo := 0) (n := x.toNat) (fun i σ G => ∃ y2 y3 y4 y5 y6 y7 y8 y9 y10 y11, σ = [some (.ref a), some (.ref d), y2, y3, y4, y5, y6, y7, y8, y9, y10, y11] ∧ Dk G d c) ⟨_, _, _, _, _, _, _, _, _, _, rfl, dka⟩ (fun i σ G hi z => ?_) (fun σ G z => q G)⟩
  obtain ⟨y2, y3, y4, y5, y6, y7, y8, y9, y10, y11, rfl, dk1⟩ := z
  refine ⟨_, rfl, d, c, _, rfl, dk1, by decide, by decide, fun r1 G1 a1 b1 kp1 dk1 => ⟨_, _, rfl, rfl, ?_⟩⟩
  have b1 : r1 < 4 := b1
  refine ⟨_, rfl, d, c, rfl, dk1, fun lO ρ G2 kp2 dk2 od oc gO hρ => ?_⟩
  refine ⟨_, rfl, Nat.zero_le _, fun l3 n3 => lstG n3 fun G3 s3 g3 => ⟨_, rfl, ?_⟩⟩
  have off3 := (dk2.off n3)
  have dk3 := dk2.same s3
  have gO := s3 _ _ gO
  refine ⟨d, c, l3, _, (2 + r1).toNat, .nil, rfl, by omega, by omega, dk3, ⟨off3.1, off3.2, _, g3, .nil⟩, (by show 0 + _ ≤ _; omega), fun v t G4 kp4 dk4 dr dd => ?_⟩
  have gO := kp4 _ _ od oc gO
  refine ⟨_, rfl, v, NM, _, _, rfl, (dr.od (ρ := NM)).up (by omega), dd, fun G5 l5 m5 w5 s5 n5 g5 => ⟨l5, _, rfl, SqL.of g5, rfl, _, _, rfl, _, _, rfl, rfl, ?_⟩⟩
  have dk5 := dk4.same s5
  have gO := s5 _ _ gO
  have dd := dd.same s5
  refine ⟨fun σ G => ∃ (v : V) (t : Lt) (n : Nat) (z3 z6 z7 : Option V), σ = [some (.ref a), some (.ref d), some (.int (0 + (i : Int))), z3, some (.ref lO), some v, z6, z7, y8, y9, y10, y11] ∧ Dk G d c ∧ G lO = some (.lst [.str (ρ 0), .str (ρ 1), .str (ρ 2)]) ∧ Dd Non G (t.d NM) v ∧ Dr n .nil t ∧ n ≤ 5, ?_, ?b2⟩
  · refine ⟨_, rfl, _, _, rfl, rfl, _, rfl, ite2 (fun c1 => iteT ?w1) (fun c1 => ⟨_, rfl, _, _, rfl, rfl, _, rfl, ite2 (fun c2 => ?w2) (fun c2 => ⟨v, t, (2 + r1).toNat, _, _, _, rfl, dk5, gO, dd, dr, by omega⟩)⟩)⟩
    case w1 =>
      refine ⟨_, rfl, Nat.zero_le _, fun l6 n6 => lstG n6 fun G6 s6 g6 => ?_⟩
      have off6 := (dk5.off n6)
      refine ⟨d, c, l6, 2, 2, .nil, rfl, by omega, by omega, dk5.same s6, ⟨off6.1, off6.2, _, g6, .nil⟩, (by show 0 + _ ≤ _; omega), fun v t G7 kp7 dk7 dr dd => ?_⟩
      exact ⟨v, t, 2, _, _, _, rfl, dk7, kp7 _ _ od oc (s6 _ _ gO), dd, dr, by omega⟩
    case w2 =>
      refine ⟨_, rfl, Nat.zero_le _, fun l6 n6 => lstG n6 fun G6 s6 g6 => ?_⟩
      have off6 := (dk5.off n6)
      refine ⟨d, c, l6, 2, 2, .nil, rfl, by omega, by omega, dk5.same s6, ⟨off6.1, off6.2, _, g6, .nil⟩, (by show 0 + _ ≤ _; omega), fun v t G7 kp7 dk7 dr dd => ?_⟩
      exact ⟨v, t, 2, _, _, _, rfl, dk7, kp7 _ _ od oc (s6 _ _ gO), dd, dr, by omega⟩
  case b2 =>
    clear dk5 gO dd dr kp1 kp2 kp4 s3 s5 dk1 dk2 dk3 dk4
    rintro σ G ⟨v, t, n, z3, z6, z7, rfl, dk, gO, dd, dr, hn⟩
    obtain ⟨j, sN, g, we, hj, hs⟩ := dr.all hn
    have hs2 : sN < 10 ^ 2000 := Nat.lt_of_lt_of_le hs (by decide +kernel)
    refine ⟨(by show 2 ≤ sizeLine; decide), fun st nst => lstG nst fun G1 s1 gS => ⟨_, rfl, Nat.zero_le _, fun lE nE => lstG nE fun G2 s2 gE => ?_⟩⟩
    have offS := dk.off nst
    have nOs : lO ≠ st := ne_of_none gO nst
    have nEs : lE ≠ st := (ne_of_none gS nE).symm
    have sB := s1.trans s2
    refine ⟨_, rfl, v, lE, st, [], .nil, 0, 0, rfl, s2 _ _ gS, nEs, gE, .nil, (by decide), .inl ⟨t, j, sN, g, dd.same sB, we, fun G3 ss3 gS3 => ?_⟩⟩
    have dk2 := dk.same sB
    have dk3 : Dk G3 d c := by
      obtain ⟨n, ⟨s, k0, e⟩, ⟨ns, f, l⟩⟩ := dk2
      exact ⟨n, ⟨s, k0, ss3 _ _ offS.1.symm e⟩, ⟨ns, ss3 _ _ offS.2.symm f, l⟩⟩
    have gO3 := ss3 _ _ nOs (sB _ _ gO)
    have dd3 := (dd.same sB).kn (ss3.rkl (s2 _ _ gS)).kn
    rw [Nat.zero_add] at gS3
    refine ⟨_, rfl, _, rfl, st, _, _, _, rfl, rfl, SqL.of gS3, atI_nat (j := 0) rfl, (by show 3 ≤ sizeLine; decide), fun pT nT => objG nT fun G4 s4 gT => ⟨pT, _, _, _, rfl, gT, big43 hj, big43 hs2, big_len hW lW hj hs2, ?_⟩⟩
    have dk4 := dk3.same s4
    have gO4 := s4 _ _ gO3
    have dd4 := dd3.same s4
    have gS4 := s4 _ _ gS3
    refine ⟨_, rfl, st, _, _, _, rfl, rfl, SqL.of gS4, atI_nat (j := 0) rfl, _, _, rfl, rfl, _, rfl, ite2 (fun c1 => iteT ?_) (fun c1 => ?_)⟩
    · exact ⟨_, _, _, _, _, _, _, _, _, _, rfl, dk4⟩
    refine ⟨_, rfl, st, _, _, _, rfl, rfl, SqL.of gS4, atI_nat (j := 1) rfl, _, _, rfl, rfl, ⟨by decide, by decide, by decide⟩, _, _, rfl, rfl, _, rfl, ite2 (fun c2 => ⟨_, _, _, _, _, _, _, _, _, _, rfl, dk4⟩) (fun c2 => ?_)⟩
    have hs3 : sN ≤ 1000 := by
      have h : ¬ ((1000 : Int) < ((sN : Nat) : Int)) := fun h => c1 (decide_eq_true h)
      omega
    have hg : g ≤ 10 ^ 30 := by
      have h : ¬ ((10 : Int) ^ (30 : Nat) < ((max 0 g : Nat) : Int)) := fun h => c2 (decide_eq_true h)
      have h2 : ((10 : Int) ^ (30 : Nat)) = 1000000000000000000000000000000 := by decide +kernel
      rw [h2, Nat.max_eq_right (Nat.zero_le _)] at h
      show g ≤ 1000000000000000000000000000000
      omega
    refine ⟨_, rfl, (by show 3 ≤ sizeLine; decide), fun lz nz => lstG nz fun G5 s5 gz => ⟨_, rfl, lz, lO, [.inr "x", .inr "y", .inr "xy"], _, rfl, SqL.of gz, SqL.of (s5 _ _ gO4), rfl, fun pd nd => objG nd fun G6 s6 gd => ?_⟩⟩
    have s56 := s5.trans s6
    refine ⟨v, pd, ρ, _, _, rfl, ⟨_, gd, fun x => ?_⟩, (dr.od).up (by omega), dd4.same s56, fun G7 u s7 du => ?_⟩
    · match x with
      | 0 => rfl
      | 1 => rfl
      | 2 => rfl
    have s57 := s56.trans s7
    have rn : ∀ ρ : Nx → Str, (∀ x y, ρ x = ρ y → x = y) → Rn (NSr ρ) 49 (t.d ρ) [] (.ok (Wt.int (j : Int)).hv) sN := fun ρ hρ => by
      have z := we.ev hρ 0 49 (by decide) hg (by omega)
      rw [Nat.zero_add] at z
      rw [Wt.hv]
      exact .go z .nil
    refine ⟨_, rfl, (by show 0 ≤ sizeLine; decide), fun f8 n8 => objG n8 fun G8 s8 g8 => ?_⟩
    refine ⟨NSr NM, (by decide), v, f8, _, _, [], _, _, rfl, (dd4.same s57).same s8, SqT.of g8, .nil, (fun a ha => by cases ha), rn NM NM_inj, Wt.int (j : Int), rfl, ?_, fun u9 G9 s9 du9 => ?_⟩
    · rw [Wt.sz]
      · decide
      all_goals (intros; first | (rename_i h; cases h) | skip)
    have out : ∀ (G : Hp) (u : V), Dd Non G (.tup [.str "worth", (Wt.int (j : Int)).d, .int (sN : Int)]) u → ∃ p, u = .ref p ∧ G p = some (.tup [.str "worth", .int (j : Int), .int (sN : Int)]) := fun G u h => by
      rw [Wt.d] at h
      cases h with
      | tup e t =>
      cases t with
      | cons t1 t =>
      cases t with
      | cons t2 t =>
      cases t with
      | cons t3 t =>
      cases t
      cases t1
      cases t2
      cases t3
      exact ⟨_, rfl, e⟩
    obtain ⟨p9, rfl, g9⟩ := out _ _ du9
    refine ⟨p9, _, _, _, rfl, g9, big43 hj, big43 hs2, big_len hW lW hj hs2, _, rfl, rfl, _, rfl, ite2 (fun c3 => ?_) (fun _ => ?_)⟩
    · have z := decide_eq_true (rfl : V.str (tupleText [reprText ("worth" : Str), toString (j : Int), toString (sN : Int)]) = V.str (tupleText [reprText ("worth" : Str), toString (j : Int), toString (sN : Int)]))
      simp at c3
    have s79 := s8.trans s9
    refine ⟨_, rfl, (by show 0 ≤ sizeLine; decide), fun f10 n10 => objG n10 fun G10 s10 g10 => ?_⟩
    refine ⟨NSr ρ, (by show 3 ≤ 400; decide), u, f10, _, _, [], _, _, rfl, (du.same s79).same s10, SqT.of g10, .nil, (fun a ha => by cases ha), rn ρ hρ, Wt.int (j : Int), rfl, ?_, fun u11 G11 s11 du11 => ?_⟩
    · rw [Wt.sz]
      · decide
      all_goals (intros; first | (rename_i h; cases h) | skip)
    obtain ⟨p11, rfl, g11⟩ := out _ _ du11
    refine ⟨p11, _, _, _, rfl, g11, big43 hj, big43 hs2, big_len hW lW hj hs2, _, rfl, rfl, _, rfl, ite2 (fun c3 => ?_) (fun _ => ?_)⟩
    · simp at c3
    exact ⟨_, _, _, _, _, _, _, _, _, _, rfl, dk4.same (s57.trans (s79.trans (s10.trans s11)))⟩
end
end Kq

/-! the end of a law whose defs show things -/
namespace Kf
open PySem PySem.Spec PyProof.Rows L2 LamX
/-- the heap at the law's call: the written part, the tables cs, the script -/
structure Beg (h : Heap) (K : PySem.W.Frag) (mg : Str → Option Value) (cs : List (Addr × Addr)) (a : Addr) (us : Array Value) : Prop where
  kin : K.In h
  gl : h.Ns mainGlobals mg
  bl : ∃ m, h.Ns builtinsNs m ∧ ∀ y : Str, y ≠ "__name__" → m y = bootBuiltins y
  nl : h.NoLimit
  tb : ∀ p ∈ cs, h.get? p.2 = some { cls := .none, data := .fields #[] }
  nk : ∀ p ∈ cs, K.lookup p.2 = none
  cd : ∀ p ∈ cs, PySem.W.CodeHd h p.1 p.2
  bm : ∃ (z : Addr) (q : Obj), mg "__builtins__" = some (.ref z) ∧ z ≠ builtinsNs ∧ h.get? z = some q ∧ q.cls = .type "module" ∧ q.dict = some builtinsNs ∧ q.data = .plain
  sc : h.get? a = some { cls := .type "list", data := .seq us }
/-- tracked are the tables, and perhaps the script -/
structure Fit (H : Hp) (K : PySem.W.Frag) (cs : List (Addr × Addr)) (a : Addr) : Prop where
  tb : ∀ p ∈ cs, H p.2 = some (.tbl #[])
  no : ∀ b u, H b = some u → (∃ p ∈ cs, p.2 = b ∧ u = .tbl #[]) ∨ (b = a ∧ K.lookup a = none ∧ ∃ o xs, u = .frz o (.lst xs))
section
variable {h : Heap} {K : PySem.W.Frag} {mg : Str → Option Value} {cs : List (Addr × Addr)} {a : Addr} {us : Array Value} {H : Hp}
theorem Fit.off (F : Fit H K cs a) (B : Beg h K mg cs a us) {b : Addr} {o : Obj} (e : h.get? b = some o) (n1 : ∀ vs n, o.data ≠ .seq vs n) (n2 : o.data ≠ .fields #[]) : H b = none := by
  match q : H b with
  | none => rfl
  | some u =>
    rcases F.no b u q with ⟨p, hp, rfl, _⟩ | ⟨rfl, _⟩
    · have z := (B.tb p hp).symm.trans e
      exact absurd (congrArg Obj.data (Option.some.inj z)).symm n2
    · have z := B.sc.symm.trans e
      exact absurd (congrArg Obj.data (Option.some.inj z)).symm (n1 _ _)
theorem Fit.dic (F : Fit H K cs a) (B : Beg h K mg cs a us) {b : Addr} {m : Str → Option Value} (N : h.Ns b m) : (hidT h H).Ns b m := by
  obtain ⟨o, es, n, e, d, r⟩ := N
  refine ⟨o, es, n, hidT_get e (F.off B e ?_ ?_), d, r⟩
  · intro vs k z
    rw [d] at z
    cases z
  · intro z
    rw [d] at z
    cases z
theorem Fit.kin (F : Fit H K cs a) (B : Beg h K mg cs a us) : K.In (hidT h H) := fun b o e => hidT_get (B.kin b o e) <| by
  match q : H b with
  | none => rfl
  | some u =>
    rcases F.no b u q with ⟨p, hp, rfl, _⟩ | ⟨rfl, n, _⟩
    · rw [B.nk p hp] at e
      cases e
    · rw [n] at e
      cases e
theorem Fit.mod (F : Fit H K cs a) (B : Beg h K mg cs a us) : L2.Mod K mg (hidT h H) := by
  obtain ⟨m, m1, m2⟩ := B.bl
  obtain ⟨c, c1, c2⟩ := B.nl
  exact ⟨F.kin B, F.dic B B.gl, ⟨m, F.dic B m1, m2⟩, ⟨c, F.dic B c1, c2⟩⟩
theorem Fit.tabs (F : Fit H K cs a) (B : Beg h K mg cs a us) : ∀ p ∈ cs, TabB (hidT h H) mg p.1 p.2 := by
  intro p hp
  have tp := B.tb p hp
  have gP : mainGlobals ≠ p.2 := by
    intro z
    obtain ⟨o, es, n, e, d, _⟩ := B.gl
    rw [z, tp] at e
    cases e
    cases d
  refine ⟨?_, ?_, gP⟩
  · obtain ⟨o, vs, fl, tf, fg, tg, iF, tx, tt, e, r1, r2, r3, r⟩ := B.cd p hp
    refine ⟨o, vs, fl, tf, fg, tg, iF, tx, tt, hidT_get e (F.off B e (fun vs n z => ?_) (fun z => ?_)), r1, r2, r3, r⟩
    · rw [r2] at z
      cases z
    · rw [r2] at z
      cases z
      simp at r3
  · obtain ⟨z, q, b1, b2, b3, b4, b5, b6⟩ := B.bm
    refine ⟨z, q, b1, b2, fun y => ?_, fun y => ?_, hidT_get b3 (F.off B b3 (fun vs n y => ?_) (fun y => ?_)), b4, b5, b6⟩
    · obtain ⟨o, es, n, e, d, _⟩ := B.gl
      rw [← y, b3] at e
      cases e
      rw [b6] at d
      cases d
    · rw [y, tp] at b3
      cases b3
      cases b6
    · rw [b6] at y
      cases y
    · rw [b6] at y
      cases y
/-- what stood stands, behind the call -/
theorem Fit.old (F : Fit H K cs a) (B : Beg h K mg cs a us) {P : Program} {w : World} {G : Hp} {h' : Heap} (U : Un [] [] H G h h') (o1 : HOk P w H h) (o2 : HOk P w G h') : OldK h h' := by
  have tab : ∀ p ∈ cs, ∃ m : Array Value, h'.get? p.2 = some { cls := .none, data := .fields m } := fun p hp => by
    obtain ⟨m, z⟩ := U.tbls p.2 #[] (F.tb p hp)
    exact ⟨_, o2 p.2 _ z⟩
  have rest : ∀ b o, h.get? b = some o → (∃ p ∈ cs, p.2 = b) ∨ h'.get? b = some o := fun b o e => by
    match q : H b with
    | none => exact .inr (U.keep b o e q (by simp) (by simp))
    | some u =>
      rcases F.no b u q with ⟨p, hp, z, _⟩ | ⟨_, _, ob, xs, rfl⟩
      · exact .inl ⟨p, hp, z⟩
      · have e1 := (o1 b _ q).1
        have e2 := (o2 b _ (U.frzs b ob _ q)).1
        rw [e] at e1
        cases e1
        exact .inr e2
  constructor
  · intro b o e
    rcases rest b o e with ⟨p, hp, rfl⟩ | z
    · obtain ⟨m, hm⟩ := tab p hp
      have tp := B.tb p hp
      rw [tp] at e
      cases e
      exact .inr (.inl ⟨((B.cd p hp).tab tp).isCodeTable, rfl, #[], m, rfl, by rw [Array.empty_append]; exact hm⟩)
    · exact .inl z
  · intro b o e
    rcases rest b o e with ⟨p, hp, rfl⟩ | z
    · obtain ⟨m, hm⟩ := tab p hp
      exact ⟨_, hm⟩
    · exact ⟨o, z⟩
end
/-- such a heap there is -/
theorem fit_of {h : Heap} {K : PySem.W.Frag} {mg : Str → Option Value} {cs : List (Addr × Addr)} {a : Addr} {vs : List Value} {ns : List Int} (P : Program) (w : World) (B : Beg h K mg cs a vs.toArray) (hi : IntsAre vs ns) (hl : ns.length ≤ sizeLine) :
    ∃ H : Hp, Fit H K cs a ∧ SqL K H a (ns.map V.int) ∧ HOk P w H h := by
  have lv := hi.length
  have isT : ∀ b, (∃ p ∈ cs, p.2 = b) → h.get? b = some { cls := .none, data := .fields #[] } := by
    rintro b ⟨p, hp, rfl⟩
    exact B.tb p hp
  have na : ¬ ∃ p ∈ cs, p.2 = a := fun z => by
    have y := congrArg Obj.data (Option.some.inj ((isT a z).symm.trans B.sc))
    cases y
  open Classical in
  let T : Hp := fun b => if ∃ p ∈ cs, p.2 = b then some (.tbl #[]) else none
  have Ty : ∀ p ∈ cs, T p.2 = some (.tbl #[]) := fun p hp => if_pos ⟨p, hp, rfl⟩
  have Tn : ∀ b u, T b = some u → (∃ p ∈ cs, p.2 = b) ∧ u = .tbl #[] := fun b u z => by
    by_cases c : ∃ p ∈ cs, p.2 = b
    · exact ⟨c, (Option.some.inj ((if_pos c).symm.trans z)).symm⟩
    · have y := (if_neg c).symm.trans z
      cases y
  match hk : K.lookup a with
  | some o =>
    have e := B.kin a o hk
    rw [B.sc] at e
    cases e
    refine ⟨T, ⟨Ty, fun b u z => ?_⟩, .inr ⟨_, vs.toArray, _, hk, rfl, rfl, rfl, by rw [List.size_toArray, lv]; exact hl, by simpa using vals_ints hi⟩, fun b u z => ?_⟩
    · obtain ⟨⟨p, hp, e⟩, e2⟩ := Tn b u z
      exact .inl ⟨p, hp, e, e2⟩
    · obtain ⟨c, rfl⟩ := Tn b u z
      exact isT b c
  | none =>
    refine ⟨upd T a (.frz { cls := .type "list", data := .seq vs.toArray } (.lst (ns.map V.int))), ⟨fun p hp => ?_, fun b u z => ?_⟩, .inl (.inr ⟨_, upd_same⟩), fun b u z => ?_⟩
    · rw [upd_ne (fun y => na ⟨p, hp, y⟩)]
      exact Ty p hp
    · by_cases c : b = a
      · subst c
        rw [upd_same] at z
        cases z
        exact .inr ⟨rfl, hk, _, _, rfl⟩
      · rw [upd_ne c] at z
        obtain ⟨⟨p, hp, e⟩, e2⟩ := Tn b u z
        exact .inl ⟨p, hp, e, e2⟩
    · by_cases c : b = a
      · subst c
        rw [upd_same] at z
        cases z
        exact ⟨B.sc, by rw [List.length_map]; exact hl, vs, _, vals_ints hi, B.sc⟩
      · rw [upd_ne c] at z
        obtain ⟨c, rfl⟩ := Tn b u z
        exact isT b c
/-- what is known of the law's promise at the head's heap -/
def LawG (l : PySem.W.OpenLaw) (w : World) (K : PySem.W.Frag) (CX : CXT) (k n : Nat) (x : Str) (mg : Str → Option Value) (fa : Addr) (h : Heap) : Prop :=
  ∃ (fd : FuncData) (cs : List (Addr × Addr)) (sp : Sp), (∀ p ∈ cs, h.get? p.2 = some { cls := .none, data := .fields #[] } ∧ K.lookup p.2 = none ∧ PySem.W.CodeHd h p.1 p.2) ∧ (∀ (s : Shared) (u : Value), BindsTo s fd ⟨[u], []⟩ [(x, u)]) ∧
    (∀ (H : Hp) (a : Addr) (ns : List Int), ns.length ≤ n → (∀ z ∈ ns, Builtin.Int.intBits z ≤ 1048576) → (∀ p ∈ cs, H p.2 = some (.tbl #[])) → SqL K H a (ns.map V.int) → sp [.ref a] H (fun v _ => v = .bl true) E0) ∧
    ∀ base : Heap, K.In base → base.Ns mainGlobals mg → (∀ p ∈ cs, TabB base mg p.1 p.2) → FnG l.prog w K mg base CX k fa fd [x] sp
/-- the end; names: the defs with generator expressions -/
theorem walk_ofG {l : PySem.W.OpenLaw} {n k : Nat} {q : Program} {loose : List Str} {XP : (Str → Option Value) → Heap → Prop} {YP : World → Heap → Prop} {d : DefRec} {K : Params → PySem.W.Frag} {CX : World → CXT} {x : Str}
    (hn : l.most = some n) (hz : n ≤ sizeLine) (hdf : d.params.defaults = []) (hr : Room k callerA) (hY : ∀ (w : World) (h : Heap), YP w h → (K w.params).In h)
    (F : ∀ (w : World) (mg : Str → Option Value) (fa : Addr) (h : Heap), YP w h → (K w.params).In h → h.Ns mainGlobals mg → mg d.name = some (.ref fa) →
      (∀ e ∈ recsOf q, ∃ (a : Addr) (o : Obj) (fd : FuncData) (c p : Addr), mg e.name = some (.ref a) ∧ h.get? a = some o ∧ o.data = .func fd ∧ fd.code = .ref c ∧ h.IsCode c p #[] ∧ h.TableAt c p #[]) → LawG l w (K w.params) (CX w) k n x mg fa h)
    (hX : ∀ (w : World) (H : Hp) (s : Shared) (e : Value) (t : Shared), CX w [] H s E0 e t → False) :
    PySem.W.WalkO q loose XP YP l.row.toRowW d [] (fun f vs => PySem.call f vs) := by
  refine Att.attach_callB hn hdf ?_
  intro w s₀ s mg mb fa o pm cd doc a vs ns G Y _ _ _ hmg ha hi hlen bits hg
  have KX := hY w _ Y
  obtain ⟨fd, cs, sp, tabs, bind, start, run⟩ := F w mg fa _ Y KX G.T.g hmg fun e he => G.T.tab e he
  have B : Beg s.heap (K w.params) mg cs a vs.toArray := ⟨KX, G.T.g, ⟨mb, G.T.b, G.T.builtins⟩, G.T.nolimit, fun p hp => (tabs p hp).1, fun p hp => (tabs p hp).2.1, fun p hp => (tabs p hp).2.2, G.T.bmain, ha⟩
  obtain ⟨H, Ft, sq, ok⟩ := fit_of l.prog w B hi (Nat.le_trans hlen hz)
  have e0 : Env0 l.prog w (K w.params) mg (hidT s.heap H) callerA [] s H := ⟨rfl, Ft.mod B, fun b u e => of_hidT e, Nat.le_of_eq (hidT_size _ _), trivial, by simp [frs], ok, .of_eq hg⟩
  refine codeAny_mono ((run _ (Ft.kin B) (Ft.dic B G.T.g) (Ft.tabs B)).go callerA [] s H ⟨[.ref a], []⟩ [.ref a] [.ref a] _ E0 rfl hr e0 (bind s (.ref a)) (.cons rfl .nil) (start H a ns hlen bits Ft.tb sq)) ?_
  intro r t z
  match r, z with
  | .error e, z => exact (hX w H s e t z).elim
  | .ok .next, z => exact z.elim
  | .ok .brk, z => exact z.elim
  | .ok .cont, z => exact z.elim
  | .ok (.ret u), ⟨v, G', os, bare, un, ok', rv, e⟩ =>
    have e : v = .bl true := e
    subst e
    obtain rfl : u = Value.bool true := rv
    exact ⟨rfl, Ft.old B un ok ok', os, bare⟩
end Kf

namespace Kq
open PySem PySem.Spec PyProof.Rows L2 Kf Kv Kk Ku
section
variable {P : Program} {w : World} {K : PySem.W.Frag} {mg : Str → Option Value} {base : Heap}
theorem drawnAll (dW : Dfn K mg "_law_drawn" tDrawn psDrawn) (dR : Dfn K mg "_law_rounds" tRounds psRounds) (DP : Okd P w K mg base CX0 5 "_law_pick" psPick spPick) (DD : Okd P w K mg base CX0 5 "_law_draw" ["_law_deck_here", "_law_most"] spDraw) (DN : Okd P w K mg base CX0 5 "_law_number" psNum spNum) (m_dict : mg "dict" = none) : ∀ m, Okd P w K mg base CX0 (2 * m + 5) "_law_drawn" psDrawn (spDrawn m)
  | 0 => dW.ok fun f fd F => noFn fun vs H Q E h => by
    obtain ⟨d, c, a, i, n, ks, _, _, hn, _⟩ := h
    omega
  | m + 1 => by
    have I := drawnAll dW dR DP DD DN m_dict m
    have R : Okd P w K mg base CX0 (2 * m + 6) "_law_rounds" psRounds (spRounds m) := dR.ok fun f fd F => okRounds (k := 2 * m + 5) F (DW := I) (DD := DD.up (show 5 ≤ 2 * m + 5 by omega))
    exact dW.ok fun f fd F => okDrawn (k := 2 * m + 6) F (DW := I.up (show 2 * m + 5 ≤ 2 * m + 6 by omega)) (DP := DP.up (show 5 ≤ 2 * m + 6 by omega)) (DR := R) (DD := DD.up (show 5 ≤ 2 * m + 6 by omega)) (DN := DN.up (show 5 ≤ 2 * m + 6 by omega)) (m_dict := m_dict)
theorem wentAll (dW : Dfn K mg "_law_went" tWent psWent) (m_int : mg "int" = none) (m_list : mg "list" = none) (m_max : mg "max" = none) : ∀ m, Okd P w K mg base CX0 (m + 1) "_law_went" psWent (spWent m)
  | 0 => dW.ok fun f fd F => noFn fun vs H Q E h => by
    obtain ⟨vt, a, st, us, e, s0, m0, _, _, _, _, _, _, h⟩ := h
    rcases h with ⟨t, i, s, g, _, we, _⟩ | ⟨x, kd, b, h, _⟩ | ⟨fx, y, t, c, h, _⟩
    · cases we
    · omega
    · omega
  | m + 1 => dW.ok fun f fd F => okWent (k := m + 1) F (DW := wentAll dW m_int m_list m_max m) (m_int := m_int) (m_list := m_list) (m_max := m_max)
theorem otherAll (dW : Dfn K mg "_law_called_otherwise" tOther psOther) (m1 : mg "isinstance" = none) (m2 : mg "str" = none) (m3 : mg "tuple" = none) : ∀ m, Okd P w K mg base CX0 (m + 1) "_law_called_otherwise" psOther (spOther m)
  | 0 => dW.ok fun f fd F => noFn fun vs H Q E h => by
    obtain ⟨v, tb, ρ, d, d2, _, _, h, _⟩ := h
    exact h
  | m + 1 => dW.ok fun f fd F => okOther (k := m + 1) F (DO := otherAll dW m1 m2 m3 m) (m_isinstance := m1) (m_str := m2) (m_tuple := m3)
theorem smallAll (dW : Dfn K mg "_law_small_enough" tSmall psSmall) (m1 : mg "isinstance" = none) (m2 : mg "str" = none) (m3 : mg "tuple" = none) (m4 : mg "max" = none) (m5 : mg "sum" = none) : ∀ m, Okd P w K mg base CX0 (m + 1) "_law_small_enough" psSmall (spSmall m)
  | 0 => dW.ok fun f fd F => noFn fun vs H Q E h => by
    obtain ⟨v, ρ, d, d2, _, h, _⟩ := h
    exact h
  | m + 1 => dW.ok fun f fd F => okSmall (k := m + 1) F (DE := smallAll dW m1 m2 m3 m4 m5 m) (m_isinstance := m1) (m_max := m4) (m_str := m2) (m_sum := m5) (m_tuple := m3)
end
def KeysAre : List DictEntry → List (Str × Value) → Prop
  | [], [] => True
  | e :: es, (x, v) :: xs => (∃ t, e.key = .str x t) ∧ e.val = v ∧ KeysAre es xs
  | _, _ => False
theorem find_keys (z : Str) : ∀ {es : List DictEntry} {xs : List (Str × Value)}, KeysAre es xs → (es.find? (·.key.isStr z)).map (·.val) = xs.lookup z ∧ es.any (·.refKey) = false
  | [], [], _ => ⟨rfl, rfl⟩
  | e :: es, (x, v) :: xs, h => by
    obtain ⟨⟨t, h1⟩, h2, h3⟩ := h
    obtain ⟨i1, i2⟩ := find_keys z h3
    have e1 : e.key.isStr z = (z == x) := by
      rw [h1]
      show (x == z) = (z == x)
      by_cases c : x = z
      · subst c
        rfl
      · rw [beq_eq_false_iff_ne.mpr c, beq_eq_false_iff_ne.mpr (Ne.symm c)]
    have e2 : e.refKey = false := by
      unfold DictEntry.refKey
      rw [h1]
    refine ⟨?_, by rw [List.any_cons, e2, i2]; rfl⟩
    rw [List.find?_cons, List.lookup_cons, e1]
    cases c : (z == x) with
    | true => exact congrArg some h2
    | false => exact i1
  | [], _ :: _, h => h.elim
  | _ :: _, [], h => h.elim
theorem ns_keys {K : PySem.W.Frag} {a : Addr} {es : Array DictEntry} {n : Nat} {xs : List (Str × Value)} (l : K.lookup a = some ⟨.type "dict", none, .dict es n, #[]⟩) (h : KeysAre es.toList xs) (z : Str) : PySem.W.nsIn K a z = some (xs.lookup z) := by
  obtain ⟨i1, i2⟩ := find_keys z h
  unfold PySem.W.nsIn
  rw [l]
  simp only
  cases c : es.toList.find? (·.key.isStr z) with
  | some e =>
    rw [c] at i1
    exact congrArg some i1
  | none =>
    rw [c] at i1
    simp only [i2]
    exact congrArg some i1
theorem exm_cl {K : PySem.W.Frag} {C : Addr} {b : Bool} {c : Value} (sB : PySem.W.subIn K (.ref C) (.type "BaseException") = some true) (iC : PySem.W.isClsIn K C = true) (tC : PySem.W.typeIn K (.ref C) = some (.type "type")) (s : PySem.W.subIn K c (.ref C) = some b) : PySem.W.exmOne K c (.ref C) = some b := by
  unfold PySem.W.exmOne
  rw [if_pos (by rw [sB]; simp)]
  unfold PySem.W.isClsIn at iC
  show (if ((PySem.W.clsIn K C).isSome && PySem.W.typeIn K (.ref C) == some (.type "type")) = true then PySem.W.subIn K c (.ref C) else none) = _
  rw [if_pos (by rw [iC, tC]; simp)]
  exact s
theorem all_mk {l : PySem.W.OpenLaw} {w : World} {K : PySem.W.Frag} {h : Heap} {mg : Str → Option Value} {fa C cF cM dR dC oN oP f1 f2 f3 f4 f5 f6 f7 f8 f9 f10 f11 f12 f13 f14 f15 f16 f17 f18 f19 f20 f21 f22 f23 f24 f25 f26 f27 f28 f29 f30 f31 f32 f33 f34 f35 f36 f37 f38 f39 f40 f41 f42 f43 f44 f45 f46 f47 f48 f49 f50 f51 f52 f53 f54 g1 g2 : Addr} {w_alike y_table y_maker y_making : Value} (X : K.In h) (G : h.Ns mainGlobals mg) (hfa : mg "law" = some (.ref fa))
    {od1 an1 od2 an2 od3 an3 od4 an4 od5 an5 od6 an6 od7 an7 od8 an8 od9 an9 od10 an10 od11 an11 od12 an12 od13 an13 od14 an14 od15 an15 od16 an16 od17 an17 od18 an18 od19 an19 od20 an20 od21 an21 od22 an22 od23 an23 od24 an24 od25 an25 od26 an26 od27 an27 od28 an28 od29 an29 od30 an30 od31 an31 od32 an32 od33 an33 od34 an34 od35 an35 od36 an36 od37 an37 od38 an38 od39 an39 od40 an40 od41 an41 od42 an42 od43 an43 od44 an44 od45 an45 od46 an46 od47 an47 od48 an48 od49 an49 od50 an50 od51 an51 od52 an52 od53 an53 od54 an54 od_1 an_1 od_2 an_2 dN dP : Option Addr} {sl1 sl2 sl3 sl4 sl5 sl6 sl7 sl8 sl9 sl10 sl11 sl12 sl13 sl14 sl15 sl16 sl17 sl18 sl19 sl20 sl21 sl22 sl23 sl24 sl25 sl26 sl27 sl28 sl29 sl30 sl31 sl32 sl33 sl34 sl35 sl36 sl37 sl38 sl39 sl40 sl41 sl42 sl43 sl44 sl45 sl46 sl47 sl48 sl49 sl50 sl51 sl52 sl53 sl54 sl_1 sl_2 slN slP : Array (Option Value)} {esR esC : Array DictEntry} {nR nC nN nP : Nat} {iN iP : Array Value} {oc1 kV1 dc1 pm1 cd1 ct1 oc2 kV2 dc2 pm2 cd2 ct2 oc3 kV3 dc3 pm3 cd3 ct3 oc4 kV4 dc4 pm4 cd4 ct4 oc5 kV5 dc5 pm5 cd5 ct5 oc6 kV6 dc6 pm6 cd6 ct6 oc7 kV7 dc7 pm7 cd7 ct7 oc8 kV8 dc8 pm8 cd8 ct8 oc9 kV9 dc9 pm9 cd9 ct9 oc10 kV10 dc10 pm10 cd10 ct10 oc11 kV11 dc11 pm11 cd11 ct11 oc12 kV12 dc12 pm12 cd12 ct12 oc13 kV13 dc13 pm13 cd13 ct13 oc14 kV14 dc14 pm14 cd14 ct14 oc15 kV15 dc15 pm15 cd15 ct15 oc16 kV16 dc16 pm16 cd16 ct16 oc17 kV17 dc17 pm17 cd17 ct17 oc18 kV18 dc18 pm18 cd18 ct18 oc19 kV19 dc19 pm19 cd19 ct19 oc20 kV20 dc20 pm20 cd20 ct20 oc21 kV21 dc21 pm21 cd21 ct21 oc22 kV22 dc22 pm22 cd22 ct22 oc23 kV23 dc23 pm23 cd23 ct23 oc24 kV24 dc24 pm24 cd24 ct24 oc25 kV25 dc25 pm25 cd25 ct25 oc26 kV26 dc26 pm26 cd26 ct26 oc27 kV27 dc27 pm27 cd27 ct27 oc28 kV28 dc28 pm28 cd28 ct28 oc29 kV29 dc29 pm29 cd29 ct29 oc30 kV30 dc30 pm30 cd30 ct30 oc31 kV31 dc31 pm31 cd31 ct31 oc32 kV32 dc32 pm32 cd32 ct32 oc33 kV33 dc33 pm33 cd33 ct33 oc34 kV34 dc34 pm34 cd34 ct34 oc35 kV35 dc35 pm35 cd35 ct35 oc36 kV36 dc36 pm36 cd36 ct36 oc37 kV37 dc37 pm37 cd37 ct37 oc38 kV38 dc38 pm38 cd38 ct38 oc39 kV39 dc39 pm39 cd39 ct39 oc40 kV40 dc40 pm40 cd40 ct40 oc41 kV41 dc41 pm41 cd41 ct41 oc42 kV42 dc42 pm42 cd42 ct42 oc43 kV43 dc43 pm43 cd43 ct43 oc44 kV44 dc44 pm44 cd44 ct44 oc45 kV45 dc45 pm45 cd45 ct45 oc46 kV46 dc46 pm46 cd46 ct46 oc47 kV47 dc47 pm47 cd47 ct47 oc48 kV48 dc48 pm48 cd48 ct48 oc49 kV49 dc49 pm49 cd49 ct49 oc50 kV50 dc50 pm50 cd50 ct50 oc51 kV51 dc51 pm51 cd51 ct51 oc52 kV52 dc52 pm52 cd52 ct52 oc53 kV53 dc53 pm53 cd53 ct53 oc54 kV54 dc54 pm54 cd54 ct54 oc_1 kV_1 dc_1 pm_1 cd_1 ct_1 oc_2 kV_2 dc_2 pm_2 cd_2 ct_2 uS uG uP : Value}
    (a1 : PySem.W.nsIn K mainGlobals "within_numbers" = some (some (.ref f1))) (l1 : K.lookup f1 = some ⟨oc1, od1, .func (PySem.W.fnOf "within_numbers" "within_numbers" (defArgs tNums) (defBody tNums) (defScope tNums) .none kV1 dc1 pm1 an1 cd1 ct1), sl1⟩)
      (q1 : PySem.W.codeIn K cd1 "within_numbers" = true) (k1 : PySem.W.keepIn K (.ref f1) = true)
    (a2 : PySem.W.nsIn K mainGlobals "within_parts" = some (some (.ref f2))) (l2 : K.lookup f2 = some ⟨oc2, od2, .func (PySem.W.fnOf "within_parts" "within_parts" (defArgs tParts) (defBody tParts) (defScope tParts) .none kV2 dc2 pm2 an2 cd2 ct2), sl2⟩)
      (q2 : PySem.W.codeIn K cd2 "within_parts" = true) (k2 : PySem.W.keepIn K (.ref f2) = true)
    (a3 : PySem.W.nsIn K mainGlobals "worths_within" = some (some (.ref f3))) (l3 : K.lookup f3 = some ⟨oc3, od3, .func (PySem.W.fnOf "worths_within" "worths_within" (defArgs tWW) (defBody tWW) (defScope tWW) .none kV3 dc3 pm3 an3 cd3 ct3), sl3⟩)
      (q3 : PySem.W.codeIn K cd3 "worths_within" = true) (k3 : PySem.W.keepIn K (.ref f3) = true)
    (a4 : PySem.W.nsIn K mainGlobals "parts_in" = some (some (.ref f4))) (l4 : K.lookup f4 = some ⟨oc4, od4, .func (PySem.W.fnOf "parts_in" "parts_in" (defArgs tPIn) (defBody tPIn) (defScope tPIn) .none kV4 dc4 pm4 an4 cd4 ct4), sl4⟩)
      (q4 : PySem.W.codeIn K cd4 "parts_in" = true) (k4 : PySem.W.keepIn K (.ref f4) = true)
    (a5 : PySem.W.nsIn K mainGlobals "items_of" = some (some (.ref f5))) (l5 : K.lookup f5 = some ⟨oc5, od5, .func (PySem.W.fnOf "items_of" "items_of" (defArgs tItems) (defBody tItems) (defScope tItems) .none kV5 dc5 pm5 an5 cd5 ct5), sl5⟩)
      (q5 : PySem.W.codeIn K cd5 "items_of" = true) (k5 : PySem.W.keepIn K (.ref f5) = true)
    (a6 : PySem.W.nsIn K mainGlobals "taken_in" = some (some (.ref f6))) (l6 : K.lookup f6 = some ⟨oc6, od6, .func (PySem.W.fnOf "taken_in" "taken_in" (defArgs tTaken) (defBody tTaken) (defScope tTaken) .none kV6 dc6 pm6 an6 cd6 ct6), sl6⟩)
      (q6 : PySem.W.codeIn K cd6 "taken_in" = true) (k6 : PySem.W.keepIn K (.ref f6) = true)
    (a7 : PySem.W.nsIn K mainGlobals "held" = some (some (.ref f7))) (l7 : K.lookup f7 = some ⟨oc7, od7, .func (PySem.W.fnOf "held" "held" (defArgs tHeld) (defBody tHeld) (defScope tHeld) .none kV7 dc7 pm7 an7 cd7 ct7), sl7⟩)
      (q7 : PySem.W.codeIn K cd7 "held" = true) (k7 : PySem.W.keepIn K (.ref f7) = true)
    (a8 : PySem.W.nsIn K mainGlobals "given_out" = some (some (.ref f8))) (l8 : K.lookup f8 = some ⟨oc8, od8, .func (PySem.W.fnOf "given_out" "given_out" (defArgs tGiven) (defBody tGiven) (defScope tGiven) .none kV8 dc8 pm8 an8 cd8 ct8), sl8⟩)
      (q8 : PySem.W.codeIn K cd8 "given_out" = true) (k8 : PySem.W.keepIn K (.ref f8) = true)
    (a9 : PySem.W.nsIn K mainGlobals "held_within" = some (some (.ref f9))) (l9 : K.lookup f9 = some ⟨oc9, od9, .func (PySem.W.fnOf "held_within" "held_within" (defArgs tHW) (defBody tHW) (defScope tHW) .none kV9 dc9 pm9 an9 cd9 ct9), sl9⟩)
      (q9 : PySem.W.codeIn K cd9 "held_within" = true) (k9 : PySem.W.keepIn K (.ref f9) = true)
    (a10 : PySem.W.nsIn K mainGlobals "released" = some (some (.ref f10))) (l10 : K.lookup f10 = some ⟨oc10, od10, .func (PySem.W.fnOf "released" "released" (defArgs tRel) (defBody tRel) (defScope tRel) .none kV10 dc10 pm10 an10 cd10 ct10), sl10⟩)
      (q10 : PySem.W.codeIn K cd10 "released" = true) (k10 : PySem.W.keepIn K (.ref f10) = true)
    (a11 : PySem.W.nsIn K mainGlobals "rebuilt" = some (some (.ref f11))) (l11 : K.lookup f11 = some ⟨oc11, od11, .func (PySem.W.fnOf "rebuilt" "rebuilt" (defArgs tReb) (defBody tReb) (defScope tReb) .none kV11 dc11 pm11 an11 cd11 ct11), sl11⟩)
      (q11 : PySem.W.codeIn K cd11 "rebuilt" = true) (k11 : PySem.W.keepIn K (.ref f11) = true)
    (a12 : PySem.W.nsIn K mainGlobals "make_pair" = some (some (.ref f12))) (l12 : K.lookup f12 = some ⟨oc12, od12, .func (PySem.W.fnOf "make_pair" "make_pair" (defArgs tMkPair) (defBody tMkPair) (defScope tMkPair) .none kV12 dc12 pm12 an12 cd12 ct12), sl12⟩)
      (q12 : PySem.W.codeIn K cd12 "make_pair" = true) (k12 : PySem.W.keepIn K (.ref f12) = true)
    (a13 : PySem.W.nsIn K mainGlobals "make_side" = some (some (.ref f13))) (l13 : K.lookup f13 = some ⟨oc13, od13, .func (PySem.W.fnOf "make_side" "make_side" (defArgs tMkSide) (defBody tMkSide) (defScope tMkSide) .none kV13 dc13 pm13 an13 cd13 ct13), sl13⟩)
      (q13 : PySem.W.codeIn K cd13 "make_side" = true) (k13 : PySem.W.keepIn K (.ref f13) = true)
    (a14 : PySem.W.nsIn K mainGlobals "make_list" = some (some (.ref f14))) (l14 : K.lookup f14 = some ⟨oc14, od14, .func (PySem.W.fnOf "make_list" "make_list" (defArgs tMkList) (defBody tMkList) (defScope tMkList) .none kV14 dc14 pm14 an14 cd14 ct14), sl14⟩)
      (q14 : PySem.W.codeIn K cd14 "make_list" = true) (k14 : PySem.W.keepIn K (.ref f14) = true)
    (a15 : PySem.W.nsIn K mainGlobals "put_on" = some (some (.ref f15))) (l15 : K.lookup f15 = some ⟨oc15, od15, .func (PySem.W.fnOf "put_on" "put_on" (defArgs tPutOn) (defBody tPutOn) (defScope tPutOn) .none kV15 dc15 pm15 an15 cd15 ct15), sl15⟩)
      (q15 : PySem.W.codeIn K cd15 "put_on" = true) (k15 : PySem.W.keepIn K (.ref f15) = true)
    (a16 : PySem.W.nsIn K mainGlobals "run" = some (some (.ref f16))) (l16 : K.lookup f16 = some ⟨oc16, od16, .func (PySem.W.fnOf "run" "run" (defArgs tRun) (defBody tRun) (defScope tRun) .none kV16 dc16 pm16 an16 cd16 ct16), sl16⟩)
      (q16 : PySem.W.codeIn K cd16 "run" = true) (k16 : PySem.W.keepIn K (.ref f16) = true)
    (a17 : PySem.W.nsIn K mainGlobals "handed_in" = some (some (.ref f17))) (l17 : K.lookup f17 = some ⟨oc17, od17, .func (PySem.W.fnOf "handed_in" "handed_in" (defArgs tHand) (defBody tHand) (defScope tHand) .none kV17 dc17 pm17 an17 cd17 ct17), sl17⟩)
      (q17 : PySem.W.codeIn K cd17 "handed_in" = true) (k17 : PySem.W.keepIn K (.ref f17) = true)
    (a18 : PySem.W.nsIn K mainGlobals "worth_at" = some (some (.ref f18))) (l18 : K.lookup f18 = some ⟨oc18, od18, .func (PySem.W.fnOf "worth_at" "worth_at" (defArgs tWA) (defBody tWA) (defScope tWA) .none kV18 dc18 pm18 an18 cd18 ct18), sl18⟩)
      (q18 : PySem.W.codeIn K cd18 "worth_at" = true) (k18 : PySem.W.keepIn K (.ref f18) = true)
    (a19 : PySem.W.nsIn K mainGlobals "both_at" = some (some (.ref f19))) (l19 : K.lookup f19 = some ⟨oc19, od19, .func (PySem.W.fnOf "both_at" "both_at" (defArgs tBoth) (defBody tBoth) (defScope tBoth) .none kV19 dc19 pm19 an19 cd19 ct19), sl19⟩)
      (q19 : PySem.W.codeIn K cd19 "both_at" = true) (k19 : PySem.W.keepIn K (.ref f19) = true)
    (a20 : PySem.W.nsIn K mainGlobals "called" = some (some (.ref f20))) (l20 : K.lookup f20 = some ⟨oc20, od20, .func (PySem.W.fnOf "called" "called" (defArgs tCalled) (defBody tCalled) (defScope tCalled) .none kV20 dc20 pm20 an20 cd20 ct20), sl20⟩)
      (q20 : PySem.W.codeIn K cd20 "called" = true) (k20 : PySem.W.keepIn K (.ref f20) = true)
    (a21 : PySem.W.nsIn K mainGlobals "call_closure" = some (some (.ref f21))) (l21 : K.lookup f21 = some ⟨oc21, od21, .func (PySem.W.fnOf "call_closure" "call_closure" (defArgs tClo) (defBody tClo) (defScope tClo) .none kV21 dc21 pm21 an21 cd21 ct21), sl21⟩)
      (q21 : PySem.W.codeIn K cd21 "call_closure" = true) (k21 : PySem.W.keepIn K (.ref f21) = true)
    (a22 : PySem.W.nsIn K mainGlobals "call_putter" = some (some (.ref f22))) (l22 : K.lookup f22 = some ⟨oc22, od22, .func (PySem.W.fnOf "call_putter" "call_putter" (defArgs tCPutter) (defBody tCPutter) (defScope tCPutter) .none kV22 dc22 pm22 an22 cd22 ct22), sl22⟩)
      (q22 : PySem.W.codeIn K cd22 "call_putter" = true) (k22 : PySem.W.keepIn K (.ref f22) = true)
    (a23 : PySem.W.nsIn K mainGlobals "call_putting" = some (some (.ref f23))) (l23 : K.lookup f23 = some ⟨oc23, od23, .func (PySem.W.fnOf "call_putting" "call_putting" (defArgs tCPutting) (defBody tCPutting) (defScope tCPutting) .none kV23 dc23 pm23 an23 cd23 ct23), sl23⟩)
      (q23 : PySem.W.codeIn K cd23 "call_putting" = true) (k23 : PySem.W.keepIn K (.ref f23) = true)
    (a24 : PySem.W.nsIn K mainGlobals "run_num" = some (some (.ref f24))) (l24 : K.lookup f24 = some ⟨oc24, od24, .func (PySem.W.fnOf "run_num" "run_num" (defArgs tRNum) (defBody tRNum) (defScope tRNum) .none kV24 dc24 pm24 an24 cd24 ct24), sl24⟩)
      (q24 : PySem.W.codeIn K cd24 "run_num" = true) (k24 : PySem.W.keepIn K (.ref f24) = true)
    (a25 : PySem.W.nsIn K mainGlobals "run_truth" = some (some (.ref f25))) (l25 : K.lookup f25 = some ⟨oc25, od25, .func (PySem.W.fnOf "run_truth" "run_truth" (defArgs tRTruth) (defBody tRTruth) (defScope tRTruth) .none kV25 dc25 pm25 an25 cd25 ct25), sl25⟩)
      (q25 : PySem.W.codeIn K cd25 "run_truth" = true) (k25 : PySem.W.keepIn K (.ref f25) = true)
    (a26 : PySem.W.nsIn K mainGlobals "run_none" = some (some (.ref f26))) (l26 : K.lookup f26 = some ⟨oc26, od26, .func (PySem.W.fnOf "run_none" "run_none" (defArgs tRNone) (defBody tRNone) (defScope tRNone) .none kV26 dc26 pm26 an26 cd26 ct26), sl26⟩)
      (q26 : PySem.W.codeIn K cd26 "run_none" = true) (k26 : PySem.W.keepIn K (.ref f26) = true)
    (a27 : PySem.W.nsIn K mainGlobals "run_fault" = some (some (.ref f27))) (l27 : K.lookup f27 = some ⟨oc27, od27, .func (PySem.W.fnOf "run_fault" "run_fault" (defArgs tRFault) (defBody tRFault) (defScope tRFault) .none kV27 dc27 pm27 an27 cd27 ct27), sl27⟩)
      (q27 : PySem.W.codeIn K cd27 "run_fault" = true) (k27 : PySem.W.keepIn K (.ref f27) = true)
    (a28 : PySem.W.nsIn K mainGlobals "run_name" = some (some (.ref f28))) (l28 : K.lookup f28 = some ⟨oc28, od28, .func (PySem.W.fnOf "run_name" "run_name" (defArgs tRName) (defBody tRName) (defScope tRName) .none kV28 dc28 pm28 an28 cd28 ct28), sl28⟩)
      (q28 : PySem.W.codeIn K cd28 "run_name" = true) (k28 : PySem.W.keepIn K (.ref f28) = true)
    (a29 : PySem.W.nsIn K mainGlobals "run_fun" = some (some (.ref f29))) (l29 : K.lookup f29 = some ⟨oc29, od29, .func (PySem.W.fnOf "run_fun" "run_fun" (defArgs tRFun) (defBody tRFun) (defScope tRFun) .none kV29 dc29 pm29 an29 cd29 ct29), sl29⟩)
      (q29 : PySem.W.codeIn K cd29 "run_fun" = true) (k29 : PySem.W.keepIn K (.ref f29) = true)
    (a30 : PySem.W.nsIn K mainGlobals "run_plus" = some (some (.ref f30))) (l30 : K.lookup f30 = some ⟨oc30, od30, .func (PySem.W.fnOf "run_plus" "run_plus" (defArgs tRPlus) (defBody tRPlus) (defScope tRPlus) .none kV30 dc30 pm30 an30 cd30 ct30), sl30⟩)
      (q30 : PySem.W.codeIn K cd30 "run_plus" = true) (k30 : PySem.W.keepIn K (.ref f30) = true)
    (a31 : PySem.W.nsIn K mainGlobals "run_less" = some (some (.ref f31))) (l31 : K.lookup f31 = some ⟨oc31, od31, .func (PySem.W.fnOf "run_less" "run_less" (defArgs tRLess) (defBody tRLess) (defScope tRLess) .none kV31 dc31 pm31 an31 cd31 ct31), sl31⟩)
      (q31 : PySem.W.codeIn K cd31 "run_less" = true) (k31 : PySem.W.keepIn K (.ref f31) = true)
    (a32 : PySem.W.nsIn K mainGlobals "run_pair" = some (some (.ref f32))) (l32 : K.lookup f32 = some ⟨oc32, od32, .func (PySem.W.fnOf "run_pair" "run_pair" (defArgs tRPair) (defBody tRPair) (defScope tRPair) .none kV32 dc32 pm32 an32 cd32 ct32), sl32⟩)
      (q32 : PySem.W.codeIn K cd32 "run_pair" = true) (k32 : PySem.W.keepIn K (.ref f32) = true)
    (a33 : PySem.W.nsIn K mainGlobals "run_more" = some (some (.ref f33))) (l33 : K.lookup f33 = some ⟨oc33, od33, .func (PySem.W.fnOf "run_more" "run_more" (defArgs tRMore) (defBody tRMore) (defScope tRMore) .none kV33 dc33 pm33 an33 cd33 ct33), sl33⟩)
      (q33 : PySem.W.codeIn K cd33 "run_more" = true) (k33 : PySem.W.keepIn K (.ref f33) = true)
    (a34 : PySem.W.nsIn K mainGlobals "run_call" = some (some (.ref f34))) (l34 : K.lookup f34 = some ⟨oc34, od34, .func (PySem.W.fnOf "run_call" "run_call" (defArgs tRCall) (defBody tRCall) (defScope tRCall) .none kV34 dc34 pm34 an34 cd34 ct34), sl34⟩)
      (q34 : PySem.W.codeIn K cd34 "run_call" = true) (k34 : PySem.W.keepIn K (.ref f34) = true)
    (a35 : PySem.W.nsIn K mainGlobals "run_if" = some (some (.ref f35))) (l35 : K.lookup f35 = some ⟨oc35, od35, .func (PySem.W.fnOf "run_if" "run_if" (defArgs tRIf) (defBody tRIf) (defScope tRIf) .none kV35 dc35 pm35 an35 cd35 ct35), sl35⟩)
      (q35 : PySem.W.codeIn K cd35 "run_if" = true) (k35 : PySem.W.keepIn K (.ref f35) = true)
    (a36 : PySem.W.nsIn K mainGlobals "run_first" = some (some (.ref f36))) (l36 : K.lookup f36 = some ⟨oc36, od36, .func (PySem.W.fnOf "run_first" "run_first" (defArgs tRFst) (defBody tRFst) (defScope tRFst) .none kV36 dc36 pm36 an36 cd36 ct36), sl36⟩)
      (q36 : PySem.W.codeIn K cd36 "run_first" = true) (k36 : PySem.W.keepIn K (.ref f36) = true)
    (a37 : PySem.W.nsIn K mainGlobals "run_second" = some (some (.ref f37))) (l37 : K.lookup f37 = some ⟨oc37, od37, .func (PySem.W.fnOf "run_second" "run_second" (defArgs tRSnd) (defBody tRSnd) (defScope tRSnd) .none kV37 dc37 pm37 an37 cd37 ct37), sl37⟩)
      (q37 : PySem.W.codeIn K cd37 "run_second" = true) (k37 : PySem.W.keepIn K (.ref f37) = true)
    (a38 : PySem.W.nsIn K mainGlobals "run_left" = some (some (.ref f38))) (l38 : K.lookup f38 = some ⟨oc38, od38, .func (PySem.W.fnOf "run_left" "run_left" (defArgs tRLeft) (defBody tRLeft) (defScope tRLeft) .none kV38 dc38 pm38 an38 cd38 ct38), sl38⟩)
      (q38 : PySem.W.codeIn K cd38 "run_left" = true) (k38 : PySem.W.keepIn K (.ref f38) = true)
    (a39 : PySem.W.nsIn K mainGlobals "run_right" = some (some (.ref f39))) (l39 : K.lookup f39 = some ⟨oc39, od39, .func (PySem.W.fnOf "run_right" "run_right" (defArgs tRRight) (defBody tRRight) (defScope tRRight) .none kV39 dc39 pm39 an39 cd39 ct39), sl39⟩)
      (q39 : PySem.W.codeIn K cd39 "run_right" = true) (k39 : PySem.W.keepIn K (.ref f39) = true)
    (a40 : PySem.W.nsIn K mainGlobals "run_case" = some (some (.ref f40))) (l40 : K.lookup f40 = some ⟨oc40, od40, .func (PySem.W.fnOf "run_case" "run_case" (defArgs tRCase) (defBody tRCase) (defScope tRCase) .none kV40 dc40 pm40 an40 cd40 ct40), sl40⟩)
      (q40 : PySem.W.codeIn K cd40 "run_case" = true) (k40 : PySem.W.keepIn K (.ref f40) = true)
    (a41 : PySem.W.nsIn K mainGlobals "run_fold" = some (some (.ref f41))) (l41 : K.lookup f41 = some ⟨oc41, od41, .func (PySem.W.fnOf "run_fold" "run_fold" (defArgs tRFold) (defBody tRFold) (defScope tRFold) .none kV41 dc41 pm41 an41 cd41 ct41), sl41⟩)
      (q41 : PySem.W.codeIn K cd41 "run_fold" = true) (k41 : PySem.W.keepIn K (.ref f41) = true)
    (a42 : PySem.W.nsIn K mainGlobals "run_built" = some (some (.ref f42))) (l42 : K.lookup f42 = some ⟨oc42, od42, .func (PySem.W.fnOf "run_built" "run_built" (defArgs tRBuilt) (defBody tRBuilt) (defScope tRBuilt) .none kV42 dc42 pm42 an42 cd42 ct42), sl42⟩)
      (q42 : PySem.W.codeIn K cd42 "run_built" = true) (k42 : PySem.W.keepIn K (.ref f42) = true)
    (a43 : PySem.W.nsIn K mainGlobals "run_rounds" = some (some (.ref f43))) (l43 : K.lookup f43 = some ⟨oc43, od43, .func (PySem.W.fnOf "run_rounds" "run_rounds" (defArgs tRRounds) (defBody tRRounds) (defScope tRRounds) .none kV43 dc43 pm43 an43 cd43 ct43), sl43⟩)
      (q43 : PySem.W.codeIn K cd43 "run_rounds" = true) (k43 : PySem.W.keepIn K (.ref f43) = true)
    (a44 : PySem.W.nsIn K mainGlobals "_law_deck" = some (some (.ref f44))) (l44 : K.lookup f44 = some ⟨oc44, od44, .func (PySem.W.fnOf "_law_deck" "_law_deck" (defArgs tDeck) (defBody tDeck) (defScope tDeck) .none kV44 dc44 pm44 an44 cd44 ct44), sl44⟩)
      (q44 : PySem.W.codeIn K cd44 "_law_deck" = true) (k44 : PySem.W.keepIn K (.ref f44) = true)
    (a45 : PySem.W.nsIn K mainGlobals "_law_draw" = some (some (.ref f45))) (l45 : K.lookup f45 = some ⟨oc45, od45, .func (PySem.W.fnOf "_law_draw" "_law_draw" (defArgs tDraw) (defBody tDraw) (defScope tDraw) .none kV45 dc45 pm45 an45 cd45 ct45), sl45⟩)
      (q45 : PySem.W.codeIn K cd45 "_law_draw" = true) (k45 : PySem.W.keepIn K (.ref f45) = true)
    (a46 : PySem.W.nsIn K mainGlobals "_law_pick" = some (some (.ref f46))) (l46 : K.lookup f46 = some ⟨oc46, od46, .func (PySem.W.fnOf "_law_pick" "_law_pick" (defArgs tPick) (defBody tPick) (defScope tPick) .none kV46 dc46 pm46 an46 cd46 ct46), sl46⟩)
      (q46 : PySem.W.codeIn K cd46 "_law_pick" = true) (k46 : PySem.W.keepIn K (.ref f46) = true)
    (a47 : PySem.W.nsIn K mainGlobals "_law_names" = some (some (.ref f47))) (l47 : K.lookup f47 = some ⟨oc47, od47, .func (PySem.W.fnOf "_law_names" "_law_names" (defArgs tNames) (defBody tNames) (defScope tNames) .none kV47 dc47 pm47 an47 cd47 ct47), sl47⟩)
      (q47 : PySem.W.codeIn K cd47 "_law_names" = true) (k47 : PySem.W.keepIn K (.ref f47) = true)
    (a48 : PySem.W.nsIn K mainGlobals "_law_number" = some (some (.ref f48))) (l48 : K.lookup f48 = some ⟨oc48, od48, .func (PySem.W.fnOf "_law_number" "_law_number" (defArgs tNum) (defBody tNum) (defScope tNum) .none kV48 dc48 pm48 an48 cd48 ct48), sl48⟩)
      (q48 : PySem.W.codeIn K cd48 "_law_number" = true) (k48 : PySem.W.keepIn K (.ref f48) = true)
    (a49 : PySem.W.nsIn K mainGlobals "_law_rounds" = some (some (.ref f49))) (l49 : K.lookup f49 = some ⟨oc49, od49, .func (PySem.W.fnOf "_law_rounds" "_law_rounds" (defArgs tRounds) (defBody tRounds) (defScope tRounds) .none kV49 dc49 pm49 an49 cd49 ct49), sl49⟩)
      (q49 : PySem.W.codeIn K cd49 "_law_rounds" = true) (k49 : PySem.W.keepIn K (.ref f49) = true)
    (a50 : PySem.W.nsIn K mainGlobals "_law_drawn" = some (some (.ref f50))) (l50 : K.lookup f50 = some ⟨oc50, od50, .func (PySem.W.fnOf "_law_drawn" "_law_drawn" (defArgs tDrawn) (defBody tDrawn) (defScope tDrawn) .none kV50 dc50 pm50 an50 cd50 ct50), sl50⟩)
      (q50 : PySem.W.codeIn K cd50 "_law_drawn" = true) (k50 : PySem.W.keepIn K (.ref f50) = true)
    (a51 : PySem.W.nsIn K mainGlobals "_law_went" = some (some (.ref f51))) (l51 : K.lookup f51 = some ⟨oc51, od51, .func (PySem.W.fnOf "_law_went" "_law_went" (defArgs tWent) (defBody tWent) (defScope tWent) .none kV51 dc51 pm51 an51 cd51 ct51), sl51⟩)
      (q51 : PySem.W.codeIn K cd51 "_law_went" = true) (k51 : PySem.W.keepIn K (.ref f51) = true)
    (a52 : PySem.W.nsIn K mainGlobals "_law_called_otherwise" = some (some (.ref f52))) (l52 : K.lookup f52 = some ⟨oc52, od52, .func (PySem.W.fnOf "_law_called_otherwise" "_law_called_otherwise" (defArgs tOther) (defBody tOther) (defScope tOther) .none kV52 dc52 pm52 an52 cd52 ct52), sl52⟩)
      (q52 : PySem.W.codeIn K cd52 "_law_called_otherwise" = true) (k52 : PySem.W.keepIn K (.ref f52) = true)
    (a53 : PySem.W.nsIn K mainGlobals "_law_small_enough" = some (some (.ref f53))) (l53 : K.lookup f53 = some ⟨oc53, od53, .func (PySem.W.fnOf "_law_small_enough" "_law_small_enough" (defArgs tSmall) (defBody tSmall) (defScope tSmall) .none kV53 dc53 pm53 an53 cd53 ct53), sl53⟩)
      (q53 : PySem.W.codeIn K cd53 "_law_small_enough" = true) (k53 : PySem.W.keepIn K (.ref f53) = true)
    (a54 : PySem.W.nsIn K mainGlobals "law" = some (some (.ref f54))) (l54 : K.lookup f54 = some ⟨oc54, od54, .func (PySem.W.fnOf "law" "law" (defArgs tLaw) (defBody tLaw) (defScope tLaw) .none kV54 dc54 pm54 an54 cd54 ct54), sl54⟩)
      (q54 : PySem.W.codeIn K cd54 "law" = true) (k54 : PySem.W.keepIn K (.ref f54) = true)
    (a_1 : PySem.W.findIn K (.ref C) "__init__" = some (some (.ref g1))) (i_1 : PySem.W.isFn K (.ref g1) = true) (l_1 : K.lookup g1 = some ⟨oc_1, od_1, .func (PySem.W.fnOf "__init__" "Steps.__init__" (defArgs tSInit) (defBody tSInit) (defScope tSInit) .none kV_1 dc_1 pm_1 an_1 cd_1 ct_1), sl_1⟩) (q_1 : PySem.W.codeIn K cd_1 "Steps.__init__" = true) (k_1 : PySem.W.keepIn K (.ref g1) = true)
    (a_2 : PySem.W.findIn K (.ref C) "take" = some (some (.ref g2))) (i_2 : PySem.W.isFn K (.ref g2) = true) (l_2 : K.lookup g2 = some ⟨oc_2, od_2, .func (PySem.W.fnOf "take" "Steps.take" (defArgs tTake) (defBody tTake) (defScope tTake) .none kV_2 dc_2 pm_2 an_2 cd_2 ct_2), sl_2⟩) (q_2 : PySem.W.codeIn K cd_2 "Steps.take" = true) (k_2 : PySem.W.keepIn K (.ref g2) = true)
    (aC : PySem.W.nsIn K mainGlobals "Steps" = some (some (.ref C))) (pg : PySem.W.plainGet K C Str.empty = true) (hd : PySem.W.hasDictIn K C = true) (po : PySem.W.plainOver K C = true) (sa : PySem.W.findIn K (.ref C) "__setattr__" = some (some (.builtin "object.__setattr__"))) (mk : PySem.W.makesIn K C = true) (kc : PySem.W.keepIn K (.ref C) = true) (nT : PySem.W.findIn K (.ref C) "taken" = some none)
    (aXF : PySem.W.nsIn K mainGlobals "Faulted" = some (some (.ref cF))) (xPF : PySem.W.excIn K cF [.type "Exception", .type "BaseException", .type "object"] "Exception.__new__" = true) (kXF : PySem.W.keepIn K (.ref cF) = true) (bXF : PySem.W.subIn K (.ref cF) (.type "BaseException") = some true) (tXF : PySem.W.typeIn K (.ref cF) = some (.type "type"))
    (aXM : PySem.W.nsIn K mainGlobals "TooMuch" = some (some (.ref cM))) (xPM : PySem.W.excIn K cM [.type "ValueError", .type "Exception", .type "BaseException", .type "object"] "ValueError.__new__" = true) (kXM : PySem.W.keepIn K (.ref cM) = true) (bXM : PySem.W.subIn K (.ref cM) (.type "BaseException") = some true) (tXM : PySem.W.typeIn K (.ref cM) = some (.type "type"))
    (iXF : PySem.W.isClsIn K cF = true) (sFF : PySem.W.subIn K (.ref cF) (.ref cF) = some true) (sMF : PySem.W.subIn K (.ref cM) (.ref cF) = some false)
    (adR : PySem.W.nsIn K mainGlobals "RULES" = some (some (.ref dR))) (ldR : K.lookup dR = some ⟨.type "dict", none, .dict esR nR, #[]⟩) (tdR : PySem.W.KeysLit w.params esR.toList) (sdR : (dR == sysModules) = false)
    (adC : PySem.W.nsIn K mainGlobals "CALLS" = some (some (.ref dC))) (ldC : K.lookup dC = some ⟨.type "dict", none, .dict esC nC, #[]⟩) (tdC : PySem.W.KeysLit w.params esC.toList) (sdC : (dC == sysModules) = false)
    (kR : KeysAre esR.toList [("name", .ref f28), ("fun", .ref f29), ("call", .ref f34), ("num", .ref f24), ("plus", .ref f30), ("less", .ref f31), ("truth", .ref f25), ("if", .ref f35), ("pair", .ref f32), ("first", .ref f36), ("second", .ref f37), ("left", .ref f38), ("right", .ref f39), ("case", .ref f40), ("none", .ref f26), ("more", .ref f33), ("fold", .ref f41), ("built", .ref f42), ("alike", w_alike), ("fault", .ref f27), ("rounds", .ref f43)])
    (kC : KeysAre esC.toList [("closure", .ref f21), ("table", y_table), ("maker", y_maker), ("making", y_making), ("putter", .ref f22), ("putting", .ref f23)])
    (aM : PySem.W.nsIn K mainGlobals "MOST_STEPS" = some (some uS)) (rM : RelV (.int 1000) uS) (aGr : PySem.W.nsIn K mainGlobals "GREATEST" = some (some uG)) (rGr : RelV (.int GR) uG) (aPa : PySem.W.nsIn K mainGlobals "MOST_PARTS" = some (some uP)) (rPa : RelV (.int 200) uP)
    (aN : PySem.W.nsIn K mainGlobals "NO_ITEMS" = some (some (.ref oN))) (lN : K.lookup oN = some ⟨.type "tuple", dN, .seq iN nN, slN⟩) (vN : iN.size ≤ sizeLine ∧ Vals [V.str "none", .int 1] iN.toList)
    (aP : PySem.W.nsIn K mainGlobals "PUTTER" = some (some (.ref oP))) (lP : K.lookup oP = some ⟨.type "tuple", dP, .seq iP nP, slP⟩) (vP : iP.size ≤ sizeLine ∧ Vals [V.str "putter"] iP.toList)
    (s1 : PySem.W.nsOkIn K cStatics = true) (s2 : PySem.W.nsIn K cStatics "sys.int_max_str_digits" = some none)
    (z1 : PySem.W.nsIn K mainGlobals "isinstance" = some none) (z2 : PySem.W.nsIn K mainGlobals "tuple" = some none) (z3 : PySem.W.nsIn K mainGlobals "sum" = some none) (z4 : PySem.W.nsIn K mainGlobals "reversed" = some none) (z5 : PySem.W.nsIn K mainGlobals "len" = some none) (z6 : PySem.W.nsIn K mainGlobals "range" = some none) (z7 : PySem.W.nsIn K mainGlobals "max" = some none) (z8 : PySem.W.nsIn K mainGlobals "min" = some none) (z9 : PySem.W.nsIn K mainGlobals "list" = some none) (z10 : PySem.W.nsIn K mainGlobals "repr" = some none) (z11 : PySem.W.nsIn K mainGlobals "int" = some none) (z12 : PySem.W.nsIn K mainGlobals "dict" = some none) (z13 : PySem.W.nsIn K mainGlobals "zip" = some none) (z14 : PySem.W.nsIn K mainGlobals "str" = some none) :
    LawG l w K CX0 215 63 "_law_script" mg fa h := by
  have e := hfa.symm.trans (PySem.W.mg_of X G a54)
  cases e
  have F1 := fun_mk (st := tNums) l1 q1 k1
  have b1 := F1.binds (ps := ["number"]) fun _ _ _ _ _ _ us hl => match us, hl with | [_], _ => rfl
  have g_1 := PySem.W.mg_of X G a1
  have F2 := fun_mk (st := tParts) l2 q2 k2
  have b2 := F2.binds (ps := ["many"]) fun _ _ _ _ _ _ us hl => match us, hl with | [_], _ => rfl
  have g_2 := PySem.W.mg_of X G a2
  have F3 := fun_mk (st := tWW) l3 q3 k3
  have b3 := F3.binds (ps := ["worth"]) fun _ _ _ _ _ _ us hl => match us, hl with | [_], _ => rfl
  have g_3 := PySem.W.mg_of X G a3
  have F4 := fun_mk (st := tPIn) l4 q4 k4
  have b4 := F4.binds (ps := ["worth"]) fun _ _ _ _ _ _ us hl => match us, hl with | [_], _ => rfl
  have g_4 := PySem.W.mg_of X G a4
  have F5 := fun_mk (st := tItems) l5 q5 k5
  have b5 := F5.binds (ps := ["worth"]) fun _ _ _ _ _ _ us hl => match us, hl with | [_], _ => rfl
  have g_5 := PySem.W.mg_of X G a5
  have F6 := fun_mk (st := tTaken) l6 q6 k6
  have b6 := F6.binds (ps := ["worth"]) fun _ _ _ _ _ _ us hl => match us, hl with | [_], _ => rfl
  have g_6 := PySem.W.mg_of X G a6
  have F7 := fun_mk (st := tHeld) l7 q7 k7
  have b7 := F7.binds (ps := ["worth", "inner"]) fun _ _ _ _ _ _ us hl => match us, hl with | [_, _], _ => rfl
  have g_7 := PySem.W.mg_of X G a7
  have F8 := fun_mk (st := tGiven) l8 q8 k8
  have b8 := F8.binds (ps := ["worth"]) fun _ _ _ _ _ _ us hl => match us, hl with | [_], _ => rfl
  have g_8 := PySem.W.mg_of X G a8
  have F9 := fun_mk (st := tHW) l9 q9 k9
  have b9 := F9.binds (ps := ["worth"]) fun _ _ _ _ _ _ us hl => match us, hl with | [_], _ => rfl
  have g_9 := PySem.W.mg_of X G a9
  have F10 := fun_mk (st := tRel) l10 q10 k10
  have b10 := F10.binds (ps := ["worth", "inner"]) fun _ _ _ _ _ _ us hl => match us, hl with | [_, _], _ => rfl
  have g_10 := PySem.W.mg_of X G a10
  have F11 := fun_mk (st := tReb) l11 q11 k11
  have b11 := F11.binds (ps := ["worth", "within", "joined"]) fun _ _ _ _ _ _ us hl => match us, hl with | [_, _, _], _ => rfl
  have g_11 := PySem.W.mg_of X G a11
  have F12 := fun_mk (st := tMkPair) l12 q12 k12
  have b12 := F12.binds (ps := ["one", "other"]) fun _ _ _ _ _ _ us hl => match us, hl with | [_, _], _ => rfl
  have g_12 := PySem.W.mg_of X G a12
  have F13 := fun_mk (st := tMkSide) l13 q13 k13
  have b13 := F13.binds (ps := ["side", "worth"]) fun _ _ _ _ _ _ us hl => match us, hl with | [_, _], _ => rfl
  have g_13 := PySem.W.mg_of X G a13
  have F14 := fun_mk (st := tMkList) l14 q14 k14
  have b14 := F14.binds (ps := ["item", "rest"]) fun _ _ _ _ _ _ us hl => match us, hl with | [_, _], _ => rfl
  have g_14 := PySem.W.mg_of X G a14
  have F15 := fun_mk (st := tPutOn) l15 q15 k15
  have b15 := F15.binds (ps := ["item", "rest", "steps"]) fun _ _ _ _ _ _ us hl => match us, hl with | [_, _, _], _ => rfl
  have g_15 := PySem.W.mg_of X G a15
  have F16 := fun_mk (st := tRun) l16 q16 k16
  have b16 := F16.binds (ps := ["term", "args"]) fun _ _ _ _ _ _ us hl => match us, hl with | [_, _], _ => rfl
  have g_16 := PySem.W.mg_of X G a16
  have F17 := fun_mk (st := tHand) l17 q17 k17
  have b17 := F17.binds (ps := psHand) fun _ _ _ _ _ _ us hl => match us, hl with | [_, _, _], _ => rfl
  have g_17 := PySem.W.mg_of X G a17
  have F18 := fun_mk (st := tWA) l18 q18 k18
  have b18 := F18.binds (ps := psR) fun _ _ _ _ _ _ us hl => match us, hl with | [_, _, _], _ => rfl
  have g_18 := PySem.W.mg_of X G a18
  have F19 := fun_mk (st := tBoth) l19 q19 k19
  have b19 := F19.binds (ps := psR) fun _ _ _ _ _ _ us hl => match us, hl with | [_, _, _], _ => rfl
  have g_19 := PySem.W.mg_of X G a19
  have F20 := fun_mk (st := tCalled) l20 q20 k20
  have b20 := F20.binds (ps := psF) fun _ _ _ _ _ _ us hl => match us, hl with | [_, _, _], _ => rfl
  have g_20 := PySem.W.mg_of X G a20
  have F21 := fun_mk (st := tClo) l21 q21 k21
  have b21 := F21.binds (ps := psF) fun _ _ _ _ _ _ us hl => match us, hl with | [_, _, _], _ => rfl
  have g_21 := PySem.W.mg_of X G a21
  have F22 := fun_mk (st := tCPutter) l22 q22 k22
  have b22 := F22.binds (ps := psF) fun _ _ _ _ _ _ us hl => match us, hl with | [_, _, _], _ => rfl
  have g_22 := PySem.W.mg_of X G a22
  have F23 := fun_mk (st := tCPutting) l23 q23 k23
  have b23 := F23.binds (ps := psF) fun _ _ _ _ _ _ us hl => match us, hl with | [_, _, _], _ => rfl
  have g_23 := PySem.W.mg_of X G a23
  have F24 := fun_mk (st := tRNum) l24 q24 k24
  have b24 := F24.binds (ps := psR) fun _ _ _ _ _ _ us hl => match us, hl with | [_, _, _], _ => rfl
  have g_24 := PySem.W.mg_of X G a24
  have F25 := fun_mk (st := tRTruth) l25 q25 k25
  have b25 := F25.binds (ps := psR) fun _ _ _ _ _ _ us hl => match us, hl with | [_, _, _], _ => rfl
  have g_25 := PySem.W.mg_of X G a25
  have F26 := fun_mk (st := tRNone) l26 q26 k26
  have b26 := F26.binds (ps := psR) fun _ _ _ _ _ _ us hl => match us, hl with | [_, _, _], _ => rfl
  have g_26 := PySem.W.mg_of X G a26
  have F27 := fun_mk (st := tRFault) l27 q27 k27
  have b27 := F27.binds (ps := psR) fun _ _ _ _ _ _ us hl => match us, hl with | [_, _, _], _ => rfl
  have g_27 := PySem.W.mg_of X G a27
  have F28 := fun_mk (st := tRName) l28 q28 k28
  have b28 := F28.binds (ps := psR) fun _ _ _ _ _ _ us hl => match us, hl with | [_, _, _], _ => rfl
  have g_28 := PySem.W.mg_of X G a28
  have F29 := fun_mk (st := tRFun) l29 q29 k29
  have b29 := F29.binds (ps := psR) fun _ _ _ _ _ _ us hl => match us, hl with | [_, _, _], _ => rfl
  have g_29 := PySem.W.mg_of X G a29
  have F30 := fun_mk (st := tRPlus) l30 q30 k30
  have b30 := F30.binds (ps := psR) fun _ _ _ _ _ _ us hl => match us, hl with | [_, _, _], _ => rfl
  have g_30 := PySem.W.mg_of X G a30
  have F31 := fun_mk (st := tRLess) l31 q31 k31
  have b31 := F31.binds (ps := psR) fun _ _ _ _ _ _ us hl => match us, hl with | [_, _, _], _ => rfl
  have g_31 := PySem.W.mg_of X G a31
  have F32 := fun_mk (st := tRPair) l32 q32 k32
  have b32 := F32.binds (ps := psR) fun _ _ _ _ _ _ us hl => match us, hl with | [_, _, _], _ => rfl
  have g_32 := PySem.W.mg_of X G a32
  have F33 := fun_mk (st := tRMore) l33 q33 k33
  have b33 := F33.binds (ps := psR) fun _ _ _ _ _ _ us hl => match us, hl with | [_, _, _], _ => rfl
  have g_33 := PySem.W.mg_of X G a33
  have F34 := fun_mk (st := tRCall) l34 q34 k34
  have b34 := F34.binds (ps := psR) fun _ _ _ _ _ _ us hl => match us, hl with | [_, _, _], _ => rfl
  have g_34 := PySem.W.mg_of X G a34
  have F35 := fun_mk (st := tRIf) l35 q35 k35
  have b35 := F35.binds (ps := psR) fun _ _ _ _ _ _ us hl => match us, hl with | [_, _, _], _ => rfl
  have g_35 := PySem.W.mg_of X G a35
  have F36 := fun_mk (st := tRFst) l36 q36 k36
  have b36 := F36.binds (ps := psR) fun _ _ _ _ _ _ us hl => match us, hl with | [_, _, _], _ => rfl
  have g_36 := PySem.W.mg_of X G a36
  have F37 := fun_mk (st := tRSnd) l37 q37 k37
  have b37 := F37.binds (ps := psR) fun _ _ _ _ _ _ us hl => match us, hl with | [_, _, _], _ => rfl
  have g_37 := PySem.W.mg_of X G a37
  have F38 := fun_mk (st := tRLeft) l38 q38 k38
  have b38 := F38.binds (ps := psR) fun _ _ _ _ _ _ us hl => match us, hl with | [_, _, _], _ => rfl
  have g_38 := PySem.W.mg_of X G a38
  have F39 := fun_mk (st := tRRight) l39 q39 k39
  have b39 := F39.binds (ps := psR) fun _ _ _ _ _ _ us hl => match us, hl with | [_, _, _], _ => rfl
  have g_39 := PySem.W.mg_of X G a39
  have F40 := fun_mk (st := tRCase) l40 q40 k40
  have b40 := F40.binds (ps := psR) fun _ _ _ _ _ _ us hl => match us, hl with | [_, _, _], _ => rfl
  have g_40 := PySem.W.mg_of X G a40
  have F41 := fun_mk (st := tRFold) l41 q41 k41
  have b41 := F41.binds (ps := psR) fun _ _ _ _ _ _ us hl => match us, hl with | [_, _, _], _ => rfl
  have g_41 := PySem.W.mg_of X G a41
  have F42 := fun_mk (st := tRBuilt) l42 q42 k42
  have b42 := F42.binds (ps := psR) fun _ _ _ _ _ _ us hl => match us, hl with | [_, _, _], _ => rfl
  have g_42 := PySem.W.mg_of X G a42
  have F43 := fun_mk (st := tRRounds) l43 q43 k43
  have b43 := F43.binds (ps := psR) fun _ _ _ _ _ _ us hl => match us, hl with | [_, _, _], _ => rfl
  have g_43 := PySem.W.mg_of X G a43
  have F44 := fun_mk (st := tDeck) l44 q44 k44
  have b44 := F44.binds (ps := ["_law_script"]) fun _ _ _ _ _ _ us hl => match us, hl with | [_], _ => rfl
  have g_44 := PySem.W.mg_of X G a44
  have F45 := fun_mk (st := tDraw) l45 q45 k45
  have b45 := F45.binds (ps := ["_law_deck_here", "_law_most"]) fun _ _ _ _ _ _ us hl => match us, hl with | [_, _], _ => rfl
  have g_45 := PySem.W.mg_of X G a45
  have F46 := fun_mk (st := tPick) l46 q46 k46
  have b46 := F46.binds (ps := psPick) fun _ _ _ _ _ _ us hl => match us, hl with | [_, _], _ => rfl
  have g_46 := PySem.W.mg_of X G a46
  have F47 := fun_mk (st := tNames) l47 q47 k47
  have b47 := F47.binds (ps := psNames) fun _ _ _ _ _ _ us hl => match us, hl with | [_, _], _ => rfl
  have g_47 := PySem.W.mg_of X G a47
  have F48 := fun_mk (st := tNum) l48 q48 k48
  have b48 := F48.binds (ps := psNum) fun _ _ _ _ _ _ us hl => match us, hl with | [_], _ => rfl
  have g_48 := PySem.W.mg_of X G a48
  have F49 := fun_mk (st := tRounds) l49 q49 k49
  have b49 := F49.binds (ps := psRounds) fun _ _ _ _ _ _ us hl => match us, hl with | [_, _, _, _], _ => rfl
  have g_49 := PySem.W.mg_of X G a49
  have F50 := fun_mk (st := tDrawn) l50 q50 k50
  have b50 := F50.binds (ps := psDrawn) fun _ _ _ _ _ _ us hl => match us, hl with | [_, _, _], _ => rfl
  have g_50 := PySem.W.mg_of X G a50
  have F51 := fun_mk (st := tWent) l51 q51 k51
  have b51 := F51.binds (ps := psWent) fun _ _ _ _ _ _ us hl => match us, hl with | [_, _, _], _ => rfl
  have g_51 := PySem.W.mg_of X G a51
  have F52 := fun_mk (st := tOther) l52 q52 k52
  have b52 := F52.binds (ps := psOther) fun _ _ _ _ _ _ us hl => match us, hl with | [_, _], _ => rfl
  have g_52 := PySem.W.mg_of X G a52
  have F53 := fun_mk (st := tSmall) l53 q53 k53
  have b53 := F53.binds (ps := psSmall) fun _ _ _ _ _ _ us hl => match us, hl with | [_], _ => rfl
  have g_53 := PySem.W.mg_of X G a53
  have F54 := fun_mk (st := tLaw) l54 q54 k54
  have FI := fun_mk (st := tSInit) l_1 q_1 k_1
  have FT := fun_mk (st := tTake) l_2 q_2 k_2
  have bI := FI.binds (ps := ["self"]) fun _ _ _ _ _ _ us hl => match us, hl with | [_], _ => rfl
  have bT := FT.binds (ps := ["self"]) fun _ _ _ _ _ _ us hl => match us, hl with | [_], _ => rfl
  have m_isinstance := PySem.W.mg_none_of X G z1
  have m_tuple := PySem.W.mg_none_of X G z2
  have m_sum := PySem.W.mg_none_of X G z3
  have m_reversed := PySem.W.mg_none_of X G z4
  have m_len := PySem.W.mg_none_of X G z5
  have m_range := PySem.W.mg_none_of X G z6
  have m_max := PySem.W.mg_none_of X G z7
  have m_min := PySem.W.mg_none_of X G z8
  have m_list := PySem.W.mg_none_of X G z9
  have m_repr := PySem.W.mg_none_of X G z10
  have m_int := PySem.W.mg_none_of X G z11
  have m_dict := PySem.W.mg_none_of X G z12
  have m_zip := PySem.W.mg_none_of X G z13
  have m_str := PySem.W.mg_none_of X G z14
  have R : RF K w mg oN oP C cF cM dR dC g1 g2 := ⟨⟨PySem.W.mg_of X G aN, fun H => .inr ⟨_, iN, nN, lN, rfl, rfl, vN.1, vN.2⟩, ⟨_, lN, rfl⟩⟩, ⟨PySem.W.mg_of X G aP, fun H => .inr ⟨_, iP, nP, lP, rfl, rfl, vP.1, vP.2⟩⟩, ⟨⟨pg, hd, po, sa⟩, nT, PySem.W.mg_of X G aC⟩, ⟨PySem.W.mg_of X G aXF, xPF, kXF, bXF, tXF⟩, ⟨PySem.W.mg_of X G aXM, xPM, kXM, bXM, tXM⟩,
    exm_cl bXF iXF tXF sFF, exm_cl bXF iXF tXF sMF, ⟨mk, a_1, i_1, kc⟩, ⟨a_2, i_2, k_2⟩, ⟨_, FI, bI⟩, ⟨_, FT, bT⟩, ⟨_, _, ldR, tdR, sdR⟩, ⟨_, _, ldC, tdC, sdC⟩, PySem.W.mg_of X G adR, PySem.W.mg_of X G adC, ⟨_, PySem.W.mg_of X G aM, rM⟩, ⟨_, PySem.W.mg_of X G aGr, rGr⟩, ⟨_, PySem.W.mg_of X G aPa, rPa⟩,
    ⟨_, _, F1, b1, g_1⟩, ⟨_, _, F2, b2, g_2⟩, ⟨_, _, F3, b3, g_3⟩, ⟨_, _, F4, b4, g_4⟩, ⟨_, _, F5, b5, g_5⟩, ⟨_, _, F6, b6, g_6⟩, ⟨_, _, F7, b7, g_7⟩, ⟨_, _, F8, b8, g_8⟩, ⟨_, _, F9, b9, g_9⟩, ⟨_, _, F10, b10, g_10⟩, ⟨_, _, F11, b11, g_11⟩, ⟨_, _, F12, b12, g_12⟩, ⟨_, _, F13, b13, g_13⟩, ⟨_, _, F14, b14, g_14⟩, ⟨_, _, F15, b15, g_15⟩, ⟨_, _, F16, b16, g_16⟩, ⟨_, _, F17, b17, g_17⟩, ⟨_, _, F18, b18, g_18⟩, ⟨_, _, F19, b19, g_19⟩, ⟨_, _, F20, b20, g_20⟩,
    ⟨_, _, F21, b21, (ns_keys ldC kC _).trans rfl⟩, ⟨_, _, F22, b22, (ns_keys ldC kC _).trans rfl⟩, ⟨_, _, F23, b23, (ns_keys ldC kC _).trans rfl⟩,
    ⟨_, _, F24, b24, (ns_keys ldR kR _).trans rfl⟩, ⟨_, _, F25, b25, (ns_keys ldR kR _).trans rfl⟩, ⟨_, _, F26, b26, (ns_keys ldR kR _).trans rfl⟩, ⟨_, _, F27, b27, (ns_keys ldR kR _).trans rfl⟩, ⟨_, _, F28, b28, (ns_keys ldR kR _).trans rfl⟩, ⟨_, _, F29, b29, (ns_keys ldR kR _).trans rfl⟩, ⟨_, _, F30, b30, (ns_keys ldR kR _).trans rfl⟩, ⟨_, _, F31, b31, (ns_keys ldR kR _).trans rfl⟩, ⟨_, _, F32, b32, (ns_keys ldR kR _).trans rfl⟩, ⟨_, _, F33, b33, (ns_keys ldR kR _).trans rfl⟩, ⟨_, _, F34, b34, (ns_keys ldR kR _).trans rfl⟩, ⟨_, _, F35, b35, (ns_keys ldR kR _).trans rfl⟩, ⟨_, _, F36, b36, (ns_keys ldR kR _).trans rfl⟩, ⟨_, _, F37, b37, (ns_keys ldR kR _).trans rfl⟩, ⟨_, _, F38, b38, (ns_keys ldR kR _).trans rfl⟩, ⟨_, _, F39, b39, (ns_keys ldR kR _).trans rfl⟩, ⟨_, _, F40, b40, (ns_keys ldR kR _).trans rfl⟩, ⟨_, _, F41, b41, (ns_keys ldR kR _).trans rfl⟩, ⟨_, _, F42, b42, (ns_keys ldR kR _).trans rfl⟩, ⟨_, _, F43, b43, (ns_keys ldR kR _).trans rfl⟩, m_isinstance, m_tuple, m_sum, m_reversed, m_len, m_range⟩
  refine ⟨PySem.W.fnOf "law" "law" (defArgs tLaw) (defBody tLaw) (defScope tLaw) .none kV54 dc54 pm54 an54 cd54 ct54, [], spLaw K, (fun p hp => by cases hp), fun s v => .of_eq rfl, fun H a ns hl _ hH hS => ⟨a, ns, rfl, hS, hl, fun _ => rfl⟩, fun base _ _ TB => ?_⟩
  have H_run : Okd l.prog w K mg base (L2.CX l.prog w) 204 "run" ["term", "args"] (spRunU K cM 49) := R.runU 49
  have H_draw : Okd l.prog w K mg base CX0 1 "_law_draw" ["_law_deck_here", "_law_most"] spDraw := ⟨_, _, okDraw (k := 0) F45, b45, g_45, F45.kp⟩
  have H_pick : Okd l.prog w K mg base CX0 2 "_law_pick" psPick spPick := ⟨_, _, okPick (k := 0) F46 (okDraw (k := 0) F45) b45 g_45 F45.kp m_len, b46, g_46, F46.kp⟩
  have H_deck : Okd l.prog w K mg base CX0 1 "_law_deck" ["_law_script"] (spDeck K) := ⟨_, _, okDeck (k := 0) F44 m_list m_reversed m_sum m_len, b44, g_44, F44.kp⟩
  have H_num : Okd l.prog w K mg base CX0 2 "_law_number" psNum spNum := ⟨_, _, okNum (k := 1) F48 (DD := H_draw), b48, g_48, F48.kp⟩
  have H_names : Okd l.prog w K mg base CX0 2 "_law_names" psNames spNames := ⟨_, _, okNames (k := 1) F47 (DD := H_draw) (m_len := m_len) (m_range := m_range), b47, g_47, F47.kp⟩
  have H_drawn := drawnAll ⟨_, _, F50, b50, g_50⟩ ⟨_, _, F49, b49, g_49⟩ (H_pick.up (by decide)) (H_draw.up (by decide)) (H_num.up (by decide)) m_dict 6
  have H_went := wentAll (P := l.prog) (w := w) (base := base) ⟨_, _, F51, b51, g_51⟩ m_int m_list m_max 49
  have H_other := otherAll (P := l.prog) (w := w) (base := base) ⟨_, _, F52, b52, g_52⟩ m_isinstance m_str m_tuple 40
  have H_small := smallAll (P := l.prog) (w := w) (base := base) ⟨_, _, F53, b53, g_53⟩ m_isinstance m_str m_tuple m_max m_sum 40
  exact (okLaw (k := 204) F54 (e1 := s1) (e2 := s2) (DR := H_run) (DO := Okd.up H_other (by decide)) (DV := Okd.up H_went (by decide)) (DW := Okd.up H_drawn (by decide)) (DE := Okd.up H_small (by decide)) (DM := Okd.up H_names (by decide)) (DD := Okd.up H_draw (by decide)) (DK := Okd.up H_deck (by decide)) (m_dict := m_dict) (m_len := m_len) (m_max := m_max) (m_min := m_min) (m_range := m_range) (m_repr := m_repr) (m_zip := m_zip)).up (by decide)
end Kq
open PySem PySem.W PyProof.Rows
set_option maxRecDepth 100000 in
set_option maxHeartbeats 0 in
theorem PySem.Challenge.cw_kindalone_k29_names_as_they_are_bound_holds : PySem.Challenge.rw_kindalone_k29_names_as_they_are_bound.Holds := by
  w_on; o_law; k_head; (case hw => w_witness2)
  k_fill
  refine Kf.walk_ofG (l := PySem.Challenge.rw_kindalone_k29_names_as_they_are_bound) (n := 63) (k := 215) (x := "_law_script") (CX := fun _ => L2.CX0) rfl (by decide) rfl ⟨rfl, by decide, by decide⟩ (fun w h Y => PySem.W.kIn_of Y) ?F (fun _ _ _ _ _ h => h)
  case F =>
    intro w mg fa h Y KX G hmg tabs
    refine' Kq.all_mk KX G hmg ?a1 ?l1 ?q1 ?k1 ?a2 ?l2 ?q2 ?k2 ?a3 ?l3 ?q3 ?k3 ?a4 ?l4 ?q4 ?k4 ?a5 ?l5 ?q5 ?k5 ?a6 ?l6 ?q6 ?k6 ?a7 ?l7 ?q7 ?k7 ?a8 ?l8 ?q8 ?k8 ?a9 ?l9 ?q9 ?k9 ?a10 ?l10 ?q10 ?k10 ?a11 ?l11 ?q11 ?k11 ?a12 ?l12 ?q12 ?k12 ?a13 ?l13 ?q13 ?k13 ?a14 ?l14 ?q14 ?k14 ?a15 ?l15 ?q15 ?k15 ?a16 ?l16 ?q16 ?k16 ?a17 ?l17 ?q17 ?k17 ?a18 ?l18 ?q18 ?k18 ?a19 ?l19 ?q19 ?k19 ?a20 ?l20 ?q20 ?k20 ?a21 ?l21 ?q21 ?k21 ?a22 ?l22 ?q22 ?k22 ?a23 ?l23 ?q23 ?k23 ?a24 ?l24 ?q24 ?k24 ?a25 ?l25 ?q25 ?k25 ?a26 ?l26 ?q26 ?k26 ?a27 ?l27 ?q27 ?k27 ?a28 ?l28 ?q28 ?k28 ?a29 ?l29 ?q29 ?k29 ?a30 ?l30 ?q30 ?k30 ?a31 ?l31 ?q31 ?k31 ?a32 ?l32 ?q32 ?k32 ?a33 ?l33 ?q33 ?k33 ?a34 ?l34 ?q34 ?k34 ?a35 ?l35 ?q35 ?k35 ?a36 ?l36 ?q36 ?k36 ?a37 ?l37 ?q37 ?k37 ?a38 ?l38 ?q38 ?k38 ?a39 ?l39 ?q39 ?k39 ?a40 ?l40 ?q40 ?k40 ?a41 ?l41 ?q41 ?k41 ?a42 ?l42 ?q42 ?k42 ?a43 ?l43 ?q43 ?k43 ?a44 ?l44 ?q44 ?k44 ?a45 ?l45 ?q45 ?k45 ?a46 ?l46 ?q46 ?k46 ?a47 ?l47 ?q47 ?k47 ?a48 ?l48 ?q48 ?k48 ?a49 ?l49 ?q49 ?k49 ?a50 ?l50 ?q50 ?k50 ?a51 ?l51 ?q51 ?k51 ?a52 ?l52 ?q52 ?k52 ?a53 ?l53 ?q53 ?k53 ?a54 ?l54 ?q54 ?k54 ?a_1 ?i_1 ?l_1 ?q_1 ?k_1 ?a_2 ?i_2 ?l_2 ?q_2 ?k_2 ?aC ?pg ?hd ?po ?sa ?mk ?kc ?nT ?aXF ?xPF ?kXF ?bXF ?tXF ?aXM ?xPM ?kXM ?bXM ?tXM ?iXF ?sFF ?sMF ?adR ?ldR ?tdR ?sdR ?adC ?ldC ?tdC ?sdC ?kR ?kC ?aM ?rM ?aGr ?rGr ?aPa ?rPa ?aN ?lN ?vN ?aP ?lP ?vP ?s1 ?s2 ?z1 ?z2 ?z3 ?z4 ?z5 ?z6 ?z7 ?z8 ?z9 ?z10 ?z11 ?z12 ?z13 ?z14
    (case a1 => k_is); (case l1 => k_is); (case q1 => k_is); (case k1 => k_is)
    (case a2 => k_is); (case l2 => k_is); (case q2 => k_is); (case k2 => k_is)
    (case a3 => k_is); (case l3 => k_is); (case q3 => k_is); (case k3 => k_is)
    (case a4 => k_is); (case l4 => k_is); (case q4 => k_is); (case k4 => k_is)
    (case a5 => k_is); (case l5 => k_is); (case q5 => k_is); (case k5 => k_is)
    (case a6 => k_is); (case l6 => k_is); (case q6 => k_is); (case k6 => k_is)
    (case a7 => k_is); (case l7 => k_is); (case q7 => k_is); (case k7 => k_is)
    (case a8 => k_is); (case l8 => k_is); (case q8 => k_is); (case k8 => k_is)
    (case a9 => k_is); (case l9 => k_is); (case q9 => k_is); (case k9 => k_is)
    (case a10 => k_is); (case l10 => k_is); (case q10 => k_is); (case k10 => k_is)
    (case a11 => k_is); (case l11 => k_is); (case q11 => k_is); (case k11 => k_is)
    (case a12 => k_is); (case l12 => k_is); (case q12 => k_is); (case k12 => k_is)
    (case a13 => k_is); (case l13 => k_is); (case q13 => k_is); (case k13 => k_is)
    (case a14 => k_is); (case l14 => k_is); (case q14 => k_is); (case k14 => k_is)
    (case a15 => k_is); (case l15 => k_is); (case q15 => k_is); (case k15 => k_is)
    (case a16 => k_is); (case l16 => k_is); (case q16 => k_is); (case k16 => k_is)
    (case a17 => k_is); (case l17 => k_is); (case q17 => k_is); (case k17 => k_is)
    (case a18 => k_is); (case l18 => k_is); (case q18 => k_is); (case k18 => k_is)
    (case a19 => k_is); (case l19 => k_is); (case q19 => k_is); (case k19 => k_is)
    (case a20 => k_is); (case l20 => k_is); (case q20 => k_is); (case k20 => k_is)
    (case a21 => k_is); (case l21 => k_is); (case q21 => k_is); (case k21 => k_is)
    (case a22 => k_is); (case l22 => k_is); (case q22 => k_is); (case k22 => k_is)
    (case a23 => k_is); (case l23 => k_is); (case q23 => k_is); (case k23 => k_is)
    (case a24 => k_is); (case l24 => k_is); (case q24 => k_is); (case k24 => k_is)
    (case a25 => k_is); (case l25 => k_is); (case q25 => k_is); (case k25 => k_is)
    (case a26 => k_is); (case l26 => k_is); (case q26 => k_is); (case k26 => k_is)
    (case a27 => k_is); (case l27 => k_is); (case q27 => k_is); (case k27 => k_is)
    (case a28 => k_is); (case l28 => k_is); (case q28 => k_is); (case k28 => k_is)
    (case a29 => k_is); (case l29 => k_is); (case q29 => k_is); (case k29 => k_is)
    (case a30 => k_is); (case l30 => k_is); (case q30 => k_is); (case k30 => k_is)
    (case a31 => k_is); (case l31 => k_is); (case q31 => k_is); (case k31 => k_is)
    (case a32 => k_is); (case l32 => k_is); (case q32 => k_is); (case k32 => k_is)
    (case a33 => k_is); (case l33 => k_is); (case q33 => k_is); (case k33 => k_is)
    (case a34 => k_is); (case l34 => k_is); (case q34 => k_is); (case k34 => k_is)
    (case a35 => k_is); (case l35 => k_is); (case q35 => k_is); (case k35 => k_is)
    (case a36 => k_is); (case l36 => k_is); (case q36 => k_is); (case k36 => k_is)
    (case a37 => k_is); (case l37 => k_is); (case q37 => k_is); (case k37 => k_is)
    (case a38 => k_is); (case l38 => k_is); (case q38 => k_is); (case k38 => k_is)
    (case a39 => k_is); (case l39 => k_is); (case q39 => k_is); (case k39 => k_is)
    (case a40 => k_is); (case l40 => k_is); (case q40 => k_is); (case k40 => k_is)
    (case a41 => k_is); (case l41 => k_is); (case q41 => k_is); (case k41 => k_is)
    (case a42 => k_is); (case l42 => k_is); (case q42 => k_is); (case k42 => k_is)
    (case a43 => k_is); (case l43 => k_is); (case q43 => k_is); (case k43 => k_is)
    (case a44 => k_is); (case l44 => k_is); (case q44 => k_is); (case k44 => k_is)
    (case a45 => k_is); (case l45 => k_is); (case q45 => k_is); (case k45 => k_is)
    (case a46 => k_is); (case l46 => k_is); (case q46 => k_is); (case k46 => k_is)
    (case a47 => k_is); (case l47 => k_is); (case q47 => k_is); (case k47 => k_is)
    (case a48 => k_is); (case l48 => k_is); (case q48 => k_is); (case k48 => k_is)
    (case a49 => k_is); (case l49 => k_is); (case q49 => k_is); (case k49 => k_is)
    (case a50 => k_is); (case l50 => k_is); (case q50 => k_is); (case k50 => k_is)
    (case a51 => k_is); (case l51 => k_is); (case q51 => k_is); (case k51 => k_is)
    (case a52 => k_is); (case l52 => k_is); (case q52 => k_is); (case k52 => k_is)
    (case a53 => k_is); (case l53 => k_is); (case q53 => k_is); (case k53 => k_is)
    (case a54 => k_is); (case l54 => k_is); (case q54 => k_is); (case k54 => k_is)
    (case aC => k_is); (case pg => k_is); (case hd => k_is); (case po => k_is); (case sa => k_is); (case mk => k_is); (case kc => k_is); (case nT => k_is)
    (case a_1 => k_is); (case i_1 => k_is); (case l_1 => k_is); (case q_1 => k_is); (case k_1 => k_is)
    (case a_2 => k_is); (case i_2 => k_is); (case l_2 => k_is); (case q_2 => k_is); (case k_2 => k_is)
    (case aXF => k_is); (case xPF => k_exc); (case kXF => k_is); (case bXF => k_is); (case tXF => k_is)
    (case aXM => k_is); (case xPM => k_exc); (case kXM => k_is); (case bXM => k_is); (case tXM => k_is)
    (case iXF => k_is); (case sFF => k_is); (case sMF => k_is)
    (case adR => k_is); (case ldR => k_is); (case tdR => exact ⟨⟨_, _, rfl, rfl⟩, ⟨_, _, rfl, rfl⟩, ⟨_, _, rfl, rfl⟩, ⟨_, _, rfl, rfl⟩, ⟨_, _, rfl, rfl⟩, ⟨_, _, rfl, rfl⟩, ⟨_, _, rfl, rfl⟩, ⟨_, _, rfl, rfl⟩, ⟨_, _, rfl, rfl⟩, ⟨_, _, rfl, rfl⟩, ⟨_, _, rfl, rfl⟩, ⟨_, _, rfl, rfl⟩, ⟨_, _, rfl, rfl⟩, ⟨_, _, rfl, rfl⟩, ⟨_, _, rfl, rfl⟩, ⟨_, _, rfl, rfl⟩, ⟨_, _, rfl, rfl⟩, ⟨_, _, rfl, rfl⟩, ⟨_, _, rfl, rfl⟩, ⟨_, _, rfl, rfl⟩, ⟨_, _, rfl, rfl⟩, trivial⟩); (case sdR => rfl)
    (case adC => k_is); (case ldC => k_is); (case tdC => exact ⟨⟨_, _, rfl, rfl⟩, ⟨_, _, rfl, rfl⟩, ⟨_, _, rfl, rfl⟩, ⟨_, _, rfl, rfl⟩, ⟨_, _, rfl, rfl⟩, ⟨_, _, rfl, rfl⟩, trivial⟩); (case sdC => rfl)
    (case kR => exact ⟨⟨_, rfl⟩, rfl, ⟨_, rfl⟩, rfl, ⟨_, rfl⟩, rfl, ⟨_, rfl⟩, rfl, ⟨_, rfl⟩, rfl, ⟨_, rfl⟩, rfl, ⟨_, rfl⟩, rfl, ⟨_, rfl⟩, rfl, ⟨_, rfl⟩, rfl, ⟨_, rfl⟩, rfl, ⟨_, rfl⟩, rfl, ⟨_, rfl⟩, rfl, ⟨_, rfl⟩, rfl, ⟨_, rfl⟩, rfl, ⟨_, rfl⟩, rfl, ⟨_, rfl⟩, rfl, ⟨_, rfl⟩, rfl, ⟨_, rfl⟩, rfl, ⟨_, rfl⟩, rfl, ⟨_, rfl⟩, rfl, ⟨_, rfl⟩, rfl, trivial⟩)
    (case kC => exact ⟨⟨_, rfl⟩, rfl, ⟨_, rfl⟩, rfl, ⟨_, rfl⟩, rfl, ⟨_, rfl⟩, rfl, ⟨_, rfl⟩, rfl, ⟨_, rfl⟩, rfl, trivial⟩)
    (case aM => k_is); (case rM => exact ⟨_, rfl⟩); (case aGr => k_is); (case rGr => exact ⟨_, rfl⟩); (case aPa => k_is); (case rPa => exact ⟨_, rfl⟩)
    (case aN => k_is); (case lN => k_is); (case vN => exact ⟨by decide, .cons ⟨_, rfl⟩ (.cons ⟨_, rfl⟩ .nil)⟩)
    (case aP => k_is); (case lP => k_is); (case vP => exact ⟨by decide, .cons ⟨_, rfl⟩ .nil⟩)
    (case s1 => first | kernel_rfl | k_is); (case s2 => first | kernel_rfl | k_is)
    (case z1 => k_is); (case z2 => k_is); (case z3 => k_is); (case z4 => k_is); (case z5 => k_is); (case z6 => k_is); (case z7 => k_is); (case z8 => k_is); (case z9 => k_is); (case z10 => k_is); (case z11 => k_is); (case z12 => k_is); (case z13 => k_is); (case z14 => k_is)
