import PyProof.Rows.All
import Wide.All
import OpenK.AllK
import Wide.FinOn
import HandS.ForMost
import HandS.Rev
import HandS.StrMore
import HandS.IsInst
import HandS.Wide
import HandS.Replace
import HandS.Codes
import HandS.GenList
import HandS.AnyAll
import HandS.EndOwn
import HandS.ExcOwn
import PyProof.ReprRoads
import HandS.Walk
import HandS.Dict
import HandS.TupAny
import HandS.Style
import KE.KDictPairs
import KE.GoesMore
import HandS.Iter
import KE.KRevSl
import PyProof.Draws
import PyProof.EnumMake
import PyProof.EqKinds
import HandS.More
import PyProof.Rows.IntBool
import PyProof.CallStr
import PyProof.IsRules
import PyProof.ReprLen
import PyProof.FitsInt
import PyProof.StrLawsRepr
import HandS.FStrTup
import PyProof.Rows.RegReprOcc
import HandS.Zip
import PyProof.Rows.StrCase
import HandS.DictTup
import PyProof.DictUpdate
import HandS.Set
import HandS.SetBool
import HandS.TupSets
import HandS.SetFor
import HandS.SortInts
import HandS.Sort
import HandS.ListItems
import HandS.TupLe
import PySem.Challenge.RW_kindalone_k09_what_is_a_term
set_option Elab.async false
set_option linter.all false
set_option maxRecDepth 100000
set_option maxHeartbeats 4000000
namespace Kq
open PySem PySem.Spec PyProof.Rows L2
/-! the program's defs, by their places -/
def tp (i : Nat) : Stmt := PySem.Challenge.pw_kindalone_k09_what_is_a_term.main.body.getD i (.Pass ⟨0, 0, 0, 0⟩)
abbrev tMixed : Stmt := tp 28
abbrev tDraw : Stmt := tp 29
/-! heaps -/
theorem newS {H : Hp} {p : Addr} {o : HO} (h : H p = none) : Same H (upd H p o) := fun b u e => by
  rw [upd_ne (ne_of_none e h)]
  exact e
/-- but for d and c all that stood stands -/
def Kp (d c : Addr) (H G : Hp) : Prop := ∀ b o, b ≠ d → b ≠ c → H b = some o → G b = some o
theorem Kp.rfl {d c : Addr} {H : Hp} : Kp d c H H := fun _ _ _ _ e => e
theorem Kp.trans {d c : Addr} {H G F : Hp} (a : Kp d c H G) (b : Kp d c G F) : Kp d c H F := fun x o h1 h2 e => b x o h1 h2 (a x o h1 h2 e)
theorem Kp.of {d c : Addr} {H G : Hp} (a : Same H G) : Kp d c H G := fun x o _ _ e => a x o e
theorem Kp.at1 {d c : Addr} {H : Hp} {o : HO} : Kp d c H (upd H d o) := fun x u h1 _ e => by rw [upd_ne h1]; exact e
theorem Kp.at2 {d c : Addr} {H : Hp} {o : HO} : Kp d c H (upd H c o) := fun x u _ h2 e => by rw [upd_ne h2]; exact e
/-- the deck of drawn cells -/
structure Dk (H : Hp) (d c : Addr) : Prop where
  ne : d ≠ c
  dd : ∃ seed k : Int, H d = some (.lst [.ref c, .int seed, .int k])
  cc : ∃ ns : List Int, H c = some (.lst (ns.map V.int)) ∧ ns.length ≤ 63
theorem Dk.same {H G : Hp} {d c : Addr} (x : Dk H d c) (s : Same H G) : Dk G d c := by
  obtain ⟨n, ⟨a, b, e⟩, ⟨ns, f, l⟩⟩ := x
  exact ⟨n, ⟨a, b, s _ _ e⟩, ⟨ns, s _ _ f, l⟩⟩
theorem sz {n : Nat} (h : n ≤ 1000) : n ≤ sizeLine := Nat.le_of_lt (small1000 h)
section
variable {P : Program} {w : World} {K : PySem.W.Frag} {mg : Str → Option Value} {base : Heap}
/-! _law_mixed -/
theorem scMixed : FnScope ["_law_cell", "_law_k", "_law_number"] ["_law_cell", "_law_k"] (defScope tMixed) := ⟨rfl, rfl, rfl, by decide +kernel, rfl, by decide +kernel, by decide +kernel⟩
def spMixed : Sp := fun vs H Q _ => ∃ a b : Int, vs = [.int a, .int b] ∧ ∀ r : Int, Q (.int r) H
theorem okMixed {f : Addr} {fd : FuncData} {k : Nat} (F : Fun K "_law_mixed" "_law_mixed" tMixed f fd) : FnOk P w K mg base CX0 (k + 1) f fd ["_law_cell", "_law_k"] spMixed := by
  refine F.ok scMixed (fun vs H Q E h => ?_) (fun cdv A outer s H vs Q E hr h => ?_)
  · obtain ⟨a, b, rfl, _⟩ := h
    rfl
  obtain ⟨a, b, rfl, q⟩ := h
  refine ⟨_, pss_cons (ps_set (i := 2) scMixed.nd rfl (.inl rfl) (pe_op op_mod (pe_op op_mul (pe_op op_add (pe_op op_add (pe_op op_mod (pv 0) pe_int) (pe_op op_mul pe_int (pv 1))) pe_int) pe_int) pe_int))
    (pss_cons (ps_set (i := 2) scMixed.nd rfl (.inl rfl) (pe_op op_mod (pe_op op_add (pe_op op_add (pe_op op_mul (pv 2) (pv 2)) (pe_op op_mul pe_int (pv 1))) pe_int) pe_int))
    (pss_one (ps_ret (pe_op op_fdiv (pe_op op_mod (pe_op op_mul (pv 2) (pe_op op_add (pe_op op_fdiv (pv 2) pe_int) pe_int)) pe_int) pe_int)))), ?_⟩
  refine ⟨_, rfl, _, _, rfl, rfl, (by show (0 : Int) < 2147483629; decide), _, rfl, _, _, rfl, rfl, .inl ⟨by decide, by decide⟩, _, _, rfl, rfl, _, _, rfl, rfl, _, _, rfl, rfl, .inr ⟨by decide, by decide⟩, _, _, rfl, rfl, (by show (0 : Int) < 2147483647; decide), ?_⟩
  generalize hx : (a % 2147483629 + 104729 * b + 1) * 48271 % 2147483647 = x
  have x0 : 0 ≤ x := by rw [← hx]; exact Int.emod_nonneg _ (by decide)
  have x1 : x < 2147483647 := by rw [← hx]; exact Int.emod_lt_of_pos _ (by decide)
  refine ⟨_, rfl, _, rfl, _, _, rfl, rfl, .inl ⟨by omega, by omega⟩, _, rfl, _, _, rfl, rfl, .inl ⟨by decide, by decide⟩, _, _, rfl, rfl, _, _, rfl, rfl, _, _, rfl, rfl, (by show (0 : Int) < 2147483587; decide), ?_⟩
  generalize hy : (x * x + 69621 * b + 7) % 2147483587 = y
  have y0 : 0 ≤ y := by rw [← hy]; exact Int.emod_nonneg _ (by decide)
  have y1 : y < 2147483587 := by rw [← hy]; exact Int.emod_lt_of_pos _ (by decide)
  refine ⟨_, rfl, _, rfl, _, _, rfl, rfl, ⟨by decide, by decide⟩, _, _, rfl, rfl, _, _, rfl, rfl, .inl ⟨by omega, by omega⟩, _, _, rfl, rfl, (by show (0 : Int) < 2305843009213693951; decide), _, _, rfl, rfl, ⟨by decide, by decide⟩, q _⟩
/-! _law_draw -/
theorem scDraw : FnScope ["_law_deck_here", "_law_most", "_law_cell"] ["_law_deck_here", "_law_most"] (defScope tDraw) := ⟨rfl, rfl, rfl, by decide +kernel, rfl, by decide +kernel, by decide +kernel⟩
def spDraw : Sp := fun vs H Q _ => ∃ (d c : Addr) (m : Int), vs = [.ref d, .int m] ∧ Dk H d c ∧ 0 < m ∧ m < 1125899906842624 ∧ ∀ (r : Int) (G : Hp), 0 ≤ r → r < m → Kp d c H G → Dk G d c → Q (.int r) G
theorem dpInts (K : PySem.W.Frag) (H : Hp) : ∀ ns : List Int, DpAll K H (ns.map V.int) (ns.map PyData.int)
  | [] => .nil
  | n :: ns => .cons (.int n) (dpInts K H ns)
theorem okDraw {f fM : Addr} {fd fdM : FuncData} {k : Nat} (F : Fun K "_law_draw" "_law_draw" tDraw f fd) (FM : Fun K "_law_mixed" "_law_mixed" tMixed fM fdM) (bM : Binds K fdM ["_law_cell", "_law_k"] []) (gM : mg "_law_mixed" = some (.ref fM)) :
    FnOk P w K mg base CX0 (k + 2) f fd ["_law_deck_here", "_law_most"] spDraw := by
  have GM : FnOk P w K mg base CX0 (k + 1) fM fdM ["_law_cell", "_law_k"] spMixed := okMixed FM
  refine F.ok scDraw (fun vs H Q E h => ?_) (fun cdv A outer s H vs Q E hr h => ?_)
  · obtain ⟨d, c, m, rfl, _⟩ := h
    rfl
  obtain ⟨d, c, m, rfl, ⟨ndc, ⟨seed, k0, hd⟩, ⟨ns, hc, hl⟩⟩, m0, m1, q⟩ := h
  refine ⟨_, pss_cons (ps_asg (pe_op op_add (pe_ix ix_list (pv 0) pe_int (fun _ _ => rfl)) pe_int) (pg_sub (pv 0) pe_int set_list))
    (pss_cons (ps_if (pt_cmpR (op_eqD hr.units) (pe_ix ix_list (pv 0) pe_int (fun _ _ => rfl)) (pe_lst pa_nil) (nomark _))
      (pss_one (ps_ret (pe_op op_mod (pe_call GM hr (by rfl) gM FM.kp bM .nil pass0 (pa_cons (pe_ix ix_list (pv 0) pe_int (fun _ _ => rfl)) (pa_cons (pe_ix ix_list (pv 0) pe_int (fun _ _ => rfl)) pa_nil))) (pv 1)))) pss_nil)
    (pss_cons (ps_set (i := 2) scDraw.nd rfl (.inl rfl) (pe_bm0 PySem.F.plainAttrs_list PySem.F.slot_list_pop PySem.F.type_list_pop mt_pop (pe_ix ix_list (pv 0) pe_int (fun _ _ => rfl))))
    (pss_cons (ps_if (pt_cmpR op_lt (pv 2) (pe_op op_pow pe_int pe_int) (nomark _))
      (pss_one (ps_ret (pe_op op_mod (pe_call GM hr (by rfl) gM FM.kp bM .nil pass0 (pa_cons (pv 2) (pa_cons (pe_ix ix_list (pv 0) pe_int (fun _ _ => rfl)) pa_nil))) (pv 1)))) pss_nil)
    (pss_cons (ps_expr (pe_bm PySem.F.plainAttrs_list PySem.F.slot_list_append PySem.F.type_list_append mt_append (pe_ix ix_list (pv 0) pe_int (fun _ _ => rfl)) (pa_cons (pe_op op_fdivW (pv 2) (pv 1)) pa_nil)))
    (pss_one (ps_ret (pe_op op_mod (pv 2) (pv 1)))))))), ?_⟩
  -- the count
  refine ⟨_, rfl, d, _, _, _, rfl, rfl, SqL.of hd, atI_nat (j := 2) rfl, _, _, rfl, rfl, _, rfl, d, _, _, 2, rfl, rfl, hd, rfl, ?_⟩
  generalize hH1 : upd H d _ = H1
  have d1 : H1 d = some (.lst [.ref c, .int seed, .int (k0 + 1)]) := by rw [← hH1, upd_same]; rfl
  have c1 : H1 c = some (.lst (ns.map V.int)) := by rw [← hH1, upd_ne ndc.symm]; exact hc
  have p1 : Kp d c H H1 := by rw [← hH1]; exact Kp.at1
  clear hH1
  -- no cell left?
  refine ⟨_, rfl, d, _, _, _, rfl, rfl, SqL.of d1, atI_nat (j := 0) rfl, Nat.zero_le _, fun p np => ?_⟩
  have sp : Same H1 (upd H1 p (.lst [])) := newS np
  have d2 := sp _ _ d1
  have c2 := sp _ _ c1
  have p2 : Kp d c H (upd H1 p (.lst [])) := p1.trans (.of sp)
  refine ⟨.list (ns.map PyData.int), .list [], .lst (SqL.of c2) (dpInts K _ ns), .lst (SqL.of upd_same) .nil, PySem.W.ke_shaped_ints ns, rfl, _, rfl, ?_⟩
  generalize upd H1 p (.lst []) = H2 at d2 c2 p2
  refine ite2 (fun _ => ?_) (fun hne => ?_)
  · refine ⟨_, rfl, d, _, _, _, rfl, rfl, SqL.of d2, atI_nat (j := 1) rfl, _, rfl, d, _, _, _, rfl, rfl, SqL.of d2, atI_nat (j := 2) rfl, _, _, rfl, fun r => ?_⟩
    exact ⟨_, rfl, _, _, rfl, rfl, m0, q _ _ (Int.emod_nonneg _ (by omega)) (Int.emod_lt_of_pos _ m0) p2 ⟨ndc, ⟨_, _, d2⟩, ⟨ns, c2, hl⟩⟩⟩
  · have nn : ns ≠ [] := fun z => hne (by rw [z]; rfl)
    obtain ⟨n, hn⟩ : ∃ n, (ns.map V.int)[(ns.map V.int).length - 1]? = some (.int n) := by
      have h0 : 0 < ns.length := List.length_pos_iff.mpr nn
      rw [List.length_map, List.getElem?_map, List.getElem?_eq_getElem (by omega)]
      exact ⟨_, rfl⟩
    have ed : (ns.map V.int).dropLast = ns.dropLast.map V.int := by rw [List.map_dropLast]
    refine ⟨_, rfl, d, _, _, _, rfl, rfl, SqL.of d2, atI_nat (j := 0) rfl, .inl ⟨rfl, _, SqL.of c2⟩, c, _, _, rfl, rfl, c2, hn, ?_⟩
    rw [ed]
    generalize hH3 : upd H2 c _ = H3
    have d3 : H3 d = some (.lst [.ref c, .int seed, .int (k0 + 1)]) := by rw [← hH3, upd_ne ndc]; exact d2
    have c3 : H3 c = some (.lst (ns.dropLast.map V.int)) := by rw [← hH3, upd_same]
    have p3 : Kp d c H H3 := by rw [← hH3]; exact p2.trans Kp.at2
    have l3 : ns.dropLast.length ≤ 62 := by rw [List.length_dropLast]; omega
    clear hH3
    refine ⟨_, rfl, _, _, rfl, rfl, ⟨by decide, by decide, by decide⟩, _, _, rfl, rfl, _, rfl, ite2 (fun _ => ?_) (fun _ => ?_)⟩
    · refine ⟨_, rfl, _, rfl, d, _, _, _, rfl, rfl, SqL.of d3, atI_nat (j := 2) rfl, _, _, rfl, fun r => ?_⟩
      exact ⟨_, rfl, _, _, rfl, rfl, m0, q _ _ (Int.emod_nonneg _ (by omega)) (Int.emod_lt_of_pos _ m0) p3 ⟨ndc, ⟨_, _, d3⟩, ⟨_, c3, by omega⟩⟩⟩
    · refine ⟨_, rfl, d, _, _, _, rfl, rfl, SqL.of d3, atI_nat (j := 0) rfl, .inl ⟨rfl, _, SqL.of c3⟩, _, rfl, _, rfl, _, _, rfl, rfl, wide_div (b := 51) m0 (by show m.natAbs < 2251799813685248; omega) (by decide) (by decide), c, _, _, rfl, rfl, c3, (by rw [List.length_map]; exact small1000 (by omega)), ?_⟩
      refine ⟨_, rfl, _, rfl, _, _, rfl, rfl, m0, q _ _ (Int.emod_nonneg _ (by omega)) (Int.emod_lt_of_pos _ m0) (p3.trans Kp.at2) ⟨ndc, ⟨seed, k0 + 1, (by rw [upd_ne ndc]; exact d3)⟩, ⟨ns.dropLast ++ [n / m], ?_, ?_⟩⟩⟩
      · rw [upd_same, List.map_append]
        rfl
      · rw [List.length_append, List.length_singleton]
        omega
end
end Kq

namespace Kr
open PySem PySem.Spec PyProof.Rows L2 RT
section
variable {prog : Program} {w : World} {A : Around} {E : Value → Shared → Prop} {s : Shared}
/-- a list grows by what a walk from behind over another list gives -/
theorem growRev {R : Result → Shared → Prop} {it l S : Addr} {its : Array Value} {res : Value} {c0 : Nat} (hh : A.handled = none) (hit : s.heap.IsRevIter it l ((its.size : Int) - 1))
    (hl : s.heap.IsList l its) (hne : l ≠ it) (hn : its.size ≤ sizeLine) (hS : s.heap.get? S = some { cls := .type "list", data := .seq #[] c0 }) (hSi : S ≠ it) (hSl : S ≠ l)
    (hR : ∀ (h' : Heap) (tk : Nat) (acc : Array Value) (c : Nat), (∀ b o, b ≠ it → b ≠ S → s.heap.get? b = some o → h'.get? b = some o) →
      h'.get? S = some { cls := .type "list", dict := none, data := .seq acc c, slots := #[] } → ItemsOf (fun i v => its[its.size - 1 - i]? = some v) acc its.size → R (.ok (.ret res)) { s with heap := h', toks := tk }) :
    wpAny (model prog w) A.in1 (Builtin.List.listExtendWith (.ref S) (.ref it) res)
      (fun fin s' => match fin with
        | .done f => R (.ok f) s'
        | .again c' => c'.quiet = true ∧ codeAny (model prog w) A c' R s') (fun e s' => R (.error e) s') s := by
  have W := (Walks.listRev (prog := prog) (w := w) (A := A.in1) hh it l hne its).toS
  have out : S ∉ [it, l] := by
    intro z
    rcases List.mem_cons.mp z with z | z
    · exact hSi z
    · exact hSl (List.mem_singleton.mp z)
  have ty : s.TypeIs (.ref it) "list_reverseiterator" := hit.typeIs
  have no : Builtin.List.listSameRef (.ref S) (.ref it) = false := by
    simp [Builtin.List.listSameRef, hSi]
  unfold Builtin.List.listExtendWith
  refine wpAny_bind (wpAny_typeOf ty ?_)
  rw [if_neg (by rw [no]; decide)]
  refine wpAny_bind (wpAny_pyIter_revIter hit ?_)
  refine wpAny_bind (wpAny_holding ?_)
  unfold Builtin.List.listLengthHint
  refine wpAny_bind (wpAny_specialOf ty RT.nolen_lri ?_)
  show wpAny _ A.in1 (specialOf (.ref it) (Str.ofString "__length_hint__") >>= _) _ _ _
  refine wpAny_bind (wpAny_specialOf ty RT.hint_lri ?_)
  generalize hid : ("list_reverseiterator.__length_hint__" : String) = nm
  wp_delta
  have sp : splitId nm = some ("list_reverseiterator", "__length_hint__") := by
    subst hid
    decide +kernel
  rw [sp]
  subst hid
  refine wpAny_bind (wpAny_isInstance (b := true) ty (by rw [isSubtype_type]; kernel_rfl) ?_)
  refine wpAny_pure ?_
  rw [if_neg (by decide)]
  have z0 : ((its.size : Nat) : Int) - 1 - ((0 : Nat) : Int) = (its.size : Int) - 1 := by omega
  have st0 : s.heap.IsRevIter it l ((its.size : Int) - 1 - ((0 : Nat) : Int)) := by rw [z0]; exact hit
  refine wpAny_pure ⟨plainId_quiet F.plain_extend_loop _, ?_⟩
  refine codeAny_extend_loopS W hn S out res its.size 0 _ _ _ rfl (Nat.zero_le _) ⟨Nat.zero_le _, st0, hl⟩ hS (ItemsOf.nil _) (fun s' acc' c' mv hS' hacc => ?_)
  rw [Moved.eq_with mv]
  refine hR s'.heap s'.toks acc' c' (fun b o h1 h2 e => mv.heap b o (fun z => ?_) e) hS' hacc
  rcases List.mem_cons.mp z with z | z
  · exact h2 z
  · exact h1 (List.mem_singleton.mp z)
theorem call_list_rev {Q : Value → Shared → Prop} {it l : Addr} {its : Array Value} (hh : A.handled = none) (hit : s.heap.IsRevIter it l ((its.size : Int) - 1)) (hl : s.heap.IsList l its) (hne : l ≠ it) (hn : its.size ≤ sizeLine)
    (hQ : ∀ (h' : Heap) (tk : Nat) (acc : Array Value) (c : Nat), (∀ b o, b ≠ it → s.heap.get? b = some o → h'.get? b = some o) →
      h'.get? s.heap.objs.size = some { cls := .type "list", dict := none, data := .seq acc c, slots := #[] } → ItemsOf (fun i v => its[its.size - 1 - i]? = some v) acc its.size → Q (.ref s.heap.objs.size) { s with heap := h', toks := tk }) :
    wpAny (model prog w) A (call (.type "list") [.ref it]) Q E s := by
  obtain ⟨oi, hoi, _⟩ := id hit
  obtain ⟨ol, hol, _⟩ := id hl
  have n1 : s.heap.objs.size ≠ it := Nat.ne_of_gt (Heap.lt_size hoi)
  have n2 : s.heap.objs.size ≠ l := Nat.ne_of_gt (Heap.lt_size hol)
  refine callType_codes (Q₁ := fun obj s₁ => obj = .ref s.heap.objs.size ∧ s₁ = { s with heap := s.heap.push { cls := .type "list", data := .seq #[] } })
    F.called_list (F.typeCall_list_1 _) F.entry_list_init (code_list_new _ ⟨rfl, rfl⟩) (fun obj s₁ h₁ => ?_)
  obtain ⟨rfl, rfl⟩ := h₁
  have hS : (s.heap.push { cls := .type "list", data := .seq #[] }).get? s.heap.objs.size
      = some { cls := .type "list", data := .seq #[] } := Heap.get?_push_size _ rfl
  refine ⟨⟨_, hS, rfl⟩, F.args_list_init_2 _ _, ?_⟩
  show wpAny _ _ (do
    let old ← Builtin.List.listItems (.ref s.heap.objs.size)
    Builtin.List.listUpdate (.ref s.heap.objs.size) (fun _ => #[])
    letGo old.toList.reverse
    Builtin.List.listExtendWith (.ref s.heap.objs.size) (.ref it) .none) _ _ _
  refine wpAny_bind ?_
  unfold Builtin.List.listItems
  refine wpAny_bind (wpAny_seqItems hS rfl (wpAny_pure ?_))
  show wpAny _ _ (do
    updateSeq s.heap.objs.size (fun _ => #[])
    letGo (#[] : Array Value).toList.reverse
    Builtin.List.listExtendWith (.ref s.heap.objs.size) (.ref it) .none) _ _ _
  refine wpAny_bind (wpAny_updateSeq hS rfl ?_)
  have hS2 := Heap.get?_update_self (Obj.mapSeq fun _ => (#[] : Array Value)) hS rfl
  refine wpAny_bind (wpAny_letGo ?_)
  generalize hh2 : (s.heap.push { cls := .type "list", data := .seq #[] }).update s.heap.objs.size (Obj.mapSeq fun _ => (#[] : Array Value)) = h2 at hS2 ⊢
  have kp : ∀ b o, s.heap.get? b = some o → h2.get? b = some o := fun b o e => by
    rw [← hh2, Heap.get?_update_other _ _ (Nat.ne_of_gt (Heap.lt_size e))]
    exact Heap.get?_push_of_some _ e
  have hl2 : h2.IsList l its := by
    obtain ⟨o, e, r⟩ := id hl
    exact ⟨o, kp _ _ e, r⟩
  refine growRev (A := A.in1) (s := { s with heap := h2 }) hh (hit.at fun o e => kp _ _ e) hl2 hne hn hS2 n1 n2 (fun h' tk acc c k e i => ?_)
  exact ⟨rfl, hQ h' tk acc c (fun b o hb hbo => k b o hb (Nat.ne_of_lt (Heap.lt_size hbo)) (kp b o hbo)) e i⟩
end
/-- list(reversed(x)), x a list -/
def tListRev (K : PySem.W.Frag) (te : TE) : TE := fun σ H Q => te σ H fun v G => ∃ (a : Addr) (xs : List V), v = .ref a ∧ SqL K G a xs ∧ ∀ q, G q = none → Q (.ref q) (upd G q (.lst xs.reverse))
theorem pe_listRev {X : Cx} {e : Expr} {te : TE} {p p2 pos pos2 : Pos} (hc : X.calm = true) (hg : Gl X "list") (hm : X.mg "list" = none) (hg2 : Gl X "reversed") (hm2 : X.mg "reversed" = none) (he : PE X e te)
    (hs : starEach [e] X.env = (false, eval e X.env) :: starEach [] X.env := by rfl)
    (hs2 : starEach [.Call (.Name "reversed" p2) [e] [] pos2] X.env = (false, eval (.Call (.Name "reversed" p2) [e] [] pos2) X.env) :: starEach [] X.env := by rfl) :
    PE X (.Call (.Name "list" p) [.Call (.Name "reversed" p2) [e] [] pos2] [] pos) (tListRev X.K te) := by
  refine ⟨fun pins s σ H Q I h => ?_⟩
  have inner := fun (Q' : Value → Shared → Prop) (k : ∀ (a : Addr) (xs : List V) (its : List Value) (s1 : Shared) (G : Hp), Inv X pins σ G s1 → SqL X.K G a xs → Vals xs its → PlainL s1.heap a its.toArray → xs.length ≤ sizeLine →
      (∀ q, G q = none → Q (.ref q) (upd G q (.lst xs.reverse))) → Q' (.ref s1.heap.objs.size) { s1 with heap := s1.heap.push (revObj a ((its.toArray.size : Int) - 1)) }) =>
    show wpAny (model X.prog X.w) X.A (eval (.Call (.Name "reversed" p2) [e] [] pos2) X.env) Q' X.xe s from
      Call_ (ld_blt I hg2 hm2 PyProof.Rows.boot_reversed (PyProof.Rows.callWith_type1 (args_cons (thn (he.run pins s σ H _ I h) fun u s1 ⟨v, G, I1, r1, a, xs, ev, hq, q⟩ => args_nil (by
        subst ev
        obtain rfl : u = Value.ref a := r1
        obtain ⟨its, rv, pl, hz⟩ := I1.list hq
        exact call_reversed_list pl.isList (k a xs its s1 G I1 hq rv pl hz q))) hs) hs rfl))
  refine Call_ (ld_blt I hg hm boot_list (PyProof.Rows.callWith_type1 (args_cons (inner _ fun a xs its s1 G I1 hq rv pl hz q => args_nil ?_) hs2) hs2 rfl))
  have k0 : ∀ b o, s1.heap.get? b = some o → (s1.heap.push (revObj a ((its.toArray.size : Int) - 1))).get? b = some o := fun b o z => Heap.get?_push_of_some _ z
  obtain ⟨ol, hol, _⟩ := id pl.isList
  have hne : a ≠ s1.heap.objs.size := Nat.ne_of_lt (Heap.lt_size hol)
  have hn : its.toArray.size ≤ sizeLine := by rw [List.size_toArray, ← rv.length]; exact hz
  generalize hh3 : s1.heap.push (revObj a ((its.toArray.size : Int) - 1)) = h3 at k0 ⊢
  have it3 : h3.IsRevIter s1.heap.objs.size a ((its.toArray.size : Int) - 1) := by
    rw [← hh3]
    exact ⟨_, Heap.get?_push_size _ rfl, rfl, rfl⟩
  have l3 : h3.IsList a its.toArray := by
    rw [← hh3]
    exact pl.isList.push _
  have lt3 : s1.heap.objs.size < h3.objs.size := by
    obtain ⟨o, e, _⟩ := id it3
    exact Heap.lt_size e
  refine call_list_rev (s := { s1 with heap := h3 }) (I1.ok.hd hc) it3 l3 hne hn fun h' tk acc c hk hS hi => ?_
  have hgo : G h3.objs.size = none := I1.hok.fresh (Nat.le_of_lt lt3)
  refine ⟨.ref h3.objs.size, upd G h3.objs.size (.lst xs.reverse), I1.laid (t' := tk) (fun b o z => hk b o (Nat.ne_of_lt (Heap.lt_size z)) (k0 b o z)) (Nat.le_of_lt lt3)
    (show ObjOk X.prog X.w _ _ _ (.lst xs.reverse) from ⟨by rw [List.length_reverse]; exact hz, acc.toList, c, vals_rev rv hi, by rw [Array.toArray_toList]; exact hS⟩), rfl, q _ hgo⟩
/-- xs.extend(t), t a tuple -/
def rExtT (K : PySem.W.Frag) : V → List V → Hp → VK → Prop := fun x vs H Q => ∃ l b xs zs, x = .ref l ∧ vs = [.ref b] ∧ H l = some (.lst xs) ∧ SqT K H b zs ∧ xs.length + zs.length ≤ sizeLine ∧ Q .non (upd H l (.lst (xs ++ zs)))
theorem mt_extT {X : Cx} : MtM X "list.extend" (rExtT X.K) := by
  intro pins s σ H x vs v us Q I rx rv h
  obtain ⟨l, b, xs, zs, rfl, rfl, hl, hb, hz, q⟩ := h
  cases rx
  obtain ⟨u, rfl, ru⟩ := rv.one
  cases ru
  obtain ⟨z1, its, n, r1, _, e1⟩ := I.lstM hl
  obtain ⟨jts, r2, ⟨o, eo, oc, m, od⟩, z2⟩ := I.tuple hb
  have n1 := r1.length
  have n2 := r2.length
  have sm : its.toArray.size + jts.toArray.size ≤ sizeLine := by
    rw [List.size_toArray, List.size_toArray]
    omega
  have ty : s.TypeIs (.ref b) "tuple" := ⟨o, eo, oc⟩
  refine wpAny_call_entry F.slot_list_extend ⟨_, e1, rfl⟩ F.entry_list_extend ?_ (F.args_list_extend_2 _ _)
  show wpAny _ _ (Builtin.List.listExtendWith (.ref l) (.ref b) .none) _ _ _
  unfold Builtin.List.listExtendWith
  refine wpAny_bind (wpAny_typeOf ty ?_)
  have yes : (Builtin.List.listSameRef (.ref l) (.ref b) || Value.type "tuple" == Value.type "list" || Value.type "tuple" == Value.type "tuple") = true := by simp
  rw [if_pos yes]
  refine wpAny_bind ?_
  unfold Builtin.List.listItems
  refine wpAny_bind (wpAny_seqItems eo od (wpAny_pure ?_))
  refine wpAny_bind ?_
  refine wpAny_bind (wpAny_seqItems e1 rfl (wpAny_pure ?_))
  have long : (!its.toArray.isEmpty && Builtin.List.listTooLong (its.toArray.size + jts.toArray.size)) = false := by
    rw [notLongL sm, Bool.and_false]
  rw [if_neg (by rw [long]; exact Bool.false_ne_true)]
  refine wpAny_bind ?_
  show wpAny _ _ (updateSeq l (· ++ jts.toArray)) _ _ _
  refine wpAny_updateSeq e1 rfl ?_ (by rw [List.size_toArray]; omega) (by rw [Array.size_append]; omega)
  refine wpAny_pure ⟨_, rfl, ?_⟩
  refine ⟨.non, _, I.lset (its' := its ++ jts) hl e1 (by simp) (r1.append r2) ?_, rfl, q⟩
  rw [List.length_append]
  exact hz
end Kr

namespace Kq
open PySem PySem.Spec PyProof.Rows L2
abbrev tDeck : Stmt := tp 27
abbrev tNames : Stmt := tp 30
theorem Kp.mk {d c p : Addr} {H G : Hp} {o : HO} (a : Kp d c H G) (h : H p = none) : Kp d c H (upd G p o) := fun b u h1 h2 e => by
  rw [upd_ne (ne_of_none e h)]
  exact a b u h1 h2 e
theorem Dk.put {G : Hp} {d c p : Addr} {o : HO} (x : Dk G d c) (h : p ≠ d) (h' : p ≠ c) : Dk (upd G p o) d c := by
  obtain ⟨n, ⟨a, b, e⟩, ⟨ns, f, l⟩⟩ := x
  exact ⟨n, ⟨a, b, by rw [upd_ne h.symm]; exact e⟩, ⟨ns, by rw [upd_ne h'.symm]; exact f, l⟩⟩
theorem Dk.off {H : Hp} {d c p : Addr} (x : Dk H d c) (h : H p = none) : p ≠ d ∧ p ≠ c := by
  obtain ⟨n, ⟨a, b, e⟩, ⟨ns, f, l⟩⟩ := x
  exact ⟨(ne_of_none e h).symm, (ne_of_none f h).symm⟩
/-! texts of letters -/
def lets : Str := "abcdefghijklmnopqrstuvwxyz"
def sg (i : Nat) : Str := ⟨#[97 + i]⟩
theorem lets_at : ∀ i : Fin 26, lets.cps.toList[i.val]? = some (97 + i.val) := by decide +kernel
theorem lets_ix : ∀ i : Fin 26, Builtin.Str.occurrences lets (sg i.val) 0 lets.length 1 = [i.val] := by decide +kernel
structure Nm (x : Str) : Prop where
  low : ∀ c ∈ x.cps.toList, 97 ≤ c ∧ c < 123
  few : x.cps.toList.length ≤ 8
  one : 1 ≤ x.cps.toList.length
theorem app_cps (x y : Str) : (x ++ y).cps.toList = x.cps.toList ++ y.cps.toList := by
  show (x.cps ++ y.cps).toList = _
  rw [Array.toList_append]
theorem join_low : ∀ ks : List Nat, (∀ k ∈ ks, k < 26) → (∀ c ∈ (Txt.join (Str.ofString "") (ks.map sg)).cps.toList, 97 ≤ c ∧ c < 123) ∧ (Txt.join (Str.ofString "") (ks.map sg)).cps.toList.length = ks.length := by
  intro ks h
  rw [show ∀ a b, Txt.join a b = Str.join a b from TL.join_eq]
  induction ks with
  | nil => exact ⟨fun c z => absurd z (by simp [Str.join, Str.empty]), by simp [Str.join, Str.empty]⟩
  | cons k ks ih =>
    have hk := h k List.mem_cons_self
    have ih := ih fun j hj => h j (List.mem_cons_of_mem _ hj)
    cases ks with
    | nil =>
      refine ⟨fun c z => ?_, rfl⟩
      have e : c = 97 + k := by simpa [Str.join, sg] using z
      omega
    | cons j r =>
      have e : Str.join (Str.ofString "") ((k :: j :: r).map sg) = sg k ++ Str.ofString "" ++ Str.join (Str.ofString "") ((j :: r).map sg) := rfl
      rw [e, app_cps, app_cps]
      have e0 : (Str.ofString "").cps.toList = [] := by decide
      rw [e0, List.append_nil]
      refine ⟨fun c z => ?_, ?_⟩
      · rcases List.mem_append.mp z with z | z
        · have e : c = 97 + k := by simpa [sg] using z
          omega
        · exact ih.1 c z
      · rw [List.length_append, ih.2]
        show 1 + _ = _
        simp only [List.length_cons]
        omega
theorem join_nm {ks : List Nat} (h : ∀ k ∈ ks, k < 26) (h1 : 1 ≤ ks.length) (h8 : ks.length ≤ 8) : Nm (Txt.join (Str.ofString "") (ks.map sg)) := by
  obtain ⟨a, b⟩ := join_low ks h
  exact ⟨a, by omega, by omega⟩
theorem cutTo {xs : List V} {j : Nat} (h : j ≤ xs.length) : cutV xs none (some (j : Int)) = xs.take j := by
  unfold cutV
  rw [HT.sIx_nat, HT.sIx_none, Nat.min_eq_left h]
  rfl
section
variable {P : Program} {w : World} {K : PySem.W.Frag} {mg : Str → Option Value} {base : Heap}
/-! _law_deck -/
theorem scDeck : FnScope ["_law_script", "_law_cells", "_law_seed", "_law_cell"] ["_law_script"] (defScope tDeck) := ⟨rfl, rfl, rfl, by decide +kernel, rfl, by decide +kernel, by decide +kernel⟩
def spDeck (K : PySem.W.Frag) : Sp := fun vs H Q _ => ∃ (a : Addr) (ns : List Int), vs = [.ref a] ∧ SqL K H a (ns.map V.int) ∧ ns.length ≤ 63 ∧ ∀ (d c : Addr) (G : Hp), Same H G → Dk G d c → Q (.ref d) G
theorem okDeck {f : Addr} {fd : FuncData} {k : Nat} (F : Fun K "_law_deck" "_law_deck" tDeck f fd) (ml : mg "list" = none) (mr : mg "reversed" = none) : FnOk P w K mg base CX0 (k + 1) f fd ["_law_script"] (spDeck K) := by
  refine F.ok scDeck (fun vs H Q E h => ?_) (fun cdv A outer s H vs Q E hr h => ?_)
  · obtain ⟨a, ns, rfl, _⟩ := h
    rfl
  obtain ⟨a, ns, rfl, hS, hl, q⟩ := h
  refine ⟨_, pss_cons (ps_set (i := 1) scDeck.nd rfl (.inl rfl) (Kr.pe_listRev rfl (by rfl) ml (by rfl) mr (pe_slice sl_list (pv 0) po_none (po_some pe_int))))
    (pss_cons (ps_set (i := 2) scDeck.nd rfl (.inl rfl) pe_int)
    (pss_cons (ps_for PassesOwn.never rfl (pi_list (pv 1)) (pg_name (i := 3) scDeck.nd rfl (.inl rfl))
      (pss_one (ps_set (i := 2) scDeck.nd rfl (.inl rfl) (pe_op op_mod (pe_op op_add (pe_op op_add (pe_op op_mul (pv 2) pe_int) (pe_op op_mod (pv 3) pe_int)) pe_int) pe_int))))
    (pss_one (ps_ret (pe_lst (pa_cons (pv 1) (pa_cons (pv 2) (pa_cons pe_int pa_nil)))))))), ?_⟩
  refine ⟨_, rfl, 63, rfl, a, _, rfl, hS, fun p np => ?_⟩
  refine ⟨p, _, rfl, SqL.of upd_same, fun c nc => ?_⟩
  have e0 : cutV (ns.map V.int) none (some 63) = (ns.take 63).map V.int := by
    rw [List.take_of_length_le hl]
    unfold cutV
    rw [HT.sIx_none, show HT.sIx (ns.map V.int).length (ns.map V.int).length (some 63) = min 63 (ns.map V.int).length from HT.sIx_nat _ _ 63, List.drop_zero, List.take_of_length_le]
    rw [List.length_map]
    omega
  rw [e0, ← List.map_reverse]
  generalize hm : (ns.take 63).reverse = ms
  have lm : ms.length ≤ 63 := by rw [← hm, List.length_reverse, List.length_take]; omega
  generalize hG : upd (upd H p _) c (.lst (ms.map V.int)) = G
  have gc : G c = some (.lst (ms.map V.int)) := by rw [← hG, upd_same]
  have sG : Same H G := by
    rw [← hG]
    rw [e0] at nc
    exact (newS np).trans (newS nc)
  refine ⟨_, rfl, c, rfl, ⟨_, SqL.of gc⟩, for_list (xs := ms.map V.int) (fun i σ F => F = G ∧ ∃ (sd : Int) (y : Option V), σ = [some (.ref a), some (.ref c), some (.int sd), y]) ⟨rfl, _, none, rfl⟩ (fun i σ F _ z => by rw [z.1]; exact SqL.of gc) (fun i x σ F hx z => ?_) (fun σ F z => ?_)⟩
  · obtain ⟨rfl, sd, y, rfl⟩ := z
    obtain ⟨n, rfl⟩ : ∃ n, x = .int n := by
      rw [List.getElem?_map] at hx
      cases hq : ms[i]? with
      | none => rw [hq] at hx; cases hx
      | some n => rw [hq] at hx; exact ⟨n, (Option.some.inj hx).symm⟩
    exact ⟨_, rfl, _, _, rfl, rfl, .inr ⟨by decide, by decide⟩, _, rfl, _, _, rfl, rfl, (by show (0 : Int) < 1000000007; decide), _, _, rfl, rfl, _, _, rfl, rfl, _, _, rfl, rfl, (by show (0 : Int) < 2147483629; decide), rfl, _, _, rfl⟩
  · obtain ⟨rfl, sd, y, rfl⟩ := z
    refine ⟨_, rfl, _, rfl, (by show 3 ≤ sizeLine; decide), fun d nd => q d c _ (sG.trans (newS nd)) ⟨(ne_of_none gc nd).symm, ⟨_, _, upd_same⟩, ⟨ms, ?_, lm⟩⟩⟩
    rw [upd_ne (ne_of_none gc nd)]
    exact gc
end
end Kq

namespace Kq
open PySem PySem.Spec PyProof.Rows L2
theorem Kp.free {d c p : Addr} {H G : Hp} (a : Kp d c H G) (k : Dk G d c) (h : G p = none) : H p = none := by
  obtain ⟨h1, h2⟩ := k.off h
  cases e : H p with
  | none => rfl
  | some o =>
    rw [a p o h1 h2 e] at h
    cases h
theorem sg_len (ks : List Nat) : ((ks.map sg).map (·.length)).sum = ks.length := by
  induction ks with
  | nil => rfl
  | cons k ks ih =>
    rw [List.map_cons, List.map_cons, List.sum_cons, ih, List.length_cons]
    show 1 + ks.length = _
    omega
theorem lets_get {r : Int} (h0 : 0 ≤ r) (h1 : r < 26) : atI lets.cps.toList r = some (97 + r.toNat) := by
  have e : r = ((r.toNat : Nat) : Int) := by omega
  have q := atI_nat (lets_at ⟨r.toNat, by omega⟩)
  rw [← show r = (((⟨r.toNat, by omega⟩ : Fin 26).val : Nat) : Int) from e] at q
  exact q
theorem cutKs {ks : List Nat} {j : Nat} (h : j ≤ ks.length) : cutV ((ks.map sg).map V.str) none (some (j : Int)) = ((ks.take j).map sg).map V.str := by
  rw [cutTo (by rw [List.length_map, List.length_map]; exact h), List.map_take, List.map_take]
theorem lets_len : lets.length ≤ sizeLine := by decide
/-! rules for the inside of a comprehension, the written part named -/
theorem slK {X : Cx} (K : PySem.W.Frag) (h : X.K = K) : SlR X (rSlL K) := by
  subst h
  exact sl_list
def rJn (K : PySem.W.Frag) : V → List V → Hp → VK → Prop := fun x xs H Q => ∃ a p, ∃ ys : List Str, x = .str a ∧ xs = [.ref p] ∧ (SqL K H p (ys.map V.str) ∨ SqT K H p (ys.map V.str)) ∧ (ys.map (·.length)).sum + ys.length * a.length ≤ 16777216 ∧ Q (.str (Txt.join a ys)) H
theorem pe_joinK {X : Cx} (K : PySem.W.Frag) (h : X.K = K) {o e : Expr} {apos pos : Pos} {to te : TE} (ho : PE X o to) (he : PE X e te) (hbase : attributeBase o "join" X.env (eval o X.env) = eval o X.env := by rfl) (hline : (apos.endLine == pos.line) = true := by rfl)
    (hs : starEach [e] X.env = [(false, eval e X.env)] := by rfl) : PE X (.Call (.Attribute o "join" apos) [e] [] pos) (tM1 (rJn K) to te) := by
  subst h
  exact pe_join ho he hs hbase hline
theorem join_cps : ∀ ks : List Nat, (Txt.join (Str.ofString "") (ks.map sg)).cps.toList = ks.map (97 + ·) := by
  intro ks
  rw [show ∀ a b, Txt.join a b = Str.join a b from TL.join_eq]
  induction ks with
  | nil => rfl
  | cons k ks ih =>
    cases ks with
    | nil => rfl
    | cons j r =>
      have e : Str.join (Str.ofString "") ((k :: j :: r).map sg) = sg k ++ Str.ofString "" ++ Str.join (Str.ofString "") ((j :: r).map sg) := rfl
      rw [e, app_cps, app_cps, ih]
      rfl
theorem nodupR {f : Nat → Str} : ∀ n, (∀ i j, i < n → j < n → f i = f j → i = j) → ((List.range n).map f).Nodup
  | 0, _ => List.nodup_nil
  | n + 1, h => by
    rw [List.range_succ, List.map_append]
    refine List.nodup_append.mpr ⟨nodupR n fun i j hi hj e => h i j (by omega) (by omega) e, (by simp), fun x hx y hy e => ?_⟩
    obtain ⟨i, hi, rfl⟩ := List.mem_map.mp hx
    have ey : y = f n := List.mem_singleton.mp hy
    rw [ey] at e
    have hi := List.mem_range.mp hi
    have := h i n (by omega) (by omega) e
    omega
/-- the beginnings of a word -/
def nmPre (ks : List Nat) (j : Nat) : Str := Txt.join (Str.ofString "") ((ks.take (j + 1)).map sg)
theorem nmPre_inj {ks : List Nat} {n i j : Nat} (hn : n ≤ ks.length) (hi : i < n) (hj : j < n) (h : nmPre ks i = nmPre ks j) : i = j := by
  have e : (ks.take (i + 1)).map (97 + ·) = (ks.take (j + 1)).map (97 + ·) := by
    rw [← join_cps, ← join_cps]
    exact congrArg (fun s : Str => s.cps.toList) h
  have e2 := congrArg List.length e
  rw [List.length_map, List.length_map, List.length_take, List.length_take] at e2
  omega
/-- a word with another letter at a place -/
def nmAt (ls : List Nat) (a k j : Nat) : Str := Txt.join (Str.ofString "") ((ls.set a ((((k : Nat) : Int) + (0 + (j : Int))) % 26).toNat).map sg)
theorem nmAt_inj {ls : List Nat} {a k i j : Nat} (ha : a < ls.length) (hi : i < 26) (hj : j < 26) (h : nmAt ls a k i = nmAt ls a k j) : i = j := by
  have e : (ls.set a ((((k : Nat) : Int) + (0 + (i : Int))) % 26).toNat).map (97 + ·) = (ls.set a ((((k : Nat) : Int) + (0 + (j : Int))) % 26).toNat).map (97 + ·) := by
    rw [← join_cps, ← join_cps]
    exact congrArg (fun s : Str => s.cps.toList) h
  have e2 := congrArg (fun l => l[a]?) e
  simp only [List.getElem?_map, List.getElem?_set_self ha, Option.map_some] at e2
  have e3 := Option.some.inj e2
  omega
section
variable {P : Program} {w : World} {K : PySem.W.Frag} {mg : Str → Option Value} {base : Heap}
abbrev nNames : List Str := ["_law_deck_here", "_law_many", "_law_letters", "_law_k", "_law_word", "_law_long", "_law_at", "_law_found", "_law_one"]
theorem scNames : FnScope nNames ["_law_deck_here", "_law_many"] (defScope tNames) := ⟨rfl, rfl, rfl, by decide +kernel, rfl, by decide +kernel, by decide +kernel⟩
def spNames : Sp := fun vs H Q _ => ∃ (d c : Addr) (m : Int), vs = [.ref d, .int m] ∧ Dk H d c ∧ 0 ≤ m ∧ m ≤ 8 ∧
  ∀ (l : Addr) (xs : List Str) (G : Hp), Kp d c H G → Dk G d c → H l = none → G l = some (.lst (xs.map V.str)) → xs.length = m.toNat → (∀ x ∈ xs, Nm x) → xs.Nodup → Q (.ref l) G
theorem okNames {f fD : Addr} {fd fdD : FuncData} {k : Nat} (F : Fun K "_law_names" "_law_names" tNames f fd) (GD : FnOk P w K mg base CX0 (k + 2) fD fdD ["_law_deck_here", "_law_most"] spDraw) (bD : Binds K fdD ["_law_deck_here", "_law_most"] []) (gD : mg "_law_draw" = some (.ref fD)) (kD : PySem.W.keepIn K (.ref fD) = true)
    (ml : mg "list" = none) (mr : mg "range" = none) : FnOk P w K mg base CX0 (k + 3) f fd ["_law_deck_here", "_law_many"] spNames := by
  refine F.ok scNames (fun vs H Q E h => ?_) (fun cdv A outer s H vs Q E hr h => ?_)
  · obtain ⟨d, c, m, rfl, _⟩ := h
    rfl
  obtain ⟨d, c, m, rfl, dk, m0, m1, q⟩ := h
  refine ⟨_, pss_cons (ps_set (i := 2) scNames.nd rfl (.inr rfl) pe_str)
    (pss_cons (ps_set (i := 4) scNames.nd rfl (.inr rfl) (pe_lc (own := [("_law_k", 3)]) (g := gName 3) (by rfl) scNames.nd (pi_range1 (by rfl) mr (pa_cons pe_int pa_nil)) (blkOk_by (own := [("_law_k", 3)]) (N := nNames) (sc := defScope tNames) (by decide +kernel))
        (fun _ _ _ _ _ => pg_name (i := 3) scNames.nd rfl (.inl rfl)) (fun _ _ _ _ _ => pts_nil)
        (fun _ _ _ _ _ => pe_ix ix_str (pv 2) (pe_call GD hr (by rfl) gD kD bD .nil pass0 (pa_cons (pv 0) (pa_cons pe_int pa_nil))) (fun _ _ => rfl))))
    (pss_cons (ps_set (i := 5) scNames.nd rfl (.inl rfl) (pe_op op_add pe_int (pe_call GD hr (by rfl) gD kD bD .nil pass0 (pa_cons (pv 0) (pa_cons pe_int pa_nil)))))
    (pss_cons (ps_set (i := 6) scNames.nd rfl (.inl rfl) (pe_call GD hr (by rfl) gD kD bD .nil pass0 (pa_cons (pv 0) (pa_cons (pv 5) pa_nil))))
    (pss_cons (ps_if (pt_cmpR op_eq (pe_call GD hr (by rfl) gD kD bD .nil pass0 (pa_cons (pv 0) (pa_cons pe_int pa_nil))) pe_int (nomark _))
      (pss_one (ps_ret (pe_lc (own := [("_law_k", 3)]) (g := gName 3) (by rfl) scNames.nd (pi_range1 (by rfl) mr (pa_cons (pv 1) pa_nil)) (blkOk_by (own := [("_law_k", 3)]) (N := nNames) (sc := defScope tNames) (by decide +kernel))
        (fun _ _ _ _ _ => pg_name (i := 3) scNames.nd rfl (.inl rfl)) (fun _ _ _ _ _ => pts_nil)
        (fun _ _ _ _ _ => pe_joinK K rfl pe_str (pe_slice (slK K rfl) (pv 4) po_none (po_some (pe_op op_add pe_int (pv 3)))))))) pss_nil)
    (pss_cons (ps_set (i := 7) scNames.nd rfl (.inl rfl) (pe_lst pa_nil))
    (pss_cons (ps_for PassesOwn.never rfl (pi_range1 (by rfl) mr (pa_cons (pv 1) pa_nil)) (pg_name (i := 3) scNames.nd rfl (.inl rfl))
      (pss_cons (ps_set (i := 8) scNames.nd rfl (.inl rfl) (pe_callTy call_list_of (by rfl) ml boot_list (pa_cons (pe_slice sl_list (pv 4) po_none (po_some (pv 5))) pa_nil)))
      (pss_cons (ps_asg (pe_ix ix_str (pv 2) (pe_op op_mod (pe_op op_add (pe_bm PySem.F.plainAttrs_str PySem.F.slot_str_index PySem.F.type_str_index mt_sindex (pv 2) (pa_cons (pe_ix ix_list (pv 4) (pv 6) (fun _ _ => rfl)) pa_nil)) (pv 3)) pe_int) (fun _ _ => rfl)) (pg_sub (pv 8) (pv 6) set_list))
      (pss_one (ps_expr (pe_bm PySem.F.plainAttrs_list PySem.F.slot_list_append PySem.F.type_list_append mt_append (pv 7) (pa_cons (pe_join pe_str (pv 8)) pa_nil)))))))
    (pss_one (ps_ret (pv 7))))))))), ?_⟩
  -- the word
  refine ⟨8, rfl, by decide, by decide, fun W nW => lc_range (lo := 0) (n := 8) (fun i G => Kp d c H G ∧ Dk G d c ∧ ∃ ks : List Nat, ks.length = i ∧ (∀ k ∈ ks, k < 26) ∧ G W = some (.lst ((ks.map sg).map V.str)))
    ⟨(Kp.rfl).mk nW, dk.put (dk.off nW).1 (dk.off nW).2, [], rfl, (fun _ z => nomatch z), upd_same⟩ (fun i G hi z => ?_) (fun G z => ?_)⟩
  · obtain ⟨kp, dk1, ks, lk, hk, gW⟩ := z
    refine ⟨rfl, _, rfl, _, rfl, d, c, 26, rfl, dk1, by decide, by decide, fun r G1 r0 r1 kp1 dk2 => ?_⟩
    have off := dk.off nW
    have gW1 := kp1 W _ off.1 off.2 gW
    refine ⟨_, r, 97 + r.toNat, rfl, rfl, lets_len, lets_get r0 r1, _, gW1, ?_, (kp.trans kp1).mk nW, dk2.put off.1 off.2, ks ++ [r.toNat], ?_, ?_, ?_⟩
    · rw [List.length_map, List.length_map]
      exact small1000 (by omega)
    · rw [List.length_append, lk]
      rfl
    · intro j hj
      rcases List.mem_append.mp hj with hj | hj
      · exact hk j hj
      · rw [List.mem_singleton.mp hj]
        omega
    · rw [upd_same, List.map_append, List.map_append]
      rfl
  obtain ⟨kp, dk1, ks, lk, hk, gW⟩ := z
  have off := dk.off nW
  -- long, at
  refine ⟨_, rfl, d, c, 8, rfl, dk1, by decide, by decide, fun r5 G5 a0 a1 kp5 dk5 => ⟨_, _, rfl, rfl, ?_⟩⟩
  refine ⟨_, rfl, _, rfl, d, c, _, rfl, dk5, by omega, by omega, fun r6 G6 b0 b1 kp6 dk6 => ?_⟩
  refine ⟨_, rfl, d, c, 4, rfl, dk6, by decide, by decide, fun r7 G7 c0 c1 kp7 dk7 => ?_⟩
  have kpW : Kp d c G G7 := kp5.trans (kp6.trans kp7)
  have gW7 := kpW W _ off.1 off.2 gW
  have kp7' : Kp d c H G7 := kp.trans kpW
  clear kp5 kp6 kp7 dk5 dk6 gW kp dk1 kpW
  refine ⟨rfl, _, rfl, ite2 (fun c9 => ?b1) (fun _ => ?b2)⟩
  case b1 =>
    have m9 : m < 9 := by omega
    refine ⟨_, rfl, m, rfl, by omega, by omega, fun D nD => lc_range (lo := 0) (n := m.toNat) (fun i G => Kp d c H G ∧ Dk G d c ∧ G W = some (.lst ((ks.map sg).map V.str)) ∧ ∃ xs : List Str, xs.length = i ∧ (∀ x ∈ xs, Nm x) ∧ G D = some (.lst (xs.map V.str)) ∧ xs = (List.range i).map (nmPre ks)) ?_ (fun i G hi z => ?_) (fun G z => ?_)⟩
    · exact ⟨kp7'.mk (kp7'.free dk7 nD), dk7.put (dk7.off nD).1 (dk7.off nD).2, by rw [upd_ne (ne_of_none gW7 nD)]; exact gW7, [], rfl, (fun _ z => nomatch z), upd_same, rfl⟩
    · obtain ⟨kpi, dki, gWi, xs, lx, hx, gD', exs⟩ := z
      refine ⟨rfl, ⟨_, rfl⟩, _, rfl, _, rfl, _, _, rfl, rfl, ((i + 1 : Nat) : Int), congrArg V.int (by omega), W, _, rfl, SqL.of gWi, fun p np => ?_⟩
      rw [cutKs (ks := ks) (j := i + 1) (by omega)]
      have lt : (ks.take (i + 1)).length = i + 1 := by rw [List.length_take]; omega
      refine ⟨_, p, (ks.take (i + 1)).map sg, rfl, rfl, .inl (SqL.of upd_same), ?_, xs.map V.str, ?_, ?_, ?_⟩
      · rw [sg_len, List.length_map, lt]
        show i + 1 + (i + 1) * 0 ≤ 16777216
        omega
      · rw [upd_ne (ne_of_none gD' np)]
        exact gD'
      · rw [List.length_map]
        exact small1000 (by omega)
      · have hD : H D = none := kp7'.free dk7 nD
        refine ⟨(kpi.mk (kpi.free dki np)).mk hD, (dki.put (dki.off np).1 (dki.off np).2).put (dk7.off nD).1 (dk7.off nD).2, ?_, xs ++ [Txt.join (Str.ofString "") ((ks.take (i + 1)).map sg)], ?_, ?_, ?_, ?_⟩
        · rw [upd_ne (ne_of_none gW7 nD), upd_ne (ne_of_none gWi np)]
          exact gWi
        · rw [List.length_append, lx]
          rfl
        · intro x hx'
          rcases List.mem_append.mp hx' with z | z
          · exact hx x z
          · rw [List.mem_singleton.mp z]
            exact join_nm (fun j hj => hk j (List.mem_of_mem_take hj)) (by omega) (by omega)
        · rw [upd_same, List.map_append]
          rfl
        · rw [exs, List.range_succ, List.map_append]
          rfl
    · obtain ⟨kpi, dki, gWi, xs, lx, hx, gD', exs⟩ := z
      refine q D xs G kpi dki (kp7'.free dk7 nD) gD' lx hx ?_
      rw [exs]
      exact nodupR _ fun i j hi hj e => nmPre_inj (ks := ks) (n := m.toNat) (by omega) hi hj e
  case b2 =>
    refine ⟨Nat.zero_le _, fun Fd nF => ?_⟩
    have hF : H Fd = none := kp7'.free dk7 nF
    have offF := dk7.off nF
    have nFW : W ≠ Fd := ne_of_none gW7 nF
    refine ⟨_, rfl, m, rfl, by omega, by omega, for_range (lo := 0) (n := m.toNat) (fun i σ G => ∃ y3 y8, σ = [some (.ref d), some (.int m), some (.str lets), y3, some (.ref W), some (.int (1 + r5)), some (.int r6), some (.ref Fd), y8] ∧
      Kp d c H G ∧ Dk G d c ∧ G W = some (.lst ((ks.map sg).map V.str)) ∧ ∃ xs : List Str, xs.length = i ∧ (∀ x ∈ xs, Nm x) ∧ G Fd = some (.lst (xs.map V.str)) ∧ xs = (List.range i).map (nmAt (ks.take (1 + r5).toNat) r6.toNat (ks.getD r6.toNat 0))) ?_ (fun i σ G hi z => ?_) (fun σ G z => ?_)⟩
    · exact ⟨_, _, rfl, kp7'.mk hF, dk7.put offF.1 offF.2, by rw [upd_ne nFW]; exact gW7, [], rfl, (fun _ z => nomatch z), upd_same, rfl⟩
    · obtain ⟨y3, y8, rfl, kpi, dki, gWi, xs, lx, hx, gF, exs⟩ := z
      refine ⟨_, rfl, _, rfl, (((1 + r5).toNat : Nat) : Int), congrArg V.int (by omega), W, _, rfl, SqL.of gWi, fun p np => ?_⟩
      rw [cutKs (ks := ks) (j := (1 + r5).toNat) (by omega)]
      refine ⟨p, _, rfl, .inl (SqL.of upd_same), fun o no => ?_⟩
      have kp1 : Same G (upd (upd G p (.lst (((ks.take (1 + r5).toNat).map sg).map V.str))) o (.lst (((ks.take (1 + r5).toNat).map sg).map V.str))) := (newS np).trans (newS no)
      have gW1 := kp1 _ _ gWi
      have gF1 := kp1 _ _ gF
      have oG : G o = none := (newS np).free no
      generalize hG1 : upd (upd G p _) o (.lst (((ks.take (1 + r5).toNat).map sg).map V.str)) = G1 at kp1 gW1 gF1
      have gO : G1 o = some (.lst (((ks.take (1 + r5).toNat).map sg).map V.str)) := by rw [← hG1, upd_same]
      clear hG1
      have hat : r6.toNat < ks.length := by omega
      have h26 : ks[r6.toNat] < 26 := hk _ (List.getElem_mem hat)
      have e6 : r6 = ((r6.toNat : Nat) : Int) := by omega
      have gat : atI ((ks.map sg).map V.str) r6 = some (.str (sg ks[r6.toNat])) := by
        have z := atI_nat (xs := (ks.map sg).map V.str) (j := r6.toNat) (v := .str (sg ks[r6.toNat])) (by rw [List.getElem?_map, List.getElem?_map, List.getElem?_eq_getElem hat]; rfl)
        rw [← e6] at z
        exact z
      have occ : Builtin.Str.occurrences lets (sg ks[r6.toNat]) 0 lets.length 1 = [ks[r6.toNat]] := lets_ix ⟨ks[r6.toNat], h26⟩
      generalize hv : (((ks[r6.toNat] : Nat) : Int) + (0 + (i : Int))) % 26 = v
      have v0 : 0 ≤ v := by rw [← hv]; exact Int.emod_nonneg _ (by decide)
      have v1 : v < 26 := by rw [← hv]; exact Int.emod_lt_of_pos _ (by decide)
      refine ⟨_, rfl, _, rfl, rfl, _, rfl, _, rfl, W, _, _, _, rfl, rfl, SqL.of gW1, gat, lets, _, _, _, rfl, rfl, occ, _, rfl, _, _, rfl, rfl, _, _, rfl, rfl, (by show (0 : Int) < 26; decide), _, v, 97 + v.toNat, rfl, congrArg V.int hv, lets_len, lets_get v0 v1, ?_⟩
      have lq : ((ks.take (1 + r5).toNat).map sg).length = (1 + r5).toNat := by rw [List.length_map, List.length_take]; omega
      have eix : ixN (((ks.take (1 + r5).toNat).map sg).map V.str).length r6 = some r6.toNat := by
        unfold ixN
        rw [List.length_map, lq, if_pos b0, if_pos (by omega)]
      refine ⟨_, rfl, _, rfl, o, _, _, r6.toNat, rfl, rfl, gO, eix, ?_⟩
      have eset : ((((ks.take (1 + r5).toNat).map sg).map V.str).set r6.toNat (.str ⟨#[97 + v.toNat]⟩)) = ((((ks.take (1 + r5).toNat).set r6.toNat v.toNat).map sg).map V.str) := by
        rw [List.map_set, List.map_set]
        rfl
      rw [eset]
      generalize hls : (ks.take (1 + r5).toNat).set r6.toNat v.toNat = ls
      have ll : ls.length = (1 + r5).toNat := by rw [← hls, List.length_set, List.length_take]; omega
      have hls2 : ∀ k ∈ ls, k < 26 := fun j hj => by
        rw [← hls] at hj
        rcases List.mem_or_eq_of_mem_set hj with z | z
        · exact hk j (List.mem_of_mem_take z)
        · rw [z]
          omega
      have nFo : Fd ≠ o := fun z => by
        rw [z] at gF
        rw [gF] at oG
        cases oG
      have nWo : W ≠ o := fun z => by
        rw [z] at gWi
        rw [gWi] at oG
        cases oG
      have gF2 : (upd G1 o (.lst ((ls.map sg).map V.str))) Fd = some (.lst (xs.map V.str)) := by
        rw [upd_ne nFo]
        exact gF1
      refine ⟨_, rfl, .inl ⟨rfl, _, SqL.of gF2⟩, ⟨_, rfl⟩, _, rfl, _, o, ls.map sg, rfl, rfl, .inl (SqL.of upd_same), ?_, Fd, _, _, rfl, rfl, gF2, ?_, ?_⟩
      · rw [sg_len, List.length_map, ll]
        show (1 + r5).toNat + (1 + r5).toNat * 0 ≤ 16777216
        omega
      · rw [List.length_map]
        exact small1000 (by omega)
      · have oH : H o = none := kpi.free dki oG
        have offo := dki.off oG
        refine ⟨_, _, rfl, ((kpi.trans (Kp.of kp1)).mk oH).mk hF, ((dki.same kp1).put offo.1 offo.2).put offF.1 offF.2, ?_, xs ++ [Txt.join (Str.ofString "") (ls.map sg)], ?_, ?_, ?_, ?_⟩
        · rw [upd_ne nFW, upd_ne nWo]
          exact gW1
        · rw [List.length_append, lx]
          rfl
        · intro x hx'
          rcases List.mem_append.mp hx' with z | z
          · exact hx x z
          · rw [List.mem_singleton.mp z]
            exact join_nm hls2 (by omega) (by omega)
        · rw [upd_same, List.map_append]
          rfl
        · rw [exs, List.range_succ, List.map_append, ← hls, ← hv]
          have eg : ks.getD r6.toNat 0 = ks[r6.toNat] := by simp [List.getD, List.getElem?_eq_getElem hat]
          rw [eg]
          rfl
    · obtain ⟨y3, y8, rfl, kpi, dki, gWi, xs, lx, hx, gF, exs⟩ := z
      refine ⟨_, rfl, q Fd xs G kpi dki hF gF lx hx ?_⟩
      rw [exs]
      exact nodupR _ fun i j hi hj e => nmAt_inj (by rw [List.length_take]; omega) (by omega) (by omega) e
end
end Kq

namespace Kq
open PySem PySem.Spec PyProof.Rows L2
/-- the tuples stay -/
def Tk (H G : Hp) : Prop := ∀ b xs, H b = some (.tup xs) → G b = some (.tup xs)
theorem Tk.of {H G : Hp} (s : Same H G) : Tk H G := fun b xs e => s b _ e
theorem Tk.rfl {H : Hp} : Tk H H := fun _ _ e => e
theorem Tk.trans {H G F : Hp} (a : Tk H G) (b : Tk G F) : Tk H F := fun x o e => b x o (a x o e)
theorem Tk.kp {H G : Hp} {d c : Addr} (a : Kp d c H G) (k : Dk H d c) : Tk H G := fun b xs e => by
  obtain ⟨n, ⟨s, k0, hd⟩, ⟨ns, hc, _⟩⟩ := k
  refine a b _ (fun z => ?_) (fun z => ?_) e
  · rw [z, hd] at e
    cases e
  · rw [z, hc] at e
    cases e
theorem Tk.put {H G : Hp} {p : Addr} {o : HO} (a : Tk H G) (h : ∀ xs, H p ≠ some (.tup xs)) : Tk H (upd G p o) := fun b xs e => by
  rw [upd_ne (fun z => h xs (by rw [← z]; exact e))]
  exact a b xs e
theorem cutFrom1 (x : V) (vs : List V) : cutV (x :: vs) (some 1) none = vs := by
  unfold cutV
  rw [show HT.sIx (x :: vs).length 0 (some 1) = min 1 (x :: vs).length from HT.sIx_nat _ _ 1, HT.sIx_none, List.length_cons, Nat.min_eq_left (by omega)]
  show (vs.take (vs.length + 1 - 1)) = vs
  rw [Nat.add_sub_cancel, List.take_length]
theorem notWhole (x : V) (vs : List V) : ¬ (HT.sIx (x :: vs).length 0 (some 1) = 0 ∧ HT.sIx (x :: vs).length (x :: vs).length none = (x :: vs).length) := by
  rw [show HT.sIx (x :: vs).length 0 (some 1) = min 1 (x :: vs).length from HT.sIx_nat _ _ 1, List.length_cons, Nat.min_eq_left (by omega)]
  rintro ⟨h, _⟩
  cases h
theorem smk {H G : Hp} {p : Addr} {o : HO} (a : Same H G) (h : H p = none) : Same H (upd G p o) := fun b u e => by
  rw [upd_ne (ne_of_none e h)]
  exact a b u e
end Kq

namespace Kq
open PySem PySem.Spec PyProof.Rows L2
theorem Nm.ok {x : Str} (h : Nm x) : PyData.strOk x = true := by
  unfold PyData.strOk
  rw [← Array.all_toList, List.all_eq_true]
  intro c hc
  have := (h.low c hc).2
  exact decide_eq_true (by omega)
theorem dpStrs (K : PySem.W.Frag) (H : Hp) : ∀ xs : List Str, DpAll K H (xs.map V.str) (xs.map PyData.str)
  | [] => .nil
  | x :: xs => .cons (.str x) (dpStrs K H xs)
theorem layStrs : ∀ xs : List Str, (∀ x ∈ xs, Nm x) → PyData.canLayAll0 (xs.map PyData.str) = true ∧ PyData.depthAll (xs.map PyData.str) = 0
  | [], _ => ⟨by simp [PyData.canLayAll0], by simp [PyData.depthAll]⟩
  | x :: xs, h => by
    obtain ⟨a, b⟩ := layStrs xs fun y hy => h y (List.mem_cons_of_mem _ hy)
    have c := (h x List.mem_cons_self).ok
    exact ⟨by simp [PyData.canLayAll0, PyData.canLay0, a, c], by simp [PyData.depthAll, PyData.depth, b]⟩
theorem shStrs {xs : List Str} (h : ∀ x ∈ xs, Nm x) : SeqAt.shaped (.list (xs.map PyData.str)) = true := by
  obtain ⟨a, b⟩ := layStrs xs h
  simp [SeqAt.shaped, PyData.canLay0, PyData.depth, a, b]
theorem eqvNil (xs : List Str) : PyData.eqv (.list (xs.map PyData.str)) (.list []) = xs.isEmpty := by
  cases xs <;> simp [PyData.eqv, PyData.eqvAll]
theorem isiK {X : Cx} (K : PySem.W.Frag) (h : X.K = K) : CallR X (.builtin "isinstance") (rIsi K) := by
  subst h
  exact call_isi
theorem ixTK {X : Cx} (K : PySem.W.Frag) (h : X.K = K) : IxR X (rIxT K) := by
  subst h
  exact ix_tup
section
variable {P : Program} {w : World} {K : PySem.W.Frag} {mg : Str → Option Value} {base : Heap}
theorem noFn {f : Addr} {fd : FuncData} {ps : List Str} {sp : Sp} {k : Nat} (no : ∀ vs H Q E, ¬ sp vs H Q E) : FnOk P w K mg base CX0 k f fd ps sp :=
  ⟨fun vs H Q E h => absurd h (no vs H Q E), fun A outer s H args us vs Q E _ _ _ _ h => absurd h (no vs H Q E)⟩
end
end Kq

/-! all(..) of a generator expression whose element may call defs -/
namespace Kg
open PySem PySem.Spec PyProof.Rows L2 GenW GxR
open Sem (wp)
theorem over_startC {A : Around} {elt t it : Expr} {ifs : List Expr} {scope : Scope} {pos : Pos} {iv acc : Value} {env : Env} : A.over (.compStart (.GeneratorExp elt [⟨t, it, ifs, 0⟩] scope pos) 0 iv acc env) [] = A.deeper env := by
  first
    | rfl
    | (obtain ⟨hd, d, fr, gs, u⟩ := A; simp [Around.over, Around.deeper, marksOver, frameCount, unitsOf, envsOf, guardsOf, pushEnvs, pushGuards, Code.envs, Code.env?, Code.isFrame, Code.guards, Code.isGuard, Code.weight, Code.frames, Code.isCreation, Code.isCaller, Code.cUnits])
theorem over_loopC {A : Around} {elt t it : Expr} {ifs : List Expr} {scope : Scope} {pos : Pos} {iv acc : Value} {env : Env} : A.over (.compLoop (.GeneratorExp elt [⟨t, it, ifs, 0⟩] scope pos) 0 iv acc env) [] = A.deeper env := by
  first
    | rfl
    | (obtain ⟨hd, d, fr, gs, u⟩ := A; simp [Around.over, Around.deeper, marksOver, frameCount, unitsOf, envsOf, guardsOf, pushEnvs, pushGuards, Code.envs, Code.env?, Code.isFrame, Code.guards, Code.isGuard, Code.weight, Code.frames, Code.isCreation, Code.isCaller, Code.cUnits])
/-- the scope of a generator expression within a def: its own names, those that it captures (with their places in N) -/
structure GxS (N : List Str) (sc scope : Scope) (own : List Str) (caps : List (Str × Nat)) : Prop where
  kind : scope.kind = .function
  co : scope.isCoroutine = false
  cell : ∀ y ∈ scope.names, y.2 ≠ .cell
  dot : scope.names.lookup (".0" : Str) = some NameKind.local
  nd : (own ++ caps.map (·.1)).Nodup
  caps : ∀ p ∈ caps, N[p.2]? = some p.1 ∧ scope.names.lookup p.1 = some .free
  free : ∀ y ∈ scope.names, y.2 = .free → sc.names.lookup y.1 = some .cell ∨ sc.names.lookup y.1 = some .free
  uniq : ∀ y ∈ scope.names, scope.names.lookup y.1 = some y.2
abbrev gxN (own : List Str) (caps : List (Str × Nat)) : List Str := own ++ caps.map (·.1)
abbrev gxSt (own : List Str) (caps : List (Str × Nat)) (σ : L2.St) : L2.St := own.map (fun _ => none) ++ caps.map (fun p => (σ[p.2]?).join)
abbrev gxEnv (X : Cx) (scope : Scope) (C : Addr) (code : Value) : Env := genEnv scope (cloFrom X.env.cells scope.names []) C code builtinsNs X.env
/-- the context of its frame -/
abbrev gcx (X : Cx) (A : Around) (N : List Str) (s : Shared) (H : Hp) (cenv : Env) (fp : List Addr) : Cx :=
  { X with A := A.deeper cenv, N := N, s_0 := s, H_0 := H, env := cenv, outer := X.stack, stack := cenv :: X.stack, ex := fp, fn := fun _ => false, calm := true, pn := [], xe := fun _ _ => False }
section
variable {X : Cx} {pins : List (Addr × Obj)} {σ : L2.St} {H : Hp} {s : Shared}
theorem gx_start {A : Around} {scope : Scope} {own : List Str} {caps : List (Str × Nat)} {fp : List Addr} {code : Value} {m0 : Str → Option Value} {s1 : Shared} (I : Inv X pins σ H s) (S : GxS X.N X.env.scope scope own caps) (hh : A.handled = none) (hfr : A.frames = some X.stack)
    (hfp : ∀ b ∈ fp, FpOk X pins H b ∧ b < s.heap.objs.size) (hns : s1.heap.Ns s.heap.objs.size m0) (kp : ∀ b o, s.heap.get? b = some o → s1.heap.get? b = some o) (hos : s1.os = s.os) (hb : AllBare s1.gens) :
    Inv (gcx X A (gxN own caps) s H (gxEnv X scope s.heap.objs.size code) fp) [] (gxSt own caps σ) H s1 := by
  have hfree : ∀ y ∈ scope.names, y.2 = .free → ∃ c, X.env.cells.lookup y.1 = some c := fun y hy e => by
    rcases S.free y hy e with k | k
    · exact I.ok.has _ (.inl k)
    · exact I.ok.has _ (.inr k)
  have cm : ∀ {y c}, (y, c) ∈ cloFrom X.env.cells scope.names [] → X.env.cells.lookup y = some c ∧ c < s.heap.objs.size := fun {y c} hm => by
    rcases cloFrom_mem hm with hm | ⟨h1, rfl⟩
    · cases hm
    · obtain ⟨c, hc⟩ := hfree _ h1 rfl
      rw [hc]
      obtain ⟨w, z⟩ := I.cell _ _ hc
      exact ⟨rfl, z.lt⟩
  have mem : ∀ {y c}, (cloFrom X.env.cells scope.names []).lookup y = some c → X.env.cells.lookup y = some c ∧ c < s.heap.objs.size := fun {y c} e => cm (PySem.mem_of_lookup e)
  have look : ∀ {y}, scope.names.lookup y = some .free → ∃ c, (cloFrom X.env.cells scope.names []).lookup y = some c := fun {y} hl => by
    have hy : (y, NameKind.free) ∈ scope.names := PySem.mem_of_lookup hl
    exact mem_lookup (cloFrom_has (cells := X.env.cells) (acc := []) hy)
  have nfs : ∀ b o, X.base.get? b = some o → b ∉ frs X.stack := fun b o e z => by
    rcases List.mem_cons.mp (I.stkSub b z) with z | z
    · have h1 := Heap.lt_size e
      have h2 := Nat.le_trans I.ok.bsz I.ok.above
      rw [z] at h1
      exact absurd (Nat.lt_of_lt_of_le h1 h2) (Nat.lt_irrefl _)
    · exact I.ok.nofr e z
  have okB : (gcx X A (gxN own caps) s H (gxEnv X scope s.heap.objs.size code) fp).Ok := by
    refine ⟨I.ok.mod, S.kind, I.ok.glob, rfl, Nat.le_refl _, fun y z c e1 e2 => I.ok.inj y z c (mem e1).1 (mem e2).1, fun y hy => ?_, fun y c z e => ?_, fun _ => hh, ?_, .inr ⟨rfl, rfl⟩, fun b hb => ⟨Nat.ne_of_lt (hfp b hb).2, fun y c e z => (hfp b hb).1.2.2.2.2.1 y c (mem e).1 z⟩,
      I.bs, Nat.le_trans I.ok.bsz I.sz, fun b o e hb => ?_, fun b hb z => ?_, I.stack, I.stkFree⟩
    · have hy : scope.names.lookup y = some .cell ∨ scope.names.lookup y = some .free := hy
      rcases hy with hy | hy
      · exact absurd rfl (S.cell _ (PySem.mem_of_lookup hy))
      · exact look hy
    · cases z
    · exact Around.frames_deeper hfr
    · rcases (hfp b hb).1.2.2.2.1 with z | z
      · exact I.ok.noex b o e z
      · exact absurd (Nat.lt_of_lt_of_le (Heap.lt_size e) (Nat.le_trans I.ok.bsz z)) (Nat.lt_irrefl _)
    · rcases List.mem_cons.mp (I.stkSub b z) with z | z
      · exact (hfp b hb).1.2.1 z
      · exact (hfp b hb).1.2.2.1 z
  refine ⟨okB, hos, hb, Un.kept kp, ⟨m0, hns, fun i y av e1 e2 e3 => ?_⟩, fun y c e => ?_, I.hok.fresh (Nat.le_refl _), fun y c e => ?_, fun p hp => ?_, I.hok.kept kp, ?_⟩
  · have e1 : (own ++ caps.map (·.1))[i]? = some y := e1
    have e2 : (own.map (fun _ => (none : Option V)) ++ caps.map (fun p => (σ[p.2]?).join))[i]? = some (some av) := e2
    by_cases hi : i < own.length
    · rw [List.getElem?_append_left (by rw [List.length_map]; exact hi), List.getElem?_map, List.getElem?_eq_getElem hi] at e2
      cases e2
    · rw [List.getElem?_append_right (by rw [List.length_map]; omega), List.length_map, List.getElem?_map] at e2
      rw [List.getElem?_append_right (by omega), List.getElem?_map] at e1
      cases hc : caps[i - own.length]? with
      | none => rw [hc] at e1; cases e1
      | some p =>
        rw [hc] at e1 e2
        have e1 : p.1 = y := Option.some.inj e1
        have e2 : (σ[p.2]?).join = some av := Option.some.inj e2
        obtain ⟨hN, hf⟩ := S.caps p (List.mem_of_getElem? hc)
        have hσ : σ[p.2]? = some (some av) := by
          cases q : σ[p.2]? with
          | none => rw [q] at e2; cases e2
          | some o => rw [q] at e2; exact congrArg some e2
        have hv : X.env.scope.names.lookup p.1 = some .cell ∨ X.env.scope.names.lookup p.1 = some .free := S.free (p.1, .free) (PySem.mem_of_lookup hf) rfl
        obtain ⟨m, hm, hl⟩ := I.loc
        obtain ⟨u, ru, lk⟩ := hl p.2 p.1 av hN hσ (.inr hv)
        subst e1
        refine ⟨u, ru, .inr ⟨.inr hf, ?_⟩⟩
        obtain ⟨c, hc'⟩ := look hf
        refine ⟨c, hc', ?_⟩
        rcases lk with ⟨h1, _⟩ | ⟨_, c2, h2, h3⟩
        · have h1 : X.env.scope.names.lookup p.1 = some .local := h1
          rcases hv with hv | hv
          · rw [hv] at h1; cases h1
          · rw [hv] at h1; cases h1
        · rw [(mem hc').1] at h2
          cases h2
          obtain ⟨o, ho, hd⟩ := h3
          exact ⟨o, kp _ _ ho, hd⟩
  · obtain ⟨v, o, ho, hd⟩ := I.cell y c (mem e).1
    exact ⟨v, o, kp _ _ ho, hd⟩
  · exact I.freeC y c (mem e).1
  · exact absurd (show p ∈ ([] : List (Addr × Obj)) ++ [] from hp) (by simp)
  · show (own.map (fun _ => (none : Option V)) ++ caps.map (fun p => (σ[p.2]?).join)).length = (own ++ caps.map (·.1)).length
    simp
end
/-! the protocol -/
/-- behind the whole: only the table of generators has turned, things may be new -/
def Done (Qf : Value → Shared → Prop) (b : Bool) (s : Shared) : Prop := ∀ s' : Shared, (∀ x o, s.heap.get? x = some o → s'.heap.get? x = some o) → s'.os = s.os → AllBare s'.gens → Qf (.bool b) s'
def GEndA (Qf : Value → Shared → Prop) : Nat → Shared → Shared → Prop := fun _ _ s => AllBare s.gens ∧ Done Qf true s
def GProto (Qf : Value → Shared → Prop) (a : Addr) (g : Nat) : Protocol := fun _ _ v s kap =>
  ∃ b : Bool, v = .bool b ∧ s.heap.IsGen a g ∧ s.heap.NoLimit ∧ AllBare s.gens ∧ (b = true → ∀ s' : Shared, s'.heap = s.heap → s'.os = s.os → AllBare s'.gens → kap (.send .none) s') ∧ (b = false → Done Qf false s)
section
variable {P : Program} {w : World} {A : Around} {Qf : Value → Shared → Prop} {a : Addr} {g : Nat}
/-- all's own loop -/
theorem all_drain (hh : A.handled = none) (hd : A.depth < recursionLimit) : ∀ (n : Nat) (s : Shared), s.heap.IsGen a g → s.heap.NoLimit →
    (∃ gs, s.gens[g]? = some gs ∧ gs.Goes (model P w) A.in1.in1 (fun n s₀ r s₁ => r = .ok .next ∧ GEndA Qf n s₀ s₁) (GProto Qf a g) n (.send .none) (s.setGen g .running)) →
    codeAny (model P w) A (.builtin "all.loop" ⟨[.ref a], []⟩) (fun r s' => ∃ b : Bool, r = .ok (.ret (.bool b)) ∧ Qf (.bool b) s') s := by
  intro n
  induction n with
  | zero =>
    intro s hg hl ⟨gs, hgs, hgo⟩
    refine codeAny_builtin F.entry_all_loop ?_
    rw [Around.under_plainId F.plain_all_loop _]
    show wpAny _ A.in1 (pyNext (.ref a) >>= _) _ _ s
    refine wpAny_bind (wpAny_pyNext_genexpQ (A := A.in1) (P := GEndA Qf) hh hl hd hg hgs hgo (fun v s₁ gs' hbare hv => ?_) (fun s₁ hp h' hk => ?_))
    · obtain ⟨b, rfl, hg1, hl1, hb1, ht, hf⟩ := hv
      cases b with
      | true => exact False.elim (ht rfl s₁ rfl rfl hb1)
      | false =>
        refine wpAny_bind (wpAny_holding (wpAny_truthy_bool ?_))
        refine wpAny_bind (wpAny_letGo ?_)
        simp only [Bool.false_eq_true, if_false]
        refine wpAny_bind (wpAny_rule (wpAny_pure ⟨false, rfl, hf rfl _ (fun x o e => e) rfl (allBare_setGen hb1 hbare)⟩))
    · refine wpAny_bind (wpAny_rule (wpAny_pure ⟨true, rfl, hp.2 _ hk rfl (allBare_setGen hp.1 rfl)⟩))
  | succ n ih =>
    intro s hg hl ⟨gs, hgs, hgo⟩
    have hgl : g < s.gens.size := (Array.getElem?_eq_some_iff.mp hgs).1
    refine codeAny_builtin F.entry_all_loop ?_
    rw [Around.under_plainId F.plain_all_loop _]
    show wpAny _ A.in1 (pyNext (.ref a) >>= _) _ _ s
    refine wpAny_bind (wpAny_gsz (n := g + 1) hgl (wpAny_pyNext_genexpQ (A := A.in1) (P := GEndA Qf) hh hl hd hg hgs hgo (fun v s₁ gs' hbare hv => ?_) (fun s₁ hp h' hk => ?_)))
    · intro hsz
      have hsz1 : g < s₁.gens.size := by
        have q : (s₁.setGen g gs').gens.size = s₁.gens.size := setGen_size _ _ _
        have hsz' : g + 1 ≤ (s₁.setGen g gs').gens.size := hsz
        omega
      obtain ⟨b, rfl, hg1, hl1, hb1, ht, hf⟩ := hv
      refine wpAny_bind (wpAny_holding (wpAny_truthy_bool ?_))
      refine wpAny_bind (wpAny_letGo ?_)
      cases b with
      | true =>
        simp only [if_true]
        refine wpAny_pure ⟨plainId_quiet F.plain_all_loop _, ih _ hg1 hl1 ⟨gs', setGen_at hsz1, ?_⟩⟩
        exact ht rfl _ rfl rfl (allBare_setGen (s := s₁.setGen g gs') (allBare_setGen hb1 hbare) rfl)
      | false =>
        simp only [Bool.false_eq_true, if_false]
        refine wpAny_bind (wpAny_rule (wpAny_pure ⟨false, rfl, hf rfl _ (fun x o e => e) rfl (allBare_setGen hb1 hbare)⟩))
    · intro hsz
      refine wpAny_bind (wpAny_rule (wpAny_pure ⟨true, rfl, hp.2 _ hk rfl (allBare_setGen hp.1 rfl)⟩))
theorem call_all_gen {E : Value → Shared → Prop} {n : Nat} {s : Shared} (hh : A.handled = none) (hd : A.depth < recursionLimit) (hg : s.heap.IsGen a g) (hl : s.heap.NoLimit)
    (hgo : ∃ gs, s.gens[g]? = some gs ∧ gs.Goes (model P w) A.in1.in1 (fun n s₀ r s₁ => r = .ok .next ∧ GEndA Qf n s₀ s₁) (GProto Qf a g) n (.send .none) (s.setGen g .running)) : wpAny (model P w) A (call (.builtin "all") [.ref a]) Qf E s := by
  refine call_function_tree F.kind_all F.plain_all F.entry_all (F.args_all1 _) ?_
  unfold Builtin.«all»
  refine wpAny_bind (m := oneArg "all" _) (wpAny_pure ?_)
  refine wpAny_bind (wpAny_pyIter_gen hg ?_)
  refine wpAny_pure ⟨plainId_quiet F.plain_all_loop _, codeAny_mono (all_drain hh hd n s hg hl hgo) fun r s' h => ?_⟩
  obtain ⟨b, rfl, q⟩ := h
  exact q
end
end Kg

namespace Kg
open PySem PySem.Spec PyProof.Rows L2 GenW GxR
open Sem (wp)
theorem inv_same {G : Cx} {pins : List (Addr × Obj)} {σ : L2.St} {H : Hp} {s s' : Shared} (I : Inv G pins σ H s) (hk : ∀ x o, s.heap.get? x = some o → s'.heap.get? x = some o) (ho : s'.os = s.os) (hb : AllBare s'.gens) : Inv G pins σ H s' :=
  I.call' (ch := []) ho (Un.kept hk) (I.hok.kept hk) hb fun b z => by simp at z
/-- a turn's wish -/
def Turns (J : It) (σ0 : L2.St) (vs : List Nat) (g : TG) (te : TE) (Qe : Bool → Hp → Prop) (W : Nat → Nat → Hp → Prop) : Prop :=
  ∀ i m H, W i m H → (J.stop i H ∧ Qe true H) ∨ (J.go i H ∧ ∃ Nx : Hp → Prop, (∀ H', Nx H' → ∃ m', m' < m ∧ W (i + 1) m' H') ∧ ∀ x H', J.yld i H x H' → g x σ0 H' fun σ2 H2 => wipe σ2 vs = σ0 ∧ te σ2 H2 fun y H4 => ∃ b, y = .bl b ∧ if b = true then Nx H4 else Qe false H4)
section
variable {X : Cx} {A : Around} {N : List Str} {s4 : Shared} {H0 : Hp} {cenv : Env} {fp : List Addr} {tg elt iter : Expr} {scope : Scope} {pos : Pos} {it a : Addr} {gi : Nat} {go : Obj} {J : It} {tn : Nat → Heap → Prop} {σ0 : L2.St} {vs : List Nat} {g : TG} {te : TE} {Qe : Bool → Hp → Prop} {W : Nat → Nat → Hp → Prop} {Qf : Value → Shared → Prop}
theorem gx_loop (hh : A.handled = none) (hco : cenv.scope.isCoroutine = false) (T : Turn X.prog X.w X.K tg J fp it tn) (haf : a ∉ fp) (hgen : ∀ h : Heap, h.get? a = some go → h.IsGen a gi)
    (pg : PG (gcx X A N s4 H0 cenv fp) tg g) (pe : PE (gcx X A N s4 H0 cenv fp) elt te) (turn : Turns J σ0 vs g te Qe W)
    (hfin : ∀ b s H', Inv (gcx X A N s4 H0 cenv fp) [(a, go)] σ0 H' s → Qe b H' → Done Qf b s) :
    ∀ (m n i : Nat) (H : Hp) (s₀ s : Shared), m < n → W i m H → Inv (gcx X A N s4 H0 cenv fp) [(a, go)] σ0 H s → tn i s.heap → (∀ b ∈ fp, H b = none) →
      Seg (model X.prog X.w) A (fun n s₀ r s₁ => r = .ok .next ∧ GEndA Qf n s₀ s₁) (GProto Qf a gi) n s₀ (.compLoop (.GeneratorExp elt [⟨tg, iter, [], 0⟩] scope pos) 0 (.ref it) .none cenv)
        ((model X.prog X.w).den (.compLoop (.GeneratorExp elt [⟨tg, iter, [], 0⟩] scope pos) 0 (.ref it) .none cenv)) [] s := by
  have stat : ∀ {σ' : L2.St} {H' : Hp} {s' : Shared}, Inv (gcx X A N s4 H0 cenv fp) [(a, go)] σ' H' s' → (∀ b ∈ fp, H' b = none) → ∀ b ∈ fp, FpOk (gcx X A N s4 H0 cenv fp) [(a, go)] H' b := fun {σ' H' s'} I' hn b hb =>
    ⟨hn b hb, (I'.ok.exf b hb).1, I'.ok.exfs b hb, .inl hb, fun x c e => (I'.ok.exf b hb).2 x c e, fun p hp z => by
      have hp : p ∈ [(a, go)] := hp
      rw [List.mem_singleton.mp hp] at z
      have z : a = b := z
      exact haf (by rw [z]; exact hb)⟩
  have hy : ∀ v, yieldOut cenv v = yieldValue v := fun v => by simp only [yieldOut, hco, Bool.false_eq_true, if_false]
  intro m
  induction m using Nat.strongRecOn with
  | ind m ih =>
    intro n i H s₀ s hmn hW I hst hn
    obtain ⟨n, rfl⟩ : ∃ k, n = k + 1 := ⟨n - 1, by omega⟩
    show Seg _ A _ _ _ s₀ _ ((compTurn (.GeneratorExp elt [⟨tg, iter, [], 0⟩] scope pos) 0 (.ref it) .none cenv).onRaise (leaving cenv)) [] s
    rw [compTurn_gen, Sem.onRaise_eq_wrap]
    refine seg_bind_wrap (wpAny_standAt ?_)
    rcases turn i m H hW with ⟨stop, qq⟩ | ⟨hgo, Nx, hNx, step⟩
    · refine seg_bind_wrap ?_
      rw [over_loopC]
      refine thn (T.done (gcx X A N s4 H0 cenv fp) rfl rfl rfl rfl i [(a, go)] s _ H _ I (stat I hn) hst stop) fun r s6 ⟨hr, I6⟩ => ?_
      subst hr
      exact seg_end (.ok .next) ⟨rfl, I6.bare, hfin true s6 H I6 qq⟩
    · refine seg_bind_wrap ?_
      rw [over_loopC]
      refine thn (T.item (gcx X A N s4 H0 cenv fp) rfl rfl rfl rfl i [(a, go)] s _ H _ I (stat I hn) hst hgo) fun r s6 ⟨u, hr, h6⟩ => ?_
      subst hr
      refine seg_bind_wrap ?_
      rw [over_loopC]
      refine thn h6 fun _ s7 ⟨x, H7, I7, r7, y7, st7, n7⟩ => ?_
      have I7' := I7.pinned (stat I7 n7) (T.obj _ _ st7)
      refine seg_bind_wrap ?_
      rw [over_loopC]
      refine wpAny_mono (pg.run _ s7 _ H7 x u _ I7' r7 (step x H7 y7)) (fun _ s8 ⟨σ8, H8, I8, hw8, q8⟩ => ?_) fun _ _ e => e.elim
      have fin : ∀ {s' : Shared} {H' : Hp}, Inv (gcx X A N s4 H0 cenv fp) ([(a, go)] ++ pinsAt fp s7.heap) σ8 H' s' → Inv (gcx X A N s4 H0 cenv fp) [(a, go)] σ0 H' s' ∧ tn (i + 1) s'.heap ∧ ∀ b ∈ fp, H' b = none := fun {s' H'} I' => by
        have pin' : ∀ b ∈ fp, ∀ o, s7.heap.get? b = some o → s'.heap.get? b = some o ∧ H' b = none := fun b hb o e =>
          let z := I'.pin (b, o) (List.mem_append_right _ (List.mem_append_right _ (mem_pinsAt hb e)))
          ⟨z.1, z.2.1⟩
        have hl : σ0.length = σ8.length := by rw [← hw8, wipe_length]
        refine ⟨(I'.unpinned (pins := [(a, go)])).weak hl (fun j v e => ?_), T.keep _ _ _ st7 fun b hb o e => (pin' b hb o e).1, fun b hb => ?_⟩
        · rw [← hw8] at e
          exact (wipe_some e).1
        · obtain ⟨o, e, _⟩ := T.obj _ _ st7 b hb
          exact (pin' b hb o e).2
      simp only [List.forIn_nil]
      refine seg_bind_wrap (wpAny_pure ?_)
      simp only [if_true]
      simp only [hy]
      rw [Sem.bind_eq_wrap', Sem.bind_eq_wrap', Sem.wrap_wrap, Sem.wrap_wrap]
      refine seg_wrap ?_
      rw [over_loopC]
      refine wpAny_mono (pe.run _ s8 σ8 H8 _ I8 q8) (fun v s10 ⟨y, H10, I10, r10, b, hyb, q10⟩ => ?_) fun _ _ e => e.elim
      subst hyb
      obtain rfl : v = Value.bool b := r10
      obtain ⟨J1, J2, J3⟩ := fin I10
      have hga : s10.heap.IsGen a gi := hgen _ (J1.pin (a, go) (List.mem_append_right _ (List.mem_singleton.mpr rfl))).1
      refine seg_at (seg_yield rfl rfl rfl ⟨b, rfl, hga, J1.nolimit, J1.bare, fun hb s'' e1 e2 e3 => ?_, fun hb => ?_⟩)
      · subst hb
        rw [if_pos rfl] at q10
        obtain ⟨m', hm', w'⟩ := hNx H10 q10
        refine seg_again rfl (ih m' hm' n (i + 1) H10 s'' s'' (by omega) w' (inv_same J1 (fun x o e => by rw [e1]; exact e) e2 e3) (by rw [e1]; exact J2) J3)
      · subst hb
        rw [if_neg Bool.false_ne_true] at q10
        exact hfin false s10 H10 J1 q10
theorem gx_begin (hh : A.handled = none) (hco : cenv.scope.isCoroutine = false) (T : Turn X.prog X.w X.K tg J fp it tn) (haf : a ∉ fp) (hgen : ∀ h : Heap, h.get? a = some go → h.IsGen a gi)
    (pg : PG (gcx X A N s4 H0 cenv fp) tg g) (pe : PE (gcx X A N s4 H0 cenv fp) elt te) (turn : Turns J σ0 vs g te Qe W)
    (hfin : ∀ b s H', Inv (gcx X A N s4 H0 cenv fp) [(a, go)] σ0 H' s → Qe b H' → Done Qf b s) {m : Nat} {H : Hp} {s : Shared} (w0 : W 0 m H) (I : Inv (gcx X A N s4 H0 cenv fp) [(a, go)] σ0 H s) (hst : tn 0 s.heap) (hn : ∀ b ∈ fp, H b = none) :
    Seg (model X.prog X.w) A (fun n s₀ r s₁ => r = .ok .next ∧ GEndA Qf n s₀ s₁) (GProto Qf a gi) (m + 1) s (.compStart (.GeneratorExp elt [⟨tg, iter, [], 0⟩] scope pos) 0 (.ref it) .none cenv)
      ((model X.prog X.w).den (.compStart (.GeneratorExp elt [⟨tg, iter, [], 0⟩] scope pos) 0 (.ref it) .none cenv)) [] s := by
  have loop := gx_loop (iter := iter) (scope := scope) (pos := pos) hh hco T haf hgen pg pe turn hfin m (m + 1) 0 H s s (Nat.lt_succ_self _) w0 I hst hn
  show Seg _ A _ _ _ s _ ((compStart (.GeneratorExp elt [⟨tg, iter, [], 0⟩] scope pos) 0 (.ref it) .none cenv).onRaise (leaving cenv)) [] s
  unfold compStart
  rw [Sem.onRaise_eq_wrap]
  show Seg _ A _ _ _ s _ ((ask >>= _).wrap _ _ _ _) [] s
  refine seg_bind_wrap (wpAny_askSetting ?_)
  split
  · exact seg_again rfl loop
  · first
      | exact seg_bind_wrap (wpAny_rule (seg_bind_wrap (wpAny_standAt (seg_bind_wrap (T.self _ 0 s _ _ hst (seg_again rfl loop))))))
      | (refine seg_bind_wrap (wpAny_rule ?_); show Seg _ A _ _ _ s _ ((standAt iter.pos >>= _).wrap _ _ _ _) [] s; exact seg_bind_wrap (wpAny_standAt (seg_bind_wrap (T.self _ 0 s _ _ hst (seg_again rfl loop)))))
end
/-! the rule -/
section
variable {X : Cx}
/-- all(elt for tg in iter) -/
def tAllG (P : Addr) (wi : TI) (own : List Str) (caps : List (Str × Nat)) (vs : List Nat) (g : TG) (te : TE) : TE := fun σ H Q => wi σ H fun J H1 => TabG H1 P ∧ ∀ H2, Tabbed P H1 H2 → ∃ W : Nat → Nat → Hp → Prop, (∃ m, W 0 m H2) ∧ Turns J (gxSt own caps σ) vs g te (fun b H' => Q (.bl b) H') W
theorem pe_allG {c P : Addr} {elt tg iter : Expr} {p pos gpos : Pos} {scope : Scope} {own : List Str} {caps : List (Str × Nat)} {vs : List Nat} {wi : TI} {g : TG} {te : TE} {k : Nat}
    (hr : Room k X.A) (hg : Gl X "all") (hm : X.mg "all" = none) (TB : TabB X.base X.mg c P) (hcode : X.env.code = .ref c) (S : GxS X.N X.env.scope scope own caps) (hi : PI X tg iter wi)
    (pg : ∀ (s : Shared) (H : Hp) (C : Addr) (cd : Value) (fp : List Addr), PG (gcx X X.A.in1.in1 (gxN own caps) s H (gxEnv X scope C cd) fp) tg g)
    (pe : ∀ (s : Shared) (H : Hp) (C : Addr) (cd : Value) (fp : List Addr), PE (gcx X X.A.in1.in1 (gxN own caps) s H (gxEnv X scope C cd) fp) elt te)
    (hs : ∀ v, genFold iter X.env v = pure v := by intro _; rfl)
    (he : starEach [.GeneratorExp elt [⟨tg, iter, [], 0⟩] scope gpos] X.env = (false, eval (.GeneratorExp elt [⟨tg, iter, [], 0⟩] scope gpos) X.env) :: starEach [] X.env := by rfl) :
    PE X (.Call (.Name "all" p) [.GeneratorExp elt [⟨tg, iter, [], 0⟩] scope gpos] [] pos) (tAllG P wi own caps vs g te) := by
  refine ⟨fun pins s σ H Q I h => ?_⟩
  have hfree : ∀ y ∈ scope.names, y.2 = .free → ∃ c, X.env.cells.lookup y.1 = some c := fun y hy e => by
    rcases S.free y hy e with k | k
    · exact I.ok.has _ (.inl k)
    · exact I.ok.has _ (.inr k)
  refine wpAny_Call_Name_kw (ld_blt I hg hm PyProof.Rows.boot_all ?_)
  refine PyProof.Rows.callWith_builtin1 ?_ he (by rfl)
  rw [he]
  show wpAny _ _ (spliced ((false, eval (.GeneratorExp elt [⟨tg, iter, [], 0⟩] scope gpos) X.env) :: backTo pos (starEach [] X.env))) _ _ s
  refine Calls.spliced_cons ?_
  refine wpAny_GeneratorExp_make S.co (closure_ok hfree) S.cell S.dot S.kind (by have := hr.dp; omega) ?_ hs
  refine thn (hi.run pins s σ H _ I h) fun xv s1 hx => thn hx fun itv s2 h2 => ?_
  obtain ⟨it, fp, tn, J, H1, rfl, I2, T, st2, f2, ⟨ps, hP, ht⟩, q⟩ := h2
  refine ⟨I2.nolimit, ?_⟩
  have hPs : s2.heap.get? P = some { cls := .none, data := .fields ps } := I2.hok P _ hP
  have cd : PySem.W.CodeHd s2.heap c P := TB.code.keeps I2.bk
  have sz2 : ∀ b ∈ fp, b < s2.heap.objs.size := fun b hb => by
    obtain ⟨o, e, _⟩ := T.obj _ _ st2 b hb
    exact Heap.lt_size e
  have cont : ∀ (code : Value) (h3 : Heap) (tk : Nat) (ps' more : Array Value), Heap.ExtBut P s2.heap h3 → s2.heap.objs.size ≤ h3.objs.size → h3.get? P = some { cls := .none, data := .fields ps' } → ps' = ps ++ more → TriplesOk ps'.toList →
      wpAny (model X.prog X.w) X.A (builtinsFor X.env.globals X.env.builtins) (fun bi s₄ =>
        ∀ h', h'.Ns s₄.heap.objs.size (fun y => if y = ".0" then some (.ref it) else none) → Heap.SameBut s₄.heap.objs.size (s₄.heap.push { cls := .type "frame", data := .dict #[] }) h' →
          wpAny (model X.prog X.w) X.A (spliced (backTo pos (starEach [] X.env))) (fun us s' => wpAny (model X.prog X.w) X.A (call (.builtin "all") (.ref h'.objs.size :: us)) (EP X pins σ Q) X.xe s') X.xe { s₄ with
            gens := s₄.gens.push (.fresh (.compStart (.GeneratorExp elt [⟨tg, iter, [], 0⟩] scope gpos) 0 (.ref it) .none (genEnv scope (cloFrom X.env.cells scope.names []) s₄.heap.objs.size code bi X.env))),
            toks := s₄.toks + 1 + 1 + 1,
            heap := h'.push { cls := .type "generator", data := .fields #[.int s₄.gens.size 0, .str "<genexpr>" (s₄.toks + 1), .str (X.env.qual ++ "<genexpr>") (s₄.toks + 1 + 1)] } }) X.xe { s2 with heap := h3, toks := tk } := by
    intro code h3 tk ps' more hx hsz hP3 hmore ht3
    obtain ⟨bm, ob, e1, e2, e3, e4, e5, e6, e7, e8⟩ := TB.bm
    have keep3 : ∀ b u, b ≠ P → s2.heap.get? b = some u → h3.get? b = some u := fun b u hb e => hx b u hb e
    refine wpAny_builtinsFor (m := X.mg) (by rw [I2.ok.glob]; exact (I2.mod.glob.keeps I2.bk).extBut hx TB.gP) e1 e2 (keep3 _ _ e4 (I2.bk _ _ e5)) e6 e7 e8 ?_
    intro h' hns hsb
    have I3 : Inv X pins σ (upd H1 P (.tbl (ps ++ more))) { s2 with heap := h3, toks := tk } := inv_tab (more := more) (g' := s2.gens) (d' := s2.drawn) (t' := tk) I2 hP keep3 (by rw [← hmore]; exact hP3) I2.bare
    have hT : Tabbed P H1 (upd H1 P (.tbl (ps ++ more))) := ⟨⟨ps ++ more, upd_same, by rw [← hmore]; exact ht3⟩, fun b hb => upd_ne hb⟩
    obtain ⟨W, ⟨m, w0⟩, turn⟩ := q _ hT
    have nP : ∀ b ∈ fp, b ≠ P := fun b hb z => by
      have := (f2 b hb).1
      rw [z, hP] at this
      cases this
    have f3 : ∀ b ∈ fp, FpOk X pins (upd H1 P (.tbl (ps ++ more))) b ∧ b < h3.objs.size := fun b hb => ⟨⟨by rw [upd_ne (nP b hb)]; exact (f2 b hb).1, (f2 b hb).2⟩, Nat.lt_of_lt_of_le (sz2 b hb) hsz⟩
    generalize upd H1 P (.tbl (ps ++ more)) = H3 at I3 w0 f3
    have hsz' : h'.objs.size = h3.objs.size + 1 := by rw [hsb.1, Heap.size_push]
    have keep' : ∀ b o, h3.get? b = some o → h'.get? b = some o := fun b o e => hsb.extBut b o (Nat.ne_of_lt (Heap.lt_size e)) (Heap.get?_push_of_some _ e)
    refine Calls.spliced_nil ?_
    generalize hgo : ({ cls := .type "generator", data := .fields #[.int s2.gens.size 0, .str "<genexpr>" (tk + 1), .str (X.env.qual ++ "<genexpr>") (tk + 1 + 1)] } : Obj) = go
    have hgen : ∀ hp : Heap, hp.get? h'.objs.size = some go → hp.IsGen h'.objs.size s2.gens.size := fun hp e => ⟨go, _, _, e, by rw [← hgo], by rw [← hgo], by rw [← hgo]⟩
    have hput : (h'.push go).get? h'.objs.size = some go := Heap.get?_push_size _ (by rw [← hgo]; rfl)
    have hgd : ∀ v, go.data ≠ .cell v := fun v z => by rw [← hgo] at z; cases z
    show wpAny _ _ (call (.builtin "all") [.ref h'.objs.size]) _ _ { s2 with gens := s2.gens.push (.fresh (.compStart (.GeneratorExp elt [⟨tg, iter, [], 0⟩] scope gpos) 0 (.ref it) .none (gxEnv X scope h3.objs.size code))), toks := tk + 1 + 1 + 1, heap := h'.push go }
    have keep5 : ∀ b o, h3.get? b = some o → (h'.push go).get? b = some o := fun b o e => Heap.get?_push_of_some _ (keep' b o e)
    have hb5 : AllBare (s2.gens.push (.fresh (.compStart (.GeneratorExp elt [⟨tg, iter, [], 0⟩] scope gpos) 0 (.ref it) .none (gxEnv X scope h3.objs.size code)))) := I2.bare.push rfl
    have hrun : AllBare (({ s2 with gens := s2.gens.push (.fresh (.compStart (.GeneratorExp elt [⟨tg, iter, [], 0⟩] scope gpos) 0 (.ref it) .none (gxEnv X scope h3.objs.size code))), toks := tk + 1 + 1 + 1, heap := h'.push go } : Shared).setGen s2.gens.size .running).gens := allBare_setGen hb5 rfl
    have G0 : Inv (gcx X X.A.in1.in1 (gxN own caps) { s2 with heap := h3, toks := tk } H3 (gxEnv X scope h3.objs.size code) fp) [] (gxSt own caps σ) H3 (({ s2 with gens := s2.gens.push (.fresh (.compStart (.GeneratorExp elt [⟨tg, iter, [], 0⟩] scope gpos) 0 (.ref it) .none (gxEnv X scope h3.objs.size code))), toks := tk + 1 + 1 + 1, heap := h'.push go } : Shared).setGen s2.gens.size .running) :=
      gx_start (s := { s2 with heap := h3, toks := tk }) I3 S hr.hd I3.ok.frames f3 (hns.push go) keep5 rfl hrun
    have hna : H3 h'.objs.size = none := I3.hok.fresh (by show h3.objs.size ≤ h'.objs.size; omega)
    have G1 : Inv (gcx X X.A.in1.in1 (gxN own caps) { s2 with heap := h3, toks := tk } H3 (gxEnv X scope h3.objs.size code) fp) [(h'.objs.size, go)] (gxSt own caps σ) H3 (({ s2 with gens := s2.gens.push (.fresh (.compStart (.GeneratorExp elt [⟨tg, iter, [], 0⟩] scope gpos) 0 (.ref it) .none (gxEnv X scope h3.objs.size code))), toks := tk + 1 + 1 + 1, heap := h'.push go } : Shared).setGen s2.gens.size .running) :=
      G0.pins_of fun p hp => by
        rw [List.mem_singleton.mp hp]
        refine ⟨hput, hna, ?_, fun z => ?_, hgd⟩
        · show h'.objs.size ≠ h3.objs.size
          omega
        · have z : h'.objs.size ∈ frs X.stack := z
          rcases List.mem_cons.mp (I3.stkSub _ z) with z | z
          · have h1 := I3.lt
            rw [← z] at h1
            have h1 : h'.objs.size < h3.objs.size := h1
            omega
          · exact I3.nofs (show h3.objs.size ≤ h'.objs.size by omega) z
    have st5 : tn 0 (h'.push go) := T.keep _ _ _ st2 fun b hb o e => keep5 b o (keep3 b o (nP b hb) e)
    refine call_all_gen (n := m + 1) hr.hd (by have := hr.dp; omega) (hgen _ hput) (I3.nolimit.keeps keep5) ⟨_, Array.getElem?_push_size .., rfl, ?_⟩
    refine gx_begin (A := X.A.in1.in1) (N := gxN own caps) (σ0 := gxSt own caps σ) (vs := vs) (g := g) (te := te) (Qe := fun b H' => Q (.bl b) H') (W := W) hr.hd S.co T (fun z => ?_) hgen (pg _ _ _ _ _) (pe _ _ _ _ _) turn (fun b s6 H6 J6 q6 s7 k7 o7 b7 => ?_) w0 G1 st5 (fun b hb => (f3 b hb).1.1)
    · have z2 : h'.objs.size < h3.objs.size := (f3 _ z).2
      rw [hsz'] at z2
      exact absurd z2 (by omega)
    · have I6 : Inv X pins σ H6 s6 := I3.call' (ch := fp) J6.os J6.base J6.hok J6.bare fun b hb => ⟨(f3 b hb).1.2.2.2.1, (f3 b hb).1.2.1, (f3 b hb).1.2.2.2.2.1, (f3 b hb).1.2.2.2.2.2⟩
      exact ⟨.bl b, H6, inv_same I6 k7 o7 b7, rfl, q6⟩
  cases hf : codeAmong gpos ps.toList with
  | none =>
    refine wpAny_genexprCodeX hcode (cd.code hPs ht) (cd.tab hPs) hf fun c' h' tk hx hge hlt hco' _ htab' _ => ?_
    obtain ⟨o1, vs, f1, tf, fl, tg, inF, tx, tt, op, _, _, _, _, _, _, _, _, _, htr, _⟩ := hco'
    exact cont _ h' tk _ _ hx (Nat.le_trans hge (Nat.le_of_lt hlt)) htab'.2 rfl htr
  | some cv =>
    refine wpAny_genexprCode_hit hcode (cd.code hPs ht) hf ?_
    exact cont cv s2.heap s2.toks ps #[] (Heap.ExtBut.refl _ _) (Nat.le_refl _) hPs (by simp) ht
end
end Kg

/-! defs that are called where no repr is under way -/
namespace Kf
open PySem PySem.Spec PyProof.Rows L2 LamX
/-- no repr is under way -/
abbrev Still (A : Around) : Prop := A.guards = some []
/-- a def's promise, called where no repr is under way -/
structure FnG (P : Program) (w : World) (K : PySem.W.Frag) (mg : Str → Option Value) (base : Heap) (CX : CXT) (k : Nat) (f : Addr) (fd : FuncData) (ps : List Str) (sp : Sp) : Prop where
  cnt : ∀ vs H Q E, sp vs H Q E → vs.length = ps.length
  go : ∀ (A : Around) (o : List Env) (s : Shared) (H : Hp) (r : Args) (us : List Value) (vs : List V) (Q : VK) (E : XK), Still A → Room k A → Env0 P w K mg base A o s H → BindsTo s fd r (ps.zip us) → Vals vs us → sp vs H Q E →
    codeAny (model P w) A (.call (.ref f) r) (CR CX o P w H s Q E) s
section
variable {P : Program} {w : World} {K : PySem.W.Frag} {mg : Str → Option Value} {base : Heap} {CX : CXT}
theorem FnG.of {k : Nat} {f : Addr} {fd : FuncData} {ps : List Str} {sp : Sp} (F : FnOk P w K mg base CX k f fd ps sp) : FnG P w K mg base CX k f fd ps sp :=
  ⟨F.len, fun A o s H r us vs Q E _ => F.run A o s H r us vs Q E⟩
theorem FnG.up {j k : Nat} {f : Addr} {fd : FuncData} {ps : List Str} {sp : Sp} (F : FnG P w K mg base CX j f fd ps sp) (h : j ≤ k) : FnG P w K mg base CX k f fd ps sp :=
  ⟨F.cnt, fun A o s H r us vs Q E g hr => F.go A o s H r us vs Q E g (hr.mono h)⟩
/-- a def by its body -/
theorem fnG_of {k : Nat} {f : Addr} {nm ql : Str} {prm : Arguments} {bd : List Stmt} {sco : Scope} {dV kV doc pm cdv ct oc : Value} {an od : Option Addr} {sl : Array (Option Value)} {N ps : List Str} {sp : Sp}
    (at' : K.lookup f = some ⟨oc, od, .func (PySem.W.fnOf nm ql prm bd sco dV kV doc pm an cdv ct), sl⟩) (hc : PySem.W.codeIn K cdv ql = true) (S : FnScope N ps sco) (cnt : ∀ vs H Q E, sp vs H Q E → vs.length = ps.length)
    (body : ∀ (A : Around) (o : List Env) (s : Shared) (H : Hp) (vs : List V) (Q : VK) (E : XK), Still A → Room k (A.deeper (envOfC ql sco s.heap.objs.size f cdv)) → sp vs H Q E →
      ∃ t, PSs (cxOf CX P w K mg base N ql sco f cdv A o s H E) bd t ∧ t { nx := fun _ G => Q .non G, rt := Q } (start N vs) H) : FnG P w K mg base CX (k + 1) f (PySem.W.fnOf nm ql prm bd sco dV kV doc pm an cdv ct) ps sp where
  cnt := cnt
  go := by
    intro A o s H r us vs Q E still room e0 binds vals hsp
    have hold := fun b u (z : base.get? b = some u) => (e0.bs b u z).1
    have kx := e0.mod.kin.keeps hold
    have par : ∀ z ∈ ps.zip us, sco.names.lookup z.1 = some .local ∨ (sco.names.lookup z.1 = some .cell ∧ ((cellsFrom (s.heap.objs.size + 1) sco.names []).lookup z.1).isSome = true) := by
      intro z hz
      have hm : z.1 ∈ ps := (List.of_mem_zip (a := z.1) (b := z.2) hz).1
      exact (S.par z.1 hm).imp id fun q => ⟨q, PySem.W.cellsFrom_some _ _ _ (.inl q)⟩
    refine codeAny_call_function room.depth (kx _ _ at') rfl S.co S.gen rfl (PySem.W.codeRec_of kx hc) (binds _ _ _ _ (wpAny_newFunctionEnv_cells S.kind par ?_))
    rintro env rfl s1 x
    refine ⟨(e0.mod.nolimit.keeps hold).keeps x.toInCall.keep, codeAny_func ?_⟩
    obtain ⟨t, ht, hq⟩ := body A o s H vs Q E still (room.deeper _) hsp
    refine wpAny_mono (ht.run [] s1 (start N vs) H _ (inv_start S room.hd e0 (cnt _ _ _ _ hsp) vals x) hq) ?_ (fun _ _ z => z)
    intro fl s2 z
    match fl, z with
    | .ret u, ⟨v, _, G, J, rv, q⟩ => exact ⟨v, G, J.os, J.bare, J.base, J.hok, rv, q⟩
    | .next, ⟨_, G, J, q⟩ => exact ⟨V.non, G, J.os, J.bare, J.base, J.hok, rfl, q⟩
    | .brk, ⟨_, _, _, q⟩ => exact q.elim
    | .cont, ⟨_, _, _, q⟩ => exact q.elim
/-- a def of the text that lets nothing out -/
theorem okG {x ql : Str} {st : Stmt} {f : Addr} {fd : FuncData} {N ps : List Str} {k : Nat} {sp : Sp} (F : Fun K x ql st f fd) (S : FnScope N ps (defScope st)) (cnt : ∀ vs H Q E, sp vs H Q E → vs.length = ps.length)
    (body : ∀ (cdv : Value) (A : Around) (o : List Env) (s : Shared) (H : Hp) (vs : List V) (Q : VK) (E : XK), Still A → Room k (A.deeper (envOfC ql (defScope st) s.heap.objs.size f cdv)) → sp vs H Q E →
      ∃ t, PSs (cxOf CX0 P w K mg base N ql (defScope st) f cdv A o s H E).nox (defBody st) t ∧ t { nx := fun _ G => Q .non G, rt := Q } (start N vs) H) : FnG P w K mg base CX0 (k + 1) f fd ps sp := by
  obtain ⟨oc, od, kV, doc, pm, an, cdv, ct, sl, rfl, hl, hc⟩ := F.ex
  exact fnG_of hl hc S cnt fun A o s H vs Q E g hr h => (body cdv A o s H vs Q E g hr h).imp fun t z => ⟨z.1.nox, z.2⟩
end
section
variable {X : Cx} {CX : CXT} {k : Nat} {f : Addr} {fd : FuncData} {ps : List Str} {sp : Sp} {dvs : List V} {ds : List Value} {E : XK} {x : Str} {p pos : Pos} {e : Expr} {es : List Expr} {t : TA}
theorem goG {pins : List (Addr × Obj)} {σ : L2.St} {H : Hp} {s : Shared} {Q : VK} {us : List Value} {vs : List V} (F : FnG X.prog X.w X.K X.mg X.base CX k f fd ps sp) (g : Still X.A) (hr : Room k X.A) (hb : Binds X.K fd ps ds) (hd : Vals dvs ds) (hx : Passes CX X E) (I : Inv X pins σ H s) (rv : Vals vs us)
    (h : sp (vs ++ dvs) H Q E) : wpAny (model X.prog X.w) X.A (call (.ref f) us) (EP X pins σ Q) X.xe s := by
  have both := rv.append hd
  have n : (us ++ ds).length = ps.length := both.length.symm.trans (F.cnt _ _ _ _ h)
  refine wpAny_call (codeAny_mono (F.go X.A X.stack s H ⟨us, []⟩ _ _ Q E g hr I.env0 (hb s us I.kIn n) both h) ?_)
  intro r s2 z
  match r, z with
  | .error u, z => exact hx pins σ H s u s2 I z
  | .ok (.ret u), z => exact I.after z
  | .ok .next, z => exact z.elim
  | .ok .brk, z => exact z.elim
  | .ok .cont, z => exact z.elim
/-- f(e, ..) -/
theorem pe_callG (F : FnG X.prog X.w X.K X.mg X.base CX k f fd ps sp) (g : Still X.A) (hr : Room k X.A) (hg : Gl X x) (hm : X.mg x = some (.ref f)) (hk : PySem.W.keepIn X.K (.ref f) = true) (hb : Binds X.K fd ps ds) (hd : Vals dvs ds) (hx : Passes CX X E) (ha : PA X (e :: es) t)
    (hn : (x == ("__debug__" : Str)) = false := by decide) (h1 : starEach (e :: es) X.env = (false, eval e X.env) :: starEach es X.env := by rfl) (h2 : (backTo pos (starEach es X.env)).any (·.1) = false := by rfl) : PE X (.Call (.Name x p) (e :: es) [] pos) (tCall sp dvs E t) := by
  constructor
  intro pins s σ H Q I h
  refine wpAny_Call_Name_kw (ld_glob I hg hm (PySem.W.callWith_K (h₀ := X.base) I.ok.mod.kin hk (thn (ha.run pos pins s σ H _ I h) ?_) h1 h2) hn)
  rintro us s2 ⟨vs, G, J, rv, q⟩
  exact ⟨J.kIn, goG F g hr hb hd hx J rv q⟩
end
end Kf

/-! repr of data -/
namespace Kf
open PySem PySem.Spec PyProof.Rows L2
/-- data that shows as it is, of at most so many in one another -/
structure Shows (n : Nat) (d : PyData) : Prop where
  ok : d.showable = true
  nd : d.hasDict = false
  dp : d.depth ≤ n
  sz : d.shown.length ≤ sizeLine
def rShow (K : PySem.W.Frag) (n : Nat) : List V → Hp → VK → Prop := fun xs H Q => ∃ (a : Addr) (d : PyData), xs = [.ref a] ∧ Dp K H (.ref a) d ∧ Shows n d ∧ Q (.str d.shown) H
theorem call_show {X : Cx} {n : Nat} (g : Still X.A) (hu : X.A.units + (n + 1) < cLine) : CallR X (.builtin "repr") (rShow X.K n) := by
  intro pins s σ H xs us Q I r h
  obtain ⟨a, d, rfl, hd, sh, q⟩ := h
  rw [Vals.ref1 r]
  obtain ⟨as, rd⟩ := Dp.reads I d _ (.ref a) hd rfl
  exact repr_of_reads' rd sh.ok (PyData.noDict_hsm sh.nd) g (by have := sh.dp; omega) (fun _ _ e => e) (fun h' u tk hk => ⟨.str d.shown, H, I.kept hk, ⟨u, rfl⟩, q⟩) sh.sz
end Kf

/-! things of anything: none, truths, numbers, texts, tuples, lists, the empty dict -/
namespace Kv
open PySem PySem.Spec PyProof.Rows L2 Kf
inductive Dt where
  | non
  | bl (b : Bool)
  | int (i : Int)
  | str (x : Str)
  | tup (xs : List Dt)
  | lst (xs : List Dt)
  | dct (kvs : List (Str × Int))
/-- a dict of texts with numbers -/
def dkv (kvs : List (Str × Int)) : List (Key × V) := kvs.map fun p => (.inr p.1, .int p.2)
def dkp (kvs : List (Str × Int)) : List (PyData × PyData) := kvs.map fun p => (.str p.1, .int p.2)
mutual
/-- the thing stands at v; its lists and dicts at places N -/
inductive Dd (N : Addr → Prop) (H : Hp) : Dt → V → Prop
  | non : Dd N H .non .non
  | bl (b : Bool) : Dd N H (.bl b) (.bl b)
  | int (i : Int) : Dd N H (.int i) (.int i)
  | str (x : Str) : Dd N H (.str x) (.str x)
  | tup {a : Addr} {xs : List Dt} {vs : List V} : H a = some (.tup vs) → DdL N H xs vs → Dd N H (.tup xs) (.ref a)
  | lst {a : Addr} {xs : List Dt} {vs : List V} : N a → H a = some (.lst vs) → DdL N H xs vs → Dd N H (.lst xs) (.ref a)
  | dct {a : Addr} {kvs : List (Str × Int)} : N a → H a = some (.dK (dkv kvs)) → Dd N H (.dct kvs) (.ref a)
inductive DdL (N : Addr → Prop) (H : Hp) : List Dt → List V → Prop
  | nil : DdL N H [] []
  | cons {x : Dt} {xs : List Dt} {v : V} {vs : List V} : Dd N H x v → DdL N H xs vs → DdL N H (x :: xs) (v :: vs)
end
/-- what stood of tuples, and of lists and dicts at N, stands -/
structure Kn (N : Addr → Prop) (H G : Hp) : Prop where
  tup : ∀ b xs, H b = some (.tup xs) → G b = some (.tup xs)
  lst : ∀ b xs, N b → H b = some (.lst xs) → G b = some (.lst xs)
  dic : ∀ b xs, N b → H b = some (.dK xs) → G b = some (.dK xs)
theorem Kn.of {N : Addr → Prop} {H G : Hp} (s : Same H G) : Kn N H G := ⟨fun b _ e => s b _ e, fun b _ _ e => s b _ e, fun b _ _ e => s b _ e⟩
theorem Kn.trans {N : Addr → Prop} {H G F : Hp} (a : Kn N H G) (b : Kn N G F) : Kn N H F := ⟨fun x _ e => b.tup x _ (a.tup x _ e), fun x _ n e => b.lst x _ n (a.lst x _ n e), fun x _ n e => b.dic x _ n (a.dic x _ n e)⟩
theorem Kn.rfl {N : Addr → Prop} {H : Hp} : Kn N H H := ⟨fun _ _ e => e, fun _ _ _ e => e, fun _ _ _ e => e⟩
theorem Kn.sub {N M : Addr → Prop} {H G : Hp} (k : Kn N H G) (h : ∀ b, M b → N b) : Kn M H G := ⟨k.tup, fun b xs n e => k.lst b xs (h b n) e, fun b xs n e => k.dic b xs (h b n) e⟩
/-- another list, dict or the like is put at p -/
theorem Kn.put {N : Addr → Prop} {H G : Hp} {p : Addr} {o : HO} (k : Kn N H G) (n : ¬ N p) (h : ∀ xs, H p ≠ some (.tup xs)) : Kn N H (upd G p o) := by
  refine ⟨fun b xs e => ?_, fun b u hb e => ?_, fun b u hb e => ?_⟩
  · rw [upd_ne (fun z => h xs (by rw [← z]; exact e))]
    exact k.tup b xs e
  · rw [upd_ne (fun z => n (by rw [← z]; exact hb))]
    exact k.lst b u hb e
  · rw [upd_ne (fun z => n (by rw [← z]; exact hb))]
    exact k.dic b u hb e
/-- what was free is put at p -/
theorem Kn.new {N : Addr → Prop} {H G : Hp} {p : Addr} {o : HO} (k : Kn N H G) (h : H p = none) : Kn N H (upd G p o) := by
  refine ⟨fun b xs e => ?_, fun b u hb e => ?_, fun b u hb e => ?_⟩
  · rw [upd_ne (ne_of_none e h)]
    exact k.tup b xs e
  · rw [upd_ne (ne_of_none e h)]
    exact k.lst b u hb e
  · rw [upd_ne (ne_of_none e h)]
    exact k.dic b u hb e
mutual
theorem Dd.kn {N : Addr → Prop} {H G : Hp} (k : Kn N H G) : ∀ {x : Dt} {v : V}, Dd N H x v → Dd N G x v
  | _, _, .non => .non
  | _, _, .bl b => .bl b
  | _, _, .int i => .int i
  | _, _, .str x => .str x
  | _, _, .tup h t => .tup (k.tup _ _ h) (t.kn k)
  | _, _, .lst n h t => .lst n (k.lst _ _ n h) (t.kn k)
  | _, _, .dct n h => .dct n (k.dic _ _ n h)
theorem DdL.kn {N : Addr → Prop} {H G : Hp} (k : Kn N H G) : ∀ {xs : List Dt} {vs : List V}, DdL N H xs vs → DdL N G xs vs
  | _, _, .nil => .nil
  | _, _, .cons h t => .cons (h.kn k) (t.kn k)
end
mutual
/-- at fewer, or other places, where the heap has nothing elsewhere -/
theorem Dd.at {N M : Addr → Prop} {H : Hp} (k : ∀ b u, N b → H b = some u → M b) : ∀ {x : Dt} {v : V}, Dd N H x v → Dd M H x v
  | _, _, .non => .non
  | _, _, .bl b => .bl b
  | _, _, .int i => .int i
  | _, _, .str x => .str x
  | _, _, .tup h t => .tup h (t.at k)
  | _, _, .lst n h t => .lst (k _ _ n h) h (t.at k)
  | _, _, .dct n h => .dct (k _ _ n h) h
theorem DdL.at {N M : Addr → Prop} {H : Hp} (k : ∀ b u, N b → H b = some u → M b) : ∀ {xs : List Dt} {vs : List V}, DdL N H xs vs → DdL M H xs vs
  | _, _, .nil => .nil
  | _, _, .cons h t => .cons (h.at k) (t.at k)
end
/-- at any places -/
abbrev Any : Addr → Prop := fun _ => True
theorem Dd.any {N : Addr → Prop} {H : Hp} {x : Dt} {v : V} (h : Dd N H x v) : Dd Any H x v := h.at fun _ _ _ _ => trivial
theorem DdL.any {N : Addr → Prop} {H : Hp} {x : List Dt} {v : List V} (h : DdL N H x v) : DdL Any H x v := h.at fun _ _ _ _ => trivial
theorem Dd.same {N : Addr → Prop} {H G : Hp} {x : Dt} {v : V} (h : Dd N H x v) (s : Same H G) : Dd N G x v := h.kn (.of s)
theorem DdL.same {N : Addr → Prop} {H G : Hp} {x : List Dt} {v : List V} (h : DdL N H x v) (s : Same H G) : DdL N G x v := h.kn (.of s)
section
variable {N : Addr → Prop} {H : Hp}
theorem DdL.len : ∀ {xs : List Dt} {vs : List V}, DdL N H xs vs → xs.length = vs.length
  | _, _, .nil => rfl
  | _, _, .cons _ t => congrArg (· + 1) t.len
theorem DdL.app : ∀ {xs ys : List Dt} {vs ws : List V}, DdL N H xs vs → DdL N H ys ws → DdL N H (xs ++ ys) (vs ++ ws)
  | _, _, _, _, .nil, h => h
  | _, _, _, _, .cons h t, k => .cons h (t.app k)
theorem DdL.get : ∀ {xs : List Dt} {vs : List V} {i : Nat} {v : V}, DdL N H xs vs → vs[i]? = some v → ∃ x, xs[i]? = some x ∧ Dd N H x v
  | _, _, i, v, .nil, e => by simp at e
  | _, _, 0, v, .cons (x := x) (v := w) h t, e => ⟨x, rfl, by rw [← show w = v from Option.some.inj e]; exact h⟩
  | _, _, i + 1, v, .cons h t, e => DdL.get (i := i) t e
theorem DdL.get' : ∀ {xs : List Dt} {vs : List V} {i : Nat} {x : Dt}, DdL N H xs vs → xs[i]? = some x → ∃ v, vs[i]? = some v ∧ Dd N H x v
  | _, _, i, v, .nil, e => by simp at e
  | _, _, 0, v, .cons (x := w) (v := y) h t, e => ⟨y, rfl, by rw [← show w = v from Option.some.inj e]; exact h⟩
  | _, _, i + 1, v, .cons h t, e => DdL.get' (i := i) t e
theorem DdL.drop : ∀ {xs : List Dt} {vs : List V} (n : Nat), DdL N H xs vs → DdL N H (xs.drop n) (vs.drop n)
  | _, _, 0, h => h
  | _, _, n + 1, .nil => .nil
  | _, _, n + 1, .cons _ t => t.drop n
theorem DdL.take : ∀ {xs : List Dt} {vs : List V} (n : Nat), DdL N H xs vs → DdL N H (xs.take n) (vs.take n)
  | _, _, 0, h => .nil
  | _, _, n + 1, .nil => .nil
  | _, _, n + 1, .cons h t => .cons h (t.take n)
theorem DdL.rev : ∀ {xs : List Dt} {vs : List V}, DdL N H xs vs → DdL N H xs.reverse vs.reverse
  | _, _, .nil => .nil
  | _, _, .cons (x := x) (xs := xs) (v := v) (vs := vs) h t => by
    rw [List.reverse_cons, List.reverse_cons]
    exact t.rev.app (.cons h .nil)
theorem DdL.last : ∀ {xs : List Dt} {vs : List V}, DdL N H xs vs → vs ≠ [] → ∃ ys y ws w, xs = ys ++ [y] ∧ vs = ws ++ [w] ∧ DdL N H ys ws ∧ Dd N H y w
  | _, _, .nil, n => absurd rfl n
  | _, _, .cons (x := x) (v := v) h .nil, _ => ⟨[], x, [], v, rfl, rfl, .nil, h⟩
  | _, _, .cons (x := x) (v := v) h (.cons h' t'), _ => by
    obtain ⟨ys, y, ws, w, e1, e2, k, r⟩ := DdL.last (.cons h' t') (by simp)
    exact ⟨x :: ys, y, v :: ws, w, by rw [e1]; rfl, by rw [e2]; rfl, .cons h k, r⟩
theorem DdL.strs : ∀ (xs : List Str), DdL N H (xs.map Dt.str) (xs.map V.str)
  | [] => .nil
  | x :: xs => .cons (.str x) (DdL.strs xs)
theorem DdL.ints : ∀ (xs : List Int), DdL N H (xs.map Dt.int) (xs.map V.int)
  | [] => .nil
  | x :: xs => .cons (.int x) (DdL.ints xs)
end
/-! their classes -/
def Dt.cls : Dt → String
  | .non => "NoneType"
  | .bl _ => "bool"
  | .int _ => "int"
  | .str _ => "str"
  | .tup _ => "tuple"
  | .lst _ => "list"
  | .dct _ => "dict"
theorem Dd.ty {K : PySem.W.Frag} {N : Addr → Prop} {H : Hp} {x : Dt} {v : V} (h : Dd N H x v) : TyX K H v (.type x.cls) := by
  cases h with
  | non => exact .base .non
  | bl b => exact .base (.bl b)
  | int i => exact .base (.int i)
  | str x => exact .base (.str x)
  | tup h _ => exact .base (.tup h)
  | lst _ h _ => exact .base (.lst h)
  | dct _ h => exact .base (.dK h)
def Dt.isTup : Dt → Bool
  | .tup _ => true
  | _ => false
def Dt.isStr : Dt → Bool
  | .str _ => true
  | _ => false
def Dt.isBl : Dt → Bool
  | .bl _ => true
  | _ => false
def Dt.isInt : Dt → Bool
  | .bl _ => true
  | .int _ => true
  | _ => false
def Dt.isLst : Dt → Bool
  | .lst _ => true
  | _ => false
/-- isinstance of such a thing: the answers -/
theorem kTup (K : PySem.W.Frag) : ∀ x : Dt, PySem.W.kitOne K (.type x.cls) (.type "tuple") = some x.isTup := by
  intro x
  cases x <;> (refine kit_ty ?_; simp only [Dt.cls, Dt.isTup]; decide +kernel)
theorem kStr (K : PySem.W.Frag) : ∀ x : Dt, PySem.W.kitOne K (.type x.cls) (.type "str") = some x.isStr := by
  intro x
  cases x <;> (refine kit_ty ?_; simp only [Dt.cls, Dt.isStr]; decide +kernel)
theorem kBl (K : PySem.W.Frag) : ∀ x : Dt, PySem.W.kitOne K (.type x.cls) (.type "bool") = some x.isBl := by
  intro x
  cases x <;> (refine kit_ty ?_; simp only [Dt.cls, Dt.isBl]; decide +kernel)
theorem kInt (K : PySem.W.Frag) : ∀ x : Dt, PySem.W.kitOne K (.type x.cls) (.type "int") = some x.isInt := by
  intro x
  cases x <;> (refine kit_ty ?_; simp only [Dt.cls, Dt.isInt]; decide +kernel)
theorem kLst (K : PySem.W.Frag) : ∀ x : Dt, PySem.W.kitOne K (.type x.cls) (.type "list") = some x.isLst := by
  intro x
  cases x <;> (refine kit_ty ?_; simp only [Dt.cls, Dt.isLst]; decide +kernel)
/-! as data, shown -/
mutual
def Dt.toP : Dt → PyData
  | .non => .none
  | .bl b => .bool b
  | .int i => .int i
  | .str x => .str x
  | .tup xs => .tuple (Dt.toPs xs)
  | .lst xs => .list (Dt.toPs xs)
  | .dct kvs => .dict (dkp kvs)
def Dt.toPs : List Dt → List PyData
  | [] => []
  | x :: xs => x.toP :: Dt.toPs xs
end
section
variable {X : Cx} {pins : List (Addr × Obj)} {σ : L2.St} {H : Hp} {s : Shared} {N : Addr → Prop}
theorem reads_pairs {P : Program} {w : World} {h : Heap} : ∀ {kvs : List (Str × Int)} {vs : List (Key × Value)} {es : List DictEntry}, KV (dkv kvs) vs → Pairs (mixKind P w) es vs → ReadsAll h (es.map (·.key)) ((dkp kvs).map (·.1)) [] ∧ ReadsAll h (es.map (·.val)) ((dkp kvs).map (·.2)) []
  | [], _, _, r, p => by
    unfold KV at r
    cases r
    cases p
    exact ⟨.nil, .nil⟩
  | (x, i) :: kvs, _, _, r, p => by
    unfold KV at r
    cases r with
    | cons hh t =>
      cases p with
      | cons h1 h2 t2 =>
        rename_i q qs e es
        obtain ⟨a, b⟩ := reads_pairs (P := P) (w := w) (h := h) (kvs := kvs) (by unfold KV; exact t) t2
        obtain ⟨g1, tk, g2⟩ := hh
        have h1 : keyIs q.1 e.key = true := h1
        rw [← g1] at h1
        rcases keyIs_shape h1 with ⟨j, u, z, _⟩ | ⟨y, u, z, ek⟩
        · cases z
        cases z
        obtain ⟨k0, v0⟩ := e
        cases ek
        have ev := h2.trans g2
        dsimp only at ev
        subst ev
        exact ⟨.cons (.str _ u) a, .cons (as := []) (.int _ tk) b⟩
/-- a dict, as an object -/
theorem dct_obj (I : Inv X pins σ H s) {a : Addr} {kvs : List (Str × Int)} (h : H a = some (.dK (dkv kvs))) : ∃ o es n, s.heap.get? a = some o ∧ o.cls = .type "dict" ∧ o.data = .dict es n ∧ (a == sysModules) = false ∧ ReadsAll s.heap (es.toList.map (·.key)) ((dkp kvs).map (·.1)) [] ∧ ReadsAll s.heap (es.toList.map (·.val)) ((dkp kvs).map (·.2)) [] := by
  obtain ⟨_, low, vs, kv, o, es, ep, ho, hx, hd, _, pr, _⟩ := dk_of I.hok h
  obtain ⟨r1, r2⟩ := reads_pairs (h := s.heap) kv pr
  exact ⟨o, es, ep, ho, hx.1, hd, low, r1, r2⟩
mutual
theorem Dd.reads (I : Inv X pins σ H s) : ∀ {x : Dt} {v : V}, Dd N H x v → ∀ {u : Value}, RelV v u → ∃ as, Reads s.heap u x.toP as
  | _, _, .non, _, r => by
    cases r
    exact ⟨_, .none⟩
  | _, _, .bl b, _, r => by
    cases r
    exact ⟨_, .bool b⟩
  | _, _, .int i, _, r => by
    obtain ⟨t, rfl⟩ := r
    exact ⟨_, .int i t⟩
  | _, _, .str x, _, r => by
    obtain ⟨t, rfl⟩ := r
    exact ⟨_, .str x t⟩
  | _, _, .tup h t, _, r => by
    cases r
    obtain ⟨its, rv, ⟨o, ho, hc, n, hd⟩, _⟩ := I.tuple (SqT.of h)
    obtain ⟨as, ra⟩ := t.reads I rv
    exact ⟨_, .tuple ho hc hd ra⟩
  | _, _, .lst _ h t, _, r => by
    cases r
    obtain ⟨its, rv, ⟨o, n, ho, hc, _, hd⟩, _⟩ := I.list (SqL.of h)
    obtain ⟨as, ra⟩ := t.reads I rv
    exact ⟨_, .list ho hc hd ra⟩
  | _, _, .dct _ h, _, r => by
    cases r
    obtain ⟨o, es, n, ho, hc, hd, _, h4, h5⟩ := dct_obj I h
    exact ⟨_, .dict ho hc hd h4 h5⟩
theorem DdL.reads (I : Inv X pins σ H s) : ∀ {xs : List Dt} {vs : List V}, DdL N H xs vs → ∀ {us : List Value}, Vals vs us → ∃ as, ReadsAll s.heap us (Dt.toPs xs) as
  | _, _, .nil, _, r => by
    cases r
    exact ⟨_, .nil⟩
  | _, _, .cons h t, _, r => by
    cases r with
    | cons r1 r2 =>
      obtain ⟨as, ra⟩ := h.reads I r1
      obtain ⟨bs, rb⟩ := t.reads I r2
      exact ⟨_, .cons ra rb⟩
end
theorem shownAll_le {xs : List PyData} {n : Nat} (h : ∀ t ∈ PyData.shownAll xs, t.length ≤ n) : ∀ t ∈ PyData.shownAll xs, t.length ≤ n := h
mutual
theorem Dd.reprK (I : Inv X pins σ H s) : ∀ {x : Dt} {v : V}, Dd N H x v → ∀ {u : Value}, RelV v u → x.toP.showable = true → x.toP.shown.length ≤ sizeLine → ∃ bs, ReadAtMost s.heap x.toP.depth bs ∧ ReprK X.prog X.w bs s.heap x.toP.depth u x.toP.shown
  | _, _, .non, _, r, _, _ => by
    cases r
    exact ⟨[], (fun _ h => nomatch h), by simp only [Dt.toP, PyData.shown]; exact .of_is ReprIs.none _ _ _⟩
  | _, _, .bl b, _, r, _, _ => by
    cases r
    exact ⟨[], (fun _ h => nomatch h), by simp only [Dt.toP, PyData.shown]; exact .of_is (ReprIs.bool b) _ _ _⟩
  | _, _, .int i, _, r, hs, _ => by
    obtain ⟨t, rfl⟩ := r
    exact ⟨[], (fun _ h => nomatch h), by simp only [Dt.toP, PyData.shown]; exact .of_is (ReprIs.int t (by simpa [Dt.toP, PyData.showable] using hs)) _ _ _⟩
  | _, _, .str x, _, r, _, hz => by
    obtain ⟨t, rfl⟩ := r
    exact ⟨[], (fun _ h => nomatch h), by simp only [Dt.toP, PyData.shown]; exact .of_is (ReprIs.str x t (by simpa only [Dt.toP, PyData.shown] using hz)) _ _ _⟩
  | _, _, .tup (a := a) (xs := xs) h t, _, r, hs, hz => by
    cases r
    obtain ⟨its, rv, ⟨o, ho, hc, n, hd⟩, _⟩ := I.tuple (SqT.of h)
    have hz' : (tupleText (PyData.shownAll (Dt.toPs xs))).length ≤ sizeLine := by simpa only [Dt.toP, PyData.shown] using hz
    obtain ⟨as, ra⟩ := t.reads I rv
    obtain ⟨bs, hb, hk⟩ := t.reprK I rv (by simpa [Dt.toP, PyData.showable] using hs) (fun t ht => Nat.le_trans (tupleText_mem_le ht) hz')
    have rd : Reads s.heap (.ref a) (.tuple (Dt.toPs xs)) _ := .tuple ho hc hd ra
    have na : a ∉ bs := not_mem_of_deeper rd (by simp only [PyData.depth]; omega) hb
    have le : PyData.depthAll (Dt.toPs xs) ≤ (PyData.tuple (Dt.toPs xs)).depth := by simp only [PyData.depth]; omega
    exact ⟨a :: bs, ReadAtMost.cons rd le hb, by simp only [Dt.toP, PyData.depth, PyData.shown]; exact ReprK.tuple ho hc hd na hk⟩
  | _, _, .lst (a := a) (xs := xs) (vs := vs) _ h t, _, r, hs, hz => by
    cases r
    obtain ⟨its, rv, ⟨o, n, ho, hc, _, hd⟩, _⟩ := I.list (SqL.of h)
    have hz' : (listText (PyData.shownAll (Dt.toPs xs))).length ≤ sizeLine := by simpa only [Dt.toP, PyData.shown] using hz
    obtain ⟨as, ra⟩ := t.reads I rv
    obtain ⟨bs, hb, hk⟩ := t.reprK I rv (by simpa [Dt.toP, PyData.showable] using hs) (fun t ht => Nat.le_trans (listText_mem_le ht) hz')
    have rd : Reads s.heap (.ref a) (.list (Dt.toPs xs)) _ := .list ho hc hd ra
    have na : a ∉ bs := not_mem_of_deeper rd (by simp only [PyData.depth]; omega) hb
    have le : PyData.depthAll (Dt.toPs xs) ≤ (PyData.list (Dt.toPs xs)).depth := by simp only [PyData.depth]; omega
    refine ⟨a :: bs, ReadAtMost.cons rd le hb, ?_⟩
    simp only [Dt.toP, PyData.depth, PyData.shown]
    cases its with
    | nil =>
      cases rv
      cases t
      simp only [Dt.toPs, PyData.shownAll, listText_nil]
      exact ReprK.listEmpty ho hc hd
    | cons y l => exact ReprK.list ho hc hd na (by simpa using hk.length_eq) (fun i y e => hk.item i y (by simpa using e))
  | _, _, .dct (a := a) (kvs := kvs) _ h, _, r, hs, hz => by
    cases r
    obtain ⟨o, es, n, ho, hc, hd, low, h4, h5⟩ := dct_obj I h
    have rd : Reads s.heap (.ref a) (.dict (dkp kvs)) _ := .dict ho hc hd h4 h5
    have hz' : (dictText (PyData.shownKv (dkp kvs))).length ≤ sizeLine := by simpa only [Dt.toP, PyData.shown] using hz
    obtain ⟨hs1, hs2⟩ := PyData.showableKv_split (dkp kvs) (by simpa [Dt.toP, PyData.showable] using hs)
    obtain ⟨b1, hb1, k1⟩ := ReprAllK.of_readsAll (prog := X.prog) (w := X.w) h4 hs1 (fun _ hm => nomatch hm) (fun t ht => let ⟨p, hp, hl⟩ := PyData.shownKv_key_le _ t ht; Nat.le_trans hl (Nat.le_trans (dictText_mem_le hp) hz'))
    obtain ⟨b2, hb2, k2⟩ := ReprAllK.of_readsAll (prog := X.prog) (w := X.w) h5 hs2 (fun _ hm => nomatch hm) (fun t ht => let ⟨p, hp, hl⟩ := PyData.shownKv_val_le _ t ht; Nat.le_trans hl (Nat.le_trans (dictText_mem_le hp) hz'))
    have hb : ReadAtMost s.heap (PyData.depthKv (dkp kvs)) (b1 ++ b2) := (hb1.mono (PyData.depthAll_keys_le _)).append (hb2.mono (PyData.depthAll_vals_le _))
    have le : PyData.depthKv (dkp kvs) ≤ (PyData.dict (dkp kvs)).depth := by simp only [PyData.depth]; omega
    have hna : a ∉ b1 ++ b2 := not_mem_of_deeper rd (by simp only [PyData.depth]; omega) hb
    refine ⟨a :: (b1 ++ b2), ReadAtMost.cons rd le hb, ?_⟩
    simp only [Dt.toP, PyData.depth, PyData.shown, PyData.shownKv_eq]
    exact ReprK.dict ho hc hd low hna (ReprEntriesK.of_two es.toList _ _ (k1.more_le (fun b hb => List.mem_append_left _ hb) (PyData.depthAll_keys_le _)) (k2.more_le (fun b hb => List.mem_append_right _ hb) (PyData.depthAll_vals_le _)))
theorem DdL.reprK (I : Inv X pins σ H s) : ∀ {xs : List Dt} {vs : List V}, DdL N H xs vs → ∀ {us : List Value}, Vals vs us → PyData.showableAll (Dt.toPs xs) = true → (∀ t ∈ PyData.shownAll (Dt.toPs xs), t.length ≤ sizeLine) →
    ∃ bs, ReadAtMost s.heap (PyData.depthAll (Dt.toPs xs)) bs ∧ ReprAllK X.prog X.w bs s.heap (PyData.depthAll (Dt.toPs xs)) us (PyData.shownAll (Dt.toPs xs))
  | _, _, .nil, _, r, _, _ => by
    cases r
    exact ⟨[], (fun _ h => nomatch h), .nil⟩
  | _, _, .cons (x := x) (xs := xs) h t, _, r, hs, hz => by
    cases r with
    | cons r1 r2 =>
      have hs' : x.toP.showable = true ∧ PyData.showableAll (Dt.toPs xs) = true := by simpa [Dt.toPs, PyData.showableAll] using hs
      obtain ⟨as, ha, ka⟩ := h.reprK I r1 hs'.1 (hz _ (by simp [Dt.toPs, PyData.shownAll]))
      obtain ⟨bs, hb, kb⟩ := t.reprK I r2 hs'.2 (fun t ht => hz _ (by simp [Dt.toPs, PyData.shownAll, ht]))
      have m1 : x.toP.depth ≤ PyData.depthAll (Dt.toPs (x :: xs)) := by simp only [Dt.toPs, PyData.depthAll]; omega
      have m2 : PyData.depthAll (Dt.toPs xs) ≤ PyData.depthAll (Dt.toPs (x :: xs)) := by simp only [Dt.toPs, PyData.depthAll]; omega
      refine ⟨as ++ bs, (ha.mono m1).append (hb.mono m2), ?_⟩
      simp only [Dt.toPs, PyData.shownAll]
      exact .cons ((ka.more fun b hb => List.mem_append_left _ hb).level_le m1) (kb.more_le (fun b hb => List.mem_append_right _ hb) m2)
end
/-- it is shown: within the bounds -/
structure Shw (n : Nat) (x : Dt) : Prop where
  ok : x.toP.showable = true
  dp : x.toP.depth ≤ n
  sz : x.toP.shown.length ≤ sizeLine
def rShowU (n : Nat) : List V → Hp → VK → Prop := fun xs H Q => ∃ (v : V) (x : Dt), xs = [v] ∧ Dd Any H x v ∧ Shw n x ∧ Q (.str x.toP.shown) H
theorem call_showU {n : Nat} (g : Still X.A) (hu : X.A.units + (n + 1) < cLine) : CallR X (.builtin "repr") (rShowU n) := by
  intro pins s σ H xs us Q I r h
  obtain ⟨v, x, rfl, hd, sh, q⟩ := h
  cases r with
  | cons r1 r2 =>
    cases r2
    have done : ∀ (h' : Heap) (u tk : Tok), (∀ b o, s.heap.get? b = some o → h'.get? b = some o) → EP X pins σ Q (.str x.toP.shown u) { s with heap := h', toks := tk } := fun h' u tk hk => ⟨.str _, H, I.kept hk, ⟨u, rfl⟩, q⟩
    have dpx := sh.dp
    cases hd with
    | non =>
      cases r1
      exact PySem.P.repr_of_none (done s.heap _ _ fun _ _ e => e)
    | bl b =>
      cases r1
      exact PySem.P.repr_of_bool (by simpa only [Dt.toP, PyData.shown] using done s.heap _ _ fun _ _ e => e)
    | int i =>
      obtain ⟨t, rfl⟩ := r1
      exact PySem.P.repr_of_int (by simpa [Dt.toP, PyData.showable] using sh.ok) (by simpa only [Dt.toP, PyData.shown] using done s.heap _ _ fun _ _ e => e)
    | str y =>
      obtain ⟨t, rfl⟩ := r1
      exact PySem.P.repr_of_str (by simpa only [Dt.toP, PyData.shown] using done s.heap _ _ fun _ _ e => e) (by simpa only [Dt.toP, PyData.shown] using sh.sz)
    | tup h t =>
      rename_i a ys ws
      cases r1
      obtain ⟨its, rv, ⟨o, ho, hc, m, hd⟩, _⟩ := I.tuple (SqT.of h)
      have hz' : (tupleText (PyData.shownAll (Dt.toPs ys))).length ≤ sizeLine := by simpa only [Dt.toP, PyData.shown] using sh.sz
      obtain ⟨as, ra⟩ := t.reads I rv
      obtain ⟨bs, hb, hk⟩ := t.reprK I rv (by simpa [Dt.toP, PyData.showable] using sh.ok) (fun t ht => Nat.le_trans (tupleText_mem_le ht) hz')
      have rd : Reads s.heap (.ref a) (.tuple (Dt.toPs ys)) _ := .tuple ho hc hd ra
      have na : a ∉ bs := not_mem_of_deeper rd (by simp only [PyData.depth]; omega) hb
      have dp : PyData.depthAll (Dt.toPs ys) + 1 ≤ n := by simpa only [Dt.toP, PyData.depth, Nat.add_comm] using dpx
      exact call_repr_slot (by omega) ⟨o, ho, hc⟩ PySem.F.slot_tuple_repr (call_tuple_reprK ho hc hd na hk (A := X.A.in1) g (fun b _ => Clear.nil b) (by show X.A.units + 1 + _ < cLine; omega) (fun _ _ e => e) (fun h' u tk hk' => ⟨_, _, rfl, by simpa only [Dt.toP, PyData.shown] using done h' u tk hk'⟩) hz')
    | lst _ h t =>
      rename_i a ys ws _
      cases r1
      obtain ⟨its, rv, ⟨o, m, ho, hc, _, hd⟩, _⟩ := I.list (SqL.of h)
      have hz' : (listText (PyData.shownAll (Dt.toPs ys))).length ≤ sizeLine := by simpa only [Dt.toP, PyData.shown] using sh.sz
      obtain ⟨as, ra⟩ := t.reads I rv
      obtain ⟨bs, hb, hk⟩ := t.reprK I rv (by simpa [Dt.toP, PyData.showable] using sh.ok) (fun t ht => Nat.le_trans (listText_mem_le ht) hz')
      have rd : Reads s.heap (.ref a) (.list (Dt.toPs ys)) _ := .list ho hc hd ra
      have na : a ∉ bs := not_mem_of_deeper rd (by simp only [PyData.depth]; omega) hb
      have dp : PyData.depthAll (Dt.toPs ys) + 1 ≤ n := by simpa only [Dt.toP, PyData.depth, Nat.add_comm] using dpx
      cases its with
      | nil =>
        cases rv
        cases t
        exact call_repr_slot (by omega) ⟨o, ho, hc⟩ PySem.F.slot_list_repr.toG (call_list_repr_empty ⟨o, ho, hc⟩ ho hd ⟨_, _, rfl, by
          have z := done s.heap s.toks (s.toks + 1) fun _ _ e => e
          simp only [Dt.toP, Dt.toPs, PyData.shown, PyData.shownAll, listText_nil] at z
          exact z⟩)
      | cons y l =>
        exact call_repr_slot (by omega) ⟨o, ho, hc⟩ PySem.F.slot_list_repr.toG (call_list_reprK ho hc hd na (by simpa using hk.length_eq) (fun i y e => hk.item i y (by simpa using e)) (A := X.A.in1) g (fun b _ => Clear.nil b) (by show X.A.units + 1 + _ < cLine; omega) (fun _ _ e => e) (fun h' u tk hk' => ⟨_, _, rfl, by simpa only [Dt.toP, PyData.shown] using done h' u tk hk'⟩) hz')
    | dct _ h =>
      rename_i a kvs _
      cases r1
      obtain ⟨o, es, m, ho, hc, hd, low, h4, h5⟩ := dct_obj I h
      have rd : Reads s.heap (.ref a) (.dict (dkp kvs)) _ := .dict ho hc hd h4 h5
      have hz' : (dictText (PyData.shownKv (dkp kvs))).length ≤ sizeLine := by simpa only [Dt.toP, PyData.shown] using sh.sz
      obtain ⟨hs1, hs2⟩ := PyData.showableKv_split (dkp kvs) (by simpa [Dt.toP, PyData.showable] using sh.ok)
      obtain ⟨b1, hb1, k1⟩ := ReprAllK.of_readsAll (prog := X.prog) (w := X.w) h4 hs1 (fun _ hm => nomatch hm) (fun t ht => let ⟨p, hp, hl⟩ := PyData.shownKv_key_le _ t ht; Nat.le_trans hl (Nat.le_trans (dictText_mem_le hp) hz'))
      obtain ⟨b2, hb2, k2⟩ := ReprAllK.of_readsAll (prog := X.prog) (w := X.w) h5 hs2 (fun _ hm => nomatch hm) (fun t ht => let ⟨p, hp, hl⟩ := PyData.shownKv_val_le _ t ht; Nat.le_trans hl (Nat.le_trans (dictText_mem_le hp) hz'))
      have hb : ReadAtMost s.heap (PyData.depthKv (dkp kvs)) (b1 ++ b2) := (hb1.mono (PyData.depthAll_keys_le _)).append (hb2.mono (PyData.depthAll_vals_le _))
      have hna : a ∉ b1 ++ b2 := not_mem_of_deeper rd (by simp only [PyData.depth]; omega) hb
      have dp : PyData.depthKv (dkp kvs) + 1 ≤ n := by simpa only [Dt.toP, PyData.depth, Nat.add_comm] using dpx
      exact call_repr_slot (by omega) ⟨o, ho, hc⟩ PySem.F.slot_dict_repr (call_dict_reprK ho hc hd low hna (ReprEntriesK.of_two es.toList _ _ (k1.more_le (fun b hb => List.mem_append_left _ hb) (PyData.depthAll_keys_le _)) (k2.more_le (fun b hb => List.mem_append_right _ hb) (PyData.depthAll_vals_le _))) (A := X.A.in1) g (fun b _ => Clear.nil b) (by show X.A.units + 1 + _ < cLine; omega) (fun _ _ e => e) (fun h' u tk hk => ⟨_, _, rfl, by simpa only [Dt.toP, PyData.shown, PyData.shownKv_eq] using done h' u tk hk⟩) (by rw [← PyData.shownKv_eq]; exact hz'))
end
end Kv

namespace Kg
open PySem PySem.Spec PyProof.Rows L2 GxR
/-- a def whose code object is known -/
structure FunC (K : PySem.W.Frag) (x qual : Str) (st : Stmt) (f : Addr) (fd : FuncData) (c : Addr) : Prop where
  ex : ∃ (oc : Value) (od : Option Addr) (kV doc pm : Value) (an : Option Addr) (ct : Value) (osl : Array (Option Value)),
    fd = PySem.W.fnOf x qual (defArgs st) (defBody st) (defScope st) .none kV doc pm an (.ref c) ct ∧ K.lookup f = some ⟨oc, od, .func fd, osl⟩ ∧ PySem.W.codeIn K (.ref c) qual = true
section
variable {P : Program} {w : World} {K : PySem.W.Frag} {mg : Str → Option Value} {base : Heap}
theorem FunC.ok {x qual : Str} {st : Stmt} {f : Addr} {fd : FuncData} {c : Addr} {N ps : List Str} {k : Nat} {sp : Sp} (F : FunC K x qual st f fd c) (S : FnScope N ps (defScope st)) (len : ∀ vs H Q E, sp vs H Q E → vs.length = ps.length)
    (hbody : ∀ (A : Around) (outer : List Env) (s : Shared) (H : Hp) (vs : List V) (Q : VK) (E : XK), Room k (A.deeper (envOfC qual (defScope st) s.heap.objs.size f (.ref c))) → sp vs H Q E →
      ∃ t, PSs (cxOf CX0 P w K mg base N qual (defScope st) f (.ref c) A outer s H E).nox (defBody st) t ∧ t { nx := fun _ H' => Q .non H', rt := Q } (start N vs) H) : FnOk P w K mg base CX0 (k + 1) f fd ps sp := by
  obtain ⟨oc, od, kV, doc, pm, an, ct, osl, rfl, lk, hcd⟩ := F.ex
  refine fn_of lk hcd S len fun A outer s H vs Q E hr hsp => ?_
  obtain ⟨t, h, q⟩ := hbody A outer s H vs Q E hr hsp
  exact ⟨t, h.nox, q⟩
theorem funC_mk {x qual : Str} {st : Stmt} {f c : Addr} {oc : Value} {od an : Option Addr} {osl : Array (Option Value)} {kV doc pm ct : Value} (l : K.lookup f = some ⟨oc, od, .func (PySem.W.fnOf x qual (defArgs st) (defBody st) (defScope st) .none kV doc pm an (.ref c) ct), osl⟩)
    (h : PySem.W.codeIn K (.ref c) qual = true) : FunC K x qual st f (PySem.W.fnOf x qual (defArgs st) (defBody st) (defScope st) .none kV doc pm an (.ref c) ct) c := ⟨⟨oc, od, kV, doc, pm, an, ct, osl, rfl, l, h⟩⟩
end
def gxSB (N : List Str) (sc scope : Scope) (own : List Str) (caps : List (Str × Nat)) : Bool :=
  decide (scope.kind = .function) && !scope.isCoroutine && scope.names.all (fun y => !decide (y.2 = .cell)) && decide (scope.names.lookup (".0" : Str) = some NameKind.local) && decide ((own ++ caps.map (·.1)).Nodup) &&
  caps.all (fun p => decide (N[p.2]? = some p.1) && decide (scope.names.lookup p.1 = some .free)) && scope.names.all (fun y => !decide (y.2 = .free) || decide (sc.names.lookup y.1 = some .cell) || decide (sc.names.lookup y.1 = some .free)) && scope.names.all fun y => decide (scope.names.lookup y.1 = some y.2)
theorem gxS_by {N : List Str} {sc scope : Scope} {own : List Str} {caps : List (Str × Nat)} (h : gxSB N sc scope own caps = true) : GxS N sc scope own caps := by
  unfold gxSB at h
  simp only [Bool.and_eq_true, Bool.or_eq_true, Bool.not_eq_true', decide_eq_true_eq, decide_eq_false_iff_not, List.all_eq_true] at h
  obtain ⟨⟨⟨⟨⟨⟨⟨h1, h2⟩, h3⟩, h4⟩, h5⟩, h6⟩, h7⟩, h8⟩ := h
  refine ⟨h1, h2, h3, h4, h5, h6, fun y hy e => ?_, h8⟩
  rcases h7 y hy with (z | z) | z
  · exact absurd e z
  · exact .inl z
  · exact .inr z
/-! the tables of code objects -/
def TbS (T : List Addr) (H : Hp) : Prop := ∀ p ∈ T, TabG H p
/-- all but the tables stands; they are tables -/
def Sm (T : List Addr) (H G : Hp) : Prop := (∀ b u, b ∉ T → H b = some u → G b = some u) ∧ TbS T G
theorem TbS.same {T : List Addr} {H G : Hp} (t : TbS T H) (s : Same H G) : TbS T G := fun p hp => by
  obtain ⟨ps, h1, h2⟩ := t p hp
  exact ⟨ps, s _ _ h1, h2⟩
theorem Sm.refl {T : List Addr} {H : Hp} (t : TbS T H) : Sm T H H := ⟨fun _ _ _ e => e, t⟩
theorem Sm.of {T : List Addr} {H G : Hp} (s : Same H G) (t : TbS T H) : Sm T H G := ⟨fun b u _ e => s b u e, t.same s⟩
theorem Sm.trans {T : List Addr} {H G F : Hp} (a : Sm T H G) (b : Sm T G F) : Sm T H F := ⟨fun x u h e => b.1 x u h (a.1 x u h e), b.2⟩
theorem Sm.tab {T : List Addr} {H G : Hp} {p : Addr} (hp : p ∈ T) (t : TbS T H) (h : Tabbed p H G) : Sm T H G := by
  refine ⟨fun b u hb e => ?_, fun q hq => ?_⟩
  · rw [h.2 b (fun z => hb (by rw [z]; exact hp))]
    exact e
  · by_cases z : q = p
    · rw [z]
      exact h.1
    · obtain ⟨ps, h1, h2⟩ := t q hq
      exact ⟨ps, by rw [h.2 q z]; exact h1, h2⟩
theorem TbS.off {T : List Addr} {H : Hp} {b : Addr} {u : HO} (t : TbS T H) (e : H b = some u) (n : ∀ ps, u ≠ .tbl ps) : b ∉ T := fun hb => by
  obtain ⟨ps, h1, _⟩ := t b hb
  rw [e] at h1
  exact n ps (Option.some.inj h1)
theorem Sm.at {T : List Addr} {H G : Hp} (a : Sm T H G) (t : TbS T H) {b : Addr} {u : HO} (e : H b = some u) (n : ∀ ps, u ≠ .tbl ps) : G b = some u := a.1 b u (t.off e n) e
theorem Sm.free {T : List Addr} {H G : Hp} {p : Addr} (a : Sm T H G) (h : G p = none) : H p = none := by
  cases e : H p with
  | none => rfl
  | some u =>
    by_cases hp : p ∈ T
    · obtain ⟨ps, h1, _⟩ := a.2 p hp
      rw [h] at h1
      cases h1
    · rw [a.1 p u hp e] at h
      cases h
/-! all over a list, over a tuple -/
section
variable {K : PySem.W.Frag} {a : Addr} {xs : List V} {g : TG} {te : TE} {vs : List Nat} {σ0 : L2.St} {G : Hp} {Qe : Bool → Hp → Prop}
theorem all_list (Pv : Nat → Hp → Prop) (h0 : Pv 0 G) (hl : ∀ i H, i ≤ xs.length → Pv i H → SqL K H a xs)
    (hs : ∀ i x H, xs[i]? = some x → Pv i H → g x σ0 H fun σ2 H2 => wipe σ2 vs = σ0 ∧ te σ2 H2 fun y H4 => ∃ b, y = .bl b ∧ if b = true then Pv (i + 1) H4 else Qe false H4) (hd : ∀ H, Pv xs.length H → Qe true H) :
    ∃ W : Nat → Nat → Hp → Prop, (∃ m, W 0 m G) ∧ Turns (Itl K a) σ0 vs g te Qe W := by
  refine ⟨fun i m F => m = xs.length - i ∧ i ≤ xs.length ∧ Pv i F, ⟨_, rfl, Nat.zero_le _, h0⟩, fun i m F z => ?_⟩
  obtain ⟨rfl, hi, p⟩ := z
  have q := hl i F hi p
  by_cases lt : i < xs.length
  · refine .inr ⟨⟨xs, xs[i], q, List.getElem?_eq_getElem lt⟩, Pv (i + 1), fun F' p' => ⟨xs.length - (i + 1), by omega, rfl, lt, p'⟩, fun x F' y => ?_⟩
    obtain ⟨e, y⟩ := y
    subst e
    exact hs i x _ (y xs q) p
  · have e : i = xs.length := by omega
    subst e
    exact .inl ⟨⟨xs, q, Nat.le_refl _⟩, hd F p⟩
theorem all_tup (Pv : Nat → Hp → Prop) (h0 : Pv 0 G) (hl : ∀ i H, i ≤ xs.length → Pv i H → SqT K H a xs)
    (hs : ∀ i x H, xs[i]? = some x → Pv i H → g x σ0 H fun σ2 H2 => wipe σ2 vs = σ0 ∧ te σ2 H2 fun y H4 => ∃ b, y = .bl b ∧ if b = true then Pv (i + 1) H4 else Qe false H4) (hd : ∀ H, Pv xs.length H → Qe true H) :
    ∃ W : Nat → Nat → Hp → Prop, (∃ m, W 0 m G) ∧ Turns (Itt K a) σ0 vs g te Qe W := by
  refine ⟨fun i m F => m = xs.length - i ∧ i ≤ xs.length ∧ Pv i F, ⟨_, rfl, Nat.zero_le _, h0⟩, fun i m F z => ?_⟩
  obtain ⟨rfl, hi, p⟩ := z
  have q := hl i F hi p
  by_cases lt : i < xs.length
  · refine .inr ⟨⟨xs, xs[i], q, List.getElem?_eq_getElem lt⟩, Pv (i + 1), fun F' p' => ⟨xs.length - (i + 1), by omega, rfl, lt, p'⟩, fun x F' y => ?_⟩
    obtain ⟨e, y⟩ := y
    subst e
    exact hs i x _ (y xs q) p
  · have e : i = xs.length := by omega
    subst e
    exact .inl ⟨⟨xs, q, Nat.le_refl _⟩, hd F p⟩
/-- all over what walks -/
theorem all_it {J : It} {n : Nat} {I : Hp → Prop} {Y : Nat → Hp → V → Hp → Prop} (w : Walk J n I Y) (Pv : Nat → Hp → Prop) (h0 : Pv 0 G) (hl : ∀ i H, i ≤ n → Pv i H → I H)
    (hs : ∀ i x H H', i < n → Pv i H → Y i H x H' → g x σ0 H' fun σ2 H2 => wipe σ2 vs = σ0 ∧ te σ2 H2 fun y H4 => ∃ b, y = .bl b ∧ if b = true then Pv (i + 1) H4 else Qe false H4) (hd : ∀ H, Pv n H → Qe true H) :
    ∃ W : Nat → Nat → Hp → Prop, (∃ m, W 0 m G) ∧ Turns J σ0 vs g te Qe W := by
  refine ⟨fun i m F => m = n - i ∧ i ≤ n ∧ Pv i F, ⟨_, rfl, Nat.zero_le _, h0⟩, fun i m F z => ?_⟩
  obtain ⟨rfl, hi, p⟩ := z
  have q := hl i F hi p
  by_cases lt : i < n
  · exact .inr ⟨w.goes i F lt q, Pv (i + 1), fun F' p' => ⟨n - (i + 1), by omega, rfl, lt, p'⟩, fun x F' y => hs i x F F' lt p (w.yields i F x F' lt q y)⟩
  · have e : i = n := by omega
    subst e
    exact .inl ⟨w.stops F q, hd F p⟩
theorem Sm.kn {T : List Addr} {N : Addr → Prop} {H G : Hp} (a : Sm T H G) (t : TbS T H) : Kv.Kn N H G :=
  ⟨fun b xs e => a.at t e (fun ps z => by cases z), fun b xs _ e => a.at t e (fun ps z => by cases z), fun b xs _ e => a.at t e (fun ps z => by cases z)⟩
theorem Sm.new {T : List Addr} {H G : Hp} {p : Addr} {o : HO} (a : Sm T H G) (h : H p = none) (tb : TbS T H) : Sm T H (upd G p o) := by
  refine ⟨fun b u hb e => ?_, fun q hq => ?_⟩
  · rw [upd_ne (ne_of_none e h)]
    exact a.1 b u hb e
  · obtain ⟨ps, h1, h2⟩ := a.2 q hq
    obtain ⟨ps0, h10, _⟩ := tb q hq
    exact ⟨ps, by rw [upd_ne (ne_of_none h10 h)]; exact h1, h2⟩
end
end Kg

/-! dict(..) of a tuple of pairs, a tuple of two turned about -/
namespace Kt
open PySem PySem.Spec PyProof.Rows L2
section
variable {X : Cx}
/-- tuple(l): the object is known -/
theorem call_tupleF : CallR X (.type "tuple") (fun xs H Q => ∃ p ys, xs = [.ref p] ∧ SqL X.K H p ys ∧ ∀ l (o : Obj), H l = none → o.dict = none → o.cls = .type "tuple" → Q (.ref l) (upd H l (.frz o (.tup ys)))) := by
  intro pins s σ H xs us Q I r h
  obtain ⟨p, ys, rfl, hq, q⟩ := h
  obtain ⟨u, rfl, rx⟩ := vals1 r
  cases rx
  obtain ⟨its, r', pl, hz⟩ := I.list hq
  have hlen := r'.length
  refine call_tuple_list pl.isList (fun h' kp => ?_) (by simp only [List.size_toArray] <;> omega)
  have I1 : Inv X pins σ H { s with heap := h' } := I.kept (t' := s.toks) kp
  have I2 : Inv X pins σ (upd H h'.objs.size (.frz { cls := .type "tuple", data := .seq its.toArray } (.tup ys))) { s with heap := h'.push { cls := .type "tuple", data := .seq its.toArray } } :=
    I1.laid (t' := s.toks) (fun b o e => Heap.get?_push_of_some _ e) (Nat.le_refl _) (show ObjOk X.prog X.w _ _ _ (.frz _ (.tup ys)) from ⟨Heap.get?_push_size _ rfl, hz, its, r', IsTup.new _ _⟩)
  exact ⟨.ref h'.objs.size, _, I2, rfl, q _ _ (I1.hok.fresh (Nat.le_refl _)) rfl rfl⟩
/-- () -/
def tTup0 : TE := fun _ H Q => ∀ p (o : Obj), H p = none → o.dict = none → o.cls = .type "tuple" → Q (.ref p) (upd H p (.frz o (.tup [])))
theorem pe_tup0 {x1 : Nat} {pos : Pos} : PE X (.Tuple [] x1 pos) tTup0 := by
  refine ⟨fun pins s σ H Q I h => ?_⟩
  refine wpAny_Tuple_spliced (thn ((pa_nil (X := X)).run pos pins s σ H (fun xs H1 => xs = [] ∧ H1 = H) I ⟨rfl, rfl⟩) fun us s1 ⟨xs, H1, I1, r, e1, e2⟩ => ?_)
  subst e1 e2
  cases r
  refine ⟨Nat.zero_le _, ?_⟩
  refine ⟨.ref s1.heap.objs.size, _, I1.laid (t' := s1.toks) (o := .frz { cls := .type "tuple", data := .seq ([] : List Value).toArray } (.tup [])) (fun b u e => Heap.get?_push_of_some _ e) (Nat.le_refl _) ?_, rfl, h _ _ (I1.hok.fresh (Nat.le_refl _)) rfl rfl⟩
  exact ⟨Heap.get?_push_size _ rfl, Nat.zero_le _, [], .nil, IsTup.new _ _⟩
theorem raws_of {pins : List (Addr × Obj)} {σ : L2.St} {H : Hp} {s : Shared} (I : Inv X pins σ H s) : ∀ {ps : List Addr} {kvs : List (Key × V)}, Paired (fun p kv => SqT X.K H p [kV kv.1, kv.2]) ps kvs →
    ∃ (prs : List (Key × Value)) (raws : List (Value × Value)), KV kvs prs ∧ prs.length = ps.length ∧ raws.length = ps.length ∧ ∀ (j : Nat) (u v : Value), raws[j]? = some (u, v) → ∃ (b : Addr) (k : Key), ps[j]? = some b ∧ IsTup s.heap b #[u, v] ∧ prs[j]? = some (k, v) ∧ keyIs k u = true
  | _, _, .nil => ⟨[], [], .nil, rfl, rfl, fun j u v e => by simp at e⟩
  | _, _, .cons (a := p) (b := kv) h t => by
    obtain ⟨prs, raws, r, hl, hl2, hp⟩ := raws_of I t
    obtain ⟨its, rv, ht, _⟩ := I.tuple h
    obtain ⟨u, y, ei, ru, ry⟩ := vals2 rv
    subst ei
    refine ⟨(kv.1, y) :: prs, (u, y) :: raws, .cons ⟨rfl, ry⟩ r, by rw [List.length_cons, List.length_cons, hl], by rw [List.length_cons, List.length_cons, hl2], fun j u' v' e => ?_⟩
    cases j with
    | zero =>
      have e' : (u, y) = (u', v') := Option.some.inj e
      cases e'
      exact ⟨p, kv.1, rfl, ht, rfl, kV_is (P := X.prog) (w := X.w) ru⟩
    | succ j =>
      obtain ⟨b, k, e1, e2, e3, e4⟩ := hp j u' v' (by simpa using e)
      exact ⟨b, k, by simpa using e1, e2, by simpa using e3, e4⟩
/-- dict(t) of a tuple of pairs -/
theorem call_dictF (hcalm : X.calm = true) : CallR X (.type "dict") (fun xs H Q => ∃ (a : Addr) (o : Obj) (ps : List Addr) (kvs : List (Key × V)), xs = [.ref a] ∧ H a = some (.frz o (.tup (ps.map V.ref))) ∧ o.dict = none ∧ o.cls = .type "tuple" ∧ Paired (fun p kv => SqT X.K H p [kV kv.1, kv.2]) ps kvs ∧
    ∀ p, H p = none → Q (.ref p) (upd H p (.dK (mergeK [] kvs)))) := by
  intro pins s σ H xs us Q I r q
  obtain ⟨a, o, ps, kvs, ex, hq, hod, hoc, hp, q⟩ := q
  subst ex
  obtain ⟨u, eu, rx⟩ := vals1 r
  subst eu
  cases rx
  obtain ⟨ho, hz, its, rv, o2, ho2, hc2, n2, hdat⟩ := I.hok a _ hq
  rw [ho] at ho2
  cases ho2
  have ei := refs_at rv
  subst ei
  rw [List.length_map] at hz
  obtain ⟨prs, raws, rel, hl, hl2, hpr⟩ := raws_of I hp
  have PA := PairArg.tuple (prog := X.prog) (w := X.w) a (ps.map Value.ref).toArray (fun j => (ps[j]?).getD 0) raws
  refine PySem.call_dict_pairs (knd := mixKind X.prog X.w) (kvs := prs) PA (I.ok.hd hcalm) ⟨⟨o, n2, ho, hoc, hod, hdat⟩, by simp [hl2], fun j k v e => ?_⟩ ⟨by rw [hl, hl2], fun i key v e => ?_⟩ (by rw [hl2]; exact hz) fun h' tk hd' k => ?_
  · obtain ⟨b, kk, e1, e2, e3, e4⟩ := hpr j k v e
    refine ⟨by simp [e1], .inl ?_⟩
    show s.heap.IsTuple ((ps[j]?).getD 0) #[k, v]
    rw [e1]
    exact e2
  · obtain ⟨b, kk, e1, e2, e3, e4⟩ := hpr i key v e
    exact ⟨kk, e3, e4⟩
  · have hm : (s.heap.objs.size == sysModules) = false := beq_eq_false_iff_ne.mpr (Nat.ne_of_gt I.big)
    have hlen : (mergeK [] kvs).length ≤ sizeLine := by
      refine Nat.le_trans (length_mergeK kvs []) ?_
      rw [List.length_nil, Nat.zero_add, rel.length, hl]
      exact hz
    exact ⟨.ref s.heap.objs.size, upd H s.heap.objs.size (.dK (mergeK [] kvs)), I.laid (t' := tk) (fun b o e => k b o (by simp) e) (Nat.le_refl _) (show ObjOk X.prog X.w _ _ _ (.dK (mergeK [] kvs)) from ⟨hlen, hm, merged [] prs, KV.merge rel .nil, hd'⟩), rfl, q _ (I.hok.fresh (Nat.le_refl _))⟩
end
/-! t[::-1], t of two -/
section
variable {prog : Program} {w : World} {A : Around} {E : Value → Shared → Prop} {s : Shared}
theorem getItem_two {t sl : Addr} {x y vl vu vs : Value} {Q : Value → Shared → Prop} (ht : IsTup s.heap t #[x, y]) (hs : s.heap.IsSliceOf sl vl vu vs) (pl : IsPart vl none) (pu : IsPart vu none) (ps : IsPart vs (some (-1)))
    (h : Q (.ref s.heap.objs.size) { s with heap := s.heap.push { cls := .type "tuple", data := .seq #[y, x] } }) : wpAny (model prog w) A (getItem (.ref t) (.ref sl)) Q E s := by
  have htake : sizeOk (.seq #[y, x]) := by
    show 2 ≤ sizeLine
    decide
  obtain ⟨os, hos, hcs, hds⟩ := id hs
  have hTs : s.TypeIs (.ref sl) "slice" := ⟨os, hos, hcs⟩
  unfold getItem
  try with_reducible refine wpAny_holding ?_
  first | refine wpAny_bind (wpAny_pure ?_) | skip
  refine wpAny_bind (wpAny_sequenceKey ht.typeIs (by decide) ?_)
  refine wpAny_bind (wpAny_callSpecial?_slot (name := Str.ofString "__getitem__") ht.typeIs PyProof.Rows.slot_tuple_getitem
    (wpAny_call_entry PyProof.Rows.slot_tuple_getitem ht.typeIs entry_tuple_getitem ?_ (args_tuple_getitem _ _)))
  show wpAny _ _ (Builtin.Tuple.tupleItemsOf (.ref t) >>= _) _ _ s
  refine wpAny_bind (tupleItemsOf_ ht ?_)
  refine wpAny_bind (wpAny_typeOf hTs ?_)
  rw [if_pos (by decide)]
  refine wpAny_bind ?_
  unfold Builtin.Slice.sliceApplied Builtin.Slice.sliceFields
  refine wpAny_bind (wpAny_bind (wpAny_field hos hds (x := vl) rfl (wpAny_bind (wpAny_field hos hds (x := vu) rfl (wpAny_bind (wpAny_field hos hds (x := vs) rfl (wpAny_pure ?_)))))))
  refine wpAny_bind (HT.slicePart_ ps ?_)
  show wpAny _ _ (if ((-1 : Int) == 0) = true then _ else _) _ _ s
  rw [if_neg (by decide)]
  refine wpAny_bind (HT.slicePart_ pl (wpAny_bind (HT.slicePart_ pu (wpAny_bind (wpAny_pure ?_)))))
  refine wpAny_pure ?_
  show wpAny _ _ (if (((1 : Int) == 0 && (-1 : Int) == 1 && (2 : Nat) == 2) = true) then _ else _) _ _ s
  rw [if_neg (by decide)]
  generalize hA : (List.filterMap _ (List.range _)).toArray = arr
  have eA : arr = #[y, x] := by
    rw [← hA]
    first
      | rfl
      | kernel_rfl
      | with_unfolding_all rfl
  subst eA
  show wpAny _ _ (Builtin.Tuple.tupleExact #[y, x] >>= fun v => ret v) _ _ s
  have e : ((List.range 2).filterMap fun (m : Nat) => (#[x, y] : Array Value)[((1 : Int) + (m : Int) * (-1)).toNat]?).toArray = #[y, x] := rfl
  first
    | exact wpAny_bind (m := Builtin.Tuple.tupleExact _) (wpAny_newObj_type (wpAny_pure ⟨_, rfl, wpAny_pure h⟩) htake)
    | exact wpAny_bind (m := Builtin.Tuple.tupleExact _) (wpAny_newObj_type (wpAny_bind (wpAny_pure (wpAny_pure ⟨_, rfl, wpAny_pure h⟩))) htake)
    | exact wpAny_bind (wpAny_bind (m := Builtin.Tuple.tupleExact _) (wpAny_newObj_type (wpAny_pure (wpAny_pure ⟨_, rfl, wpAny_pure h⟩)) htake))
    | exact wpAny_bind (wpAny_bind (m := Builtin.Tuple.tupleExact _) (wpAny_newObj_type (wpAny_pure ⟨_, rfl, wpAny_pure h⟩) htake))
end
section
variable {X : Cx}
def tRev2 (K : PySem.W.Frag) (te : TE) : TE := fun σ H Q => te σ H fun x H1 => ∃ a y z, x = .ref a ∧ SqT K H1 a [y, z] ∧ ∀ p, H1 p = none → Q (.ref p) (upd H1 p (.tup [z, y]))
theorem pe_rev2 {e : Expr} {te : TE} {k : Nat} {p1 p2 p3 pos : Pos} (he : PE X e te) : PE X (.Subscript e (.Slice none none (some (.UnaryOp .USub (.Constant (.int 1) k p1) p2)) p3) pos) (tRev2 X.K te) := by
  refine ⟨fun pins s σ H Q I h => ?_⟩
  refine Subscript_ (thn (he.run pins s σ H _ I h) fun v s1 ⟨x, H1, I1, r1, q1⟩ => ?_)
  obtain ⟨a, y, z, ex, hx, q⟩ := q1
  subst ex
  cases r1
  have hst : PO X (some (.UnaryOp .USub (.Constant (.int 1) k p1) p2)) (tPart (tUn (rU fun i => .int (-i)) (tC (.int 1)))) := po_some (pe_un un_neg pe_int)
  refine wpAny_Slice (thn (po_none.run pins s1 σ H1 (fun o H2 => o = none ∧ H2 = H1) I1 ⟨rfl, rfl⟩) fun vl s2 ⟨l, H2, I2, pl, el, e2⟩ => ?_)
  subst el e2
  refine thn (po_none.run pins s2 σ H2 (fun o H3 => o = none ∧ H3 = H2) I2 ⟨rfl, rfl⟩) fun vu s3 ⟨u, H3, I3, pu, eu, e3⟩ => ?_
  subst eu e3
  refine thn (hst.run pins s3 σ H3 (fun o H4 => o = some (-1) ∧ H4 = H3) I3 ⟨1, rfl, -1, rfl, rfl, rfl⟩) fun vs s4 ⟨o, H4, I4, ps, eo, e4⟩ => ?_
  subst eo e4
  have I5 : Inv X pins σ H4 { s4 with heap := s4.heap.push { cls := .type "slice", data := .fields #[vl, vu, vs] } } := I4.kept (t' := s4.toks) fun b ob q => Heap.get?_push_of_some _ q
  obtain ⟨its, r, ht, hz⟩ := I5.tuple hx
  obtain ⟨yv, zv, ei, ry, rz⟩ := vals2 r
  subst ei
  show wpAny (model X.prog X.w) X.A (subscriptTail e (.Slice none none (some (.UnaryOp .USub (.Constant (.int 1) k p1) p2)) p3) (.ref a) (.ref s4.heap.objs.size)) (EP X pins σ Q) X.xe { s4 with heap := s4.heap.push { cls := .type "slice", data := .fields #[vl, vu, vs] } }
  refine tail_any (ops := [.ref a, .ref s4.heap.objs.size]) ht.typeIs (PyProof.Rows.slot_tuple_getitem.lookup) ?_ (by with_unfolding_all rfl)
  refine getItem_two ht (Heap.IsSliceOf.new _ vl vu vs) pl pu ps ?_
  refine ⟨.ref _, _, I5.laid (t' := s4.toks) (o := .tup [z, y]) (fun b ob q => Heap.get?_push_of_some _ q) (Nat.le_refl _) ?_, rfl, q _ (I5.hok.fresh (Nat.le_refl _))⟩
  exact ⟨by show 2 ≤ sizeLine; decide, [zv, yv], .cons rz (.cons ry .nil), IsTup.new _ _⟩
end
end Kt

/-! further rules: == of tuples by texts, enumerate of a tuple, a text many times, a tuple turned about -/
namespace Kv
open PySem PySem.Spec PyProof.Rows L2 Kf
theorem vals_at : ∀ {xs : List V} {us : List Value} {i : Nat} (h : i < us.length), Vals xs us → ∃ x, xs[i]? = some x ∧ RelV x us[i]
  | _, _, i, h, .nil => absurd h (Nat.not_lt_zero _)
  | _, _, 0, h, .cons r t => ⟨_, rfl, r⟩
  | _, _, i + 1, h, .cons r t => by
    obtain ⟨x, e, q⟩ := vals_at (i := i) (Nat.lt_of_succ_lt_succ h) t
    exact ⟨x, e, q⟩
/-- at places that both have stand texts -/
def BothTxt (xs ys : List V) : Prop := ∀ (i : Nat) (u v : V), xs[i]? = some u → ys[i]? = some v → ∃ a b : Str, u = .str a ∧ v = .str b
def rEqTT (K : PySem.W.Frag) : R2 := fun x y H Q => ∃ (a b : Addr) (xs ys : List V), x = .ref a ∧ y = .ref b ∧ SqT K H a xs ∧ SqT K H b ys ∧ BothTxt xs ys ∧ Q (.bl (decide (xs = ys))) H
theorem op_eqTT {X : Cx} (hu : X.A.units + 64 < cLine) : OpR X (compareOp .Eq) (rEqTT X.K) := by
  intro pins s σ H x y v u Q I rx ry h
  obtain ⟨a, b, xs, ys, rfl, rfl, ha, hb, bt, q⟩ := h
  cases rx
  cases ry
  obtain ⟨is, r1, ⟨o1, h1, c1, n1, d1⟩, _⟩ := I.tuple ha
  obtain ⟨js, r2, ⟨o2, h2, c2, n2, d2⟩, _⟩ := I.tuple hb
  have l1 := r1.length
  have l2 := r2.length
  refine PySem.SeqAt.eq_tupleAt (e := fun i => decide (xs[i]? = ys[i]?)) ⟨o1, h1, c1, n1, d1⟩ ⟨o2, h2, c2, n2, d2⟩ (by omega) (fun j j1 j2 => ?_) ?_
  · have j1' : j < is.length := by simpa using j1
    have j2' : j < js.length := by simpa using j2
    obtain ⟨p, ep, rp⟩ := vals_at j1' r1
    obtain ⟨p', ep', rp'⟩ := vals_at j2' r2
    obtain ⟨sa, sb, rfl, rfl⟩ := bt j p p' ep ep'
    obtain ⟨t1, e1⟩ := rp
    obtain ⟨t2, e2⟩ := rp'
    have z := PySem.SeqAt.EqAt.str_str (A := X.A.in1) (s := s) sa t1 sb t2
    simp only [List.getElem_toArray, e1, e2, ep, ep']
    have e : decide (some (V.str sa) = some (V.str sb)) = (sa == sb) := by
      by_cases c : sa = sb
      · subst c
        simp
      · have : ¬ some (V.str sa) = some (V.str sb) := fun z => c (V.str.inj (Option.some.inj z))
        rw [decide_eq_false this]
        exact (beq_eq_false_iff_ne.mpr c).symm
    rw [e]
    exact z
  · have e : ((List.range (min is.toArray.size js.toArray.size)).all (fun i => decide (xs[i]? = ys[i]?)) && is.toArray.size == js.toArray.size) = decide (xs = ys) := by
      rw [List.size_toArray, List.size_toArray, ← l1, ← l2]
      by_cases c : xs = ys
      · subst c
        simp
      · rw [decide_eq_false c]
        by_cases cl : xs.length = ys.length
        · rw [Bool.and_eq_false_iff]
          left
          rw [← Bool.not_eq_true, List.all_eq_true]
          intro all
          refine c (List.ext_getElem? fun i => ?_)
          by_cases hi : i < xs.length
          · exact of_decide_eq_true (all i (List.mem_range.mpr (by omega)))
          · rw [List.getElem?_eq_none (by omega), List.getElem?_eq_none (by omega)]
        · rw [Bool.and_eq_false_iff]
          right
          exact beq_eq_false_iff_ne.mpr cl
    rw [e]
    exact ⟨.bl _, H, I, rfl, q⟩
/-! a text many times -/
theorem fold_app : ∀ (l : List (Array Nat)) (acc : Array Nat), (l.foldl (· ++ ·) acc).toList = acc.toList ++ (l.map Array.toList).flatten
  | [], acc => by simp
  | x :: l, acc => by
    rw [List.foldl_cons, fold_app l]
    simp [Array.toList_append, List.append_assoc]
theorem mul_cps (z : Str) (n : Nat) : (∀ c ∈ (Txt.mul z (n : Int)).cps.toList, c ∈ z.cps.toList) ∧ (Txt.mul z (n : Int)).cps.toList.length ≤ z.cps.toList.length * n := by
  unfold Txt.mul
  by_cases h1 : (n : Int) < 1
  · rw [if_pos h1]
    exact ⟨fun c h => absurd h (by simp [Str.empty]), by simp [Str.empty]⟩
  rw [if_neg h1]
  by_cases h2 : ((n : Int) == 1 || z.length == 0) = true
  · rw [if_pos h2]
    exact ⟨fun c h => h, Nat.le_mul_of_pos_right _ (by omega)⟩
  rw [if_neg h2]
  show (∀ c ∈ ((List.replicate (n : Int).toNat z.cps).foldl (· ++ ·) #[]).toList, c ∈ z.cps.toList) ∧ ((List.replicate (n : Int).toNat z.cps).foldl (· ++ ·) #[]).toList.length ≤ _
  rw [fold_app, Int.toNat_natCast, List.map_replicate]
  refine ⟨fun c h => ?_, ?_⟩
  · have h' : c ∈ (List.replicate n z.cps.toList).flatten := by simpa using h
    obtain ⟨l, hl, hc⟩ := List.mem_flatten.mp h'
    rw [(List.mem_replicate.mp hl).2] at hc
    exact hc
  · have e : ((#[] : Array Nat).toList ++ (List.replicate n z.cps.toList).flatten).length = n * z.cps.toList.length := by simp
    rw [e, Nat.mul_comm]
    exact Nat.le_refl _
def rMulS : R2 := fun x y H Q => ∃ (z : Str) (n : Nat), x = .str z ∧ y = .int (n : Int) ∧ n ≤ 1000 ∧ z.length ≤ sizeLine ∧ z.length * n ≤ sizeLine ∧ Q (.str (Txt.mul z (n : Int))) H
theorem op_mulS {X : Cx} : OpR X (binaryOp .Mult) rMulS := by
  intro pins s σ H x y v u Q I rx ry h
  obtain ⟨z, n, rfl, rfl, hn, hz0, hz1, q⟩ := h
  have hz : z.length ≤ 16777216 := hz0
  obtain ⟨t1, rfl⟩ := rx
  obtain ⟨t2, rfl⟩ := ry
  refine SB.mul (x := z) (n := (n : Int)) ⟨?_, fun h1 _ => ?_, fun h1 _ => ?_⟩ fun t' k => ⟨.str _, H, I.tok _, ⟨t', rfl⟩, q⟩
  · have a : decide ((n : Int) < -(2 ^ 63 : Int)) = false := decide_eq_false (by omega)
    have b : decide ((n : Int) ≥ 2 ^ 63) = false := decide_eq_false (by omega)
    rw [a, b]
    rfl
  · have h0 : (0 : Int) < (n : Int) := by omega
    have h3 : (16777216 : Int) ≤ (2 ^ 63 - 1) / (n : Int) := by
      rw [Int.le_ediv_iff_mul_le h0]
      omega
    omega
  · have le : z.length * (n : Int).toNat ≤ 16777216 := by
      rw [Int.toNat_natCast]
      exact hz1
    unfold Builtin.Str.tooLong
    exact decide_eq_false (by have : sizeLine = 16777216 := rfl; omega)
/-! a tuple turned about -/
theorem fm_congr {α β : Type} {f g : α → Option β} : ∀ {l : List α}, (∀ x ∈ l, f x = g x) → l.filterMap f = l.filterMap g
  | [], _ => rfl
  | x :: l, h => by
    rw [List.filterMap_cons, List.filterMap_cons, h x List.mem_cons_self, fm_congr fun y hy => h y (List.mem_cons_of_mem _ hy)]
section
variable {prog : Program} {w : World} {A : Around} {E : Value → Shared → Prop} {s : Shared}
theorem getItem_back {t sl : Addr} {its : Array Value} {vl vu vs : Value} {Q : Value → Shared → Prop} (ht : IsTup s.heap t its) (hz : its.size ≤ sizeLine) (hs : s.heap.IsSliceOf sl vl vu vs) (pl : IsPart vl none) (pu : IsPart vu none) (ps : IsPart vs (some (-1)))
    (h : Q (.ref s.heap.objs.size) { s with heap := s.heap.push { cls := .type "tuple", data := .seq its.toList.reverse.toArray } }) : wpAny (model prog w) A (getItem (.ref t) (.ref sl)) Q E s := by
  have htake : sizeOk (.seq its.toList.reverse.toArray) := by
    show its.toList.reverse.toArray.size ≤ sizeLine
    simpa using hz
  obtain ⟨os, hos, hcs, hds⟩ := id hs
  have hTs : s.TypeIs (.ref sl) "slice" := ⟨os, hos, hcs⟩
  unfold getItem
  try with_reducible refine wpAny_holding ?_
  first | refine wpAny_bind (wpAny_pure ?_) | skip
  refine wpAny_bind (wpAny_sequenceKey ht.typeIs (by decide) ?_)
  refine wpAny_bind (wpAny_callSpecial?_slot (name := Str.ofString "__getitem__") ht.typeIs PyProof.Rows.slot_tuple_getitem
    (wpAny_call_entry PyProof.Rows.slot_tuple_getitem ht.typeIs entry_tuple_getitem ?_ (args_tuple_getitem _ _)))
  show wpAny _ _ (Builtin.Tuple.tupleItemsOf (.ref t) >>= _) _ _ s
  refine wpAny_bind (tupleItemsOf_ ht ?_)
  refine wpAny_bind (wpAny_typeOf hTs ?_)
  rw [if_pos (by decide)]
  refine wpAny_bind ?_
  unfold Builtin.Slice.sliceApplied Builtin.Slice.sliceFields
  refine wpAny_bind (wpAny_bind (wpAny_field hos hds (x := vl) rfl (wpAny_bind (wpAny_field hos hds (x := vu) rfl (wpAny_bind (wpAny_field hos hds (x := vs) rfl (wpAny_pure ?_)))))))
  refine wpAny_bind (HT.slicePart_ ps ?_)
  show wpAny _ _ (if ((-1 : Int) == 0) = true then _ else _) _ _ s
  rw [if_neg (by decide)]
  refine wpAny_bind (HT.slicePart_ pl (wpAny_bind (HT.slicePart_ pu (wpAny_bind (wpAny_pure ?_)))))
  refine wpAny_pure ?_
  have en : Builtin.Slice.slicePlaces ((its.size : Int) - 1) (-1) (-1) = its.size := by
    unfold Builtin.Slice.slicePlaces
    simp only [show ¬ ((-1 : Int) > 0) by decide, if_false, show (- -1 : Int) = 1 by decide, Int.ediv_one]
    split <;> omega
  show wpAny _ _ (if ((((its.size : Int) - 1) == 0 && (-1 : Int) == 1 && Builtin.Slice.slicePlaces ((its.size : Int) - 1) (-1) (-1) == its.size) = true) then _ else _) _ _ s
  rw [if_neg (by simp)]
  generalize hA : (List.filterMap _ (List.range _)).toArray = arr
  have hA' : (List.filterMap (fun k : Nat => its[(((its.size : Int) - 1) + (k : Int) * (-1)).toNat]?) (List.range (Builtin.Slice.slicePlaces ((its.size : Int) - 1) (-1) (-1)))).toArray = arr := hA
  have eA : arr = its.toList.reverse.toArray := by
    rw [← hA', en]
    have e : List.filterMap (fun k : Nat => its[(((its.size : Int) - 1) + (k : Int) * (-1)).toNat]?) (List.range its.size) = List.filterMap (its[·]?) ((List.range its.size).map fun k => its.size - 1 - k) := by
      rw [List.filterMap_map]
      refine fm_congr fun k hk => ?_
      have := List.mem_range.mp hk
      show its[(((its.size : Int) - 1) + (k : Int) * (-1)).toNat]? = its[its.size - 1 - k]?
      have e2 : (((its.size : Int) - 1) + (k : Int) * (-1)).toNat = its.size - 1 - k := by omega
      rw [e2]
    rw [e, PySem.W.krv_range, List.filterMap_reverse, PySem.W.krv_all]
  subst eA
  show wpAny _ _ (Builtin.Tuple.tupleExact its.toList.reverse.toArray >>= fun v => ret v) _ _ s
  first
    | exact wpAny_bind (m := Builtin.Tuple.tupleExact _) (wpAny_newObj_type (wpAny_pure ⟨_, rfl, wpAny_pure h⟩) htake)
    | exact wpAny_bind (m := Builtin.Tuple.tupleExact _) (wpAny_newObj_type (wpAny_bind (wpAny_pure (wpAny_pure ⟨_, rfl, wpAny_pure h⟩))) htake)
end
section
variable {X : Cx}
def tRevT (K : PySem.W.Frag) (te : TE) : TE := fun σ H Q => te σ H fun x H1 => ∃ (a : Addr) (xs : List V), x = .ref a ∧ SqT K H1 a xs ∧ ∀ p, H1 p = none → Q (.ref p) (upd H1 p (.tup xs.reverse))
theorem pe_revT {e : Expr} {te : TE} {k : Nat} {p1 p2 p3 pos : Pos} (he : PE X e te) : PE X (.Subscript e (.Slice none none (some (.UnaryOp .USub (.Constant (.int 1) k p1) p2)) p3) pos) (tRevT X.K te) := by
  refine ⟨fun pins s σ H Q I h => ?_⟩
  refine Subscript_ (thn (he.run pins s σ H _ I h) fun v s1 ⟨x, H1, I1, r1, q1⟩ => ?_)
  obtain ⟨a, xs, ex, hx, q⟩ := q1
  subst ex
  cases r1
  have hst : PO X (some (.UnaryOp .USub (.Constant (.int 1) k p1) p2)) (tPart (tUn (rU fun i => .int (-i)) (tC (.int 1)))) := po_some (pe_un un_neg pe_int)
  refine wpAny_Slice (thn (po_none.run pins s1 σ H1 (fun o H2 => o = none ∧ H2 = H1) I1 ⟨rfl, rfl⟩) fun vl s2 ⟨l, H2, I2, pl, el, e2⟩ => ?_)
  subst el e2
  refine thn (po_none.run pins s2 σ H2 (fun o H3 => o = none ∧ H3 = H2) I2 ⟨rfl, rfl⟩) fun vu s3 ⟨u, H3, I3, pu, eu, e3⟩ => ?_
  subst eu e3
  refine thn (hst.run pins s3 σ H3 (fun o H4 => o = some (-1) ∧ H4 = H3) I3 ⟨1, rfl, -1, rfl, rfl, rfl⟩) fun vs s4 ⟨o, H4, I4, ps, eo, e4⟩ => ?_
  subst eo e4
  have I5 : Inv X pins σ H4 { s4 with heap := s4.heap.push { cls := .type "slice", data := .fields #[vl, vu, vs] } } := I4.kept (t' := s4.toks) fun b ob q => Heap.get?_push_of_some _ q
  obtain ⟨its, r, ht, hz⟩ := I5.tuple hx
  have lr := r.length
  show wpAny (model X.prog X.w) X.A (subscriptTail e (.Slice none none (some (.UnaryOp .USub (.Constant (.int 1) k p1) p2)) p3) (.ref a) (.ref s4.heap.objs.size)) (EP X pins σ Q) X.xe { s4 with heap := s4.heap.push { cls := .type "slice", data := .fields #[vl, vu, vs] } }
  refine tail_any (ops := [.ref a, .ref s4.heap.objs.size]) ht.typeIs (PyProof.Rows.slot_tuple_getitem.lookup) ?_ (by with_unfolding_all rfl)
  refine getItem_back ht (by rw [List.size_toArray]; omega) (Heap.IsSliceOf.new _ vl vu vs) pl pu ps ?_
  refine ⟨.ref _, _, I5.laid (t' := s4.toks) (o := .tup xs.reverse) (fun b ob q => Heap.get?_push_of_some _ q) (Nat.le_refl _) ?_, rfl, q _ (I5.hok.fresh (Nat.le_refl _))⟩
  exact ⟨by rw [List.length_reverse]; exact hz, its.reverse, r.reverse, IsTup.new _ _⟩
end
/-! a list == the empty list -/
def rEqL0 (K : PySem.W.Frag) : R2 := fun x y H Q => ∃ (a b : Addr) (xs : List V), x = .ref a ∧ y = .ref b ∧ SqL K H a xs ∧ SqL K H b [] ∧ Q (.bl xs.isEmpty) H
theorem op_eqL0 {X : Cx} (hu : X.A.units + 64 < cLine) : OpR X (compareOp .Eq) (rEqL0 X.K) := by
  intro pins s σ H x y v u Q I rx ry h
  obtain ⟨a, b, xs, rfl, rfl, ha, hb, q⟩ := h
  cases rx
  cases ry
  obtain ⟨is, r1, ⟨o1, n1, h1, c1, _, d1⟩, _⟩ := I.list ha
  obtain ⟨js, r2, ⟨o2, n2, h2, c2, _, d2⟩, _⟩ := I.list hb
  cases r2
  cases r1 with
  | nil => exact PySem.SeqAt.eq_listAt (e := fun _ => true) ⟨o1, h1, c1, n1, d1⟩ ⟨o2, h2, c2, n2, d2⟩ rfl (by omega) (fun j j1 _ => absurd j1 (Nat.not_lt_zero _)) ⟨.bl true, H, I, rfl, q⟩
  | cons r t => exact PySem.SeqAt.eq_list_lengthsAt ⟨o1, h1, c1, n1, d1⟩ ⟨o2, h2, c2, n2, d2⟩ (by simp) (by omega) ⟨.bl false, H, I, rfl, q⟩
end Kv

/-! enumerate of a tuple -/
namespace PySem
open Sem (wp)
open AutoSeq1 (wpAny_loadPart')
theorem enumT_new (l : Addr) (its : Array Value) :
    Meets (Builtin.«enumerate.__new__» ⟨[.type "enumerate", .ref l], []⟩) (fun _ R s => s.heap.IsTuple l its ∧
      R (.ok (.ret (.ref (s.heap.push { cls := .type "tuple_iterator", data := .fields #[.ref l, .int 0 0] }).objs.size)))
        { s with heap := (s.heap.push { cls := .type "tuple_iterator", data := .fields #[.ref l, .int 0 0] }).push { cls := .type "enumerate", data := .fields #[.none, .bool false, .ref s.heap.objs.size, rawInt 0, .none, .none] } }) :=
  .of_wp fun prog w A R s h => by
    obtain ⟨hp, g, d, tk, os⟩ := s
    obtain ⟨hT, h⟩ := h
    obtain ⟨o, ho, hc, n, hd⟩ := id hT
    have ff := sub_enumerate
    wp_walk using wpAny_loadPart' ho
    refine wpAny_stack_any fun st => wpAny_pure ?_
    split
    · rename_i c _ _ _ _ _
      cases (c == Value.type "enumerate")
      · wp_walk using wpAny_loadPart' ho, wpAny_pyIter_tuple hT
        exact ⟨_, rfl, h⟩
      · wp_walk using wpAny_loadPart' ho, wpAny_pyIter_tuple hT
        exact ⟨_, rfl, h⟩
    · wp_walk using wpAny_loadPart' ho, wpAny_pyIter_tuple hT
      exact ⟨_, rfl, h⟩
end PySem
namespace Kv
open PySem PySem.Spec PyProof.Rows L2 Kf
/-- the tuple at a, each item in a new pair -/
def IteT (K : PySem.W.Frag) (a : Addr) : It where
  go := fun i H => ∃ (xs : List V) (x : V), SqT K H a xs ∧ xs[i]? = some x
  yld := fun i H v G => ∃ T x, v = .ref T ∧ H T = none ∧ G = upd H T (.tup [.int (i : Nat), x]) ∧ ∀ xs, SqT K H a xs → xs[i]? = some x
  stop := fun i H => ∃ xs : List V, SqT K H a xs ∧ xs.length ≤ i
theorem turn_enumT {P : Program} {w : World} {K : PySem.W.Frag} {elts : List Expr} {kk : Nat} {tpos : Pos} (a e it : Addr) :
    Turn P w K (.Tuple elts kk tpos) (IteT K a) [e, it] e (fun i h => (∃ old, IsEnum h e it ((i : Nat) : Int) old) ∧ h.IsTupleIter it a i ∧ e ≠ it) where
  mem := by simp
  obj := by
    intro i h st b hb
    obtain ⟨⟨old, he⟩, ⟨o, ho, hc, hd⟩, _⟩ := st
    rcases (by simpa using hb : b = e ∨ b = it) with rfl | rfl
    · exact ⟨_, he, fun v q => nomatch q⟩
    · exact ⟨o, ho, fun v q => by rw [hd] at q; cases q⟩
  keep := fun i h h' st k => let ⟨⟨old, he⟩, hi, hne⟩ := st; ⟨⟨old, k e (by simp) _ he⟩, hi.at fun o q => k it (by simp) o q, hne⟩
  item := by
    intro X hP hw hK hc i pins s σ H E I hf st hg
    subst hP hw hK
    obtain ⟨⟨old, he⟩, hit, hne⟩ := st
    obtain ⟨xs, x, hq, hx⟩ := hg
    obtain ⟨its, rv, tp, hz⟩ := I.tuple hq
    obtain ⟨u, hu, ru⟩ := rv.get hx
    obtain ⟨oi, hoi, hci, hdi⟩ := id hit
    obtain ⟨ot, hot, hct, nt, hdt⟩ := id tp
    have lt : i < its.length := (List.getElem?_eq_some_iff.mp hu).1
    have ai : a ≠ it := fun z => by
      rw [z, hoi] at hot
      cases hot
      rw [hci] at hct
      exact absurd (Value.type.inj hct) (by decide)
    have ea : e ≠ a := fun z => by
      rw [← z, he] at hot
      cases hot
      exact absurd (Value.type.inj hct) (by decide)
    have hel : e < s.heap.objs.size := Heap.lt_size he
    have hil : it < s.heap.objs.size := Heap.lt_size hoi
    refine wpAny_pyNext_enum_itemD (Draws.tuple (A := X.A.in1) (I.ok.hd hc) it a ai its.toArray) he ⟨hit, ⟨ot, hot, hct, nt, hdt⟩⟩ (by simpa using lt) hne (by simp [hne, ea]) ?_
    intro u' h1 tk hu' ho hst hT hsz hk
    have eu : u' = u := by
      have z : its[i]? = some u' := by simpa using hu'
      rw [hu] at z
      exact (Option.some.inj z).symm
    subst eu
    refine ⟨_, rfl, wpAny_letOwnedTupleGo_enum (s := { s with heap := h1, toks := tk + 1 }) ho ?_⟩
    intro h2 he' sb
    have hT2 : h2.get? s.heap.objs.size = some { cls := .type "tuple", data := .seq #[.int i tk, u'] } := (sb.2 _ (Nat.ne_of_gt hel)).trans hT
    have new : ObjOk X.prog X.w (upd H s.heap.objs.size (.tup [.int (i : Nat), x])) h2 s.heap.objs.size (.tup [.int (i : Nat), x]) := ⟨by show 2 ≤ sizeLine; decide, [.int i tk, u'], .cons ⟨_, rfl⟩ (.cons ru .nil), ⟨_, hT2, rfl, _, rfl⟩⟩
    have J : Inv X pins σ (upd H s.heap.objs.size (.tup [.int (i : Nat), x])) { s with heap := h2, toks := tk + 1 } :=
      I.turnedNew (ch := [e, it]) (fun b ob hb q => (sb.2 b (fun z => hb (by simp [z]))).trans (hk b ob (fun z => hb (by simp [z])) (fun z => hb (by simp [z])) q)) hf (Nat.le_refl _) new
    refine ⟨.ref s.heap.objs.size, _, J, rfl, ⟨_, x, rfl, I.hok.fresh (Nat.le_refl _), rfl, fun ys hy => by rw [I.tuple_inj hy hq]; exact hx⟩, ⟨⟨u', ?_⟩, hst.1.at fun o q => (sb.2 it (Ne.symm hne)).trans q, hne⟩, fun b hb => ?_⟩
    · rw [show ((i + 1 : Nat) : Int) = (i : Int) + 1 by omega]
      exact he'
    · have lb : b < s.heap.objs.size := by
        rcases (by simpa using hb : b = e ∨ b = it) with rfl | rfl
        · exact hel
        · exact hil
      rw [upd_ne (Nat.ne_of_lt lb)]
      exact (hf b hb).1
  done := by
    intro X hP hw hK hc i pins s σ H E I hf st hg
    subst hP hw hK
    obtain ⟨⟨old, he⟩, hit, hne⟩ := st
    obtain ⟨xs, hq, hx⟩ := hg
    obtain ⟨its, rv, tp, hz⟩ := I.tuple hq
    obtain ⟨oi, hoi, hci, hdi⟩ := id hit
    obtain ⟨ot, hot, hct, nt, hdt⟩ := id tp
    have ai : a ≠ it := fun z => by
      rw [z, hoi] at hot
      cases hot
      rw [hci] at hct
      exact absurd (Value.type.inj hct) (by decide)
    obtain ⟨f0, f1, f2, f3, f4, f5⟩ := hf it (by simp)
    have hl := rv.length
    have none : its.toArray[i]? = none := by
      rw [List.getElem?_toArray]
      exact List.getElem?_eq_none (by omega)
    have D : Draws X.prog X.w X.A.in1 it [it, a] i (fun _ _ => True) (fun j h => j = i ∧ h.IsTupleIter it a i ∧ h.IsTuple a its.toArray) :=
      { live := fun _ _ st => let ⟨o, ho, _⟩ := st.2.1; ⟨o, ho⟩
        frame := fun _ _ _ st hk => ⟨st.1, st.2.1.at fun o e => hk it (by simp) o e, st.2.2.at fun o e => hk a (by simp) o e⟩
        item := fun j s Q E hj st _ => absurd st.1 (Nat.ne_of_lt hj)
        done := fun s Q E st hE => wpAny_nextOf_tuple_end (I.ok.hd hc) st.2.1 st.2.2 none hE }
    exact wpAny_pyNext_enum_endD D he ⟨rfl, hit, ⟨ot, hot, hct, nt, hdt⟩⟩ fun h1 eb => ⟨rfl, I.turned (t' := s.toks) (fun b o hb q => eb b o hb q) f0 f1 f3 f4 f5⟩
  self := fun A i s Q E st h => let ⟨⟨_, he⟩, _⟩ := st; wpAny_pyIter_enum he h
def iEnumT (K : PySem.W.Frag) (ta : TA) : TI := fun σ H R => ta σ H fun vs G => ∃ (a : Addr) (xs : List V), vs = [.ref a] ∧ SqT K G a xs ∧ R (IteT K a) G
theorem pi_enumT {X : Cx} {e : Expr} {ta : TA} {p pos tpos : Pos} {elts : List Expr} {kk : Nat} (hg : Gl X "enumerate") (hm : X.mg "enumerate" = none) (ha : PA X [e] ta) (hs : starEach [e] X.env = [(false, eval e X.env)] := by rfl) :
    PI X (.Tuple elts kk tpos) (.Call (.Name "enumerate" p) [e] [] pos) (iEnumT X.K ta) := by
  constructor
  intro pins s σ H R I h
  refine Call_ (ld_blt I hg hm boot_enumerate (PyProof.Rows.callWith_type1 (thn (ha.run pos pins s σ H _ I h) ?_) hs rfl))
  rintro us s1 ⟨vs, G, J, r, a, xs, rfl, hq, q⟩
  rw [Vals.ref1 r]
  obtain ⟨its, rv, tp, hz⟩ := J.tuple hq
  have IT : s1.heap.IsTuple a its.toArray := let ⟨o, ho, hc, n, hd⟩ := tp; ⟨o, ho, hc, n, hd⟩
  have sz1 : (s1.heap.push { cls := .type "tuple_iterator", data := .fields #[.ref a, .int 0 0] }).objs.size = s1.heap.objs.size + 1 := Heap.size_push ..
  refine callType_new F.called_enumerate (by decide) (F.typeCall_enumerate_1 _) (F.newCall_enumerate_1 _) (fun obj => F.args_object_init_2 obj _) F.entry_enumerate_new (enumT_new a its.toArray) ⟨IT, ?_⟩
  show _ ∧ _
  rw [sz1]
  have he := Heap.get?_push_size (s1.heap.push { cls := .type "tuple_iterator", data := .fields #[.ref a, .int 0 0] }) (o := { cls := .type "enumerate", data := .fields #[.none, .bool false, .ref s1.heap.objs.size, rawInt 0, .none, .none] }) rfl
  rw [sz1] at he
  refine ⟨⟨_, he, rfl⟩, wpAny_pyIter_enum he ?_⟩
  have J2 := J.kept (h' := (s1.heap.push { cls := .type "tuple_iterator", data := .fields #[.ref a, .int 0 0] }).push { cls := .type "enumerate", data := .fields #[.none, .bool false, .ref s1.heap.objs.size, rawInt 0, .none, .none] }) (t' := s1.toks) (fun b o x => Heap.get?_push_of_some _ (Heap.get?_push_of_some _ x))
  refine ⟨s1.heap.objs.size + 1, [s1.heap.objs.size + 1, s1.heap.objs.size], _, _, G, rfl, J2, turn_enumT a (s1.heap.objs.size + 1) s1.heap.objs.size, ⟨⟨.none, he⟩, ⟨_, Heap.get?_push_of_some _ (Heap.get?_push_size _ rfl), rfl, rfl⟩, Nat.succ_ne_self _⟩, fun b hb => ?_, q⟩
  have le : s1.heap.objs.size ≤ b := by
    rcases (by simpa using hb : b = s1.heap.objs.size + 1 ∨ b = s1.heap.objs.size) with rfl | rfl
    · exact Nat.le_add_right _ _
    · exact Nat.le_refl _
  exact J.fpOk le (J.hok.fresh le)
theorem walk_enumT {K : PySem.W.Frag} {a : Addr} {xs : List V} : Walk (IteT K a) xs.length (fun H => SqT K H a xs) (YPair (fun i => some (.int (i : Nat))) (fun i => xs[i]?)) := by
  refine ⟨fun i _ hi q => ⟨xs, xs[i], q, by simp [hi]⟩, fun _ q => ⟨xs, q, Nat.le_refl _⟩, fun i H v G _ q y => ?_⟩
  obtain ⟨T, x, h1, h2, h3, h4⟩ := y
  exact ⟨T, .int (i : Nat), x, h1, h2, h3, rfl, h4 xs q⟩
end Kv

/-! a thing of anything == a text -/
namespace PySem.SeqAt
theorem sub_str_dic : isSubtype (.type "str") (.type "dict") = pure false := by kernel_rfl
theorem dic_declines (l : Addr) (es : Array DictEntry) (n : Nat) (dd : Option Addr) (sl : Array (Option Value)) (b : Str) (u : Tok) :
    Meets (Builtin.«dict.__eq__» ⟨[.ref l, .str b u], []⟩) (fun _ R s => s.heap.get? l = some { cls := .type "dict", dict := dd, data := .dict es n, slots := sl } ∧ R (.ok (.ret .notImplemented)) s) :=
  .of_wp fun prog w A R s h => by
    obtain ⟨hp, g, d, tk, os⟩ := s
    obtain ⟨hl, h⟩ := h
    have f1 := sub_str_dic
    wp_walk using AutoSeq1.wpAny_loadPart' hl
    exact ⟨_, rfl, h⟩
theorem str_declines_dic (b : Str) (u : Tok) (l : Addr) (es : Array DictEntry) (n : Nat) (dd : Option Addr) (sl : Array (Option Value)) :
    Meets (Builtin.«str.__eq__» ⟨[.str b u, .ref l], []⟩) (fun _ R s => s.heap.get? l = some { cls := .type "dict", dict := dd, data := .dict es n, slots := sl } ∧ R (.ok (.ret .notImplemented)) s) :=
  .of_wp fun prog w A R s h => by
    obtain ⟨hp, g, d, tk, os⟩ := s
    obtain ⟨hl, h⟩ := h
    wp_walk using AutoSeq1.wpAny_loadPart' hl, wpAny_load hl
    exact ⟨_, rfl, h⟩
theorem dic_str {A : Around} {s : Shared} {l : Addr} {o : Obj} {es : Array DictEntry} {n : Nat} (b : Str) (u : Tok) (ho : s.heap.get? l = some o) (hc : o.cls = .type "dict") (hd : o.data = .dict es n) (hu : A.units < cLine) : RcAt A s (.ref l) (.str b u) false := fun prog w E Q h => by
  obtain ⟨cls, dd, data, sl⟩ := o
  simp only at hc hd
  subst hc hd
  exact rc_eq_decline_or (k := false) ⟨_, ho, rfl⟩ (typeIs_str s b u) (by decide) sub_str_dic F.slot_dict_eq F.slot_str_eq_refl
    (fun _ hq => call_meets F.slot_dict_eq ⟨_, ho, rfl⟩ F.entry_dict_eq (F.args_dict_eq_2 _ _) (dic_declines l es n dd sl b u) ⟨ho, hq⟩)
    (fun _ hq => call_meets F.slot_str_eq_refl (typeIs_str s b u) F.entry_str_eq (F.args_str_eq_2 _ _) (str_declines_dic b u l es n dd sl) ⟨ho, hq⟩)
    (fun _ hq => wpAny_of_eq (rfl : isSame (.ref l) (.str b u) = pure false) hq) (.inr hu) h
end PySem.SeqAt
namespace Kv
open PySem PySem.Spec PyProof.Rows L2 Kf
def Dt.isS (x : Dt) (z : Str) : Bool := match x with
  | .str y => decide (y = z)
  | _ => false
def rEqUS : R2 := fun x y H Q => ∃ (d : Dt) (z : Str), Dd Any H d x ∧ y = .str z ∧ Q (.bl (d.isS z)) H
theorem op_eqUS {X : Cx} (hu : X.A.units + 64 < cLine) : OpR X (compareOp .Eq) rEqUS := by
  intro pins s σ H x y v u Q I rx ry h
  obtain ⟨d, z, hd, rfl, q⟩ := h
  obtain ⟨t2, rfl⟩ := ry
  have no : d.isS z = false → EP X pins σ Q (.bool false) s := fun e => by
    rw [e] at q
    exact ⟨.bl false, H, I, rfl, q⟩
  cases hd with
  | non =>
    cases rx
    exact SeqAt.RcAt.none_str z t2 _ _ _ _ (no rfl)
  | bl b =>
    cases rx
    exact SeqAt.RcAt.bool_str b z t2 _ _ _ _ (no rfl)
  | int i =>
    obtain ⟨t1, rfl⟩ := rx
    exact SeqAt.RcAt.int_str i t1 z t2 _ _ _ _ (no rfl)
  | str y =>
    obtain ⟨t1, rfl⟩ := rx
    refine SeqAt.RcAt.str_str y t1 z t2 _ _ _ _ ?_
    have e : (y == z) = (Dt.str y).isS z := by
      show (y == z) = decide (y = z)
      by_cases c : y = z
      · subst c
        simp
      · rw [decide_eq_false c]
        exact beq_eq_false_iff_ne.mpr c
    rw [e]
    exact ⟨.bl _, H, I, rfl, q⟩
  | tup h t =>
    cases rx
    obtain ⟨its, rv, ⟨o, ho, hc, n, hd⟩, _⟩ := I.tuple (SqT.of h)
    exact SeqAt.RcAt.tuple_str z t2 ⟨o, ho, hc, n, hd⟩ (by omega) _ _ _ _ (no rfl)
  | lst _ h t =>
    cases rx
    obtain ⟨its, rv, ⟨o, n, ho, hc, _, hd⟩, _⟩ := I.list (SqL.of h)
    exact SeqAt.RcAt.list_str z t2 ⟨o, ho, hc, n, hd⟩ (by omega) _ _ _ _ (no rfl)
  | dct _ h =>
    cases rx
    obtain ⟨o, es, n, ho, hc, hd, _, _, _⟩ := dct_obj I h
    exact SeqAt.dic_str z t2 ho hc hd (by omega) _ _ _ _ (no rfl)
end Kv

/-! numbers and truths reckoned with; a thing is a truth; None among things -/
namespace Kv
open PySem PySem.Spec PyProof.Rows L2 Kf
/-- a number, or a truth as a number -/
def nu : V → Option Int
  | .int i => some i
  | .bl b => some (if b = true then (1 : Int) else 0)
  | _ => none
section
variable {X : Cx}
theorem op_addU : OpR X (binaryOp .Add) (fun x y H Q => ∃ i j, nu x = some i ∧ y = .int j ∧ Q (.int (i + j)) H) := by
  intro pins s σ H x y v u Q I rx ry h
  obtain ⟨i, j, hx, rfl, q⟩ := h
  obtain ⟨t2, rfl⟩ := ry
  cases x with
  | int a =>
    obtain ⟨t1, rfl⟩ := rx
    cases hx
    exact (op_add (X := X)) pins s σ H (.int i) (.int j) _ _ Q I ⟨t1, rfl⟩ ⟨t2, rfl⟩ ⟨i, j, rfl, rfl, q⟩
  | bl b =>
    cases rx
    cases hx
    exact PySem.IntBool.add_bool_int ⟨.int _, H, I.tok _, ⟨_, rfl⟩, q⟩
  | _ => cases hx
theorem op_subU : OpR X (binaryOp .Sub) (fun x y H Q => ∃ i j, nu x = some i ∧ y = .int j ∧ Q (.int (i - j)) H) := by
  intro pins s σ H x y v u Q I rx ry h
  obtain ⟨i, j, hx, rfl, q⟩ := h
  obtain ⟨t2, rfl⟩ := ry
  cases x with
  | int a =>
    obtain ⟨t1, rfl⟩ := rx
    cases hx
    exact (op_sub (X := X)) pins s σ H (.int i) (.int j) _ _ Q I ⟨t1, rfl⟩ ⟨t2, rfl⟩ ⟨i, j, rfl, rfl, q⟩
  | bl b =>
    cases rx
    cases hx
    exact PySem.IntBool.sub_bool_int ⟨.int _, H, I.tok _, ⟨_, rfl⟩, q⟩
  | _ => cases hx
theorem op_subV : OpR X (binaryOp .Sub) (fun x y H Q => ∃ i j, x = .int i ∧ nu y = some j ∧ Q (.int (i - j)) H) := by
  intro pins s σ H x y v u Q I rx ry h
  obtain ⟨i, j, rfl, hy, q⟩ := h
  obtain ⟨t1, rfl⟩ := rx
  cases y with
  | int a =>
    obtain ⟨t2, rfl⟩ := ry
    cases hy
    exact (op_sub (X := X)) pins s σ H (.int i) (.int j) _ _ Q I ⟨t1, rfl⟩ ⟨t2, rfl⟩ ⟨i, j, rfl, rfl, q⟩
  | bl b =>
    cases ry
    cases hy
    exact PySem.IntBool.sub_int_bool ⟨.int _, H, I.tok _, ⟨_, rfl⟩, q⟩
  | _ => cases hy
theorem op_eqU1 : OpR X (compareOp .Eq) (fun x y H Q => ∃ i j, nu x = some i ∧ y = .int j ∧ ∀ b : Bool, Q (.bl b) H) := by
  intro pins s σ H x y v u Q I rx ry h
  obtain ⟨i, j, hx, rfl, q⟩ := h
  obtain ⟨t2, rfl⟩ := ry
  cases x with
  | int a =>
    obtain ⟨t1, rfl⟩ := rx
    exact SeqAt.RcAt.int_int a t1 j t2 _ _ _ _ ⟨.bl _, H, I, rfl, q _⟩
  | bl b =>
    cases rx
    exact SeqAt.RcAt.bool_int b j t2 _ _ _ _ ⟨.bl _, H, I, rfl, q _⟩
  | _ => cases hx
theorem call_strU : CallR X (.type "str") (fun xs H Q => ∃ x i, xs = [x] ∧ nu x = some i ∧ i.natAbs < 10 ^ 45 ∧ ∀ z : Str, z.length ≤ 50 → (∀ c ∈ z.cps.toList, c < 16 ^ 8) → Q (.str z) H) := by
  intro pins s σ H xs us Q I r h
  obtain ⟨x, i, rfl, hx, hi, q⟩ := h
  obtain ⟨u, rfl, rx⟩ := vals1 r
  cases x with
  | int a =>
    obtain ⟨t, rfl⟩ := rx
    cases hx
    have hl : i.natAbs.log2 < 1920 := by
      by_cases z : i.natAbs = 0
      · rw [z]
        decide
      · have : i.natAbs.log2 < 150 := (Nat.log2_lt z).mpr (Nat.lt_of_lt_of_le hi (by decide))
        omega
    refine PySem.P.str_of_int hl ⟨.str _, H, I.tok _, ⟨_, rfl⟩, q _ ?_ ?_⟩
    · have z := int_text_length_le10 (a := i) (k := 45) (by decide) hi
      have e : (Str.ofString (toString i)).length = (toString i).length := PySem.ofString_length _
      show (Str.ofString (toString i)).length ≤ 50
      rw [e]
      omega
    · intro c hc
      have hc : c ∈ (Str.ofString (toString i)).cps.toList := hc
      rw [Str.ofString_eq_toList] at hc
      simp only [List.mem_map] at hc
      obtain ⟨ch, _, rfl⟩ := hc
      exact ch.val.toNat_lt
  | bl b =>
    cases rx
    refine PySem.P.str_of_bool ⟨.str _, H, I.tok _, ⟨_, rfl⟩, q _ ?_ ?_⟩
    · cases b <;> decide +kernel
    · cases b <;> decide +kernel
  | _ => cases hx
/-- a thing is this truth -/
def Dt.isB (x : Dt) (b : Bool) : Bool := match x with
  | .bl c => decide (c = b)
  | _ => false
theorem op_isU : OpR X (compareOp .Is) (fun x y H Q => ∃ (d : Dt) (b : Bool), Dd Any H d x ∧ y = .bl b ∧ Q (.bl (d.isB b)) H) := by
  intro pins s σ H x y v u Q I rx ry h
  obtain ⟨d, b, hd, rfl, q⟩ := h
  cases ry
  have no : d.isB b = false → EP X pins σ Q (.bool false) s := fun e => by
    rw [e] at q
    exact ⟨.bl false, H, I, rfl, q⟩
  cases hd with
  | non =>
    cases rx
    exact wpAny_is_other rfl (fun z => by cases z) (no rfl)
  | bl c =>
    cases rx
    by_cases e : c = b
    · subst e
      exact wpAny_is_self rfl ⟨.bl true, H, I, rfl, by simpa [Dt.isB] using q⟩
    · exact wpAny_is_other rfl (fun z => e (Value.bool.inj z)) (no (by simp [Dt.isB, e]))
  | int i =>
    obtain ⟨t1, rfl⟩ := rx
    exact wpAny_is_other rfl (fun z => by cases z) (no rfl)
  | str y =>
    obtain ⟨t1, rfl⟩ := rx
    exact wpAny_is_other rfl (fun z => by cases z) (no rfl)
  | tup h t =>
    cases rx
    exact wpAny_is_other rfl (fun z => by cases z) (no rfl)
  | lst _ h t =>
    cases rx
    exact wpAny_is_other rfl (fun z => by cases z) (no rfl)
  | dct _ h =>
    cases rx
    exact wpAny_is_other rfl (fun z => by cases z) (no rfl)
/-- None, a number, a truth, a tuple -/
def Plainy (H : Hp) (z : V) : Prop := z = .non ∨ (∃ i, z = .int i) ∨ (∃ b, z = .bl b) ∨ ∃ a xs, z = .ref a ∧ H a = some (.tup xs)
theorem isNone_pl {z : V} {u : Value} {H : Hp} (r : RelV z u) (f : Plainy H z) : PySem.Numpy.isNone u = isNon z := by
  rcases f with rfl | ⟨i, rfl⟩ | ⟨b, rfl⟩ | ⟨a, xs, rfl, _⟩
  · cases r; rfl
  · obtain ⟨t, rfl⟩ := r; rfl
  · cases r; rfl
  · cases r; rfl
theorem any_pl {H : Hp} : ∀ {xs : List V} {us : List Value}, Vals xs us → (∀ z ∈ xs, Plainy H z) → us.any PySem.Numpy.isNone = xs.any isNon
  | _, _, .nil, _ => rfl
  | y :: xs, u :: us, .cons r t, f => by
    rw [List.any_cons, List.any_cons, isNone_pl r (f y (List.mem_cons_self ..)), any_pl t fun z hz => f z (List.mem_cons_of_mem _ hz)]
theorem pl_eq {A : Around} {pins : List (Addr × Obj)} {σ : L2.St} {H : Hp} {s : Shared} (I : Inv X pins σ H s) (hu : A.units < cLine) {z : V} {u : Value} (r : RelV z u) (f : Plainy H z) : SeqAt.EqAt A s u .none (PySem.Numpy.isNone u) := by
  rcases f with rfl | ⟨i, rfl⟩ | ⟨b, rfl⟩ | ⟨a, xs, rfl, h⟩
  · cases r
    exact SeqAt.EqAt.same _
  · obtain ⟨t, rfl⟩ := r
    exact SeqAt.EqAt.int_none i t
  · cases r
    exact SeqAt.EqAt.bool_none b
  · cases r
    obtain ⟨its, rv, ⟨o, ho, hc, n, hd⟩, _⟩ := I.tuple (SqT.of h)
    exact SeqAt.EqAt.tuple_none ⟨o, ho, hc, n, hd⟩ hu
theorem mem_pl {A : Around} {pins : List (Addr × Obj)} {σ : L2.St} {H : Hp} {s : Shared} (I : Inv X pins σ H s) (hu : A.units < cLine) : ∀ {xs : List V} {us : List Value}, Vals xs us → (∀ z ∈ xs, Plainy H z) → ∀ u ∈ us, SeqAt.EqAt A s u .none (PySem.Numpy.isNone u)
  | _, _, .nil, _ => fun u hu' => by cases hu'
  | y :: xs, u :: us, .cons r t, f => fun u' hu' => by
    rcases List.mem_cons.mp hu' with e | hu'
    · subst e
      exact pl_eq I hu r (f y (List.mem_cons_self ..))
    · exact mem_pl I hu t (fun z hz => f z (List.mem_cons_of_mem _ hz)) u' hu'
def rNoneInU (K : PySem.W.Frag) : R2 := fun x y H Q => ∃ p xs, x = .non ∧ y = .ref p ∧ SqL K H p xs ∧ (∀ z ∈ xs, Plainy H z) ∧ Q (.bl (xs.any isNon)) H
theorem op_noneInU (hu : X.A.units + 64 < cLine) : OpR X (compareOp .In) (rNoneInU X.K) := by
  intro pins s σ H x y v u Q I rx ry h
  obtain ⟨p, xs, rfl, rfl, hq, f, q⟩ := h
  cases rx
  cases ry
  obtain ⟨its, rv, hl, _⟩ := I.list hq
  have hu1 : X.A.in1.units < cLine := by show X.A.units + 1 < cLine; omega
  refine SeqAt.in_listAt PySem.Numpy.isNone hl.isList (fun z hz => mem_pl I hu1 rv f z (by simpa using hz)) ⟨.bl _, H, I, rfl, ?_⟩
  rw [show its.toArray.any PySem.Numpy.isNone = its.any PySem.Numpy.isNone by simp, any_pl rv f]
  exact q
end
end Kv

/-! things of anything: how great they are -/
namespace Kv
open PySem PySem.Spec PyProof.Rows L2 Kf
mutual
def Dt.sz : Dt → Nat
  | .tup xs => 1 + Dt.szs xs
  | .lst xs => 1 + Dt.szs xs
  | .dct kvs => 1 + 3 * kvs.length
  | _ => 1
def Dt.szs : List Dt → Nat
  | [] => 0
  | x :: xs => x.sz + Dt.szs xs
end
theorem sz_mem : ∀ {xs : List Dt} {x : Dt}, x ∈ xs → x.sz ≤ Dt.szs xs
  | y :: ys, x, h => by
    rcases List.mem_cons.mp h with rfl | h
    · exact Nat.le_add_right _ _
    · exact Nat.le_trans (sz_mem h) (Nat.le_add_left _ _)
theorem szs_app : ∀ (xs ys : List Dt), Dt.szs (xs ++ ys) = Dt.szs xs + Dt.szs ys
  | [], ys => by show _ = 0 + _; rw [Nat.zero_add]; rfl
  | x :: xs, ys => by
    show x.sz + Dt.szs (xs ++ ys) = x.sz + Dt.szs xs + Dt.szs ys
    rw [szs_app xs ys, Nat.add_assoc]
mutual
def Dt.dp : Dt → Nat
  | .tup xs => Dt.dps xs + 1
  | .lst xs => Dt.dps xs + 1
  | .dct _ => 1
  | _ => 0
def Dt.dps : List Dt → Nat
  | [] => 0
  | x :: xs => max x.dp (Dt.dps xs)
end
def kwt : List (Str × Int) → Nat
  | [] => 3
  | p :: r => 10 * p.1.length + 60 + kwt r
mutual
def Dt.wt : Dt → Nat
  | .non => 4
  | .bl _ => 5
  | .int _ => 52
  | .str x => 10 * x.length + 2
  | .tup xs => Dt.wts xs + 3
  | .lst xs => Dt.wts xs + 3
  | .dct kvs => kwt kvs
def Dt.wts : List Dt → Nat
  | [] => 0
  | x :: xs => x.wt + 2 + Dt.wts xs
end
mutual
def Dt.fine (B : Nat) : Dt → Prop
  | .int i => i.natAbs < B
  | .str x => ∀ c ∈ x.cps.toList, c < 16 ^ 8
  | .tup xs => Dt.fines B xs
  | .lst xs => Dt.fines B xs
  | .dct kvs => ∀ p ∈ kvs, (∀ c ∈ p.1.cps.toList, c < 16 ^ 8) ∧ p.2.natAbs < B
  | _ => True
def Dt.fines (B : Nat) : List Dt → Prop
  | [] => True
  | x :: xs => x.fine B ∧ Dt.fines B xs
end
theorem int_shw {B : Nat} (hB : B ≤ 10 ^ 45) (i : Int) (h : i.natAbs < B) : (PyData.int i).showable = true ∧ (PyData.int i).depth = 0 ∧ (PyData.int i).shown.length ≤ 52 := by
  have h : i.natAbs < 10 ^ 45 := Nat.lt_of_lt_of_le h hB
  refine ⟨?_, by simp [PyData.depth], ?_⟩
  · simp only [PyData.showable]
    refine decide_eq_true ?_
    by_cases z : i.natAbs = 0
    · rw [z]
      decide
    · have : i.natAbs.log2 < 150 := (Nat.log2_lt z).mpr (Nat.lt_of_lt_of_le h (by decide))
      omega
  · have z := int_text_length_le10 (a := i) (k := 45) (by decide) h
    simp only [PyData.shown]
    have e : (Str.ofString (toString i)).length = (toString i).length := PySem.ofString_length _
    rw [e]
    omega
theorem dct_shw {B : Nat} (hB : B ≤ 10 ^ 45) : ∀ (kvs : List (Str × Int)), (∀ p ∈ kvs, (∀ c ∈ p.1.cps.toList, c < 16 ^ 8) ∧ p.2.natAbs < B) → PyData.showableKv (dkp kvs) = true ∧ PyData.depthKv (dkp kvs) = 0 ∧ ((PyData.shownKv (dkp kvs)).map (·.length)).sum + 2 * (PyData.shownKv (dkp kvs)).length + 3 ≤ kwt kvs
  | [], _ => ⟨by simp [dkp, PyData.showableKv], by simp [dkp, PyData.depthKv], by simp [dkp, PyData.shownKv, kwt]⟩
  | (x, i) :: kvs, h => by
    obtain ⟨a, b, c⟩ := dct_shw hB kvs fun p hp => h p (List.mem_cons_of_mem _ hp)
    obtain ⟨f1, f2⟩ := h (x, i) List.mem_cons_self
    obtain ⟨i1, i2, i3⟩ := int_shw hB i f2
    have e : dkp ((x, i) :: kvs) = (.str x, .int i) :: dkp kvs := rfl
    rw [e]
    refine ⟨by simp only [PyData.showableKv, a, i1]; simp [PyData.showable], by simp only [PyData.depthKv, b, i2]; simp [PyData.depth], ?_⟩
    have z : (PyData.str x).shown.length ≤ 10 * x.length + 2 := by simp only [PyData.shown]; exact PySem.StrLaws.reprText_len x f1
    have e2 : ((": " : Str)).length = 2 := by decide +kernel
    simp only [PyData.shownKv, List.map_cons, List.sum_cons, List.length_cons, kwt, strLen_append, e2]
    omega
mutual
theorem Dt.shw {B : Nat} (hB : B ≤ 10 ^ 45) : ∀ (x : Dt), x.fine B → x.toP.showable = true ∧ x.toP.depth = x.dp ∧ x.toP.shown.length ≤ x.wt
  | .non, _ => ⟨by simp [Dt.toP, PyData.showable], by simp [Dt.toP, PyData.depth, Dt.dp], by simp only [Dt.toP, PyData.shown, Dt.wt]; decide⟩
  | .bl b, _ => ⟨by simp [Dt.toP, PyData.showable], by simp [Dt.toP, PyData.depth, Dt.dp], by cases b <;> (simp only [Dt.toP, PyData.shown, Dt.wt]; decide)⟩
  | .int i, h => by
    have h : i.natAbs < B := by simpa only [Dt.fine] using h
    have h : i.natAbs < 10 ^ 45 := Nat.lt_of_lt_of_le h hB
    refine ⟨?_, by simp [Dt.toP, PyData.depth, Dt.dp], ?_⟩
    · simp only [Dt.toP, PyData.showable]
      refine decide_eq_true ?_
      by_cases z : i.natAbs = 0
      · rw [z]
        decide
      · have : i.natAbs.log2 < 150 := (Nat.log2_lt z).mpr (Nat.lt_of_lt_of_le h (by decide))
        omega
    · have z := int_text_length_le10 (a := i) (k := 45) (by decide) h
      simp only [Dt.toP, PyData.shown, Dt.wt]
      have e : (Str.ofString (toString i)).length = (toString i).length := PySem.ofString_length _
      rw [e]
      omega
  | .str x, h => by
    have h : ∀ c ∈ x.cps.toList, c < 16 ^ 8 := by simpa only [Dt.fine] using h
    exact ⟨by simp [Dt.toP, PyData.showable], by simp [Dt.toP, PyData.depth, Dt.dp], by simp only [Dt.toP, PyData.shown, Dt.wt]; exact PySem.StrLaws.reprText_len x h⟩
  | .tup xs, h => by
    obtain ⟨a, b, c⟩ := Dt.shws hB xs (by simpa only [Dt.fine] using h)
    refine ⟨by simpa only [Dt.toP, PyData.showable] using a, by simp only [Dt.toP, PyData.depth, Dt.dp]; omega, ?_⟩
    simp only [Dt.toP, PyData.shown, Dt.wt]
    have := tupleText_len_le (PyData.shownAll (Dt.toPs xs))
    omega
  | .lst xs, h => by
    obtain ⟨a, b, c⟩ := Dt.shws hB xs (by simpa only [Dt.fine] using h)
    refine ⟨by simpa only [Dt.toP, PyData.showable] using a, by simp only [Dt.toP, PyData.depth, Dt.dp]; omega, ?_⟩
    simp only [Dt.toP, PyData.shown, Dt.wt]
    have := listText_len_le (PyData.shownAll (Dt.toPs xs))
    omega
  | .dct kvs, h => by
    obtain ⟨a, b, c⟩ := dct_shw hB kvs (by simpa only [Dt.fine] using h)
    refine ⟨by simp only [Dt.toP, PyData.showable, a], by simp only [Dt.toP, PyData.depth, b, Dt.dp], ?_⟩
    simp only [Dt.toP, PyData.shown, Dt.wt]
    have := dictText_len_le (PyData.shownKv (dkp kvs))
    omega
theorem Dt.shws {B : Nat} (hB : B ≤ 10 ^ 45) : ∀ (xs : List Dt), Dt.fines B xs → PyData.showableAll (Dt.toPs xs) = true ∧ PyData.depthAll (Dt.toPs xs) = Dt.dps xs ∧ ((PyData.shownAll (Dt.toPs xs)).map (·.length)).sum + 2 * (PyData.shownAll (Dt.toPs xs)).length ≤ Dt.wts xs
  | [], _ => ⟨by simp [Dt.toPs, PyData.showableAll], by simp [Dt.toPs, PyData.depthAll, Dt.dps], by simp [Dt.toPs, PyData.shownAll]⟩
  | x :: xs, h => by
    have h : x.fine B ∧ Dt.fines B xs := by simpa only [Dt.fines] using h
    obtain ⟨a, b, c⟩ := x.shw hB h.1
    obtain ⟨a', b', c'⟩ := Dt.shws hB xs h.2
    refine ⟨by simp [Dt.toPs, PyData.showableAll, a, a'], by simp [Dt.toPs, PyData.depthAll, Dt.dps, b, b'], ?_⟩
    simp only [Dt.toPs, PyData.shownAll, List.map_cons, List.sum_cons, List.length_cons, Dt.wts]
    omega
end
/-- it is fine, and within the bounds -/
structure Fine (B n W : Nat) (x : Dt) : Prop where
  ok : x.fine B
  dp : x.dp ≤ n
  wt : x.wt ≤ W
theorem Fine.shw {B n W : Nat} {x : Dt} (h : Fine B n W x) (hB : B ≤ 10 ^ 45) (hW : W ≤ sizeLine) : Shw n x := by
  obtain ⟨a, b, c⟩ := x.shw hB h.ok
  exact ⟨a, by rw [b]; exact h.dp, Nat.le_trans c (Nat.le_trans h.wt hW)⟩
mutual
theorem Dt.fine_up {B C : Nat} (h : B ≤ C) : ∀ {x : Dt}, x.fine B → x.fine C
  | .non, _ => by simp only [Dt.fine]
  | .bl _, _ => by simp only [Dt.fine]
  | .int i, f => by
    simp only [Dt.fine] at f ⊢
    omega
  | .str x, f => by
    simp only [Dt.fine] at f ⊢
    exact f
  | .tup xs, f => by
    simp only [Dt.fine] at f ⊢
    exact Dt.fines_up h f
  | .lst xs, f => by
    simp only [Dt.fine] at f ⊢
    exact Dt.fines_up h f
  | .dct kvs, f => by
    simp only [Dt.fine] at f ⊢
    exact fun p hp => ⟨(f p hp).1, Nat.lt_of_lt_of_le (f p hp).2 h⟩
theorem Dt.fines_up {B C : Nat} (h : B ≤ C) : ∀ {xs : List Dt}, Dt.fines B xs → Dt.fines C xs
  | [], _ => by simp only [Dt.fines]
  | x :: xs, f => by
    simp only [Dt.fines] at f ⊢
    exact ⟨Dt.fine_up h f.1, Dt.fines_up h f.2⟩
end
theorem Fine.mono {A B n W m V : Nat} {x : Dt} (h : Fine A n W x) (ha : A ≤ B) (hn : n ≤ m) (hw : W ≤ V) : Fine B m V x := ⟨Dt.fine_up ha h.ok, Nat.le_trans h.dp hn, Nat.le_trans h.wt hw⟩
mutual
theorem Dt.sz_wt : ∀ x : Dt, x.sz ≤ x.wt
  | .non => by simp only [Dt.sz, Dt.wt]; omega
  | .bl _ => by simp only [Dt.sz, Dt.wt]; omega
  | .int _ => by simp only [Dt.sz, Dt.wt]; omega
  | .str _ => by simp only [Dt.sz, Dt.wt]; omega
  | .tup xs => by
    have := Dt.szs_wts xs
    simp only [Dt.sz, Dt.wt]
    omega
  | .lst xs => by
    have := Dt.szs_wts xs
    simp only [Dt.sz, Dt.wt]
    omega
  | .dct kvs => by
    have : ∀ l : List (Str × Int), 1 + 3 * l.length ≤ kwt l := by
      intro l
      induction l with
      | nil => simp [kwt]
      | cons p r ih => simp only [kwt, List.length_cons]; omega
    simp only [Dt.sz, Dt.wt]
    exact this kvs
theorem Dt.szs_wts : ∀ xs : List Dt, Dt.szs xs ≤ Dt.wts xs
  | [] => by simp only [Dt.szs, Dt.wts]; omega
  | x :: xs => by
    have := x.sz_wt
    have := Dt.szs_wts xs
    simp only [Dt.szs, Dt.wts]
    omega
end
theorem len_szs : ∀ xs : List Dt, xs.length ≤ Dt.szs xs
  | [] => Nat.zero_le _
  | x :: xs => by
    have := len_szs xs
    have : 1 ≤ x.sz := by cases x <;> simp only [Dt.sz] <;> omega
    simp only [Dt.szs, List.length_cons]
    omega
theorem wts_app : ∀ (xs ys : List Dt), Dt.wts (xs ++ ys) = Dt.wts xs + Dt.wts ys
  | [], ys => by simp only [List.nil_append, Dt.wts]; omega
  | x :: xs, ys => by
    simp only [List.cons_append, Dt.wts]
    rw [wts_app xs ys]
    omega
theorem dps_app : ∀ (xs ys : List Dt), Dt.dps (xs ++ ys) = max (Dt.dps xs) (Dt.dps ys)
  | [], ys => by simp only [List.nil_append, Dt.dps]; omega
  | x :: xs, ys => by
    simp only [List.cons_append, Dt.dps]
    rw [dps_app xs ys]
    omega
theorem fines_app {B : Nat} : ∀ (xs ys : List Dt), Dt.fines B (xs ++ ys) ↔ Dt.fines B xs ∧ Dt.fines B ys
  | [], ys => by simp only [List.nil_append, Dt.fines, true_and]
  | x :: xs, ys => by
    simp only [List.cons_append, Dt.fines]
    rw [fines_app xs ys, and_assoc]
end Kv

/-! the end of a law whose defs show things -/
namespace Kf
open PySem PySem.Spec PyProof.Rows L2 LamX
/-- the heap at the law's call: the written part, the tables cs, the script -/
structure Beg (h : Heap) (K : PySem.W.Frag) (mg : Str → Option Value) (cs : List (Addr × Addr)) (a : Addr) (us : Array Value) : Prop where
  kin : K.In h
  gl : h.Ns mainGlobals mg
  bl : ∃ m, h.Ns builtinsNs m ∧ ∀ y : Str, y ≠ "__name__" → m y = bootBuiltins y
  nl : h.NoLimit
  tb : ∀ p ∈ cs, h.get? p.2 = some { cls := .none, data := .fields #[] }
  nk : ∀ p ∈ cs, K.lookup p.2 = none
  cd : ∀ p ∈ cs, PySem.W.CodeHd h p.1 p.2
  bm : ∃ (z : Addr) (q : Obj), mg "__builtins__" = some (.ref z) ∧ z ≠ builtinsNs ∧ h.get? z = some q ∧ q.cls = .type "module" ∧ q.dict = some builtinsNs ∧ q.data = .plain
  sc : h.get? a = some { cls := .type "list", data := .seq us }
/-- tracked are the tables, and perhaps the script -/
structure Fit (H : Hp) (K : PySem.W.Frag) (cs : List (Addr × Addr)) (a : Addr) : Prop where
  tb : ∀ p ∈ cs, H p.2 = some (.tbl #[])
  no : ∀ b u, H b = some u → (∃ p ∈ cs, p.2 = b ∧ u = .tbl #[]) ∨ (b = a ∧ K.lookup a = none ∧ ∃ o xs, u = .frz o (.lst xs))
section
variable {h : Heap} {K : PySem.W.Frag} {mg : Str → Option Value} {cs : List (Addr × Addr)} {a : Addr} {us : Array Value} {H : Hp}
theorem Fit.off (F : Fit H K cs a) (B : Beg h K mg cs a us) {b : Addr} {o : Obj} (e : h.get? b = some o) (n1 : ∀ vs n, o.data ≠ .seq vs n) (n2 : o.data ≠ .fields #[]) : H b = none := by
  match q : H b with
  | none => rfl
  | some u =>
    rcases F.no b u q with ⟨p, hp, rfl, _⟩ | ⟨rfl, _⟩
    · have z := (B.tb p hp).symm.trans e
      exact absurd (congrArg Obj.data (Option.some.inj z)).symm n2
    · have z := B.sc.symm.trans e
      exact absurd (congrArg Obj.data (Option.some.inj z)).symm (n1 _ _)
theorem Fit.dic (F : Fit H K cs a) (B : Beg h K mg cs a us) {b : Addr} {m : Str → Option Value} (N : h.Ns b m) : (hidT h H).Ns b m := by
  obtain ⟨o, es, n, e, d, r⟩ := N
  refine ⟨o, es, n, hidT_get e (F.off B e ?_ ?_), d, r⟩
  · intro vs k z
    rw [d] at z
    cases z
  · intro z
    rw [d] at z
    cases z
theorem Fit.kin (F : Fit H K cs a) (B : Beg h K mg cs a us) : K.In (hidT h H) := fun b o e => hidT_get (B.kin b o e) <| by
  match q : H b with
  | none => rfl
  | some u =>
    rcases F.no b u q with ⟨p, hp, rfl, _⟩ | ⟨rfl, n, _⟩
    · rw [B.nk p hp] at e
      cases e
    · rw [n] at e
      cases e
theorem Fit.mod (F : Fit H K cs a) (B : Beg h K mg cs a us) : L2.Mod K mg (hidT h H) := by
  obtain ⟨m, m1, m2⟩ := B.bl
  obtain ⟨c, c1, c2⟩ := B.nl
  exact ⟨F.kin B, F.dic B B.gl, ⟨m, F.dic B m1, m2⟩, ⟨c, F.dic B c1, c2⟩⟩
theorem Fit.tabs (F : Fit H K cs a) (B : Beg h K mg cs a us) : ∀ p ∈ cs, TabB (hidT h H) mg p.1 p.2 := by
  intro p hp
  have tp := B.tb p hp
  have gP : mainGlobals ≠ p.2 := by
    intro z
    obtain ⟨o, es, n, e, d, _⟩ := B.gl
    rw [z, tp] at e
    cases e
    cases d
  refine ⟨?_, ?_, gP⟩
  · obtain ⟨o, vs, fl, tf, fg, tg, iF, tx, tt, e, r1, r2, r3, r⟩ := B.cd p hp
    refine ⟨o, vs, fl, tf, fg, tg, iF, tx, tt, hidT_get e (F.off B e (fun vs n z => ?_) (fun z => ?_)), r1, r2, r3, r⟩
    · rw [r2] at z
      cases z
    · rw [r2] at z
      cases z
      simp at r3
  · obtain ⟨z, q, b1, b2, b3, b4, b5, b6⟩ := B.bm
    refine ⟨z, q, b1, b2, fun y => ?_, fun y => ?_, hidT_get b3 (F.off B b3 (fun vs n y => ?_) (fun y => ?_)), b4, b5, b6⟩
    · obtain ⟨o, es, n, e, d, _⟩ := B.gl
      rw [← y, b3] at e
      cases e
      rw [b6] at d
      cases d
    · rw [y, tp] at b3
      cases b3
      cases b6
    · rw [b6] at y
      cases y
    · rw [b6] at y
      cases y
/-- what stood stands, behind the call -/
theorem Fit.old (F : Fit H K cs a) (B : Beg h K mg cs a us) {P : Program} {w : World} {G : Hp} {h' : Heap} (U : Un [] [] H G h h') (o1 : HOk P w H h) (o2 : HOk P w G h') : OldK h h' := by
  have tab : ∀ p ∈ cs, ∃ m : Array Value, h'.get? p.2 = some { cls := .none, data := .fields m } := fun p hp => by
    obtain ⟨m, z⟩ := U.tbls p.2 #[] (F.tb p hp)
    exact ⟨_, o2 p.2 _ z⟩
  have rest : ∀ b o, h.get? b = some o → (∃ p ∈ cs, p.2 = b) ∨ h'.get? b = some o := fun b o e => by
    match q : H b with
    | none => exact .inr (U.keep b o e q (by simp) (by simp))
    | some u =>
      rcases F.no b u q with ⟨p, hp, z, _⟩ | ⟨_, _, ob, xs, rfl⟩
      · exact .inl ⟨p, hp, z⟩
      · have e1 := (o1 b _ q).1
        have e2 := (o2 b _ (U.frzs b ob _ q)).1
        rw [e] at e1
        cases e1
        exact .inr e2
  constructor
  · intro b o e
    rcases rest b o e with ⟨p, hp, rfl⟩ | z
    · obtain ⟨m, hm⟩ := tab p hp
      have tp := B.tb p hp
      rw [tp] at e
      cases e
      exact .inr (.inl ⟨((B.cd p hp).tab tp).isCodeTable, rfl, #[], m, rfl, by rw [Array.empty_append]; exact hm⟩)
    · exact .inl z
  · intro b o e
    rcases rest b o e with ⟨p, hp, rfl⟩ | z
    · obtain ⟨m, hm⟩ := tab p hp
      exact ⟨_, hm⟩
    · exact ⟨o, z⟩
end
/-- such a heap there is -/
theorem fit_of {h : Heap} {K : PySem.W.Frag} {mg : Str → Option Value} {cs : List (Addr × Addr)} {a : Addr} {vs : List Value} {ns : List Int} (P : Program) (w : World) (B : Beg h K mg cs a vs.toArray) (hi : IntsAre vs ns) (hl : ns.length ≤ sizeLine) :
    ∃ H : Hp, Fit H K cs a ∧ SqL K H a (ns.map V.int) ∧ HOk P w H h := by
  have lv := hi.length
  have isT : ∀ b, (∃ p ∈ cs, p.2 = b) → h.get? b = some { cls := .none, data := .fields #[] } := by
    rintro b ⟨p, hp, rfl⟩
    exact B.tb p hp
  have na : ¬ ∃ p ∈ cs, p.2 = a := fun z => by
    have y := congrArg Obj.data (Option.some.inj ((isT a z).symm.trans B.sc))
    cases y
  open Classical in
  let T : Hp := fun b => if ∃ p ∈ cs, p.2 = b then some (.tbl #[]) else none
  have Ty : ∀ p ∈ cs, T p.2 = some (.tbl #[]) := fun p hp => if_pos ⟨p, hp, rfl⟩
  have Tn : ∀ b u, T b = some u → (∃ p ∈ cs, p.2 = b) ∧ u = .tbl #[] := fun b u z => by
    by_cases c : ∃ p ∈ cs, p.2 = b
    · exact ⟨c, (Option.some.inj ((if_pos c).symm.trans z)).symm⟩
    · have y := (if_neg c).symm.trans z
      cases y
  match hk : K.lookup a with
  | some o =>
    have e := B.kin a o hk
    rw [B.sc] at e
    cases e
    refine ⟨T, ⟨Ty, fun b u z => ?_⟩, .inr ⟨_, vs.toArray, _, hk, rfl, rfl, rfl, by rw [List.size_toArray, lv]; exact hl, by simpa using vals_ints hi⟩, fun b u z => ?_⟩
    · obtain ⟨⟨p, hp, e⟩, e2⟩ := Tn b u z
      exact .inl ⟨p, hp, e, e2⟩
    · obtain ⟨c, rfl⟩ := Tn b u z
      exact isT b c
  | none =>
    refine ⟨upd T a (.frz { cls := .type "list", data := .seq vs.toArray } (.lst (ns.map V.int))), ⟨fun p hp => ?_, fun b u z => ?_⟩, .inl (.inr ⟨_, upd_same⟩), fun b u z => ?_⟩
    · rw [upd_ne (fun y => na ⟨p, hp, y⟩)]
      exact Ty p hp
    · by_cases c : b = a
      · subst c
        rw [upd_same] at z
        cases z
        exact .inr ⟨rfl, hk, _, _, rfl⟩
      · rw [upd_ne c] at z
        obtain ⟨⟨p, hp, e⟩, e2⟩ := Tn b u z
        exact .inl ⟨p, hp, e, e2⟩
    · by_cases c : b = a
      · subst c
        rw [upd_same] at z
        cases z
        exact ⟨B.sc, by rw [List.length_map]; exact hl, vs, _, vals_ints hi, B.sc⟩
      · rw [upd_ne c] at z
        obtain ⟨c, rfl⟩ := Tn b u z
        exact isT b c
/-- what is known of the law's promise at the head's heap -/
def LawG (l : PySem.W.OpenLaw) (w : World) (K : PySem.W.Frag) (CX : CXT) (k n : Nat) (x : Str) (mg : Str → Option Value) (fa : Addr) (h : Heap) : Prop :=
  ∃ (fd : FuncData) (cs : List (Addr × Addr)) (sp : Sp), (∀ p ∈ cs, h.get? p.2 = some { cls := .none, data := .fields #[] } ∧ K.lookup p.2 = none ∧ PySem.W.CodeHd h p.1 p.2) ∧ (∀ (s : Shared) (u : Value), BindsTo s fd ⟨[u], []⟩ [(x, u)]) ∧
    (∀ (H : Hp) (a : Addr) (ns : List Int), ns.length ≤ n → (∀ z ∈ ns, Builtin.Int.intBits z ≤ 1048576) → (∀ p ∈ cs, H p.2 = some (.tbl #[])) → SqL K H a (ns.map V.int) → sp [.ref a] H (fun v _ => v = .bl true) E0) ∧
    ∀ base : Heap, K.In base → base.Ns mainGlobals mg → (∀ p ∈ cs, TabB base mg p.1 p.2) → FnG l.prog w K mg base CX k fa fd [x] sp
/-- the end; names: the defs with generator expressions -/
theorem walk_ofG {l : PySem.W.OpenLaw} {n k : Nat} {q : Program} {loose : List Str} {XP : (Str → Option Value) → Heap → Prop} {YP : World → Heap → Prop} {d : DefRec} {K : Params → PySem.W.Frag} {CX : World → CXT} {x : Str}
    (hn : l.most = some n) (hz : n ≤ sizeLine) (hdf : d.params.defaults = []) (hr : Room k callerA) (hY : ∀ (w : World) (h : Heap), YP w h → (K w.params).In h)
    (F : ∀ (w : World) (mg : Str → Option Value) (fa : Addr) (h : Heap), YP w h → (K w.params).In h → h.Ns mainGlobals mg → mg d.name = some (.ref fa) →
      (∀ e ∈ recsOf q, ∃ (a : Addr) (o : Obj) (fd : FuncData) (c p : Addr), mg e.name = some (.ref a) ∧ h.get? a = some o ∧ o.data = .func fd ∧ fd.code = .ref c ∧ h.IsCode c p #[] ∧ h.TableAt c p #[]) → LawG l w (K w.params) (CX w) k n x mg fa h)
    (hX : ∀ (w : World) (H : Hp) (s : Shared) (e : Value) (t : Shared), CX w [] H s E0 e t → False) :
    PySem.W.WalkO q loose XP YP l.row.toRowW d [] (fun f vs => PySem.call f vs) := by
  refine Att.attach_callB hn hdf ?_
  intro w s₀ s mg mb fa o pm cd doc a vs ns G Y _ _ _ hmg ha hi hlen bits hg
  have KX := hY w _ Y
  obtain ⟨fd, cs, sp, tabs, bind, start, run⟩ := F w mg fa _ Y KX G.T.g hmg fun e he => G.T.tab e he
  have B : Beg s.heap (K w.params) mg cs a vs.toArray := ⟨KX, G.T.g, ⟨mb, G.T.b, G.T.builtins⟩, G.T.nolimit, fun p hp => (tabs p hp).1, fun p hp => (tabs p hp).2.1, fun p hp => (tabs p hp).2.2, G.T.bmain, ha⟩
  obtain ⟨H, Ft, sq, ok⟩ := fit_of l.prog w B hi (Nat.le_trans hlen hz)
  have e0 : Env0 l.prog w (K w.params) mg (hidT s.heap H) callerA [] s H := ⟨rfl, Ft.mod B, fun b u e => of_hidT e, Nat.le_of_eq (hidT_size _ _), trivial, by simp [frs], ok, .of_eq hg⟩
  refine codeAny_mono ((run _ (Ft.kin B) (Ft.dic B G.T.g) (Ft.tabs B)).go callerA [] s H ⟨[.ref a], []⟩ [.ref a] [.ref a] _ E0 rfl hr e0 (bind s (.ref a)) (.cons rfl .nil) (start H a ns hlen bits Ft.tb sq)) ?_
  intro r t z
  match r, z with
  | .error e, z => exact (hX w H s e t z).elim
  | .ok .next, z => exact z.elim
  | .ok .brk, z => exact z.elim
  | .ok .cont, z => exact z.elim
  | .ok (.ret u), ⟨v, G', os, bare, un, ok', rv, e⟩ =>
    have e : v = .bl true := e
    subst e
    obtain rfl : u = Value.bool true := rv
    exact ⟨rfl, Ft.old B un ok ok', os, bare⟩
end Kf

/-! the signs of a repr: texts of letters, tuples -/
namespace Kf
open PySem PySem.Spec PyProof.Rows L2 PySem.Builtin.Str
/-- of small letters alone -/
def Low (x : Str) : Prop := ∀ c ∈ x.cps.toList, 97 ≤ c ∧ c < 123
theorem ch_low : ∀ i : Fin 26, reprChar 39 (97 + i.val) = [97 + i.val] := by decide +kernel
theorem ch_low' {c : Nat} (h : 97 ≤ c ∧ c < 123) : reprChar 39 c = [c] := by
  have z := ch_low ⟨c - 97, by omega⟩
  have e : 97 + (c - 97) = c := by omega
  simp only [e] at z
  exact z
theorem fold_low : ∀ (l : List Nat) (acc : Array Nat), (∀ c ∈ l, 97 ≤ c ∧ c < 123) → (l.foldl (fun out c => out ++ (reprChar 39 c).toArray) acc).toList = acc.toList ++ l
  | [], acc, _ => by simp
  | c :: l, acc, h => by
    rw [List.foldl_cons, fold_low l _ fun d hd => h d (List.mem_cons_of_mem _ hd), ch_low' (h c List.mem_cons_self)]
    simp
theorem quote_low {x : Str} (h : Low x) : reprQuote x = 39 := by
  unfold reprQuote
  have e : x.cps.contains 39 = false := by
    rw [← Bool.not_eq_true]
    intro z
    have m : (39 : Nat) ∈ x.cps := by simpa using z
    have := h 39 (Array.mem_def.mp m)
    omega
  rw [e]
  rfl
theorem repr_low {x : Str} (h : Low x) : (reprText x).cps.toList = 39 :: (x.cps.toList ++ [39]) := by
  unfold reprText
  rw [quote_low h, ← Array.foldl_toList, Array.toList_push, fold_low _ _ h]
  rfl
theorem cnt_low {x : Str} (h : Low x) : cnt 40 (reprText x).cps.toList = 0 := by
  rw [repr_low h, cnt_cons, cnt_append]
  have z : ∀ l : List Nat, (∀ c ∈ l, 97 ≤ c ∧ c < 123) → cnt 40 l = 0 := by
    intro l
    induction l with
    | nil => intro _; rfl
    | cons c l ih =>
      intro h
      rw [cnt_cons, ih fun d hd => h d (List.mem_cons_of_mem _ hd)]
      have := h c List.mem_cons_self
      rw [if_neg (by omega)]
      rfl
  rw [z _ h]
  decide
theorem len_low {x : Str} (h : Low x) : (reprText x).length = x.cps.toList.length + 2 := by
  show (reprText x).cps.size = _
  rw [← Array.length_toList, repr_low h]
  simp
theorem cps_app (x y : Str) : (x ++ y).cps.toList = x.cps.toList ++ y.cps.toList := by
  show (x.cps ++ y.cps).toList = _
  rw [Array.toList_append]
theorem cnt_tup (ts : List Str) : cnt 40 (tupleText ts).cps.toList = 1 + (ts.map fun t => cnt 40 t.cps.toList).sum := by
  unfold tupleText
  rw [cps_app, cps_app, cnt_append, cnt_append, cnt_join_sum]
  have e1 : cnt 40 (("(" : Str)).cps.toList = 1 := by decide +kernel
  have e2 : cnt 40 ((", " : Str)).cps.toList = 0 := by decide +kernel
  have e3 : cnt 40 (((if ts.length == 1 then ",)" else ")" : String) : Str)).cps.toList = 0 := by split <;> decide +kernel
  rw [e1, e2, e3, Int.mul_zero]
  omega
theorem count_par (x : Str) : Txt.count x "(" = cnt 40 x.cps.toList := by
  have e : (("(" : String) : Str) = ⟨#[40]⟩ := by decide +kernel
  rw [e]
  exact count_cnt x 40
end Kf

namespace Kq
open PySem PySem.Spec PyProof.Rows L2 Kf Kg Kv GxR
/-! what is a data kind, a kind -/
def isLo (c : Nat) : Bool := decide (c ∈ lets.cps.toList)
def nmS (x : Str) : Bool := decide (1 ≤ x.length) && decide (x.length ≤ 8) && x.cps.toList.all isLo
def nmD : Dt → Bool
  | .str x => nmS x
  | _ => false
def ar (w : Str) : Option Nat :=
  if w = "open" then some 1 else if w = "num" then some 0 else if w = "truth" then some 0 else if w = "pair" then some 2 else if w = "either" then some 2 else if w = "list" then some 1 else if w = "fun" then some 2 else none
def nm1 : List Dt → Bool
  | x :: _ => nmD x
  | [] => false
/-- the form alone -/
def frm : Dt → Bool
  | .tup (.str w :: xs) => !decide (w = "fun") && (match ar w with | some k => decide (xs.length = k) | none => false) && (!decide (w = "open") || nm1 xs)
  | _ => false
/-- the parts that are kinds -/
def prt : Dt → List Dt
  | .tup (.str w :: xs) => if w = "open" then [] else xs
  | _ => []
theorem prt_sz : ∀ x : Dt, Dt.szs (prt x) + 1 ≤ x.sz
  | .tup [] => Nat.le_refl _
  | .tup (.str w :: xs) => by
    have e : (Dt.tup (.str w :: xs)).sz = 1 + (1 + Dt.szs xs) := by simp only [Dt.sz, Dt.szs]
    rw [e]
    show Dt.szs (if w = "open" then [] else xs) + 1 ≤ _
    by_cases h : w = "open"
    · rw [if_pos h]
      simp only [Dt.szs]
      omega
    · rw [if_neg h]
      omega
  | .tup (.non :: xs) => by show 0 + 1 ≤ 1 + _; omega
  | .tup (.bl _ :: xs) => by show 0 + 1 ≤ 1 + _; omega
  | .tup (.int _ :: xs) => by show 0 + 1 ≤ 1 + _; omega
  | .tup (.tup _ :: xs) => by show 0 + 1 ≤ 1 + _; omega
  | .tup (.lst _ :: xs) => by show 0 + 1 ≤ 1 + _; omega
  | .tup (.dct _ :: xs) => by show 0 + 1 ≤ 1 + _; omega
  | .lst xs => by show 0 + 1 ≤ 1 + _; omega
  | .non => Nat.le_refl _
  | .bl _ => Nat.le_refl _
  | .int _ => Nat.le_refl _
  | .str _ => Nat.le_refl _
  | .dct _ => by show 0 + 1 ≤ 1 + _; omega
theorem sz_pos : ∀ x : Dt, 1 ≤ x.sz := fun x => by
  have := prt_sz x
  omega
/-- a data kind: the form, and the parts are so -/
def dat (x : Dt) : Bool := frm x && (prt x).attach.all fun y => dat y.1
termination_by x.sz
decreasing_by
  have h1 := prt_sz x
  have h2 := sz_mem y.2
  omega
theorem dat_eq (x : Dt) : dat x = (frm x && (prt x).all dat) := by
  rw [dat]
  congr 1
  rw [List.all_subtype (g := dat)]
  · simp
  · intro x h
    rfl
end Kq

namespace Kq
open PySem PySem.Spec PyProof.Rows L2 Kf Kg Kv GxR
abbrev tName : Stmt := tp 3
abbrev tTagged : Stmt := tp 7
theorem take_allL {α : Type} {f : α → Bool} {xs : List α} {i : Nat} {x : α} (hx : xs[i]? = some x) (h : (xs.take i).all f = true) (e : f x = true) : (xs.take (i + 1)).all f = true := by
  rw [List.take_add_one, hx, List.all_append, h]
  simp [e]
theorem not_allL {α : Type} {f : α → Bool} {xs : List α} {i : Nat} {x : α} (hx : xs[i]? = some x) (e : f x = false) : xs.all f = false := by
  rw [← Bool.not_eq_true, List.all_eq_true]
  intro z
  rw [z x (List.mem_of_getElem? hx)] at e
  cases e
section
variable {P : Program} {w : World} {K : PySem.W.Frag} {mg : Str → Option Value} {base : Heap}
/-! is_name -/
theorem scName : FnScope ["thing"] ["thing"] (defScope tName) := ⟨rfl, rfl, rfl, by decide +kernel, rfl, by decide +kernel, by decide +kernel⟩
def spName (T : List Addr) : Sp := fun vs H Q _ => ∃ (v : V) (x : Dt), vs = [v] ∧ Dd Any H x v ∧ x.wt ≤ sizeLine ∧ TbS T H ∧ ∀ G : Hp, Sm T H G → Q (.bl (nmD x)) G
theorem okName {f c p : Addr} {fd : FuncData} {k : Nat} {T : List Addr} {u1 u2 : Value} (F : FunC K "is_name" "is_name" tName f fd c) (TB : TabB base mg c p) (hp : p ∈ T)
    (gL : mg "LETTERS" = some u1) (rL : RelV (.str lets) u1) (gN : mg "LONGEST_NAME" = some u2) (rN : RelV (.int 8) u2)
    (ma : mg "all" = none) (mi : mg "isinstance" = none) (ms : mg "str" = none) (ml : mg "len" = none) : FnOk P w K mg base CX0 (k + 4) f fd ["thing"] (spName T) := by
  refine F.ok scName (fun vs H Q E h => ?_) (fun A outer s H vs Q E hr h => ?_)
  · obtain ⟨v, x, rfl, _⟩ := h
    rfl
  obtain ⟨v, x, rfl, hd, hw, tb, q⟩ := h
  refine ⟨_, pss_cons (ps_if (PW.pt (pw_or (pt_not (pt_val (pe_callB (isiK K rfl) (by rfl) mi PyProof.Rows.boot_isinstance (pa_cons (pv 0) (pa_cons (pe_bltn (v := .ty "str") (by rfl) ms PyProof.Rows.boot_str rfl) pa_nil)))))
      (pw_or1 (pt_not (pt_chain op_le op_le pe_int (pe_callB call_len_str (by rfl) ml PySem.boot_len (pa_cons (pv 0) pa_nil)) (pe_glob (v := .int 8) (by rfl) gN rN))))))
      (pss_one (ps_ret pe_bl)) pss_nil)
    (pss_one (ps_ret (pe_allG (c := c) (P := p) (own := ["letter"]) (caps := []) (vs := [0]) (g := gName 0) hr (by rfl) ma TB rfl
    (gxS_by (N := ["thing"]) (sc := defScope tName) (by decide +kernel)) (pi_str (pv 0))
    (fun _ _ _ _ _ => pg_name (i := 0) (show (["letter"] : List Str).Nodup by decide +kernel) rfl (.inl rfl)) (fun _ _ _ _ _ => pe_cmpR op_in_sign (pv 0) (pe_glob (v := .str lets) (by rfl) gL rL) rfl)))), ?_⟩
  refine ⟨_, rfl, _, _, _, _, x.isStr, rfl, .ty "str", hd.ty, kStr K x, _, rfl, ?_⟩
  refine ite2 (fun e => iteT ?_) (fun e => ?_)
  · have e1 : nmD x = false := by
      cases x <;> first | rfl | cases e
    have z := q _ (Sm.refl tb)
    rw [e1] at z
    exact z
  obtain ⟨y, rfl⟩ : ∃ y, x = .str y := by
    cases x with
    | str y => exact ⟨y, rfl⟩
    | _ => exact absurd rfl e
  cases hd
  have hl : y.length ≤ sizeLine := by
    have : (Dt.str y).wt = 10 * y.length + 2 := by simp only [Dt.wt]
    omega
  have no : (decide (1 ≤ y.length) && decide (y.length ≤ 8)) = false → Q (.bl false) H := fun e => by
    have z := q _ (Sm.refl tb)
    have e2 : nmD (.str y) = false := by
      show (decide (1 ≤ y.length) && decide (y.length ≤ 8) && _) = false
      rw [e, Bool.false_and]
    rw [e2] at z
    exact z
  refine ⟨_, rfl, y, rfl, hl, _, _, rfl, rfl, _, rfl, ite2 (fun e1 => ?_) (fun e1 => ?_)⟩
  rotate_left
  · refine ⟨_, rfl, iteT (no ?_)⟩
    have : ¬ ((1 : Int) ≤ (y.length : Int)) := fun z => e1 (decide_eq_true z)
    rw [decide_eq_false (show ¬ 1 ≤ y.length by omega), Bool.false_and]
  have h1 : 1 ≤ y.length := by
    have : (1 : Int) ≤ (y.length : Int) := of_decide_eq_true e1
    omega
  refine ⟨_, _, rfl, rfl, _, rfl, ite2 (fun e2 => no ?_) (fun e2 => ?_)⟩
  · have : ¬ ((y.length : Int) ≤ 8) := fun z => by
      rw [decide_eq_true z] at e2
      cases e2
    rw [decide_eq_false (show ¬ y.length ≤ 8 by omega), Bool.and_false]
  have h2 : y.length ≤ 8 := by
    have : (y.length : Int) ≤ 8 := by
      by_cases z : (y.length : Int) ≤ 8
      · exact z
      · rw [decide_eq_false z] at e2
        exact absurd rfl e2
    omega
  have et : nmD (.str y) = y.cps.toList.all isLo := by
    show (decide (1 ≤ y.length) && decide (y.length ≤ 8) && _) = _
    rw [decide_eq_true h1, decide_eq_true h2]
    rfl
  refine ⟨_, rfl, y, rfl, tb p hp, fun H2 htab => ?_⟩
  have s2 : Sm T H H2 := Sm.tab hp tb htab
  refine all_it walk_str (fun i F => Sm T H F ∧ (y.cps.toList.take i).all isLo = true) ⟨s2, rfl⟩ (fun i F _ _ => trivial) (fun i x F F' hi z yy => ?_) (fun F z => ?_)
  · obtain ⟨sF, al⟩ := z
    obtain ⟨rfl, c, hc, rfl⟩ := yy
    have hc' : y.cps.toList[i]? = some c := by rw [Array.getElem?_toList]; exact hc
    refine ⟨rfl, _, rfl, c, lets, rfl, rfl, _, rfl, ite2 (fun e => ⟨sF, take_allL hc' al e⟩) (fun e => ?_)⟩
    have z := q _ sF
    rw [et, not_allL hc' (by simpa [isLo] using e)] at z
    exact z
  · obtain ⟨sF, al⟩ := z
    have el : y.cps.toList.take y.cps.size = y.cps.toList := by
      rw [← Array.length_toList, List.take_length]
    rw [el] at al
    have z := q _ sF
    rw [et, al] at z
    exact z
end
end Kq

namespace Kq
open PySem PySem.Spec PyProof.Rows L2 Kf Kg Kv GxR
abbrev tForm : Stmt := tp 12
abbrev tWithin : Stmt := tp 13
/-- this word and so many parts behind it -/
def tagD (x : Dt) (z : Str) (m : Nat) : Bool := match x with
  | .tup (y :: ys) => decide (ys.length = m) && y.isS z
  | _ => false
theorem Dd.tupS {N : Addr → Prop} {H : Hp} {xs : List Dt} {v : V} (h : Dd N H (.tup xs) v) : ∃ a vs, v = .ref a ∧ H a = some (.tup vs) ∧ DdL N H xs vs := by
  cases h with
  | tup h t => exact ⟨_, _, rfl, h, t⟩
theorem DdL.see {N : Addr → Prop} {H : Hp} {xs : List Dt} {vs : List V} (h : DdL N H xs vs) : (xs = [] ∧ vs = []) ∨ ∃ y ys w ws, xs = y :: ys ∧ vs = w :: ws ∧ Dd N H y w ∧ DdL N H ys ws := by
  cases h with
  | nil => exact .inl ⟨rfl, rfl⟩
  | cons h t => exact .inr ⟨_, _, _, _, rfl, rfl, h, t⟩
/-- the table of forms -/
structure Forms (K : PySem.W.Frag) (w : World) (dA : Addr) (es : Array DictEntry) (n : Nat) : Prop where
  dict : KDict K w dA es n
  no : ∀ z : Str, ar z = none → PySem.W.nsIn K dA z = some none
  yes : ∀ (z : Str) (m : Nat), ar z = some m → ∃ (t : Addr) (ys : List V), PySem.W.nsIn K dA z = some (some (.ref t)) ∧ ys.length = m ∧ ∀ G : Hp, SqT K G t ys
section
variable {P : Program} {w : World} {K : PySem.W.Frag} {mg : Str → Option Value} {base : Heap}
/-! is_tagged -/
theorem scTagged : FnScope ["thing", "word", "many"] ["thing", "word", "many"] (defScope tTagged) := ⟨rfl, rfl, rfl, by decide +kernel, rfl, by decide +kernel, by decide +kernel⟩
def spTagged : Sp := fun vs H Q _ => ∃ (v : V) (x : Dt) (z : Str) (m : Nat), vs = [v, .str z, .int (m : Int)] ∧ Dd Any H x v ∧ Q (.bl (tagD x z m)) H
theorem okTagged {f : Addr} {fd : FuncData} {k : Nat} (F : Fun K "is_tagged" "is_tagged" tTagged f fd) (mi : mg "isinstance" = none) (mt : mg "tuple" = none) (ml : mg "len" = none) : FnOk P w K mg base CX0 (k + 1) f fd ["thing", "word", "many"] spTagged := by
  refine F.ok scTagged (fun vs H Q E h => ?_) (fun cdv A outer s H vs Q E hr h => ?_)
  · obtain ⟨v, x, z, m, rfl, _⟩ := h
    rfl
  obtain ⟨v, x, z, m, rfl, hd, q⟩ := h
  refine ⟨_, pss_one (ps_ret (pe_and (pe_callB (isiK K rfl) (by rfl) mi PyProof.Rows.boot_isinstance (pa_cons (pv 0) (pa_cons (pe_bltn (v := .ty "tuple") (by rfl) mt PyProof.Rows.boot_tuple rfl) pa_nil)))
    (pe_and (pe_cmpR op_eq (pe_callB call_len_seq (by rfl) ml PySem.boot_len (pa_cons (pv 0) pa_nil)) (pe_op op_add (pv 2) pe_int) (nomark _))
    (pe_one (pe_cmpR (op_eqUS hr.units) (pe_ix ix_tup (pv 0) pe_int (fun _ _ => rfl)) (pv 1) (nomark _)))))), ?_⟩
  refine ⟨_, rfl, _, _, _, _, x.isTup, rfl, .ty "tuple", hd.ty, kTup K x, _, rfl, ite2 (fun e => ?_) (fun e => ?_)⟩
  rotate_left
  · have e1 : tagD x z m = false := by
      cases x <;> first | rfl | exact absurd rfl e
    rw [e1] at q
    exact q
  obtain ⟨xs, rfl⟩ : ∃ xs, x = .tup xs := by
    cases x with
    | tup xs => exact ⟨xs, rfl⟩
    | _ => cases e
  obtain ⟨a, us, rfl, ha, hL⟩ := Dd.tupS hd
  have ll := hL.len
  refine ⟨_, rfl, a, us, rfl, .inr (SqT.of ha), _, rfl, _, _, rfl, rfl, rfl, _, rfl, ite2 (fun e => ?_) (fun e => ?_)⟩
  · have e1 : (us.length : Int) = (m : Int) + 1 := V.int.inj (of_decide_eq_true e)
    rcases DdL.see hL with ⟨rfl, rfl⟩ | ⟨y, ys, w, ws, rfl, rfl, h, t⟩
    · have : ((0 : Nat) : Int) = (m : Int) + 1 := e1
      omega
    · refine ⟨_, rfl, a, _, _, _, rfl, rfl, SqT.of ha, atI_nat (j := 0) rfl, _, rfl, y, z, h, rfl, ?_⟩
      have l2 := t.len
      have e2 : tagD (.tup (y :: ys)) z m = y.isS z := by
        show (decide (ys.length = m) && _) = _
        rw [List.length_cons] at e1
        rw [decide_eq_true (by omega), Bool.true_and]
      rw [e2] at q
      exact q
  · have e1 : ¬ (us.length : Int) = (m : Int) + 1 := fun z => e (decide_eq_true (by rw [z]))
    have e2 : tagD (.tup xs) z m = false := by
      cases xs with
      | nil => rfl
      | cons y ys =>
        show (decide (ys.length = m) && _) = _
        rw [List.length_cons] at ll
        rw [decide_eq_false (by omega), Bool.false_and]
    rw [e2] at q
    exact q
/-! kinds_within -/
theorem scWithin : FnScope ["kind"] ["kind"] (defScope tWithin) := ⟨rfl, rfl, rfl, by decide +kernel, rfl, by decide +kernel, by decide +kernel⟩
def spWithin (N : Addr → Prop) : Sp := fun vs H Q _ => ∃ (v : V) (x : Dt), vs = [v] ∧ Dd N H x v ∧ frm x = true ∧ ∀ (p : Addr) (us : List V) (G : Hp), Same H G → G p = some (.tup us) → DdL N G (prt x) us → Q (.ref p) G
theorem okWithin {f : Addr} {fd : FuncData} {k : Nat} {N : Addr → Prop} (F : Fun K "kinds_within" "kinds_within" tWithin f fd) : FnOk P w K mg base CX0 (k + 1) f fd ["kind"] (spWithin N) := by
  refine F.ok scWithin (fun vs H Q E h => ?_) (fun cdv A outer s H vs Q E hr h => ?_)
  · obtain ⟨v, t, rfl, _⟩ := h
    rfl
  obtain ⟨v, x, rfl, hd, hf, q⟩ := h
  obtain ⟨wd, xs, rfl⟩ : ∃ wd xs, x = .tup (.str wd :: xs) := by
    unfold frm at hf
    split at hf
    · exact ⟨_, _, rfl⟩
    · cases hf
  obtain ⟨a, us, rfl, ha, hL⟩ := Dd.tupS hd
  obtain ⟨us, rfl, hL2⟩ : ∃ ys, us = .str wd :: ys ∧ DdL N H xs ys := by
    cases hL with
    | cons h t =>
      cases h
      exact ⟨_, rfl, t⟩
  refine ⟨_, pss_cons (ps_if (pt_cmpR op_eq (pe_ix ix_tup (pv 0) pe_int (fun _ _ => rfl)) pe_str (nomark _)) (pss_one (ps_ret (pe_tup pa_nil))) pss_nil)
    (pss_one (ps_ret (pe_slice sl_tup (pv 0) (po_some pe_int) po_none))), ?_⟩
  have ep : prt (.tup (.str wd :: xs)) = if wd = "open" then [] else xs := rfl
  rw [ep] at q
  refine ⟨_, rfl, a, _, _, _, rfl, rfl, SqT.of ha, atI_nat (j := 0) rfl, rfl, _, rfl, ?_⟩
  refine ite2 (fun e => ?_) (fun e => ?_)
  · have e1 : wd = "open" := V.str.inj (of_decide_eq_true e)
    rw [if_pos e1] at q
    exact ⟨Nat.zero_le _, fun p np => q p [] _ (newS np) upd_same .nil⟩
  · have e1 : ¬ wd = "open" := fun z => e (decide_eq_true (by rw [z]))
    rw [if_neg e1] at q
    refine ⟨_, rfl, 1, rfl, a, _, rfl, SqT.of ha, notWhole _ _, fun p np => ?_⟩
    rw [cutFrom1]
    exact q p us _ (newS np) upd_same (hL2.same (newS np))
end
end Kq

namespace Kq
open PySem PySem.Spec PyProof.Rows L2 Kf Kg Kv GxR
theorem frm_eq (wd : Str) (xs : List Dt) : frm (.tup (.str wd :: xs)) = (!decide (wd = "fun") && (match ar wd with | some k => decide (xs.length = k) | none => false) && (!decide (wd = "open") || nm1 xs)) := rfl
def u0s (ws : List V) : Nat := ws.length + 1
section
variable {P : Program} {w : World} {K : PySem.W.Frag} {mg : Str → Option Value} {base : Heap}
theorem scForm : FnScope ["thing", "word"] ["thing"] (defScope tForm) := ⟨rfl, rfl, rfl, by decide +kernel, rfl, by decide +kernel, by decide +kernel⟩
def spForm (T : List Addr) : Sp := fun vs H Q _ => ∃ (v : V) (x : Dt), vs = [v] ∧ Dd Any H x v ∧ x.wt ≤ sizeLine ∧ TbS T H ∧ ∀ G : Hp, Sm T H G → Q (.bl (frm x)) G
theorem okForm {f fN dA : Addr} {fd fdN : FuncData} {k : Nat} {T : List Addr} {es : Array DictEntry} {n : Nat} (F : Fun K "has_data_form" "has_data_form" tForm f fd)
    (GN : FnOk P w K mg base CX0 (k + 4) fN fdN ["thing"] (spName T)) (bN : Binds K fdN ["thing"] []) (gN : mg "is_name" = some (.ref fN)) (kN : PySem.W.keepIn K (.ref fN) = true)
    (gD : mg "KIND_FORMS" = some (.ref dA)) (hD : Forms K w dA es n)
    (mi : mg "isinstance" = none) (mt : mg "tuple" = none) (ms : mg "str" = none) (ml : mg "len" = none) : FnOk P w K mg base CX0 (k + 5) f fd ["thing"] (spForm T) := by
  refine F.ok scForm (fun vs H Q E h => ?_) (fun cdv A outer s H vs Q E hr h => ?_)
  · obtain ⟨v, x, rfl, _⟩ := h
    rfl
  obtain ⟨v, x, rfl, hd, hw, tb, q⟩ := h
  refine ⟨_, pss_cons (ps_if (PW.pt (pw_or (pt_not (pt_val (pe_callB (isiK K rfl) (by rfl) mi PyProof.Rows.boot_isinstance (pa_cons (pv 0) (pa_cons (pe_bltn (v := .ty "tuple") (by rfl) mt PyProof.Rows.boot_tuple rfl) pa_nil)))))
      (pw_or (pt_not (pt_truth (pv 0) (by intro _; rfl)))
      (pw_or1 (pt_not (pt_val (pe_callB (isiK K rfl) (by rfl) mi PyProof.Rows.boot_isinstance (pa_cons (pe_ix ix_tup (pv 0) pe_int (fun _ _ => rfl)) (pa_cons (pe_bltn (v := .ty "str") (by rfl) ms PyProof.Rows.boot_str rfl) pa_nil)))))))))
      (pss_one (ps_ret pe_bl)) pss_nil)
    (pss_cons (ps_set (i := 1) scForm.nd rfl (.inl rfl) (pe_ix ix_tup (pv 0) pe_int (fun _ _ => rfl)))
    (pss_cons (ps_if (PW.pt (pw_or (pt_cmpR op_eq (pv 1) pe_str (nomark _)) (pw_or (pt_cmpR (op_notIn_kd hD.dict) (pv 1) (pe_glob (v := .ref dA) (by rfl) gD rfl) rfl)
      (pw_or1 (pt_cmpR op_ne (pe_callB call_len_seq (by rfl) ml PySem.boot_len (pa_cons (pv 0) pa_nil)) (pe_op op_add (pe_callB call_len_seq (by rfl) ml PySem.boot_len (pa_cons (pe_ix ix_kdict (pe_glob (v := .ref dA) (by rfl) gD rfl) (pv 1) (fun _ _ => rfl)) pa_nil)) pe_int) (nomark _))))))
      (pss_one (ps_ret pe_bl)) pss_nil)
    (pss_one (ps_ret (pe_or (pe_cmpR op_ne (pv 1) pe_str (nomark _)) (pe_one (pe_call GN hr (by rfl) gN kN bN .nil pass0 (pa_cons (pe_ix ix_tup (pv 0) pe_int (fun _ _ => rfl)) pa_nil)))))))), ?_⟩
  have no : frm x = false → Q (.bl false) H := fun e => by
    have z := q _ (Sm.refl tb)
    rw [e] at z
    exact z
  refine ⟨_, rfl, _, _, _, _, x.isTup, rfl, .ty "tuple", hd.ty, kTup K x, _, rfl, ite2 (fun e => iteT (no ?_)) (fun e => ?_)⟩
  · cases x <;> first | rfl | cases e
  obtain ⟨xs, rfl⟩ : ∃ xs, x = .tup xs := by
    cases x with
    | tup xs => exact ⟨xs, rfl⟩
    | _ => exact absurd rfl e
  obtain ⟨a, us, rfl, ha, hL⟩ := Dd.tupS hd
  refine ⟨_, rfl, _, .inr (.inl ⟨us, SqT.of ha, rfl⟩), ite2 (fun e => iteT (no ?_)) (fun e => ?_)⟩
  · rcases DdL.see hL with ⟨rfl, rfl⟩ | ⟨y, ys, w, ws, rfl, rfl, h, t⟩
    · rfl
    · cases e
  rcases DdL.see hL with ⟨rfl, rfl⟩ | ⟨y, ys, u0, ws, rfl, rfl, hy, hys⟩
  · exact absurd rfl e
  have hix : atI (u0 :: ws) 0 = some u0 := atI_nat (j := 0) rfl
  refine ⟨_, rfl, a, _, _, _, rfl, rfl, SqT.of ha, hix, _, _, _, _, y.isStr, rfl, .ty "str", hy.ty, kStr K y, _, rfl, ite2 (fun e => no ?_) (fun e => ?_)⟩
  · cases y <;> first | rfl | cases e
  obtain ⟨wd, rfl⟩ : ∃ z, y = .str z := by
    cases y with
    | str z => exact ⟨z, rfl⟩
    | _ => exact absurd rfl e
  cases hy
  refine ⟨_, rfl, a, _, _, _, rfl, rfl, SqT.of ha, hix, ?_⟩
  refine ⟨_, rfl, rfl, _, rfl, ite2 (fun e => iteT (no ?_)) (fun e => ?_)⟩
  · have e1 : wd = "fun" := V.str.inj (of_decide_eq_true e)
    rw [frm_eq, decide_eq_true e1]
    rfl
  have e1 : ¬ wd = "fun" := fun z => e (decide_eq_true (by rw [z]))
  cases har : ar wd with
  | none =>
    refine ⟨_, rfl, wd, none, rfl, rfl, hD.no wd har, _, rfl, iteT (iteT (no ?_))⟩
    rw [frm_eq, har, Bool.and_false]
    rfl
  | some m =>
    obtain ⟨t, zs, ht, lz, hs⟩ := hD.yes wd m har
    refine ⟨_, rfl, wd, _, rfl, rfl, ht, _, rfl, iteF ?_⟩
    have ly := hys.len
    refine ⟨_, rfl, a, _, rfl, .inr (SqT.of ha), _, rfl, dA, wd, .ref t, rfl, rfl, ⟨es, n, _, hD.dict.at_, hD.dict.lit, ht, rfl⟩, t, zs, rfl, .inr (hs _), _, _, rfl, rfl, rfl, _, rfl, ite2 (fun e => no ?_) (fun e => ?_)⟩
    · have e2 : ¬ ys.length = m := fun z => by
        have : ((u0s ws : Nat) : Int) = (zs.length : Int) + 1 := by
          unfold u0s
          omega
        rw [show decide (V.int ((V.str wd :: ws).length : Int) = _) = true from decide_eq_true (congrArg V.int this)] at e
        cases e
      rw [frm_eq, har]
      show (_ && decide (ys.length = m) && _) = false
      rw [decide_eq_false e2, Bool.and_false, Bool.false_and]
    have e2 : ys.length = m := by
      by_cases z : ys.length = m
      · exact z
      · refine absurd ?_ e
        have : ¬ ((u0s ws : Nat) : Int) = (zs.length : Int) + 1 := by
          unfold u0s
          omega
        rw [show decide (V.int ((V.str wd :: ws).length : Int) = _) = false from decide_eq_false (fun h => this (V.int.inj h))]
        rfl
    have ef : frm (.tup (.str wd :: ys)) = (!decide (wd = "open") || nm1 ys) := by
      rw [frm_eq, har, decide_eq_false e1]
      show (true && decide (ys.length = m) && _) = _
      rw [decide_eq_true e2]
      rfl
    refine ⟨_, rfl, rfl, _, rfl, ite2 (fun e => ?_) (fun e => ?_)⟩
    · have z := q _ (Sm.refl tb)
      have e3 : ¬ wd = "open" := fun z => by
        rw [z] at e
        revert e
        decide
      rw [ef, decide_eq_false e3] at z
      exact z
    · have e3 : wd = "open" := by
        by_cases z : wd = "open"
        · exact z
        · refine absurd ?_ e
          rw [decide_eq_false (fun h => z (V.str.inj h))]
          rfl
      subst e3
      have hm : m = 1 := by
        have : ar "open" = some 1 := by decide +kernel
        rw [this] at har
        exact (Option.some.inj har).symm
      rcases DdL.see hys with ⟨rfl, rfl⟩ | ⟨y, ys', u1, ws', rfl, rfl, hy, _⟩
      · rw [hm] at e2
        cases e2
      have hwy : y.wt ≤ sizeLine := by
        have : (Dt.tup (.str "open" :: y :: ys')).wt = Dt.wts (.str "open" :: y :: ys') + 3 := by simp only [Dt.wt]
        have : Dt.wts (.str "open" :: y :: ys') = (Dt.str "open").wt + 2 + (y.wt + 2 + Dt.wts ys') := by simp only [Dt.wts]
        omega
      refine ⟨_, rfl, a, _, _, _, rfl, rfl, SqT.of ha, atI_nat (j := 1) rfl, u1, y, rfl, hy, hwy, tb, fun G sG => ?_⟩
      have z := q _ sG
      rw [ef] at z
      exact z
end
end Kq

namespace Kq
open PySem PySem.Spec PyProof.Rows L2 Kf Kg Kv GxR
abbrev tIsData : Stmt := tp 11
theorem prt_wt (x : Dt) : Dt.wts (prt x) ≤ x.wt := by
  unfold prt
  split
  · rename_i w xs
    have e : (Dt.tup (.str w :: xs)).wt = (Dt.str w).wt + 2 + Dt.wts xs + 3 := by simp only [Dt.wt, Dt.wts]
    by_cases h : w = "open"
    · rw [if_pos h]
      simp only [Dt.wts]
      omega
    · rw [if_neg h]
      omega
  · simp only [Dt.wts]
    omega
theorem szs1 (x : Dt) : Dt.szs [x] = x.sz := by simp only [Dt.szs, Nat.add_zero]
theorem wts1 (x : Dt) : Dt.wts [x] = x.wt + 2 := by simp only [Dt.wts, Nat.add_zero]
/-- the places of a heap -/
abbrev Pl (H : Hp) : Addr → Prop := fun b => ∃ u, H b = some u
theorem _root_.Kv.Dd.pl {N : Addr → Prop} {H : Hp} {x : Dt} {v : V} (h : Dd N H x v) : Dd (Pl H) H x v := h.at fun b u _ e => ⟨u, e⟩
theorem _root_.Kv.DdL.pl {N : Addr → Prop} {H : Hp} {x : List Dt} {v : List V} (h : DdL N H x v) : DdL (Pl H) H x v := h.at fun b u _ e => ⟨u, e⟩
section
variable {P : Program} {w : World} {K : PySem.W.Frag} {mg : Str → Option Value} {base : Heap}
theorem scIsData : FnScope ["thing", "waiting", "part"] ["thing"] (defScope tIsData) := ⟨rfl, rfl, rfl, by decide +kernel, rfl, by decide +kernel, by decide +kernel⟩
def spIsData (T : List Addr) : Sp := fun vs H Q _ => ∃ (v : V) (x : Dt), vs = [v] ∧ Dd Any H x v ∧ x.wt + 2 ≤ sizeLine ∧ TbS T H ∧ ∀ G : Hp, Sm T H G → Q (.bl (dat x)) G
theorem okIsData {f fF fW : Addr} {fd fdF fdW : FuncData} {k : Nat} {T : List Addr} (F : Fun K "is_data" "is_data" tIsData f fd)
    (GF : FnOk P w K mg base CX0 (k + 5) fF fdF ["thing"] (spForm T)) (bF : Binds K fdF ["thing"] []) (gF : mg "has_data_form" = some (.ref fF)) (kF : PySem.W.keepIn K (.ref fF) = true)
    (GW : ∀ N : Addr → Prop, FnOk P w K mg base CX0 (k + 5) fW fdW ["kind"] (spWithin N)) (bW : Binds K fdW ["kind"] []) (gW : mg "kinds_within" = some (.ref fW)) (kW : PySem.W.keepIn K (.ref fW) = true) : FnOk P w K mg base CX0 (k + 6) f fd ["thing"] (spIsData T) := by
  refine F.ok scIsData (fun vs H Q E h => ?_) (fun cdv A outer s H vs Q E hr h => ?_)
  · obtain ⟨v, x, rfl, _⟩ := h
    rfl
  obtain ⟨v, x, rfl, hd, hw, tb, q⟩ := h
  refine ⟨_, pss_cons (ps_set (i := 1) scIsData.nd rfl (.inl rfl) (pe_lst (pa_cons (pv 0) pa_nil)))
    (pss_cons (ps_while PassesOwn.never (pt_truth (pv 1) (by intro _; rfl))
      (pss_cons (ps_set (i := 2) scIsData.nd rfl (.inl rfl) (pe_bm0 PySem.F.plainAttrs_list PySem.F.slot_list_pop PySem.F.type_list_pop mt_pop (pv 1)))
      (pss_cons (ps_if (pt_not (pt_val (pe_call GF hr (by rfl) gF kF bF .nil pass0 (pa_cons (pv 2) pa_nil)))) (pss_one (ps_ret pe_bl)) pss_nil)
      (pss_one (ps_expr (pe_bm PySem.F.plainAttrs_list PySem.F.slot_list_extend PySem.F.type_list_extend Kr.mt_extT (pv 1) (pa_cons (pe_call (GW (Pl H)) hr (by rfl) gW kW bW .nil pass0 (pa_cons (pv 2) pa_nil)) pa_nil)))))))
    (pss_one (ps_ret pe_bl))), ?_⟩
  refine ⟨_, rfl, (by show 1 ≤ sizeLine; decide), fun wa nwa => ?_⟩
  have nW : ¬ Pl H wa := fun ⟨u, e⟩ => by
    rw [nwa] at e
    cases e
  let Iv : Nat → L2.St → Hp → Prop := fun m σ G => ∃ ws vs y, m = Dt.szs ws ∧ σ = [some v, some (.ref wa), y] ∧ Sm T H G ∧ G wa = some (.lst vs) ∧ DdL (Pl H) G ws vs ∧ Dt.wts ws ≤ x.wt + 2 ∧ dat x = ws.all dat
  have I0 : Iv (Dt.szs [x]) [some v, some (.ref wa), none] (upd H wa (.lst [v])) := ⟨[x], [v], none, rfl, rfl, (Sm.refl tb).new nwa tb, upd_same, .cons (hd.pl.same (newS nwa)) .nil, by rw [wts1]; omega, by simp⟩
  refine ⟨Iv, ⟨_, I0⟩, fun m σ G z => ?_⟩
  obtain ⟨ws, vs, y, rfl, rfl, sG, gw, rL, hwt, hdat⟩ := z
  refine ⟨_, rfl, _, .inl ⟨vs, SqL.of gw, rfl⟩, ?_⟩
  refine ite2 (fun e => ?_) (fun e => ?_)
  · have nn : vs ≠ [] := fun z => by
      rw [z] at e
      cases e
    obtain ⟨xs, u, zs, p, rfl, rfl, rx, ru⟩ := rL.last nn
    refine ⟨fun σ' G' => ∃ m', m' < _ ∧ Iv m' σ' G', fun σ' G' z => z, ?_⟩
    refine ⟨_, rfl, .inl ⟨rfl, _, SqL.of gw⟩, wa, _, p, rfl, rfl, gw, ?_, ?_⟩
    · rw [List.length_append, List.length_singleton, Nat.add_sub_cancel, List.getElem?_concat_length]
    rw [List.dropLast_concat]
    have ntG : ∀ xs, G wa ≠ some (.tup xs) := fun _ z => by rw [gw] at z; cases z
    have k1 : Kn (Pl H) G (upd G wa (.lst zs)) := Kn.rfl.put nW ntG
    have s1 : Sm T H (upd G wa (.lst zs)) := sG.new nwa tb
    rw [wts_app, wts1] at hwt
    refine ⟨_, rfl, p, u, rfl, (ru.kn k1).any, by omega, s1.2, fun G2 s2 => ⟨_, rfl, ite2 (fun e => ?_) (fun e => ?_)⟩⟩
    · have z := q _ (s1.trans s2)
      have ed : dat x = false := by
        rw [hdat, List.all_append, List.all_cons, dat_eq u, show frm u = false by simpa using e]
        simp
      rw [ed] at z
      exact z
    have hf : frm u = true := by simpa using e
    have k2 : Kn (Pl H) (upd G wa (.lst zs)) G2 := s2.kn s1.2
    have gw2 : G2 wa = some (.lst zs) := s2.at s1.2 upd_same (fun ps z => by cases z)
    refine ⟨_, rfl, .inl ⟨rfl, _, SqL.of gw2⟩, _, rfl, p, u, rfl, (ru.kn k1).kn k2, hf, fun pa us G3 s3 gp rp => ?_⟩
    have gw3 := s3 _ _ gw2
    have lx := rx.len
    have lp := rp.len
    have l1 := len_szs xs
    have l2 := Dt.szs_wts xs
    have l3 := len_szs (prt u)
    have l4 := Dt.szs_wts (prt u)
    have l5 := prt_wt u
    have l6 := prt_sz u
    refine ⟨wa, pa, zs, us, rfl, rfl, gw3, SqT.of gp, by omega, ?_⟩
    have nt3 : ∀ xs, G3 wa ≠ some (.tup xs) := fun _ z => by rw [gw3] at z; cases z
    have k3 : Kn (Pl H) G2 G3 := .of s3
    have k4 : Kn (Pl H) G3 (upd G3 wa (.lst (zs ++ us))) := Kn.rfl.put nW nt3
    have s4 : Sm T H (upd G3 wa (.lst (zs ++ us))) := ((s1.trans s2).trans (Sm.of s3 s2.2)).new nwa tb
    refine ⟨Dt.szs (xs ++ prt u), ?_, xs ++ prt u, zs ++ us, _, rfl, rfl, s4, upd_same, ?_, ?_, ?_⟩
    · rw [szs_app, szs_app, szs1]
      omega
    · exact ((((rx.kn k1).kn k2).kn k3).kn k4).app (rp.kn k4)
    · rw [wts_app]
      omega
    · rw [hdat, List.all_append, List.all_append, List.all_cons, dat_eq u, hf]
      simp
  · have ev : vs = [] := by
      cases vs with
      | nil => rfl
      | cons a b => exact absurd rfl e
    subst ev
    cases rL
    have z := q _ sG
    rw [hdat] at z
    exact z
end
end Kq

namespace Kq
open PySem PySem.Spec PyProof.Rows L2 Kf Kg Kv GxR
abbrev tIsFirst : Stmt := tp 14
abbrev tIsArg : Stmt := tp 15
/-- from arguments of p to a data kind -/
def chD (p : Dt → Bool) (x : Dt) : Bool := match x with
  | .tup [.str z, a, b] => if z = "fun" then p a && chD p b else dat x
  | _ => dat x
termination_by x.sz
decreasing_by
  simp only [Dt.sz, Dt.szs]
  omega
theorem chD_fn (p : Dt → Bool) (a b : Dt) : chD p (.tup [.str "fun", a, b]) = (p a && chD p b) := by
  rw [chD]
  exact if_pos rfl
theorem tag_fn {x : Dt} (h : tagD x "fun" 2 = true) : ∃ a b, x = .tup [.str "fun", a, b] := by
  unfold tagD at h
  split at h
  · rename_i y ys
    obtain ⟨h1, h2⟩ := Bool.and_eq_true_iff.mp h
    have h1 := of_decide_eq_true h1
    obtain ⟨a, b, rfl⟩ : ∃ a b, ys = [a, b] := by
      match ys, h1 with
      | [a, b], _ => exact ⟨a, b, rfl⟩
    cases y with
    | str z => exact ⟨a, b, by rw [show z = "fun" from of_decide_eq_true h2]⟩
    | _ => cases h2
  · cases h
theorem tag_fn' (a b : Dt) : tagD (.tup [.str "fun", a, b]) "fun" 2 = true := by
  show (decide ([a, b].length = 2) && decide (("fun" : Str) = "fun")) = true
  simp
theorem chD_no (p : Dt → Bool) {x : Dt} (h : tagD x "fun" 2 = false) : chD p x = dat x := by
  unfold chD
  split
  · rename_i z a b
    by_cases e : z = "fun"
    · subst e
      rw [tag_fn'] at h
      cases h
    · exact if_neg e
  · rfl
theorem dat_fn (a b : Dt) : dat (.tup [.str "fun", a, b]) = false := by
  rw [dat_eq]
  have : frm (.tup [.str "fun", a, b]) = false := by
    unfold frm
    simp
  rw [this]
  rfl
def fstD (x : Dt) : Bool := tagD x "fun" 2 && chD dat x
def argD (x : Dt) : Bool := dat x || fstD x
def kndD (x : Dt) : Bool := chD argD x
theorem wt3 (u a b : Dt) : (Dt.tup [u, a, b]).wt = u.wt + a.wt + b.wt + 9 := by
  simp only [Dt.wt, Dt.wts]
  omega
theorem sz3 (u a b : Dt) : (Dt.tup [u, a, b]).sz = u.sz + a.sz + b.sz + 1 := by
  simp only [Dt.sz, Dt.szs]
  omega
theorem Dd.tup3 {N : Addr → Prop} {H : Hp} {u a b : Dt} {v : V} (h : Dd N H (.tup [u, a, b]) v) : ∃ p x y z, v = .ref p ∧ H p = some (.tup [x, y, z]) ∧ Dd N H u x ∧ Dd N H a y ∧ Dd N H b z := by
  obtain ⟨p, vs, rfl, hp, hL⟩ := Dd.tupS h
  cases hL with
  | cons h1 t =>
    cases t with
    | cons h2 t =>
      cases t with
      | cons h3 t =>
        cases t
        exact ⟨p, _, _, _, rfl, hp, h1, h2, h3⟩
section
variable {P : Program} {w : World} {K : PySem.W.Frag} {mg : Str → Option Value} {base : Heap}
theorem scIsFirst : FnScope ["thing", "rest"] ["thing"] (defScope tIsFirst) := ⟨rfl, rfl, rfl, by decide +kernel, rfl, by decide +kernel, by decide +kernel⟩
def spYes (T : List Addr) (p : Dt → Bool) : Sp := fun vs H Q _ => ∃ (v : V) (x : Dt), vs = [v] ∧ Dd Any H x v ∧ x.wt + 2 ≤ sizeLine ∧ TbS T H ∧ ∀ G : Hp, Sm T H G → Q (.bl (p x)) G
theorem okIsFirst {f fT fD : Addr} {fd fdT fdD : FuncData} {k : Nat} {T : List Addr} (F : Fun K "is_first" "is_first" tIsFirst f fd)
    (GT : FnOk P w K mg base CX0 (k + 6) fT fdT ["thing", "word", "many"] spTagged) (bT : Binds K fdT ["thing", "word", "many"] []) (gT : mg "is_tagged" = some (.ref fT)) (kT : PySem.W.keepIn K (.ref fT) = true)
    (GD : FnOk P w K mg base CX0 (k + 6) fD fdD ["thing"] (spIsData T)) (bD : Binds K fdD ["thing"] []) (gD : mg "is_data" = some (.ref fD)) (kD : PySem.W.keepIn K (.ref fD) = true) : FnOk P w K mg base CX0 (k + 7) f fd ["thing"] (spYes T fstD) := by
  refine F.ok scIsFirst (fun vs H Q E h => ?_) (fun cdv A outer s H vs Q E hr h => ?_)
  · obtain ⟨v, x, rfl, _⟩ := h
    rfl
  obtain ⟨v, x, rfl, hd, hw, tb, q⟩ := h
  refine ⟨_, pss_cons (ps_if (pt_not (pt_val (pe_call GT hr (by rfl) gT kT bT .nil pass0 (pa_cons (pv 0) (pa_cons pe_str (pa_cons pe_int pa_nil)))))) (pss_one (ps_ret pe_bl)) pss_nil)
    (pss_cons (ps_set (i := 1) scIsFirst.nd rfl (.inl rfl) (pv 0))
    (pss_cons (ps_while PassesOwn.never (pt_val (pe_call GT hr (by rfl) gT kT bT .nil pass0 (pa_cons (pv 1) (pa_cons pe_str (pa_cons pe_int pa_nil)))))
      (pss_cons (ps_if (pt_not (pt_val (pe_call GD hr (by rfl) gD kD bD .nil pass0 (pa_cons (pe_ix ix_tup (pv 1) pe_int (fun _ _ => rfl)) pa_nil)))) (pss_one (ps_ret pe_bl)) pss_nil)
      (pss_one (ps_set (i := 1) scIsFirst.nd rfl (.inl rfl) (pe_ix ix_tup (pv 1) pe_int (fun _ _ => rfl))))))
    (pss_one (ps_ret (pe_call GD hr (by rfl) gD kD bD .nil pass0 (pa_cons (pv 1) pa_nil)))))), ?_⟩
  refine ⟨_, rfl, v, x, "fun", 2, rfl, hd, _, rfl, ite2 (fun e => ?_) (fun e => ?_)⟩
  · have z := q _ (Sm.refl tb)
    have e1 : fstD x = false := by
      unfold fstD
      rw [show tagD x "fun" 2 = false by simpa using e, Bool.false_and]
    rw [e1] at z
    exact z
  have et : fstD x = chD dat x := by
    unfold fstD
    rw [show tagD x "fun" 2 = true by simpa using e, Bool.true_and]
  let Iv : Nat → L2.St → Hp → Prop := fun m σ G => ∃ y u, m = y.sz ∧ σ = [some v, some u] ∧ Sm T H G ∧ Dd Any G y u ∧ y.wt ≤ x.wt ∧ chD dat x = chD dat y
  refine ⟨_, rfl, Iv, ⟨_, x, v, rfl, rfl, Sm.refl tb, hd, Nat.le_refl _, rfl⟩, fun m σ G z => ?_⟩
  obtain ⟨y, u, rfl, rfl, sG, hy, hyw, hc⟩ := z
  refine ⟨_, rfl, u, y, "fun", 2, rfl, hy, _, rfl, ite2 (fun e => ?_) (fun e => ?_)⟩
  · obtain ⟨a, b, rfl⟩ := tag_fn e
    obtain ⟨p, x0, y0, z0, rfl, hp, _, ha, hb⟩ := Dd.tup3 hy
    rw [wt3] at hyw
    refine ⟨fun σ' G' => ∃ m', m' < _ ∧ Iv m' σ' G', fun σ' G' z => z, ?_⟩
    refine ⟨_, rfl, p, _, _, _, rfl, rfl, SqT.of hp, atI_nat (j := 1) rfl, y0, a, rfl, ha, by omega, sG.2, fun G2 s2 => ⟨_, rfl, ite2 (fun e => ?_) (fun e => ?_)⟩⟩
    · have z := q _ (sG.trans s2)
      rw [et, hc, chD_fn, show dat a = false by simpa using e] at z
      exact z
    refine ⟨_, rfl, p, _, _, _, rfl, rfl, SqT.of (s2.at sG.2 hp fun ps z => by cases z), atI_nat (j := 2) rfl, b.sz, ?_, b, z0, rfl, rfl, sG.trans s2, hb.kn (s2.kn sG.2), by omega, ?_⟩
    · rw [sz3]
      omega
    · rw [hc, chD_fn, show dat a = true by simpa using e, Bool.true_and]
  · refine ⟨_, rfl, u, y, rfl, hy, by omega, sG.2, fun G2 s2 => ?_⟩
    have z := q _ (sG.trans s2)
    rw [et, hc, chD_no _ (by simpa using e)] at z
    exact z
theorem scIsArg : FnScope ["thing"] ["thing"] (defScope tIsArg) := ⟨rfl, rfl, rfl, by decide +kernel, rfl, by decide +kernel, by decide +kernel⟩
theorem okIsArg {f fT fD : Addr} {fd fdT fdD : FuncData} {k : Nat} {T : List Addr} (F : Fun K "is_argument" "is_argument" tIsArg f fd)
    (GT : FnOk P w K mg base CX0 (k + 7) fT fdT ["thing"] (spYes T fstD)) (bT : Binds K fdT ["thing"] []) (gT : mg "is_first" = some (.ref fT)) (kT : PySem.W.keepIn K (.ref fT) = true)
    (GD : FnOk P w K mg base CX0 (k + 7) fD fdD ["thing"] (spIsData T)) (bD : Binds K fdD ["thing"] []) (gD : mg "is_data" = some (.ref fD)) (kD : PySem.W.keepIn K (.ref fD) = true) : FnOk P w K mg base CX0 (k + 8) f fd ["thing"] (spYes T argD) := by
  refine F.ok scIsArg (fun vs H Q E h => ?_) (fun cdv A outer s H vs Q E hr h => ?_)
  · obtain ⟨v, x, rfl, _⟩ := h
    rfl
  obtain ⟨v, x, rfl, hd, hw, tb, q⟩ := h
  refine ⟨_, pss_one (ps_ret (pe_or (pe_call GD hr (by rfl) gD kD bD .nil pass0 (pa_cons (pv 0) pa_nil)) (pe_one (pe_call GT hr (by rfl) gT kT bT .nil pass0 (pa_cons (pv 0) pa_nil))))), ?_⟩
  refine ⟨_, rfl, v, x, rfl, hd, hw, tb, fun G sG => ⟨_, rfl, ite2 (fun e => ?_) (fun e => ?_)⟩⟩
  · have z := q _ sG
    unfold argD at z
    rw [e] at z
    exact z
  · refine ⟨_, rfl, v, x, rfl, hd.kn (sG.kn tb), hw, sG.2, fun G2 s2 => ?_⟩
    have z := q _ (sG.trans s2)
    unfold argD at z
    rw [show dat x = false by simpa using e, Bool.false_or] at z
    exact z
end
end Kq

namespace Kq
open PySem PySem.Spec PyProof.Rows L2 Kf Kg Kv GxR
def numD : Dt → Bool
  | .int i => decide (0 ≤ i)
  | _ => false
abbrev tTruth : Stmt := tp 4
abbrev tWhole : Stmt := tp 5
abbrev tNumber : Stmt := tp 6
section
variable {P : Program} {w : World} {K : PySem.W.Frag} {mg : Str → Option Value} {base : Heap}
def spYesS (p : Dt → Bool) : Sp := fun vs H Q _ => ∃ (v : V) (x : Dt), vs = [v] ∧ Dd Any H x v ∧ Q (.bl (p x)) H
theorem scTruth : FnScope ["thing"] ["thing"] (defScope tTruth) := ⟨rfl, rfl, rfl, by decide +kernel, rfl, by decide +kernel, by decide +kernel⟩
theorem okTruth {f : Addr} {fd : FuncData} {k : Nat} (F : Fun K "is_truth" "is_truth" tTruth f fd) (mi : mg "isinstance" = none) (mb : mg "bool" = none) : FnOk P w K mg base CX0 (k + 1) f fd ["thing"] (spYesS Dt.isBl) := by
  refine F.ok scTruth (fun vs H Q E h => ?_) (fun cdv A outer s H vs Q E hr h => ?_)
  · obtain ⟨v, x, rfl, _⟩ := h
    rfl
  obtain ⟨v, x, rfl, hd, q⟩ := h
  refine ⟨_, pss_one (ps_ret (pe_callB (isiK K rfl) (by rfl) mi PyProof.Rows.boot_isinstance (pa_cons (pv 0) (pa_cons (pe_bltn (v := .ty "bool") (by rfl) mb PyProof.Rows.boot_bool rfl) pa_nil)))), ?_⟩
  exact ⟨_, rfl, _, _, _, _, x.isBl, rfl, .ty "bool", hd.ty, kBl K x, q⟩
def whlD : Dt → Bool
  | .int _ => true
  | _ => false
theorem scWhole : FnScope ["thing"] ["thing"] (defScope tWhole) := ⟨rfl, rfl, rfl, by decide +kernel, rfl, by decide +kernel, by decide +kernel⟩
theorem okWhole {f : Addr} {fd : FuncData} {k : Nat} (F : Fun K "is_whole" "is_whole" tWhole f fd) (mi : mg "isinstance" = none) (mb : mg "bool" = none) (mn : mg "int" = none) : FnOk P w K mg base CX0 (k + 1) f fd ["thing"] (spYesS whlD) := by
  refine F.ok scWhole (fun vs H Q E h => ?_) (fun cdv A outer s H vs Q E hr h => ?_)
  · obtain ⟨v, x, rfl, _⟩ := h
    rfl
  obtain ⟨v, x, rfl, hd, q⟩ := h
  refine ⟨_, pss_one (ps_ret (pe_and (pe_callB (isiK K rfl) (by rfl) mi PyProof.Rows.boot_isinstance (pa_cons (pv 0) (pa_cons (pe_bltn (v := .ty "int") (by rfl) mn (by decide +kernel) rfl) pa_nil)))
    (pe_one (pe_not (pe_callB (isiK K rfl) (by rfl) mi PyProof.Rows.boot_isinstance (pa_cons (pv 0) (pa_cons (pe_bltn (v := .ty "bool") (by rfl) mb PyProof.Rows.boot_bool rfl) pa_nil))))))), ?_⟩
  refine ⟨_, rfl, _, _, _, _, x.isInt, rfl, .ty "int", hd.ty, kInt K x, _, rfl, ite2 (fun e => ?_) (fun e => ?_)⟩
  · refine ⟨_, rfl, _, _, _, _, x.isBl, rfl, .ty "bool", hd.ty, kBl K x, _, rfl, ?_⟩
    have e1 : (!x.isBl) = whlD x := by
      cases x <;> first | rfl | cases e
    rw [e1]
    exact q
  · have e1 : whlD x = false := by
      cases x <;> first | rfl | exact absurd rfl e
    rw [e1] at q
    exact q
theorem scNumber : FnScope ["thing"] ["thing"] (defScope tNumber) := ⟨rfl, rfl, rfl, by decide +kernel, rfl, by decide +kernel, by decide +kernel⟩
theorem okNumber {f fW : Addr} {fd fdW : FuncData} {k : Nat} (F : Fun K "is_number" "is_number" tNumber f fd)
    (GW : FnOk P w K mg base CX0 (k + 1) fW fdW ["thing"] (spYesS whlD)) (bW : Binds K fdW ["thing"] []) (gW : mg "is_whole" = some (.ref fW)) (kW : PySem.W.keepIn K (.ref fW) = true) : FnOk P w K mg base CX0 (k + 2) f fd ["thing"] (spYesS numD) := by
  refine F.ok scNumber (fun vs H Q E h => ?_) (fun cdv A outer s H vs Q E hr h => ?_)
  · obtain ⟨v, x, rfl, _⟩ := h
    rfl
  obtain ⟨v, x, rfl, hd, q⟩ := h
  refine ⟨_, pss_one (ps_ret (pe_and (pe_call GW hr (by rfl) gW kW bW .nil pass0 (pa_cons (pv 0) pa_nil)) (pe_one (pe_cmpR op_ge (pv 0) pe_int (nomark _))))), ?_⟩
  refine ⟨_, rfl, v, x, rfl, hd, _, rfl, ite2 (fun e => ?_) (fun e => ?_)⟩
  · obtain ⟨i, rfl⟩ : ∃ i, x = .int i := by
      cases x with
      | int i => exact ⟨i, rfl⟩
      | _ => cases e
    cases hd
    exact ⟨_, rfl, _, _, rfl, rfl, q⟩
  · have e1 : numD x = false := by
      cases x <;> first | rfl | exact absurd rfl e
    rw [e1] at q
    exact q
end
end Kq

namespace Kq
open PySem PySem.Spec PyProof.Rows L2 Kf Kg Kv GxR RZ
/-! all over two at once -/
section
variable {K : PySem.W.Frag} {a b : Addr} {xs ys : List V} {g : TG} {te : TE} {vs : List Nat} {σ0 : L2.St} {G : Hp} {Qe : Bool → Hp → Prop}
theorem all_zipL (Pv : Nat → Hp → Prop) (h0 : Pv 0 G) (hl : ∀ i H, Pv i H → SqL K H a xs ∧ SqL K H b ys)
    (hs : ∀ i x y T H, xs[i]? = some x → ys[i]? = some y → Pv i H → H T = none → g (.ref T) σ0 (upd H T (.tup [x, y])) fun σ2 H2 => wipe σ2 vs = σ0 ∧ te σ2 H2 fun y H4 => ∃ b, y = .bl b ∧ if b = true then Pv (i + 1) H4 else Qe false H4)
    (hd : ∀ H, Pv (min xs.length ys.length) H → Qe true H) : ∃ W : Nat → Nat → Hp → Prop, (∃ m, W 0 m G) ∧ Turns (Itz K a b) σ0 vs g te Qe W := by
  refine ⟨fun i m F => m = min xs.length ys.length - i ∧ i ≤ min xs.length ys.length ∧ Pv i F, ⟨_, rfl, Nat.zero_le _, h0⟩, fun i m F z => ?_⟩
  obtain ⟨rfl, hi, p⟩ := z
  obtain ⟨q1, q2⟩ := hl i F p
  by_cases lt : i < min xs.length ys.length
  · have l1 : i < xs.length := by omega
    have l2 : i < ys.length := by omega
    refine .inr ⟨⟨xs, ys, xs[i], ys[i], q1, q2, List.getElem?_eq_getElem l1, List.getElem?_eq_getElem l2⟩, Pv (i + 1), fun F' p' => ⟨min xs.length ys.length - (i + 1), by omega, rfl, lt, p'⟩, fun x F' y => ?_⟩
    obtain ⟨T, x1, y1, rfl, hT, rfl, e1, e2⟩ := y
    exact hs i x1 y1 T F (e1 xs q1) (e2 ys q2) p hT
  · have e : i = min xs.length ys.length := by omega
    subst e
    exact .inl ⟨⟨xs, ys, q1, q2, by omega⟩, hd F p⟩
theorem all_zipT (Pv : Nat → Hp → Prop) (h0 : Pv 0 G) (hl : ∀ i H, Pv i H → SqT K H a xs ∧ SqT K H b ys)
    (hs : ∀ i x y T H, xs[i]? = some x → ys[i]? = some y → Pv i H → H T = none → g (.ref T) σ0 (upd H T (.tup [x, y])) fun σ2 H2 => wipe σ2 vs = σ0 ∧ te σ2 H2 fun y H4 => ∃ b, y = .bl b ∧ if b = true then Pv (i + 1) H4 else Qe false H4)
    (hd : ∀ H, Pv (min xs.length ys.length) H → Qe true H) : ∃ W : Nat → Nat → Hp → Prop, (∃ m, W 0 m G) ∧ Turns (ItzT K a b) σ0 vs g te Qe W := by
  refine ⟨fun i m F => m = min xs.length ys.length - i ∧ i ≤ min xs.length ys.length ∧ Pv i F, ⟨_, rfl, Nat.zero_le _, h0⟩, fun i m F z => ?_⟩
  obtain ⟨rfl, hi, p⟩ := z
  obtain ⟨q1, q2⟩ := hl i F p
  by_cases lt : i < min xs.length ys.length
  · have l1 : i < xs.length := by omega
    have l2 : i < ys.length := by omega
    refine .inr ⟨⟨xs, ys, xs[i], ys[i], q1, q2, List.getElem?_eq_getElem l1, List.getElem?_eq_getElem l2⟩, Pv (i + 1), fun F' p' => ⟨min xs.length ys.length - (i + 1), by omega, rfl, lt, p'⟩, fun x F' y => ?_⟩
    obtain ⟨T, x1, y1, rfl, hT, rfl, e1, e2⟩ := y
    exact hs i x1 y1 T F (e1 xs q1) (e2 ys q2) p hT
  · have e : i = min xs.length ys.length := by omega
    subst e
    exact .inl ⟨⟨xs, ys, q1, q2, by omega⟩, hd F p⟩
end
/-! rising -/
theorem cutD1 (xs : List Str) : cutV (xs.map V.str) (some 1) none = (xs.drop 1).map V.str := by
  cases xs with
  | nil => rfl
  | cons x r => exact cutFrom1 (.str x) (r.map V.str)
def ltS (x y : Str) : Bool := decide (x.cps.toList < y.cps.toList)
def rising : List Str → Bool
  | x :: y :: r => ltS x y && rising (y :: r)
  | _ => true
theorem rising_at : ∀ {xs : List Str} {i : Nat} {x y : Str}, rising xs = true → xs[i]? = some x → xs[i + 1]? = some y → ltS x y = true
  | a :: b :: r, 0, x, y, h, e1, e2 => by
    obtain rfl := Option.some.inj e1
    obtain rfl := Option.some.inj e2
    exact (Bool.and_eq_true_iff.mp h).1
  | a :: b :: r, i + 1, x, y, h, e1, e2 => rising_at (xs := b :: r) (i := i) (Bool.and_eq_true_iff.mp h).2 e1 e2
  | [], _, _, _, _, e1, _ => by simp at e1
  | [_], 0, _, _, _, _, e2 => by simp at e2
  | [_], _ + 1, _, _, _, e1, _ => by simp at e1
theorem rising_of : ∀ {xs : List Str}, (∀ i x y, xs[i]? = some x → xs[i + 1]? = some y → ltS x y = true) → rising xs = true
  | [], _ => rfl
  | [_], _ => rfl
  | a :: b :: r, h => Bool.and_eq_true_iff.mpr ⟨h 0 a b rfl rfl, rising_of fun i x y e1 e2 => h (i + 1) x y e1 e2⟩
abbrev tRising : Stmt := tp 8
abbrev tTurns : Stmt := tp 22
abbrev tFills : Stmt := tp 23
abbrev tFill : Stmt := tp 24
section
variable {P : Program} {w : World} {K : PySem.W.Frag} {mg : Str → Option Value} {base : Heap}
theorem scRising : FnScope ["row"] ["row"] (defScope tRising) := ⟨rfl, rfl, rfl, by decide +kernel, rfl, by decide +kernel, by decide +kernel⟩
def spRising (T : List Addr) : Sp := fun vs H Q _ => ∃ (a : Addr) (xs : List Str), vs = [.ref a] ∧ H a = some (.lst (xs.map V.str)) ∧ TbS T H ∧ ∀ G : Hp, Sm T H G → Q (.bl (rising xs)) G
theorem okRising {f c p : Addr} {fd : FuncData} {k : Nat} {T : List Addr} (F : FunC K "is_rising" "is_rising" tRising f fd c) (TB : TabB base mg c p) (hp : p ∈ T)
    (ma : mg "all" = none) (mz : mg "zip" = none) : FnOk P w K mg base CX0 (k + 4) f fd ["row"] (spRising T) := by
  refine F.ok scRising (fun vs H Q E h => ?_) (fun A outer s H vs Q E hr h => ?_)
  · obtain ⟨a, xs, rfl, _⟩ := h
    rfl
  obtain ⟨a, xs, rfl, ha, tb, q⟩ := h
  refine ⟨_, pss_one (ps_ret (pe_allG (c := c) (P := p) (own := ["one", "other"]) (caps := []) (vs := [0, 1]) (g := gTup K 2 (gCons (gName 0) (gCons (gName 1) gNil))) hr (by rfl) ma TB rfl
      (gxS_by (N := ["row"]) (sc := defScope tRising) (by decide +kernel)) (pi_zipA (by rfl) mz (pa_cons (pv 0) (pa_cons (pe_slice sl_list (pv 0) (po_some pe_int) po_none) pa_nil)))
      (fun _ _ _ _ _ => pg_tup rfl (pgs_cons (pg_name (i := 0) (show (["one", "other"] : List Str).Nodup by decide +kernel) rfl (.inl rfl)) (pgs_cons (pg_name (i := 1) (show (["one", "other"] : List Str).Nodup by decide +kernel) rfl (.inl rfl)) pgs_nil)))
      (fun _ _ _ _ _ => pe_cmpR op_lt_str (pv 0) (pv 1) (nomark _)))), ?_⟩
  refine ⟨_, rfl, _, rfl, 1, rfl, a, _, rfl, SqL.of ha, fun b nb => ?_⟩
  have s1 := newS (o := .lst (cutV (xs.map V.str) (some 1) none)) nb
  have ec : cutV (xs.map V.str) (some 1) none = (xs.drop 1).map V.str := cutD1 xs
  rw [ec] at s1 ⊢
  have tb1 := tb.same s1
  refine ⟨a, b, _, _, rfl, .inl ⟨SqL.of (s1 _ _ ha), SqL.of upd_same, tb1 p hp, fun H2 htab => ?_⟩⟩
  have s2 : Sm T H H2 := (Sm.of s1 tb).trans (Sm.tab hp tb1 htab)
  have ga2 : H2 a = some (.lst (xs.map V.str)) := s2.at tb ha fun _ z => by cases z
  have gb2 : H2 b = some (.lst ((xs.drop 1).map V.str)) := (Sm.tab hp tb1 htab).at tb1 upd_same fun _ z => by cases z
  refine all_zipL (xs := xs.map V.str) (ys := (xs.drop 1).map V.str) (fun i F => Sm T H2 F ∧ ∀ j x y, j < i → xs[j]? = some x → xs[j + 1]? = some y → ltS x y = true) ⟨Sm.refl s2.2, fun j x y h => by omega⟩
    (fun i F z => ⟨SqL.of (z.1.at s2.2 ga2 fun _ z => by cases z), SqL.of (z.1.at s2.2 gb2 fun _ z => by cases z)⟩) (fun i x y To F hx hy z nT => ?_) (fun F z => ?_)
  · obtain ⟨sF, al⟩ := z
    rw [List.getElem?_map] at hx hy
    rw [List.getElem?_drop] at hy
    cases h1 : xs[i]? with
    | none => rw [h1] at hx; cases hx
    | some x1 =>
      rw [h1] at hx
      obtain rfl := Option.some.inj hx
      rw [Nat.add_comm 1 i] at hy
      cases h2 : xs[i + 1]? with
      | none => rw [h2] at hy; cases hy
      | some y1 =>
        rw [h2] at hy
        obtain rfl := Option.some.inj hy
        have sT := newS (o := .tup [V.str x1, .str y1]) nT
        refine ⟨To, _, rfl, SqT.of upd_same, rfl, _, _, rfl, _, _, rfl, rfl, rfl, _, rfl, _, rfl, _, _, rfl, rfl, _, rfl, ?_⟩
        refine ite2 (fun e => ⟨sF.trans (Sm.of sT sF.2), fun j x y hj e1 e2 => ?_⟩) (fun e => ?_)
        · by_cases c : j = i
          · subst c
            rw [h1] at e1
            rw [h2] at e2
            obtain rfl := Option.some.inj e1
            obtain rfl := Option.some.inj e2
            exact e
          · exact al j x y (by omega) e1 e2
        · have z := q _ ((s2.trans sF).trans (Sm.of sT sF.2))
          have er : rising xs = false := by
            cases c : rising xs with
            | false => rfl
            | true => exact absurd (rising_at c h1 h2) e
          rw [er] at z
          exact z
  · obtain ⟨sF, al⟩ := z
    have z := q _ (s2.trans sF)
    have er : rising xs = true := rising_of fun i x y e1 e2 => by
      refine al i x y ?_ e1 e2
      have := (List.getElem?_eq_some_iff.mp e2).1
      rw [List.length_map, List.length_map, List.length_drop]
      omega
    rw [er] at z
    exact z
end
end Kq

namespace Kq
open PySem PySem.Spec PyProof.Rows L2 Kf Kg Kv GxR RZ
def trnD : Dt → Bool
  | .int i => decide (1 ≤ i) && decide (i ≤ 30)
  | _ => false
def filD1 : Dt → Bool
  | .tup [n, k] => nmD n && dat k
  | _ => false
def nmOf : Dt → Str
  | .tup (.str n :: _) => n
  | _ => ""
def filD : Dt → Bool
  | .tup xs => xs.all filD1 && rising (xs.map nmOf)
  | _ => false
theorem wts_mem : ∀ {xs : List Dt} {x : Dt}, x ∈ xs → x.wt + 2 ≤ Dt.wts xs
  | y :: ys, x, h => by
    rcases List.mem_cons.mp h with rfl | h
    · simp only [Dt.wts]
      omega
    · have := wts_mem h
      simp only [Dt.wts]
      omega
theorem filD1_see {x : Dt} (h : filD1 x = true) : ∃ n k, x = .tup [.str n, k] ∧ nmS n = true ∧ dat k = true := by
  cases x with
  | tup xs =>
    match xs, h with
    | [n, k], h =>
      obtain ⟨h1, h2⟩ := Bool.and_eq_true_iff.mp h
      cases n with
      | str n => exact ⟨n, k, rfl, h1, h2⟩
      | _ => cases h1
  | _ => cases h
section
variable {P : Program} {w : World} {K : PySem.W.Frag} {mg : Str → Option Value} {base : Heap}
/-! is_turns -/
theorem scTurns : FnScope ["thing"] ["thing"] (defScope tTurns) := ⟨rfl, rfl, rfl, by decide +kernel, rfl, by decide +kernel, by decide +kernel⟩
theorem okTurns {f fW : Addr} {fd fdW : FuncData} {k : Nat} {u1 : Value} (F : Fun K "is_turns" "is_turns" tTurns f fd)
    (GW : FnOk P w K mg base CX0 (k + 1) fW fdW ["thing"] (spYesS whlD)) (bW : Binds K fdW ["thing"] []) (gW : mg "is_whole" = some (.ref fW)) (kW : PySem.W.keepIn K (.ref fW) = true)
    (gM : mg "MOST_TURNS" = some u1) (rM : RelV (.int 30) u1) : FnOk P w K mg base CX0 (k + 2) f fd ["thing"] (spYesS trnD) := by
  refine F.ok scTurns (fun vs H Q E h => ?_) (fun cdv A outer s H vs Q E hr h => ?_)
  · obtain ⟨v, x, rfl, _⟩ := h
    rfl
  obtain ⟨v, x, rfl, hd, q⟩ := h
  refine ⟨_, pss_one (ps_ret (pe_and (pe_call GW hr (by rfl) gW kW bW .nil pass0 (pa_cons (pv 0) pa_nil))
    (pe_one (pe_chain op_le op_le pe_int (pv 0) (pe_glob (v := .int 30) (by rfl) gM rM))))), ?_⟩
  refine ⟨_, rfl, v, x, rfl, hd, _, rfl, ite2 (fun e => ?_) (fun e => ?_)⟩
  · cases x with
    | int i =>
      cases hd
      refine ⟨_, rfl, _, _, rfl, rfl, _, rfl, ite2 (fun e1 => ?_) (fun e1 => ?_)⟩
      · have z := q
        have e2 : trnD (.int i) = decide (i ≤ 30) := by
          show (decide (1 ≤ i) && _) = _
          rw [show decide (1 ≤ i) = true from e1, Bool.true_and]
        rw [e2] at z
        exact ⟨_, _, rfl, rfl, z⟩
      · have z := q
        have e2 : trnD (.int i) = false := by
          show (decide (1 ≤ i) && _) = _
          rw [show decide (1 ≤ i) = false by simpa using e1, Bool.false_and]
        rw [e2] at z
        exact z
    | _ => cases e
  · have e1 : trnD x = false := by
      cases x <;> first | rfl | exact absurd rfl e
    rw [e1] at q
    exact q
/-! is_fill -/
theorem scFill : FnScope ["thing"] ["thing"] (defScope tFill) := ⟨rfl, rfl, rfl, by decide +kernel, rfl, by decide +kernel, by decide +kernel⟩
theorem okFill {f fN fD : Addr} {fd fdN fdD : FuncData} {k : Nat} {T : List Addr} (F : Fun K "is_fill" "is_fill" tFill f fd)
    (GN : FnOk P w K mg base CX0 k fN fdN ["thing"] (spName T)) (bN : Binds K fdN ["thing"] []) (gN : mg "is_name" = some (.ref fN)) (kN : PySem.W.keepIn K (.ref fN) = true)
    (GD : FnOk P w K mg base CX0 k fD fdD ["thing"] (spIsData T)) (bD : Binds K fdD ["thing"] []) (gD : mg "is_data" = some (.ref fD)) (kD : PySem.W.keepIn K (.ref fD) = true)
    (mi : mg "isinstance" = none) (mt : mg "tuple" = none) (ml : mg "len" = none) : FnOk P w K mg base CX0 (k + 1) f fd ["thing"] (spYes T filD1) := by
  refine F.ok scFill (fun vs H Q E h => ?_) (fun cdv A outer s H vs Q E hr h => ?_)
  · obtain ⟨v, x, rfl, _⟩ := h
    rfl
  obtain ⟨v, x, rfl, hd, hw, tb, q⟩ := h
  refine ⟨_, pss_one (ps_ret (pe_and (pe_callB (isiK K rfl) (by rfl) mi PyProof.Rows.boot_isinstance (pa_cons (pv 0) (pa_cons (pe_bltn (v := .ty "tuple") (by rfl) mt PyProof.Rows.boot_tuple rfl) pa_nil)))
    (pe_and (pe_cmpR op_eq (pe_callB call_len_seq (by rfl) ml PySem.boot_len (pa_cons (pv 0) pa_nil)) pe_int (nomark _))
    (pe_and (pe_call GN hr (by rfl) gN kN bN .nil pass0 (pa_cons (pe_ix ix_tup (pv 0) pe_int (fun _ _ => rfl)) pa_nil))
    (pe_one (pe_call GD hr (by rfl) gD kD bD .nil pass0 (pa_cons (pe_ix ix_tup (pv 0) pe_int (fun _ _ => rfl)) pa_nil))))))), ?_⟩
  have no : filD1 x = false → Q (.bl false) H := fun e => by
    have z := q _ (Sm.refl tb)
    rw [e] at z
    exact z
  refine ⟨_, rfl, _, _, _, _, x.isTup, rfl, .ty "tuple", hd.ty, kTup K x, _, rfl, ite2 (fun e => ?_) (fun e => ?_)⟩
  rotate_left
  · refine no ?_
    cases x <;> first | rfl | exact absurd rfl e
  obtain ⟨xs, rfl⟩ : ∃ xs, x = .tup xs := by
    cases x with
    | tup xs => exact ⟨xs, rfl⟩
    | _ => cases e
  obtain ⟨a, us, rfl, ha, hL⟩ := Dd.tupS hd
  have ll := hL.len
  refine ⟨_, rfl, a, _, rfl, .inr (SqT.of ha), rfl, _, rfl, ite2 (fun e => ?_) (fun e => ?_)⟩
  rotate_left
  · have e1 : ¬ us.length = 2 := fun z => e (decide_eq_true (by rw [z]; rfl))
    refine no ?_
    match xs, ll with
    | [], _ => rfl
    | [_], _ => rfl
    | [_, _], ll => exact absurd ll.symm e1
    | _ :: _ :: _ :: _, _ => rfl
  have e1 : us.length = 2 := by
    have := V.int.inj (of_decide_eq_true e)
    omega
  obtain ⟨y, z, u1, u2, rfl, rfl, hy, hz⟩ : ∃ y z u1 u2, xs = [y, z] ∧ us = [u1, u2] ∧ Dd Any H y u1 ∧ Dd Any H z u2 := by
    rcases DdL.see hL with ⟨rfl, rfl⟩ | ⟨y, ys, u1, ws, rfl, rfl, hy, hys⟩
    · cases e1
    rcases DdL.see hys with ⟨rfl, rfl⟩ | ⟨z, zs, u2, ws', rfl, rfl, hz, hzs⟩
    · cases e1
    rcases DdL.see hzs with ⟨rfl, rfl⟩ | ⟨z', zs, u3, ws', rfl, rfl, hz', hzs⟩
    · exact ⟨y, z, u1, u2, rfl, rfl, hy, hz⟩
    · simp at e1
  have hwt : y.wt + 2 + (z.wt + 2) ≤ (Dt.tup [y, z]).wt := by
    simp only [Dt.wt, Dt.wts]
    omega
  refine ⟨_, rfl, a, _, _, _, rfl, rfl, SqT.of ha, atI_nat (j := 0) rfl, u1, y, rfl, hy, by omega, tb, fun G sG => ⟨_, rfl, ite2 (fun e => ?_) (fun e => ?_)⟩⟩
  · have ha' := sG.at tb ha (fun _ z => by cases z)
    refine ⟨_, rfl, a, _, _, _, rfl, rfl, SqT.of ha', atI_nat (j := 1) rfl, u2, z, rfl, hz.kn (sG.kn tb), by omega, sG.2, fun G2 s2 => ?_⟩
    have z' := q _ (sG.trans s2)
    have e2 : filD1 (.tup [y, z]) = dat z := by
      show (nmD y && dat z) = _
      rw [show nmD y = true from e, Bool.true_and]
    rw [e2] at z'
    exact z'
  · have z' := q _ sG
    have e2 : filD1 (.tup [y, z]) = false := by
      show (nmD y && dat z) = _
      rw [show nmD y = false by simpa using e, Bool.false_and]
    rw [e2] at z'
    exact z'
end
end Kq

namespace Kq
open PySem PySem.Spec PyProof.Rows L2 Kf Kg Kv GxR RZ
abbrev tFits : Stmt := tp 21
def fitD (role : Str) (x : Dt) : Bool :=
  if role = "name" then nmD x else if role = "number" then numD x else if role = "truth" then x.isBl else if role = "turns" then trnD x else if role = "data" then dat x else if role = "argument" then argD x else (decide (role = "term") || filD x)
theorem Dd.tup2 {N : Addr → Prop} {H : Hp} {a b : Dt} {v : V} (h : Dd N H (.tup [a, b]) v) : ∃ p y z, v = .ref p ∧ H p = some (.tup [y, z]) ∧ Dd N H a y ∧ Dd N H b z := by
  obtain ⟨p, vs, rfl, hp, hL⟩ := Dd.tupS h
  rcases DdL.see hL with ⟨e, _⟩ | ⟨y, ys, u1, ws, e, rfl, hy, hys⟩
  · cases e
  cases e
  rcases DdL.see hys with ⟨e, _⟩ | ⟨z, zs, u2, ws', e, rfl, hz, hzs⟩
  · cases e
  cases e
  rcases DdL.see hzs with ⟨_, rfl⟩ | ⟨z, zs, u3, ws', e, _⟩
  · exact ⟨p, u1, u2, rfl, hp, hy, hz⟩
  · cases e
section
variable {P : Program} {w : World} {K : PySem.W.Frag} {mg : Str → Option Value} {base : Heap}
abbrev nFills : List Str := ["thing", "name", "kind"]
theorem scFills : FnScope nFills ["thing"] (defScope tFills) := ⟨rfl, rfl, rfl, by decide +kernel, rfl, by decide +kernel, by decide +kernel⟩
theorem okFills {f c p fF fR : Addr} {fd fdF fdR : FuncData} {k : Nat} {T : List Addr} (F : FunC K "is_fills" "is_fills" tFills f fd c) (TB : TabB base mg c p) (hp : p ∈ T)
    (GF : FnOk P w K mg base CX0 k fF fdF ["thing"] (spYes T filD1)) (bF : Binds K fdF ["thing"] []) (gF : mg "is_fill" = some (.ref fF)) (kF : PySem.W.keepIn K (.ref fF) = true)
    (GR : FnOk P w K mg base CX0 (k + 3) fR fdR ["row"] (spRising T)) (bR : Binds K fdR ["row"] []) (gR : mg "is_rising" = some (.ref fR)) (kR : PySem.W.keepIn K (.ref fR) = true)
    (ma : mg "all" = none) (mi : mg "isinstance" = none) (mt : mg "tuple" = none) : FnOk P w K mg base CX0 (k + 4) f fd ["thing"] (spYes T filD) := by
  refine F.ok scFills (fun vs H Q E h => ?_) (fun A outer s H vs Q E hr h => ?_)
  · obtain ⟨v, x, rfl, _⟩ := h
    rfl
  obtain ⟨v, x, rfl, hd, hw, tb, q⟩ := h
  refine ⟨_, pss_cons (ps_if (PW.pt (pw_or (pt_not (pt_val (pe_callB (isiK K rfl) (by rfl) mi PyProof.Rows.boot_isinstance (pa_cons (pv 0) (pa_cons (pe_bltn (v := .ty "tuple") (by rfl) mt PyProof.Rows.boot_tuple rfl) pa_nil)))))
      (pw_or1 (pt_not (pt_val (pe_allG (c := c) (P := p) (own := ["fill"]) (caps := []) (vs := [0]) (g := gName 0) hr (by rfl) ma TB rfl
        (gxS_by (N := nFills) (sc := defScope tFills) (by decide +kernel)) (pi_tup (pv 0))
        (fun _ _ _ _ _ => pg_name (i := 0) (show (["fill"] : List Str).Nodup by decide +kernel) rfl (.inl rfl))
        (fun _ _ _ _ _ => pe_call GF (Room.deeper hr.in1.in1 _) (by rfl) gF kF bF .nil pass0 (pa_cons (pv 0) pa_nil))))))))
      (pss_one (ps_ret pe_bl)) pss_nil)
    (pss_one (ps_ret (pe_call GR hr (by rfl) gR kR bR .nil pass0 (pa_cons (pe_lc (own := [("name", 1), ("kind", 2)]) (g := gTup K 2 (gCons (gName 1) (gCons (gName 2) gNil))) (by rfl) scFills.nd (pi_tup (pv 0)) (blkOk_by (own := [("name", 1), ("kind", 2)]) (N := nFills) (sc := defScope tFills) (by decide +kernel))
      (fun _ _ _ _ _ => pg_tup rfl (pgs_cons (pg_name (i := 1) scFills.nd rfl (.inl rfl)) (pgs_cons (pg_name (i := 2) scFills.nd rfl (.inl rfl)) pgs_nil))) (fun _ _ _ _ _ => pts_nil) (fun _ _ _ _ _ => pv 1)) pa_nil)))), ?_⟩
  have no : filD x = false → Q (.bl false) H := fun e => by
    have z := q _ (Sm.refl tb)
    rw [e] at z
    exact z
  refine ⟨_, rfl, _, _, _, _, x.isTup, rfl, .ty "tuple", hd.ty, kTup K x, _, rfl, ite2 (fun e => iteT (no ?_)) (fun e => ?_)⟩
  · cases x <;> first | rfl | cases e
  obtain ⟨xs, rfl⟩ : ∃ xs, x = .tup xs := by
    cases x with
    | tup xs => exact ⟨xs, rfl⟩
    | _ => exact absurd rfl e
  obtain ⟨a, us, rfl, ha, hL⟩ := Dd.tupS hd
  have ll := hL.len
  have hws : Dt.wts xs + 2 ≤ sizeLine := by
    have : Dt.wts xs ≤ (Dt.tup xs).wt := by
      simp only [Dt.wt]
      omega
    omega
  refine ⟨_, rfl, a, rfl, ⟨_, SqT.of ha⟩, tb p hp, fun H2 htab => ?_⟩
  have s2 : Sm T H H2 := Sm.tab hp tb htab
  refine all_tup (xs := us) (fun i F => Sm T H F ∧ (xs.take i).all filD1 = true) ⟨s2, rfl⟩ (fun i F _ z => SqT.of (z.1.at tb ha fun _ z => by cases z)) (fun i u F hu z => ?_) (fun F z => ?_)
  · obtain ⟨sF, al⟩ := z
    obtain ⟨d, hd', rd⟩ := hL.get hu
    have hwd := wts_mem (List.mem_of_getElem? hd')
    refine ⟨rfl, _, rfl, u, d, rfl, rd.kn (sF.kn tb), by omega, sF.2, fun F2 s3 => ⟨_, rfl, ?_⟩⟩
    have sF2 := sF.trans s3
    refine ite2 (fun e => ⟨sF2, take_allL hd' al e⟩) (fun e => ?_)
    refine ⟨_, rfl, ?_⟩
    have z := q _ sF2
    have e2 : filD (.tup xs) = false := by
      show (xs.all filD1 && _) = _
      rw [not_allL hd' (by simpa using e), Bool.false_and]
    rw [e2] at z
    exact z
  obtain ⟨sF, al⟩ := z
  rw [← ll, List.take_length] at al
  refine ⟨_, rfl, ?_⟩
  have ha' := sF.at tb ha (fun _ z => by cases z)
  have hL' := hL.kn (sF.kn tb)
  refine ⟨_, rfl, a, rfl, ⟨_, SqT.of ha'⟩, fun D nD => ?_⟩
  have aD : a ≠ D := ne_of_none ha' nD
  refine lc_tup (xs := us) (fun i G => Same F G ∧ G D = some (.lst (((xs.take i).map nmOf).map V.str))) ⟨newS nD, upd_same⟩ (fun i G _ z => SqT.of (z.1 _ _ ha')) (fun i u G hu z => ?_) (fun G z => ?_)
  · obtain ⟨sG, gD⟩ := z
    obtain ⟨d, hd', rd⟩ := hL'.get hu
    obtain ⟨n, kd, rfl, _, _⟩ := filD1_see (List.all_eq_true.mp al d (List.mem_of_getElem? hd'))
    obtain ⟨pp, y1, y2, rfl, hpp, h1, h2⟩ := Dd.tup2 rd
    cases h1
    refine ⟨pp, _, rfl, SqT.of (sG _ _ hpp), rfl, _, _, rfl, _, _, rfl, rfl, rfl, _, rfl, _, gD, ?_, ?_, ?_⟩
    · rw [List.length_map, List.length_map, List.length_take]
      have h3 := (List.getElem?_eq_some_iff.mp hd').1
      have := len_szs xs
      have := Dt.szs_wts xs
      have e0 : sizeLine = 16777216 := rfl
      omega
    · exact fun b o e => by
        rw [upd_ne (fun z => by
          rw [z] at e
          have := sF
          rw [nD] at e
          cases e)]
        exact sG b o e
    · rw [upd_same, List.take_add_one, hd', List.map_append, List.map_append]
      rfl
  · obtain ⟨sG, gD⟩ := z
    rw [← ll, List.take_length] at gD
    have sFG : Sm T H G := sF.trans (Sm.of sG sF.2)
    refine ⟨D, xs.map nmOf, rfl, gD, sFG.2, fun G2 s4 => ?_⟩
    have z := q _ (sFG.trans s4)
    have e2 : filD (.tup xs) = rising (xs.map nmOf) := by
      show (xs.all filD1 && _) = _
      rw [al, Bool.true_and]
    rw [e2] at z
    exact z
/-! fits -/
theorem scFits : FnScope ["role", "part"] ["role", "part"] (defScope tFits) := ⟨rfl, rfl, rfl, by decide +kernel, rfl, by decide +kernel, by decide +kernel⟩
def spFits (T : List Addr) : Sp := fun vs H Q _ => ∃ (r : Str) (v : V) (x : Dt), vs = [.str r, v] ∧ Dd Any H x v ∧ x.wt + 2 ≤ sizeLine ∧ TbS T H ∧ ∀ G : Hp, Sm T H G → Q (.bl (fitD r x)) G
theorem okFits {f f1 f2 f3 f4 f5 f6 f7 : Addr} {fd fd1 fd2 fd3 fd4 fd5 fd6 fd7 : FuncData} {k : Nat} {T : List Addr} (F : Fun K "fits" "fits" tFits f fd)
    (G1 : FnOk P w K mg base CX0 k f1 fd1 ["thing"] (spName T)) (b1 : Binds K fd1 ["thing"] []) (g1 : mg "is_name" = some (.ref f1)) (k1 : PySem.W.keepIn K (.ref f1) = true)
    (G2 : FnOk P w K mg base CX0 k f2 fd2 ["thing"] (spYesS numD)) (b2 : Binds K fd2 ["thing"] []) (g2 : mg "is_number" = some (.ref f2)) (k2 : PySem.W.keepIn K (.ref f2) = true)
    (G3 : FnOk P w K mg base CX0 k f3 fd3 ["thing"] (spYesS Dt.isBl)) (b3 : Binds K fd3 ["thing"] []) (g3 : mg "is_truth" = some (.ref f3)) (k3 : PySem.W.keepIn K (.ref f3) = true)
    (G4 : FnOk P w K mg base CX0 k f4 fd4 ["thing"] (spYesS trnD)) (b4 : Binds K fd4 ["thing"] []) (g4 : mg "is_turns" = some (.ref f4)) (k4 : PySem.W.keepIn K (.ref f4) = true)
    (G5 : FnOk P w K mg base CX0 k f5 fd5 ["thing"] (spIsData T)) (b5 : Binds K fd5 ["thing"] []) (g5 : mg "is_data" = some (.ref f5)) (k5 : PySem.W.keepIn K (.ref f5) = true)
    (G6 : FnOk P w K mg base CX0 k f6 fd6 ["thing"] (spYes T argD)) (b6 : Binds K fd6 ["thing"] []) (g6 : mg "is_argument" = some (.ref f6)) (k6 : PySem.W.keepIn K (.ref f6) = true)
    (G7 : FnOk P w K mg base CX0 k f7 fd7 ["thing"] (spYes T filD)) (b7 : Binds K fd7 ["thing"] []) (g7 : mg "is_fills" = some (.ref f7)) (k7 : PySem.W.keepIn K (.ref f7) = true) : FnOk P w K mg base CX0 (k + 1) f fd ["role", "part"] (spFits T) := by
  refine F.ok scFits (fun vs H Q E h => ?_) (fun cdv A outer s H vs Q E hr h => ?_)
  · obtain ⟨r, v, x, rfl, _⟩ := h
    rfl
  obtain ⟨r, v, x, rfl, hd, hw, tb, q⟩ := h
  refine ⟨_, pss_cons (ps_if (pt_cmpR op_eq (pv 0) pe_str (nomark _)) (pss_one (ps_ret (pe_call G1 hr (by rfl) g1 k1 b1 .nil pass0 (pa_cons (pv 1) pa_nil)))) pss_nil)
    (pss_cons (ps_if (pt_cmpR op_eq (pv 0) pe_str (nomark _)) (pss_one (ps_ret (pe_call G2 hr (by rfl) g2 k2 b2 .nil pass0 (pa_cons (pv 1) pa_nil)))) pss_nil)
    (pss_cons (ps_if (pt_cmpR op_eq (pv 0) pe_str (nomark _)) (pss_one (ps_ret (pe_call G3 hr (by rfl) g3 k3 b3 .nil pass0 (pa_cons (pv 1) pa_nil)))) pss_nil)
    (pss_cons (ps_if (pt_cmpR op_eq (pv 0) pe_str (nomark _)) (pss_one (ps_ret (pe_call G4 hr (by rfl) g4 k4 b4 .nil pass0 (pa_cons (pv 1) pa_nil)))) pss_nil)
    (pss_cons (ps_if (pt_cmpR op_eq (pv 0) pe_str (nomark _)) (pss_one (ps_ret (pe_call G5 hr (by rfl) g5 k5 b5 .nil pass0 (pa_cons (pv 1) pa_nil)))) pss_nil)
    (pss_cons (ps_if (pt_cmpR op_eq (pv 0) pe_str (nomark _)) (pss_one (ps_ret (pe_call G6 hr (by rfl) g6 k6 b6 .nil pass0 (pa_cons (pv 1) pa_nil)))) pss_nil)
    (pss_one (ps_ret (pe_or (pe_cmpR op_eq (pv 0) pe_str (nomark _)) (pe_one (pe_call G7 hr (by rfl) g7 k7 b7 .nil pass0 (pa_cons (pv 1) pa_nil))))))))))), ?_⟩
  have eqv : ∀ {z : Str}, decide (V.str r = V.str z) = true → r = z := fun e => V.str.inj (of_decide_eq_true e)
  have nev : ∀ {z : Str}, ¬ decide (V.str r = V.str z) = true → ¬ r = z := fun e h => e (decide_eq_true (by rw [h]))
  have e0 := Nat.le_trans (Nat.le_add_right x.wt 2) hw
  refine ⟨_, rfl, rfl, _, rfl, ite2 (fun e => ?_) (fun n1 => ?_)⟩
  · refine ⟨_, rfl, v, x, rfl, hd, e0, tb, fun G sG => ?_⟩
    have z := q _ sG
    unfold fitD at z
    rw [if_pos (eqv e)] at z
    exact z
  replace n1 := nev n1
  refine ⟨_, rfl, rfl, _, rfl, ite2 (fun e => ?_) (fun n2 => ?_)⟩
  · refine ⟨_, rfl, v, x, rfl, hd, ?_⟩
    have z := q _ (Sm.refl tb)
    unfold fitD at z
    rw [if_neg n1, if_pos (eqv e)] at z
    exact z
  replace n2 := nev n2
  refine ⟨_, rfl, rfl, _, rfl, ite2 (fun e => ?_) (fun n3 => ?_)⟩
  · refine ⟨_, rfl, v, x, rfl, hd, ?_⟩
    have z := q _ (Sm.refl tb)
    unfold fitD at z
    rw [if_neg n1, if_neg n2, if_pos (eqv e)] at z
    exact z
  replace n3 := nev n3
  refine ⟨_, rfl, rfl, _, rfl, ite2 (fun e => ?_) (fun n4 => ?_)⟩
  · refine ⟨_, rfl, v, x, rfl, hd, ?_⟩
    have z := q _ (Sm.refl tb)
    unfold fitD at z
    rw [if_neg n1, if_neg n2, if_neg n3, if_pos (eqv e)] at z
    exact z
  replace n4 := nev n4
  refine ⟨_, rfl, rfl, _, rfl, ite2 (fun e => ?_) (fun n5 => ?_)⟩
  · refine ⟨_, rfl, v, x, rfl, hd, hw, tb, fun G sG => ?_⟩
    have z := q _ sG
    unfold fitD at z
    rw [if_neg n1, if_neg n2, if_neg n3, if_neg n4, if_pos (eqv e)] at z
    exact z
  replace n5 := nev n5
  refine ⟨_, rfl, rfl, _, rfl, ite2 (fun e => ?_) (fun n6 => ?_)⟩
  · refine ⟨_, rfl, v, x, rfl, hd, hw, tb, fun G sG => ?_⟩
    have z := q _ sG
    unfold fitD at z
    rw [if_neg n1, if_neg n2, if_neg n3, if_neg n4, if_neg n5, if_pos (eqv e)] at z
    exact z
  replace n6 := nev n6
  have ef : fitD r x = (decide (r = "term") || filD x) := by
    unfold fitD
    rw [if_neg n1, if_neg n2, if_neg n3, if_neg n4, if_neg n5, if_neg n6]
  rw [ef] at q
  refine ⟨_, rfl, rfl, _, rfl, ite2 (fun e => ?_) (fun n7 => ?_)⟩
  · have z := q _ (Sm.refl tb)
    rw [decide_eq_true (eqv e), Bool.true_or] at z
    exact z
  · refine ⟨_, rfl, v, x, rfl, hd, hw, tb, fun G sG => ?_⟩
    have z := q _ sG
    rw [decide_eq_false (nev n7), Bool.false_or] at z
    exact z
end
end Kq

namespace Kq
open PySem PySem.Spec PyProof.Rows L2 Kf Kg Kv GxR RZ
abbrev tHasTerm : Stmt := tp 20
abbrev tIsTerm : Stmt := tp 19
abbrev tTermsIn : Stmt := tp 25
/-- the roles of a word's parts -/
def tblT : List (Str × List Str) := [("name", ["name"]), ("fun", ["name", "argument", "term"]), ("call", ["term", "term"]), ("num", ["number"]), ("plus", ["term", "term"]), ("less", ["term", "term"]), ("truth", ["truth"]), ("if", ["term", "term", "term"]), ("pair", ["term", "term"]), ("first", ["term"]), ("second", ["term"]), ("left", ["term", "data"]), ("right", ["data", "term"]), ("case", ["term", "name", "term", "name", "term"]), ("none", ["data"]), ("more", ["term", "term"]), ("fold", ["term", "term", "name", "name", "term"]), ("built", ["data", "name", "name", "name", "term"]), ("alike", ["term", "term"]), ("fault", ["data"]), ("rounds", ["turns", "term", "name", "term"]), ("told", ["name", "fills"])]
def rls (w : Str) : Option (List Str) := tblT.lookup w
def two (w : Str) : Bool := decide (w = "fold") || decide (w = "built")
/-- the names at the third and the fourth place are one -/
def same34 (xs : List Dt) : Bool := match xs[2]?, xs[3]? with
  | some (Dt.str a), some (Dt.str b) => decide (a = b)
  | _, _ => false
def tfm (w : Str) (xs : List Dt) : Bool := match rls w with
  | some rs => decide (xs.length = rs.length) && ((rs.zip xs).all fun p => fitD p.1 p.2) && (!two w || !same34 xs)
  | none => false
def tfrm : Dt → Bool
  | .tup (.str w :: xs) => tfm w xs
  | _ => false
def tpt (w : Str) (xs : List Dt) : List Dt := match rls w with
  | some rs => ((rs.zip xs).filter fun (p : Str × Dt) => decide (p.1 = ("term" : Str))).map (·.2)
  | none => []
def tprt : Dt → List Dt
  | .tup (.str w :: xs) => tpt w xs
  | _ => []
theorem szs_sub : ∀ {xs ys : List Dt}, xs.Sublist ys → Dt.szs xs ≤ Dt.szs ys ∧ Dt.wts xs ≤ Dt.wts ys
  | _, _, .slnil => ⟨Nat.le_refl _, Nat.le_refl _⟩
  | _, _, .cons a h => by
    obtain ⟨h1, h2⟩ := szs_sub h
    simp only [Dt.szs, Dt.wts]
    omega
  | _, _, .cons₂ a h => by
    obtain ⟨h1, h2⟩ := szs_sub h
    simp only [Dt.szs, Dt.wts]
    omega
theorem zip_snd : ∀ (rs : List Str) (xs : List Dt), ((rs.zip xs).map (·.2)).Sublist xs
  | [], xs => by simp
  | r :: rs, [] => by simp
  | r :: rs, x :: xs => by
    simp only [List.zip_cons_cons, List.map_cons]
    exact (zip_snd rs xs).cons₂ x
theorem tpt_sub (w : Str) (xs : List Dt) : (tpt w xs).Sublist xs := by
  unfold tpt
  split
  · rename_i rs _
    exact ((List.filter_sublist).map _).trans (zip_snd rs xs)
  · exact List.nil_sublist _
theorem tprt_sz : ∀ x : Dt, Dt.szs (tprt x) + 1 ≤ x.sz := fun x => by
  unfold tprt
  split
  · rename_i w xs
    have h := (szs_sub (tpt_sub w xs)).1
    have e : (Dt.tup (.str w :: xs)).sz = 1 + (1 + Dt.szs xs) := by simp only [Dt.sz, Dt.szs]
    rw [e]
    omega
  · have := sz_pos x
    simp only [Dt.szs]
    omega
theorem tprt_wt (x : Dt) : Dt.wts (tprt x) ≤ x.wt := by
  unfold tprt
  split
  · rename_i w xs
    have h := (szs_sub (tpt_sub w xs)).2
    simp only [Dt.wt, Dt.wts]
    omega
  · simp only [Dt.wts]
    omega
/-- a term: the form, and the terms within are so -/
def trm (x : Dt) : Bool := tfrm x && (tprt x).attach.all fun y => trm y.1
termination_by x.sz
decreasing_by
  have h1 := tprt_sz x
  have h2 := sz_mem y.2
  omega
theorem trm_eq (x : Dt) : trm x = (tfrm x && (tprt x).all trm) := by
  rw [trm]
  congr 1
  rw [List.all_subtype (g := trm)]
  · simp
  · intro x h
    rfl
theorem notInK {X : Cx} (K : PySem.W.Frag) (h : X.K = K) : OpR X (compareOp .NotIn) (rIn K true) := by
  subst h
  exact op_notIn_seq
theorem inFB (z : Str) : inV (V.str z) [V.str "fold", V.str "built"] = two z := by
  show ((("fold" : Str) == z) || ((("built" : Str) == z) || false)) = _
  rw [Bool.or_false]
  have e : ∀ a : Str, (a == z) = decide (z = a) := fun a => by
    by_cases h : z = a
    · subst h
      simp
    · rw [decide_eq_false h]
      exact beq_eq_false_iff_ne.mpr (Ne.symm h)
  rw [e, e]
  rfl
/-- the table of forms -/
structure TForms (K : PySem.W.Frag) (w : World) (dA : Addr) (es : Array DictEntry) (n : Nat) : Prop where
  dict : KDict K w dA es n
  no : ∀ z : Str, rls z = none → PySem.W.nsIn K dA z = some none
  yes : ∀ (z : Str) (rs : List Str), rls z = some rs → ∃ t : Addr, PySem.W.nsIn K dA z = some (some (.ref t)) ∧ ∀ G : Hp, SqT K G t (rs.map V.str)
section
variable {P : Program} {w : World} {K : PySem.W.Frag} {mg : Str → Option Value} {base : Heap}
theorem scHasTerm : FnScope ["thing", "word"] ["thing"] (defScope tHasTerm) := ⟨rfl, rfl, rfl, by decide +kernel, rfl, by decide +kernel, by decide +kernel⟩
theorem names34 {w : Str} {rs : List Str} {xs : List Dt} (hr : rls w = some rs) (ht : two w = true) (hl : xs.length = rs.length) (al : ((rs.zip xs).all fun p => fitD p.1 p.2) = true) : ∃ a b c d e, xs = [a, b, .str c, .str d, e] := by
  have hrs : ∃ r1 r2 r5 : Str, rs = [r1, r2, "name", "name", r5] := by
    unfold two at ht
    rcases Bool.or_eq_true_iff.mp ht with h | h
    · rw [of_decide_eq_true h] at hr
      have h2 : rls "fold" = some (["term", "term", "name", "name", "term"] : List Str) := by decide +kernel
      rw [h2] at hr
      exact ⟨_, _, _, (Option.some.inj hr).symm⟩
    · rw [of_decide_eq_true h] at hr
      have h2 : rls "built" = some (["data", "name", "name", "name", "term"] : List Str) := by decide +kernel
      rw [h2] at hr
      exact ⟨_, _, _, (Option.some.inj hr).symm⟩
  obtain ⟨r1, r2, r5, rfl⟩ := hrs
  match xs, hl, al with
  | [a, b, c, d, e], _, al =>
    simp only [List.zip_cons_cons, List.all_cons, Bool.and_eq_true] at al
    obtain ⟨_, _, h3, h4, _⟩ := al
    have f : ∀ x, fitD "name" x = nmD x := fun x => if_pos rfl
    rw [f] at h3 h4
    cases c with
    | str c =>
      cases d with
      | str d => exact ⟨a, b, c, d, e, rfl⟩
      | _ => cases h4
    | _ => cases h3
theorem okHasTerm {f c p fT dA : Addr} {fd fdT : FuncData} {k : Nat} {T : List Addr} {es : Array DictEntry} {n : Nat} (F : FunC K "has_term_form" "has_term_form" tHasTerm f fd c) (TB : TabB base mg c p) (hp : p ∈ T)
    (GT : FnOk P w K mg base CX0 k fT fdT ["role", "part"] (spFits T)) (bT : Binds K fdT ["role", "part"] []) (gT : mg "fits" = some (.ref fT)) (kT : PySem.W.keepIn K (.ref fT) = true)
    (gD : mg "TERM_FORMS" = some (.ref dA)) (hD : TForms K w dA es n)
    (ma : mg "all" = none) (mz : mg "zip" = none) (mi : mg "isinstance" = none) (mt : mg "tuple" = none) (ms : mg "str" = none) (ml : mg "len" = none) : FnOk P w K mg base CX0 (k + 4) f fd ["thing"] (spYes T tfrm) := by
  refine F.ok scHasTerm (fun vs H Q E h => ?_) (fun A outer s H vs Q E hr h => ?_)
  · obtain ⟨v, x, rfl, _⟩ := h
    rfl
  obtain ⟨v, x, rfl, hd, hw, tb, q⟩ := h
  refine ⟨_, pss_cons (ps_if (PW.pt (pw_or (pt_not (pt_val (pe_callB (isiK K rfl) (by rfl) mi PyProof.Rows.boot_isinstance (pa_cons (pv 0) (pa_cons (pe_bltn (v := .ty "tuple") (by rfl) mt PyProof.Rows.boot_tuple rfl) pa_nil)))))
      (pw_or (pt_not (pt_truth (pv 0) (by intro _; rfl)))
      (pw_or1 (pt_not (pt_val (pe_callB (isiK K rfl) (by rfl) mi PyProof.Rows.boot_isinstance (pa_cons (pe_ix ix_tup (pv 0) pe_int (fun _ _ => rfl)) (pa_cons (pe_bltn (v := .ty "str") (by rfl) ms PyProof.Rows.boot_str rfl) pa_nil)))))))))
      (pss_one (ps_ret pe_bl)) pss_nil)
    (pss_cons (ps_set (i := 1) scHasTerm.nd rfl (.inl rfl) (pe_ix ix_tup (pv 0) pe_int (fun _ _ => rfl)))
    (pss_cons (ps_if (PW.pt (pw_or (pt_cmpR (op_notIn_kd hD.dict) (pv 1) (pe_glob (v := .ref dA) (by rfl) gD rfl) rfl)
      (pw_or1 (pt_cmpR op_ne (pe_callB call_len_seq (by rfl) ml PySem.boot_len (pa_cons (pv 0) pa_nil)) (pe_op op_add (pe_callB call_len_seq (by rfl) ml PySem.boot_len (pa_cons (pe_ix ix_kdict (pe_glob (v := .ref dA) (by rfl) gD rfl) (pv 1) (fun _ _ => rfl)) pa_nil)) pe_int) (nomark _)))))
      (pss_one (ps_ret pe_bl)) pss_nil)
    (pss_cons (ps_if (pt_not (pt_val (pe_allG (c := c) (P := p) (own := ["role", "part"]) (caps := []) (vs := [0, 1]) (g := gTup K 2 (gCons (gName 0) (gCons (gName 1) gNil))) hr (by rfl) ma TB rfl
        (gxS_by (N := ["thing", "word"]) (sc := defScope tHasTerm) (by decide +kernel)) (pi_zipA (by rfl) mz (pa_cons (pe_ix ix_kdict (pe_glob (v := .ref dA) (by rfl) gD rfl) (pv 1) (fun _ _ => rfl)) (pa_cons (pe_slice sl_tup (pv 0) (po_some pe_int) po_none) pa_nil)))
        (fun _ _ _ _ _ => pg_tup rfl (pgs_cons (pg_name (i := 0) (show (["role", "part"] : List Str).Nodup by decide +kernel) rfl (.inl rfl)) (pgs_cons (pg_name (i := 1) (show (["role", "part"] : List Str).Nodup by decide +kernel) rfl (.inl rfl)) pgs_nil)))
        (fun _ _ _ _ _ => pe_call GT (Room.deeper hr.in1.in1 _) (by rfl) gT kT bT .nil pass0 (pa_cons (pv 0) (pa_cons (pv 1) pa_nil))))))
      (pss_one (ps_ret pe_bl)) pss_nil)
    (pss_one (ps_ret (pe_or (pe_cmpR (notInK K rfl) (pv 1) (pe_tup (pa_cons pe_str (pa_cons pe_str pa_nil))) rfl)
      (pe_one (pe_cmpR op_ne (pe_ix ix_tup (pv 0) pe_int (fun _ _ => rfl)) (pe_ix ix_tup (pv 0) pe_int (fun _ _ => rfl)) (nomark _))))))))), ?_⟩
  have no : tfrm x = false → Q (.bl false) H := fun e => by
    have z := q _ (Sm.refl tb)
    rw [e] at z
    exact z
  refine ⟨_, rfl, _, _, _, _, x.isTup, rfl, .ty "tuple", hd.ty, kTup K x, _, rfl, ite2 (fun e => iteT (no ?_)) (fun e => ?_)⟩
  · cases x <;> first | rfl | cases e
  obtain ⟨xs, rfl⟩ : ∃ xs, x = .tup xs := by
    cases x with
    | tup xs => exact ⟨xs, rfl⟩
    | _ => exact absurd rfl e
  obtain ⟨a, us, rfl, ha, hL⟩ := Dd.tupS hd
  refine ⟨_, rfl, _, .inr (.inl ⟨us, SqT.of ha, rfl⟩), ite2 (fun e => iteT (no ?_)) (fun e => ?_)⟩
  · rcases DdL.see hL with ⟨rfl, rfl⟩ | ⟨y, ys, w, ws, rfl, rfl, h, t⟩
    · rfl
    · cases e
  rcases DdL.see hL with ⟨rfl, rfl⟩ | ⟨y, ys, u0, ws, rfl, rfl, hy, hys⟩
  · exact absurd rfl e
  have hix : atI (u0 :: ws) 0 = some u0 := atI_nat (j := 0) rfl
  refine ⟨_, rfl, a, _, _, _, rfl, rfl, SqT.of ha, hix, _, _, _, _, y.isStr, rfl, .ty "str", hy.ty, kStr K y, _, rfl, ite2 (fun e => no ?_) (fun e => ?_)⟩
  · cases y <;> first | rfl | cases e
  obtain ⟨wd, rfl⟩ : ∃ z, y = .str z := by
    cases y with
    | str z => exact ⟨z, rfl⟩
    | _ => exact absurd rfl e
  cases hy
  have no : tfm wd ys = false → Q (.bl false) H := no
  refine ⟨_, rfl, a, _, _, _, rfl, rfl, SqT.of ha, hix, ?_⟩
  cases har : rls wd with
  | none =>
    refine ⟨_, rfl, wd, none, rfl, rfl, hD.no wd har, _, rfl, iteT (iteT (no ?_))⟩
    unfold tfm
    rw [har]
  | some rs =>
    obtain ⟨t, ht, hs⟩ := hD.yes wd rs har
    refine ⟨_, rfl, wd, _, rfl, rfl, ht, _, rfl, iteF ?_⟩
    have ly := hys.len
    have et : tfm wd ys = (decide (ys.length = rs.length) && ((rs.zip ys).all fun p => fitD p.1 p.2) && (!two wd || !same34 ys)) := by
      unfold tfm
      rw [har]
    refine ⟨_, rfl, a, _, rfl, .inr (SqT.of ha), _, rfl, dA, wd, .ref t, rfl, rfl, ⟨es, n, _, hD.dict.at_, hD.dict.lit, ht, rfl⟩, t, _, rfl, .inr (hs _), _, _, rfl, rfl, rfl, _, rfl, ite2 (fun e => no ?_) (fun e => ?_)⟩
    · have e2 : ¬ ys.length = rs.length := fun z => by
        have : (((V.str wd :: ws).length : Nat) : Int) = ((rs.map V.str).length : Int) + 1 := by
          rw [List.length_map, List.length_cons]
          omega
        rw [show decide (V.int ((V.str wd :: ws).length : Int) = _) = true from decide_eq_true (congrArg V.int this)] at e
        cases e
      rw [et, decide_eq_false e2, Bool.false_and, Bool.false_and]
    have e2 : ys.length = rs.length := by
      by_cases z : ys.length = rs.length
      · exact z
      · refine absurd ?_ e
        have : ¬ (((V.str wd :: ws).length : Nat) : Int) = ((rs.map V.str).length : Int) + 1 := by
          rw [List.length_map, List.length_cons]
          omega
        rw [show decide (V.int ((V.str wd :: ws).length : Int) = _) = false from decide_eq_false (fun h => this (V.int.inj h))]
        rfl
    rw [decide_eq_true e2, Bool.true_and] at et
    have hws : Dt.wts ys + 4 ≤ sizeLine := by
      have : Dt.wts ys + 4 ≤ (Dt.tup (.str wd :: ys)).wt + 2 := by
        simp only [Dt.wt, Dt.wts]
        omega
      omega
    refine ⟨_, rfl, dA, wd, .ref t, rfl, rfl, ⟨es, n, _, hD.dict.at_, hD.dict.lit, ht, rfl⟩, _, rfl, 1, rfl, a, _, rfl, SqT.of ha, notWhole _ _, fun b nb => ?_⟩
    rw [cutFrom1]
    have s1 := newS (o := .tup ws) nb
    have tb1 := tb.same s1
    refine ⟨t, b, _, _, rfl, .inr ⟨hs _, SqT.of upd_same, tb1 p hp, fun H2 htab => ?_⟩⟩
    have s2 : Sm T H H2 := (Sm.of s1 tb).trans (Sm.tab hp tb1 htab)
    have gb2 : H2 b = some (.tup ws) := (Sm.tab hp tb1 htab).at tb1 upd_same fun _ z => by cases z
    have hy2 := hys.kn (s2.kn tb)
    refine all_zipT (xs := rs.map V.str) (ys := ws) (fun i F => Sm T H2 F ∧ ((rs.zip ys).take i).all (fun p => fitD p.1 p.2) = true) ⟨Sm.refl s2.2, rfl⟩
      (fun i F z => ⟨hs _, SqT.of (z.1.at s2.2 gb2 fun _ z => by cases z)⟩) (fun i x u To F hx hu z nT => ?_) (fun F z => ?_)
    · obtain ⟨sF, al⟩ := z
      rw [List.getElem?_map] at hx
      cases h1 : rs[i]? with
      | none => rw [h1] at hx; cases hx
      | some r =>
        rw [h1] at hx
        obtain rfl := Option.some.inj hx
        obtain ⟨d, hd', rd⟩ := hy2.get hu
        have hz : (rs.zip ys)[i]? = some (r, d) := by
          rw [List.getElem?_zip_eq_some]
          exact ⟨h1, hd'⟩
        have sT := newS (o := .tup [V.str r, u]) nT
        have sFT := sF.trans (Sm.of sT sF.2)
        have hwd := wts_mem (List.mem_of_getElem? hd')
        refine ⟨To, _, rfl, SqT.of upd_same, rfl, _, _, rfl, _, _, rfl, rfl, rfl, _, rfl, _, rfl, r, u, d, rfl, (rd.kn (sFT.kn s2.2)), by omega, sFT.2, fun F2 s3 => ⟨_, rfl, ?_⟩⟩
        refine ite2 (fun e => ⟨sFT.trans s3, take_allL hz al e⟩) (fun e => ⟨_, rfl, ?_⟩)
        have z := q _ ((s2.trans sFT).trans s3)
        have e3 : tfrm (.tup (.str wd :: ys)) = false := by
          show tfm wd ys = false
          rw [et, not_allL (f := fun p : Str × Dt => fitD p.1 p.2) hz (by simpa using e), Bool.false_and]
        rw [e3] at z
        exact z
    · obtain ⟨sF, al⟩ := z
      have lz : (rs.zip ys).length = min (rs.map V.str).length ws.length := by
        rw [List.length_zip, List.length_map, ly]
      rw [← lz, List.take_length] at al
      rw [al, Bool.true_and] at et
      refine ⟨_, rfl, ?_⟩
      have s5 := s2.trans sF
      refine ⟨_, rfl, (by show 2 ≤ sizeLine; decide), fun p4 np4 => ?_⟩
      have s4 := newS (o := .tup [V.str "fold", V.str "built"]) np4
      have s6 := s5.trans (Sm.of s4 s5.2)
      refine ⟨p4, _, rfl, .inr (SqT.of upd_same), rfl, rfl, _, rfl, ?_⟩
      show if (!inV (V.str wd) [V.str "fold", V.str "built"]) = true then _ else _
      rw [inFB]
      refine ite2 (fun e => ?_) (fun e => ?_)
      · have z := q _ s6
        have e3 : tfrm (.tup (.str wd :: ys)) = true := by
          show tfm wd ys = true
          rw [et, e, Bool.true_or]
        rw [e3] at z
        exact z
      · have e1 : two wd = true := by simpa using e
        obtain ⟨d1, d2, n3, n4, d5, rfl⟩ := names34 har e1 e2 al
        have ha6 := s6.at tb ha (fun _ z => by cases z)
        obtain ⟨v1, v2, v5, rfl⟩ : ∃ v1 v2 v5, ws = [v1, v2, .str n3, .str n4, v5] := by
          rcases DdL.see hys with ⟨z1, _⟩ | ⟨_, _, v1, _, z1, rfl, _, hys⟩ <;> cases z1
          rcases DdL.see hys with ⟨z1, _⟩ | ⟨_, _, v2, _, z1, rfl, _, hys⟩ <;> cases z1
          rcases DdL.see hys with ⟨z1, _⟩ | ⟨_, _, v3, _, z1, rfl, h3, hys⟩ <;> cases z1
          rcases DdL.see hys with ⟨z1, _⟩ | ⟨_, _, v4, _, z1, rfl, h4, hys⟩ <;> cases z1
          rcases DdL.see hys with ⟨z1, _⟩ | ⟨_, _, v5, _, z1, rfl, _, hys⟩ <;> cases z1
          rcases DdL.see hys with ⟨_, rfl⟩ | ⟨_, _, v5, _, z1, rfl, _, hys⟩
          · cases h3
            cases h4
            exact ⟨_, _, _, rfl⟩
          · cases z1
        refine ⟨_, rfl, a, _, _, _, rfl, rfl, SqT.of ha6, atI_nat (j := 3) rfl, _, rfl, a, _, _, _, rfl, rfl, SqT.of ha6, atI_nat (j := 4) rfl, rfl, ?_⟩
        have z := q _ s6
        have e3 : tfrm (.tup (.str wd :: [d1, d2, .str n3, .str n4, d5])) = !decide (V.str n3 = V.str n4) := by
          show tfm wd _ = _
          rw [et, e1]
          have e4 : same34 [d1, d2, .str n3, .str n4, d5] = decide (n3 = n4) := rfl
          rw [e4, Bool.not_true, Bool.false_or]
          by_cases c : n3 = n4
          · rw [decide_eq_true c, decide_eq_true (congrArg V.str c)]
          · rw [decide_eq_false c, decide_eq_false (fun h => c (V.str.inj h))]
        rw [e3] at z
        exact z
end
end Kq

namespace Kq
open PySem PySem.Spec PyProof.Rows L2 Kf Kg Kv GxR RZ
theorem look_mem {α : Type} {z : Str} {v : α} : ∀ {l : List (Str × α)}, l.lookup z = some v → (z, v) ∈ l
  | (a, b) :: l, h => by
    rw [List.lookup_cons] at h
    cases c : (z == a) with
    | true =>
      rw [c] at h
      have e := beq_iff_eq.mp c
      subst e
      cases h
      exact List.mem_cons_self
    | false =>
      rw [c] at h
      exact List.mem_cons_of_mem _ (look_mem h)
theorem tblT_few : ∀ p ∈ tblT, p.2.length ≤ 5 := by decide +kernel
theorem rls_few {w : Str} {rs : List Str} (h : rls w = some rs) : rs.length ≤ 5 := tblT_few _ (look_mem h)
section
variable {P : Program} {w : World} {K : PySem.W.Frag} {mg : Str → Option Value} {base : Heap}
/-! a list over two tuples at once -/
theorem lc_zipT {K : PySem.W.Frag} {a b : Addr} {xs ys : List V} {g : TG} {tt : TT} {te : TE} {vs : List Nat} {σ : L2.St} {H1 : Hp} {D : Addr} {Qd : Hp → Prop} (Pv : Nat → Hp → Prop) (h0 : Pv 0 (upd H1 D (.lst []))) (hl : ∀ i H, Pv i H → SqT K H a xs ∧ SqT K H b ys)
    (hs : ∀ i x y T H, xs[i]? = some x → ys[i]? = some y → Pv i H → H T = none → g (.ref T) (wipe σ vs) (upd H T (.tup [x, y])) fun σ2 H2 => wipe σ2 vs = wipe σ vs ∧ tt σ2 H2 fun b H3 =>
      if b = true then te σ2 H3 fun y H4 => ∃ acc, H4 D = some (.lst acc) ∧ acc.length < sizeLine ∧ Pv (i + 1) (upd H4 D (.lst (acc ++ [y]))) else Pv (i + 1) H3) (hd : ∀ H, Pv (min xs.length ys.length) H → Qd H) :
    ∃ W : Nat → Nat → Hp → Prop, (∃ m, W 0 m (upd H1 D (.lst []))) ∧ ∀ i m H, W i m H →
      ((ItzT K a b).stop i H ∧ Qd H) ∨ ((ItzT K a b).go i H ∧ ∃ Nx : Hp → Prop, (∀ H', Nx H' → ∃ m', m' < m ∧ W (i + 1) m' H') ∧ ∀ x H', (ItzT K a b).yld i H x H' → g x (wipe σ vs) H' fun σ2 H2 => wipe σ2 vs = wipe σ vs ∧ tt σ2 H2 fun b H3 =>
        if b = true then te σ2 H3 fun y H4 => ∃ acc, H4 D = some (.lst acc) ∧ acc.length < sizeLine ∧ Nx (upd H4 D (.lst (acc ++ [y]))) else Nx H3) := by
  refine ⟨fun i m H => m = min xs.length ys.length - i ∧ i ≤ min xs.length ys.length ∧ Pv i H, ⟨_, rfl, Nat.zero_le _, h0⟩, ?_⟩
  rintro i m F ⟨rfl, hi, p⟩
  obtain ⟨q1, q2⟩ := hl i F p
  by_cases lt : i < min xs.length ys.length
  · have l1 : i < xs.length := by omega
    have l2 : i < ys.length := by omega
    refine .inr ⟨⟨xs, ys, xs[i], ys[i], q1, q2, List.getElem?_eq_getElem l1, List.getElem?_eq_getElem l2⟩, Pv (i + 1), fun F' p' => ⟨min xs.length ys.length - (i + 1), by omega, rfl, lt, p'⟩, fun x F' y => ?_⟩
    obtain ⟨T, x1, y1, rfl, hT, rfl, e1, e2⟩ := y
    exact hs i x1 y1 T F (e1 xs q1) (e2 ys q2) p hT
  · have e : i = min xs.length ys.length := by omega
    subst e
    exact .inl ⟨⟨xs, ys, q1, q2, by omega⟩, hd F p⟩
abbrev nTermsIn : List Str := ["term", "role", "part"]
theorem scTermsIn : FnScope nTermsIn ["term"] (defScope tTermsIn) := ⟨rfl, rfl, rfl, by decide +kernel, rfl, by decide +kernel, by decide +kernel⟩
def spTermsIn (N : Addr → Prop) : Sp := fun vs H Q _ => ∃ (v : V) (x : Dt), vs = [v] ∧ Dd N H x v ∧ tfrm x = true ∧ (∀ b, H b = none → ¬ N b) ∧ ∀ (p : Addr) (us : List V) (G : Hp), Same H G → H p = none → G p = some (.lst us) → DdL N G (tprt x) us → Q (.ref p) G
theorem okTermsIn {f dA : Addr} {fd : FuncData} {k : Nat} {N : Addr → Prop} {es : Array DictEntry} {n : Nat} (F : Fun K "terms_in" "terms_in" tTermsIn f fd) (gD : mg "TERM_FORMS" = some (.ref dA)) (hD : TForms K w dA es n) (mz : mg "zip" = none) : FnOk P w K mg base CX0 (k + 1) f fd ["term"] (spTermsIn N) := by
  refine F.ok scTermsIn (fun vs H Q E h => ?_) (fun cdv A outer s H vs Q E hr h => ?_)
  · obtain ⟨v, t, rfl, _⟩ := h
    rfl
  obtain ⟨v, x, rfl, hd, hf, hN, q⟩ := h
  obtain ⟨wd, xs, rfl⟩ : ∃ wd xs, x = .tup (.str wd :: xs) := by
    unfold tfrm at hf
    split at hf
    · exact ⟨_, _, rfl⟩
    · cases hf
  obtain ⟨a, us, rfl, ha, hL⟩ := Dd.tupS hd
  obtain ⟨us, rfl, hL2⟩ : ∃ ys, us = .str wd :: ys ∧ DdL N H xs ys := by
    cases hL with
    | cons h t =>
      cases h
      exact ⟨_, rfl, t⟩
  have hf : tfm wd xs = true := hf
  obtain ⟨rs, har, hlen⟩ : ∃ rs, rls wd = some rs ∧ xs.length = rs.length := by
    unfold tfm at hf
    cases h : rls wd with
    | none => rw [h] at hf; cases hf
    | some rs =>
      rw [h] at hf
      exact ⟨rs, rfl, of_decide_eq_true (Bool.and_eq_true_iff.mp (Bool.and_eq_true_iff.mp hf).1).1⟩
  obtain ⟨t, ht, hs⟩ := hD.yes wd rs har
  have few := rls_few har
  refine ⟨_, pss_one (ps_ret (pe_lc (own := [("role", 1), ("part", 2)]) (g := gTup K 2 (gCons (gName 1) (gCons (gName 2) gNil))) (by rfl) scTermsIn.nd (pi_zipA (by rfl) mz (pa_cons (pe_ix ix_kdict (pe_glob (v := .ref dA) (by rfl) gD rfl) (pe_ix ix_tup (pv 0) pe_int (fun _ _ => rfl)) (fun _ _ => rfl)) (pa_cons (pe_slice sl_tup (pv 0) (po_some pe_int) po_none) pa_nil)))
      (blkOk_by (own := [("role", 1), ("part", 2)]) (N := nTermsIn) (sc := defScope tTermsIn) (by decide +kernel))
      (fun _ _ _ _ _ => pg_tup rfl (pgs_cons (pg_name (i := 1) scTermsIn.nd rfl (.inl rfl)) (pgs_cons (pg_name (i := 2) scTermsIn.nd rfl (.inl rfl)) pgs_nil))) (fun _ _ _ _ _ => pts_one (pt_cmpR op_eq (pv 1) pe_str (nomark _))) (fun _ _ _ _ _ => pv 2))), ?_⟩
  refine ⟨_, rfl, a, _, _, _, rfl, rfl, SqT.of ha, atI_nat (j := 0) rfl, dA, wd, .ref t, rfl, rfl, ⟨es, n, _, hD.dict.at_, hD.dict.lit, ht, rfl⟩, _, rfl, 1, rfl, a, _, rfl, SqT.of ha, notWhole _ _, fun b nb => ?_⟩
  rw [cutFrom1]
  have s1 := newS (o := .tup us) nb
  refine ⟨t, b, _, _, rfl, .inr ⟨hs _, SqT.of upd_same, fun D nD => ?_⟩⟩
  have gb : (upd H b (.tup us)) b = some (.tup us) := upd_same
  have hLb := hL2.same s1
  generalize upd H b (.tup us) = H1 at nD s1 gb hLb
  have bD : b ≠ D := ne_of_none gb nD
  have ly := hL2.len
  refine lc_zipT (xs := rs.map V.str) (ys := us) (fun i G => Same H1 G ∧ ∃ ws, ws.length ≤ i ∧ G D = some (.lst ws) ∧ DdL N G ((((rs.zip xs).take i).filter fun (p : Str × Dt) => decide (p.1 = ("term" : Str))).map (·.2)) ws) ⟨newS nD, [], Nat.le_refl _, upd_same, .nil⟩ (fun i G z => ⟨hs _, SqT.of (z.1 _ _ gb)⟩) (fun i x u To G hx hu z nT => ?_) (fun G z => ?_)
  · obtain ⟨sG, ws, lw, gD', rL⟩ := z
    rw [List.getElem?_map] at hx
    cases h1 : rs[i]? with
    | none => rw [h1] at hx; cases hx
    | some r =>
      rw [h1] at hx
      obtain rfl := Option.some.inj hx
      obtain ⟨d, hd', rd⟩ := hLb.get hu
      have hz : (rs.zip xs)[i]? = some (r, d) := by
        rw [List.getElem?_zip_eq_some]
        exact ⟨h1, hd'⟩
      have li := (List.getElem?_eq_some_iff.mp h1).1
      have sT := newS (o := .tup [V.str r, u]) nT
      have tk : (rs.zip xs).take (i + 1) = (rs.zip xs).take i ++ [(r, d)] := by rw [List.take_add_one, hz]; rfl
      refine ⟨To, _, rfl, SqT.of upd_same, rfl, _, _, rfl, _, _, rfl, rfl, rfl, _, rfl, rfl, _, rfl, ite2 (fun e => ?_) (fun e => ?_)⟩
      · have er : r = "term" := V.str.inj (of_decide_eq_true e)
        have kn2 : Same H1 (upd (upd G To (.tup [V.str r, u])) D (.lst (ws ++ [u]))) := fun c o z => by
          rw [upd_ne (ne_of_none z nD)]
          exact sT _ _ (sG _ _ z)
        refine ⟨_, rfl, ws, sT _ _ gD', small1000 (by omega), kn2, ws ++ [u], by rw [List.length_append]; exact Nat.succ_le_succ lw, upd_same, ?_⟩
        rw [tk, List.filter_append, List.map_append]
        have hall : DdL N (upd (upd G To (.tup [V.str r, u])) D (.lst (ws ++ [u]))) ((((rs.zip xs).take i).filter fun (p : Str × Dt) => decide (p.1 = ("term" : Str))).map (·.2)) ws := by
          exact (rL.same sT).kn (Kn.rfl.put (hN D (s1.free nD)) (fun _ z => by rw [sT _ _ gD'] at z; cases z))
        refine hall.app ?_
        rw [List.filter_cons, if_pos (by exact decide_eq_true er)]
        exact .cons (rd.same kn2) .nil
      · have er : ¬ r = "term" := fun z => e (decide_eq_true (by rw [z]))
        refine ⟨sG.trans sT, ws, by omega, sT _ _ gD', ?_⟩
        rw [tk, List.filter_append, List.map_append, List.filter_cons, if_neg (by simpa using er)]
        show DdL N _ (_ ++ []) ws
        rw [List.append_nil]
        exact rL.same sT
  · obtain ⟨sG, ws, lw, gD', rL⟩ := z
    have lz : (rs.zip xs).length = min (rs.map V.str).length us.length := by
      rw [List.length_zip, List.length_map, ly]
    rw [← lz, List.take_length] at rL
    have ep : tprt (.tup (.str wd :: xs)) = ((rs.zip xs).filter fun (p : Str × Dt) => decide (p.1 = ("term" : Str))).map (·.2) := by
      show tpt wd xs = _
      unfold tpt
      rw [har]
    refine q D ws _ (s1.trans sG) (s1.free nD) gD' ?_
    rw [ep]
    exact rL
/-! is_term -/
theorem scIsTerm : FnScope ["thing", "waiting", "part"] ["thing"] (defScope tIsTerm) := ⟨rfl, rfl, rfl, by decide +kernel, rfl, by decide +kernel, by decide +kernel⟩
theorem okIsTerm {f fF fW : Addr} {fd fdF fdW : FuncData} {k : Nat} {T : List Addr} (F : Fun K "is_term" "is_term" tIsTerm f fd)
    (GF : FnOk P w K mg base CX0 k fF fdF ["thing"] (spYes T tfrm)) (bF : Binds K fdF ["thing"] []) (gF : mg "has_term_form" = some (.ref fF)) (kF : PySem.W.keepIn K (.ref fF) = true)
    (GW : ∀ N : Addr → Prop, FnOk P w K mg base CX0 k fW fdW ["term"] (spTermsIn N)) (bW : Binds K fdW ["term"] []) (gW : mg "terms_in" = some (.ref fW)) (kW : PySem.W.keepIn K (.ref fW) = true) : FnOk P w K mg base CX0 (k + 1) f fd ["thing"] (spYes T trm) := by
  refine F.ok scIsTerm (fun vs H Q E h => ?_) (fun cdv A outer s H vs Q E hr h => ?_)
  · obtain ⟨v, x, rfl, _⟩ := h
    rfl
  obtain ⟨v, x, rfl, hd, hw, tb, q⟩ := h
  refine ⟨_, pss_cons (ps_set (i := 1) scIsTerm.nd rfl (.inl rfl) (pe_lst (pa_cons (pv 0) pa_nil)))
    (pss_cons (ps_while PassesOwn.never (pt_truth (pv 1) (by intro _; rfl))
      (pss_cons (ps_set (i := 2) scIsTerm.nd rfl (.inl rfl) (pe_bm0 PySem.F.plainAttrs_list PySem.F.slot_list_pop PySem.F.type_list_pop mt_pop (pv 1)))
      (pss_cons (ps_if (pt_not (pt_val (pe_call GF hr (by rfl) gF kF bF .nil pass0 (pa_cons (pv 2) pa_nil)))) (pss_one (ps_ret pe_bl)) pss_nil)
      (pss_one (ps_expr (pe_bm PySem.F.plainAttrs_list PySem.F.slot_list_extend PySem.F.type_list_extend mt_extend (pv 1) (pa_cons (pe_call (GW (Pl H)) hr (by rfl) gW kW bW .nil pass0 (pa_cons (pv 2) pa_nil)) pa_nil)))))))
    (pss_one (ps_ret pe_bl))), ?_⟩
  refine ⟨_, rfl, (by show 1 ≤ sizeLine; decide), fun wa nwa => ?_⟩
  have nW : ¬ Pl H wa := fun ⟨u, e⟩ => by
    rw [nwa] at e
    cases e
  let Iv : Nat → L2.St → Hp → Prop := fun m σ G => ∃ ws vs y, m = Dt.szs ws ∧ σ = [some v, some (.ref wa), y] ∧ Sm T H G ∧ G wa = some (.lst vs) ∧ DdL (Pl H) G ws vs ∧ Dt.wts ws ≤ x.wt + 2 ∧ trm x = ws.all trm
  have I0 : Iv (Dt.szs [x]) [some v, some (.ref wa), none] (upd H wa (.lst [v])) := ⟨[x], [v], none, rfl, rfl, (Sm.refl tb).new nwa tb, upd_same, .cons (hd.pl.same (newS nwa)) .nil, by rw [wts1]; omega, by simp⟩
  refine ⟨Iv, ⟨_, I0⟩, fun m σ G z => ?_⟩
  obtain ⟨ws, vs, y, rfl, rfl, sG, gw, rL, hwt, hdat⟩ := z
  refine ⟨_, rfl, _, .inl ⟨vs, SqL.of gw, rfl⟩, ?_⟩
  refine ite2 (fun e => ?_) (fun e => ?_)
  · have nn : vs ≠ [] := fun z => by
      rw [z] at e
      cases e
    obtain ⟨xs, u, zs, p, rfl, rfl, rx, ru⟩ := rL.last nn
    refine ⟨fun σ' G' => ∃ m', m' < _ ∧ Iv m' σ' G', fun σ' G' z => z, ?_⟩
    refine ⟨_, rfl, .inl ⟨rfl, _, SqL.of gw⟩, wa, _, p, rfl, rfl, gw, ?_, ?_⟩
    · rw [List.length_append, List.length_singleton, Nat.add_sub_cancel, List.getElem?_concat_length]
    rw [List.dropLast_concat]
    have ntG : ∀ xs, G wa ≠ some (.tup xs) := fun _ z => by rw [gw] at z; cases z
    have k1 : Kn (Pl H) G (upd G wa (.lst zs)) := Kn.rfl.put nW ntG
    have s1 : Sm T H (upd G wa (.lst zs)) := sG.new nwa tb
    rw [wts_app, wts1] at hwt
    refine ⟨_, rfl, p, u, rfl, (ru.kn k1).any, by omega, s1.2, fun G2 s2 => ⟨_, rfl, ite2 (fun e => ?_) (fun e => ?_)⟩⟩
    · have z := q _ (s1.trans s2)
      have ed : trm x = false := by
        rw [hdat, List.all_append, List.all_cons, trm_eq u, show tfrm u = false by simpa using e]
        simp
      rw [ed] at z
      exact z
    have hf : tfrm u = true := by simpa using e
    have k2 : Kn (Pl H) (upd G wa (.lst zs)) G2 := s2.kn s1.2
    have gw2 : G2 wa = some (.lst zs) := s2.at s1.2 upd_same (fun ps z => by cases z)
    refine ⟨_, rfl, .inl ⟨rfl, _, SqL.of gw2⟩, _, rfl, p, u, rfl, (ru.kn k1).kn k2, hf, fun b hb ⟨o, e⟩ => ?_, fun pa us G3 s3 npa gp rp => ?_⟩
    · have := (s1.trans s2).free hb
      rw [this] at e
      cases e
    have gw3 := s3 _ _ gw2
    have lx := rx.len
    have lp := rp.len
    have l1 := len_szs xs
    have l2 := Dt.szs_wts xs
    have l3 := len_szs (tprt u)
    have l4 := Dt.szs_wts (tprt u)
    have l5 := tprt_wt u
    have l6 := tprt_sz u
    refine ⟨wa, pa, zs, us, rfl, rfl, gw3, gp, by omega, ?_⟩
    have nt3 : ∀ xs, G3 wa ≠ some (.tup xs) := fun _ z => by rw [gw3] at z; cases z
    have k3 : Kn (Pl H) G2 G3 := .of s3
    have k4 : Kn (Pl H) G3 (upd G3 wa (.lst (zs ++ us))) := Kn.rfl.put nW nt3
    have s4 : Sm T H (upd G3 wa (.lst (zs ++ us))) := ((s1.trans s2).trans (Sm.of s3 s2.2)).new nwa tb
    refine ⟨Dt.szs (xs ++ tprt u), ?_, xs ++ tprt u, zs ++ us, _, rfl, rfl, s4, upd_same, ?_, ?_, ?_⟩
    · rw [szs_app, szs_app, szs1]
      omega
    · exact ((((rx.kn k1).kn k2).kn k3).kn k4).app (rp.kn k4)
    · rw [wts_app]
      omega
    · rw [hdat, List.all_append, List.all_append, List.all_cons, trm_eq u, hf]
      simp
  · have ev : vs = [] := by
      cases vs with
      | nil => rfl
      | cons a b => exact absurd rfl e
    subst ev
    cases rL
    have z := q _ sG
    rw [hdat] at z
    exact z
end
end Kq

/-! things of anything: how great each part by itself is -/
namespace Kv
open PySem PySem.Spec PyProof.Rows L2 Kf
/-- signs below 128, no more than so many -/
structure Asc (L : Nat) (x : Str) : Prop where
  lo : ∀ c ∈ x.cps.toList, c < 128
  len : x.length ≤ L
mutual
def Dt.loc (L B : Nat) : Dt → Prop
  | .int i => i.natAbs < B
  | .str x => Asc L x
  | .tup xs => xs.length ≤ L ∧ Dt.locs L B xs
  | .lst xs => xs.length ≤ L ∧ Dt.locs L B xs
  | .dct kvs => kvs.length ≤ 1 ∧ ∀ p ∈ kvs, Asc L p.1 ∧ p.2.natAbs < B
  | _ => True
def Dt.locs (L B : Nat) : List Dt → Prop
  | [] => True
  | x :: xs => x.loc L B ∧ Dt.locs L B xs
end
theorem locs_iff {L B : Nat} : ∀ {xs : List Dt}, Dt.locs L B xs ↔ ∀ x ∈ xs, x.loc L B
  | [] => ⟨fun _ _ h => (nomatch h), fun _ => by simp only [Dt.locs]⟩
  | x :: xs => by
    simp only [Dt.locs]
    rw [locs_iff (xs := xs)]
    exact ⟨fun h y hy => by
      rcases List.mem_cons.mp hy with rfl | hy
      · exact h.1
      · exact h.2 y hy, fun h => ⟨h x List.mem_cons_self, fun y hy => h y (List.mem_cons_of_mem _ hy)⟩⟩
theorem Asc.up {L M : Nat} {x : Str} (h : Asc L x) (l : L ≤ M) : Asc M x := ⟨h.lo, Nat.le_trans h.len l⟩
mutual
theorem Dt.loc_up {L M B C : Nat} (l : L ≤ M) (b : B ≤ C) : ∀ {x : Dt}, x.loc L B → x.loc M C
  | .non, _ => by simp only [Dt.loc]
  | .bl _, _ => by simp only [Dt.loc]
  | .int i, h => by
    simp only [Dt.loc] at h ⊢
    omega
  | .str x, h => by
    simp only [Dt.loc] at h ⊢
    exact h.up l
  | .tup xs, h => by
    simp only [Dt.loc] at h ⊢
    exact ⟨Nat.le_trans h.1 l, Dt.locs_up l b h.2⟩
  | .lst xs, h => by
    simp only [Dt.loc] at h ⊢
    exact ⟨Nat.le_trans h.1 l, Dt.locs_up l b h.2⟩
  | .dct kvs, h => by
    simp only [Dt.loc] at h ⊢
    exact ⟨h.1, fun p hp => ⟨(h.2 p hp).1.up l, Nat.lt_of_lt_of_le (h.2 p hp).2 b⟩⟩
theorem Dt.locs_up {L M B C : Nat} (l : L ≤ M) (b : B ≤ C) : ∀ {xs : List Dt}, Dt.locs L B xs → Dt.locs M C xs
  | [], _ => by simp only [Dt.locs]
  | x :: xs, h => by
    simp only [Dt.locs] at h ⊢
    exact ⟨Dt.loc_up l b h.1, Dt.locs_up l b h.2⟩
end
mutual
theorem Dt.loc_wt {L B : Nat} : ∀ {x : Dt}, x.loc L B → x.wt + 2 ≤ (10 * L + 70) * x.sz
  | .non, _ => by simp only [Dt.wt, Dt.sz]; omega
  | .bl _, _ => by simp only [Dt.wt, Dt.sz]; omega
  | .int i, _ => by simp only [Dt.wt, Dt.sz]; omega
  | .str x, h => by
    simp only [Dt.loc] at h
    have := h.len
    simp only [Dt.wt, Dt.sz]
    omega
  | .tup xs, h => by
    simp only [Dt.loc] at h
    have := Dt.locs_wt h.2
    simp only [Dt.wt, Dt.sz]
    rw [Nat.mul_add]
    omega
  | .lst xs, h => by
    simp only [Dt.loc] at h
    have := Dt.locs_wt h.2
    simp only [Dt.wt, Dt.sz]
    rw [Nat.mul_add]
    omega
  | .dct [], _ => by simp only [Dt.wt, Dt.sz, kwt, List.length_nil]; omega
  | .dct [p], h => by
    simp only [Dt.loc] at h
    have := (h.2 p List.mem_cons_self).1.len
    simp only [Dt.wt, Dt.sz, kwt, List.length_cons, List.length_nil]
    omega
  | .dct (p :: q :: r), h => by
    simp only [Dt.loc, List.length_cons] at h
    omega
theorem Dt.locs_wt {L B : Nat} : ∀ {xs : List Dt}, Dt.locs L B xs → Dt.wts xs ≤ (10 * L + 70) * Dt.szs xs
  | [], _ => by simp only [Dt.wts, Dt.szs]; omega
  | x :: xs, h => by
    simp only [Dt.locs] at h
    have h1 := Dt.loc_wt h.1
    have h2 := Dt.locs_wt h.2
    simp only [Dt.wts, Dt.szs]
    rw [Nat.mul_add]
    omega
end
mutual
theorem Dt.loc_fine {L B : Nat} : ∀ {x : Dt}, x.loc L B → x.fine B
  | .non, _ => by simp only [Dt.fine]
  | .bl _, _ => by simp only [Dt.fine]
  | .int i, h => by
    simp only [Dt.loc] at h
    simp only [Dt.fine]
    exact h
  | .str x, h => by
    simp only [Dt.loc] at h
    simp only [Dt.fine]
    exact fun c hc => Nat.lt_of_lt_of_le (h.lo c hc) (by decide)
  | .tup xs, h => by
    simp only [Dt.loc] at h
    simp only [Dt.fine]
    exact Dt.locs_fine h.2
  | .lst xs, h => by
    simp only [Dt.loc] at h
    simp only [Dt.fine]
    exact Dt.locs_fine h.2
  | .dct kvs, h => by
    simp only [Dt.loc] at h
    simp only [Dt.fine]
    exact fun p hp => ⟨fun c hc => Nat.lt_of_lt_of_le ((h.2 p hp).1.lo c hc) (by decide), (h.2 p hp).2⟩
theorem Dt.locs_fine {L B : Nat} : ∀ {xs : List Dt}, Dt.locs L B xs → Dt.fines B xs
  | [], _ => by simp only [Dt.fines]
  | x :: xs, h => by
    simp only [Dt.locs] at h
    simp only [Dt.fines]
    exact ⟨Dt.loc_fine h.1, Dt.locs_fine h.2⟩
end
theorem dps_mem' : ∀ {xs : List Dt} {x : Dt}, x ∈ xs → x.dp ≤ Dt.dps xs
  | y :: ys, x, h => by
    simp only [Dt.dps]
    rcases List.mem_cons.mp h with rfl | h
    · omega
    · have := dps_mem' h
      omega
theorem dps_le' {n : Nat} : ∀ {xs : List Dt}, (∀ x ∈ xs, x.dp ≤ n) → Dt.dps xs ≤ n
  | [], _ => by simp only [Dt.dps]; omega
  | x :: xs, h => by
    have h1 := h x List.mem_cons_self
    have h2 := dps_le' (xs := xs) fun y hy => h y (List.mem_cons_of_mem _ hy)
    simp only [Dt.dps]
    omega
theorem dp_tup (xs : List Dt) : (Dt.tup xs).dp = Dt.dps xs + 1 := by simp only [Dt.dp]
theorem dp_lst (xs : List Dt) : (Dt.lst xs).dp = Dt.dps xs + 1 := by simp only [Dt.dp]
theorem dp_str (x : Str) : (Dt.str x).dp = 0 := by simp only [Dt.dp]
theorem loc_tup {L B : Nat} {xs : List Dt} : (Dt.tup xs).loc L B ↔ xs.length ≤ L ∧ ∀ x ∈ xs, x.loc L B := by
  simp only [Dt.loc, locs_iff]
theorem loc_lst {L B : Nat} {xs : List Dt} : (Dt.lst xs).loc L B ↔ xs.length ≤ L ∧ ∀ x ∈ xs, x.loc L B := by
  simp only [Dt.loc, locs_iff]
theorem loc_str {L B : Nat} {x : Str} : (Dt.str x).loc L B ↔ Asc L x := by
  simp only [Dt.loc]
theorem loc_int {L B : Nat} {i : Int} : (Dt.int i).loc L B ↔ i.natAbs < B := by
  simp only [Dt.loc]
theorem ascLit {L : Nat} {x : Str} (h : (x.cps.toList.all fun c => decide (c < 128)) = true) (l : x.length ≤ L) : Asc L x := ⟨fun c hc => of_decide_eq_true (List.all_eq_true.mp h c hc), l⟩
theorem asc_app {L M : Nat} {x y : Str} (h : Asc L x) (k : Asc M y) : Asc (L + M) (x ++ y) := by
  refine ⟨fun c hc => ?_, ?_⟩
  · have e : (x ++ y).cps.toList = x.cps.toList ++ y.cps.toList := by
      show (x.cps ++ y.cps).toList = _
      rw [Array.toList_append]
    rw [e] at hc
    rcases List.mem_append.mp hc with z | z
    · exact h.lo c z
    · exact k.lo c z
  · have h1 := h.len
    have h2 := k.len
    have : (x ++ y).length = x.length + y.length := by
      show (x.cps ++ y.cps).size = _
      rw [Array.size_append]
      rfl
    omega
theorem asc_upper {L : Nat} {x : Str} (h : Asc L x) : Asc L (Txt.upper x) := by
  rw [upper_ascii h.lo]
  refine ⟨fun c hc => ?_, ?_⟩
  · have hc : c ∈ (x.cps.map up1).toList := hc
    rw [Array.toList_map, List.mem_map] at hc
    obtain ⟨d, hd, rfl⟩ := hc
    have := h.lo d hd
    unfold up1
    split <;> omega
  · have e : (Str.mk (x.cps.map up1)).length = x.length := by
      show (x.cps.map up1).size = x.cps.size
      exact Array.size_map
    rw [e]
    exact h.len
theorem dch (n : Nat) : (Nat.digitChar n).toNat < 128 := by
  by_cases h : n < 16
  · have z : ∀ i : Fin 16, (Nat.digitChar i.val).toNat < 128 := by decide
    exact z ⟨n, h⟩
  · have e : Nat.digitChar n = '*' := by
      unfold Nat.digitChar
      repeat rw [if_neg (by omega)]
    rw [e]
    decide
theorem core_asc : ∀ (fuel n : Nat) (ds : List Char), (∀ c ∈ ds, c.toNat < 128) → ∀ c ∈ Nat.toDigitsCore 10 fuel n ds, c.toNat < 128
  | 0, n, ds, h, c, hc => h c (by simpa [Nat.toDigitsCore] using hc)
  | fuel + 1, n, ds, h, c, hc => by
    have h2 : ∀ c ∈ (Nat.digitChar (n % 10) :: ds), c.toNat < 128 := fun c hc => by
      rcases List.mem_cons.mp hc with rfl | hc
      · exact dch _
      · exact h c hc
    unfold Nat.toDigitsCore at hc
    dsimp only at hc
    split at hc
    · exact h2 c hc
    · exact core_asc fuel _ _ h2 c hc
theorem int_asc (i : Int) : ∀ c ∈ (Str.ofString (toString i)).cps.toList, c < 128 := by
  intro c hc
  rw [Str.ofString_eq_toList] at hc
  have hc : c ∈ (toString i).toList.map Char.toNat := by simpa using hc
  obtain ⟨ch, hch, rfl⟩ := List.mem_map.mp hc
  have dig : ∀ n : Nat, ∀ ch ∈ (Nat.repr n).toList, ch.toNat < 128 := fun n ch h => by
    have h : ch ∈ Nat.toDigits 10 n := by simpa [Nat.repr] using h
    exact core_asc _ _ [] (fun c z => absurd z List.not_mem_nil) ch h
  cases i with
  | ofNat n => exact dig n ch hch
  | negSucc n =>
    have e : (toString (Int.negSucc n)).toList = '-' :: (Nat.repr (n + 1)).toList := by
      show ("-" ++ Nat.repr (n + 1)).toList = _
      rw [String.toList_append]
      rfl
    rw [e] at hch
    rcases List.mem_cons.mp hch with rfl | h
    · decide
    · exact dig _ ch h
/-- str(number), a truth too: few signs -/
theorem call_strA {X : Cx} : CallR X (.type "str") (fun xs H Q => ∃ x i, xs = [x] ∧ nu x = some i ∧ i.natAbs < 10 ^ 45 ∧ ∀ z : Str, Asc 50 z → Q (.str z) H) := by
  intro pins s σ H xs us Q I r h
  obtain ⟨x, i, rfl, hx, hi, q⟩ := h
  obtain ⟨u, rfl, rx⟩ := vals1 r
  cases x with
  | int a =>
    obtain ⟨t, rfl⟩ := rx
    cases hx
    have hl : i.natAbs.log2 < 1920 := by
      by_cases z : i.natAbs = 0
      · rw [z]
        decide
      · have : i.natAbs.log2 < 150 := (Nat.log2_lt z).mpr (Nat.lt_of_lt_of_le hi (by decide))
        omega
    refine PySem.P.str_of_int hl ⟨.str _, H, I.tok _, ⟨_, rfl⟩, q _ ⟨?_, ?_⟩⟩
    · exact int_asc i
    · have z := int_text_length_le10 (a := i) (k := 45) (by decide) hi
      have e : (Str.ofString (toString i)).length = (toString i).length := PySem.ofString_length _
      show (Str.ofString (toString i)).length ≤ 50
      rw [e]
      omega
  | bl b =>
    cases rx
    refine PySem.P.str_of_bool ⟨.str _, H, I.tok _, ⟨_, rfl⟩, q _ ⟨?_, ?_⟩⟩
    · cases b <;> decide +kernel
    · cases b <;> decide +kernel
  | _ => cases hx
end Kv

namespace Kq
open PySem PySem.Spec PyProof.Rows L2 Kf Kg Kv GxR RZ
abbrev tData : Stmt := tp 32
abbrev tCarried : Stmt := tp 33
abbrev tCalled : Stmt := tp 31
abbrev Non : Addr → Prop := fun _ => False
theorem _root_.Kv.Kn.tk {H G : Hp} (k : Tk H G) : Kn Non H G := ⟨k, fun _ _ n _ => n.elim, fun _ _ n _ => n.elim⟩
def db : Nat → Nat
  | 0 => 300
  | n + 1 => 2 * db n + 300
theorem db_ge : ∀ n, 300 ≤ db n
  | 0 => Nat.le_refl _
  | n + 1 => by
    have := db_ge n
    show 300 ≤ 2 * db n + 300
    omega
theorem nmS_of {x : Str} (h : Nm x) : nmS x = true := by
  have hl : x.cps.toList.length = x.length := Array.length_toList
  have h1 := h.one
  have h2 := h.few
  unfold nmS
  rw [decide_eq_true (by omega), decide_eq_true (by omega), Bool.true_and, Bool.true_and, List.all_eq_true]
  intro c hc
  obtain ⟨c0, c1⟩ := h.low c hc
  unfold isLo
  refine decide_eq_true ?_
  have e : c = 97 + (c - 97) := by omega
  rw [e]
  exact List.mem_of_getElem? (lets_at ⟨c - 97, by omega⟩)
theorem nmS_len {x : Str} (h : nmS x = true) : x.length ≤ 8 := by
  unfold nmS at h
  exact of_decide_eq_true (Bool.and_eq_true_iff.mp (Bool.and_eq_true_iff.mp h).1).2
theorem wlen : ("open" : Str).length = 4 ∧ ("num" : Str).length = 3 ∧ ("truth" : Str).length = 5 ∧ ("pair" : Str).length = 4 ∧ ("either" : Str).length = 6 ∧ ("list" : Str).length = 4 ∧ ("fun" : Str).length = 3 := by decide +kernel
abbrev BB : Nat := 1000100
/-- a drawn data kind -/
structure Kx (g : Nat) (x : Dt) : Prop where
  is : dat x = true
  wt : x.wt ≤ db g
  lo : x.loc 20 BB
  dp : x.dp ≤ g + 1
theorem asc_nm {n : Str} (h : nmS n = true) : Asc 8 n := by
  have hl : n.cps.toList.length = n.length := Array.length_toList
  have ll : ∀ c ∈ lets.cps.toList, c < 128 := by decide +kernel
  unfold nmS at h
  obtain ⟨h1, h2⟩ := Bool.and_eq_true_iff.mp h
  refine ⟨fun c hc => ?_, nmS_len (by unfold nmS; exact h)⟩
  have z := List.all_eq_true.mp h2 c hc
  unfold isLo at z
  exact ll c (of_decide_eq_true z)
theorem lo1 {s : Str} (h : Asc 20 s) : (Dt.tup [.str s]).loc 20 BB := by
  simp only [Dt.loc, Dt.locs, and_true]
  exact ⟨Nat.le_of_ble_eq_true rfl, h⟩
theorem lo2 {s : Str} {a : Dt} (h : Asc 20 s) (ha : a.loc 20 BB) : (Dt.tup [.str s, a]).loc 20 BB := by
  simp only [Dt.loc, Dt.locs, and_true]
  exact ⟨Nat.le_of_ble_eq_true rfl, h, ha⟩
theorem lo3 {s : Str} {a b : Dt} (h : Asc 20 s) (ha : a.loc 20 BB) (hb : b.loc 20 BB) : (Dt.tup [.str s, a, b]).loc 20 BB := by
  simp only [Dt.loc, Dt.locs, and_true]
  exact ⟨Nat.le_of_ble_eq_true rfl, h, ha, hb⟩
theorem lo_nm {n : Str} (h : nmS n = true) : (Dt.str n).loc 20 BB := by
  rw [loc_str]
  exact (asc_nm h).up (by decide)
theorem frm_ok {wd : Str} {xs : List Dt} (h1 : decide (wd = "fun") = false) (h2 : ar wd = some xs.length) (h3 : (!decide (wd = "open") || nm1 xs) = true) : frm (.tup (.str wd :: xs)) = true := by
  rw [frm_eq, h1, h2, h3]
  simp
theorem dat_two {wd : Str} {a b : Dt} (h : wd = "pair" ∨ wd = "either") (ha : dat a = true) (hb : dat b = true) : dat (.tup [.str wd, a, b]) = true := by
  rw [dat_eq]
  rcases h with rfl | rfl
  · have e : prt (.tup [.str "pair", a, b]) = [a, b] := rfl
    have e2 : frm (.tup [.str "pair", a, b]) = true := frm_ok (by decide +kernel) (show ar "pair" = some 2 by decide +kernel) (by rw [show decide (("pair" : Str) = "open") = false by decide +kernel]; rfl)
    rw [e, e2]
    simp [ha, hb]
  · have e : prt (.tup [.str "either", a, b]) = [a, b] := rfl
    have e2 : frm (.tup [.str "either", a, b]) = true := frm_ok (by decide +kernel) (show ar "either" = some 2 by decide +kernel) (by rw [show decide (("either" : Str) = "open") = false by decide +kernel]; rfl)
    rw [e, e2]
    simp [ha, hb]
theorem dat_lst {a : Dt} (ha : dat a = true) : dat (.tup [.str "list", a]) = true := by
  rw [dat_eq]
  have e : prt (.tup [.str "list", a]) = [a] := rfl
  have e2 : frm (.tup [.str "list", a]) = true := frm_ok (by decide +kernel) (show ar "list" = some 1 by decide +kernel) (by rw [show decide (("list" : Str) = "open") = false by decide +kernel]; rfl)
  rw [e, e2]
  simp [ha]
theorem dat_opn {n : Str} (h : nmS n = true) : dat (.tup [.str "open", .str n]) = true := by
  rw [dat_eq]
  have e : prt (.tup [.str "open", .str n]) = [] := rfl
  have e2 : frm (.tup [.str "open", .str n]) = true := by
    exact frm_ok (by decide +kernel) (show ar "open" = some 1 by decide +kernel) (by show (_ || nmS n) = true; rw [h, Bool.or_true])
  rw [e, e2]
  rfl
theorem dat_num : dat (.tup [.str "num"]) = true := by
  rw [dat_eq]
  have e : prt (.tup [.str "num"]) = [] := rfl
  have e2 : frm (.tup [.str "num"]) = true := by rw [frm_eq]; decide +kernel
  rw [e, e2]
  rfl
theorem dat_tru : dat (.tup [.str "truth"]) = true := by
  rw [dat_eq]
  have e : prt (.tup [.str "truth"]) = [] := rfl
  have e2 : frm (.tup [.str "truth"]) = true := by rw [frm_eq]; decide +kernel
  rw [e, e2]
  rfl
theorem wt_str (x : Str) : (Dt.str x).wt = 10 * x.length + 2 := by simp only [Dt.wt]
theorem wt_t1 (a : Dt) : (Dt.tup [a]).wt ≤ a.wt + 9 := by simp only [Dt.wt, Dt.wts]; omega
theorem wt_t2 (a b : Dt) : (Dt.tup [a, b]).wt ≤ a.wt + b.wt + 9 := by simp only [Dt.wt, Dt.wts]; omega
theorem wt_t3 (a b c : Dt) : (Dt.tup [a, b, c]).wt ≤ a.wt + b.wt + c.wt + 9 := by simp only [Dt.wt, Dt.wts]; omega
abbrev psData : List Str := ["_law_deck_here", "_law_opens", "_law_deep"]
abbrev nData : List Str := ["_law_deck_here", "_law_opens", "_law_deep", "_law_way", "_law_first"]
section
variable {P : Program} {w : World} {K : PySem.W.Frag} {mg : Str → Option Value} {base : Heap}
theorem scData : FnScope nData psData (defScope tData) := ⟨rfl, rfl, rfl, by decide +kernel, rfl, by decide +kernel, by decide +kernel⟩
def spData (n : Nat) : Sp := fun vs H Q _ => ∃ (d c o : Addr) (xs : List Str) (g : Nat), vs = [.ref d, .ref o, .int (g : Int)] ∧ g + 1 ≤ n ∧ Dk H d c ∧ H o = some (.lst (xs.map V.str)) ∧ o ≠ d ∧ o ≠ c ∧ 1 ≤ xs.length ∧ xs.length ≤ 26 ∧ (∀ x ∈ xs, nmS x = true) ∧
  ∀ (v : V) (x : Dt) (G : Hp), Kp d c H G → Dk G d c → Dd Non G x v → Kx g x → Q v G
theorem okData1 {f fD : Addr} {fd fdD : FuncData} {n : Nat} (F : Fun K "_law_data" "_law_data" tData f fd) (bF : Binds K fd psData []) (gF : mg "_law_data" = some (.ref f))
    (GD : FnOk P w K mg base CX0 (n + 2) fD fdD ["_law_deck_here", "_law_most"] spDraw) (bD : Binds K fdD ["_law_deck_here", "_law_most"] []) (gD : mg "_law_draw" = some (.ref fD)) (kD : PySem.W.keepIn K (.ref fD) = true) (ml : mg "len" = none) (mm : mg "min" = none)
    (GI : FnOk P w K mg base CX0 (n + 2) f fd psData (spData n)) : FnOk P w K mg base CX0 (n + 3) f fd psData (spData (n + 1)) := by
  refine F.ok scData (fun vs H Q E h => ?_) (fun cdv A outer s H vs Q E hr h => ?_)
  · obtain ⟨d, c, o, xs, g, rfl, _⟩ := h
    rfl
  obtain ⟨d, c, o, xs, g, rfl, hg, dk, ho, od, oc, l0, lx, hx, q⟩ := h
  refine ⟨_, pss_cons (ps_set (i := 3) scData.nd rfl (.inl rfl) (pe_call GD hr (by rfl) gD kD bD .nil pass0 (pa_cons (pv 0) (pa_cons pe_int pa_nil))))
    (pss_cons (ps_if (PW.pt (pw_or (pt_cmpR op_eq (pv 2) pe_int (nomark _)) (pw_or1 (pt_cmpR op_lt (pv 3) pe_int (nomark _)))))
      (pss_one (ps_ret (pe_ix ix_list (pe_lst (pa_cons (pe_tup (pa_cons pe_str pa_nil)) (pa_cons (pe_tup (pa_cons pe_str pa_nil)) (pa_cons (pe_tup (pa_cons pe_str (pa_cons (pe_ix ix_list (pv 1) (pe_call GD hr (by rfl) gD kD bD .nil pass0 (pa_cons (pv 0) (pa_cons (pe_callB call_len_seq (by rfl) ml PySem.boot_len (pa_cons (pv 1) pa_nil)) pa_nil))) (fun _ _ => rfl)) pa_nil))) pa_nil))))
        (pe_callB (call_min2 rfl) (by rfl) mm (by decide +kernel) (pa_cons pe_int (pa_cons (pe_call GD hr (by rfl) gD kD bD .nil pass0 (pa_cons (pv 0) (pa_cons pe_int pa_nil))) pa_nil))) (fun _ _ => rfl)))) pss_nil)
    (pss_cons (ps_if (pt_cmpR op_lt (pv 3) pe_int (nomark _))
      (pss_cons (ps_set (i := 4) scData.nd rfl (.inl rfl) (pe_call GI hr (by rfl) gF F.kp bF .nil pass0 (pa_cons (pv 0) (pa_cons (pv 1) (pa_cons (pe_op op_sub (pv 2) pe_int) pa_nil)))))
      (pss_one (ps_ret (pe_tup (pa_cons (pe_ix ix_list (pe_lst (pa_cons pe_str (pa_cons pe_str pa_nil))) (pe_op op_mod (pv 3) pe_int) (fun _ _ => rfl)) (pa_cons (pv 4) (pa_cons (pe_call GI hr (by rfl) gF F.kp bF .nil pass0 (pa_cons (pv 0) (pa_cons (pv 1) (pa_cons (pe_op op_sub (pv 2) pe_int) pa_nil)))) pa_nil))))))) pss_nil)
    (pss_one (ps_ret (pe_tup (pa_cons pe_str (pa_cons (pe_call GI hr (by rfl) gF F.kp bF .nil pass0 (pa_cons (pv 0) (pa_cons (pv 1) (pa_cons (pe_op op_sub (pv 2) pe_int) pa_nil)))) pa_nil))))))), ?_⟩
  have dg := db_ge g
  obtain ⟨w1, w2, w3, w4, w5, w6, w7⟩ := wlen
  refine ⟨_, rfl, d, c, 10, rfl, dk, by decide, by decide, fun way G1 w0 w1' kp1 dk1 => ?_⟩
  have ho1 := kp1 o _ od oc ho
  refine ⟨_, rfl, rfl, _, rfl, (fun h3 => ite2 (fun _ => iteT h3) (fun hdeep => ⟨_, rfl, _, _, rfl, rfl, _, rfl, ite2 (fun _ => h3) (fun _ => ?deep)⟩)) ?leaf⟩
  case leaf =>
    refine ⟨(by show 1 ≤ sizeLine; decide), fun p1 n1 => ⟨(by show 1 ≤ sizeLine; decide), fun p2 n2 => ?_⟩⟩
    have s1 := newS (o := .tup [.str "num"]) n1
    have s2 := newS (o := .tup [.str "truth"]) n2
    have dk2 := dk1.same (s1.trans s2)
    have ho2 := (s1.trans s2) _ _ ho1
    refine ⟨_, rfl, _, rfl, _, rfl, o, _, rfl, .inl (SqL.of ho2), d, c, _, rfl, dk2, ?_, ?_, fun r G3 r0 r1 kp3 dk3 => ?_⟩
    · rw [List.length_map]
      omega
    · rw [List.length_map]
      omega
    rw [List.length_map] at r1
    have lr : r.toNat < xs.length := by omega
    have er : r = ((r.toNat : Nat) : Int) := by omega
    have gat : atI (xs.map V.str) r = some (.str xs[r.toNat]) := by
      have z := atI_nat (xs := xs.map V.str) (j := r.toNat) (v := .str xs[r.toNat]) (by rw [List.getElem?_map, List.getElem?_eq_getElem lr]; rfl)
      rw [← er] at z
      exact z
    have hn := hx _ (List.getElem_mem lr)
    generalize xs[r.toNat] = nm at gat hn
    refine ⟨o, _, _, _, rfl, rfl, SqL.of (kp3 o _ od oc ho2), gat, (by show 2 ≤ sizeLine; decide), fun p3 n3 => ⟨(by show 3 ≤ sizeLine; decide), fun l nl => ?_⟩⟩
    have s3 := newS (o := .tup [.str "open", .str nm]) n3
    have s4 := newS (o := .lst [V.ref p1, .ref p2, .ref p3]) nl
    have dk4 := dk3.same (s3.trans s4)
    refine ⟨_, rfl, d, c, 4, rfl, dk4, by decide, by decide, fun r2 G5 a0 a1 kp5 dk5 => ?_⟩
    have tk3 := Tk.kp kp3 dk2
    have tk5 := Tk.kp kp5 dk4
    have g1 := tk5 _ _ (s4 _ _ (s3 _ _ (tk3 _ _ (s2 p1 _ upd_same))))
    have g2 := tk5 _ _ (s4 _ _ (s3 _ _ (tk3 p2 _ upd_same)))
    have g3 := tk5 _ _ (s4 p3 _ upd_same)
    have off := (dk3.same s3).off nl
    have gl := kp5 l _ off.1 off.2 upd_same
    have kpA : Kp d c H G5 := (((kp1.trans (Kp.of (s1.trans s2))).trans kp3).trans (Kp.of (s3.trans s4))).trans kp5
    refine ⟨_, _, rfl, ?_⟩
    have key : ∃ (v : V) (x : Dt), atI [V.ref p1, V.ref p2, V.ref p3] (if r2 < 2 then r2 else 2) = some v ∧ Dd Non G5 x v ∧ Kx g x := by
      by_cases h2 : r2 < 2
      · rw [if_pos h2]
        have e2 : r2 = 0 ∨ r2 = 1 := by omega
        rcases e2 with rfl | rfl
        · refine ⟨_, _, rfl, .tup g1 (.cons (.str _) .nil), dat_num, ?_, lo1 (ascLit (by decide +kernel) (by decide +kernel)), by simp only [Dt.dp, Dt.dps]; omega⟩
          have := wt_t1 (.str "num")
          rw [wt_str, w2] at this
          omega
        · refine ⟨_, _, rfl, .tup g2 (.cons (.str _) .nil), dat_tru, ?_, lo1 (ascLit (by decide +kernel) (by decide +kernel)), by simp only [Dt.dp, Dt.dps]; omega⟩
          have := wt_t1 (.str "truth")
          rw [wt_str, w3] at this
          omega
      · rw [if_neg h2]
        refine ⟨_, _, rfl, .tup g3 (.cons (.str _) (.cons (.str _) .nil)), dat_opn hn, ?_, lo2 (ascLit (by decide +kernel) (by decide +kernel)) (lo_nm hn), by simp only [Dt.dp, Dt.dps]; omega⟩
        have := wt_t2 (.str "open") (.str nm)
        rw [wt_str, wt_str, w1] at this
        have := nmS_len hn
        omega
    obtain ⟨v, x, e1, e2, e3⟩ := key
    exact ⟨l, _, _, v, rfl, rfl, SqL.of gl, e1, q v x _ kpA dk5 e2 e3⟩
  case deep =>
    obtain ⟨j, rfl⟩ : ∃ j, g = j + 1 := by
      cases g with
      | zero => exact absurd (decide_eq_true rfl) hdeep
      | succ j => exact ⟨j, rfl⟩
    have ej : ((j + 1 : Nat) : Int) - 1 = ((j : Nat) : Int) := by omega
    have eL : [V.ref d, V.ref o, V.int (((j + 1 : Nat) : Int) - 1)] = [V.ref d, V.ref o, V.int ((j : Nat) : Int)] := by rw [ej]
    have dj := db_ge j
    have edb : db (j + 1) = 2 * db j + 300 := rfl
    refine ⟨_, rfl, _, _, rfl, rfl, _, rfl, ite2 (fun hw8 => ?_) (fun _ => ?_)⟩
    · refine ⟨_, rfl, _, rfl, _, rfl, _, _, rfl, rfl, d, c, o, xs, j, eL, by omega, dk1, ho1, od, oc, l0, lx, hx, fun va a G3 kp3 dk3 ra da => ?_⟩
      refine ⟨(by show 2 ≤ sizeLine; decide), fun l nl => ?_⟩
      have sl := newS (o := .lst [V.str "pair", .str "either"]) nl
      obtain ⟨wd, hwd, hw'⟩ : ∃ wd : Str, atI [V.str "pair", V.str "either"] (way % 2) = some (.str wd) ∧ (wd = "pair" ∨ wd = "either") := by
        have e2 : way % 2 = 0 ∨ way % 2 = 1 := by omega
        rcases e2 with e | e
        · rw [e]
          exact ⟨"pair", rfl, .inl rfl⟩
        · rw [e]
          exact ⟨"either", rfl, .inr rfl⟩
      refine ⟨_, rfl, _, _, rfl, rfl, (by show (0 : Int) < 2; decide), l, _, _, _, rfl, rfl, SqL.of upd_same, hwd, _, rfl, ?_⟩
      have dk4 := dk3.same sl
      have ho4 := sl _ _ (kp3 o _ od oc ho1)
      refine ⟨_, rfl, _, rfl, _, rfl, _, _, rfl, rfl, d, c, o, xs, j, eL, by omega, dk4, ho4, od, oc, l0, lx, hx, fun vb b G5 kp5 dk5 rb db' => ?_⟩
      refine ⟨(by show 3 ≤ sizeLine; decide), fun p np => ?_⟩
      have sp := newS (o := .tup [V.str wd, va, vb]) np
      have ra5 := ((ra.same sl).kn (Kn.tk (Tk.kp kp5 dk4))).same sp
      refine q _ (.tup [.str wd, a, b]) _ (((((kp1.trans kp3).trans (Kp.of sl)).trans kp5)).trans (Kp.of sp)) (dk5.same sp) (.tup upd_same (.cons (.str _) (.cons ra5 (.cons (rb.same sp) .nil)))) ⟨dat_two hw' da.is db'.is, ?_, lo3 (by rcases hw' with rfl | rfl <;> exact ascLit (by decide +kernel) (by decide +kernel)) da.lo db'.lo, by have := da.dp; have := db'.dp; simp only [Dt.dp, Dt.dps]; omega⟩
      have h1 := wt_t3 (.str wd) a b
      have h2 := da.wt
      have h3 := db'.wt
      rw [wt_str] at h1
      have h4 : wd.length ≤ 6 := by rcases hw' with rfl | rfl <;> omega
      omega
    · refine ⟨_, rfl, _, rfl, _, rfl, _, _, rfl, rfl, d, c, o, xs, j, eL, by omega, dk1, ho1, od, oc, l0, lx, hx, fun va a G3 kp3 dk3 ra da => ?_⟩
      refine ⟨(by show 2 ≤ sizeLine; decide), fun p np => ?_⟩
      have sp := newS (o := .tup [V.str "list", va]) np
      refine q _ (.tup [.str "list", a]) _ ((kp1.trans kp3).trans (Kp.of sp)) (dk3.same sp) (.tup upd_same (.cons (.str _) (.cons (ra.same sp) .nil))) ⟨dat_lst da.is, ?_, lo2 (ascLit (by decide +kernel) (by decide +kernel)) da.lo, by have := da.dp; simp only [Dt.dp, Dt.dps]; omega⟩
      have h1 := wt_t2 (.str "list") a
      have h2 := da.wt
      rw [wt_str, w6] at h1
      omega
theorem okData {f fD : Addr} {fd fdD : FuncData} (F : Fun K "_law_data" "_law_data" tData f fd) (bF : Binds K fd psData []) (gF : mg "_law_data" = some (.ref f))
    (GD : ∀ k, FnOk P w K mg base CX0 (k + 2) fD fdD ["_law_deck_here", "_law_most"] spDraw) (bD : Binds K fdD ["_law_deck_here", "_law_most"] []) (gD : mg "_law_draw" = some (.ref fD)) (kD : PySem.W.keepIn K (.ref fD) = true) (ml : mg "len" = none) (mm : mg "min" = none) :
    ∀ n, FnOk P w K mg base CX0 (n + 2) f fd psData (spData n)
  | 0 => noFn fun vs H Q E h => by
    obtain ⟨d, c, o, xs, g, _, hg, _⟩ := h
    omega
  | n + 1 => okData1 F bF gF (GD n) bD gD kD ml mm (okData F bF gF GD bD gD kD ml mm n)
end
end Kq

namespace Kq
open PySem PySem.Spec PyProof.Rows L2 Kf Kg Kv GxR RZ
def ws8 : List Str := ["num", "open", "fun", "name", "yes", "list", "told", "fault"]
theorem ws8_ok : ∀ i : Fin 8, ((ws8.drop i.val ++ ws8.take i.val).take 4).length = 4 ∧ (∀ x ∈ (ws8.drop i.val ++ ws8.take i.val).take 4, nmS x = true) ∧ ((ws8.drop i.val ++ ws8.take i.val).take 4).Nodup := by decide +kernel
theorem cutHi (xs : List V) (n : Nat) : cutV xs none (some (n : Int)) = xs.take n := by
  unfold cutV
  rw [HT.sIx_nat, HT.sIx_none]
  show xs.take (min n xs.length) = _
  by_cases h : n ≤ xs.length
  · rw [Nat.min_eq_left h]
  · rw [Nat.min_eq_right (by omega), List.take_length, List.take_of_length_le (by omega)]
theorem cutLo (xs : List V) (n : Nat) : cutV xs (some (n : Int)) none = xs.drop n := by
  unfold cutV
  rw [HT.sIx_nat, HT.sIx_none]
  by_cases h : n ≤ xs.length
  · rw [Nat.min_eq_left h, List.take_of_length_le]
    rw [List.length_drop]
    exact Nat.le_refl _
  · rw [Nat.min_eq_right (by omega), List.drop_length, List.drop_of_length_le (by omega), List.take_nil]
/-- four unlike names -/
structure N4 (xs : List Str) : Prop where
  len : xs.length = 4
  nm : ∀ x ∈ xs, nmS x = true
  nd : xs.Nodup
section
variable {P : Program} {w : World} {K : PySem.W.Frag} {mg : Str → Option Value} {base : Heap}
abbrev psCalled : List Str := ["_law_deck_here", "_law_many"]
abbrev nCalled : List Str := ["_law_deck_here", "_law_many", "_law_words", "_law_at"]
theorem scCalled : FnScope nCalled psCalled (defScope tCalled) := ⟨rfl, rfl, rfl, by decide +kernel, rfl, by decide +kernel, by decide +kernel⟩
def spCalled : Sp := fun vs H Q _ => ∃ (d c : Addr), vs = [.ref d, .int 4] ∧ Dk H d c ∧ ∀ (l : Addr) (xs : List Str) (G : Hp), Kp d c H G → Dk G d c → H l = none → G l = some (.lst (xs.map V.str)) → N4 xs → Q (.ref l) G
theorem okCalled {f fD fN : Addr} {fd fdD fdN : FuncData} {k : Nat} (F : Fun K "_law_called" "_law_called" tCalled f fd)
    (GD : FnOk P w K mg base CX0 k fD fdD ["_law_deck_here", "_law_most"] spDraw) (bD : Binds K fdD ["_law_deck_here", "_law_most"] []) (gD : mg "_law_draw" = some (.ref fD)) (kD : PySem.W.keepIn K (.ref fD) = true)
    (GN : FnOk P w K mg base CX0 k fN fdN ["_law_deck_here", "_law_many"] spNames) (bN : Binds K fdN ["_law_deck_here", "_law_many"] []) (gN : mg "_law_names" = some (.ref fN)) (kN : PySem.W.keepIn K (.ref fN) = true) : FnOk P w K mg base CX0 (k + 1) f fd psCalled spCalled := by
  refine F.ok scCalled (fun vs H Q E h => ?_) (fun cdv A outer s H vs Q E hr h => ?_)
  · obtain ⟨d, c, rfl, _⟩ := h
    rfl
  obtain ⟨d, c, rfl, dk, q⟩ := h
  refine ⟨_, pss_cons (ps_set (i := 2) scCalled.nd rfl (.inl rfl) (pe_lst (pa_cons pe_str (pa_cons pe_str (pa_cons pe_str (pa_cons pe_str (pa_cons pe_str (pa_cons pe_str (pa_cons pe_str (pa_cons pe_str pa_nil))))))))))
    (pss_cons (ps_if (pt_cmpR op_eq (pe_call GD hr (by rfl) gD kD bD .nil pass0 (pa_cons (pv 0) (pa_cons pe_int pa_nil))) pe_int (nomark _))
      (pss_cons (ps_set (i := 3) scCalled.nd rfl (.inl rfl) (pe_call GD hr (by rfl) gD kD bD .nil pass0 (pa_cons (pv 0) (pa_cons pe_int pa_nil))))
      (pss_one (ps_ret (pe_slice sl_list (pe_op op_cat (pe_slice sl_list (pv 2) (po_some (pv 3)) po_none) (pe_slice sl_list (pv 2) po_none (po_some (pv 3)))) po_none (po_some (pv 1)))))) pss_nil)
    (pss_one (ps_ret (pe_call GN hr (by rfl) gN kN bN .nil pass0 (pa_cons (pv 0) (pa_cons (pv 1) pa_nil)))))), ?_⟩
  refine ⟨(by show 8 ≤ sizeLine; decide), fun W nW => ?_⟩
  have sW := newS (o := .lst (ws8.map V.str)) nW
  have gW : (upd H W (.lst (ws8.map V.str))) W = some (.lst (ws8.map V.str)) := upd_same
  have offW := dk.off nW
  have dk1 := dk.same sW
  refine ⟨_, rfl, d, c, 4, rfl, dk1, by decide, by decide, fun r G1 r0 r1 kp1 dk1' => ⟨rfl, _, rfl, ite2 (fun _ => ?_) (fun _ => ?_)⟩⟩
  · refine ⟨_, rfl, d, c, 8, rfl, dk1', by decide, by decide, fun at' G2 a0 a1 kp2 dk2 => ?_⟩
    have gW2 := kp2 W _ offW.1 offW.2 (kp1 W _ offW.1 offW.2 gW)
    obtain ⟨i, rfl⟩ : ∃ i : Nat, at' = (i : Int) := ⟨at'.toNat, by omega⟩
    refine ⟨_, rfl, _, rfl, (i : Int), rfl, W, _, rfl, SqL.of gW2, fun p1 n1 => ?_⟩
    have s1 := newS (o := .lst (cutV (ws8.map V.str) (some (i : Int)) none)) n1
    refine ⟨_, rfl, _, rfl, (i : Int), rfl, W, _, rfl, SqL.of (s1 _ _ gW2), fun p2 n2 => ?_⟩
    have s2 := newS (o := .lst (cutV (ws8.map V.str) none (some (i : Int)))) n2
    rw [cutLo] at s1 n2 s2
    rw [cutHi] at s2
    rw [cutLo, cutHi]
    refine ⟨p1, p2, _, _, rfl, rfl, s2 p1 _ upd_same, upd_same, ?_, fun p3 n3 => ?_⟩
    · rw [List.length_drop, List.length_take]
      exact sz (by
        have : (ws8.map V.str).length = 8 := rfl
        omega)
    have s3 := newS (o := .lst ((ws8.map V.str).drop i ++ (ws8.map V.str).take i)) n3
    refine ⟨_, rfl, ((4 : Nat) : Int), rfl, p3, _, rfl, SqL.of upd_same, fun p4 n4 => ?_⟩
    rw [cutHi]
    obtain ⟨h1, h2, h3⟩ := ws8_ok ⟨i, by omega⟩
    have s4 := newS (o := .lst (((ws8.map V.str).drop i ++ (ws8.map V.str).take i).take 4)) n4
    have sA := (s1.trans s2).trans (s3.trans s4)
    have kA : Kp d c H (upd (upd (upd (upd G2 p1 (.lst ((ws8.map V.str).drop i))) p2 (.lst ((ws8.map V.str).take i))) p3 (.lst ((ws8.map V.str).drop i ++ (ws8.map V.str).take i))) p4 (.lst (((ws8.map V.str).drop i ++ (ws8.map V.str).take i).take 4))) := (((Kp.of sW).trans kp1).trans kp2).trans (Kp.of sA)
    have nH : H p4 = none := by
      have k3 : Kp d c H (upd (upd (upd G2 p1 (.lst ((ws8.map V.str).drop i))) p2 (.lst ((ws8.map V.str).take i))) p3 (.lst ((ws8.map V.str).drop i ++ (ws8.map V.str).take i))) := (((Kp.of sW).trans kp1).trans kp2).trans (Kp.of ((s1.trans s2).trans s3))
      exact k3.free (dk2.same ((s1.trans s2).trans s3)) n4
    refine q p4 ((ws8.drop i ++ ws8.take i).take 4) _ kA (dk2.same sA) nH ?_ ⟨h1, h2, h3⟩
    rw [upd_same, List.map_take, List.map_append, List.map_drop, List.map_take]
  · refine ⟨_, rfl, _, rfl, d, c, 4, rfl, dk1', by decide, by decide, fun l xs G2 kp2 dk2 nl gl lx hx nd => ?_⟩
    have k1 : Kp d c H G1 := (Kp.of sW).trans kp1
    exact q l xs G2 (k1.trans kp2) dk2 (k1.free dk1' nl) gl ⟨lx, fun x h => nmS_of (hx x h), nd⟩
/-! _law_carried -/
abbrev psCarried : List Str := ["_law_deck_here", "_law_opens"]
abbrev nCarried : List Str := ["_law_deck_here", "_law_opens", "_law_many", "_law_found", "_law_k"]
theorem scCarried : FnScope nCarried psCarried (defScope tCarried) := ⟨rfl, rfl, rfl, by decide +kernel, rfl, by decide +kernel, by decide +kernel⟩
theorem chD_dat {x : Dt} (h : dat x = true) : chD dat x = true := by
  cases c : tagD x "fun" 2 with
  | false => rw [chD_no dat c]; exact h
  | true =>
    obtain ⟨a, b, rfl⟩ := tag_fn c
    rw [dat_fn] at h
    cases h
theorem arg_ch {x : Dt} (h : chD dat x = true) : argD x = true := by
  unfold argD fstD
  cases c : tagD x "fun" 2 with
  | false => rw [chD_no dat c] at h; rw [h]; rfl
  | true => rw [h]; simp
def spCarried : Sp := fun vs H Q _ => ∃ (d c o : Addr) (xs : List Str), vs = [.ref d, .ref o] ∧ Dk H d c ∧ H o = some (.lst (xs.map V.str)) ∧ o ≠ d ∧ o ≠ c ∧ 1 ≤ xs.length ∧ xs.length ≤ 26 ∧ (∀ x ∈ xs, nmS x = true) ∧
  ∀ (v : V) (x : Dt) (G : Hp), Kp d c H G → Dk G d c → Dd Non G x v → argD x = true → x.wt ≤ 3000 → x.loc 20 BB → x.dp ≤ 4 → Q v G
theorem okCarried {f fD fA : Addr} {fd fdD fdA : FuncData} {k : Nat} (F : Fun K "_law_carried" "_law_carried" tCarried f fd)
    (GD : FnOk P w K mg base CX0 k fD fdD ["_law_deck_here", "_law_most"] spDraw) (bD : Binds K fdD ["_law_deck_here", "_law_most"] []) (gD : mg "_law_draw" = some (.ref fD)) (kD : PySem.W.keepIn K (.ref fD) = true)
    (GA : FnOk P w K mg base CX0 k fA fdA psData (spData 4)) (bA : Binds K fdA psData []) (gA : mg "_law_data" = some (.ref fA)) (kA : PySem.W.keepIn K (.ref fA) = true) (mr : mg "range" = none) : FnOk P w K mg base CX0 (k + 1) f fd psCarried spCarried := by
  refine F.ok scCarried (fun vs H Q E h => ?_) (fun cdv A outer s H vs Q E hr h => ?_)
  · obtain ⟨d, c, o, xs, rfl, _⟩ := h
    rfl
  obtain ⟨d, c, o, xs, rfl, dk, ho, od, oc, l0, lx, hx, q⟩ := h
  refine ⟨_, pss_cons (ps_set (i := 2) scCarried.nd rfl (.inl rfl) (pe_ix ix_list (pe_lst (pa_cons pe_int (pa_cons pe_int (pa_cons pe_int (pa_cons pe_int pa_nil))))) (pe_call GD hr (by rfl) gD kD bD .nil pass0 (pa_cons (pv 0) (pa_cons pe_int pa_nil))) (fun _ _ => rfl)))
    (pss_cons (ps_set (i := 3) scCarried.nd rfl (.inl rfl) (pe_call GA hr (by rfl) gA kA bA .nil pass0 (pa_cons (pv 0) (pa_cons (pv 1) (pa_cons pe_int pa_nil)))))
    (pss_cons (ps_for PassesOwn.never rfl (pi_range1 (by rfl) mr (pa_cons (pv 2) pa_nil)) (pg_name (i := 4) scCarried.nd rfl (.inl rfl))
      (pss_one (ps_set (i := 3) scCarried.nd rfl (.inl rfl) (pe_tup (pa_cons pe_str (pa_cons (pe_call GA hr (by rfl) gA kA bA .nil pass0 (pa_cons (pv 0) (pa_cons (pv 1) (pa_cons pe_int pa_nil)))) (pa_cons (pv 3) pa_nil)))))))
    (pss_one (ps_ret (pv 3))))), ?_⟩
  refine ⟨(by show 4 ≤ sizeLine; decide), fun l nl => ?_⟩
  have sl := newS (o := .lst [.int 0, .int 0, .int 1, .int 2]) nl
  have offl := dk.off nl
  refine ⟨_, rfl, d, c, 4, rfl, dk.same sl, by decide, by decide, fun r G1 r0 r1 kp1 dk1 => ?_⟩
  obtain ⟨m, hm, hm2⟩ : ∃ m : Nat, atI [V.int 0, V.int 0, V.int 1, V.int 2] r = some (.int (m : Int)) ∧ m ≤ 2 := by
    have er : r = 0 ∨ r = 1 ∨ r = 2 ∨ r = 3 := by omega
    rcases er with rfl | rfl | rfl | rfl
    · exact ⟨0, rfl, by decide⟩
    · exact ⟨0, rfl, by decide⟩
    · exact ⟨1, rfl, by decide⟩
    · exact ⟨2, rfl, by decide⟩
  refine ⟨l, _, _, _, rfl, rfl, SqL.of (kp1 l _ offl.1 offl.2 upd_same), hm, ?_⟩
  have kpA : Kp d c H G1 := (Kp.of sl).trans kp1
  have ho1 := kpA o _ od oc ho
  have edb : db 1 = 900 := rfl
  obtain ⟨w1, w2, w3, w4, w5, w6, w7⟩ := wlen
  refine ⟨_, rfl, _, rfl, d, c, o, xs, 1, rfl, by decide, dk1, ho1, od, oc, l0, lx, hx, fun v x G2 kp2 dk2 hv kx => ?_⟩
  refine ⟨_, rfl, (m : Int), rfl, by omega, by omega, for_range (lo := 0) (n := m) (fun i σ G => ∃ y4 v x, σ = [some (.ref d), some (.ref o), some (.int (m : Int)), some v, y4] ∧ Kp d c H G ∧ Dk G d c ∧ Dd Non G x v ∧ chD dat x = true ∧ x.wt ≤ 900 + 1000 * i ∧ x.loc 20 BB ∧ x.dp ≤ 2 + i) ⟨_, v, x, rfl, kpA.trans kp2, dk2, hv, chD_dat kx.is, by have := kx.wt; omega, kx.lo, kx.dp⟩ (fun i σ G hi z => ?_) (fun σ G z => ?_)⟩
  · obtain ⟨y4, v, x, rfl, kpG, dkG, hvG, hc, hwt, hlo, hdp⟩ := z
    refine ⟨_, rfl, _, rfl, d, c, o, xs, 1, rfl, by decide, dkG, kpG o _ od oc ho, od, oc, l0, lx, hx, fun v' x' G3 kp3 dk3 hv' kx' => ?_⟩
    refine ⟨_, rfl, (by show 3 ≤ sizeLine; decide), fun p np => ?_⟩
    have sp := newS (o := .tup [V.str "fun", v', v]) np
    have hv3 := (hvG.kn (Kn.tk (Tk.kp kp3 dkG))).same sp
    refine ⟨_, _, .tup [.str "fun", x', x], rfl, (kpG.trans kp3).trans (Kp.of sp), dk3.same sp, .tup upd_same (.cons (.str _) (.cons (hv'.same sp) (.cons hv3 .nil))), ?_, ?_, lo3 (ascLit (by decide +kernel) (by decide +kernel)) kx'.lo hlo, by have := kx'.dp; simp only [Dt.dp, Dt.dps]; omega⟩
    · rw [chD_fn, kx'.is, hc]
      rfl
    · have h1 := wt_t3 (.str "fun") x' x
      have h2 := kx'.wt
      rw [wt_str, w7] at h1
      omega
  · obtain ⟨y4, v, x, rfl, kpG, dkG, hvG, hc, hwt, hlo, hdp⟩ := z
    exact ⟨_, rfl, q v x G kpG dkG hvG (arg_ch hc) (by omega) hlo (by omega)⟩
end
end Kq

/-! d.update(e), two dicts of numbers and texts -/
namespace Kc
open PySem PySem.Spec PyProof.Rows L2
theorem mergeK_le : ∀ (more kvs : List (Key × V)), (mergeK kvs more).length ≤ kvs.length + more.length
  | [], kvs => Nat.le_refl _
  | kv :: r, kvs => by
    show (mergeK (putK kvs kv.1 kv.2) r).length ≤ _
    have h1 := mergeK_le r (putK kvs kv.1 kv.2)
    have h2 := length_putK kvs kv.1 kv.2
    rw [List.length_cons]
    omega
section
variable {X : Cx}
def rUpd : V → List V → Hp → VK → Prop := fun x vs H Q => ∃ d o kvs more, x = .ref d ∧ vs = [.ref o] ∧ d ≠ o ∧ H d = some (.dK kvs) ∧ H o = some (.dK more) ∧ kvs.length + more.length ≤ sizeLine ∧ Q .non (upd H d (.dK (mergeK kvs more)))
theorem mt_update : MtR X "dict.update" rUpd := by
  intro pins s σ H x xs v us Q I rx rxs h
  obtain ⟨d, o, kvs, more, rfl, rfl, hne, hd, ho, hz, q⟩ := h
  cases rx
  obtain ⟨u, rfl, ru⟩ := rxs.one
  cases ru
  obtain ⟨z1, n1, vs1, r1, dd1⟩ := dk_of I.hok hd
  obtain ⟨z2, n2, vs2, r2, dd2⟩ := dk_of I.hok ho
  refine call_meetsIn PySem.F.slot_dict_update dd1.typeIs PySem.F.entry_dict_update (PySem.F.args_dict_update_2 _ _) (meets_dict_update (mixKind X.prog X.w) d o hne n2)
    ⟨vs1, vs2, dd1, dd2, by rw [← Paired.length r1, ← Paired.length r2]; exact hz, fun h' hm _ hs => ?_⟩
  have hm' := hm
  obtain ⟨ob, es, ep, hq, _⟩ := hm'
  have I2 : Inv X pins σ (upd H d (.dK (mergeK kvs more))) { s with heap := h' } :=
    d_write (t' := s.toks) I (by rw [hd]; exact True.intro) hs ⟨ob, hq⟩ ⟨Nat.le_trans (mergeK_le _ _) hz, n1, _, KV.merge r2 r1, hm⟩
  exact ⟨.non, _, I2, rfl, q⟩
end
end Kc

namespace Kq
open PySem PySem.Spec PyProof.Rows L2 Kf Kg Kv GxR RZ
abbrev tForms : Stmt := tp 34
def f1s : List (Str × Str) := [("name", "x"), ("num", "k"), ("truth", "b"), ("none", "d"), ("fault", "d"), ("told", "xf"), ("fun", "xat")]
def f2s : List (Str × Str) := [("call", "tt"), ("plus", "tt"), ("less", "tt"), ("if", "ttt"), ("pair", "tt"), ("first", "t")]
def f3s : List (Str × Str) := [("second", "t"), ("left", "td"), ("right", "dt"), ("case", "txtxt"), ("more", "tt"), ("alike", "tt")]
def f4s : List (Str × Str) := [("fold", "ttxxt"), ("built", "dxxxt"), ("rounds", "rtxt")]
/-- the words, with a sign for each part -/
def fkv : List (Str × Str) := ((f1s ++ f2s) ++ f3s) ++ f4s
def kvs (l : List (Str × Str)) : List (Key × V) := l.map fun p => (.inr p.1, .str p.2)
theorem mk1 : mergeK [] (kvs f1s) = kvs f1s := by decide +kernel
theorem mk2 : mergeK (kvs f1s) (mergeK [] (kvs f2s)) = kvs (f1s ++ f2s) := by decide +kernel
theorem mk3 : mergeK (kvs (f1s ++ f2s)) (mergeK [] (kvs f3s)) = kvs ((f1s ++ f2s) ++ f3s) := by decide +kernel
theorem mk4 : mergeK (kvs ((f1s ++ f2s) ++ f3s)) (mergeK [] (kvs f4s)) = kvs fkv := by decide +kernel
section
variable {P : Program} {w : World} {K : PySem.W.Frag} {mg : Str → Option Value} {base : Heap}
theorem scForms : FnScope ["_law_forms_here"] [] (defScope tForms) := ⟨rfl, rfl, rfl, by decide +kernel, rfl, by decide +kernel, by decide +kernel⟩
def spForms : Sp := fun vs H Q _ => vs = [] ∧ ∀ (d : Addr) (G : Hp), Same H G → H d = none → G d = some (.dK (kvs fkv)) → Q (.ref d) G
theorem okForms {f : Addr} {fd : FuncData} {k : Nat} (F : Fun K "_law_forms" "_law_forms" tForms f fd) : FnOk P w K mg base CX0 (k + 1) f fd [] spForms := by
  refine F.ok scForms (fun vs H Q E h => ?_) (fun cdv A outer s H vs Q E hr h => ?_)
  · obtain ⟨rfl, _⟩ := h
    rfl
  obtain ⟨rfl, q⟩ := h
  refine ⟨_, pss_cons (ps_set (i := 0) scForms.nd rfl (.inl rfl) (pe_disp (pps_cons pe_str pe_str (pps_cons pe_str pe_str (pps_cons pe_str pe_str (pps_cons pe_str pe_str (pps_cons pe_str pe_str (pps_cons pe_str pe_str (pps_cons pe_str pe_str pps_nil))))))) (by rfl) (by rfl) (fun z => by cases z) (by decide)))
    (pss_cons (ps_expr (pe_bm PySem.F.plainAttrs_dict PySem.F.slot_dict_update PySem.F.type_dict_update Kc.mt_update (pv 0) (pa_cons (pe_disp (pps_cons pe_str pe_str (pps_cons pe_str pe_str (pps_cons pe_str pe_str (pps_cons pe_str pe_str (pps_cons pe_str pe_str (pps_cons pe_str pe_str pps_nil)))))) (by rfl) (by rfl) (fun z => by cases z) (by decide)) pa_nil)))
    (pss_cons (ps_expr (pe_bm PySem.F.plainAttrs_dict PySem.F.slot_dict_update PySem.F.type_dict_update Kc.mt_update (pv 0) (pa_cons (pe_disp (pps_cons pe_str pe_str (pps_cons pe_str pe_str (pps_cons pe_str pe_str (pps_cons pe_str pe_str (pps_cons pe_str pe_str (pps_cons pe_str pe_str pps_nil)))))) (by rfl) (by rfl) (fun z => by cases z) (by decide)) pa_nil)))
    (pss_cons (ps_expr (pe_bm PySem.F.plainAttrs_dict PySem.F.slot_dict_update PySem.F.type_dict_update Kc.mt_update (pv 0) (pa_cons (pe_disp (pps_cons pe_str pe_str (pps_cons pe_str pe_str (pps_cons pe_str pe_str pps_nil))) (by rfl) (by rfl) (fun z => by cases z) (by decide)) pa_nil)))
    (pss_one (ps_ret (pv 0)))))), ?_⟩
  refine fun d nd => ⟨upd_same, kvs f1s, rfl, by decide, ?_⟩
  rw [mk1]
  have s1 : Same H (upd (upd H d (.dK [])) d (.dK (kvs f1s))) := fun b u e => by
    rw [upd_ne (ne_of_none e nd), upd_ne (ne_of_none e nd)]
    exact e
  have g1 : (upd (upd H d (.dK [])) d (.dK (kvs f1s))) d = some (.dK (kvs f1s)) := upd_same
  generalize upd (upd H d (.dK [])) d (.dK (kvs f1s)) = H1 at s1 g1
  refine ⟨_, rfl, .inr (.inr (.inl ⟨rfl, .inl ⟨_, g1⟩⟩)), fun p1 n1 => ⟨upd_same, kvs f2s, rfl, by decide, ?_⟩⟩
  have dp1 : d ≠ p1 := ne_of_none g1 n1
  refine ⟨d, p1, kvs f1s, _, rfl, rfl, dp1, by rw [upd_ne dp1, upd_ne dp1]; exact g1, upd_same, by decide +kernel, ?_⟩
  rw [mk2]
  have s2 : Same H (upd (upd (upd H1 p1 (.dK [])) p1 (.dK (mergeK [] (kvs f2s)))) d (.dK (kvs (f1s ++ f2s)))) := fun b u e => by
    rw [upd_ne (ne_of_none e nd), upd_ne (ne_of_none (s1 _ _ e) n1), upd_ne (ne_of_none (s1 _ _ e) n1)]
    exact s1 _ _ e
  have g2 : (upd (upd (upd H1 p1 (.dK [])) p1 (.dK (mergeK [] (kvs f2s)))) d (.dK (kvs (f1s ++ f2s)))) d = some (.dK (kvs (f1s ++ f2s))) := upd_same
  generalize upd (upd (upd H1 p1 (.dK [])) p1 (.dK (mergeK [] (kvs f2s)))) d (.dK (kvs (f1s ++ f2s))) = H2 at s2 g2
  refine ⟨_, rfl, .inr (.inr (.inl ⟨rfl, .inl ⟨_, g2⟩⟩)), fun p2 n2 => ⟨upd_same, kvs f3s, rfl, by decide, ?_⟩⟩
  have dp2 : d ≠ p2 := ne_of_none g2 n2
  refine ⟨d, p2, kvs (f1s ++ f2s), _, rfl, rfl, dp2, by rw [upd_ne dp2, upd_ne dp2]; exact g2, upd_same, by decide +kernel, ?_⟩
  rw [mk3]
  have s3 : Same H (upd (upd (upd H2 p2 (.dK [])) p2 (.dK (mergeK [] (kvs f3s)))) d (.dK (kvs ((f1s ++ f2s) ++ f3s)))) := fun b u e => by
    rw [upd_ne (ne_of_none e nd), upd_ne (ne_of_none (s2 _ _ e) n2), upd_ne (ne_of_none (s2 _ _ e) n2)]
    exact s2 _ _ e
  have g3 : (upd (upd (upd H2 p2 (.dK [])) p2 (.dK (mergeK [] (kvs f3s)))) d (.dK (kvs ((f1s ++ f2s) ++ f3s)))) d = some (.dK (kvs ((f1s ++ f2s) ++ f3s))) := upd_same
  generalize upd (upd (upd H2 p2 (.dK [])) p2 (.dK (mergeK [] (kvs f3s)))) d (.dK (kvs ((f1s ++ f2s) ++ f3s))) = H3 at s3 g3
  refine ⟨_, rfl, .inr (.inr (.inl ⟨rfl, .inl ⟨_, g3⟩⟩)), fun p3 n3 => ⟨upd_same, kvs f4s, rfl, by decide, ?_⟩⟩
  have dp3 : d ≠ p3 := ne_of_none g3 n3
  refine ⟨d, p3, kvs ((f1s ++ f2s) ++ f3s), _, rfl, rfl, dp3, by rw [upd_ne dp3, upd_ne dp3]; exact g3, upd_same, by decide +kernel, ?_⟩
  rw [mk4]
  have s4 : Same H (upd (upd (upd H3 p3 (.dK [])) p3 (.dK (mergeK [] (kvs f4s)))) d (.dK (kvs fkv))) := fun b u e => by
    rw [upd_ne (ne_of_none e nd), upd_ne (ne_of_none (s3 _ _ e) n3), upd_ne (ne_of_none (s3 _ _ e) n3)]
    exact s3 _ _ e
  have g4 : (upd (upd (upd H3 p3 (.dK [])) p3 (.dK (mergeK [] (kvs f4s)))) d (.dK (kvs fkv))) d = some (.dK (kvs fkv)) := upd_same
  generalize upd (upd (upd H3 p3 (.dK [])) p3 (.dK (mergeK [] (kvs f4s)))) d (.dK (kvs fkv)) = H4 at s4 g4
  exact ⟨_, rfl, q d H4 s4 nd g4⟩
end
end Kq

/-! loops over the keys of a new dict, over a text with its places; a slice of a list stored -/
namespace Kj
open PySem PySem.Spec PyProof.Rows L2 Kf Kv
/-- the dict, which nobody else holds, stays locked -/
def iKeysL (td : TE) : TI := fun σ H R => td σ H fun x H1 => ∃ d kvs, x = .ref d ∧ H1 d = some (.dK kvs) ∧ ∀ od, R (Itk d od kvs) (upd H1 d (.frz od (.dK kvs)))
theorem pi_keysL {X : Cx} {tg e : Expr} {td : TE} (he : PE X e td) : PI X tg e (iKeysL td) := by
  refine ⟨fun pins s σ H R I h => ?_⟩
  refine thn (he.run pins s σ H _ I h) fun u s1 ⟨x, H1, I1, rx, d, kvs, ex, hd, q⟩ => ?_
  subst ex
  obtain rfl : u = Value.ref d := rx
  obtain ⟨od, I2⟩ := I1.lock hd True.intro
  obtain ⟨hs, hgd, hx, es, ep, vs, hdt, hsz, kv, hm⟩ := I2.frzK upd_same
  refine iter_keys hs hgd hx hdt (pi_one (tk := s1.toks) I2 _ (turn_keys _ hdt) ⟨_, Heap.get?_push_size _ rfl, rfl, ?_⟩ (q od))
  rw [hsz] <;> rfl
theorem for_keys {d : Addr} {od : Obj} {kvs : List (Key × V)} {g : TG} {tb : TS} {D : Ends} {σ : L2.St} {H : Hp} (Pv : Nat → L2.St → Hp → Prop) (h0 : Pv 0 σ H) (hl : ∀ i σ H, Pv i σ H → H d = some (.frz od (.dK kvs)))
    (hs : ∀ i k v σ H, kvs[i]? = some (k, v) → Pv i σ H → g (kV k) σ H fun σ2 H2 => tb { D with nx := Pv (i + 1), ct := Pv (i + 1), bk := D.nx } σ2 H2) (hd : ∀ σ H, Pv kvs.length σ H → D.nx σ H) :
    ∃ W : Nat → Nat → L2.St → Hp → Prop, (∃ m, W 0 m σ H) ∧ ∀ i m σ H, W i m σ H →
      ((Itk d od kvs).stop i H ∧ D.nx σ H) ∨ ((Itk d od kvs).go i H ∧ ∃ N : L2.St → Hp → Prop, (∀ σ' H', N σ' H' → ∃ m', m' < m ∧ W (i + 1) m' σ' H') ∧ ∀ x H', (Itk d od kvs).yld i H x H' → g x σ H' fun σ2 H2 => tb { D with nx := N, ct := N, bk := D.nx } σ2 H2) := by
  refine ⟨fun i m σ H => m = kvs.length - i ∧ i ≤ kvs.length ∧ Pv i σ H, ⟨kvs.length, by simp, Nat.zero_le _, h0⟩, ?_⟩
  rintro i m σ H ⟨rfl, hi, p⟩
  have q := hl i σ H p
  by_cases hlt : i < kvs.length
  · refine .inr ⟨⟨q, hlt⟩, Pv (i + 1), fun σ' H' p' => ⟨kvs.length - (i + 1), by omega, rfl, hlt, p'⟩, fun x H' y => ?_⟩
    obtain ⟨e, k, v, hk, rfl⟩ := y
    subst e
    exact hs i k v σ _ hk p
  · have e : i = kvs.length := by omega
    subst e
    exact .inl ⟨⟨q, Nat.le_refl _⟩, hd σ H p⟩
theorem for_str {x : Str} {g : TG} {tb : TS} {D : Ends} {σ : L2.St} {H : Hp} (Pv : Nat → L2.St → Hp → Prop) (h0 : Pv 0 σ H)
    (hs : ∀ i c σ H, x.cps.toList[i]? = some c → Pv i σ H → g (.str ⟨#[c]⟩) σ H fun σ2 H2 => tb { D with nx := Pv (i + 1), ct := Pv (i + 1), bk := D.nx } σ2 H2) (hd : ∀ σ H, Pv x.cps.toList.length σ H → D.nx σ H) :
    ∃ W : Nat → Nat → L2.St → Hp → Prop, (∃ m, W 0 m σ H) ∧ ∀ i m σ H, W i m σ H →
      ((Its x).stop i H ∧ D.nx σ H) ∨ ((Its x).go i H ∧ ∃ N : L2.St → Hp → Prop, (∀ σ' H', N σ' H' → ∃ m', m' < m ∧ W (i + 1) m' σ' H') ∧ ∀ v H', (Its x).yld i H v H' → g v σ H' fun σ2 H2 => tb { D with nx := N, ct := N, bk := D.nx } σ2 H2) := by
  have el : x.cps.toList.length = x.cps.size := Array.length_toList
  refine ⟨fun i m σ H => m = x.cps.size - i ∧ i ≤ x.cps.size ∧ Pv i σ H, ⟨x.cps.size, by simp, Nat.zero_le _, h0⟩, ?_⟩
  rintro i m σ H ⟨rfl, hi, p⟩
  by_cases hlt : i < x.cps.size
  · refine .inr ⟨hlt, Pv (i + 1), fun σ' H' p' => ⟨x.cps.size - (i + 1), by omega, rfl, hlt, p'⟩, fun v H' y => ?_⟩
    obtain ⟨e, c, hc, rfl⟩ := y
    subst e
    exact hs i c σ _ (by rw [Array.getElem?_toList]; exact hc) p
  · have e : i = x.cps.size := by omega
    subst e
    exact .inl ⟨Nat.le_refl _, hd σ H (by rw [el]; exact p)⟩
/-! enumerate of a text -/
def IteS (x : Str) : It where
  go := fun i _ => i < x.cps.size
  yld := fun i H v G => ∃ T c, v = .ref T ∧ H T = none ∧ x.cps[i]? = some c ∧ G = upd H T (.tup [.int (i : Nat), .str ⟨#[c]⟩])
  stop := fun i _ => x.cps.size ≤ i
theorem turn_enumS {P : Program} {w : World} {K : PySem.W.Frag} {elts : List Expr} {kk : Nat} {tpos : Pos} (x : Str) (t : Tok) (e it : Addr) :
    Turn P w K (.Tuple elts kk tpos) (IteS x) [e, it] e (fun i h => (∃ old, IsEnum h e it ((i : Nat) : Int) old) ∧ h.IsStrIter it (strIterType x) x t i ∧ e ≠ it ∧ i ≤ x.cps.size) where
  mem := by simp
  obj := by
    intro i h st b hb
    obtain ⟨⟨old, he⟩, ⟨o, ho, hc, hd⟩, _⟩ := st
    rcases (by simpa using hb : b = e ∨ b = it) with rfl | rfl
    · exact ⟨_, he, fun v q => nomatch q⟩
    · exact ⟨o, ho, fun v q => by rw [hd] at q; cases q⟩
  keep := fun i h h' st k => let ⟨⟨old, he⟩, ⟨o, ho, r⟩, hne, hl⟩ := st; ⟨⟨old, k e (by simp) _ he⟩, ⟨o, k it (by simp) o ho, r⟩, hne, hl⟩
  item := by
    intro X hP hw hK hc i pins s σ H E I hf st hg
    subst hP hw hK
    obtain ⟨⟨old, he⟩, hit, hne, hle⟩ := st
    have lt : i < x.cps.size := hg
    have hel : e < s.heap.objs.size := Heap.lt_size he
    have hil : it < s.heap.objs.size := by obtain ⟨_, q, _⟩ := hit; exact Heap.lt_size q
    refine wpAny_pyNext_enum_itemD (Draws.text (A := X.A.in1) (I.ok.hd hc) it x t) he hit lt hne (by simp [hne]) ?_
    intro u' h1 tk hu' ho hst hT hsz hk
    obtain ⟨c, u, hcx, rfl⟩ := hu'
    refine ⟨_, rfl, wpAny_letOwnedTupleGo_enum (s := { s with heap := h1, toks := tk + 1 }) ho ?_⟩
    intro h2 he' sb
    have hT2 : h2.get? s.heap.objs.size = some { cls := .type "tuple", data := .seq #[.int i tk, .str ⟨#[c]⟩ u] } := (sb.2 _ (Nat.ne_of_gt hel)).trans hT
    have new : ObjOk X.prog X.w (upd H s.heap.objs.size (.tup [.int (i : Nat), .str ⟨#[c]⟩])) h2 s.heap.objs.size (.tup [.int (i : Nat), .str ⟨#[c]⟩]) := ⟨by show 2 ≤ sizeLine; decide, [.int i tk, .str ⟨#[c]⟩ u], .cons ⟨_, rfl⟩ (.cons ⟨_, rfl⟩ .nil), ⟨_, hT2, rfl, _, rfl⟩⟩
    have J : Inv X pins σ (upd H s.heap.objs.size (.tup [.int (i : Nat), .str ⟨#[c]⟩])) { s with heap := h2, toks := tk + 1 } :=
      I.turnedNew (ch := [e, it]) (fun b ob hb q => (sb.2 b (fun z => hb (by simp [z]))).trans (hk b ob (fun z => hb (by simp [z])) (fun z => hb (by simp [z])) q)) hf (Nat.le_refl _) new
    refine ⟨.ref s.heap.objs.size, _, J, rfl, ⟨_, c, rfl, I.hok.fresh (Nat.le_refl _), hcx, rfl⟩, ⟨⟨.str ⟨#[c]⟩ u, ?_⟩, ?_, hne, lt⟩, fun b hb => ?_⟩
    · rw [show ((i + 1 : Nat) : Int) = (i : Int) + 1 by omega]
      exact he'
    · obtain ⟨o, ho, r⟩ := hst
      exact ⟨o, (sb.2 it (Ne.symm hne)).trans ho, r⟩
    · have lb : b < s.heap.objs.size := by
        rcases (by simpa using hb : b = e ∨ b = it) with rfl | rfl
        · exact hel
        · exact hil
      rw [upd_ne (Nat.ne_of_lt lb)]
      exact (hf b hb).1
  done := by
    intro X hP hw hK hc i pins s σ H E I hf st hg
    subst hP hw hK
    obtain ⟨⟨old, he⟩, hit, hne, hle⟩ := st
    have e0 : i = x.cps.size := Nat.le_antisymm hle hg
    subst e0
    obtain ⟨f0, f1, f2, f3, f4, f5⟩ := hf it (by simp)
    exact wpAny_pyNext_enum_endD (Draws.text (A := X.A.in1) (I.ok.hd hc) it x t) he hit fun h1 eb => ⟨rfl, I.turned (t' := s.toks) (fun b o hb q => eb b o hb q) f0 f1 f3 f4 f5⟩
  self := fun A i s Q E st h => let ⟨⟨_, he⟩, _⟩ := st; wpAny_pyIter_enum he h
def iEnumS (ta : TA) : TI := fun σ H R => ta σ H fun vs G => ∃ x : Str, vs = [.str x] ∧ R (IteS x) G
theorem pi_enumS {X : Cx} {e : Expr} {ta : TA} {p pos tpos : Pos} {elts : List Expr} {kk : Nat} (hg : Gl X "enumerate") (hm : X.mg "enumerate" = none) (ha : PA X [e] ta) (hs : starEach [e] X.env = [(false, eval e X.env)] := by rfl) :
    PI X (.Tuple elts kk tpos) (.Call (.Name "enumerate" p) [e] [] pos) (iEnumS ta) := by
  constructor
  intro pins s σ H R I h
  refine Call_ (ld_blt I hg hm boot_enumerate (PyProof.Rows.callWith_type1 (thn (ha.run pos pins s σ H _ I h) ?_) hs rfl))
  rintro us s1 ⟨vs, G, J, r, x, rfl, q⟩
  obtain ⟨u, rfl, ru⟩ := r.one
  obtain ⟨t, rfl⟩ := ru
  refine call_enumerate_str fun h' he hit hsz hk => wpAny_pyIter_enum he ?_
  have J2 : Inv X pins σ G { s1 with heap := h' } := J.kept (t' := s1.toks) hk
  refine ⟨s1.heap.objs.size + 1, [s1.heap.objs.size + 1, s1.heap.objs.size], _, _, G, rfl, J2, turn_enumS x t (s1.heap.objs.size + 1) s1.heap.objs.size, ⟨⟨.none, he⟩, hit, Nat.succ_ne_self _, Nat.zero_le _⟩, fun b hb => ?_, q⟩
  have le : s1.heap.objs.size ≤ b := by
    rcases (by simpa using hb : b = s1.heap.objs.size + 1 ∨ b = s1.heap.objs.size) with rfl | rfl
    · exact Nat.le_add_right _ _
    · exact Nat.le_refl _
  exact J.fpOk le (J.hok.fresh le)
theorem for_enumS {x : Str} {g : TG} {tb : TS} {D : Ends} {σ : L2.St} {H : Hp} (Pv : Nat → L2.St → Hp → Prop) (h0 : Pv 0 σ H)
    (hs : ∀ i c T σ H, x.cps.toList[i]? = some c → Pv i σ H → H T = none → g (.ref T) σ (upd H T (.tup [.int (i : Nat), .str ⟨#[c]⟩])) fun σ2 H2 => tb { D with nx := Pv (i + 1), ct := Pv (i + 1), bk := D.nx } σ2 H2) (hd : ∀ σ H, Pv x.cps.toList.length σ H → D.nx σ H) :
    ∃ W : Nat → Nat → L2.St → Hp → Prop, (∃ m, W 0 m σ H) ∧ ∀ i m σ H, W i m σ H →
      ((IteS x).stop i H ∧ D.nx σ H) ∨ ((IteS x).go i H ∧ ∃ N : L2.St → Hp → Prop, (∀ σ' H', N σ' H' → ∃ m', m' < m ∧ W (i + 1) m' σ' H') ∧ ∀ v H', (IteS x).yld i H v H' → g v σ H' fun σ2 H2 => tb { D with nx := N, ct := N, bk := D.nx } σ2 H2) := by
  have el : x.cps.toList.length = x.cps.size := Array.length_toList
  refine ⟨fun i m σ H => m = x.cps.size - i ∧ i ≤ x.cps.size ∧ Pv i σ H, ⟨x.cps.size, by simp, Nat.zero_le _, h0⟩, ?_⟩
  rintro i m σ H ⟨rfl, hi, p⟩
  by_cases hlt : i < x.cps.size
  · refine .inr ⟨hlt, Pv (i + 1), fun σ' H' p' => ⟨x.cps.size - (i + 1), by omega, rfl, hlt, p'⟩, fun v H' y => ?_⟩
    obtain ⟨T, c, rfl, hT, hc, rfl⟩ := y
    exact hs i c T σ _ (by rw [Array.getElem?_toList]; exact hc) p hT
  · have e : i = x.cps.size := by omega
    subst e
    exact .inl ⟨Nat.le_refl _, hd σ H (by rw [el]; exact p)⟩
/-! xs[a:c] = ys -/
def gSlc (to : TE) (tl th : TO) : TG := fun v σ H Q => to σ H fun o H1 => tl σ H1 fun l H2 => th σ H2 fun u H3 => ∃ (a c : Int) (p q : Addr) (xs ys : List V), o = .ref p ∧ v = .ref q ∧ l = some a ∧ u = some c ∧ H3 p = some (.lst xs) ∧ H3 q = some (.lst ys) ∧ p ≠ q ∧ 0 ≤ a ∧ a ≤ c ∧ c ≤ xs.length ∧ xs.length + ys.length ≤ sizeLine ∧ Q σ (upd H3 p (.lst (xs.take a.toNat ++ ys ++ xs.drop c.toNat)))
theorem pg_slc {X : Cx} {o : Expr} {lo hi : Option Expr} {p2 pos : Pos} {to : TE} {tl th : TO} (ho : PE X o to) (hl : PO X lo tl) (hh : PO X hi th) : PG X (.Subscript o (.Slice lo hi none p2) pos) (gSlc to tl th) := by
  refine ⟨fun pins s σ H v u Q I r h => ?_⟩
  rw [PySem.assign_Subscript]
  refine wpAny_bind (wpAny_holding (thn (ho.run pins s σ H _ I h) fun ov s1 ⟨x, H1, I1, r1, q1⟩ => ?_))
  refine wpAny_bind (wpAny_holding (wpAny_Slice (thn (hl.run pins s1 σ H1 _ I1 q1) fun vl s2 ⟨l, H2, I2, pl, q2⟩ => thn (hh.run pins s2 σ H2 _ I2 q2) fun vu s3 ⟨u', H3, I3, pu, q3⟩ => ?_)))
  rw [evalPart_none]
  refine wpAny_pure ?_
  obtain ⟨a, c, p, q, xs, ys, rfl, rfl, rfl, rfl, hp, hq, hne, h0, h1, h2, hz, hQ⟩ := q3
  have I4 : Inv X pins σ H3 { s3 with heap := s3.heap.push { cls := .type "slice", data := .fields #[vl, vu, .none] } } := I3.kept (t' := s3.toks) fun b ob q => Heap.get?_push_of_some _ q
  cases r1
  cases r
  cases pl
  cases pu
  refine wpAny_bind (wpAny_standAt (wpAny_bind (wpAny_holding (set_slice I4 hp hq hne (Heap.IsSliceOf.new ..) ⟨_, rfl⟩ ⟨_, rfl⟩ h0 h1 h2 hz fun s' I5 => ?_))))
  exact wpAny_release ⟨σ, _, I5, hQ⟩
end Kj

namespace Kq
open PySem PySem.Spec PyProof.Rows L2 Kf Kg Kv GxR RZ
abbrev tLeaf : Stmt := tp 35
/-- the role of a sign -/
def rl (s : Nat) : Str := if s = 120 then "name" else if s = 100 then "data" else if s = 97 then "argument" else if s = 98 then "truth" else if s = 114 then "turns" else if s = 107 then "number" else if s = 102 then "fills" else "term"
theorem fit_name (x : Dt) : fitD "name" x = nmD x := if_pos rfl
theorem fit_num (x : Dt) : fitD "number" x = numD x := by
  unfold fitD
  rw [if_neg (by decide +kernel), if_pos rfl]
theorem fit_tru (x : Dt) : fitD "truth" x = x.isBl := by
  unfold fitD
  rw [if_neg (by decide +kernel), if_neg (by decide +kernel), if_pos rfl]
theorem fit_trn (x : Dt) : fitD "turns" x = trnD x := by
  unfold fitD
  rw [if_neg (by decide +kernel), if_neg (by decide +kernel), if_neg (by decide +kernel), if_pos rfl]
theorem fit_dat (x : Dt) : fitD "data" x = dat x := by
  unfold fitD
  rw [if_neg (by decide +kernel), if_neg (by decide +kernel), if_neg (by decide +kernel), if_neg (by decide +kernel), if_pos rfl]
theorem fit_arg (x : Dt) : fitD "argument" x = argD x := by
  unfold fitD
  rw [if_neg (by decide +kernel), if_neg (by decide +kernel), if_neg (by decide +kernel), if_neg (by decide +kernel), if_neg (by decide +kernel), if_pos rfl]
theorem fit_fil (x : Dt) : fitD "fills" x = filD x := by
  unfold fitD
  rw [if_neg (by decide +kernel), if_neg (by decide +kernel), if_neg (by decide +kernel), if_neg (by decide +kernel), if_neg (by decide +kernel), if_neg (by decide +kernel), show decide (("fills" : Str) = "term") = false by decide +kernel, Bool.false_or]
theorem fit_trm (x : Dt) : fitD "term" x = true := by
  unfold fitD
  rw [if_neg (by decide +kernel), if_neg (by decide +kernel), if_neg (by decide +kernel), if_neg (by decide +kernel), if_neg (by decide +kernel), if_neg (by decide +kernel), show decide (("term" : Str) = "term") = true by decide +kernel, Bool.true_or]
theorem sgn {c k : Nat} {z : Str} (hz : z = ⟨#[k]⟩) (e : decide (V.str ⟨#[c]⟩ = V.str z) = true) : c = k := by
  subst hz
  have h := V.str.inj (of_decide_eq_true e)
  have h2 : (#[c] : Array Nat) = #[k] := congrArg Str.cps h
  have h3 := congrArg (fun a : Array Nat => a[0]?) h2
  exact Option.some.inj h3
theorem nsgn {c k : Nat} {z : Str} (hz : z = ⟨#[k]⟩) (e : ¬ decide (V.str ⟨#[c]⟩ = V.str z) = true) : c ≠ k := fun h => by
  subst h
  exact e (decide_eq_true (by rw [hz]))
theorem rise2 : ∀ {ys : List Str}, sortedS ys = true → ys.Nodup → rising ys = true
  | [], _, _ => rfl
  | [_], _, _ => rfl
  | p :: x :: r, h, nd => by
    have h' : (!ltCps x.cps.toList p.cps.toList) = true ∧ risingS x r = true := by
      simpa [sortedS, risingS] using h
    have px : p.cps.toList ≤ x.cps.toList := by
      have z := h'.1
      rw [ltCps_eq] at z
      exact List.not_lt.mp (by simpa using z)
    refine Bool.and_eq_true_iff.mpr ⟨decide_eq_true ?_, rise2 (ys := x :: r) h'.2 (List.nodup_cons.mp nd).2⟩
    refine Decidable.byContradiction fun hn => ?_
    have le := List.le_antisymm px (List.not_lt.mp hn)
    obtain ⟨pc⟩ := p
    obtain ⟨xc⟩ := x
    have e : pc = xc := Array.toList_inj.mp le
    exact (List.nodup_cons.mp nd).1 (by rw [e]; exact List.mem_cons_self)
theorem rise_take {ys : List Str} (h : rising ys = true) (n : Nat) : rising (ys.take n) = true := by
  refine rising_of fun i x y e1 e2 => ?_
  rw [List.getElem?_take] at e1 e2
  split at e1
  · split at e2
    · exact rising_at h e1 e2
    · cases e2
  · cases e1
theorem wts_app2 (xs ys : List Dt) : Dt.wts (xs ++ ys) = Dt.wts xs + Dt.wts ys := wts_app xs ys
section
variable {P : Program} {w : World} {K : PySem.W.Frag} {mg : Str → Option Value} {base : Heap}
abbrev psLeaf : List Str := ["_law_deck_here", "_law_sign", "_law_names_here"]
abbrev nLeaf : List Str := ["_law_deck_here", "_law_sign", "_law_names_here", "_law_some", "_law_name"]
theorem scLeaf : FnScope nLeaf psLeaf (defScope tLeaf) := ⟨rfl, rfl, rfl, by decide +kernel, rfl, by decide +kernel, by decide +kernel⟩
def sig7 : List Nat := [120, 100, 97, 98, 114, 107, 102]
def spLeaf : Sp := fun vs H Q _ => ∃ (d c o : Addr) (xs : List Str) (s : Nat), vs = [.ref d, .str ⟨#[s]⟩, .ref o] ∧ s ∈ sig7 ∧ Dk H d c ∧ H o = some (.lst (xs.map V.str)) ∧ o ≠ d ∧ o ≠ c ∧ N4 xs ∧
  ∀ (v : V) (x : Dt) (G : Hp), Kp d c H G → Dk G d c → Dd Non G x v → fitD (rl s) x = true → (s = 120 → ∃ n ∈ xs, x = .str n) → x.wt ≤ 5000 → x.loc 20 BB → x.dp ≤ 5 → Q v G
theorem okLeaf {f fD fA fC : Addr} {fd fdD fdA fdC : FuncData} {k : Nat} (F : Fun K "_law_leaf" "_law_leaf" tLeaf f fd)
    (GD : FnOk P w K mg base CX0 k fD fdD ["_law_deck_here", "_law_most"] spDraw) (bD : Binds K fdD ["_law_deck_here", "_law_most"] []) (gD : mg "_law_draw" = some (.ref fD)) (kD : PySem.W.keepIn K (.ref fD) = true)
    (GA : FnOk P w K mg base CX0 k fA fdA psData (spData 4)) (bA : Binds K fdA psData []) (gA : mg "_law_data" = some (.ref fA)) (kA : PySem.W.keepIn K (.ref fA) = true)
    (GC : FnOk P w K mg base CX0 k fC fdC psCarried spCarried) (bC : Binds K fdC psCarried []) (gC : mg "_law_carried" = some (.ref fC)) (kC : PySem.W.keepIn K (.ref fC) = true)
    (ml : mg "len" = none) (ms : mg "sorted" = none) (mt : mg "tuple" = none) : FnOk P w K mg base CX0 (k + 1) f fd psLeaf spLeaf := by
  refine F.ok scLeaf (fun vs H Q E h => ?_) (fun cdv A outer s H vs Q E hr h => ?_)
  · obtain ⟨d, c, o, xs, s, rfl, _⟩ := h
    rfl
  obtain ⟨d, c, o, xs, s, rfl, hs, dk, ho, od, oc, n4, q⟩ := h
  refine ⟨_, pss_cons (ps_if (pt_cmpR op_eq (pv 1) pe_str (nomark _)) (pss_one (ps_ret (pe_ix ix_list (pv 2) (pe_call GD hr (by rfl) gD kD bD .nil pass0 (pa_cons (pv 0) (pa_cons (pe_callB call_len_seq (by rfl) ml PySem.boot_len (pa_cons (pv 2) pa_nil)) pa_nil))) (fun _ _ => rfl)))) pss_nil)
    (pss_cons (ps_if (pt_cmpR op_eq (pv 1) pe_str (nomark _)) (pss_one (ps_ret (pe_call GA hr (by rfl) gA kA bA .nil pass0 (pa_cons (pv 0) (pa_cons (pv 2) (pa_cons (pe_op op_add pe_int (pe_call GD hr (by rfl) gD kD bD .nil pass0 (pa_cons (pv 0) (pa_cons pe_int pa_nil)))) pa_nil)))))) pss_nil)
    (pss_cons (ps_if (pt_cmpR op_eq (pv 1) pe_str (nomark _)) (pss_one (ps_ret (pe_call GC hr (by rfl) gC kC bC .nil pass0 (pa_cons (pv 0) (pa_cons (pv 2) pa_nil))))) pss_nil)
    (pss_cons (ps_if (pt_cmpR op_eq (pv 1) pe_str (nomark _)) (pss_one (ps_ret (pe_cmpR op_eq (pe_call GD hr (by rfl) gD kD bD .nil pass0 (pa_cons (pv 0) (pa_cons pe_int pa_nil))) pe_int (nomark _)))) pss_nil)
    (pss_cons (ps_if (pt_cmpR op_eq (pv 1) pe_str (nomark _)) (pss_one (ps_ret (pe_ix ix_list (pe_lst (pa_cons pe_int (pa_cons pe_int (pa_cons pe_int (pa_cons (pe_op op_add pe_int (pe_call GD hr (by rfl) gD kD bD .nil pass0 (pa_cons (pv 0) (pa_cons pe_int pa_nil)))) pa_nil))))) (pe_call GD hr (by rfl) gD kD bD .nil pass0 (pa_cons (pv 0) (pa_cons pe_int pa_nil))) (fun _ _ => rfl)))) pss_nil)
    (pss_cons (ps_if (pt_cmpR op_eq (pv 1) pe_str (nomark _)) (pss_one (ps_ret (pe_ix ix_list (pe_lst (pa_cons pe_int (pa_cons pe_int (pa_cons pe_int (pa_cons (pe_call GD hr (by rfl) gD kD bD .nil pass0 (pa_cons (pv 0) (pa_cons (pe_op op_add (pe_op op_pow pe_int pe_int) pe_int) pa_nil))) pa_nil))))) (pe_call GD hr (by rfl) gD kD bD .nil pass0 (pa_cons (pv 0) (pa_cons pe_int pa_nil))) (fun _ _ => rfl)))) pss_nil)
    (pss_cons (ps_set (i := 3) scLeaf.nd rfl (.inl rfl) (pe_slice sl_list (pe_callB cr_sortedS (by rfl) ms PyProof.Rows.boot_sorted (pa_cons (pv 2) pa_nil)) po_none (po_some (pe_call GD hr (by rfl) gD kD bD .nil pass0 (pa_cons (pv 0) (pa_cons (pe_op op_add (pe_callB call_len_seq (by rfl) ml PySem.boot_len (pa_cons (pv 2) pa_nil)) pe_int) pa_nil))))))
    (pss_one (ps_ret (pe_callTy call_tuple_of (by rfl) mt PyProof.Rows.boot_tuple (pa_cons (pe_lc (own := [("_law_name", 4)]) (g := gName 4) (by rfl) scLeaf.nd (pi_list (pv 3)) (blkOk_by (own := [("_law_name", 4)]) (N := nLeaf) (sc := defScope tLeaf) (by decide +kernel))
        (fun _ _ _ _ _ => pg_name (i := 4) scLeaf.nd rfl (.inl rfl)) (fun _ _ _ _ _ => pts_nil)
        (fun _ _ _ _ _ => pe_tup (pa_cons (pv 4) (pa_cons (pe_call GA hr (by rfl) gA kA bA .nil pass0 (pa_cons (pv 0) (pa_cons (pv 2) (pa_cons pe_int pa_nil)))) pa_nil)))) pa_nil)))))))))), ?_⟩
  have l4 := n4.len
  have hlm : (xs.map V.str).length = 4 := by rw [List.length_map]; exact l4
  have hn : ∀ x ∈ xs, nmS x = true := n4.nm
  have db1 : db 1 = 900 := rfl
  have db2 : db 2 = 2100 := rfl
  -- x
  refine ⟨_, rfl, rfl, _, rfl, ite2 (fun e => ?_) (fun e1 => ?_)⟩
  · have e := sgn (k := 120) (by decide +kernel) e
    subst e
    refine ⟨_, rfl, _, rfl, _, rfl, o, _, rfl, .inl (SqL.of ho), d, c, _, rfl, dk, by omega, by omega, fun r G r0 r1 kp dk' => ?_⟩
    have lr : r.toNat < xs.length := by omega
    have er : r = ((r.toNat : Nat) : Int) := by omega
    have gat : atI (xs.map V.str) r = some (.str xs[r.toNat]) := by
      have z := atI_nat (xs := xs.map V.str) (j := r.toNat) (v := .str xs[r.toNat]) (by rw [List.getElem?_map, List.getElem?_eq_getElem lr]; rfl)
      rw [← er] at z
      exact z
    have hm := List.getElem_mem lr
    have hn := hn _ hm
    refine ⟨o, _, _, _, rfl, rfl, SqL.of (kp o _ od oc ho), gat, q _ (.str _) G kp dk' (.str _) ?_ (fun _ => ⟨_, hm, rfl⟩) ?_ (lo_nm hn) (by rw [dp_str]; omega)⟩
    · show fitD "name" _ = true
      rw [fit_name]
      exact hn
    · rw [wt_str]
      have := nmS_len hn
      omega
  -- d
  refine ⟨_, rfl, rfl, _, rfl, ite2 (fun e => ?_) (fun e2 => ?_)⟩
  · have e := sgn (k := 100) (by decide +kernel) e
    subst e
    refine ⟨_, rfl, _, rfl, _, rfl, d, c, 2, rfl, dk, by decide, by decide, fun r G1 r0 r1 kp1 dk1 => ⟨_, _, rfl, rfl, ?_⟩⟩
    have e1 : (1 : Int) + r = ((r.toNat + 1 : Nat) : Int) := by omega
    have eL : [V.ref d, V.ref o, V.int (1 + r)] = [V.ref d, V.ref o, V.int ((r.toNat + 1 : Nat) : Int)] := by rw [e1]
    refine ⟨d, c, o, xs, r.toNat + 1, eL, by omega, dk1, kp1 o _ od oc ho, od, oc, by omega, by omega, hn, fun v x G2 kp2 dk2 hv kx => ?_⟩
    refine q v x G2 (kp1.trans kp2) dk2 hv ?_ (fun z => by cases z) ?_ kx.lo (by have := kx.dp; omega)
    · show fitD "data" _ = true
      rw [fit_dat]
      exact kx.is
    · have h := kx.wt
      rcases (by omega : r.toNat = 0 ∨ r.toNat = 1) with z | z
      · rw [z] at h
        have : db (0 + 1) = 900 := rfl
        omega
      · rw [z] at h
        have : db (1 + 1) = 2100 := rfl
        omega
  -- a
  refine ⟨_, rfl, rfl, _, rfl, ite2 (fun e => ?_) (fun e3 => ?_)⟩
  · have e := sgn (k := 97) (by decide +kernel) e
    subst e
    refine ⟨_, rfl, _, rfl, d, c, o, xs, rfl, dk, ho, od, oc, by omega, by omega, hn, fun v x G kp dk' hv hx hw hlo hdp => ?_⟩
    refine q v x G kp dk' hv ?_ (fun z => by cases z) (by omega) hlo (by omega)
    show fitD "argument" _ = true
    rw [fit_arg]
    exact hx
  -- b
  refine ⟨_, rfl, rfl, _, rfl, ite2 (fun e => ?_) (fun e4 => ?_)⟩
  · have e := sgn (k := 98) (by decide +kernel) e
    subst e
    refine ⟨_, rfl, d, c, 2, rfl, dk, by decide, by decide, fun r G1 r0 r1 kp1 dk1 => ⟨rfl, q _ (.bl _) G1 kp1 dk1 (.bl _) ?_ (fun z => by cases z) ?_ (by simp only [Dt.loc]) (by simp only [Dt.dp]; omega)⟩⟩
    · show fitD "truth" _ = true
      rw [fit_tru]
      rfl
    · simp only [Dt.wt]
      omega
  -- r
  refine ⟨_, rfl, rfl, _, rfl, ite2 (fun e => ?_) (fun e5 => ?_)⟩
  · have e := sgn (k := 114) (by decide +kernel) e
    subst e
    refine ⟨_, rfl, d, c, 30, rfl, dk, by decide, by decide, fun r G1 r0 r1 kp1 dk1 => ⟨_, _, rfl, rfl, (by show 4 ≤ sizeLine; decide), fun l nl => ?_⟩⟩
    have sl := newS (o := .lst [.int 1, .int 2, .int 30, .int (1 + r)]) nl
    have offl := dk1.off nl
    refine ⟨_, rfl, d, c, 4, rfl, dk1.same sl, by decide, by decide, fun r2 G2 a0 a1 kp2 dk2 => ?_⟩
    obtain ⟨m, hm, hm1, hm2⟩ : ∃ m : Int, atI [V.int 1, V.int 2, V.int 30, V.int (1 + r)] r2 = some (.int m) ∧ 1 ≤ m ∧ m ≤ 30 := by
      have er : r2 = 0 ∨ r2 = 1 ∨ r2 = 2 ∨ r2 = 3 := by omega
      rcases er with rfl | rfl | rfl | rfl
      · exact ⟨1, rfl, by decide, by decide⟩
      · exact ⟨2, rfl, by decide, by decide⟩
      · exact ⟨30, rfl, by decide, by decide⟩
      · exact ⟨1 + r, rfl, by omega, by omega⟩
    refine ⟨l, _, _, _, rfl, rfl, SqL.of (kp2 l _ offl.1 offl.2 upd_same), hm, q _ (.int m) G2 ((kp1.trans (Kp.of sl)).trans kp2) dk2 (.int m) ?_ (fun z => by cases z) ?_ (by rw [loc_int]; show _ < 1000100; omega) (by simp only [Dt.dp]; omega)⟩
    · show fitD "turns" _ = true
      rw [fit_trn]
      show (decide (1 ≤ m) && decide (m ≤ 30)) = true
      rw [decide_eq_true hm1, decide_eq_true hm2]
      rfl
    · simp only [Dt.wt]
      omega
  -- k
  refine ⟨_, rfl, rfl, _, rfl, ite2 (fun e => ?_) (fun e6 => ?_)⟩
  · have e := sgn (k := 107) (by decide +kernel) e
    subst e
    refine ⟨_, rfl, _, _, rfl, rfl, ⟨by decide, by decide, by decide⟩, _, _, rfl, rfl, d, c, _, rfl, dk, by decide, by decide, fun r G1 r0 r1 kp1 dk1 => ⟨(by show 4 ≤ sizeLine; decide), fun l nl => ?_⟩⟩
    have sl := newS (o := .lst [.int 0, .int 1, .int 10, .int r]) nl
    have offl := dk1.off nl
    refine ⟨_, rfl, d, c, 4, rfl, dk1.same sl, by decide, by decide, fun r2 G2 a0 a1 kp2 dk2 => ?_⟩
    obtain ⟨m, hm, hm1, hm2⟩ : ∃ m : Int, atI [V.int 0, V.int 1, V.int 10, V.int r] r2 = some (.int m) ∧ 0 ≤ m ∧ m ≤ 1000000 := by
      have er : r2 = 0 ∨ r2 = 1 ∨ r2 = 2 ∨ r2 = 3 := by omega
      rcases er with rfl | rfl | rfl | rfl
      · exact ⟨0, rfl, by decide, by decide⟩
      · exact ⟨1, rfl, by decide, by decide⟩
      · exact ⟨10, rfl, by decide, by decide⟩
      · exact ⟨r, rfl, r0, (by have e6 : (10 : Int) ^ (6 : Int).toNat = 1000000 := (by decide +kernel); rw [e6] at r1; omega)⟩
    refine ⟨l, _, _, _, rfl, rfl, SqL.of (kp2 l _ offl.1 offl.2 upd_same), hm, q _ (.int m) G2 ((kp1.trans (Kp.of sl)).trans kp2) dk2 (.int m) ?_ (fun z => by cases z) ?_ (by rw [loc_int]; show _ < 1000100; omega) (by simp only [Dt.dp]; omega)⟩
    · show fitD "number" _ = true
      rw [fit_num]
      exact decide_eq_true hm1
    · simp only [Dt.wt]
      omega
  -- f
  have hf : s = 102 := by
    have h1 := nsgn (k := 120) (by decide +kernel) e1
    have h2 := nsgn (k := 100) (by decide +kernel) e2
    have h3 := nsgn (k := 97) (by decide +kernel) e3
    have h4 := nsgn (k := 98) (by decide +kernel) e4
    have h5 := nsgn (k := 114) (by decide +kernel) e5
    have h6 := nsgn (k := 107) (by decide +kernel) e6
    simp only [sig7, List.mem_cons, List.not_mem_nil, or_false] at hs
    omega
  subst hf
  refine ⟨_, rfl, o, xs, rfl, SqL.of ho, by omega, fun ys p1 hp hso np1 => ?_⟩
  have s1 := newS (o := .lst (ys.map V.str)) np1
  have off1 := dk.off np1
  refine ⟨_, rfl, _, rfl, o, _, rfl, .inl (SqL.of (s1 _ _ ho)), _, _, rfl, rfl, d, c, _, rfl, dk.same s1, by omega, by omega, fun r G1 r0 r1 kp1 dk1 => ?_⟩
  obtain ⟨m, rfl⟩ : ∃ m : Nat, r = (m : Int) := ⟨r.toNat, by omega⟩
  have g1 := kp1 p1 _ off1.1 off1.2 upd_same
  refine ⟨(m : Int), rfl, p1, _, rfl, SqL.of g1, fun p2 np2 => ?_⟩
  rw [cutHi, ← List.map_take]
  have s2 := newS (o := .lst ((ys.take m).map V.str)) np2
  have dk2 := dk1.same s2
  have kp2 : Kp d c H (upd G1 p2 (.lst ((ys.take m).map V.str))) := ((Kp.of s1).trans kp1).trans (Kp.of s2)
  have g2 : (upd G1 p2 (.lst ((ys.take m).map V.str))) p2 = some (.lst ((ys.take m).map V.str)) := upd_same
  have off2 := dk1.off np2
  have hzn : ∀ x ∈ ys.take m, nmS x = true := fun x h => hn x (hp.mem_iff.mp (List.mem_of_mem_take h))
  have hzr : rising (ys.take m) = true := rise_take (rise2 hso (hp.nodup_iff.mpr n4.nd)) m
  have hzl : (ys.take m).length ≤ 4 := by
    rw [List.length_take, hp.length_eq]
    omega
  generalize upd G1 p2 (.lst ((ys.take m).map V.str)) = G2 at dk2 kp2 g2
  generalize ys.take m = zs at *
  refine ⟨_, rfl, p2, rfl, ⟨_, SqL.of g2⟩, fun D nD => ?_⟩
  have offD := dk2.off nD
  refine lc_list (xs := zs.map V.str) (fun i G => Kp d c H G ∧ Dk G d c ∧ G p2 = some (.lst (zs.map V.str)) ∧ ∃ (vs : List V) (ds : List Dt), G D = some (.lst vs) ∧ DdL Non G ds vs ∧ ds.length = i ∧ ds.all filD1 = true ∧ ds.map nmOf = zs.take i ∧ Dt.wts ds ≤ 1000 * i ∧ ∀ x ∈ ds, x.loc 20 BB ∧ x.dp ≤ 3)
    ⟨kp2.mk (kp2.free dk2 nD), dk2.put offD.1 offD.2, by rw [upd_ne (ne_of_none g2 nD)]; exact g2, [], [], upd_same, .nil, rfl, rfl, rfl, by simp only [Dt.wts]; omega, fun _ z => nomatch z⟩ (fun i G _ z => SqL.of z.2.2.1) (fun i x G hx z => ?_) (fun G z => ?_)
  · obtain ⟨kpG, dkG, gp, vs, ds, gD', hd, ld, al, en, wd, hlo⟩ := z
    rw [List.getElem?_map] at hx
    cases hz : zs[i]? with
    | none => rw [hz] at hx; cases hx
    | some n =>
      rw [hz] at hx
      obtain rfl := Option.some.inj hx
      have hnm := hzn n (List.mem_of_getElem? hz)
      have li := (List.getElem?_eq_some_iff.mp hz).1
      refine ⟨rfl, _, rfl, _, rfl, _, rfl, d, c, o, xs, 1, rfl, by decide, dkG, kpG o _ od oc ho, od, oc, by omega, by omega, hn, fun v x G2 kp3 dk3 hv kx => ?_⟩
      refine ⟨(by show 2 ≤ sizeLine; decide), fun t nt => ?_⟩
      have st := newS (o := .tup [V.str n, v]) nt
      have gD3 := st _ _ (kp3 D _ offD.1 offD.2 gD')
      have ldv := hd.len
      have tk := Tk.kp kp3 dkG
      refine ⟨vs, gD3, small1000 (by omega), ?_, ?_, ?_, vs ++ [.ref t], ds ++ [.tup [.str n, x]], upd_same, ?_, ?_, ?_, ?_, ?_, ?_⟩
      · exact ((kpG.trans kp3).trans (Kp.of st)).mk (kp2.free dk2 nD)
      · exact (dk3.same st).put offD.1 offD.2
      · rw [upd_ne (ne_of_none g2 nD)]
        exact st _ _ (kp3 p2 _ off2.1 off2.2 gp)
      · have kD : Kn Non (upd G2 t (.tup [V.str n, v])) (upd (upd G2 t (.tup [V.str n, v])) D (.lst (vs ++ [.ref t]))) := Kn.rfl.put (fun z => z) (fun ps z => by rw [gD3] at z; cases z)
        refine DdL.app (((hd.kn (Kn.tk tk)).same st).kn kD) (.cons (.tup ?_ (.cons (.str _) (.cons ((hv.same st).kn kD) .nil))) .nil)
        exact kD.tup _ _ upd_same
      · rw [List.length_append, ld]
        rfl
      · rw [List.all_append, al, Bool.true_and]
        show (filD1 (.tup [.str n, x]) && true) = true
        rw [Bool.and_true]
        show (nmS n && dat x) = true
        rw [hnm, kx.is]
        rfl
      · rw [List.map_append, en, List.take_add_one, hz]
        rfl
      · rw [wts_app, wts1]
        have h1 := wt_t2 (.str n) x
        have h2 := kx.wt
        rw [wt_str] at h1
        have := nmS_len hnm
        omega
      · intro y hy
        rcases List.mem_append.mp hy with z | z
        · exact hlo y z
        · rw [List.mem_singleton.mp z]
          exact ⟨lo2 ((asc_nm hnm).up (by decide)) kx.lo, by have := kx.dp; simp only [Dt.dp, Dt.dps]; omega⟩
  · obtain ⟨kpG, dkG, gp, vs, ds, gD', hd, ld, al, en, wd, hlo⟩ := z
    rw [List.length_map] at ld en wd
    rw [List.take_length] at en
    refine ⟨D, vs, rfl, .inl ⟨SqL.of gD', fun t nt => ?_⟩⟩
    have st := newS (o := .tup vs) nt
    refine q _ (.tup ds) _ (kpG.trans (Kp.of st)) (dkG.same st) (.tup upd_same (hd.same st)) ?_ (fun z => by cases z) ?_ (loc_tup.mpr ⟨by omega, fun x h => (hlo x h).1⟩) (by rw [dp_tup]; have := dps_le' (n := 3) fun x h => (hlo x h).2; omega)
    · show fitD "fills" _ = true
      rw [fit_fil]
      show (ds.all filD1 && rising (ds.map nmOf)) = true
      rw [al, en, hzr]
      rfl
    · show Dt.wts ds + 3 ≤ 5000
      omega
end
end Kq

namespace Kq
open PySem PySem.Spec PyProof.Rows L2 Kf Kg Kv GxR RZ Kj
abbrev tTerm : Stmt := tp 36
/-! signs and parts, one by one -/
inductive Al (R : Nat → Dt → Prop) : List Nat → List Dt → Prop
  | nil : Al R [] []
  | cons {s : Nat} {x : Dt} {ss : List Nat} {xs : List Dt} : R s x → Al R ss xs → Al R (s :: ss) (x :: xs)
theorem Al.len {R : Nat → Dt → Prop} : ∀ {ss : List Nat} {xs : List Dt}, Al R ss xs → xs.length = ss.length
  | _, _, .nil => rfl
  | _, _, .cons _ t => congrArg (· + 1) t.len
theorem Al.snoc {R : Nat → Dt → Prop} {s : Nat} {x : Dt} (h : R s x) : ∀ {ss : List Nat} {xs : List Dt}, Al R ss xs → Al R (ss ++ [s]) (xs ++ [x])
  | _, _, .nil => .cons h .nil
  | _, _, .cons a t => .cons a (t.snoc h)
theorem Al.get {R : Nat → Dt → Prop} : ∀ {ss : List Nat} {xs : List Dt} {i : Nat} {s : Nat}, Al R ss xs → ss[i]? = some s → ∃ x, xs[i]? = some x ∧ R s x
  | _, _, _, _, .nil, e => by simp at e
  | _, _, 0, _, .cons (x := x) a t, e => ⟨x, rfl, by rw [← Option.some.inj e]; exact a⟩
  | _, _, i + 1, _, .cons a t, e => Al.get (i := i) t e
theorem Al.set {R : Nat → Dt → Prop} {y : Dt} : ∀ {ss : List Nat} {xs : List Dt} {i : Nat} {s : Nat}, Al R ss xs → ss[i]? = some s → R s y → Al R ss (xs.set i y)
  | _, _, _, _, .nil, e, _ => by simp at e
  | _, _, 0, _, .cons (x := x) a t, e, h => .cons (by rw [Option.some.inj e]; exact h) t
  | _, _, i + 1, _, .cons a t, e, h => .cons a (Al.set (i := i) t e h)
/-- what stands at a sign -/
structure Okp (nm : List Str) (B : Nat) (s : Nat) (x : Dt) : Prop where
  fit : fitD (rl s) x = true
  ter : s = 116 → trm x = true
  nam : s = 120 → ∃ n ∈ nm, x = .str n
  lo : x.loc 20 BB
  dp : x.dp ≤ B
/-- how many terms are asked -/
def ct (ss : List Nat) : Nat := (ss.filter fun s => decide (s = 116)).length
theorem ct_snoc (ss : List Nat) (s : Nat) : ct (ss ++ [s]) = ct ss + if s = 116 then 1 else 0 := by
  unfold ct
  rw [List.filter_append, List.length_append, List.filter_cons]
  by_cases h : s = 116
  · rw [if_pos (decide_eq_true h), if_pos h]
    rfl
  · rw [if_neg (by simpa using h), if_neg h]
    rfl
theorem Al.all {R : Nat → Dt → Prop} {Q : Dt → Prop} (h : ∀ s x, R s x → Q x) : ∀ {ss : List Nat} {xs : List Dt}, Al R ss xs → ∀ x ∈ xs, Q x
  | _, _, .nil, _, z => nomatch z
  | _, _, .cons a t, y, z => by
    rcases List.mem_cons.mp z with rfl | z
    · exact h _ _ a
    · exact t.all h y z
theorem Al.fits {nm : List Str} {B : Nat} : ∀ {ss : List Nat} {xs : List Dt}, Al (Okp nm B) ss xs → (((ss.map rl).zip xs).all fun p => fitD p.1 p.2) = true
  | _, _, .nil => rfl
  | _, _, .cons a t => by
    rw [List.map_cons, List.zip_cons_cons, List.all_cons, a.fit, t.fits]
    rfl
theorem rl7 : ∀ s ∈ sig7, rl s ≠ "term" := by decide +kernel
theorem Al.ters {nm : List Str} {B : Nat} : ∀ {ss : List Nat} {xs : List Dt}, (∀ s ∈ ss, s ∈ sig7 ∨ s = 116) → Al (Okp nm B) ss xs → (((((ss.map rl).zip xs).filter fun (p : Str × Dt) => decide (p.1 = ("term" : Str))).map (·.2)).all trm) = true
  | _, _, _, .nil => rfl
  | s :: _, x :: _, h, .cons a t => by
    have ih := t.ters fun s hs => h s (List.mem_cons_of_mem _ hs)
    rw [List.map_cons, List.zip_cons_cons, List.filter_cons]
    rcases h s List.mem_cons_self with e | e
    · rw [if_neg (by simpa using rl7 s e)]
      exact ih
    · rw [if_pos (by subst e; show decide (rl 116 = ("term" : Str)) = true; decide +kernel), List.map_cons, List.all_cons, a.ter e, ih]
      rfl
theorem trm_of {nm : List Str} {B : Nat} {w : Str} {ss : List Nat} {xs : List Dt} (h : rls w = some (ss.map rl)) (hs : ∀ s ∈ ss, s ∈ sig7 ∨ s = 116) (al : Al (Okp nm B) ss xs) (h34 : two w = true → same34 xs = false) : trm (.tup (.str w :: xs)) = true := by
  rw [trm_eq]
  have e1 : tfrm (.tup (.str w :: xs)) = true := by
    show tfm w xs = true
    unfold tfm
    rw [h]
    show (decide (xs.length = (ss.map rl).length) && _ && _) = true
    rw [decide_eq_true (by rw [List.length_map]; exact al.len), al.fits]
    cases c : two w with
    | false => rfl
    | true => rw [h34 c]; rfl
  have e2 : (tprt (.tup (.str w :: xs))).all trm = true := by
    show (tpt w xs).all trm = true
    unfold tpt
    rw [h]
    exact al.ters hs
  rw [e1, e2]
  rfl
theorem fkv_ok : ∀ p ∈ fkv, rls p.1 = some (p.2.cps.toList.map rl) ∧ (∀ s ∈ p.2.cps.toList, s ∈ sig7 ∨ s = 116) ∧ p.2.cps.toList.length ≤ 5 ∧ 1 ≤ p.2.cps.toList.length ∧ p.1.length ≤ 6 := by decide +kernel
theorem fkv_two : ∀ p ∈ fkv, two p.1 = true → p.2.cps.toList.length = 5 ∧ p.2.cps.toList[2]? = some 120 ∧ p.2.cps.toList[3]? = some 120 := by decide +kernel
theorem fkv_six : ∀ i : Fin 6, ∀ p, fkv[i.val]? = some p → 116 ∉ p.2.cps.toList := by
  intro i p h
  have z : ∀ i : Fin 6, ∀ p ∈ fkv[i.val]?, 116 ∉ p.2.cps.toList := by decide +kernel
  exact z i p h
theorem fkv_len : fkv.length = 22 := by decide +kernel
theorem fkv_nd : ((kvs fkv).map (·.1)).Nodup := by decide +kernel
theorem fkv_get {p : Str × Str} (h : p ∈ fkv) : valV (kvs fkv) (.inr p.1) = some (.str p.2) :=
  val_nodup fkv_nd (.inr p.1, .str p.2) (List.mem_map.mpr ⟨p, h, rfl⟩)
theorem kvs_at {i : Nat} {p : Str × Str} (h : fkv[i]? = some p) : ((kvs fkv).map fun kv => kV kv.1)[i]? = some (.str p.1) := by
  unfold kvs
  rw [List.getElem?_map, List.getElem?_map, h]
  rfl
/-! heaps where the deck and one list change -/
def Kl (d c l : Addr) (H G : Hp) : Prop := ∀ b o, b ≠ d → b ≠ c → b ≠ l → H b = some o → G b = some o
theorem Kl.rfl {d c l : Addr} {H : Hp} : Kl d c l H H := fun _ _ _ _ _ e => e
theorem Kl.trans {d c l : Addr} {H G F : Hp} (a : Kl d c l H G) (b : Kl d c l G F) : Kl d c l H F := fun x o h1 h2 h3 e => b x o h1 h2 h3 (a x o h1 h2 h3 e)
theorem Kl.kp {d c l : Addr} {H G : Hp} (a : Kp d c H G) : Kl d c l H G := fun x o h1 h2 _ e => a x o h1 h2 e
theorem Kl.of {d c l : Addr} {H G : Hp} (a : Same H G) : Kl d c l H G := fun x o _ _ _ e => a x o e
theorem Kl.mk {d c l p : Addr} {H G : Hp} {o : HO} (a : Kl d c l H G) (h : H p = none) : Kl d c l H (upd G p o) := fun b u h1 h2 h3 e => by
  rw [upd_ne (ne_of_none e h)]
  exact a b u h1 h2 h3 e
theorem Kl.out {d c l : Addr} {H G : Hp} {o : HO} (a : Kl d c l (upd H l o) G) (h : H l = none) : Kp d c H G := fun b u h1 h2 e => by
  have hb : b ≠ l := ne_of_none e h
  exact a b u h1 h2 hb (by rw [upd_ne hb]; exact e)
theorem Kl.tk {d c l : Addr} {H G : Hp} {xs : List V} (a : Kl d c l H G) (k : Dk H d c) (hl : H l = some (.lst xs)) : Tk H G := fun b xs e => by
  obtain ⟨n, ⟨s, k0, hd⟩, ⟨ns, hc, _⟩⟩ := k
  refine a b _ (fun z => ?_) (fun z => ?_) (fun z => ?_) e
  · rw [z, hd] at e
    cases e
  · rw [z, hc] at e
    cases e
  · rw [z, hl] at e
    cases e
theorem Kl.free {d c l p : Addr} {H G : Hp} {xs : List V} (a : Kl d c l H G) (k : Dk G d c) (hl : G l = some (.lst xs)) (h : G p = none) : H p = none := by
  obtain ⟨h1, h2⟩ := k.off h
  have h3 : p ≠ l := fun z => by rw [z, hl] at h; cases h
  cases e : H p with
  | none => rfl
  | some o =>
    rw [a p o h1 h2 h3 e] at h
    cases h
theorem wts_set : ∀ (xs : List Dt) (i : Nat) (y : Dt), Dt.wts (xs.set i y) ≤ Dt.wts xs + y.wt
  | [], _, _ => by simp only [List.set_nil, Dt.wts]; omega
  | x :: xs, 0, y => by simp only [List.set_cons_zero, Dt.wts]; omega
  | x :: xs, i + 1, y => by
    have := wts_set xs i y
    simp only [List.set_cons_succ, Dt.wts]
    omega
theorem fkv_ct : ∀ p ∈ fkv, ct p.2.cps.toList ≤ 3 ∧ (116 ∉ p.2.cps.toList → ct p.2.cps.toList = 0) := by decide +kernel
theorem term_dp {nm : List Str} {n : Nat} {w : Str} {ss : List Nat} {xs : List Dt} (al : Al (Okp nm n) ss xs) : (Dt.tup (.str w :: xs)).dp ≤ n + 1 := by
  rw [dp_tup]
  have := dps_le' (n := n) (xs := .str w :: xs) fun x hx => by
    rcases List.mem_cons.mp hx with rfl | hx
    · rw [dp_str]; omega
    · exact al.all (fun _ _ h => h.dp) x hx
  omega
theorem fkv_asc : ∀ p ∈ fkv, (p.1.cps.toList.all fun c => decide (c < 128)) = true := by decide +kernel
theorem term_lo {nm : List Str} {n : Nat} {w : Str} {ss : List Nat} {xs : List Dt} (al : Al (Okp nm n) ss xs) (hw : Asc 20 w) (hl : ss.length ≤ 5) : (Dt.tup (.str w :: xs)).loc 20 BB := by
  rw [loc_tup]
  refine ⟨by rw [List.length_cons, al.len]; omega, fun x hx => ?_⟩
  rcases List.mem_cons.mp hx with rfl | hx
  · exact loc_str.mpr hw
  · exact al.all (fun _ _ h => h.lo) x hx
/-- the names at the two places of fold and built are unlike -/
theorem same34_of {xs : List Dt} {a b : Str} (h3 : xs[2]? = some (.str a)) (h4 : xs[3]? = some (.str b)) : same34 xs = decide (a = b) := by
  unfold same34
  rw [h3, h4]
theorem gSt (x : V) (vs : List V) (j : Nat) (v : V) (h : vs[j]? = some v) : atI (x :: vs) ((j + 1 : Nat) : Int) = some v := atI_nat (j := j + 1) (by simpa using h)
theorem andV_gen {ta tb : TE} {σ : L2.St} {H : Hp} {Q : VK} {b : Bool} (h : ∀ R : VK, R (.bl b) H → tAndV ta tb σ H R) (q : Q (.bl b) H) : tAndV ta tb σ H Q := h Q q
theorem _root_.Kv.DdL.set {N : Addr → Prop} {H : Hp} {y : Dt} {u : V} (h : Dd N H y u) : ∀ {xs : List Dt} {vs : List V} (i : Nat), DdL N H xs vs → DdL N H (xs.set i y) (vs.set i u)
  | _, _, _, .nil => .nil
  | _, _, 0, .cons _ t => .cons h t
  | _, _, i + 1, .cons a t => .cons a (Kv.DdL.set h i t)
/-- the first place of a name among unlike ones, and the next name -/
theorem next4 {xs : List Str} (n4 : N4 xs) {a : Str} (h : a ∈ xs) : ∃ (j m : Nat) (b : Str), xs[j]? = some a ∧ (∀ (i : Nat) (z : Str), i < j → xs[i]? = some z → z ≠ a) ∧ m = (j + 1) % 4 ∧ xs[m]? = some b ∧ b ∈ xs ∧ a ≠ b := by
  obtain ⟨j, hj, ej⟩ := List.getElem_of_mem h
  have l4 := n4.len
  have hm : (j + 1) % 4 < xs.length := by omega
  refine ⟨j, (j + 1) % 4, xs[(j + 1) % 4], by rw [List.getElem?_eq_getElem hj, ej], fun i z hi hz e => ?_, rfl, List.getElem?_eq_getElem hm, List.getElem_mem hm, fun e => ?_⟩
  · obtain ⟨hi', ei⟩ := List.getElem?_eq_some_iff.mp hz
    have := (List.getElem_inj (h₀ := hi') (h₁ := hj) n4.nd).mp (by rw [ei, ej, e])
    omega
  · have := (List.getElem_inj (h₀ := hj) (h₁ := hm) n4.nd).mp (by rw [ej]; exact e)
    omega
theorem flatS (xs : List Str) : (xs.map V.str).all flatV = true := by
  rw [List.all_eq_true]
  intro v hv
  obtain ⟨x, _, rfl⟩ := List.mem_map.mp hv
  rfl
theorem eqS (a b : Str) : eqV (.str a) (.str b) = decide (a = b) := by
  by_cases h : a = b
  · rw [decide_eq_true h]
    subst h
    simp [eqV]
  · rw [decide_eq_false h]
    simp [eqV, h]
section
variable {P : Program} {w : World} {K : PySem.W.Frag} {mg : Str → Option Value} {base : Heap}
abbrev psTerm : List Str := ["_law_deck_here", "_law_names_here", "_law_deep", "_law_left"]
abbrev nTerm : List Str := ["_law_deck_here", "_law_names_here", "_law_deep", "_law_left", "_law_words", "_law_word", "_law_parts_here", "_law_sign"]
theorem scTerm : FnScope nTerm psTerm (defScope tTerm) := ⟨rfl, rfl, rfl, by decide +kernel, rfl, by decide +kernel, by decide +kernel⟩
def spTerm (n : Nat) : Sp := fun vs H Q _ => ∃ (d c o l : Addr) (xs : List Str) (g : Nat) (k0 : Int), vs = [.ref d, .ref o, .int (g : Int), .ref l] ∧ 1 ≤ g ∧ g ≤ n ∧ Dk H d c ∧ H o = some (.lst (xs.map V.str)) ∧ o ≠ d ∧ o ≠ c ∧ o ≠ l ∧ l ≠ d ∧ l ≠ c ∧ H l = some (.lst [.int k0]) ∧ N4 xs ∧
  ∀ (v : V) (x : Dt) (G : Hp) (k1 : Int), Kl d c l H G → Dk G d c → G l = some (.lst [.int k1]) → Dd Non G x v → trm x = true → x.wt ≤ 26000 * (1 + 3 * (k0.toNat - k1.toNat)) → k1.toNat ≤ k0.toNat → x.loc 20 BB → x.dp ≤ g + 5 → Q v G
theorem okTerm1 {f fD fF fL : Addr} {fd fdD fdF fdL : FuncData} {n k : Nat} (F : Fun K "_law_term" "_law_term" tTerm f fd) (bF' : Binds K fd psTerm []) (gF' : mg "_law_term" = some (.ref f))
    (GD : FnOk P w K mg base CX0 k fD fdD ["_law_deck_here", "_law_most"] spDraw) (bD : Binds K fdD ["_law_deck_here", "_law_most"] []) (gD : mg "_law_draw" = some (.ref fD)) (kD : PySem.W.keepIn K (.ref fD) = true)
    (GF : FnOk P w K mg base CX0 k fF fdF [] spForms) (bF : Binds K fdF [] []) (gF : mg "_law_forms" = some (.ref fF)) (kF : PySem.W.keepIn K (.ref fF) = true)
    (GL : FnOk P w K mg base CX0 k fL fdL psLeaf spLeaf) (bL : Binds K fdL psLeaf []) (gL : mg "_law_leaf" = some (.ref fL)) (kL : PySem.W.keepIn K (.ref fL) = true)
    (GI : FnOk P w K mg base CX0 k f fd psTerm (spTerm n)) (ml : mg "len" = none) (mL : mg "list" = none) (mt : mg "tuple" = none) (mi : mg "int" = none) : FnOk P w K mg base CX0 (k + 1) f fd psTerm (spTerm (n + 1)) := by
  refine F.ok scTerm (fun vs H Q E h => ?_) (fun cdv A outer s H vs Q E hr h => ?_)
  · obtain ⟨d, c, o, l, xs, g, k0, rfl, _⟩ := h
    rfl
  obtain ⟨d, c, o, l, xs, g, k0, rfl, g1, gn, dk, ho, od, oc, ol, ld, lc, hl, n4, q⟩ := h
  refine ⟨_, pss_cons (ps_asg (pe_op op_sub (pe_ix ix_list (pv 3) pe_int (fun _ _ => rfl)) pe_int) (pg_sub (pv 3) pe_int set_list))
    (pss_cons (ps_set (i := 4) scTerm.nd rfl (.inl rfl) (pe_callTy (call_listD rfl) (by rfl) mL boot_list (pa_cons (pe_call0 GF hr (by rfl) gF kF bF .nil pass0) pa_nil)))
    (pss_cons (ps_set (i := 5) scTerm.nd rfl (.inl rfl) (pe_ix ix_list (pv 4) (pe_call GD hr (by rfl) gD kD bD .nil pass0 (pa_cons (pv 0) (pa_cons (pe_ix ix_list (pe_lst (pa_cons pe_int (pa_cons pe_int pa_nil))) (pe_callTy call_int1 (by rfl) mi (by decide +kernel) (pa_cons (pe_and (pe_cmpR op_gt (pv 2) pe_int (nomark _)) (pe_one (pe_cmpR op_gt (pe_ix ix_list (pv 3) pe_int (fun _ _ => rfl)) pe_int (nomark _)))) pa_nil)) (fun _ _ => rfl)) pa_nil))) (fun _ _ => rfl)))
    (pss_cons (ps_set (i := 6) scTerm.nd rfl (.inl rfl) (pe_lst (pa_cons (pv 5) pa_nil)))
    (pss_cons (ps_for PassesOwn.never rfl (pi_str (pe_dget (Nat.lt_of_le_of_lt (Nat.add_le_add_left (show 1 ≤ 64 by decide) _) hr.units) (pe_call0 GF hr (by rfl) gF kF bF .nil pass0) (pv 5) (fun _ _ => rfl))) (pg_name (i := 7) scTerm.nd rfl (.inl rfl))
      (pss_one (ps_if (pt_cmpR op_eq (pv 7) pe_str (nomark _))
        (pss_one (ps_expr (pe_bm PySem.F.plainAttrs_list PySem.F.slot_list_append PySem.F.type_list_append mt_append (pv 6) (pa_cons (pe_call GI hr (by rfl) gF' F.kp bF' .nil pass0 (pa_cons (pv 0) (pa_cons (pv 1) (pa_cons (pe_op op_sub (pv 2) pe_int) (pa_cons (pv 3) pa_nil))))) pa_nil))))
        (pss_one (ps_expr (pe_bm PySem.F.plainAttrs_list PySem.F.slot_list_append PySem.F.type_list_append mt_append (pv 6) (pa_cons (pe_call GL hr (by rfl) gL kL bL .nil pass0 (pa_cons (pv 0) (pa_cons (pv 7) (pa_cons (pv 1) pa_nil)))) pa_nil)))))))
    (pss_cons (ps_if (PW.pt (pw_and (pt_cmpR op_in_seq (pv 5) (pe_tup (pa_cons pe_str (pa_cons pe_str pa_nil))) rfl) (pw_and1 (pt_cmpR op_eq (pe_ix ix_list (pv 6) pe_int (fun _ _ => rfl)) (pe_ix ix_list (pv 6) pe_int (fun _ _ => rfl)) (nomark _)))))
      (pss_one (ps_asg (pe_ix ix_list (pv 1) (pe_op op_mod (pe_op op_add (pe_bm PySem.F.plainAttrs_list PySem.F.slot_list_index PySem.F.type_list_index mt_index (pv 1) (pa_cons (pe_ix ix_list (pv 6) pe_int (fun _ _ => rfl)) pa_nil)) pe_int) (pe_callB call_len_seq (by rfl) ml PySem.boot_len (pa_cons (pv 1) pa_nil))) (fun _ _ => rfl)) (pg_sub (pv 6) pe_int set_list))) pss_nil)
    (pss_one (ps_ret (pe_callTy call_tuple_of (by rfl) mt PyProof.Rows.boot_tuple (pa_cons (pv 6) pa_nil))))))))), ?_⟩
  -- the count
  refine ⟨_, rfl, l, _, _, _, rfl, rfl, SqL.of hl, atI_nat (j := 0) rfl, _, _, rfl, rfl, _, rfl, l, _, _, 0, rfl, rfl, hl, rfl, ?_⟩
  generalize hH1 : upd H l _ = H1
  have l1 : H1 l = some (.lst [.int (k0 - 1)]) := by rw [← hH1, upd_same]; rfl
  have kl1 : Kl d c l H H1 := by
    rw [← hH1]
    intro b u _ _ h3 e
    rw [upd_ne h3]
    exact e
  have dk1 : Dk H1 d c := by rw [← hH1]; exact dk.put ld lc
  clear hH1
  -- the words
  refine ⟨rfl, fun df G2 s2 ndf gdf => ⟨df, _, rfl, .inl gdf, fun pw npw => ?_⟩⟩
  have s3 := newS (o := .lst ((kvs fkv).map fun kv => kV kv.1)) npw
  have gw3 : (upd G2 pw (.lst ((kvs fkv).map fun kv => kV kv.1))) pw = some (.lst ((kvs fkv).map fun kv => kV kv.1)) := upd_same
  have kl3 : Kl d c l H (upd G2 pw (.lst ((kvs fkv).map fun kv => kV kv.1))) := kl1.trans (Kl.of (s2.trans s3))
  have dk3 := (dk1.same s2).same s3
  have l3 := s3 _ _ (s2 _ _ l1)
  have pwl : pw ≠ l := fun z => by rw [z, s2 _ _ l1] at npw; cases npw
  have pwdc := (dk1.same s2).off npw
  generalize upd G2 pw (.lst ((kvs fkv).map fun kv => kV kv.1)) = G3 at gw3 kl3 dk3 l3
  -- the word
  refine ⟨_, rfl, _, rfl, (by show 2 ≤ sizeLine; decide), fun p6 n6 => ?_⟩
  have s4 := newS (o := .lst [V.int 6, V.int 22]) n6
  have g6 : (upd G3 p6 (.lst [V.int 6, V.int 22])) p6 = some (.lst [V.int 6, V.int 22]) := upd_same
  have gw4 := s4 _ _ gw3
  have kl4 := kl3.trans (Kl.of s4)
  have dk4 := dk3.same s4
  have l4 := s4 _ _ l3
  generalize upd G3 p6 (.lst [V.int 6, V.int 22]) = G4 at g6 gw4 kl4 dk4 l4
  show tAndV _ _ _ _ _
  refine andV_gen (b := decide ((1 : Int) < (g : Int)) && decide ((0 : Int) < k0 - 1)) (fun R r => ?_) ?_
  · refine ⟨_, rfl, _, _, rfl, rfl, _, rfl, ite2 (fun e => ?_) (fun e => ?_)⟩
    · rw [e, Bool.true_and] at r
      exact ⟨_, rfl, l, _, _, _, rfl, rfl, SqL.of l4, atI_nat (j := 0) rfl, _, _, rfl, rfl, r⟩
    · rw [Bool.eq_false_iff.mpr e, Bool.false_and] at r
      exact r
  have hb : (decide ((1 : Int) < (g : Int)) && decide ((0 : Int) < k0 - 1)) = true → 2 ≤ g ∧ 2 ≤ k0 := fun z => by
    have := of_decide_eq_true (Bool.and_eq_true_iff.mp z).1
    have := of_decide_eq_true (Bool.and_eq_true_iff.mp z).2
    omega
  generalize (decide ((1 : Int) < (g : Int)) && decide ((0 : Int) < k0 - 1)) = b at hb
  obtain ⟨m, hm, hm2, hm3⟩ : ∃ m : Nat, atI [V.int 6, V.int 22] (if b = true then 1 else 0) = some (.int (m : Int)) ∧ (m = 6 ∨ (m = 22 ∧ 2 ≤ g ∧ 2 ≤ k0)) ∧ 6 ≤ m := by
    cases b with
    | true => exact ⟨22, rfl, .inr ⟨rfl, hb rfl⟩, by decide⟩
    | false => exact ⟨6, rfl, .inl rfl, by decide⟩
  refine .inr ⟨_, rfl, p6, _, _, _, rfl, rfl, SqL.of g6, hm, d, c, _, rfl, dk4, by omega, by omega, fun r G5 r0 r1 kp5 dk5 => ?_⟩
  obtain ⟨j, rfl⟩ : ∃ j : Nat, r = (j : Int) := ⟨r.toNat, by omega⟩
  have hj22 : j < fkv.length := by
    rw [fkv_len]
    omega
  have hp := List.getElem?_eq_getElem hj22
  have hpm := List.getElem_mem hj22
  have h116 : 116 ∈ fkv[j].2.cps.toList → 2 ≤ g ∧ 2 ≤ k0 := fun z => by
    rcases hm2 with e | ⟨_, e⟩
    · exact absurd z (fkv_six ⟨j, by omega⟩ _ hp)
    · exact e
  generalize fkv[j] = p at hp hpm h116
  obtain ⟨wd, sg'⟩ := p
  obtain ⟨f1, f2, f3, f4, f5⟩ := fkv_ok _ hpm
  have ft := fkv_two _ hpm
  have gv := fkv_get hpm
  obtain ⟨fc1, fc2⟩ := fkv_ct _ hpm
  have fa := fkv_asc _ hpm
  simp only at f1 f2 f3 f4 f5 ft gv h116 fc1 fc2 fa
  have fa : Asc 20 wd := ascLit fa (by omega)
  have gw5 := kp5 pw _ pwdc.1 pwdc.2 gw4
  have kl5 := kl4.trans (Kl.kp kp5)
  have l5 := kp5 l _ ld lc l4
  refine ⟨pw, _, _, _, rfl, rfl, SqL.of gw5, atI_nat (kvs_at hp), _, rfl, (by show 1 ≤ sizeLine; decide), fun pp npp => ?_⟩
  have s6 := newS (o := .lst [V.str wd]) npp
  have gpp : (upd G5 pp (.lst [V.str wd])) pp = some (.lst [V.str wd]) := upd_same
  have kl6 := kl5.trans (Kl.of s6)
  have dk6 := dk5.same s6
  have l6 := s6 _ _ l5
  have ppdc := dk5.off npp
  have ppl : pp ≠ l := fun z => by rw [z, l5] at npp; cases npp
  have ppH := kl5.free dk5 l5 npp
  have ppo : pp ≠ o := fun z => by rw [z, ho] at ppH; cases ppH
  generalize upd G5 pp (.lst [V.str wd]) = G6 at gpp kl6 dk6 l6
  refine ⟨rfl, fun df2 G7 s7 ndf2 gdf2 => ⟨_, rfl, df2, .str sg', rfl, .inl ⟨kvs fkv, .inr wd, .inl gdf2, rfl, gv.symm⟩, sg', rfl, ?_⟩⟩
  generalize hss : sg'.cps.toList = ss at f1 f2 f3 f4 ft h116 fc1 fc2
  have fin : ∀ (G : Hp) (vs : List V) (ds : List Dt) (k1 : Int), Kl d c l H G → Dk G d c → G l = some (.lst [.int k1]) → DdL Non G ds vs → Al (Okp xs (g + 4)) ss ds → Dt.wts ds ≤ 26002 * ct ss + 5002 * ss.length + 100 + 78000 * ((k0 - 1).toNat - k1.toNat) → k1.toNat ≤ (k0 - 1).toNat → (two wd = true → same34 ds = false) → ∀ t, G t = none → Q (.ref t) (upd G t (.tup (.str wd :: vs))) := by
    intro G vs ds k1 kl dkG lG hd al hwt hk h34 t nt
    have st := newS (o := .tup (.str wd :: vs)) nt
    refine q _ (.tup (.str wd :: ds)) _ k1 (kl.trans (Kl.of st)) (dkG.same st) (st _ _ lG) (.tup upd_same (.cons (.str _) (hd.same st))) (trm_of f1 f2 al h34) ?_ (by omega) (term_lo al fa f3) (term_dp al)
    have e1 : (Dt.tup (.str wd :: ds)).wt = 10 * wd.length + 2 + 2 + Dt.wts ds + 3 := by simp only [Dt.wt, Dt.wts]
    rw [e1]
    by_cases hz : 116 ∈ ss
    · have := (h116 hz).2
      omega
    · have := fc2 hz
      omega
  refine for_str (x := sg') (fun i σ G => ∃ (y7 : Option V) (vs : List V) (ds : List Dt) (k1 : Int), σ = [some (.ref d), some (.ref o), some (.int (g : Int)), some (.ref l), some (.ref pw), some (.str wd), some (.ref pp), y7] ∧ Kl d c l H G ∧ Dk G d c ∧ G l = some (.lst [.int k1]) ∧ G pp = some (.lst (.str wd :: vs)) ∧ DdL Non G ds vs ∧ Al (Okp xs (g + 4)) (ss.take i) ds ∧ Dt.wts ds ≤ 26002 * ct (ss.take i) + 5002 * i + 78000 * ((k0 - 1).toNat - k1.toNat) ∧ k1.toNat ≤ (k0 - 1).toNat)
    ⟨_, [], [], _, rfl, kl6.trans (Kl.of s7), dk6.same s7, s7 _ _ l6, s7 _ _ gpp, .nil, .nil, by simp only [Dt.wts]; omega, Nat.le_refl _⟩ (fun i s' σ G hs' z => ?_) (fun σ G z => ?_)
  · rw [hss] at hs'
    obtain ⟨y7, vs, ds, k1, rfl, klG, dkG, lG, gppG, hd, al, hwt, hk⟩ := z
    have ls : s' ∈ ss := List.mem_of_getElem? hs'
    have li := (List.getElem?_eq_some_iff.mp hs').1
    have lv : vs.length ≤ 5 := by
      have h1 := hd.len
      have h2 := al.len
      rw [List.length_take] at h2
      omega
    have tk : ss.take (i + 1) = ss.take i ++ [s'] := by rw [List.take_add_one, hs']; rfl
    have hoG := klG o _ od oc ol ho
    have again : ∀ (v : V) (x : Dt) (G' : Hp) (k2 : Int), Kl d c l G G' → Dk G' d c → G' l = some (.lst [.int k2]) → Dd Non G' x v → Okp xs (g + 4) s' x → x.wt + 2 ≤ 26002 * (if s' = 116 then 1 else 0) + 5002 + 78000 * (k1.toNat - k2.toNat) → k2.toNat ≤ k1.toNat → G' pp = some (.lst (.str wd :: vs)) ∧ (Kl d c l H (upd G' pp (.lst ((.str wd :: vs) ++ [v]))) ∧ Dk (upd G' pp (.lst ((.str wd :: vs) ++ [v]))) d c ∧ (upd G' pp (.lst ((.str wd :: vs) ++ [v]))) l = some (.lst [.int k2]) ∧ (upd G' pp (.lst ((.str wd :: vs) ++ [v]))) pp = some (.lst (.str wd :: (vs ++ [v]))) ∧ DdL Non (upd G' pp (.lst ((.str wd :: vs) ++ [v]))) (ds ++ [x]) (vs ++ [v]) ∧ Al (Okp xs (g + 4)) (ss.take (i + 1)) (ds ++ [x]) ∧ Dt.wts (ds ++ [x]) ≤ 26002 * ct (ss.take (i + 1)) + 5002 * (i + 1) + 78000 * ((k0 - 1).toNat - k2.toNat) ∧ k2.toNat ≤ (k0 - 1).toNat) := by
      intro v x G' k2 klv dkv lv' hv ok hxw hk2
      have gp' := klv pp _ ppdc.1 ppdc.2 ppl gppG
      have kD : Kn Non G' (upd G' pp (.lst ((.str wd :: vs) ++ [v]))) := Kn.rfl.put (fun z => z) (fun ps z => by rw [gp'] at z; cases z)
      refine ⟨gp', (klG.trans klv).mk ppH, dkv.put ppdc.1 ppdc.2, by rw [upd_ne ppl.symm]; exact lv', upd_same, ?_, ?_, ?_, by omega⟩
      · exact DdL.app ((hd.kn (Kn.tk (klv.tk dkG lG))).kn kD) (.cons (hv.kn kD) .nil)
      · rw [tk]
        exact al.snoc ok
      · rw [tk, ct_snoc, wts_app, wts1, Nat.mul_add 26002]
        omega
    refine ⟨_, rfl, rfl, _, rfl, ite2 (fun e => ?_) (fun e => ?_)⟩
    · have e := sgn (k := 116) (by decide +kernel) e
      subst e
      have g2 := (h116 ls).1
      have e1 : ((g : Int) - 1) = ((g - 1 : Nat) : Int) := by omega
      have eL : [V.ref d, V.ref o, V.int ((g : Int) - 1), V.ref l] = [V.ref d, V.ref o, V.int ((g - 1 : Nat) : Int), V.ref l] := by rw [e1]
      refine ⟨_, rfl, .inl ⟨rfl, _, SqL.of gppG⟩, _, rfl, _, rfl, _, rfl, _, _, rfl, rfl, _, rfl, d, c, o, l, xs, g - 1, k1, eL, by omega, by omega, dkG, hoG, od, oc, ol, ld, lc, lG, n4, fun v x G8 k2 kl8 dk8 l8 hv ht hw hk2 hlo hdp => ?_⟩
      obtain ⟨gp', z⟩ := again v x G8 k2 kl8 dk8 l8 hv ⟨by show fitD "term" x = true; exact fit_trm x, fun _ => ht, (fun z => by cases z), hlo, by omega⟩ (by rw [if_pos rfl]; omega) hk2
      exact ⟨pp, _, _, rfl, rfl, gp', small1000 (by rw [List.length_cons]; omega), _, _, _, k2, rfl, z⟩
    · have e := nsgn (k := 116) (by decide +kernel) e
      have h7 : s' ∈ sig7 := by
        rcases f2 s' ls with z | z
        · exact z
        · exact absurd z e
      refine ⟨_, rfl, .inl ⟨rfl, _, SqL.of gppG⟩, _, rfl, _, rfl, _, rfl, d, c, o, xs, s', rfl, h7, dkG, hoG, od, oc, n4, fun v x G8 kp8 dk8 hv hf hn hw hlo hdp => ?_⟩
      obtain ⟨gp', z⟩ := again v x G8 k1 (Kl.kp kp8) dk8 (kp8 l _ ld lc lG) hv ⟨hf, fun z => absurd z e, hn, hlo, by omega⟩ (by rw [if_neg e]; omega) (Nat.le_refl _)
      exact ⟨pp, _, _, rfl, rfl, gp', small1000 (by rw [List.length_cons]; omega), _, _, _, k1, rfl, z⟩
  · obtain ⟨y7, vs, ds, k1, rfl, klG, dkG, lG, gppG, hd, al, hwt, hk⟩ := z
    rw [hss, List.take_length] at al
    rw [hss, List.take_length] at hwt
    refine ⟨_, rfl, (by show 2 ≤ sizeLine; decide), fun p4 np4 => ⟨p4, _, rfl, .inr (SqT.of upd_same), rfl, rfl, _, rfl, ?_⟩⟩
    show if inV (V.str wd) [V.str "fold", V.str "built"] = true then _ else _
    rw [inFB]
    have s4 := newS (o := .tup [V.str "fold", V.str "built"]) np4
    have gpp4 := s4 _ _ gppG
    have kl4' := klG.trans (Kl.of s4)
    have dk4' := dkG.same s4
    have l4' := s4 _ _ lG
    have hd4 := hd.same s4
    have ho4 := s4 _ _ (klG o _ od oc ol ho)
    generalize upd G p4 (.tup [V.str "fold", V.str "built"]) = G8 at gpp4 kl4' dk4' l4' hd4 ho4
    refine ite2 (fun e => ?_) (fun e => iteF ⟨_, rfl, pp, _, rfl, .inl ⟨SqL.of gpp4, fin G8 vs ds k1 kl4' dk4' l4' hd4 al (by omega) hk (fun z => absurd z e)⟩⟩)
    obtain ⟨t5, t2, t3⟩ := ft e
    obtain ⟨x3, hx3, ok3⟩ := al.get t2
    obtain ⟨x4, hx4, ok4⟩ := al.get t3
    obtain ⟨a3, ha3, rfl⟩ := ok3.nam rfl
    obtain ⟨a4, ha4, rfl⟩ := ok4.nam rfl
    obtain ⟨v3, hv3, r3⟩ := hd4.get' hx3
    obtain ⟨v4, hv4, r4⟩ := hd4.get' hx4
    cases r3
    cases r4
    have i3 : atI (V.str wd :: vs) 3 = some (.str a3) := atI_nat (j := 3) (by simpa using hv3)
    have i4 : atI (V.str wd :: vs) 4 = some (.str a4) := atI_nat (j := 4) (by simpa using hv4)
    refine ⟨_, rfl, pp, _, _, _, rfl, rfl, SqL.of gpp4, i3, _, rfl, pp, _, _, _, rfl, rfl, SqL.of gpp4, i4, rfl, _, rfl, ite2 (fun e2 => ?_) (fun e2 => ?_)⟩
    · obtain ⟨j, m, b, hj, hlt, em, hmb, hb, hab⟩ := next4 n4 ha3
      have jm : ((j : Nat) : Int) + 1 = ((j + 1 : Nat) : Int) := by omega
      have lx : ((xs.map V.str).length : Int) = 4 := by rw [List.length_map, n4.len]; rfl
      have e5 : (((j : Nat) : Int) + 1) % (((xs.map V.str).length : Nat) : Int) = ((m : Nat) : Int) := by
        rw [lx, em]
        omega
      have gat : atI (xs.map V.str) ((((j : Nat) : Int) + 1) % (((xs.map V.str).length : Nat) : Int)) = some (.str b) := by
        rw [e5]
        exact atI_nat (by rw [List.getElem?_map, hmb]; rfl)
      have lds : (vs.length : Nat) = 5 := by
        rw [← hd4.len, al.len, t5]
      refine ⟨_, rfl, _, rfl, .inl ⟨rfl, _, SqL.of ho4⟩, _, rfl, pp, _, _, _, rfl, rfl, SqL.of gpp4, i3, o, _, .str a3, j, .str a3, rfl, rfl, SqL.of ho4, rfl, flatS xs, by rw [List.getElem?_map, hj]; rfl, by rw [eqS]; exact decide_eq_true rfl, fun i z hi hz => ?_, _, _, rfl, rfl, _, rfl, o, _, rfl, .inl (SqL.of ho4), _, _, rfl, rfl, (by rw [lx]; show (0 : Int) < 4; decide), o, _, _, _, rfl, rfl, SqL.of ho4, gat, _, rfl, pp, _, _, 4, rfl, rfl, gpp4, ?_, ?_⟩
      · rw [List.getElem?_map] at hz
        cases hq : xs[i]? with
        | none => rw [hq] at hz; cases hz
        | some y =>
          rw [hq] at hz
          obtain rfl := Option.some.inj hz
          rw [eqS]
          exact decide_eq_false (hlt i y hi hq)
      · show ixN (vs.length + 1) 4 = some 4
        rw [lds]
        rfl
      have gset : ∀ o, (upd G8 pp o) pp = some o := fun _ => upd_same
      refine ⟨_, rfl, pp, _, rfl, .inl ⟨SqL.of upd_same, ?_⟩⟩
      have kD : Kn Non G8 (upd G8 pp (.lst (V.str wd :: vs.set 3 (.str b)))) := Kn.rfl.put (fun z => z) (fun ps z => by rw [gpp4] at z; cases z)
      refine fin (upd G8 pp (.lst (V.str wd :: vs.set 3 (.str b)))) (vs.set 3 (.str b)) (ds.set 3 (.str b)) k1 (kl4'.mk ppH) (dk4'.put ppdc.1 ppdc.2) (by rw [upd_ne ppl.symm]; exact l4') (DdL.set (.str b) 3 (hd4.kn kD)) (al.set t3 ⟨by show fitD "name" _ = true; rw [fit_name]; exact n4.nm b hb, (fun z => by cases z), fun _ => ⟨b, hb, rfl⟩, lo_nm (n4.nm b hb), by rw [dp_str]; omega⟩) ?_ hk (fun _ => ?_)
      · have h1 := wts_set ds 3 (.str b)
        rw [wt_str] at h1
        have := nmS_len (n4.nm b hb)
        omega
      · have ld5 : 3 < ds.length := by rw [al.len, t5]; decide
        rw [same34_of (a := a3) (b := b) (by rw [List.getElem?_set_ne (by decide)]; exact hx3) (List.getElem?_set_self ld5)]
        exact decide_eq_false hab
    · refine ⟨_, rfl, pp, _, rfl, .inl ⟨SqL.of gpp4, fin G8 vs ds k1 kl4' dk4' l4' hd4 al (by omega) hk (fun _ => ?_)⟩⟩
      rw [same34_of hx3 hx4]
      refine decide_eq_false fun z => e2 (decide_eq_true ?_)
      rw [z]
theorem okTerm {f fD fF fL : Addr} {fd fdD fdF fdL : FuncData} {k : Nat} (F : Fun K "_law_term" "_law_term" tTerm f fd) (bF' : Binds K fd psTerm []) (gF' : mg "_law_term" = some (.ref f))
    (GD : ∀ n, FnOk P w K mg base CX0 (k + n) fD fdD ["_law_deck_here", "_law_most"] spDraw) (bD : Binds K fdD ["_law_deck_here", "_law_most"] []) (gD : mg "_law_draw" = some (.ref fD)) (kD : PySem.W.keepIn K (.ref fD) = true)
    (GF : ∀ n, FnOk P w K mg base CX0 (k + n) fF fdF [] spForms) (bF : Binds K fdF [] []) (gF : mg "_law_forms" = some (.ref fF)) (kF : PySem.W.keepIn K (.ref fF) = true)
    (GL : ∀ n, FnOk P w K mg base CX0 (k + n) fL fdL psLeaf spLeaf) (bL : Binds K fdL psLeaf []) (gL : mg "_law_leaf" = some (.ref fL)) (kL : PySem.W.keepIn K (.ref fL) = true)
    (ml : mg "len" = none) (mL : mg "list" = none) (mt : mg "tuple" = none) (mi : mg "int" = none) : ∀ n, FnOk P w K mg base CX0 (k + n) f fd psTerm (spTerm n)
  | 0 => noFn fun vs H Q E h => by
    obtain ⟨d, c, o, l, xs, g, k0, _, h1, h2, _⟩ := h
    omega
  | n + 1 => okTerm1 F bF' gF' (GD n) bD gD kD (GF n) bF gF kF (GL n) bL gL kL (okTerm F bF' gF' GD bD gD kD GF bF gF kF GL bL gL kL ml mL mt mi n) ml mL mt mi
end
end Kq

namespace Kq
open PySem PySem.Spec PyProof.Rows L2 Kf Kg Kv GxR
abbrev tLName : Stmt := tp 37
theorem take_all_no {α : Type} {f : α → Bool} {xs : List α} {i : Nat} {x : α} (hx : xs[i]? = some x) (e : f x = false) : (xs.take (i + 1)).all f = false := by
  rw [List.take_add_one, hx, List.all_append]
  simp [e]
theorem take_all_yes {α : Type} {f : α → Bool} {xs : List α} {i : Nat} {x : α} (hx : xs[i]? = some x) (e : f x = true) : (xs.take (i + 1)).all f = (xs.take i).all f := by
  rw [List.take_add_one, hx, List.all_append]
  simp [e]
theorem app_ne {α : Type} (xs : List α) (x : α) : (xs ++ [x]).isEmpty = false := by
  cases xs <;> rfl
section
variable {P : Program} {w : World} {K : PySem.W.Frag} {mg : Str → Option Value} {base : Heap}
theorem scLName : FnScope ["_law_thing", "_law_sign"] ["_law_thing"] (defScope tLName) := ⟨rfl, rfl, rfl, by decide +kernel, rfl, by decide +kernel, by decide +kernel⟩
def spLYes (p : Dt → Bool) : Sp := fun vs H Q _ => ∃ (v : V) (x : Dt), vs = [v] ∧ Dd Any H x v ∧ x.wt ≤ sizeLine ∧ ∀ G : Hp, Same H G → Q (.bl (p x)) G
theorem okLName {f : Addr} {fd : FuncData} {k : Nat} (F : Fun K "_law_is_name" "_law_is_name" tLName f fd) (mi : mg "isinstance" = none) (ms : mg "str" = none) (ml : mg "len" = none) : FnOk P w K mg base CX0 (k + 1) f fd ["_law_thing"] (spLYes nmD) := by
  refine F.ok scLName (fun vs H Q E h => ?_) (fun cdv A outer s H vs Q E hr h => ?_)
  · obtain ⟨v, x, rfl, _⟩ := h
    rfl
  obtain ⟨v, x, rfl, hd, hw, q⟩ := h
  refine ⟨_, pss_cons (ps_if (PW.pt (pw_or (pt_not (pt_val (pe_callB (isiK K rfl) (by rfl) mi PyProof.Rows.boot_isinstance (pa_cons (pv 0) (pa_cons (pe_bltn (v := .ty "str") (by rfl) ms PyProof.Rows.boot_str rfl) pa_nil)))))
      (pw_or (pt_cmpR op_lt (pe_callB call_len_str (by rfl) ml PySem.boot_len (pa_cons (pv 0) pa_nil)) pe_int (nomark _))
      (pw_or1 (pt_cmpR op_gt (pe_callB call_len_str (by rfl) ml PySem.boot_len (pa_cons (pv 0) pa_nil)) pe_int (nomark _))))))
      (pss_one (ps_ret pe_bl)) pss_nil)
    (pss_one (ps_ret (pe_cmpR (op_eqL0 hr.units) (pe_lc (own := [("_law_sign", 1)]) (g := gName 1) (by rfl) scLName.nd (pi_str (pv 0)) (blkOk_by (own := [("_law_sign", 1)]) (N := ["_law_thing", "_law_sign"]) (sc := defScope tLName) (by decide +kernel))
      (fun _ _ _ _ _ => pg_name (i := 1) scLName.nd rfl (.inl rfl)) (fun _ _ _ _ _ => pts_one (pt_cmpR op_notIn_sign (pv 1) pe_str rfl)) (fun _ _ _ _ _ => pv 1)) (pe_lst pa_nil) (nomark _)))), ?_⟩
  refine ⟨_, rfl, _, _, _, _, x.isStr, rfl, .ty "str", hd.ty, kStr K x, _, rfl, ?_⟩
  refine ite2 (fun e => iteT ?_) (fun e => ?_)
  · have e1 : nmD x = false := by
      cases x <;> first | rfl | cases e
    have z := q _ (Same.refl H)
    rw [e1] at z
    exact z
  obtain ⟨y, rfl⟩ : ∃ y, x = .str y := by
    cases x with
    | str y => exact ⟨y, rfl⟩
    | _ => exact absurd rfl e
  cases hd
  have hl : y.length ≤ sizeLine := by
    have : (Dt.str y).wt = 10 * y.length + 2 := by simp only [Dt.wt]
    omega
  have no : (decide (1 ≤ y.length) && decide (y.length ≤ 8)) = false → Q (.bl false) H := fun e => by
    have z := q _ (Same.refl H)
    have e2 : nmD (.str y) = false := by
      show (decide (1 ≤ y.length) && decide (y.length ≤ 8) && _) = false
      rw [e, Bool.false_and]
    rw [e2] at z
    exact z
  refine ⟨_, rfl, y, rfl, hl, _, _, rfl, rfl, _, rfl, ite2 (fun e1 => iteT (no ?_)) (fun e1 => ?_)⟩
  · have : (y.length : Int) < 1 := of_decide_eq_true e1
    rw [decide_eq_false (show ¬ 1 ≤ y.length by omega), Bool.false_and]
  have h1 : 1 ≤ y.length := by
    have : ¬ (y.length : Int) < 1 := fun z => e1 (decide_eq_true z)
    omega
  refine ⟨_, rfl, y, rfl, hl, _, _, rfl, rfl, _, rfl, ite2 (fun e2 => no ?_) (fun e2 => ?_)⟩
  · have : (y.length : Int) > 8 := of_decide_eq_true e2
    rw [decide_eq_false (show ¬ y.length ≤ 8 by omega), Bool.and_false]
  have h2 : y.length ≤ 8 := by
    have : ¬ (y.length : Int) > 8 := fun z => e2 (decide_eq_true z)
    omega
  have et : nmD (.str y) = y.cps.toList.all isLo := by
    show (decide (1 ≤ y.length) && decide (y.length ≤ 8) && _) = _
    rw [decide_eq_true h1, decide_eq_true h2]
    rfl
  refine ⟨_, rfl, y, rfl, fun D nD => ?_⟩
  have lsz : y.cps.size ≤ 8 := h2
  refine lc_it walk_str (fun i F => Same H F ∧ ∃ ws, F D = some (.lst ws) ∧ ws.length ≤ i ∧ ws.isEmpty = (y.cps.toList.take i).all isLo) ⟨newS nD, [], upd_same, Nat.zero_le _, rfl⟩ (fun i F _ _ => trivial) (fun i x F F' hi z yy => ?_) (fun F z => ?_)
  · obtain ⟨sF, ws, gD, lw, al⟩ := z
    obtain ⟨rfl, c, hc, rfl⟩ := yy
    have hc' : y.cps.toList[i]? = some c := by rw [Array.getElem?_toList]; exact hc
    refine ⟨rfl, _, rfl, c, lets, rfl, rfl, _, rfl, ite2 (fun e => ?_) (fun e => ?_)⟩
    · refine ⟨_, rfl, ws, gD, small1000 (by omega), smk sF nD, _, upd_same, ?_, ?_⟩
      · rw [List.length_append, List.length_singleton]
        omega
      · rw [take_all_no hc' (by simpa [isLo] using e), app_ne]
    · exact ⟨sF, ws, gD, by omega, by rw [al, take_all_yes hc' (by simpa [isLo] using e)]⟩
  · obtain ⟨sF, ws, gD, lw, al⟩ := z
    have el : y.cps.toList.take y.cps.size = y.cps.toList := by
      rw [← Array.length_toList, List.take_length]
    rw [el] at al
    refine ⟨Nat.zero_le _, fun e ne => ⟨D, e, ws, rfl, rfl, SqL.of (newS ne _ _ gD), SqL.of upd_same, ?_⟩⟩
    have z := q _ (sF.trans (newS (o := .lst []) ne))
    rw [et, ← al] at z
    exact z
end
end Kq

namespace Kq
open PySem PySem.Spec PyProof.Rows L2 Kf Kg Kv GxR
abbrev tLData : Stmt := tp 38
theorem d_open (ys : List Dt) : dat (.tup (.str "open" :: ys)) = (decide (ys.length = 1) && nm1 ys) := by
  rw [dat_eq, frm_eq]
  have e1 : ar "open" = some 1 := by decide +kernel
  have e2 : prt (.tup (.str "open" :: ys)) = [] := by
    show (if ("open" : Str) = "open" then [] else ys) = []
    exact if_pos rfl
  rw [e1, e2, show decide (("open" : Str) = "fun") = false by decide +kernel, show decide (("open" : Str) = "open") = true by decide +kernel]
  simp
theorem d_in {wd : Str} {m : Nat} (h : ar wd = some m) (h1 : wd ≠ "fun") (h2 : wd ≠ "open") (ys : List Dt) : dat (.tup (.str wd :: ys)) = (decide (ys.length = m) && ys.all dat) := by
  rw [dat_eq, frm_eq]
  have e2 : prt (.tup (.str wd :: ys)) = ys := by
    show (if wd = "open" then [] else ys) = ys
    exact if_neg h2
  rw [h, e2, decide_eq_false h1, decide_eq_false h2]
  simp
theorem d_no {wd : Str} (h : ar wd = none) (ys : List Dt) : dat (.tup (.str wd :: ys)) = false := by
  rw [dat_eq, frm_eq, h]
  simp
theorem d_fun (ys : List Dt) : dat (.tup (.str "fun" :: ys)) = false := by
  rw [dat_eq, frm_eq, show decide (("fun" : Str) = "fun") = true by decide +kernel]
  simp
def mks : List (Key × V) := [(.inr "num", .int 0), (.inr "truth", .int 0), (.inr "list", .int 1), (.inr "pair", .int 2), (.inr "either", .int 2)]
theorem mks_m : mergeK [] mks = mks := by decide +kernel
theorem mks_see (wd : Str) : (valV mks (.inr wd) = none ∧ (wd ≠ "open" → ar wd = none ∨ wd = "fun")) ∨ ∃ m : Nat, valV mks (.inr wd) = some (.int (m : Int)) ∧ ar wd = some m ∧ wd ≠ "fun" ∧ wd ≠ "open" := by
  by_cases h1 : wd = "num"
  · subst h1
    exact .inr ⟨0, by decide +kernel, by decide +kernel, by decide +kernel, by decide +kernel⟩
  by_cases h2 : wd = "truth"
  · subst h2
    exact .inr ⟨0, by decide +kernel, by decide +kernel, by decide +kernel, by decide +kernel⟩
  by_cases h3 : wd = "list"
  · subst h3
    exact .inr ⟨1, by decide +kernel, by decide +kernel, by decide +kernel, by decide +kernel⟩
  by_cases h4 : wd = "pair"
  · subst h4
    exact .inr ⟨2, by decide +kernel, by decide +kernel, by decide +kernel, by decide +kernel⟩
  by_cases h5 : wd = "either"
  · subst h5
    exact .inr ⟨2, by decide +kernel, by decide +kernel, by decide +kernel, by decide +kernel⟩
  refine .inl ⟨?_, fun h0 => ?_⟩
  · have ne : ∀ z : Str, ¬ wd = z → ¬ (Sum.inr z : Key) = Sum.inr wd := fun z h e => h (Sum.inr.inj e).symm
    unfold mks
    rw [valV_neg (ne _ h1), valV_neg (ne _ h2), valV_neg (ne _ h3), valV_neg (ne _ h4), valV_neg (ne _ h5)]
    rfl
  · by_cases c : wd = "fun"
    · exact .inr c
    · refine .inl ?_
      unfold ar
      rw [if_neg h0, if_neg h1, if_neg h2, if_neg h4, if_neg h5, if_neg h3, if_neg c]
section
variable {P : Program} {w : World} {K : PySem.W.Frag} {mg : Str → Option Value} {base : Heap}
abbrev nLData : List Str := ["_law_thing", "_law_many", "_law_inner"]
theorem scLData : FnScope nLData ["_law_thing"] (defScope tLData) := ⟨rfl, rfl, rfl, by decide +kernel, rfl, by decide +kernel, by decide +kernel⟩
def spLData (n : Nat) : Sp := fun vs H Q _ => ∃ (v : V) (x : Dt), vs = [v] ∧ x.dp + 1 ≤ n ∧ Dd Any H x v ∧ x.wt ≤ sizeLine ∧ ∀ G : Hp, Same H G → Q (.bl (dat x)) G
theorem okLData1 {f fN : Addr} {fd fdN : FuncData} {n : Nat} (F : Fun K "_law_is_data" "_law_is_data" tLData f fd) (bF : Binds K fd ["_law_thing"] []) (gF : mg "_law_is_data" = some (.ref f))
    (GN : FnOk P w K mg base CX0 (n + 2) fN fdN ["_law_thing"] (spLYes nmD)) (bN : Binds K fdN ["_law_thing"] []) (gN : mg "_law_is_name" = some (.ref fN)) (kN : PySem.W.keepIn K (.ref fN) = true)
    (mi : mg "isinstance" = none) (mt : mg "tuple" = none) (ms : mg "str" = none) (ml : mg "len" = none)
    (GI : FnOk P w K mg base CX0 (n + 2) f fd ["_law_thing"] (spLData n)) : FnOk P w K mg base CX0 (n + 3) f fd ["_law_thing"] (spLData (n + 1)) := by
  refine F.ok scLData (fun vs H Q E h => ?_) (fun cdv A outer s H vs Q E hr h => ?_)
  · obtain ⟨v, x, rfl, _⟩ := h
    rfl
  obtain ⟨v, x, rfl, hn, hd, hw, q⟩ := h
  refine ⟨_, pss_cons (ps_if (PW.pt (pw_or (pt_not (pt_val (pe_callB (isiK K rfl) (by rfl) mi PyProof.Rows.boot_isinstance (pa_cons (pv 0) (pa_cons (pe_bltn (v := .ty "tuple") (by rfl) mt PyProof.Rows.boot_tuple rfl) pa_nil)))))
      (pw_or (pt_cmpR (op_eqTT hr.units) (pv 0) (pe_tup pa_nil) (nomark _))
      (pw_or1 (pt_not (pt_val (pe_callB (isiK K rfl) (by rfl) mi PyProof.Rows.boot_isinstance (pa_cons (pe_ix ix_tup (pv 0) pe_int (fun _ _ => rfl)) (pa_cons (pe_bltn (v := .ty "str") (by rfl) ms PyProof.Rows.boot_str rfl) pa_nil)))))))))
      (pss_one (ps_ret pe_bl)) pss_nil)
    (pss_cons (ps_if (pt_cmpR op_eq (pe_ix ix_tup (pv 0) pe_int (fun _ _ => rfl)) pe_str (nomark _))
      (pss_one (ps_ret (pe_and (pe_cmpR op_eq (pe_callB call_len_seq (by rfl) ml PySem.boot_len (pa_cons (pv 0) pa_nil)) pe_int (nomark _)) (pe_one (pe_call GN hr (by rfl) gN kN bN .nil pass0 (pa_cons (pe_ix ix_tup (pv 0) pe_int (fun _ _ => rfl)) pa_nil)))))) pss_nil)
    (pss_cons (ps_set (i := 1) scLData.nd rfl (.inl rfl) (pe_disp (pps_cons pe_str pe_int (pps_cons pe_str pe_int (pps_cons pe_str pe_int (pps_cons pe_str pe_int (pps_cons pe_str pe_int pps_nil))))) (by rfl) (by rfl) (fun z => by cases z) (by decide)))
    (pss_cons (ps_if (PW.pt (pw_or (pt_cmp (pc_dnotin (Nat.lt_of_le_of_lt (Nat.add_le_add_left (show 1 ≤ 64 by decide) _) hr.units) (pe_ix ix_tup (pv 0) pe_int (fun _ _ => rfl)) (pv 1)))
        (pw_or1 (pt_cmpR op_ne (pe_callB call_len_seq (by rfl) ml PySem.boot_len (pa_cons (pv 0) pa_nil)) (pe_op op_add pe_int (pe_dget (Nat.lt_of_le_of_lt (Nat.add_le_add_left (show 1 ≤ 64 by decide) _) hr.units) (pv 1) (pe_ix ix_tup (pv 0) pe_int (fun _ _ => rfl)) (fun _ _ => rfl))) (nomark _)))))
      (pss_one (ps_ret pe_bl)) pss_nil)
    (pss_one (ps_ret (pe_cmpR (op_eqL0 hr.units) (pe_lc (own := [("_law_inner", 2)]) (g := gName 2) (by rfl) scLData.nd (pi_tup (pe_slice sl_tup (pv 0) (po_some pe_int) po_none)) (blkOk_by (own := [("_law_inner", 2)]) (N := nLData) (sc := defScope tLData) (by decide +kernel))
        (fun _ _ _ _ _ => pg_name (i := 2) scLData.nd rfl (.inl rfl)) (fun _ _ _ _ _ => pts_one (pt_not (pt_val (pe_call GI hr (by rfl) gF F.kp bF .nil pass0 (pa_cons (pv 2) pa_nil))))) (fun _ _ _ _ _ => pv 2)) (pe_lst pa_nil) (nomark _))))))), ?_⟩
  have no : ∀ G, Same H G → dat x = false → Q (.bl false) G := fun G sG e => by
    have z := q _ sG
    rw [e] at z
    exact z
  refine ⟨_, rfl, _, _, _, _, x.isTup, rfl, .ty "tuple", hd.ty, kTup K x, _, rfl, ite2 (fun e => iteT (no _ (Same.refl H) ?_)) (fun e => ?_)⟩
  · rw [dat_eq]
    have : frm x = false := by cases x <;> first | rfl | cases e
    rw [this]
    rfl
  obtain ⟨xs, rfl⟩ : ∃ xs, x = .tup xs := by
    cases x with
    | tup xs => exact ⟨xs, rfl⟩
    | _ => exact absurd rfl e
  obtain ⟨a, us, rfl, ha, hL⟩ := Dd.tupS hd
  refine ⟨_, rfl, Nat.zero_le _, fun p0 np0 => ?_⟩
  have s0 : Same H (upd H p0 (.tup [])) := newS np0
  refine ⟨a, p0, us, [], rfl, rfl, SqT.of (s0 _ _ ha), SqT.of upd_same, (fun i u v _ z => by cases z), _, rfl, ite2 (fun e => iteT (no _ s0 ?_)) (fun e => ?_)⟩
  · have : us = [] := of_decide_eq_true e
    subst this
    cases hL
    rw [dat_eq]
    rfl
  rcases DdL.see hL with ⟨rfl, rfl⟩ | ⟨y, ys, u0, ws, rfl, rfl, hy, hys⟩
  · exact absurd (decide_eq_true rfl) e
  generalize upd H p0 (.tup []) = H0 at s0
  have ha0 := s0 _ _ ha
  have hix : atI (u0 :: ws) 0 = some u0 := atI_nat (j := 0) rfl
  refine ⟨_, rfl, a, _, _, _, rfl, rfl, SqT.of ha0, hix, _, _, _, _, y.isStr, rfl, .ty "str", (hy.same s0).ty, kStr K y, _, rfl, ite2 (fun e => no _ s0 ?_) (fun e => ?_)⟩
  · rw [dat_eq]
    have : frm (.tup (y :: ys)) = false := by cases y <;> first | rfl | cases e
    rw [this]
    rfl
  obtain ⟨wd, rfl⟩ : ∃ z, y = .str z := by
    cases y with
    | str z => exact ⟨z, rfl⟩
    | _ => exact absurd rfl e
  cases hy
  have ly := hys.len
  refine ⟨_, rfl, a, _, _, _, rfl, rfl, SqT.of ha0, hix, rfl, _, rfl, ite2 (fun e3 => ?_) (fun n3 => ?_)⟩
  · have e4 : wd = "open" := V.str.inj (of_decide_eq_true e3)
    subst e4
    refine ⟨_, rfl, a, _, rfl, .inr (SqT.of ha0), rfl, _, rfl, ite2 (fun e5 => ?_) (fun e5 => no _ s0 ?_)⟩
    · have e6 : (((V.str "open" :: ws).length : Nat) : Int) = 2 := V.int.inj (of_decide_eq_true e5)
      rw [List.length_cons] at e6
      rcases DdL.see hys with ⟨rfl, rfl⟩ | ⟨y, ys', u1, ws', rfl, rfl, hy, _⟩
      · cases e6
      rw [List.length_cons] at e6
      have hwy := wts_mem (xs := .str "open" :: y :: ys') (x := y) (by simp)
      have hw2 : (Dt.tup (.str "open" :: y :: ys')).wt = Dt.wts (.str "open" :: y :: ys') + 3 := by simp only [Dt.wt]
      refine ⟨_, rfl, a, _, _, _, rfl, rfl, SqT.of ha0, atI_nat (j := 1) rfl, u1, y, rfl, hy.same s0, by omega, fun G sG => ?_⟩
      have z := q _ (s0.trans sG)
      rw [d_open, decide_eq_true (by rw [ly]; simp only [List.length_cons]; omega)] at z
      exact z
    · have e6 : ¬ (((V.str "open" :: ws).length : Nat) : Int) = 2 := fun z => e5 (decide_eq_true (congrArg V.int z))
      rw [List.length_cons] at e6
      rw [d_open, decide_eq_false (by omega)]
      rfl
  have n3 : ¬ wd = "open" := fun z => n3 (decide_eq_true (by rw [z]))
  refine fun d nd => ⟨upd_same, mks, rfl, by decide, ?_⟩
  rw [mks_m]
  have s1 : Same H (upd (upd H0 d (.dK [])) d (.dK mks)) := fun b u e => by
    rw [upd_ne (ne_of_none (s0 _ _ e) nd), upd_ne (ne_of_none (s0 _ _ e) nd)]
    exact s0 _ _ e
  have gd : (upd (upd H0 d (.dK [])) d (.dK mks)) d = some (.dK mks) := upd_same
  generalize upd (upd H0 d (.dK [])) d (.dK mks) = H4 at s1 gd
  have ha4 := s1 _ _ ha
  refine ⟨_, rfl, a, _, _, _, rfl, rfl, SqT.of ha4, hix, _, rfl, d, _, rfl, .inl ⟨mks, .inr wd, .inl gd, rfl, rfl⟩, _, rfl, ?_⟩
  rcases mks_see wd with ⟨hv, hno⟩ | ⟨m, hv, hm, hf, ho⟩
  · rw [hv]
    refine iteT (no _ s1 ?_)
    rcases hno n3 with e | e
    · exact d_no e ys
    · rw [e]
      exact d_fun ys
  rw [hv]
  refine iteF ?_
  have hdat := d_in hm hf n3 ys
  refine ⟨_, rfl, a, _, rfl, .inr (SqT.of ha4), _, rfl, _, rfl, a, _, _, _, rfl, rfl, SqT.of ha4, hix, d, .int (m : Int), rfl, .inl ⟨mks, .inr wd, .inl gd, rfl, hv.symm⟩, _, _, rfl, rfl, rfl, _, rfl, ?_⟩
  refine ite2 (fun e5 => no _ s1 ?_) (fun e5 => ?_)
  · have e6 : ¬ ys.length = m := fun z => by
      have : (((V.str wd :: ws).length : Nat) : Int) = 1 + (m : Int) := by
        rw [List.length_cons]
        omega
      rw [this, decide_eq_true rfl] at e5
      cases e5
    rw [hdat, decide_eq_false e6]
    rfl
  have e6 : ys.length = m := by
    by_cases z : ys.length = m
    · exact z
    · refine absurd ?_ e5
      have : ¬ (((V.str wd :: ws).length : Nat) : Int) = 1 + (m : Int) := by
        rw [List.length_cons]
        omega
      rw [decide_eq_false (fun h => this (V.int.inj h))]
      rfl
  rw [decide_eq_true e6, Bool.true_and] at hdat
  refine ⟨_, rfl, 1, rfl, a, _, rfl, SqT.of ha4, notWhole _ _, fun p np => ?_⟩
  rw [cutFrom1]
  have s5 : Same H (upd H4 p (.tup ws)) := s1.trans (newS np)
  refine ⟨p, rfl, ⟨_, SqT.of upd_same⟩, fun D nD => ?_⟩
  have hpD : p ≠ D := ne_of_none upd_same nD
  have hD : H D = none := s5.free nD
  have hws : Dt.wts (.str wd :: ys) + 3 = (Dt.tup (.str wd :: ys)).wt := by simp only [Dt.wt]
  have hwd : Dt.wts (.str wd :: ys) = (Dt.str wd).wt + 2 + Dt.wts ys := by simp only [Dt.wts]
  have hdp : (Dt.tup (.str wd :: ys)).dp = max (Dt.str wd).dp (Dt.dps ys) + 1 := by simp only [Dt.dp, Dt.dps]
  have l1 := len_szs ys
  have l2 := Dt.szs_wts ys
  refine lc_tup (xs := ws) (fun i F => Same H F ∧ F p = some (.tup ws) ∧ ∃ zs, F D = some (.lst zs) ∧ zs.length ≤ i ∧ zs.isEmpty = (ys.take i).all dat) ?_ (fun i F _ z => SqT.of z.2.1) (fun i x F hx z => ?_) (fun F z => ?_)
  · exact ⟨smk s5 hD, by rw [upd_ne hpD]; exact upd_same, [], upd_same, Nat.zero_le _, rfl⟩
  · obtain ⟨sF, gp, zs, gD, lz, al⟩ := z
    obtain ⟨y, hy, ry⟩ := hys.get hx
    have my := List.mem_of_getElem? hy
    have d1 := dps_mem' my
    have w1 := wts_mem my
    have li := (List.getElem?_eq_some_iff.mp hx).1
    refine ⟨rfl, _, rfl, x, y, rfl, by omega, ry.same sF, by omega, fun F2 sF2 => ⟨_, rfl, ite2 (fun e => ?_) (fun e => ?_)⟩⟩
    · refine ⟨_, rfl, zs, sF2 _ _ gD, by omega, smk (sF.trans sF2) hD, by rw [upd_ne hpD]; exact sF2 _ _ gp, _, upd_same, ?_, ?_⟩
      · rw [List.length_append, List.length_singleton]
        omega
      · rw [take_all_no hy (by simpa using e), app_ne]
    · exact ⟨sF.trans sF2, sF2 _ _ gp, zs, sF2 _ _ gD, by omega, by rw [al, take_all_yes hy (by simpa using e)]⟩
  · obtain ⟨sF, gp, zs, gD, lz, al⟩ := z
    rw [← ly, List.take_length] at al
    refine ⟨Nat.zero_le _, fun e ne => ⟨D, e, zs, rfl, rfl, SqL.of (newS ne _ _ gD), SqL.of upd_same, ?_⟩⟩
    have z := q _ (sF.trans (newS (o := .lst []) ne))
    rw [hdat, ← al] at z
    exact z
theorem okLData {f fN : Addr} {fd fdN : FuncData} (F : Fun K "_law_is_data" "_law_is_data" tLData f fd) (bF : Binds K fd ["_law_thing"] []) (gF : mg "_law_is_data" = some (.ref f))
    (FN : Fun K "_law_is_name" "_law_is_name" tLName fN fdN) (bN : Binds K fdN ["_law_thing"] []) (gN : mg "_law_is_name" = some (.ref fN))
    (mi : mg "isinstance" = none) (mt : mg "tuple" = none) (ms : mg "str" = none) (ml : mg "len" = none) : ∀ n, FnOk P w K mg base CX0 (n + 2) f fd ["_law_thing"] (spLData n)
  | 0 => noFn fun vs H Q E h => by
    obtain ⟨v, x, _, hn, _⟩ := h
    omega
  | n + 1 => okLData1 F bF gF (okLName FN mi ms ml) bN gN FN.kp mi mt ms ml (okLData F bF gF FN bN gN mi mt ms ml n)
end
end Kq

namespace Ks
open PySem PySem.Spec PyProof.Rows L2
/-! a set of texts -/
def tx (e : Int × Value) : Str := match e.2 with
  | .str x _ => x
  | _ => Str.empty
def GoodT (w : World) (e : Int × Value) : Prop := ∃ x t, e.2 = Value.str x t ∧ e.1 = hashStr w x
structure SetT (w : World) (es : Array (Int × Value)) (t : SetTable) (S : Str → Bool) (n : Nat) : Prop where
  good : ∀ e ∈ es.toList, GoodT w e
  nd : (es.toList.map tx).Nodup
  mem : ∀ k, S k = true ↔ k ∈ es.toList.map tx
  few : es.size < scanBound
  fit : t.fits es.size = true
  num : es.size = n
  ris : Ris t.place.toList
  led : w.params.followText "set-order" = true ∨ t.led = true
def SetS (w : World) (h : Heap) (a : Addr) (S : Str → Bool) (n : Nat) : Prop :=
  ∃ o es ep t, h.get? a = some o ∧ o.ExactSet ∧ o.data = .set es ep t ∧ SetT w es t S n
section
variable {P : Program} {w : World} {A : Around} {E : Value → Shared → Prop} {s : Shared} {a : Addr} {S : Str → Bool} {n : Nat}
theorem kis (x : Str) (t : Tok) : (PySem.strKind P w).is x (.str x t) = true := by
  show Value.isStrOf x (.str x t) = true
  simp [Value.isStrOf]
theorem goodElems {l : List (Int × Value)} (g : ∀ e ∈ l, GoodT w e) : ElemsOf (PySem.strKind P w) l := fun e he => by
  obtain ⟨x, t, h1, h2⟩ := g e he
  refine ⟨⟨x, ?_, h2⟩, ?_⟩
  · rw [h1]
    exact kis x t
  · rw [h1] <;> rfl
theorem goodMem {l : List (Int × Value)} (g : ∀ e ∈ l, GoodT w e) (k : Str) : k ∈ l.map tx ↔ ∃ e ∈ l, (PySem.strKind P w).is k e.2 = true := by
  have one : ∀ e ∈ l, ((PySem.strKind P w).is k e.2 = true ↔ tx e = k) := fun e he => by
    obtain ⟨x, t, h1, _⟩ := g e he
    unfold tx
    rw [h1]
    constructor
    · intro z
      obtain ⟨u, hu⟩ := Value.isStrOf_shape (show Value.isStrOf k (.str x t) = true from z)
      injection hu
    · intro z
      show (PySem.strKind P w).is k (.str x t) = true
      have z' : x = k := z
      rw [z']
      exact kis k t
  rw [List.mem_map]
  exact ⟨fun ⟨e, he, q⟩ => ⟨e, he, (one e he).2 q⟩, fun ⟨e, he, q⟩ => ⟨e, he, (one e he).1 q⟩⟩
theorem typ (R : SetS w s.heap a S n) : s.TypeIs (.ref a) "set" := by
  obtain ⟨o, es, ep, t, ho, hx, _⟩ := R
  exact ⟨o, ho, hx.1⟩
theorem after {h : Heap} {o : Obj} {es es' : Array (Int × Value)} {ep : Nat} {t t' : SetTable} (ho : h.get? a = some o) (hd : o.data = .set es ep t) :
    (h.update a (Obj.putSet es' t')).get? a = some { o with data := .set es' (ep + 1) t' } := by
  have q := Heap.get?_update_self (Obj.putSet es' t') ho (by rw [putSet_of es' t' hd]; rfl)
  rw [putSet_of es' t' hd] at q
  exact q
theorem tail {g : Bool → Sem Unit} (hg : ∀ (b : Bool) (s₁ : Shared) (Q' : Unit → Shared → Prop), Q' () s₁ → wpAny (model P w) A (g b) Q' E s₁)
    {o : Obj} {es : Array (Int × Value)} {ep : Nat} {t : SetTable} (ho : s.heap.get? a = some o) (hex : o.ExactSet) (hd : o.data = .set es ep t)
    {fs : Array (Int × Value)} {u : SetTable} {S' : Str → Bool} (T : SetT w fs u S' fs.size) {wd : Bool} {R : Option Bool → Shared → Prop}
    (hR : ∀ h', Heap.SameBut a s.heap h' → SetS w h' a S' fs.size → R (some true) { s with heap := h' }) :
    wpAny (model P w) A (do
        storeSet a fs u
        if (!wd && u.tooFull) = true then do
            g (relayAll u fs (SetTable.grown fs.size)).2.2
            storeSet a (relayAll u fs (SetTable.grown fs.size)).1 (relayAll u fs (SetTable.grown fs.size)).2.1
            pure (some true)
          else pure (some true)) R E s := by
  refine wpAny_bind (wpAny_storeSet_of ho hd ?_ (fits_of_scanBound T.few))
  have o1 := after (es' := fs) (t' := u) ho hd
  have sb := Heap.SameBut.update s.heap a (Obj.putSet fs u)
  split
  · have pm := relayAll_perm u fs (SetTable.grown fs.size)
    have f3 := relayAll_fits u fs (SetTable.grown fs.size)
    have r3 := relayAll_ris u fs (SetTable.grown fs.size)
    have l3 := relayAll_led u fs (SetTable.grown fs.size)
    generalize relayAll u fs (SetTable.grown fs.size) = Z at pm f3 r3 l3 ⊢
    obtain ⟨gs, v, gave⟩ := Z
    dsimp only at pm f3 r3 l3 ⊢
    have e : gs.size = fs.size := by
      rw [← Array.length_toList, pm.length_eq, Array.length_toList]
    have few : gs.size < scanBound := by
      rw [e]
      exact T.few
    refine wpAny_bind (hg _ _ _ ?_)
    refine wpAny_bind (wpAny_storeSet_of o1 rfl ?_ (fits_of_scanBound few))
    have o2 := after (es' := gs) (t' := v) o1 rfl
    refine wpAny_pure (hR _ (sb.trans (Heap.SameBut.update _ a _)) ⟨_, gs, _, v, o2, hex, rfl, ?_⟩)
    exact ⟨fun x hx => T.good x (pm.mem_iff.mp hx), (pm.map tx).nodup_iff.mpr T.nd, fun k => (T.mem k).trans (pm.map tx).mem_iff.symm, few, f3, e, r3, T.led.imp id fun z => by rw [l3]; exact z⟩
  · exact wpAny_pure (hR _ sb ⟨_, fs, _, u, o1, hex, rfl, T⟩)
theorem addHashed {k : Str} {tk : Tok} {Q : Bool → Shared → Prop} (R : SetS w s.heap a S n) (room : n + 1 < scanBound)
    (hQ : ∀ h', Heap.SameBut a s.heap h' → SetS w h' a (fun j => S j || decide (j = k)) (if S k = true then n else n + 1) → Q (!S k) { s with heap := h' }) :
    wpAny (model P w) A (setAddHashed a (.str k tk) ((PySem.strKind P w).hash k)) Q E s := by
  obtain ⟨o, es, ep, t, ho, hex, hd, T⟩ := R
  have key := kis (P := P) (w := w) k tk
  have sc : (Value.str k tk).scannable = true := rfl
  have el : ElemsOf (PySem.strKind P w) es.toList := goodElems T.good
  unfold setAddHashed setAddHashedIn
  refine wpAny_holding (wpAny_bind (wpAny_setState_of ho hd T.fit ?_))
  dsimp only
  rw [byScan_of sc T.few el]
  simp only [↓reduceIte]
  unfold setAddByScan
  refine wpAny_bind ?_
  refine wpAny_bind (wpAny_rule ?_)
  refine wpAny_bind (wpAny_setScan_of key ho hd T.fit el ?_)
  cases fi : List.findIdx? (fun e => (PySem.strKind P w).is k e.2) es.toList with
  | some j =>
    dsimp only
    obtain ⟨hj, pj, _⟩ := List.findIdx?_eq_some_iff_getElem.mp fi
    have yes : S k = true := (T.mem k).2 ((goodMem (P := P) T.good k).2 ⟨es.toList[j], List.getElem_mem hj, pj⟩)
    refine wpAny_pure (wpAny_pure ?_)
    have q := hQ s.heap (Heap.SameBut.refl a s.heap) ⟨o, es, ep, t, ho, hex, hd, T.good, T.nd, fun i => by
      rw [Bool.or_eq_true, decide_eq_true_eq, ← T.mem i]
      exact ⟨fun z => z.elim id (fun e => e ▸ yes), .inl⟩, T.few, T.fit, by rw [if_pos yes]; exact T.num, T.ris, T.led⟩
    rw [yes] at q
    exact q
  | none =>
    dsimp only
    have out : k ∉ es.toList.map tx := fun z => by
      obtain ⟨e, he, q⟩ := (goodMem (P := P) T.good k).1 z
      have c := List.findIdx?_eq_none_iff.mp fi e he
      rw [q] at c
      cases c
    have no : S k = false := by
      cases q : S k with
      | false => rfl
      | true => exact absurd ((T.mem k).1 q) out
    have gw : ∀ (b : Bool) {s₁ : Shared} {Q' : Unit → Shared → Prop}, Q' () s₁ → wpAny (model P w) A (match b with
        | true => rule "set.scan.the-table-gave-way"
        | false => pure ()) Q' E s₁ := fun b s₁ Q' q => by
      cases b
      · exact wpAny_pure q
      · exact wpAny_rule q
    have pm := layNew_perm t es ((PySem.strKind P w).hash k) (.str k tk)
    have f1 := layNew_fits t es ((PySem.strKind P w).hash k) (.str k tk)
    have r1 := layNew_ris t es ((PySem.strKind P w).hash k) (.str k tk) T.ris
    have l1 := layNew_led t es ((PySem.strKind P w).hash k) (.str k tk)
    generalize layNew t es ((PySem.strKind P w).hash k) (.str k tk) = Z at pm f1 r1 l1 ⊢
    obtain ⟨fs, u, wd, gave⟩ := Z
    dsimp only at pm f1 r1 l1 ⊢
    rw [Array.toList_push] at pm
    have pc : fs.toList.Perm (((PySem.strKind P w).hash k, Value.str k tk) :: es.toList) := pm.trans (List.perm_append_singleton _ _)
    have pk : (fs.toList.map tx).Perm (k :: es.toList.map tx) := pc.map tx
    have e1 : fs.size = n + 1 := by
      rw [← Array.length_toList, pc.length_eq, List.length_cons, Array.length_toList, T.num]
    have T1 : SetT w fs u (fun j => S j || decide (j = k)) fs.size := by
      refine ⟨fun e he => ?_, pk.nodup_iff.mpr (List.nodup_cons.mpr ⟨out, T.nd⟩), fun i => ?_, by rw [e1]; exact room, f1, rfl, r1, T.led.imp id fun z => by rw [l1]; exact z⟩
      · rcases List.mem_cons.mp (pc.mem_iff.mp he) with z | z
        · rw [z]
          exact ⟨k, tk, rfl, rfl⟩
        · exact T.good e z
      · rw [Bool.or_eq_true, decide_eq_true_eq, T.mem i, pk.mem_iff, List.mem_cons]
        exact Or.comm
    have fin : ∀ h', Heap.SameBut a s.heap h' → SetS w h' a (fun j => S j || decide (j = k)) fs.size → Q true { s with heap := h' } := fun h' sb r => by
      have q := hQ h' sb
      rw [no] at q
      rw [e1] at r
      exact q r
    refine wpAny_bind (gw _ ?_)
    split
    · refine wpAny_bind ?_
      rw [hashByValue_scannable 8 sc]
      refine wpAny_pure ?_
      have T2 : SetT w fs (if plainKind (.str k tk) = true then u else { u with plain := false }) (fun j => S j || decide (j = k)) fs.size := by
        split
        · exact T1
        · exact { T1 with fit := SetTable.fits_plain_off T1.fit, ris := T1.ris, led := T1.led }
      refine tail (S' := fun j => S j || decide (j = k)) ?_ ho hex hd T2 ?_
      · intro b s₁ Q' q
        exact gw b q
      · intro h' sb r
        dsimp only
        exact wpAny_pure (fin h' sb r)
    · refine wpAny_bind (wpAny_pure ?_)
      simp only [↓reduceIte]
      refine tail (S' := fun j => S j || decide (j = k)) ?_ ho hex hd T1 ?_
      · intro b s₁ Q' q
        exact gw b q
      · intro h' sb r
        dsimp only
        exact wpAny_pure (fin h' sb r)
/-- set.add of a text -/
theorem addCall {k : Str} {tk : Tok} {Q : Value → Shared → Prop} (R : SetS w s.heap a S n) (room : n + 1 < scanBound)
    (hQ : ∀ h', Heap.SameBut a s.heap h' → SetS w h' a (fun j => S j || decide (j = k)) (if S k = true then n else n + 1) → Q .none { s with heap := h', toks := s.toks + 1 }) :
    wpAny (model P w) A (call (.builtin "set.add") [.ref a, .str k tk]) Q E s := by
  refine wpAny_call_entry F.slot_set_add (typ R) F.entry_set_add ?_ (F.args_set_add_2 _ _)
  unfold Builtin.«set.add» Builtin.Frozenset.oneOther
  simp only [List.isEmpty_nil, bind_assoc]
  unfold Builtin.Frozenset.addrOf setAdd
  refine wpAny_bind (wpAny_pure ?_)
  try dsimp only
  refine wpAny_bind (wpAny_pure ?_)
  try dsimp only
  refine wpAny_bind ?_
  refine wpAny_holding ?_
  refine wpAny_bind ((PySem.strKind P w).pyHash (kis k tk) ?_)
  refine addHashed (s := { s with toks := s.toks + 1 }) R room (fun h' sb r => ?_)
  show wpAny _ _ (ret Value.none) _ _ _
  exact wpAny_pure ⟨_, rfl, hQ h' sb r⟩
theorem fresh {h : Heap} (w : World) : SetS w (h.push { cls := .type "set", dict := none, data := .set #[] 0 (.fresh 0 0 (!w.params.followText "set-order")) }) h.objs.size (fun _ => false) 0 := by
  refine ⟨_, #[], 0, _, Heap.get?_push_size _ rfl, ⟨rfl, rfl, rfl⟩, rfl, ⟨fun e he => ?_, ?_, fun k => ?_, ?_, ?_, rfl, List.Pairwise.nil, ?_⟩⟩
  · simp at he
  · simp
  · simp
  · decide
  · rfl
  · show _ ∨ (!w.params.followText "set-order") = true
    cases w.params.followText "set-order"
    · exact .inr rfl
    · exact .inl rfl
end
/-- the set of texts at a, as a tracked thing -/
def SetH (w : World) (a : Addr) (S : Str → Bool) (n : Nat) : HO := .ext fun h => SetS w h a S n
theorem setH_new {w : World} {P : Program} {H : Hp} {h : Heap} {a : Addr} {S : Str → Bool} {n : Nat} (R : SetS w h a S n) : ObjOk P w H h a (SetH w a S n) := by
  have ⟨o, es, ep, t, ho, r⟩ := R
  refine ⟨R, ⟨o, ho⟩, fun h1 h2 p k => ?_⟩
  obtain ⟨o, es, ep, t, ho, r⟩ := p
  exact ⟨o, es, ep, t, k o ho, r⟩
section
variable {X : Cx} {pins : List (Addr × Obj)} {σ : L2.St} {H : Hp} {s : Shared}
theorem setH_get {a : Addr} {S : Str → Bool} {n : Nat} (I : Inv X pins σ H s) (ha : H a = some (SetH X.w a S n)) : SetS X.w s.heap a S n := (I.hok a _ ha).1
theorem addIn {E : Value → Shared → Prop} {D : Addr} {S : Str → Bool} {n : Nat} {y : Str} {tk : Tok} {Q : Value → Shared → Prop} (I : Inv X pins σ H s) (hD : H D = some (SetH X.w D S n)) (room : n + 1 < scanBound)
    (h : ∀ s', Inv X pins σ (upd H D (SetH X.w D (fun j => S j || decide (j = y)) (if S y = true then n else n + 1))) s' → Q .none s') : wpAny (model X.prog X.w) X.A (call (.builtin "set.add") [.ref D, .str y tk]) Q E s := by
  refine addCall (setH_get I hD) room fun h' sb new => h _ ?_
  have he : ∃ u, h'.get? D = some u := let ⟨o, _, _, _, ho, _⟩ := new; ⟨o, ho⟩
  exact I.write (e := D) (t' := s.toks + 1) (by rw [hD]; trivial) (.inl rfl) (fun b u hb hu => (sb.2 b hb).trans hu) he (setH_new new)
end
end Ks

namespace Ks
open PySem PySem.Spec PyProof.Rows L2
section
variable {P : Program} {w : World} {A : Around} {E : Value → Shared → Prop} {s : Shared} {a : Addr} {S : Str → Bool} {n : Nat}
theorem strsOf {l : List Value} (h : ∀ v ∈ l, ∃ x t, v = Value.str x t) : ∃ xs, StrsAre l xs := by
  induction l with
  | nil => exact ⟨[], .nil⟩
  | cons v l ih =>
    obtain ⟨x, t, rfl⟩ := h v List.mem_cons_self
    obtain ⟨xs, hx⟩ := ih fun u hu => h u (List.mem_cons_of_mem _ hu)
    exact ⟨x :: xs, .cons x t hx⟩
def txv (v : Value) : Str := match v with
  | .str x _ => x
  | _ => Str.empty
theorem strs_eq {l : List Value} {xs : List Str} (h : StrsAre l xs) : xs = l.map txv := by
  induction h with
  | nil => rfl
  | cons x t _ ih =>
    rw [List.map_cons, ← ih]
    rfl
/-- sorted(a set of texts) -/
theorem sortedSet {Q : Value → Shared → Prop} (R : SetS w s.heap a S n) (hh : A.handled = none) (h64 : n < 64)
    (hQ : ∀ (s' : Shared) (p : Addr) (out : Array Value) (c : Nat) (ys : List Str), (∀ b o, s.heap.get? b = some o → s'.heap.get? b = some o) → s'.gens = s.gens → s'.os = s.os → s.heap.objs.size ≤ p →
      s'.heap.get? p = some (seqObj "list" out c) → StrsAre out.toList ys → sortedS ys = true → ys.Nodup → (∀ k, k ∈ ys ↔ S k = true) → ys.length = n → Q (.ref p) s') :
    wpAny (model P w) A (call (.builtin "sorted") [.ref a]) Q E s := by
  obtain ⟨o, es, ep, t, ho, hex, hd, T⟩ := R
  refine Calls.call_function_entry kind_sorted plain_sorted entry_sorted (args_sorted1 _) ?_
  unfold Builtin.«sorted»
  refine wpAny_bind (m := checkCount "sorted" 1 1 _) (wpAny_pure ?_)
  refine wpAny_bind (collect_set (A := A.in1) hh ⟨o, ho, hex.1, hd⟩ T.fit T.few T.ris T.led fun s1 vs k1 z1 g1 o1 pm => ?_)
  have len : vs.length = n := by
    rw [pm.length_eq, List.length_map, Array.length_toList]
    exact T.num
  obtain ⟨xs, hx⟩ := strsOf (l := vs) fun v hv => by
    obtain ⟨e, he, q⟩ := List.mem_map.mp (pm.mem_iff.mp hv)
    obtain ⟨x, t, h1, _⟩ := T.good e he
    exact ⟨x, t, by rw [← q]; exact h1⟩
  have px : xs.Perm (es.toList.map tx) := by
    have q := pm.map txv
    rw [List.map_map] at q
    rw [strs_eq hx]
    exact q
  refine wpAny_bind (wpAny_newList ?_ (by rw [len, sizeLine_eq]; omega))
  have oL : (s1.heap.push (seqObj "list" vs.toArray 0)).get? s1.heap.objs.size = some (seqObj "list" vs.toArray 0) := Heap.get?_push_size _ rfl
  refine wpAny_bind (wpAny_holding (wpAny_call_entry slot_list_sort ⟨_, oL, rfl⟩ entry_list_sort (list_sort_treeK strKind_oneLt oL hx.keysOf
    (fun v₁ v₂ rest e => keyKind_strs (by rw [← e]; exact hx)) (by rw [len]; exact h64) fun st' hp hs => ⟨_, rfl, ?_⟩) (args_list_sort _)))
  obtain ⟨ys, a1, a2, a3⟩ := sorted_out_str hx hp hs
  obtain ⟨c, hc⟩ := sortedHeap_at (vs := vs) (out := (arrOf st').map (·.2)) oL
  have py : ys.Perm (es.toList.map tx) := a2.trans px
  refine wpAny_pure ⟨_, rfl, hQ _ s1.heap.objs.size _ c ys (fun b u e => ?_) g1 o1 z1 hc a1 a3 (py.nodup_iff.mpr T.nd) (fun k => by rw [py.mem_iff, ← T.mem k]) ?_⟩
  · have q := k1 b u e
    have lt := Heap.lt_size q
    show (sortedHeap (s1.heap.push (seqObj "list" vs.toArray 0)) s1.heap.objs.size vs _).get? b = some u
    rw [sortedHeap_old (Nat.ne_of_lt lt) (by rw [size_push']; exact Nat.lt_succ_of_lt lt)]
    exact Heap.get?_push_of_some _ q
  · rw [py.length_eq, List.length_map, Array.length_toList]
    exact T.num
end
section
variable {X : Cx}
def rSortT (w : World) : List V → Hp → VK → Prop := fun vs H Q => ∃ (a : Addr) (S : Str → Bool) (n : Nat), vs = [V.ref a] ∧ H a = some (SetH w a S n) ∧ n < 64 ∧
  ∀ (ys : List Str) (p : Addr), sortedS ys = true → ys.Nodup → (∀ k : Str, k ∈ ys ↔ S k = true) → ys.length = n → H p = none → Q (.ref p) (upd H p (.lst (ys.map V.str)))
theorem cr_sortT (hc : X.calm = true) : CallR X (.builtin "sorted") (rSortT X.w) := by
  intro pins s σ H vs us Q I r h
  obtain ⟨a, S, n, rfl, ha, h64, q⟩ := h
  rw [Vals.ref1 r]
  refine sortedSet (setH_get I ha) (I.ok.hd hc) h64 fun s' p out c ys k g o hp hg hi hs hd hm hl => ?_
  have len : (ys.map V.str).length ≤ sizeLine := by
    rw [List.length_map, hl, sizeLine_eq]
    omega
  have hn : H p = none := I.hok.fresh hp
  have e : s' = { s with heap := s'.heap, gens := s'.gens, drawn := s'.drawn, toks := s'.toks } := by
    cases s'
    cases s
    cases o
    rfl
  have J : Inv X pins σ (upd H p (.lst (ys.map V.str))) { s with heap := s'.heap, gens := s'.gens, drawn := s'.drawn, toks := s'.toks } :=
    I.call (ch := []) (Un.laid k hp hn) (I.hok.laid k hp ⟨len, out.toList, c, vals_of_strs hi, hg⟩) (by rw [g]; exact I.bare) (fun _ z => nomatch z)
  rw [e]
  exact ⟨.ref p, _, J, rfl, q ys p hs hd hm hl hn⟩
end
end Ks

namespace Ks
open PySem PySem.Spec PyProof.Rows L2
def inL (l : List Str) : Str → Bool := fun k => decide (k ∈ l)
section
variable {P : Program} {w : World} {A : Around} {E : Value → Shared → Prop} {s : Shared}
theorem SetS.keep {h h' : Heap} {a : Addr} {S : Str → Bool} {n : Nat} (R : SetS w h a S n) (k : ∀ o, h.get? a = some o → h'.get? a = some o) : SetS w h' a S n := by
  obtain ⟨o, es, ep, t, ho, r⟩ := R
  exact ⟨o, es, ep, t, k o ho, r⟩
theorem SetS.as {h : Heap} {a : Addr} {S S' : Str → Bool} {n : Nat} (R : SetS w h a S n) (e : ∀ k, S' k = S k) : SetS w h a S' n := by
  have q : S' = S := funext e
  rw [q]
  exact R
theorem strGet {l : List Value} {xs : List Str} (h : StrsAre l xs) : ∀ (i : Nat) (v : Value), l[i]? = some v → ∃ x t, xs[i]? = some x ∧ v = .str x t := by
  induction h with
  | nil =>
    intro i v z
    simp at z
  | cons x t _ ih =>
    intro i v z
    cases i with
    | zero => exact ⟨x, t, rfl, (Option.some.inj z).symm⟩
    | succ i => exact ih i v z
/-- the loop of set.update over texts -/
theorem updLoop {I : Addr} {fp wr : List Addr} {G : Array GenState → Array GenState → Prop} {n : Nat} {Pv : Nat → Value → Prop} {St : Nat → Shared → Prop} {R : Result → Shared → Prop}
    (W : WalksS P w A.in1 I fp wr G n Pv St) (D : Addr) (hDf : D ∉ fp) (xs : List Str) (hn : n = xs.length) (few : n + 1 < scanBound) (hval : ∀ i v, Pv i v → ∃ x t, xs[i]? = some x ∧ v = .str x t) :
    ∀ (k i : Nat) (s : Shared), n - i = k → i ≤ n → St i s → (∃ m, m ≤ i ∧ SetS w s.heap D (inL (xs.take i)) m) →
      (∀ s' m, m ≤ n → Moved (D :: wr) G s s' → SetS w s'.heap D (inL xs) m → R (.ok (.ret .none)) s') → codeAny (model P w) A (.builtin "set.update.loop" ⟨[.ref D, .ref I], []⟩) R s := by
  have hDw : D ∉ wr := fun z => hDf (W.sub _ z)
  have sub : ∀ b ∈ wr, b ∈ D :: wr := fun b hb => List.mem_cons_of_mem _ hb
  intro k
  induction k with
  | zero =>
    intro i s hk hi st ⟨m, hm, hS⟩ hR
    have e : i = n := by omega
    refine codeAny_builtin F.entry_set_update_loop ?_
    rw [Around.under_plainId F.plain_set_update_loop _]
    show wpAny _ A.in1 (pyNext (.ref I) >>= _) _ _ s
    rw [e] at st
    refine wpAny_bind (W.done s _ _ st fun s' mv => ?_)
    show wpAny _ A.in1 (ret Value.none) _ _ s'
    refine wpAny_pure (hR s' m (by omega) (mv.mono sub) ?_)
    rw [e, hn, List.take_length] at hS
    exact hS.keep fun o z => mv.heap D o hDw z
  | succ k ih =>
    intro i s hk hi st ⟨m, hm, hS⟩ hR
    have lt : i < n := by omega
    refine codeAny_builtin F.entry_set_update_loop ?_
    rw [Around.under_plainId F.plain_set_update_loop _]
    show wpAny _ A.in1 (pyNext (.ref I) >>= _) _ _ s
    refine wpAny_bind (W.item i s _ _ lt st fun v s' hP st' mv => ?_)
    obtain ⟨x, t, hx, rfl⟩ := hval i v hP
    have hS' : SetS w s'.heap D (inL (xs.take i)) m := hS.keep fun o z => mv.heap D o hDw z
    show wpAny _ A.in1 (holding [Value.str x t] (setAdd D (.str x t)) >>= _) _ _ s'
    refine wpAny_bind (wpAny_holding ?_)
    unfold setAdd
    refine wpAny_holding ?_
    refine wpAny_bind ((PySem.strKind P w).pyHash (kis x t) ?_)
    refine addHashed (s := { s' with toks := s'.toks + 1 }) hS' (by omega) (fun h' sb S2 => ?_)
    have grow : xs.take (i + 1) = xs.take i ++ [x] := by rw [List.take_add_one, hx]; rfl
    have S3 : ∃ q, q ≤ i + 1 ∧ SetS w h' D (inL (xs.take (i + 1))) q := by
      refine ⟨_, ?_, S2.as fun j => ?_⟩
      · split <;> omega
      · unfold inL
        rw [grow, ← Bool.decide_or]
        exact decide_eq_decide.mpr (by rw [List.mem_append, List.mem_singleton])
    refine wpAny_pure ⟨plainId_quiet F.plain_set_update_loop _, ih (i + 1) _ (by omega) lt (W.frame _ s' _ _ st' (Nat.le_succ _) fun b hb o z => ?_) S3 (fun s'' q hq mv' S4 => ?_)⟩
    · rw [sb.2 b (fun y : b = D => hDf (by rw [← y]; exact hb))]
      exact z
    · refine hR s'' q hq (Moved.trans W.gtrans ((mv.mono sub).then_heap (Nat.le_succ _) fun b o hb z => ?_) mv') S4
      rw [sb.2 b (fun y : b = D => hb (by rw [y]; exact List.mem_cons_self))]
      exact z
abbrev set0 (w : World) : Obj := { cls := .type "set", dict := none, data := .set #[] 0 (.fresh 0 0 (!w.params.followText "set-order")) }
/-- set(a list of texts) -/
theorem callSet {l : Addr} {items : Array Value} (xs : List Str) {Q : Value → Shared → Prop} (hh : A.handled = none) (hl : s.heap.IsList l items) (hit : StrsAre items.toList xs) (few : xs.length + 1 < scanBound)
    (h : ∀ (h' : Heap) (tk m : Nat), m ≤ xs.length → SetS w h' s.heap.objs.size (inL xs) m → (∀ b o, s.heap.get? b = some o → h'.get? b = some o) → Q (.ref s.heap.objs.size) { s with heap := h', toks := tk }) :
    wpAny (model P w) A (call (.type "set") [.ref l]) Q E s := by
  have hsz : items.size = xs.length := by
    rw [← Array.length_toList]
    exact StrsAre.len_eq hit
  obtain ⟨c, tl, hmro⟩ := F.called_set.mro
  have hmade := F.called_set.made
  have hsub := F.called_set.sub
  refine wpAny_call (codeAny_of_tree ?_)
  show wpAny _ _ (callAny (.type "set") _) _ _ _
  refine wpAny_pure ⟨Code.quiet_builtin _ (by decide +kernel), codeAny_builtin F.entry_type_call ?_⟩
  rw [Around.under_plain (weight_type_call_type "set" [.ref l] []) rfl]
  have h1 := F.called_set.notType
  have h2 := F.called_set.canCreate
  have h3 := F.typeCall_set_1 (.ref l)
  repeat (any_goals (first | assumption | wp_step))
  refine codeAny_mono (code_set_led1 (.ref l) (E := E) (Q₁ := fun obj s₁ => obj = .ref s.heap.objs.size ∧ s₁ = { s with heap := s.heap.push (set0 w) }) ⟨rfl, rfl⟩) (fun r s₁ hr => ?_)
  cases r with
  | error e => exact hr
  | ok fl =>
    cases fl with
    | ret obj =>
      obtain ⟨rfl, rfl⟩ := hr
      have hS : (s.heap.push (set0 w)).get? s.heap.objs.size = some (set0 w) := Heap.get?_push_size _ rfl
      have hT : Shared.TypeIs { s with heap := s.heap.push (set0 w) } (.ref s.heap.objs.size) "set" := ⟨_, hS, rfl⟩
      have hli := F.called_set.init.lookup
      have hbi := F.called_set.init.bind (.ref s.heap.objs.size)
      repeat (any_goals (first | assumption | wp_step))
      refine codeAny_mono (codeAny_call_builtin (R := wants (fun r s₂ => r = .none ∧ ∃ h' tk m, m ≤ xs.length ∧ s₂ = { s with heap := h', toks := tk } ∧ SetS w h' s.heap.objs.size (inL xs) m ∧
          (∀ b o, s.heap.get? b = some o → h'.get? b = some o)) E) F.called_set.init.plain F.entry_set_init (check_set_init_1 hT ?_)) (fun r₂ s₂ hr₂ => ?_)
      · obtain ⟨ol, hol, hcl, nl, hdl⟩ := hl
        obtain ⟨ocls, odict, odata, oslots⟩ := ol
        simp only at hcl hdl
        subst hcl
        subst hdl
        have hol' : (s.heap.push (set0 w)).get? l = some { cls := .type "list", dict := odict, data := .seq items nl, slots := oslots } := Heap.get?_push_of_some _ hol
        have hsls := F.sub_list_set
        have hslf := F.sub_list_frozenset
        have hne : (Value.type "list" == Value.type "dict") = false := by decide
        have hl1 : (s.heap.push (set0 w)).IsList l items := ⟨_, hol', rfl, nl, rfl⟩
        unfold Builtin.«set.__init__» noKeywords Builtin.Frozenset.updateFrom
        generalize hPI : pyIter = PI
        wp_walk
        subst hPI
        refine wpAny_pyIter_list hl1 ?_
        refine wpAny_bind (wpAny_runValue ?_)
        have ll : l < s.heap.objs.size := Heap.lt_size hol
        have hh3 : A.in1.in1.in1.handled = none := by simp [hh]
        have zz : (s.heap.push (set0 w)).objs.size = s.heap.objs.size + 1 := Heap.size_push ..
        have nI : l ≠ (s.heap.push (set0 w)).objs.size := by
          rw [zz]
          exact Nat.ne_of_lt (Nat.lt_succ_of_lt ll)
        have out : s.heap.objs.size ∉ [(s.heap.push (set0 w)).objs.size, l] := by
          rw [zz]
          intro z
          rcases List.mem_cons.mp z with z | z
          · exact Nat.lt_irrefl _ (Nat.lt_of_lt_of_eq (Nat.lt_succ_self _) z.symm)
          · exact Nat.lt_irrefl _ (Nat.lt_of_lt_of_eq ll (List.mem_singleton.mp z))
        have hval : ∀ (i : Nat) (v : Value), items[i]? = some v → ∃ x t, xs[i]? = some x ∧ v = .str x t := fun i v hv => by
          exact strGet hit i v (by rw [Array.getElem?_toList]; exact hv)
        refine updLoop ((Walks.list hh3 _ l nI items).toS) s.heap.objs.size out xs hsz (by omega) hval (items.size - 0) 0 _ (by omega) (Nat.zero_le _)
          ⟨⟨_, Heap.get?_push_size _ rfl, rfl, rfl⟩, (hl1.push _)⟩ ⟨0, Nat.le_refl _, ?_⟩ (fun s' m hm mv S4 => ?_)
        · refine ((fresh w).keep fun o z => Heap.get?_push_of_some _ z).as fun k => ?_
          unfold inL
          exact decide_eq_false (by rw [List.take_zero]; exact List.not_mem_nil)
        · obtain ⟨h', g2, d', tk', os'⟩ := s'
          have eg : g2 = s.gens := mv.gens
          have ed : d' = s.drawn := mv.drawn
          have eo : os' = s.os := mv.os
          subst eg
          subst ed
          subst eo
          show wpAny _ _ _ _ _ _
          refine wpAny_pure ?_
          show wpAny _ _ (ret Value.none) _ _ _
          refine wpAny_pure ⟨rfl, h', tk', m, by omega, rfl, S4, fun b o z => mv.heap b o (fun y => ?_) (Heap.get?_push_of_some _ (Heap.get?_push_of_some _ z))⟩
          have lb := Heap.lt_size z
          rcases List.mem_cons.mp y with y | y
          · rw [y] at lb
            exact Nat.lt_irrefl _ lb
          · rw [List.mem_singleton.mp y, zz] at lb
            exact Nat.lt_irrefl _ (Nat.lt_of_succ_lt lb)
      · cases r₂ with
        | error e => exact hr₂
        | ok fl₂ =>
          cases fl₂ with
          | ret r =>
            obtain ⟨rfl, h', tk, m, hm, rfl, S4, kp⟩ := hr₂
            repeat (any_goals (first | assumption | wp_step))
            exact h _ _ _ hm S4 kp
          | _ => exact hr₂.elim
    | _ => exact hr.elim
end
section
variable {X : Cx}
def rSetT (K : PySem.W.Frag) (w : World) : List V → Hp → VK → Prop := fun vs H Q => ∃ (l : Addr) (xs : List Str), vs = [V.ref l] ∧ SqL K H l (xs.map V.str) ∧ xs.length + 1 < scanBound ∧
  ∀ (p : Addr) (m : Nat), m ≤ xs.length → H p = none → Q (.ref p) (upd H p (SetH w p (inL xs) m))
theorem cr_setT (hc : X.calm = true) : CallR X (.type "set") (rSetT X.K X.w) := by
  intro pins s σ H vs us Q I r h
  obtain ⟨l, xs, rfl, hq, few, q⟩ := h
  rw [Vals.ref1 r]
  obtain ⟨its, rv, pl, hz⟩ := I.list hq
  refine callSet xs (I.ok.hd hc) pl.isList (by rw [List.toList_toArray]; exact rv.strs) few fun h' tk m hm S kp => ?_
  have hn : H s.heap.objs.size = none := I.hok.fresh (Nat.le_refl _)
  exact ⟨.ref _, _, I.laid (t' := tk) kp (Nat.le_refl _) (setH_new S), rfl, q _ m hm hn⟩
end
end Ks

/-! sorted(a set of texts), any number of them -/
namespace Ks
open PySem PySem.Spec PyProof.Rows L2 SrtO
def ltSv (v u : Value) : Bool := decide ((txv v).cps.toList < (txv u).cps.toList)
theorem swo_txt : Swo ltSv := by
  refine ⟨fun x y h => ?_, fun x y z h1 h2 => ?_⟩
  · have a := of_decide_eq_true (p := (txv x).cps.toList < (txv y).cps.toList) h
    exact decide_eq_false (p := (txv y).cps.toList < (txv x).cps.toList) (List.not_lt.mpr (List.le_of_lt a))
  · have a := of_decide_eq_false (p := (txv y).cps.toList < (txv x).cps.toList) h1
    have b := of_decide_eq_false (p := (txv z).cps.toList < (txv y).cps.toList) h2
    exact decide_eq_false (p := (txv z).cps.toList < (txv x).cps.toList) (List.not_lt.mpr (List.le_trans (List.not_lt.mp a) (List.not_lt.mp b)))
theorem strs_mem : ∀ {vs : List Value} {xs : List Str}, StrsAre vs xs → ∀ v ∈ vs, ∃ x t, v = Value.str x t
  | _, _, .nil, v, h => absurd h List.not_mem_nil
  | _, _, .cons n t r, v, h => by
    rcases List.mem_cons.mp h with e | h
    · exact ⟨n, t, e⟩
    · exact strs_mem r v h
theorem strs_txv : ∀ {vs : List Value}, (∀ v ∈ vs, ∃ x t, v = Value.str x t) → StrsAre vs (vs.map txv)
  | [], _ => .nil
  | v :: vs, h => by
    obtain ⟨i, t, e⟩ := h v List.mem_cons_self
    subst e
    exact .cons i t (strs_txv fun u hu => h u (List.mem_cons_of_mem _ hu))
section
variable {prog : Program} {w : World} {A : Around} {E : Value → Shared → Prop} {s : Shared}
theorem txt_cmp {vs : List Value} {xs : List Str} (hI : StrsAre vs xs) : Cmp prog w A s oneType' (fun p => p.1 ∈ vs) (lt2 ltSv) := by
  intro p q hm hm'
  obtain ⟨a, t, e⟩ := strs_mem hI _ hm
  obtain ⟨b, u, e'⟩ := strs_mem hI _ hm'
  show wpAny (model prog w) A (keyLt' oneType' p.1 q.1) (fun r s' => s' = s ∧ r = ltSv p.1 q.1) (fun _ _ => False) s
  rw [e, e', keyLt'_oneType]
  exact oneLt_str ⟨rfl, rfl⟩
theorem txt_sortable {a : Addr} {vs : List Value} {xs : List Str} (hI : StrsAre vs xs) (h2 : 2 ≤ vs.length) : SortableO prog w A s a vs ltSv := by
  intro h' _
  refine ⟨oneType', fun Q E hq => ?_, txt_cmp hI⟩
  match vs, hI, h2 with
  | v1 :: v2 :: rest, hI, _ =>
    rw [keyKind_strs hI]
    exact wpAny_pure hq
  | [], _, h => exact absurd h (by decide)
  | [v], _, h => exact absurd h (by simp)
theorem txt_out {vs out : List Value} {xs : List Str} (hI : StrsAre vs xs) (hs : Srtd ltSv out) (hb : Stb ltSv out vs) : StrsAre out (out.map txv) ∧ (out.map txv).Perm xs ∧ (out.map txv).Pairwise (fun x y => x.cps.toList ≤ y.cps.toList) := by
  refine ⟨strs_txv fun v hv => strs_mem hI v (hb.perm.mem_iff.mp hv), ?_, ?_⟩
  · have q := hb.perm.map txv
    rw [← strs_eq hI] at q
    exact q
  · exact List.pairwise_map.mpr (hs.imp fun {x y} h => List.not_lt.mp (of_decide_eq_false (p := (txv y).cps.toList < (txv x).cps.toList) h))
variable {P : Program} {a : Addr} {S : Str → Bool} {n : Nat}
/-- sorted(a set of texts) -/
theorem sortedSetN {Q : Value → Shared → Prop} (R : SetS w s.heap a S n) (hh : A.handled = none) (hn : n ≤ sizeLine)
    (hQ : ∀ (s' : Shared) (p : Addr) (out : Array Value) (c : Nat) (ys : List Str), (∀ b o, s.heap.get? b = some o → s'.heap.get? b = some o) → s'.gens = s.gens → s'.os = s.os → s.heap.objs.size ≤ p →
      s'.heap.get? p = some (seqObj "list" out c) → StrsAre out.toList ys → ys.Pairwise (fun x y => x.cps.toList ≤ y.cps.toList) → ys.Nodup → (∀ k, k ∈ ys ↔ S k = true) → ys.length = n → Q (.ref p) s') :
    wpAny (model P w) A (call (.builtin "sorted") [.ref a]) Q E s := by
  obtain ⟨o, es, ep, t, ho, hex, hd, T⟩ := R
  refine Calls.call_function_entry kind_sorted plain_sorted entry_sorted (args_sorted1 _) ?_
  unfold Builtin.«sorted»
  refine wpAny_bind (m := checkCount "sorted" 1 1 _) (wpAny_pure ?_)
  refine wpAny_bind (collect_set (A := A.in1) hh ⟨o, ho, hex.1, hd⟩ T.fit T.few T.ris T.led fun s1 vs k1 z1 g1 o1 pm => ?_)
  have len : vs.length = n := by
    rw [pm.length_eq, List.length_map, Array.length_toList]
    exact T.num
  obtain ⟨xs, hx⟩ := strsOf (l := vs) fun v hv => by
    obtain ⟨e, he, q⟩ := List.mem_map.mp (pm.mem_iff.mp hv)
    obtain ⟨x, t, h1, _⟩ := T.good e he
    exact ⟨x, t, by rw [← q]; exact h1⟩
  have px : xs.Perm (es.toList.map tx) := by
    have q := pm.map txv
    rw [List.map_map] at q
    rw [strs_eq hx]
    exact q
  refine wpAny_bind (wpAny_newList ?_ (by rw [len]; exact hn))
  have oL : (s1.heap.push (seqObj "list" vs.toArray 0)).get? s1.heap.objs.size = some (seqObj "list" vs.toArray 0) := Heap.get?_push_size _ rfl
  refine wpAny_bind (wpAny_holding (wpAny_call_entry slot_list_sort ⟨_, oL, rfl⟩ entry_list_sort
    (SrtO.list_sort_ord swo_txt oL (by rw [len]; exact hn) (fun h2 => txt_sortable hx h2) fun out h1 h2 => ⟨.none, rfl, ?_⟩) (args_list_sort _)))
  obtain ⟨a1, a2, a3⟩ := txt_out hx h1 h2
  obtain ⟨c, hc⟩ := sortedHeap_at (vs := vs) (out := out.toArray) oL
  have py : (out.map txv).Perm (es.toList.map tx) := a2.trans px
  refine wpAny_pure ⟨_, rfl, hQ _ s1.heap.objs.size _ c (out.map txv) (fun b u e => ?_) g1 o1 z1 hc a1 a3 (py.nodup_iff.mpr T.nd) (fun k => by rw [py.mem_iff, ← T.mem k]) ?_⟩
  · have q := k1 b u e
    have lt := Heap.lt_size q
    show (sortedHeap (s1.heap.push (seqObj "list" vs.toArray 0)) s1.heap.objs.size vs _).get? b = some u
    rw [sortedHeap_old (Nat.ne_of_lt lt) (by rw [size_push']; exact Nat.lt_succ_of_lt lt)]
    exact Heap.get?_push_of_some _ q
  · rw [py.length_eq, List.length_map, Array.length_toList]
    exact T.num
end
section
variable {X : Cx}
def rSortTN (w : World) : List V → Hp → VK → Prop := fun vs H Q => ∃ (a : Addr) (S : Str → Bool) (n : Nat), vs = [V.ref a] ∧ H a = some (SetH w a S n) ∧ n ≤ sizeLine ∧
  ∀ (ys : List Str) (p : Addr), ys.Pairwise (fun x y => x.cps.toList ≤ y.cps.toList) → ys.Nodup → (∀ k : Str, k ∈ ys ↔ S k = true) → ys.length = n → H p = none → Q (.ref p) (upd H p (.lst (ys.map V.str)))
theorem cr_sortTN (hc : X.calm = true) : CallR X (.builtin "sorted") (rSortTN X.w) := by
  intro pins s σ H vs us Q I r h
  obtain ⟨a, S, n, rfl, ha, hn, q⟩ := h
  rw [Vals.ref1 r]
  refine sortedSetN (setH_get I ha) (I.ok.hd hc) hn fun s' p out c ys k g o hp hg hi hs hd hm hl => ?_
  have len : (ys.map V.str).length ≤ sizeLine := by
    rw [List.length_map, hl]
    exact hn
  have hn : H p = none := I.hok.fresh hp
  have e : s' = { s with heap := s'.heap, gens := s'.gens, drawn := s'.drawn, toks := s'.toks } := by
    cases s'
    cases s
    cases o
    rfl
  have J : Inv X pins σ (upd H p (.lst (ys.map V.str))) { s with heap := s'.heap, gens := s'.gens, drawn := s'.drawn, toks := s'.toks } :=
    I.call (ch := []) (Un.laid k hp hn) (I.hok.laid k hp ⟨len, out.toList, c, vals_of_strs hi, hg⟩) (by rw [g]; exact I.bare) (fun _ z => nomatch z)
  rw [e]
  exact ⟨.ref p, _, J, rfl, q ys p hs hd hm hl hn⟩
end
/-- strictly rising texts with the same members are the same -/
theorem strictEq : ∀ {ys zs : List Str}, ys.Pairwise (fun a b => a.cps.toList ≤ b.cps.toList) → zs.Pairwise (fun a b => a.cps.toList ≤ b.cps.toList) → ys.Nodup → zs.Nodup → (∀ k, k ∈ ys ↔ k ∈ zs) → ys = zs
  | [], [], _, _, _, _, _ => rfl
  | [], z :: zs, _, _, _, _, h => absurd ((h z).2 List.mem_cons_self) List.not_mem_nil
  | y :: ys, [], _, _, _, _, h => absurd ((h y).1 List.mem_cons_self) List.not_mem_nil
  | y :: ys, z :: zs, p1, p2, n1, n2, h => by
    obtain ⟨a1, a2⟩ := List.pairwise_cons.mp p1
    obtain ⟨b1, b2⟩ := List.pairwise_cons.mp p2
    obtain ⟨c1, c2⟩ := List.nodup_cons.mp n1
    obtain ⟨d1, d2⟩ := List.nodup_cons.mp n2
    have e : y = z := by
      rcases List.mem_cons.mp ((h y).1 List.mem_cons_self) with q | q
      · exact q
      rcases List.mem_cons.mp ((h z).2 List.mem_cons_self) with r | r
      · exact r.symm
      have le := List.le_antisymm (a1 z r) (b1 y q)
      obtain ⟨yc⟩ := y
      obtain ⟨zc⟩ := z
      have : yc.toList = zc.toList := le
      rw [Array.toList_inj.mp this]
    subst e
    rw [strictEq a2 b2 c2 d2 fun k => ?_]
    constructor
    · intro hk
      rcases List.mem_cons.mp ((h k).1 (List.mem_cons_of_mem _ hk)) with q | q
      · rw [q] at hk
        exact absurd hk c1
      · exact q
    · intro hk
      rcases List.mem_cons.mp ((h k).2 (List.mem_cons_of_mem _ hk)) with q | q
      · rw [q] at hk
        exact absurd hk d1
      · exact q
end Ks

namespace Kq
open PySem PySem.Spec PyProof.Rows L2 Kf Kg Kv GxR
abbrev tLCar : Stmt := tp 39
abbrev tLWhole : Stmt := tp 40
abbrev tLFills : Stmt := tp 41
theorem arg_eq (x : Dt) : argD x = chD dat x := by
  unfold argD fstD
  cases c : tagD x "fun" 2 with
  | false => rw [chD_no dat c]; simp
  | true =>
    obtain ⟨a, b, rfl⟩ := tag_fn c
    rw [dat_fn]
    simp
theorem nm_of {x : Str} (h : nmS x = true) : Nm x := by
  have hl : x.cps.toList.length = x.length := Array.length_toList
  have ll : ∀ c ∈ lets.cps.toList, 97 ≤ c ∧ c < 123 := by decide +kernel
  unfold nmS at h
  obtain ⟨h1, h2⟩ := Bool.and_eq_true_iff.mp h
  obtain ⟨h3, h4⟩ := Bool.and_eq_true_iff.mp h1
  have h3 := of_decide_eq_true h3
  have h4 := of_decide_eq_true h4
  refine ⟨fun c hc => ?_, by omega, by omega⟩
  have z := List.all_eq_true.mp h2 c hc
  unfold isLo at z
  exact ll c (of_decide_eq_true z)
theorem eqvStrs : ∀ xs ys : List Str, PyData.eqvAll (xs.map PyData.str) (ys.map PyData.str) = decide (xs = ys)
  | [], [] => by simp [PyData.eqvAll]
  | [], y :: ys => by simp [PyData.eqvAll]
  | x :: xs, [] => by simp [PyData.eqvAll]
  | x :: xs, y :: ys => by
    rw [List.map_cons, List.map_cons, PyData.eqvAll, PyData.eqv, eqvStrs xs ys]
    by_cases c : x = y
    · subst c
      simp
    · have : (x == y) = false := beq_eq_false_iff_ne.mpr c
      rw [this, Bool.false_and, decide_eq_false (fun z => c (List.cons.inj z).1)]
theorem eqvStrL (xs ys : List Str) : PyData.eqv (.list (xs.map PyData.str)) (.list (ys.map PyData.str)) = decide (xs = ys) := by
  rw [PyData.eqv]
  exact eqvStrs xs ys
/-- rising: the one rising arrangement of its members -/
theorem rising_iff {xs ys : List Str} (h1 : ys.Pairwise (fun a b => a.cps.toList ≤ b.cps.toList)) (h2 : ys.Nodup) (h3 : ∀ k, k ∈ ys ↔ k ∈ xs) : decide (xs = ys) = rising xs := by
  have str : ∀ {zs : List Str}, rising zs = true → zs.Pairwise (fun a b => a.cps.toList < b.cps.toList) := by
    intro zs
    induction zs with
    | nil => exact fun _ => .nil
    | cons a r ih =>
      intro h
      cases r with
      | nil => exact List.pairwise_singleton _ _
      | cons b r =>
        obtain ⟨h1, h2⟩ := Bool.and_eq_true_iff.mp (show (ltS a b && rising (b :: r)) = true from h)
        have ab : a.cps.toList < b.cps.toList := of_decide_eq_true h1
        have p := ih h2
        refine List.pairwise_cons.mpr ⟨fun c hc => ?_, p⟩
        rcases List.mem_cons.mp hc with rfl | hc
        · exact ab
        · exact List.lt_trans ab ((List.pairwise_cons.mp p).1 c hc)
  cases c : rising xs with
  | true =>
    have p := str c
    have nd : xs.Nodup := by
      refine List.Pairwise.imp (fun {a b} h => ?_) p
      intro e
      rw [e] at h
      exact List.lt_irrefl _ h
    exact decide_eq_true (Ks.strictEq (p.imp fun {a b} h => List.le_of_lt h) h1 nd h2 fun k => (h3 k).symm)
  | false =>
    refine decide_eq_false fun e => ?_
    subst e
    have : rising xs = true := rising_of fun i x y e1 e2 => by
      have hi := List.getElem?_eq_some_iff.mp e1
      have hj := List.getElem?_eq_some_iff.mp e2
      obtain ⟨li, ei⟩ := hi
      obtain ⟨lj, ej⟩ := hj
      have le := List.pairwise_iff_getElem.mp h1 i (i + 1) li lj (Nat.lt_succ_self _)
      rw [ei, ej] at le
      refine decide_eq_true (Decidable.byContradiction fun hn => ?_)
      have eq := List.le_antisymm le (List.not_lt.mp hn)
      obtain ⟨xc⟩ := x
      obtain ⟨yc⟩ := y
      have e3 : xc = yc := Array.toList_inj.mp eq
      have := (List.getElem_inj (h₀ := li) (h₁ := lj) h2).mp (by rw [ei, ej, e3])
      omega
    rw [c] at this
    cases this
section
variable {P : Program} {w : World} {K : PySem.W.Frag} {mg : Str → Option Value} {base : Heap}
def spLDt (n : Nat) (p : Dt → Bool) : Sp := fun vs H Q _ => ∃ (v : V) (x : Dt), vs = [v] ∧ x.dp + 1 ≤ n ∧ Dd Any H x v ∧ x.wt ≤ sizeLine ∧ ∀ G : Hp, Same H G → Q (.bl (p x)) G
/-! _law_is_carried -/
theorem scLCar : FnScope ["_law_thing"] ["_law_thing"] (defScope tLCar) := ⟨rfl, rfl, rfl, by decide +kernel, rfl, by decide +kernel, by decide +kernel⟩
theorem okLCar {f fD : Addr} {fd fdD : FuncData} {n k : Nat} (F : Fun K "_law_is_carried" "_law_is_carried" tLCar f fd)
    (GD : FnOk P w K mg base CX0 k fD fdD ["_law_thing"] (spLData n)) (bD : Binds K fdD ["_law_thing"] []) (gD : mg "_law_is_data" = some (.ref fD)) (kD : PySem.W.keepIn K (.ref fD) = true)
    (mi : mg "isinstance" = none) (mt : mg "tuple" = none) (ms : mg "str" = none) (ml : mg "len" = none) : FnOk P w K mg base CX0 (k + 1) f fd ["_law_thing"] (spLDt n argD) := by
  refine F.ok scLCar (fun vs H Q E h => ?_) (fun cdv A outer s H vs Q E hr h => ?_)
  · obtain ⟨v, x, rfl, _⟩ := h
    rfl
  obtain ⟨v, x, rfl, hn, hd, hw, q⟩ := h
  refine ⟨_, pss_cons (ps_while PassesOwn.never (PW.pt (pw_and (pt_val (pe_callB (isiK K rfl) (by rfl) mi PyProof.Rows.boot_isinstance (pa_cons (pv 0) (pa_cons (pe_bltn (v := .ty "tuple") (by rfl) mt PyProof.Rows.boot_tuple rfl) pa_nil))))
      (pw_and (pt_cmpR op_eq (pe_callB call_len_seq (by rfl) ml PySem.boot_len (pa_cons (pv 0) pa_nil)) pe_int (nomark _))
      (pw_and (pt_val (pe_callB (isiK K rfl) (by rfl) mi PyProof.Rows.boot_isinstance (pa_cons (pe_ix ix_tup (pv 0) pe_int (fun _ _ => rfl)) (pa_cons (pe_bltn (v := .ty "str") (by rfl) ms PyProof.Rows.boot_str rfl) pa_nil))))
      (pw_and1 (pt_cmpR op_eq (pe_ix ix_tup (pv 0) pe_int (fun _ _ => rfl)) pe_str (nomark _)))))))
      (pss_cons (ps_if (pt_not (pt_val (pe_call GD hr (by rfl) gD kD bD .nil pass0 (pa_cons (pe_ix ix_tup (pv 0) pe_int (fun _ _ => rfl)) pa_nil)))) (pss_one (ps_ret pe_bl)) pss_nil)
      (pss_one (ps_set (i := 0) scLCar.nd rfl (.inl rfl) (pe_ix ix_tup (pv 0) pe_int (fun _ _ => rfl))))))
    (pss_one (ps_ret (pe_call GD hr (by rfl) gD kD bD .nil pass0 (pa_cons (pv 0) pa_nil)))), ?_⟩
  have et := arg_eq x
  let Iv : Nat → L2.St → Hp → Prop := fun m σ G => ∃ y u, m = y.sz ∧ σ = [some u] ∧ Same H G ∧ Dd Any G y u ∧ y.wt ≤ x.wt ∧ y.dp ≤ x.dp ∧ chD dat x = chD dat y
  refine ⟨Iv, ⟨_, x, v, rfl, rfl, Same.refl H, hd, Nat.le_refl _, Nat.le_refl _, rfl⟩, fun m σ G z => ?_⟩
  obtain ⟨y, u, rfl, rfl, sG, hy, hyw, hyd, hc⟩ := z
  have fin : tagD y "fun" 2 = false → spLData n [u] G Q E0 := fun h => by
    refine ⟨u, y, rfl, by omega, hy, by omega, fun G2 s2 => ?_⟩
    have z := q _ (sG.trans s2)
    rw [et, hc, chD_no _ h] at z
    exact z
  refine ⟨_, rfl, _, _, _, _, y.isTup, rfl, .ty "tuple", hy.ty, kTup K y, _, rfl, ite2 (fun e => ?_) (fun e => iteF ⟨_, rfl, fin ?_⟩)⟩
  rotate_left
  · cases y <;> first | rfl | exact absurd rfl e
  obtain ⟨xs, rfl⟩ : ∃ xs, y = .tup xs := by
    cases y with
    | tup xs => exact ⟨xs, rfl⟩
    | _ => cases e
  obtain ⟨a, us, rfl, ha, hL⟩ := Dd.tupS hy
  have ll := hL.len
  refine ⟨_, rfl, a, _, rfl, .inr (SqT.of ha), rfl, _, rfl, ite2 (fun e => ?_) (fun e => iteF ⟨_, rfl, fin ?_⟩)⟩
  rotate_left
  · have e1 : ¬ us.length = 3 := fun z => e (decide_eq_true (by rw [z]; rfl))
    match xs, ll with
    | [], _ => rfl
    | z :: zs, ll =>
      show (decide (zs.length = 2) && _) = false
      rw [decide_eq_false (by rw [List.length_cons] at ll; omega), Bool.false_and]
  have e1 : us.length = 3 := by
    have := V.int.inj (of_decide_eq_true e)
    omega
  obtain ⟨y0, ya, yb, rfl⟩ : ∃ y0 ya yb, xs = [y0, ya, yb] := by
    rw [← ll] at e1
    match xs, e1 with
    | [y0, ya, yb], _ => exact ⟨_, _, _, rfl⟩
  obtain ⟨p, u0, ua, ub, ep, hp, h0, hA, hB⟩ := Dd.tup3 hy
  cases ep
  rw [ha] at hp
  cases hp
  have ix0 : atI [u0, ua, ub] 0 = some u0 := atI_nat (j := 0) rfl
  refine ⟨_, rfl, a, _, _, _, rfl, rfl, SqT.of ha, ix0, _, _, _, _, y0.isStr, rfl, .ty "str", h0.ty, kStr K y0, _, rfl, ite2 (fun e => ?_) (fun e => iteF ⟨_, rfl, fin ?_⟩)⟩
  rotate_left
  · show (decide ([ya, yb].length = 2) && y0.isS "fun") = false
    cases y0 <;> first | exact absurd rfl e | simp [Dt.isS]
  obtain ⟨wd, rfl⟩ : ∃ z, y0 = .str z := by
    cases y0 with
    | str z => exact ⟨z, rfl⟩
    | _ => cases e
  cases h0
  refine ⟨_, rfl, a, _, _, _, rfl, rfl, SqT.of ha, ix0, rfl, _, rfl, ite2 (fun e => ?_) (fun e => ⟨_, rfl, fin ?_⟩)⟩
  rotate_left
  · show (decide ([ya, yb].length = 2) && decide (wd = "fun")) = false
    rw [decide_eq_false (p := wd = "fun") (fun z => e (decide_eq_true (by rw [z]))), Bool.and_false]
  have e4 : wd = "fun" := V.str.inj (of_decide_eq_true e)
  subst e4
  rw [wt3] at hyw
  have hd3 : (Dt.tup [.str "fun", ya, yb]).dp = max 0 (max ya.dp (max yb.dp 0)) + 1 := by simp only [Dt.dp, Dt.dps]
  refine ⟨fun σ' G' => ∃ m', m' < _ ∧ Iv m' σ' G', fun σ' G' z => z, ?_⟩
  refine ⟨_, rfl, a, _, _, _, rfl, rfl, SqT.of ha, atI_nat (j := 1) rfl, ua, ya, rfl, by omega, hA, by omega, fun G2 s2 => ⟨_, rfl, ite2 (fun e => ?_) (fun e => ?_)⟩⟩
  · have z := q _ (sG.trans s2)
    rw [et, hc, chD_fn, show dat ya = false by simpa using e] at z
    exact z
  refine ⟨_, rfl, a, _, _, _, rfl, rfl, SqT.of (s2 _ _ ha), atI_nat (j := 2) rfl, yb.sz, ?_, yb, ub, rfl, rfl, sG.trans s2, hB.same s2, by omega, by omega, ?_⟩
  · rw [sz3]
    omega
  · rw [hc, chD_fn, show dat ya = true by simpa using e, Bool.true_and]
/-! _law_whole -/
theorem scLWhole : FnScope ["_law_thing"] ["_law_thing"] (defScope tLWhole) := ⟨rfl, rfl, rfl, by decide +kernel, rfl, by decide +kernel, by decide +kernel⟩
theorem okLWhole {f : Addr} {fd : FuncData} {k : Nat} (F : Fun K "_law_whole" "_law_whole" tLWhole f fd) (mi : mg "isinstance" = none) (mb : mg "bool" = none) (mn : mg "int" = none) : FnOk P w K mg base CX0 (k + 1) f fd ["_law_thing"] (spYesS whlD) := by
  refine F.ok scLWhole (fun vs H Q E h => ?_) (fun cdv A outer s H vs Q E hr h => ?_)
  · obtain ⟨v, x, rfl, _⟩ := h
    rfl
  obtain ⟨v, x, rfl, hd, q⟩ := h
  refine ⟨_, pss_one (ps_ret (pe_and (pe_callB (isiK K rfl) (by rfl) mi PyProof.Rows.boot_isinstance (pa_cons (pv 0) (pa_cons (pe_bltn (v := .ty "int") (by rfl) mn (by decide +kernel) rfl) pa_nil)))
    (pe_one (pe_not (pe_callB (isiK K rfl) (by rfl) mi PyProof.Rows.boot_isinstance (pa_cons (pv 0) (pa_cons (pe_bltn (v := .ty "bool") (by rfl) mb PyProof.Rows.boot_bool rfl) pa_nil))))))), ?_⟩
  refine ⟨_, rfl, _, _, _, _, x.isInt, rfl, .ty "int", hd.ty, kInt K x, _, rfl, ite2 (fun e => ?_) (fun e => ?_)⟩
  · refine ⟨_, rfl, _, _, _, _, x.isBl, rfl, .ty "bool", hd.ty, kBl K x, _, rfl, ?_⟩
    have e1 : (!x.isBl) = whlD x := by
      cases x <;> first | rfl | cases e
    rw [e1]
    exact q
  · have e1 : whlD x = false := by
      cases x <;> first | rfl | exact absurd rfl e
    rw [e1] at q
    exact q
/-! _law_are_fills -/
abbrev nLFills : List Str := ["_law_thing", "_law_names_here", "_law_one"]
theorem scLFills : FnScope nLFills ["_law_thing"] (defScope tLFills) := ⟨rfl, rfl, rfl, by decide +kernel, rfl, by decide +kernel, by decide +kernel⟩
def spLFills (n : Nat) : Sp := fun vs H Q _ => ∃ (v : V) (x : Dt), vs = [v] ∧ x.dp + 1 ≤ n ∧ Dd Any H x v ∧ x.wt ≤ sizeLine ∧ x.sz ≤ 3000 ∧ ∀ G : Hp, Same H G → Q (.bl (filD x)) G
theorem okLFills {f fN fD : Addr} {fd fdN fdD : FuncData} {n k : Nat} (F : Fun K "_law_are_fills" "_law_are_fills" tLFills f fd)
    (GN : FnOk P w K mg base CX0 k fN fdN ["_law_thing"] (spLYes nmD)) (bN : Binds K fdN ["_law_thing"] []) (gN : mg "_law_is_name" = some (.ref fN)) (kN : PySem.W.keepIn K (.ref fN) = true)
    (GD : FnOk P w K mg base CX0 k fD fdD ["_law_thing"] (spLData n)) (bD : Binds K fdD ["_law_thing"] []) (gD : mg "_law_is_data" = some (.ref fD)) (kD : PySem.W.keepIn K (.ref fD) = true)
    (mi : mg "isinstance" = none) (mt : mg "tuple" = none) (ml : mg "len" = none) (ms : mg "sorted" = none) (mS : mg "set" = none) : FnOk P w K mg base CX0 (k + 1) f fd ["_law_thing"] (spLFills n) := by
  refine F.ok scLFills (fun vs H Q E h => ?_) (fun cdv A outer s H vs Q E hr h => ?_)
  · obtain ⟨v, x, rfl, _⟩ := h
    rfl
  obtain ⟨v, x, rfl, hn, hd, hw, hsz, q⟩ := h
  refine ⟨_, pss_cons (ps_if (pt_not (pt_val (pe_callB (isiK K rfl) (by rfl) mi PyProof.Rows.boot_isinstance (pa_cons (pv 0) (pa_cons (pe_bltn (v := .ty "tuple") (by rfl) mt PyProof.Rows.boot_tuple rfl) pa_nil))))) (pss_one (ps_ret pe_bl)) pss_nil)
    (pss_cons (ps_set (i := 1) scLFills.nd rfl (.inl rfl) (pe_lst pa_nil))
    (pss_cons (ps_for PassesOwn.never rfl (pi_tup (pv 0)) (pg_name (i := 2) scLFills.nd rfl (.inl rfl))
      (pss_cons (ps_if (PW.pt (pw_or (pt_not (pt_val (pe_callB (isiK K rfl) (by rfl) mi PyProof.Rows.boot_isinstance (pa_cons (pv 2) (pa_cons (pe_bltn (v := .ty "tuple") (by rfl) mt PyProof.Rows.boot_tuple rfl) pa_nil)))))
        (pw_or (pt_cmpR op_ne (pe_callB call_len_seq (by rfl) ml PySem.boot_len (pa_cons (pv 2) pa_nil)) pe_int (nomark _))
        (pw_or (pt_not (pt_val (pe_call GN hr (by rfl) gN kN bN .nil pass0 (pa_cons (pe_ix ix_tup (pv 2) pe_int (fun _ _ => rfl)) pa_nil))))
        (pw_or1 (pt_not (pt_val (pe_call GD hr (by rfl) gD kD bD .nil pass0 (pa_cons (pe_ix ix_tup (pv 2) pe_int (fun _ _ => rfl)) pa_nil)))))))))
        (pss_one (ps_ret pe_bl)) pss_nil)
      (pss_one (ps_expr (pe_bm PySem.F.plainAttrs_list PySem.F.slot_list_append PySem.F.type_list_append mt_append (pv 1) (pa_cons (pe_ix ix_tup (pv 2) pe_int (fun _ _ => rfl)) pa_nil))))))
    (pss_one (ps_ret (pe_cmpR (op_eqD hr.units) (pv 1) (pe_callB (Ks.cr_sortTN rfl) (by rfl) ms PyProof.Rows.boot_sorted (pa_cons (pe_callTy (Ks.cr_setT rfl) (by rfl) mS PyProof.Rows.boot_set (pa_cons (pv 1) pa_nil)) pa_nil)) (nomark _)))))), ?_⟩
  have no : ∀ G, Same H G → filD x = false → Q (.bl false) G := fun G sG e => by
    have z := q _ sG
    rw [e] at z
    exact z
  refine ⟨_, rfl, _, _, _, _, x.isTup, rfl, .ty "tuple", hd.ty, kTup K x, _, rfl, ite2 (fun e => no _ (Same.refl H) ?_) (fun e => ?_)⟩
  · cases x <;> first | rfl | cases e
  obtain ⟨xs, rfl⟩ : ∃ xs, x = .tup xs := by
    cases x with
    | tup xs => exact ⟨xs, rfl⟩
    | _ => exact absurd rfl e
  obtain ⟨a, us, rfl, ha, hL⟩ := Dd.tupS hd
  have ll := hL.len
  have e1 : (Dt.tup xs).wt = Dt.wts xs + 3 := by simp only [Dt.wt]
  have e2 : (Dt.tup xs).sz = 1 + Dt.szs xs := by simp only [Dt.sz]
  have e3 := dp_tup xs
  have l1 := len_szs xs
  have no1 : ∀ (G : Hp) (i : Nat) (d : Dt), Same H G → xs[i]? = some d → filD1 d = false → Q (.bl false) G := fun G i d sG hi hf => no G sG (by
    show (xs.all filD1 && _) = false
    rw [show xs.all filD1 = false from not_allL hi hf, Bool.false_and])
  refine ⟨Nat.zero_le _, fun L nL => ⟨_, rfl, a, rfl, ⟨_, SqT.of (newS nL _ _ ha)⟩, ?_⟩⟩
  refine for_tup (xs := us) (fun i σ G => ∃ y2, σ = [some (.ref a), some (.ref L), y2] ∧ Same H G ∧ G L = some (.lst (((xs.take i).map nmOf).map V.str)) ∧ (xs.take i).all filD1 = true ∧ ∀ n ∈ (xs.take i).map nmOf, nmS n = true) ⟨none, rfl, newS nL, upd_same, rfl, fun _ z => absurd z List.not_mem_nil⟩
    (fun i σ G _ z => by
      obtain ⟨y2, _, sG, _⟩ := z
      exact SqT.of (sG _ _ ha)) (fun i u σ G hu z => ?_) (fun σ G z => ?_)
  · obtain ⟨y2, rfl, sG, gL, al, hnm⟩ := z
    obtain ⟨d, hd', rd⟩ := hL.get hu
    have md := List.mem_of_getElem? hd'
    have hwd := wts_mem md
    have hdd := dps_mem' md
    have rd1 := rd.same sG
    have li := (List.getElem?_eq_some_iff.mp hd').1
    refine ⟨_, rfl, _, _, _, _, d.isTup, rfl, .ty "tuple", rd1.ty, kTup K d, _, rfl, ite2 (fun e => iteT (no1 G i d sG hd' ?_)) (fun e => ?_)⟩
    · cases d <;> first | rfl | cases e
    obtain ⟨ys, rfl⟩ : ∃ ys, d = .tup ys := by
      cases d with
      | tup ys => exact ⟨ys, rfl⟩
      | _ => exact absurd rfl e
    obtain ⟨b, ws, rfl, hb, hM⟩ := Dd.tupS rd1
    have lm := hM.len
    refine ⟨_, rfl, b, _, rfl, .inr (SqT.of hb), rfl, _, rfl, ite2 (fun e => iteT (no1 G i _ sG hd' ?_)) (fun e => ?_)⟩
    · have e5 : ¬ ws.length = 2 := fun z => by
        rw [z] at e
        cases e
      match ys, lm with
      | [], _ => rfl
      | [_], _ => rfl
      | [_, _], lm => exact absurd lm.symm e5
      | _ :: _ :: _ :: _, _ => rfl
    have e5 : ws.length = 2 := by
      refine Decidable.byContradiction fun z => e ?_
      have : ¬ V.int ((ws.length : Nat) : Int) = V.int 2 := fun h => z (by have := V.int.inj h; omega)
      rw [decide_eq_false this]
      rfl
    obtain ⟨y0, y1, rfl⟩ : ∃ y0 y1, ys = [y0, y1] := by
      rw [← lm] at e5
      match ys, e5 with
      | [y0, y1], _ => exact ⟨_, _, rfl⟩
    obtain ⟨p, u0, u1, ep, hp, h0, h1⟩ := Dd.tup2 rd1
    cases ep
    rw [hb] at hp
    cases hp
    have e6 : (Dt.tup [y0, y1]).wt = y0.wt + 2 + (y1.wt + 2) + 3 := by simp only [Dt.wt, Dt.wts]
    have e7 : (Dt.tup [y0, y1]).dp = max y0.dp (max y1.dp 0) + 1 := by simp only [Dt.dp, Dt.dps]
    refine ⟨_, rfl, b, _, _, _, rfl, rfl, SqT.of hb, atI_nat (j := 0) rfl, u0, y0, rfl, h0, by omega, fun G2 s2 => ⟨_, rfl, ite2 (fun e => iteT (no1 G2 i _ (sG.trans s2) hd' ?_)) (fun e => ?_)⟩⟩
    · show (nmD y0 && _) = false
      rw [show nmD y0 = false by simpa using e, Bool.false_and]
    have en : nmD y0 = true := by simpa using e
    refine ⟨_, rfl, b, _, _, _, rfl, rfl, SqT.of (s2 _ _ hb), atI_nat (j := 1) rfl, u1, y1, rfl, by omega, h1.same s2, by omega, fun G3 s3 => ⟨_, rfl, ite2 (fun e => no1 G3 i _ (sG.trans (s2.trans s3)) hd' ?_) (fun e => ?_)⟩⟩
    · show (nmD y0 && dat y1) = false
      rw [show dat y1 = false by simpa using e, Bool.and_false]
    have ed : dat y1 = true := by simpa using e
    obtain ⟨nm, rfl⟩ : ∃ nm, y0 = .str nm := by
      cases y0 with
      | str nm => exact ⟨nm, rfl⟩
      | _ => cases en
    cases h0
    have s23 := s2.trans s3
    have gL3 := s23 _ _ gL
    have tk : xs.take (i + 1) = xs.take i ++ [.tup [.str nm, y1]] := by rw [List.take_add_one, hd']; rfl
    refine ⟨_, rfl, .inl ⟨rfl, _, SqL.of gL3⟩, _, rfl, b, _, _, _, rfl, rfl, SqT.of (s23 _ _ hb), atI_nat (j := 0) rfl, L, _, _, rfl, rfl, gL3, ?_, _, rfl, ?_, ?_, ?_, ?_⟩
    · rw [List.length_map, List.length_map, List.length_take]
      have e0 : sizeLine = 16777216 := rfl
      omega
    · exact smk (sG.trans s23) nL
    · rw [upd_same, tk, List.map_append, List.map_append]
      rfl
    · rw [tk, List.all_append, al, Bool.true_and]
      show ((nmD (.str nm) && dat y1) && true) = true
      rw [en, ed]
      rfl
    · intro k hk
      rw [tk, List.map_append] at hk
      rcases List.mem_append.mp hk with z | z
      · exact hnm k z
      · rw [List.mem_singleton.mp z]
        exact en
  · obtain ⟨y2, rfl, sG, gL, al, hnm⟩ := z
    rw [← ll, List.take_length] at gL al hnm
    have hlen : (xs.map nmOf).length ≤ 3000 := by
      rw [List.length_map]
      omega
    refine ⟨_, rfl, _, rfl, L, _, rfl, SqL.of gL, Nat.lt_of_le_of_lt (Nat.succ_le_succ hlen) (by decide), fun p m hm np => ?_⟩
    have s4 := newS (o := Ks.SetH w p (Ks.inL (xs.map nmOf)) m) np
    refine ⟨p, _, m, rfl, upd_same, Nat.le_trans hm (Nat.le_trans hlen (by decide)), fun ys p2 hs hnd hmem hl2 np2 => ?_⟩
    have s5 := newS (o := .lst (ys.map V.str)) np2
    have hmem2 : ∀ k, k ∈ ys ↔ k ∈ xs.map nmOf := fun k => by
      rw [hmem k]
      unfold Ks.inL
      exact decide_eq_true_iff
    refine ⟨.list ((xs.map nmOf).map PyData.str), .list (ys.map PyData.str), .lst (SqL.of (s5 _ _ (s4 _ _ gL))) (dpStrs K _ _), .lst (SqL.of upd_same) (dpStrs K _ _), shStrs (fun k hk => nm_of (hnm k hk)), shStrs (fun k hk => nm_of (hnm k ((hmem2 k).mp hk))), ?_⟩
    have z := q _ (sG.trans (s4.trans s5))
    rw [eqvStrL, rising_iff hs hnd hmem2]
    have e8 : filD (.tup xs) = rising (xs.map nmOf) := by
      show (xs.all filD1 && _) = _
      rw [al, Bool.true_and]
    rw [e8] at z
    exact z
end
end Kq

namespace Kq
open PySem PySem.Spec PyProof.Rows L2 Kf Kg Kv GxR
abbrev tLAsk : Stmt := tp 42
abbrev tLTrm : Stmt := tp 43
/-- what a sign asks -/
def ask (s : Nat) (x : Dt) : Bool := if s = 116 then trm x else fitD (rl s) x
theorem ask_all : ∀ (ss : List Nat) (xs : List Dt), (∀ s ∈ ss, s ∈ sig7 ∨ s = 116) → ((((ss.map rl).zip xs).all fun p => fitD p.1 p.2) && (((((ss.map rl).zip xs).filter fun (p : Str × Dt) => decide (p.1 = ("term" : Str))).map (·.2)).all trm)) = ((ss.zip xs).all fun p => ask p.1 p.2)
  | [], _, _ => rfl
  | _ :: _, [], _ => rfl
  | s :: ss, x :: xs, h => by
    have ih := ask_all ss xs fun s hs => h s (List.mem_cons_of_mem _ hs)
    rw [List.map_cons, List.zip_cons_cons, List.zip_cons_cons, List.all_cons, List.all_cons, List.filter_cons, ← ih]
    rcases h s List.mem_cons_self with e | e
    · have n : ¬ s = 116 := fun z => by
        subst z
        revert e
        decide
      rw [if_neg (by simpa using rl7 s e)]
      unfold ask
      rw [if_neg n, Bool.and_assoc]
    · have e1 : rl s = "term" := by subst e; show rl 116 = ("term" : Str); decide +kernel
      rw [if_pos (by show decide (rl s = ("term" : Str)) = true; rw [e1]; decide +kernel), List.map_cons, List.all_cons, e1, fit_trm]
      unfold ask
      rw [if_pos e, Bool.true_and]
      cases trm x <;> simp
theorem valV_mem {l : List (Str × Str)} {w : Str} {v : V} (h : valV (kvs l) (.inr w) = some v) : ∃ sg, v = .str sg ∧ (w, sg) ∈ l := by
  induction l with
  | nil => cases h
  | cons p l ih =>
    have e : kvs (p :: l) = (Sum.inr p.1, V.str p.2) :: kvs l := rfl
    rw [e] at h
    by_cases c : p.1 = w
    · rw [valV_pos (by rw [c])] at h
      exact ⟨p.2, (Option.some.inj h).symm, by rw [← c]; exact List.mem_cons_self⟩
    · rw [valV_neg (fun z => c (Sum.inr.inj z))] at h
      obtain ⟨sg, h1, h2⟩ := ih h
      exact ⟨sg, h1, List.mem_cons_of_mem _ h2⟩
theorem look_mem' {α : Type} {z : Str} {v : α} : ∀ {l : List (Str × α)}, l.lookup z = some v → (z, v) ∈ l := look_mem
theorem fkv_all : ∀ p ∈ tblT, (valV (kvs fkv) (.inr p.1)).isSome = true := by decide +kernel
theorem fkv_no {w : Str} (h : valV (kvs fkv) (.inr w) = none) : rls w = none := by
  cases c : rls w with
  | none => rfl
  | some rs =>
    have z := fkv_all _ (look_mem c)
    rw [show valV (kvs fkv) (.inr ((w, rs) : Str × List Str).1) = none from h] at z
    cases z
theorem trm_none {w : Str} {xs : List Dt} (h : rls w = none) : trm (.tup (.str w :: xs)) = false := by
  rw [trm_eq]
  have : tfrm (.tup (.str w :: xs)) = false := by
    show tfm w xs = false
    unfold tfm
    rw [h]
  rw [this]
  rfl
theorem trm_some {w : Str} {ss : List Nat} {xs : List Dt} (h : rls w = some (ss.map rl)) (hs : ∀ s ∈ ss, s ∈ sig7 ∨ s = 116) : trm (.tup (.str w :: xs)) = (decide (xs.length = ss.length) && ((ss.zip xs).all fun p => ask p.1 p.2) && (!two w || !same34 xs)) := by
  rw [trm_eq, ← ask_all ss xs hs]
  have e1 : tfrm (.tup (.str w :: xs)) = (decide (xs.length = ss.length) && (((ss.map rl).zip xs).all fun p => fitD p.1 p.2) && (!two w || !same34 xs)) := by
    show tfm w xs = _
    unfold tfm
    rw [h]
    show (decide (xs.length = (ss.map rl).length) && _ && _) = _
    rw [List.length_map]
  have e2 : tprt (.tup (.str w :: xs)) = ((((ss.map rl).zip xs).filter fun (p : Str × Dt) => decide (p.1 = ("term" : Str))).map (·.2)) := by
    show tpt w xs = _
    unfold tpt
    rw [h]
  rw [e1, e2]
  cases decide (xs.length = ss.length) <;> cases (((ss.map rl).zip xs).all fun p => fitD p.1 p.2) <;> cases (!two w || !same34 xs) <;> simp
theorem fits_of {ss : List Nat} {xs : List Dt} (hs : ∀ s ∈ ss, s ∈ sig7 ∨ s = 116) (al : ((ss.zip xs).all fun p => ask p.1 p.2) = true) : (((ss.map rl).zip xs).all fun p => fitD p.1 p.2) = true := by
  rw [← ask_all ss xs hs] at al
  exact (Bool.and_eq_true_iff.mp al).1
section
variable {P : Program} {w : World} {K : PySem.W.Frag} {mg : Str → Option Value} {base : Heap}
abbrev psLAsk : List Str := ["_law_sign", "_law_thing"]
theorem scLAsk : FnScope psLAsk psLAsk (defScope tLAsk) := ⟨rfl, rfl, rfl, by decide +kernel, rfl, by decide +kernel, by decide +kernel⟩
def spLTrm (n : Nat) : Sp := fun vs H Q _ => ∃ (v : V) (x : Dt), vs = [v] ∧ x.dp + 1 ≤ n ∧ Dd Any H x v ∧ x.wt ≤ sizeLine ∧ x.sz ≤ 3000 ∧ ∀ G : Hp, Same H G → Q (.bl (trm x)) G
def spLAsk (n : Nat) : Sp := fun vs H Q _ => ∃ (v : V) (x : Dt) (s : Nat), vs = [.str ⟨#[s]⟩, v] ∧ (s ∈ sig7 ∨ s = 116) ∧ x.dp + 1 ≤ n ∧ Dd Any H x v ∧ x.wt ≤ sizeLine ∧ x.sz ≤ 3000 ∧ ∀ G : Hp, Same H G → Q (.bl (ask s x)) G
theorem okLAsk1 {f fT fN fD fC fW fF : Addr} {fd fdT fdN fdD fdC fdW fdF : FuncData} {n k : Nat} (F : Fun K "_law_is_asked" "_law_is_asked" tLAsk f fd)
    (GT : FnOk P w K mg base CX0 k fT fdT ["_law_thing"] (spLTrm n)) (bT : Binds K fdT ["_law_thing"] []) (gT : mg "_law_is_term" = some (.ref fT)) (kT : PySem.W.keepIn K (.ref fT) = true)
    (GN : FnOk P w K mg base CX0 k fN fdN ["_law_thing"] (spLYes nmD)) (bN : Binds K fdN ["_law_thing"] []) (gN : mg "_law_is_name" = some (.ref fN)) (kN : PySem.W.keepIn K (.ref fN) = true)
    (GD : FnOk P w K mg base CX0 k fD fdD ["_law_thing"] (spLData n)) (bD : Binds K fdD ["_law_thing"] []) (gD : mg "_law_is_data" = some (.ref fD)) (kD : PySem.W.keepIn K (.ref fD) = true)
    (GC : FnOk P w K mg base CX0 k fC fdC ["_law_thing"] (spLDt n argD)) (bC : Binds K fdC ["_law_thing"] []) (gC : mg "_law_is_carried" = some (.ref fC)) (kC : PySem.W.keepIn K (.ref fC) = true)
    (GW : FnOk P w K mg base CX0 k fW fdW ["_law_thing"] (spYesS whlD)) (bW : Binds K fdW ["_law_thing"] []) (gW : mg "_law_whole" = some (.ref fW)) (kW : PySem.W.keepIn K (.ref fW) = true)
    (GF : FnOk P w K mg base CX0 k fF fdF ["_law_thing"] (spLFills n)) (bF : Binds K fdF ["_law_thing"] []) (gF : mg "_law_are_fills" = some (.ref fF)) (kF : PySem.W.keepIn K (.ref fF) = true)
    (mi : mg "isinstance" = none) (mb : mg "bool" = none) (mr : mg "range" = none) : FnOk P w K mg base CX0 (k + 1) f fd psLAsk (spLAsk n) := by
  refine F.ok scLAsk (fun vs H Q E h => ?_) (fun cdv A outer s H vs Q E hr h => ?_)
  · obtain ⟨v, x, s, rfl, _⟩ := h
    rfl
  obtain ⟨v, x, s, rfl, hs, hn, hd, hw, hsz, q⟩ := h
  refine ⟨_, pss_cons (ps_if (pt_cmpR op_eq (pv 0) pe_str (nomark _)) (pss_one (ps_ret (pe_call GT hr (by rfl) gT kT bT .nil pass0 (pa_cons (pv 1) pa_nil)))) pss_nil)
    (pss_cons (ps_if (pt_cmpR op_eq (pv 0) pe_str (nomark _)) (pss_one (ps_ret (pe_call GN hr (by rfl) gN kN bN .nil pass0 (pa_cons (pv 1) pa_nil)))) pss_nil)
    (pss_cons (ps_if (pt_cmpR op_eq (pv 0) pe_str (nomark _)) (pss_one (ps_ret (pe_call GD hr (by rfl) gD kD bD .nil pass0 (pa_cons (pv 1) pa_nil)))) pss_nil)
    (pss_cons (ps_if (pt_cmpR op_eq (pv 0) pe_str (nomark _)) (pss_one (ps_ret (pe_call GC hr (by rfl) gC kC bC .nil pass0 (pa_cons (pv 1) pa_nil)))) pss_nil)
    (pss_cons (ps_if (pt_cmpR op_eq (pv 0) pe_str (nomark _)) (pss_one (ps_ret (pe_callB (isiK K rfl) (by rfl) mi PyProof.Rows.boot_isinstance (pa_cons (pv 1) (pa_cons (pe_bltn (v := .ty "bool") (by rfl) mb PyProof.Rows.boot_bool rfl) pa_nil))))) pss_nil)
    (pss_cons (ps_if (pt_cmpR op_eq (pv 0) pe_str (nomark _)) (pss_one (ps_ret (pe_and (pe_call GW hr (by rfl) gW kW bW .nil pass0 (pa_cons (pv 1) pa_nil)) (pe_one (pe_cmpR op_ge (pv 1) pe_int (nomark _)))))) pss_nil)
    (pss_cons (ps_if (pt_cmpR op_eq (pv 0) pe_str (nomark _)) (pss_one (ps_ret (pe_and (pe_call GW hr (by rfl) gW kW bW .nil pass0 (pa_cons (pv 1) pa_nil)) (pe_one (pe_cmpR op_in_rng (pv 1) (pe_callTy cr_range2 (by rfl) mr PyProof.Rows.boot_range (pa_cons pe_int (pa_cons pe_int pa_nil))) (by rfl)))))) pss_nil)
    (pss_one (ps_ret (pe_call GF hr (by rfl) gF kF bF .nil pass0 (pa_cons (pv 1) pa_nil)))))))))), ?_⟩
  have as7 : ∀ {k : Nat}, k ≠ 116 → ask k x = fitD (rl k) x := fun h => if_neg h
  -- t
  refine ⟨_, rfl, rfl, _, rfl, ite2 (fun e => ?_) (fun e0 => ?_)⟩
  · have e := sgn (k := 116) (by decide +kernel) e
    subst e
    exact ⟨_, rfl, v, x, rfl, hn, hd, hw, hsz, fun G sG => by
      have z := q G sG
      unfold ask at z
      rw [if_pos rfl] at z
      exact z⟩
  have e0 := nsgn (k := 116) (by decide +kernel) e0
  rw [as7 e0] at q
  -- x
  refine ⟨_, rfl, rfl, _, rfl, ite2 (fun e => ?_) (fun e1 => ?_)⟩
  · have e := sgn (k := 120) (by decide +kernel) e
    subst e
    exact ⟨_, rfl, v, x, rfl, hd, hw, fun G sG => by
      have z := q G sG
      rw [show fitD (rl 120) x = nmD x from fit_name x] at z
      exact z⟩
  -- d
  refine ⟨_, rfl, rfl, _, rfl, ite2 (fun e => ?_) (fun e2 => ?_)⟩
  · have e := sgn (k := 100) (by decide +kernel) e
    subst e
    exact ⟨_, rfl, v, x, rfl, hn, hd, hw, fun G sG => by
      have z := q G sG
      rw [show fitD (rl 100) x = dat x from fit_dat x] at z
      exact z⟩
  -- a
  refine ⟨_, rfl, rfl, _, rfl, ite2 (fun e => ?_) (fun e3 => ?_)⟩
  · have e := sgn (k := 97) (by decide +kernel) e
    subst e
    exact ⟨_, rfl, v, x, rfl, hn, hd, hw, fun G sG => by
      have z := q G sG
      rw [show fitD (rl 97) x = argD x from fit_arg x] at z
      exact z⟩
  -- b
  refine ⟨_, rfl, rfl, _, rfl, ite2 (fun e => ?_) (fun e4 => ?_)⟩
  · have e := sgn (k := 98) (by decide +kernel) e
    subst e
    have z := q H (Same.refl H)
    rw [show fitD (rl 98) x = x.isBl from fit_tru x] at z
    exact ⟨_, rfl, _, _, _, _, x.isBl, rfl, .ty "bool", hd.ty, kBl K x, z⟩
  -- k
  refine ⟨_, rfl, rfl, _, rfl, ite2 (fun e => ?_) (fun e5 => ?_)⟩
  · have e := sgn (k := 107) (by decide +kernel) e
    subst e
    have z := q H (Same.refl H)
    rw [show fitD (rl 107) x = numD x from fit_num x] at z
    refine ⟨_, rfl, v, x, rfl, hd, _, rfl, ite2 (fun e => ?_) (fun e => ?_)⟩
    · cases x with
      | int i =>
        cases hd
        exact ⟨_, rfl, _, _, rfl, rfl, z⟩
      | _ => cases e
    · have e1 : numD x = false := by
        cases x <;> first | rfl | exact absurd rfl e
      rw [e1] at z
      exact z
  -- r
  refine ⟨_, rfl, rfl, _, rfl, ite2 (fun e => ?_) (fun e6 => ?_)⟩
  · have e := sgn (k := 114) (by decide +kernel) e
    subst e
    refine ⟨_, rfl, v, x, rfl, hd, _, rfl, ite2 (fun e => ?_) (fun e => ?_)⟩
    · cases x with
      | int i =>
        cases hd
        refine ⟨_, rfl, 1, 31, rfl, fun p np => ⟨i, p, 1, 31, rfl, rfl, upd_same, ?_⟩⟩
        have z := q _ (newS (o := .rng 1 31) np)
        have e2 : fitD (rl 114) (.int i) = decide (1 ≤ i ∧ i < 31) := by
          rw [show fitD (rl 114) (.int i) = trnD (.int i) from fit_trn _]
          show (decide (1 ≤ i) && decide (i ≤ 30)) = _
          rw [← Bool.decide_and]
          exact decide_eq_decide.mpr (by omega)
        rw [e2] at z
        exact z
      | _ => cases e
    · have z := q H (Same.refl H)
      rw [show fitD (rl 114) x = trnD x from fit_trn x] at z
      have e1 : trnD x = false := by
        cases x <;> first | rfl | exact absurd rfl e
      rw [e1] at z
      exact z
  -- f
  have hf : s = 102 := by
    have h1 := nsgn (k := 120) (by decide +kernel) e1
    have h2 := nsgn (k := 100) (by decide +kernel) e2
    have h3 := nsgn (k := 97) (by decide +kernel) e3
    have h4 := nsgn (k := 98) (by decide +kernel) e4
    have h5 := nsgn (k := 107) (by decide +kernel) e5
    have h6 := nsgn (k := 114) (by decide +kernel) e6
    simp only [sig7, List.mem_cons, List.not_mem_nil, or_false] at hs
    omega
  subst hf
  exact ⟨_, rfl, v, x, rfl, hn, hd, hw, hsz, fun G sG => by
    have z := q G sG
    rw [show fitD (rl 102) x = filD x from fit_fil x] at z
    exact z⟩
/-! _law_is_term -/
abbrev nLTrm : List Str := ["_law_thing", "_law_signs", "_law_k"]
theorem scLTrm : FnScope nLTrm ["_law_thing"] (defScope tLTrm) := ⟨rfl, rfl, rfl, by decide +kernel, rfl, by decide +kernel, by decide +kernel⟩
theorem eqvInts0 (ns : List Int) : PyData.eqv (.list (ns.map PyData.int)) (.list []) = ns.isEmpty := by
  cases ns <;> simp [PyData.eqv, PyData.eqvAll]
theorem okLTrm1 {f fA fF : Addr} {fd fdA fdF : FuncData} {n k : Nat} (F : Fun K "_law_is_term" "_law_is_term" tLTrm f fd)
    (GA : FnOk P w K mg base CX0 k fA fdA psLAsk (spLAsk n)) (bA : Binds K fdA psLAsk []) (gA : mg "_law_is_asked" = some (.ref fA)) (kA : PySem.W.keepIn K (.ref fA) = true)
    (GF : FnOk P w K mg base CX0 k fF fdF [] spForms) (bF : Binds K fdF [] []) (gF : mg "_law_forms" = some (.ref fF)) (kF : PySem.W.keepIn K (.ref fF) = true)
    (mi : mg "isinstance" = none) (mt : mg "tuple" = none) (ms : mg "str" = none) (ml : mg "len" = none) (mr : mg "range" = none) : FnOk P w K mg base CX0 (k + 1) f fd ["_law_thing"] (spLTrm (n + 1)) := by
  refine F.ok scLTrm (fun vs H Q E h => ?_) (fun cdv A outer s H vs Q E hr h => ?_)
  · obtain ⟨v, x, rfl, _⟩ := h
    rfl
  obtain ⟨v, x, rfl, hn, hd, hw, hsz, q⟩ := h
  have hu1 : (cxOf CX0 P w K mg base nLTrm "_law_is_term" (defScope tLTrm) f cdv A outer s H E).nox.A.units + 1 < cLine := Nat.lt_of_le_of_lt (Nat.add_le_add_left (show 1 ≤ 64 by decide) _) hr.units
  refine ⟨_, pss_cons (ps_if (PW.pt (pw_or (pt_not (pt_val (pe_callB (isiK K rfl) (by rfl) mi PyProof.Rows.boot_isinstance (pa_cons (pv 0) (pa_cons (pe_bltn (v := .ty "tuple") (by rfl) mt PyProof.Rows.boot_tuple rfl) pa_nil)))))
      (pw_or (pt_cmpR (op_eqTT hr.units) (pv 0) (pe_tup pa_nil) (nomark _))
      (pw_or (pt_not (pt_val (pe_callB (isiK K rfl) (by rfl) mi PyProof.Rows.boot_isinstance (pa_cons (pe_ix ix_tup (pv 0) pe_int (fun _ _ => rfl)) (pa_cons (pe_bltn (v := .ty "str") (by rfl) ms PyProof.Rows.boot_str rfl) pa_nil)))))
      (pw_or1 (pt_cmp (pc_dnotin hu1 (pe_ix ix_tup (pv 0) pe_int (fun _ _ => rfl)) (pe_call0 GF hr (by rfl) gF kF bF .nil pass0))))))))
      (pss_one (ps_ret pe_bl)) pss_nil)
    (pss_cons (ps_set (i := 1) scLTrm.nd rfl (.inr rfl) (pe_dget hu1 (pe_call0 GF hr (by rfl) gF kF bF .nil pass0) (pe_ix ix_tup (pv 0) pe_int (fun _ _ => rfl)) (fun _ _ => rfl)))
    (pss_cons (ps_if (pt_cmpR op_ne (pe_callB call_len_seq (by rfl) ml PySem.boot_len (pa_cons (pv 0) pa_nil)) (pe_op op_add pe_int (pe_callB call_len_str (by rfl) ml PySem.boot_len (pa_cons (pv 1) pa_nil))) (nomark _)) (pss_one (ps_ret pe_bl)) pss_nil)
    (pss_cons (ps_if (pt_cmpR (op_neD hr.units) (pe_lc (own := [("_law_k", 2)]) (g := gName 2) (by rfl) scLTrm.nd (pi_range1 (by rfl) mr (pa_cons (pe_callB call_len_str (by rfl) ml PySem.boot_len (pa_cons (pv 1) pa_nil)) pa_nil)) (blkOk_by (own := [("_law_k", 2)]) (N := nLTrm) (sc := defScope tLTrm) (by decide +kernel))
        (fun _ _ _ _ _ => pg_name (i := 2) scLTrm.nd rfl (.inl rfl)) (fun _ _ _ _ _ => pts_one (pt_not (pt_val (pe_call GA hr (by rfl) gA kA bA .nil pass0 (pa_cons (pe_ix ix_str (pv 1) (pv 2) (fun _ _ => rfl)) (pa_cons (pe_ix (ixTK K rfl) (pv 0) (pe_op op_add pe_int (pv 2)) (fun _ _ => rfl)) pa_nil)))))) (fun _ _ _ _ _ => pv 2)) (pe_lst pa_nil) (nomark _))
      (pss_one (ps_ret pe_bl)) pss_nil)
    (pss_one (ps_ret (pe_or (pe_cmpR (notInK K rfl) (pe_ix ix_tup (pv 0) pe_int (fun _ _ => rfl)) (pe_tup (pa_cons pe_str (pa_cons pe_str pa_nil))) (by rfl)) (pe_one (pe_cmpR op_ne (pe_ix ix_tup (pv 0) pe_int (fun _ _ => rfl)) (pe_ix ix_tup (pv 0) pe_int (fun _ _ => rfl)) (nomark _))))))))), ?_⟩
  have no : ∀ G, Same H G → trm x = false → Q (.bl false) G := fun G sG e => by
    have z := q _ sG
    rw [e] at z
    exact z
  refine ⟨_, rfl, _, _, _, _, x.isTup, rfl, .ty "tuple", hd.ty, kTup K x, _, rfl, ite2 (fun e => iteT (no _ (Same.refl H) ?_)) (fun e => ?_)⟩
  · rw [trm_eq]
    have : tfrm x = false := by cases x <;> first | rfl | cases e
    rw [this]
    rfl
  obtain ⟨xs, rfl⟩ : ∃ xs, x = .tup xs := by
    cases x with
    | tup xs => exact ⟨xs, rfl⟩
    | _ => exact absurd rfl e
  obtain ⟨a, us, rfl, ha, hL⟩ := Dd.tupS hd
  refine ⟨_, rfl, Nat.zero_le _, fun p0 np0 => ?_⟩
  have s0 : Same H (upd H p0 (.tup [])) := newS np0
  refine ⟨a, p0, us, [], rfl, rfl, SqT.of (s0 _ _ ha), SqT.of upd_same, (fun i u v _ z => by cases z), _, rfl, ite2 (fun e => iteT (no _ s0 ?_)) (fun e => ?_)⟩
  · have : us = [] := of_decide_eq_true e
    subst this
    cases hL
    rw [trm_eq]
    rfl
  rcases DdL.see hL with ⟨rfl, rfl⟩ | ⟨y, ys, u0, ws, rfl, rfl, hy, hys⟩
  · exact absurd (decide_eq_true rfl) e
  generalize upd H p0 (.tup []) = H0 at s0
  have ha0 := s0 _ _ ha
  have hix : atI (u0 :: ws) 0 = some u0 := atI_nat (j := 0) rfl
  refine ⟨_, rfl, a, _, _, _, rfl, rfl, SqT.of ha0, hix, _, _, _, _, y.isStr, rfl, .ty "str", (hy.same s0).ty, kStr K y, _, rfl, ite2 (fun e => iteT (no _ s0 ?_)) (fun e => ?_)⟩
  · rw [trm_eq]
    have : tfrm (.tup (y :: ys)) = false := by cases y <;> first | rfl | cases e
    rw [this]
    rfl
  obtain ⟨wd, rfl⟩ : ∃ z, y = .str z := by
    cases y with
    | str z => exact ⟨z, rfl⟩
    | _ => exact absurd rfl e
  cases hy
  have ly := hys.len
  refine ⟨_, rfl, a, _, _, _, rfl, rfl, SqT.of ha0, hix, rfl, fun df G1 s1 ndf gdf => ⟨df, _, rfl, .inl ⟨kvs fkv, .inr wd, .inl gdf, rfl, rfl⟩, _, rfl, ?_⟩⟩
  have s01 := s0.trans s1
  cases hv : valV (kvs fkv) (.inr wd) with
  | none => exact iteT (no _ s01 (trm_none (fkv_no hv)))
  | some vv =>
    obtain ⟨sg', rfl, hm⟩ := valV_mem hv
    refine iteF ?_
    obtain ⟨f1, f2, f3, f4, f5⟩ := fkv_ok _ hm
    simp only at f1 f2 f3 f4 f5
    have ha1 := s01 _ _ ha
    refine ⟨rfl, fun df2 G2 s2 ndf2 gdf2 => ⟨_, rfl, a, _, _, _, rfl, rfl, SqT.of (s2 _ _ ha1), hix, df2, .str sg', rfl, .inl ⟨kvs fkv, .inr wd, .inl gdf2, rfl, hv.symm⟩, ?_⟩⟩
    have s02 := s01.trans s2
    have ha2 := s02 _ _ ha
    have hsl : sg'.length ≤ sizeLine := by
      have : sg'.cps.toList.length = sg'.length := Array.length_toList
      exact sz (by omega)
    have hsl2 : sg'.cps.toList.length = sg'.length := Array.length_toList
    have htr := trm_some (w := wd) (xs := ys) f1 f2
    refine ⟨_, rfl, a, _, rfl, .inr (SqT.of ha2), _, rfl, sg', rfl, hsl, _, _, rfl, rfl, rfl, _, rfl, ?_⟩
    refine ite2 (fun e5 => no _ s02 ?_) (fun e5 => ?_)
    · have e6 : ¬ ys.length = sg'.cps.toList.length := fun z => by
        have : (((V.str wd :: ws).length : Nat) : Int) = 1 + (sg'.length : Int) := by
          rw [List.length_cons]
          omega
        rw [this, decide_eq_true rfl] at e5
        cases e5
      rw [htr, decide_eq_false e6]
      rfl
    have e6 : ys.length = sg'.cps.toList.length := by
      refine Decidable.byContradiction fun z => e5 ?_
      have : ¬ (((V.str wd :: ws).length : Nat) : Int) = 1 + (sg'.length : Int) := by
        rw [List.length_cons]
        omega
      rw [decide_eq_false (fun h => this (V.int.inj h))]
      rfl
    rw [decide_eq_true e6, Bool.true_and] at htr
    generalize hss : sg'.cps.toList = ss at f1 f2 f3 f4 e6 htr hsl2
    have ewt : (Dt.tup (.str wd :: ys)).wt = (Dt.str wd).wt + 2 + Dt.wts ys + 3 := by simp only [Dt.wt, Dt.wts]
    have esz : (Dt.tup (.str wd :: ys)).sz = 1 + ((Dt.str wd).sz + Dt.szs ys) := by simp only [Dt.sz, Dt.szs]
    have edp : (Dt.tup (.str wd :: ys)).dp = max (Dt.str wd).dp (Dt.dps ys) + 1 := by simp only [Dt.dp, Dt.dps]
    refine ⟨_, rfl, sg', rfl, hsl, (sg'.length : Int), rfl, by omega, by omega, fun D nD => ?_⟩
    have hD : H D = none := s02.free nD
    refine lc_range (lo := 0) (n := ((sg'.length : Int)).toNat) (fun i F => Same H F ∧ ∃ zs : List Int, F D = some (.lst (zs.map V.int)) ∧ zs.length ≤ i ∧ zs.isEmpty = ((ss.zip ys).take i).all fun p => ask p.1 p.2) ?_ (fun i F hi z => ?_) (fun F z => ?_)
    · exact ⟨smk s02 hD, [], upd_same, Nat.zero_le _, rfl⟩
    · obtain ⟨sF, zs, gD, lz, al⟩ := z
      have hi5 : i < ss.length := by omega
      obtain ⟨s', hs'⟩ : ∃ s', ss[i]? = some s' := ⟨_, List.getElem?_eq_getElem hi5⟩
      obtain ⟨y, hy⟩ : ∃ y, ys[i]? = some y := ⟨_, List.getElem?_eq_getElem (by omega)⟩
      obtain ⟨u, hu, ry⟩ := hys.get' hy
      have my := List.mem_of_getElem? hy
      have d1 := dps_mem' my
      have w1 := wts_mem my
      have z1 := sz_mem my
      have hz : (ss.zip ys)[i]? = some (s', y) := by
        rw [List.getElem?_zip_eq_some]
        exact ⟨hs', hy⟩
      have e0 : (0 : Int) + (i : Int) = (i : Int) := by omega
      have e1 : (1 : Int) + ((0 : Int) + (i : Int)) = ((i + 1 : Nat) : Int) := by omega
      refine ⟨rfl, _, rfl, _, rfl, sg', _, s', rfl, rfl, hsl, ?_, _, rfl, _, rfl, _, _, rfl, rfl, a, _, _, _, rfl, rfl, SqT.of (sF _ _ ha), ?_, u, y, s', rfl, f2 s' (List.mem_of_getElem? hs'), by omega, ry.same sF, by omega, by omega, fun F2 sF2 => ⟨_, rfl, ite2 (fun e => ?_) (fun e => ?_)⟩⟩
      · rw [hss, e0]
        exact atI_nat hs'
      · rw [e1]
        exact atI_nat (by simpa using hu)
      · refine ⟨_, rfl, zs.map V.int, sF2 _ _ gD, ?_, smk (sF.trans sF2) hD, zs ++ [0 + (i : Int)], ?_, ?_, ?_⟩
        · rw [List.length_map]
          exact small1000 (by omega)
        · rw [upd_same, List.map_append]
          rfl
        · rw [List.length_append, List.length_singleton]
          omega
        · rw [take_all_no hz (by simpa using e), app_ne]
      · exact ⟨sF.trans sF2, zs, sF2 _ _ gD, by omega, by rw [al, take_all_yes hz (by simpa using e)]⟩
    · obtain ⟨sF, zs, gD, lz, al⟩ := z
      have elz : (ss.zip ys).length = ((sg'.length : Int)).toNat := by
        rw [List.length_zip]
        omega
      rw [← elz, List.take_length] at al
      refine ⟨Nat.zero_le _, fun e ne => ?_⟩
      have s9 := newS (o := .lst []) ne
      refine ⟨.list (zs.map PyData.int), .list [], .lst (SqL.of (s9 _ _ gD)) (dpInts K _ zs), .lst (SqL.of upd_same) .nil, PySem.W.ke_shaped_ints zs, rfl, _, rfl, ?_⟩
      rw [eqvInts0, al]
      have s10 := sF.trans s9
      refine ite2 (fun e7 => no _ s10 ?_) (fun e7 => ?_)
      · rw [htr, show ((ss.zip ys).all fun p => ask p.1 p.2) = false by simpa using e7]
        rfl
      have e8 : ((ss.zip ys).all fun p => ask p.1 p.2) = true := by simpa using e7
      rw [e8, Bool.true_and] at htr
      have ha10 := s10 _ _ ha
      generalize upd F e (.lst []) = F9 at s10 ha10
      refine ⟨_, rfl, a, _, _, _, rfl, rfl, SqT.of ha10, hix, (by show 2 ≤ sizeLine; decide), fun p3 np3 => ⟨p3, _, rfl, .inr (SqT.of upd_same), rfl, rfl, _, rfl, ?_⟩⟩
      have s11 : Same H (upd F9 p3 (.tup [.str "fold", .str "built"])) := s10.trans (newS np3)
      show if (!inV (V.str wd) [V.str "fold", V.str "built"]) = true then _ else _
      rw [inFB]
      refine ite2 (fun e9 => ?_) (fun e9 => ?_)
      · have z := q _ s11
        rw [htr, e9, Bool.true_or] at z
        exact z
      have et : two wd = true := by simpa using e9
      obtain ⟨d1, d2, n3, n4, d5, rfl⟩ := names34 f1 et (by rw [List.length_map]; exact e6) (fits_of f2 e8)
      obtain ⟨v1, v2, v5, rfl⟩ : ∃ v1 v2 v5, ws = [v1, v2, .str n3, .str n4, v5] := by
        rcases DdL.see hys with ⟨z1, _⟩ | ⟨_, _, v1, _, z1, rfl, _, hys⟩ <;> cases z1
        rcases DdL.see hys with ⟨z1, _⟩ | ⟨_, _, v2, _, z1, rfl, _, hys⟩ <;> cases z1
        rcases DdL.see hys with ⟨z1, _⟩ | ⟨_, _, v3, _, z1, rfl, h3, hys⟩ <;> cases z1
        rcases DdL.see hys with ⟨z1, _⟩ | ⟨_, _, v4, _, z1, rfl, h4, hys⟩ <;> cases z1
        rcases DdL.see hys with ⟨z1, _⟩ | ⟨_, _, v5, _, z1, rfl, _, hys⟩ <;> cases z1
        rcases DdL.see hys with ⟨_, rfl⟩ | ⟨_, _, v5, _, z1, rfl, _, hys⟩
        · cases h3
          cases h4
          exact ⟨_, _, _, rfl⟩
        · cases z1
      have ha11 : (upd F9 p3 (.tup [.str "fold", .str "built"])) a = some (.tup _) := s11 _ _ ha
      refine ⟨_, rfl, a, _, _, _, rfl, rfl, SqT.of ha11, atI_nat (j := 3) rfl, _, rfl, a, _, _, _, rfl, rfl, SqT.of ha11, atI_nat (j := 4) rfl, rfl, ?_⟩
      have z := q _ s11
      have e4 : same34 [d1, d2, .str n3, .str n4, d5] = decide (n3 = n4) := rfl
      rw [htr, et, e4, Bool.not_true, Bool.false_or] at z
      have e5 : decide (n3 = n4) = decide (V.str n3 = V.str n4) := decide_eq_decide.mpr ⟨fun h => congrArg V.str h, fun h => V.str.inj h⟩
      rw [e5] at z
      exact z
end
end Kq

/-! things by written displays -/
namespace Ki
open PySem PySem.Spec PyProof.Rows L2 Kf Kv
abbrev New (H : Hp) : Addr → Prop := fun b => H b = none
/-- what is known of the slots and the heap, whatever is put beside -/
structure Ev where
  e : L2.St → Hp → Prop
  cl : ∀ σ H G, e σ H → Same H G → e σ G
def tT (E : Ev) (x : Dt) : TE := fun σ H Q => E.e σ H ∧ ∀ v G, Same H G → Dd (New H) G x v → Q v G
def tTs (E : Ev) (xs : List Dt) : TA := fun σ H Q => E.e σ H ∧ ∀ vs G, Same H G → DdL (New H) G xs vs → Q vs G
theorem newS {H : Hp} {p : Addr} {o : HO} (h : H p = none) : Same H (upd H p o) := fun b u e => by
  rw [upd_ne (ne_of_none e h)]
  exact e
section
variable {X : Cx} {E : Ev}
theorem weak {e : Expr} {t t' : TE} (h : PE X e t) (i : ∀ σ H Q, t' σ H Q → t σ H Q) : PE X e t' := ⟨fun pins s σ H Q I q => h.run pins s σ H Q I (i σ H Q q)⟩
theorem weakA {es : List Expr} {t t' : TA} (h : PA X es t) (i : ∀ σ H Q, t' σ H Q → t σ H Q) : PA X es t' := ⟨fun pos pins s σ H Q I q => h.run pos pins s σ H Q I (i σ H Q q)⟩
theorem pT_of {e : Expr} {t : TE} {x : Dt} (h : PE X e t) (i : ∀ (σ : L2.St) (H : Hp) (Q : VK), E.e σ H → (∀ v G, Same H G → Dd (New H) G x v → Q v G) → t σ H Q) : PE X e (tT E x) := weak h fun σ H Q q => i σ H Q q.1 q.2
theorem pT_str {z j pos} : PE X (.Constant (.str z) j pos) (tT E (.str z)) := pT_of pe_str fun σ H Q _ q => q _ _ (Same.refl H) (.str _)
theorem pT_int {z j pos} : PE X (.Constant (.int z) j pos) (tT E (.int z)) := pT_of pe_int fun σ H Q _ q => q _ _ (Same.refl H) (.int _)
theorem pT_bl {z j pos} : PE X (.Constant (.bool z) j pos) (tT E (.bl z)) := pT_of pe_bl fun σ H Q _ q => q _ _ (Same.refl H) (.bl _)
theorem pT_non {j pos} : PE X (.Constant .none j pos) (tT E .non) := pT_of pe_non fun σ H Q _ q => q _ _ (Same.refl H) .non
theorem pTs_nil : PA X [] (tTs E []) := weakA pa_nil fun σ H Q q => q.2 [] H (Same.refl H) .nil
theorem pTs_cons {e : Expr} {es : List Expr} {x : Dt} {xs : List Dt} (ha : PE X e (tT E x)) (hr : PA X es (tTs E xs)) (hs : starEach (e :: es) X.env = (false, eval e X.env) :: starEach es X.env := by rfl) : PA X (e :: es) (tTs E (x :: xs)) :=
  weakA (pa_cons ha hr hs) fun σ H Q q => ⟨q.1, fun v G s hv => ⟨E.cl _ _ _ q.1 s, fun vs G2 s2 hvs => q.2 _ _ (s.trans s2) (.cons (hv.same s2) (hvs.at fun b u n _ => s.free n))⟩⟩
theorem pT_tup {es : List Expr} {xs : List Dt} {k : Nat} {pos : Pos} (h : PA X es (tTs E xs)) (hl : xs.length ≤ 1000 := by exact Nat.le_of_ble_eq_true rfl) : PE X (.Tuple es k pos) (tT E (.tup xs)) :=
  weak (pe_tup h) fun σ H Q q => ⟨q.1, fun vs G s hd => ⟨by rw [← hd.len]; exact Nat.le_of_lt (small1000 hl), fun p np => q.2 _ _ (s.trans (newS np)) (.tup upd_same (hd.same (newS np)))⟩⟩
theorem pT_lst {es : List Expr} {xs : List Dt} {pos : Pos} (h : PA X es (tTs E xs)) (hl : xs.length ≤ 1000 := by exact Nat.le_of_ble_eq_true rfl) : PE X (.List es pos) (tT E (.lst xs)) :=
  weak (pe_lst h) fun σ H Q q => ⟨q.1, fun vs G s hd => ⟨by rw [← hd.len]; exact Nat.le_of_lt (small1000 hl), fun p np => q.2 _ _ (s.trans (newS np)) (.lst (s.free np) upd_same (hd.same (newS np)))⟩⟩
end
/-! things without lists -/
mutual
def noL : Dt → Bool
  | .tup xs => noLs xs
  | .lst _ => false
  | .dct _ => false
  | _ => true
def noLs : List Dt → Bool
  | [] => true
  | x :: xs => noL x && noLs xs
end
mutual
theorem pureD {N M : Addr → Prop} {H : Hp} : ∀ {x : Dt} {v : V}, Dd N H x v → noL x = true → Dd M H x v
  | _, _, .non, _ => .non
  | _, _, .bl b, _ => .bl b
  | _, _, .int i, _ => .int i
  | _, _, .str x, _ => .str x
  | _, _, .tup h t, e => .tup h (pureL t (by simpa only [noL] using e))
  | _, _, .lst _ _ _, e => by simp [noL] at e
  | _, _, .dct _ _, e => by simp [noL] at e
theorem pureL {N M : Addr → Prop} {H : Hp} : ∀ {xs : List Dt} {vs : List V}, DdL N H xs vs → noLs xs = true → DdL M H xs vs
  | _, _, .nil, _ => .nil
  | x :: xs, _ :: _, .cons h t, e => by
    have e' : (noL x && noLs xs) = true := by simpa only [noLs] using e
    obtain ⟨e1, e2⟩ := Bool.and_eq_true_iff.mp e'
    exact .cons (pureD h e1) (pureL t e2)
end
theorem lstS {N : Addr → Prop} {H : Hp} {xs : List Dt} {v : V} (h : Dd N H (.lst xs) v) : ∃ a vs, v = .ref a ∧ N a ∧ H a = some (.lst vs) ∧ DdL N H xs vs := by
  cases h with
  | lst n h t => exact ⟨_, _, rfl, n, h, t⟩
end Ki

namespace Kq
open PySem PySem.Spec PyProof.Rows L2 Kf Kg Kv GxR RZ Ki
/-! displays whose things may stand at N -/
/-- what is known of the slots and the heap, whatever is put beside; what is free is of N -/
structure En (N : Addr → Prop) where
  e : L2.St → Hp → Prop
  cl : ∀ σ H G, e σ H → Same H G → e σ G
  fr : ∀ σ H b, e σ H → H b = none → N b
def uT {N : Addr → Prop} (E : En N) (x : Dt) : TE := fun σ H Q => E.e σ H ∧ ∀ v G, Same H G → Dd N G x v → Q v G
def uTs {N : Addr → Prop} (E : En N) (xs : List Dt) : TA := fun σ H Q => E.e σ H ∧ ∀ vs G, Same H G → DdL N G xs vs → Q vs G
def uP {N : Addr → Prop} (E : En N) (R : Dt → Prop) : TE := fun σ H Q => E.e σ H ∧ ∀ v x G, Same H G → Dd N G x v → R x → Q v G
def uPs {N : Addr → Prop} (E : En N) (R : Dt → Prop) (n : Nat) : TA := fun σ H Q => E.e σ H ∧ ∀ vs xs G, Same H G → DdL N G xs vs → (∀ x ∈ xs, R x) → xs.length = n → Q vs G
def uPl {N : Addr → Prop} (E : En N) (R : Dt → Prop) (n : Nat) : TE := fun σ H Q => E.e σ H ∧ ∀ v xs G, Same H G → Dd N G (.lst xs) v → (∀ x ∈ xs, R x) → xs.length = n → Q v G
section
variable {X : Cx} {N : Addr → Prop} {E : En N} {R : Dt → Prop}
theorem uT_of {e : Expr} {t : TE} {x : Dt} (h : PE X e t) (i : ∀ (σ : L2.St) (H : Hp) (Q : VK), E.e σ H → (∀ v G, Same H G → Dd N G x v → Q v G) → t σ H Q) : PE X e (uT E x) := weak h fun σ H Q q => i σ H Q q.1 q.2
theorem uT_str {z j pos} : PE X (.Constant (.str z) j pos) (uT E (.str z)) := uT_of pe_str fun σ H Q _ q => q _ _ (Same.refl H) (.str _)
theorem uT_int {z j pos} : PE X (.Constant (.int z) j pos) (uT E (.int z)) := uT_of pe_int fun σ H Q _ q => q _ _ (Same.refl H) (.int _)
theorem uT_bl {z j pos} : PE X (.Constant (.bool z) j pos) (uT E (.bl z)) := uT_of pe_bl fun σ H Q _ q => q _ _ (Same.refl H) (.bl _)
theorem uT_non {j pos} : PE X (.Constant .none j pos) (uT E .non) := uT_of pe_non fun σ H Q _ q => q _ _ (Same.refl H) .non
theorem uT_neg {z k p pos} : PE X (.UnaryOp .USub (.Constant (.int z) k p) pos) (uT E (.int (-z))) := uT_of (pe_un un_neg pe_int) fun σ H Q _ q => ⟨_, rfl, q _ _ (Same.refl H) (.int _)⟩
theorem uT_emp {pos} : PE X (.Dict [] [] pos) (uT E (.dct [])) := uT_of pe_dnewK fun σ H Q e q => fun d hd => q _ _ (newS hd) (.dct (E.fr _ _ _ e hd) upd_same)
theorem uTs_nil : PA X [] (uTs E []) := weakA pa_nil fun σ H Q q => q.2 [] H (Same.refl H) .nil
theorem uTs_cons {e : Expr} {es : List Expr} {x : Dt} {xs : List Dt} (ha : PE X e (uT E x)) (hr : PA X es (uTs E xs)) (hs : starEach (e :: es) X.env = (false, eval e X.env) :: starEach es X.env := by rfl) : PA X (e :: es) (uTs E (x :: xs)) :=
  weakA (pa_cons ha hr hs) fun σ H Q q => ⟨q.1, fun v G s hv => ⟨E.cl _ _ _ q.1 s, fun vs G2 s2 hvs => q.2 _ _ (s.trans s2) (.cons (hv.same s2) hvs)⟩⟩
theorem uT_tup {es : List Expr} {xs : List Dt} {k : Nat} {pos : Pos} (h : PA X es (uTs E xs)) (hl : xs.length ≤ 1000 := by exact Nat.le_of_ble_eq_true rfl) : PE X (.Tuple es k pos) (uT E (.tup xs)) :=
  weak (pe_tup h) fun σ H Q q => ⟨q.1, fun vs G s hd => ⟨by rw [← hd.len]; exact Nat.le_of_lt (small1000 hl), fun p np => q.2 _ _ (s.trans (newS np)) (.tup upd_same (hd.same (newS np)))⟩⟩
theorem uT_lst {es : List Expr} {xs : List Dt} {pos : Pos} (h : PA X es (uTs E xs)) (hl : xs.length ≤ 1000 := by exact Nat.le_of_ble_eq_true rfl) : PE X (.List es pos) (uT E (.lst xs)) :=
  weak (pe_lst h) fun σ H Q q => ⟨q.1, fun vs G s hd => ⟨by rw [← hd.len]; exact Nat.le_of_lt (small1000 hl), fun p np => q.2 _ _ (s.trans (newS np)) (.lst (E.fr _ _ _ (E.cl _ _ _ q.1 s) np) upd_same (hd.same (newS np)))⟩⟩
theorem uP_of {e : Expr} {t : TE} (h : PE X e t) (i : ∀ (σ : L2.St) (H : Hp) (Q : VK), E.e σ H → (∀ v x G, Same H G → Dd N G x v → R x → Q v G) → t σ H Q) : PE X e (uP E R) := weak h fun σ H Q q => i σ H Q q.1 q.2
theorem uP_T {e : Expr} {x : Dt} (h : PE X e (uT E x)) (r : R x) : PE X e (uP E R) := weak h fun σ H Q q => ⟨q.1, fun v G s hv => q.2 v x G s hv r⟩
theorem uPs_nil : PA X [] (uPs E R 0) := weakA pa_nil fun σ H Q q => q.2 [] [] H (Same.refl H) .nil (fun _ z => nomatch z) rfl
theorem uPs_cons {e : Expr} {es : List Expr} {n : Nat} (ha : PE X e (uP E R)) (hr : PA X es (uPs E R n)) (hs : starEach (e :: es) X.env = (false, eval e X.env) :: starEach es X.env := by rfl) : PA X (e :: es) (uPs E R (n + 1)) :=
  weakA (pa_cons ha hr hs) fun σ H Q q => ⟨q.1, fun v x G s hv r => ⟨E.cl _ _ _ q.1 s, fun vs xs G2 s2 hvs rs hl => q.2 _ (x :: xs) _ (s.trans s2) (.cons (hv.same s2) hvs) (fun y hy => by
    rcases List.mem_cons.mp hy with rfl | hy
    · exact r
    · exact rs y hy) (by rw [List.length_cons, hl])⟩⟩
theorem uP_lst {es : List Expr} {n : Nat} {pos : Pos} (h : PA X es (uPs E R n)) (hl : n ≤ 1000 := by decide) : PE X (.List es pos) (uPl E R n) :=
  weak (pe_lst h) fun σ H Q q => ⟨q.1, fun vs xs G s hd rs hn => ⟨by rw [← hd.len, hn]; exact Nat.le_of_lt (small1000 hl), fun p np => q.2 _ xs _ (s.trans (newS np)) (.lst (E.fr _ _ _ (E.cl _ _ _ q.1 s) np) upd_same (hd.same (newS np))) rs hn⟩⟩
end
theorem lstN {N : Addr → Prop} {H : Hp} {xs : List Dt} {v : V} (h : Dd N H (.lst xs) v) : ∃ a vs, v = .ref a ∧ N a ∧ H a = some (.lst vs) ∧ DdL N H xs vs := by
  cases h with
  | lst n h t => exact ⟨_, _, rfl, n, h, t⟩
/-- an item of a list, by a number -/
theorem uat {N : Addr → Prop} {H : Hp} {xs : List Dt} {vs : List V} (h : DdL N H xs vs) {i : Int} (h0 : 0 ≤ i) (h1 : i < (xs.length : Int)) : ∃ u y, atI vs i = some u ∧ y ∈ xs ∧ Dd N H y u := by
  obtain ⟨j, rfl⟩ : ∃ j : Nat, i = (j : Int) := ⟨i.toNat, by omega⟩
  have hj : j < xs.length := by omega
  obtain ⟨u, hu, hd⟩ := h.get' (List.getElem?_eq_getElem hj)
  exact ⟨u, _, atI_nat hu, List.getElem_mem hj, hd⟩
/-! picks: numbers drawn ahead -/
abbrev tPick : Stmt := tp 44
abbrev tOdd : Stmt := tp 45
/-- all but the picks stands -/
def Kb (k : Addr) (H G : Hp) : Prop := ∀ b o, b ≠ k → H b = some o → G b = some o
theorem Kb.rfl {k : Addr} {H : Hp} : Kb k H H := fun _ _ _ e => e
theorem Kb.trans {k : Addr} {H G F : Hp} (a : Kb k H G) (b : Kb k G F) : Kb k H F := fun x o h e => b x o h (a x o h e)
theorem Kb.of {k : Addr} {H G : Hp} (a : Same H G) : Kb k H G := fun x o _ e => a x o e
/-- the picks stand there -/
def Pk (H : Hp) (k : Addr) : Prop := ∃ ns : List Int, H k = some (.lst (ns.map V.int))
theorem Pk.same {H G : Hp} {k : Addr} (h : Pk H k) (s : Same H G) : Pk G k := by
  obtain ⟨ns, e⟩ := h
  exact ⟨ns, s _ _ e⟩
abbrev Nk (k : Addr) : Addr → Prop := fun b => b ≠ k
theorem Kb.kn {k : Addr} {H G : Hp} (a : Kb k H G) (p : Pk H k) : Kn (Nk k) H G := by
  obtain ⟨ns, e⟩ := p
  exact ⟨fun b xs h => a b _ (fun z => by rw [z, e] at h; cases h) h, fun b xs n h => a b _ n h, fun b xs n h => a b _ n h⟩
theorem Pk.fr {H : Hp} {k b : Addr} (p : Pk H k) (h : H b = none) : b ≠ k := fun z => by
  obtain ⟨ns, e⟩ := p
  rw [z, e] at h
  cases h
section
variable {P : Program} {w : World} {K : PySem.W.Frag} {mg : Str → Option Value} {base : Heap}
theorem scPick : FnScope ["_law_picks", "_law_many"] ["_law_picks", "_law_many"] (defScope tPick) := ⟨rfl, rfl, rfl, by decide +kernel, rfl, by decide +kernel, by decide +kernel⟩
def spPick : Sp := fun vs H Q _ => ∃ (k : Addr) (m : Int), vs = [.ref k, .int m] ∧ Pk H k ∧ 0 < m ∧ ∀ (r : Int) (G : Hp), 0 ≤ r → r < m → Kb k H G → Pk G k → Q (.int r) G
theorem okPick {f : Addr} {fd : FuncData} {k : Nat} (F : Fun K "_law_pick" "_law_pick" tPick f fd) : FnOk P w K mg base CX0 (k + 1) f fd ["_law_picks", "_law_many"] spPick := by
  refine F.ok scPick (fun vs H Q E h => ?_) (fun cdv A outer s H vs Q E hr h => ?_)
  · obtain ⟨k, m, rfl, _⟩ := h
    rfl
  obtain ⟨pk, m, rfl, ⟨ns, hk⟩, m0, q⟩ := h
  refine ⟨_, pss_cons (ps_if (pt_cmpR (op_eqD hr.units) (pv 0) (pe_lst pa_nil) (nomark _)) (pss_one (ps_ret pe_int)) pss_nil)
    (pss_one (ps_ret (pe_op op_mod (pe_bm0 PySem.F.plainAttrs_list PySem.F.slot_list_pop PySem.F.type_list_pop mt_pop (pv 0)) (pv 1)))), ?_⟩
  refine ⟨_, rfl, Nat.zero_le _, fun p np => ?_⟩
  have sp := newS (o := .lst []) np
  have hk1 := sp _ _ hk
  refine ⟨.list (ns.map PyData.int), .list [], .lst (SqL.of hk1) (dpInts K _ ns), .lst (SqL.of upd_same) .nil, PySem.W.ke_shaped_ints ns, rfl, _, rfl, ite2 (fun _ => ?_) (fun hne => ?_)⟩
  · exact q 0 _ (Int.le_refl _) m0 (Kb.of sp) ⟨ns, hk1⟩
  · have nn : ns ≠ [] := fun z => hne (by rw [z]; rfl)
    obtain ⟨n, hn⟩ : ∃ n, (ns.map V.int)[(ns.map V.int).length - 1]? = some (.int n) := by
      have h0 : 0 < ns.length := List.length_pos_iff.mpr nn
      rw [List.length_map, List.getElem?_map, List.getElem?_eq_getElem (by omega)]
      exact ⟨_, rfl⟩
    refine ⟨_, rfl, .inl ⟨rfl, _, SqL.of hk1⟩, pk, _, _, rfl, rfl, hk1, hn, ?_⟩
    rw [← List.map_dropLast]
    refine ⟨_, rfl, _, _, rfl, rfl, m0, q _ _ (Int.emod_nonneg _ (by omega)) (Int.emod_lt_of_pos _ m0) ?_ ⟨ns.dropLast, upd_same⟩⟩
    intro b o hb e
    rw [upd_ne hb]
    exact sp _ _ e
/-! _law_odd -/
def BO : Nat := 10 ^ 40
structure Oth (L B n : Nat) (y : Dt) : Prop where
  lo : y.loc L B
  dp : y.dp ≤ n
theorem scOdd : FnScope ["_law_picks", "_law_some"] ["_law_picks"] (defScope tOdd) := ⟨rfl, rfl, rfl, by decide +kernel, rfl, by decide +kernel, by decide +kernel⟩
def spOdd : Sp := fun vs H Q _ => ∃ (k : Addr), vs = [.ref k] ∧ Pk H k ∧ ∀ (v : V) (y : Dt) (G : Hp), Kb k H G → Pk G k → Dd (Nk k) G y v → Oth 20 BO 2 y → Q v G
/-- the picks are there -/
def evO (k : Addr) : En (Nk k) where
  e := fun σ H => Pk H k
  cl := fun σ H G h s => h.same s
  fr := fun σ H b h f => h.fr f
theorem oStr {x : Str} (h : (x.cps.toList.all fun c => decide (c < 128)) = true) (l : x.length ≤ 20) : Oth 20 BO 2 (.str x) := ⟨loc_str.mpr (ascLit h l), by rw [dp_str]; omega⟩
theorem oStr1 {x : Str} (h : (x.cps.toList.all fun c => decide (c < 128)) = true) (l : x.length ≤ 20) : Oth 20 BO 2 (.tup [.str x]) := ⟨loc_tup.mpr ⟨Nat.le_of_ble_eq_true rfl, fun y hy => by rw [List.mem_singleton.mp hy]; exact loc_str.mpr (ascLit h l)⟩, by simp only [Dt.dp, Dt.dps]; omega⟩
theorem oStr2 {x z : Str} (h : (x.cps.toList.all fun c => decide (c < 128)) = true) (l : x.length ≤ 20) (h2 : (z.cps.toList.all fun c => decide (c < 128)) = true) (l2 : z.length ≤ 20) : Oth 20 BO 2 (.tup [.str x, .str z]) := ⟨loc_tup.mpr ⟨Nat.le_of_ble_eq_true rfl, fun y hy => by
  rcases List.mem_cons.mp hy with rfl | hy
  · exact loc_str.mpr (ascLit h l)
  · rw [List.mem_singleton.mp hy]
    exact loc_str.mpr (ascLit h2 l2)⟩, by simp only [Dt.dp, Dt.dps]; omega⟩
theorem oInt {i : Int} (h : i.natAbs < BO) : Oth 20 BO 2 (.int i) := ⟨loc_int.mpr h, by simp only [Dt.dp]; omega⟩
theorem oBl {b : Bool} : Oth 20 BO 2 (.bl b) := ⟨by simp only [Dt.loc], by simp only [Dt.dp]; omega⟩
theorem oNon : Oth 20 BO 2 .non := ⟨by simp only [Dt.loc], by simp only [Dt.dp]; omega⟩
theorem oT0 : Oth 20 BO 2 (.tup []) := ⟨loc_tup.mpr ⟨Nat.zero_le _, fun _ z => absurd z List.not_mem_nil⟩, by simp only [Dt.dp, Dt.dps]; omega⟩
theorem oL0 : Oth 20 BO 2 (.lst []) := ⟨loc_lst.mpr ⟨Nat.zero_le _, fun _ z => absurd z List.not_mem_nil⟩, by simp only [Dt.dp, Dt.dps]; omega⟩
theorem oD0 : Oth 20 BO 2 (.dct []) := ⟨by simp only [Dt.loc]; exact ⟨Nat.zero_le _, fun _ z => absurd z List.not_mem_nil⟩, by simp only [Dt.dp]; omega⟩
theorem oD1 : Oth 20 BO 2 (.dct [("num", 1)]) := ⟨by simp only [Dt.loc]; exact ⟨Nat.le_refl _, fun p hp => by rw [List.mem_singleton.mp hp]; exact ⟨ascLit (by decide +kernel) (by decide +kernel), by decide +kernel⟩⟩, by simp only [Dt.dp]; omega⟩
theorem oL1 : Oth 20 BO 2 (.lst [.tup [.str "num"]]) := ⟨loc_lst.mpr ⟨Nat.le_of_ble_eq_true rfl, fun y hy => by rw [List.mem_singleton.mp hy]; exact (oStr1 (by decide +kernel) (by decide +kernel)).lo⟩, by simp only [Dt.dp, Dt.dps]; omega⟩
theorem okOdd {f fP : Addr} {fd fdP : FuncData} {k : Nat} (F : Fun K "_law_odd" "_law_odd" tOdd f fd)
    (GP : FnOk P w K mg base CX0 k fP fdP ["_law_picks", "_law_many"] spPick) (bP : Binds K fdP ["_law_picks", "_law_many"] []) (gP : mg "_law_pick" = some (.ref fP)) (kP : PySem.W.keepIn K (.ref fP) = true) : FnOk P w K mg base CX0 (k + 1) f fd ["_law_picks"] spOdd := by
  refine F.ok scOdd (fun vs H Q E h => ?_) (fun cdv A outer s H vs Q E hr h => ?_)
  · obtain ⟨k, rfl, _⟩ := h
    rfl
  obtain ⟨pk, rfl, hk, q⟩ := h
  refine ⟨_, pss_cons (ps_set (i := 1) scOdd.nd rfl (.inl rfl) (uP_lst (E := evO pk) (R := Oth 20 BO 2) (uPs_cons (uP_T uT_non oNon) (uPs_cons (uP_T uT_bl oBl) (uPs_cons (uP_T uT_bl oBl) (uPs_cons (uP_T uT_int (oInt (by decide +kernel))) (uPs_cons (uP_T uT_int (oInt (by decide +kernel)))
      (uPs_cons (uP_T uT_neg (oInt (by decide +kernel))) (uPs_cons (uP_T uT_int (oInt (by decide +kernel))) (uPs_cons (uP_T uT_str (oStr (by decide +kernel) (by decide +kernel))) (uPs_cons (uP_T uT_str (oStr (by decide +kernel) (by decide +kernel))) (uPs_cons (uP_T uT_str (oStr (by decide +kernel) (by decide +kernel)))
      (uPs_cons (uP_T (uT_tup uTs_nil) oT0) (uPs_cons (uP_T (uT_lst uTs_nil) oL0) (uPs_cons (uP_T uT_emp oD0) (uPs_cons (uP_T (uT_tup (uTs_cons uT_str uTs_nil)) (oStr1 (by decide +kernel) (by decide +kernel)))
      (uPs_cons (uP_T (uT_tup (uTs_cons uT_str (uTs_cons uT_str uTs_nil))) (oStr2 (by decide +kernel) (by decide +kernel) (by decide +kernel) (by decide +kernel)))
      (uPs_cons (uP_of (pe_op op_pow pe_int pe_int) fun σ H Q _ q => ⟨_, _, rfl, rfl, ⟨by decide, by decide, by decide⟩, q _ _ _ (Same.refl H) (.int _) (oInt (by decide +kernel))⟩)
      (uPs_cons (uP_T uT_str (oStr (by decide +kernel) (by decide +kernel))) uPs_nil)))))))))))))))))))
    (pss_one (ps_ret (pe_ix ix_list (pe_op op_cat (pv 1) (uP_lst (E := evO pk) (R := Oth 20 BO 2) (uPs_cons (uP_T uT_str (oStr (by decide +kernel) (by decide +kernel))) (uPs_cons (uP_T (uT_tup (uTs_cons uT_str (uTs_cons uT_str uTs_nil))) (oStr2 (by decide +kernel) (by decide +kernel) (by decide +kernel) (by decide +kernel)))
      (uPs_cons (uP_of (pe_disp (pps_cons pe_str pe_int pps_nil) (by rfl) (by rfl) (fun z => by cases z) (by decide)) fun σ H Q e q => fun d nd => ⟨upd_same, [(.inr "num", .int 1)], rfl, by decide, by
        have s1 : Same H (upd (upd H d (.dK [])) d (.dK (mergeK [] [(.inr "num", .int 1)]))) := fun b u e => by
          rw [upd_ne (ne_of_none e nd), upd_ne (ne_of_none e nd)]
          exact e
        exact q _ (.dct [("num", 1)]) _ s1 (.dct (e.fr nd) (by rw [upd_same]; rfl)) oD1⟩)
      (uPs_cons (uP_T (uT_lst (uTs_cons (uT_tup (uTs_cons uT_str uTs_nil)) uTs_nil)) oL1) uPs_nil)))))) (pe_call GP hr (by rfl) gP kP bP .nil pass0 (pa_cons (pv 0) (pa_cons pe_int pa_nil))) (fun _ _ => rfl)))), ?_⟩
  refine ⟨hk, fun v1 xs1 G1 s1 hv1 hR1 hl1 => ?_⟩
  obtain ⟨a1, vs1, rfl, na1, ha1, hL1⟩ := lstN hv1
  refine ⟨_, rfl, hk.same s1, fun v2 xs2 G2 s2 hv2 hR2 hl2 => ?_⟩
  obtain ⟨a2, vs2, rfl, na2, ha2, hL2⟩ := lstN hv2
  have l1 := hL1.len
  have l2 := hL2.len
  refine ⟨a1, a2, vs1, vs2, rfl, rfl, s2 _ _ ha1, ha2, by rw [← l1, ← l2, hl1, hl2]; exact sz (by decide), fun p np => ?_⟩
  have s3 := newS (o := .lst (vs1 ++ vs2)) np
  have hk3 := hk.same (s1.trans (s2.trans s3))
  have hL3 : DdL (Nk pk) (upd G2 p (.lst (vs1 ++ vs2))) (xs1 ++ xs2) (vs1 ++ vs2) := (hL1.same (s2.trans s3)).app (hL2.same s3)
  have np' : p ≠ pk := (hk.same (s1.trans s2)).fr np
  refine ⟨_, rfl, pk, 21, rfl, hk3, by decide, fun r G4 r0 r1 kb4 hk4 => ?_⟩
  have hL4 := hL3.kn (kb4.kn hk3)
  obtain ⟨u, y, e1, my, hy⟩ := uat hL4 r0 (by rw [List.length_append, hl1, hl2]; exact r1)
  refine ⟨p, _, _, _, rfl, rfl, SqL.of (kb4 p _ np' upd_same), e1, q u y G4 ((Kb.of (s1.trans (s2.trans s3))).trans kb4) hk4 hy ?_⟩
  rcases List.mem_append.mp my with z | z
  · exact hR1 y z
  · exact hR2 y z
end
end Kq

/-! tuples put together and cut, wherever the answer stands -/
namespace Kv
open PySem PySem.Spec PyProof.Rows L2 Kf
theorem new_same {H : Hp} {p : Addr} {o : HO} (h : H p = none) : Same H (upd H p o) := fun b u e => by
  rw [upd_ne (ne_of_none e h)]
  exact e
def rCatU : R2 := fun x y H Q => ∃ (a b : Addr) (xs ys : List V), x = .ref a ∧ y = .ref b ∧ H a = some (.tup xs) ∧ H b = some (.tup ys) ∧ xs.length + ys.length ≤ sizeLine ∧ ∀ (p : Addr) (G : Hp), Same H G → G p = some (.tup (xs ++ ys)) → Q (.ref p) G
theorem op_catU {X : Cx} : OpR X (binaryOp .Add) rCatU := by
  intro pins s σ H x y v u Q I rx ry h
  obtain ⟨a, b, xs, ys, rfl, rfl, ha, hb, hz, q⟩ := h
  refine op_catA pins s σ H _ _ v u Q I rx ry ⟨a, b, xs, ys, rfl, rfl, SqT.of ha, SqT.of hb, hz, fun e => ?_, fun _ e => ?_, fun _ _ p np => q p _ (new_same np) upd_same⟩
  · subst e
    exact q b H (Same.refl H) hb
  · subst e
    exact q a H (Same.refl H) (by rw [List.append_nil]; exact ha)
def rSlU : V → Option Int → Option Int → Hp → VK → Prop := fun x lo hi H Q => ∃ (a : Addr) (xs : List V), x = .ref a ∧ H a = some (.tup xs) ∧ ∀ (p : Addr) (G : Hp), Same H G → G p = some (.tup (cutV xs lo hi)) → Q (.ref p) G
theorem sl_tupU {X : Cx} : SlR X rSlU := by
  intro pins s σ H x v vl vu lo hi sl Q I rx hs pl pu h
  obtain ⟨a, xs, rfl, ha, q⟩ := h
  refine sl_tupA pins s σ H _ v vl vu lo hi sl Q I rx hs pl pu ⟨a, xs, rfl, SqT.of ha, fun e => q a H (Same.refl H) ?_, fun _ p np => q p _ (new_same np) upd_same⟩
  rw [ha]
  unfold cutV
  rw [e.1, e.2, List.drop_zero, Nat.sub_zero, List.take_length]
theorem cut_take (xs : List V) (n : Nat) : cutV xs none (some (n : Int)) = xs.take n := by
  unfold cutV
  rw [HT.sIx_none, HT.sIx_nat, List.drop_zero, Nat.sub_zero]
  by_cases h : n ≤ xs.length
  · rw [Nat.min_eq_left h]
  · rw [Nat.min_eq_right (by omega), List.take_length, List.take_of_length_le (by omega)]
theorem cut_drop (xs : List V) (n : Nat) : cutV xs (some (n : Int)) none = xs.drop n := by
  unfold cutV
  rw [HT.sIx_none, HT.sIx_nat]
  by_cases h : n ≤ xs.length
  · rw [Nat.min_eq_left h, ← List.length_drop, List.take_length]
  · rw [Nat.min_eq_right (by omega), List.drop_length, List.drop_of_length_le (by omega)]
    simp
theorem cut_mid (xs : List V) (n m : Nat) : cutV xs (some (n : Int)) (some (m : Int)) = (xs.drop n).take (m - n) := by
  unfold cutV
  rw [HT.sIx_nat, HT.sIx_nat]
  by_cases h : n ≤ xs.length
  · rw [Nat.min_eq_left h]
    by_cases h2 : m ≤ xs.length
    · rw [Nat.min_eq_left h2]
    · rw [Nat.min_eq_right (by omega), ← List.length_drop, List.take_length, List.take_of_length_le (by rw [List.length_drop]; omega)]
  · have e1 : xs.drop n = [] := List.drop_of_length_le (by omega)
    have e2 : xs.drop (min n xs.length) = [] := List.drop_of_length_le (by omega)
    rw [e1, e2]
    simp
/-! places in things -/
def Dt.at? : Dt → List Nat → Option Dt
  | x, [] => some x
  | .tup xs, i :: p => match xs[i]? with
    | some y => y.at? p
    | none => none
  | _, _ :: _ => none
end Kv

namespace Kq
open PySem PySem.Spec PyProof.Rows L2 Kf Kg Kv GxR RZ Ki
abbrev tOther : Stmt := tp 46
theorem asc_cut {L : Nat} {x : Str} (h : Asc L x) (lo hi : Option Int) : Asc L (cutS x lo hi) := by
  refine ⟨fun c hc => ?_, Nat.le_trans (cutS_length x lo hi) h.len⟩
  have hc : c ∈ (x.cps.toList.drop (HT.sIx x.length 0 lo)).take (HT.sIx x.length x.length hi - HT.sIx x.length 0 lo) := by simpa [cutS] using hc
  exact h.lo c (List.mem_of_mem_drop (List.mem_of_mem_take hc))
theorem Oth.up {L M B C n m : Nat} {y : Dt} (h : Oth L B n y) (l : L ≤ M) (b : B ≤ C) (d : n ≤ m) : Oth M C m y := ⟨Dt.loc_up l b h.lo, Nat.le_trans h.dp d⟩
/-- parts of a tuple, put together otherwise -/
theorem oth_mem {L B : Nat} {xs ys : List Dt} (h : (Dt.tup xs).loc L B) (m : ∀ y ∈ ys, y ∈ xs) (l : ys.length ≤ 2 * L + 50) : Oth (2 * L + 50) (B + 100) ((Dt.tup xs).dp + 2) (.tup ys) ∧ Oth (2 * L + 50) (B + 100) ((Dt.tup xs).dp + 2) (.lst ys) := by
  obtain ⟨h1, h2⟩ := loc_tup.mp h
  have hd : Dt.dps ys ≤ Dt.dps xs := dps_le' fun y hy => dps_mem' (m y hy)
  have hl : ∀ y ∈ ys, y.loc (2 * L + 50) (B + 100) := fun y hy => Dt.loc_up (by omega) (by omega) (h2 y (m y hy))
  refine ⟨⟨loc_tup.mpr ⟨l, hl⟩, ?_⟩, ⟨loc_lst.mpr ⟨l, hl⟩, ?_⟩⟩
  · rw [dp_tup, dp_tup]; omega
  · rw [dp_lst, dp_tup]; omega
theorem oth_in {L B : Nat} {xs : List Dt} {y : Dt} (h : (Dt.tup xs).loc L B) (m : y ∈ xs) : Oth (2 * L + 50) (B + 100) ((Dt.tup xs).dp + 2) y := by
  obtain ⟨h1, h2⟩ := loc_tup.mp h
  have hd := dps_mem' m
  refine ⟨Dt.loc_up (by omega) (by omega) (h2 y m), ?_⟩
  rw [dp_tup]; omega
/-- a thing by itself in a tuple, in a list -/
theorem oth_one {L B : Nat} {x : Dt} (h : x.loc L B) : Oth (2 * L + 50) (B + 100) (x.dp + 2) (.tup [x]) ∧ Oth (2 * L + 50) (B + 100) (x.dp + 2) (.lst [x]) := by
  have hx : ∀ y ∈ [x], y.loc (2 * L + 50) (B + 100) := fun y hy => by rw [List.mem_singleton.mp hy]; exact Dt.loc_up (by omega) (by omega) h
  refine ⟨⟨loc_tup.mpr ⟨by rw [List.length_singleton]; omega, hx⟩, ?_⟩, ⟨loc_lst.mpr ⟨by rw [List.length_singleton]; omega, hx⟩, ?_⟩⟩
  · simp only [Dt.dp, Dt.dps]; omega
  · simp only [Dt.dp, Dt.dps]; omega
theorem oth_str {L B n : Nat} {z : Str} (h : Asc (2 * L + 50) z) : Oth (2 * L + 50) B n (.str z) := ⟨loc_str.mpr h, by rw [dp_str]; omega⟩
theorem oth_int {L B n : Nat} {i : Int} (h : i.natAbs < B) : Oth L B n (.int i) := ⟨loc_int.mpr h, by simp only [Dt.dp]; omega⟩
theorem oth_bl {L B n : Nat} {b : Bool} : Oth L B n (.bl b) := ⟨by simp only [Dt.loc], by simp only [Dt.dp]; omega⟩
/-- the thing and the picks; what else is known -/
def evT (c : Prop) (k : Addr) (x : Dt) (v : V) : En (Nk k) where
  e := fun σ H => c ∧ ∃ y2 y3 y4, σ = [some (.ref k), some v, y2, y3, y4] ∧ Pk H k ∧ Dd (Nk k) H x v
  cl := fun σ H G h s => by
    obtain ⟨hc, y2, y3, y4, e, h1, h2⟩ := h
    exact ⟨hc, y2, y3, y4, e, h1.same s, h2.same s⟩
  fr := fun σ H b h f => by
    obtain ⟨hc, y2, y3, y4, e, h1, h2⟩ := h
    exact h1.fr f
/-- .. and a place -/
def evI (c : Nat → Prop) (k : Addr) (x : Dt) (v : V) : En (Nk k) where
  e := fun σ H => ∃ (i : Nat) (y2 y4 : Option V), c i ∧ σ = [some (.ref k), some v, y2, some (.int (i : Int)), y4] ∧ Pk H k ∧ Dd (Nk k) H x v
  cl := fun σ H G h s => by
    obtain ⟨i, y2, y4, hc, e, h1, h2⟩ := h
    exact ⟨i, y2, y4, hc, e, h1.same s, h2.same s⟩
  fr := fun σ H b h f => by
    obtain ⟨i, y2, y4, hc, e, h1, h2⟩ := h
    exact h1.fr f
theorem vT {X : Cx} {c : Prop} {k : Addr} {x : Dt} {v : V} {e : Expr} (h : PE X e (tVar 1)) : PE X e (uT (evT c k x v) x) := uT_of h fun σ H Q e q => by
  obtain ⟨hc, y2, y3, y4, rfl, h1, h2⟩ := e
  exact ⟨v, rfl, q _ _ (Same.refl H) h2⟩
theorem vI {X : Cx} {c : Nat → Prop} {k : Addr} {x : Dt} {v : V} {e : Expr} (h : PE X e (tVar 1)) : PE X e (uT (evI c k x v) x) := uT_of h fun σ H Q e q => by
  obtain ⟨i, y2, y4, hc, rfl, h1, h2⟩ := e
  exact ⟨v, rfl, q _ _ (Same.refl H) h2⟩
theorem len1 : ("q" : Str).length = 1 ∧ ("7" : Str).length = 1 ∧ ("abcdefgh" : Str).length = 8 := by decide +kernel
theorem asc1 : Asc 1 ("q" : Str) ∧ Asc 1 ("7" : Str) ∧ Asc 8 ("abcdefgh" : Str) := ⟨ascLit (by decide +kernel) (by decide +kernel), ascLit (by decide +kernel) (by decide +kernel), ascLit (by decide +kernel) (by decide +kernel)⟩
theorem oTT : Oth 20 BO 2 (.tup [.tup []]) := ⟨loc_tup.mpr ⟨Nat.le_of_ble_eq_true rfl, fun y hy => by rw [List.mem_singleton.mp hy]; exact oT0.lo⟩, by simp only [Dt.dp, Dt.dps]; omega⟩
theorem isBl_see {x : Dt} (h : x.isBl = true) : ∃ b, x = .bl b := by
  cases x with
  | bl b => exact ⟨b, rfl⟩
  | _ => cases h
theorem ddBl {N : Addr → Prop} {H : Hp} {b : Bool} {v : V} (h : Dd N H (.bl b) v) : v = .bl b := by
  cases h
  rfl
theorem ddInt {N : Addr → Prop} {H : Hp} {b : Int} {v : V} (h : Dd N H (.int b) v) : v = .int b := by
  cases h
  rfl
theorem ddStr {N : Addr → Prop} {H : Hp} {b : Str} {v : V} (h : Dd N H (.str b) v) : v = .str b := by
  cases h
  rfl
theorem atPm {a b c d e f g h : V} {r : Int} (h0 : 0 ≤ r) (h1 : r < 8) : ∃ v, atI [a, b, c, d, e, f, g, h] r = some v := by
  obtain ⟨j, rfl⟩ : ∃ j : Nat, r = (j : Int) := ⟨r.toNat, by omega⟩
  exact ⟨_, atI_nat (List.getElem?_eq_getElem (by show j < 8; omega))⟩
section
variable {P : Program} {w : World} {K : PySem.W.Frag} {mg : Str → Option Value} {base : Heap}
abbrev psOther : List Str := ["_law_picks", "_law_thing"]
abbrev nOther : List Str := ["_law_picks", "_law_thing", "_law_way", "_law_at", "_law_some"]
theorem scOther : FnScope nOther psOther (defScope tOther) := ⟨rfl, rfl, rfl, by decide +kernel, rfl, by decide +kernel, by decide +kernel⟩
def spOther : Sp := fun vs H Q _ => ∃ (k : Addr) (v : V) (x : Dt) (L B : Nat), vs = [.ref k, v] ∧ Pk H k ∧ Dd (Nk k) H x v ∧ x.loc L B ∧ L ≤ 1000 ∧ BO ≤ B ∧ B < 10 ^ 45 ∧
  ∀ (r : V) (y : Dt) (G : Hp), Kb k H G → Pk G k → Dd (Nk k) G y r → Oth (2 * L + 50) (B + 100) (x.dp + 2) y → Q r G
theorem okOther {f fP fO : Addr} {fd fdP fdO : FuncData} {k : Nat} (F : Fun K "_law_other" "_law_other" tOther f fd)
    (GP : FnOk P w K mg base CX0 k fP fdP ["_law_picks", "_law_many"] spPick) (bP : Binds K fdP ["_law_picks", "_law_many"] []) (gP : mg "_law_pick" = some (.ref fP)) (kP : PySem.W.keepIn K (.ref fP) = true)
    (GO : FnOk P w K mg base CX0 k fO fdO ["_law_picks"] spOdd) (bO : Binds K fdO ["_law_picks"] []) (gO : mg "_law_odd" = some (.ref fO)) (kO : PySem.W.keepIn K (.ref fO) = true)
    (mi : mg "isinstance" = none) (mb : mg "bool" = none) (mn : mg "int" = none) (ms : mg "str" = none) (mt : mg "tuple" = none) (ml : mg "len" = none) (mL : mg "list" = none) : FnOk P w K mg base CX0 (k + 1) f fd psOther spOther := by
  refine F.ok scOther (fun vs H Q E h => ?_) (fun cdv A outer s H vs Q E hr h => ?_)
  · obtain ⟨k, v, x, L, B, rfl, _⟩ := h
    rfl
  obtain ⟨pk, v, x, L, B, rfl, hk, hd, hlo, hL, hB, hB2, q⟩ := h
  have eBO : BO = 10 ^ 40 := rfl
  have oth := q
  -- what is told of each list's things
  let R : Dt → Prop := Oth (2 * L + 50) (B + 100) (x.dp + 2)
  have rS : ∀ (z : Str), Asc (2 * L + 50) z → R (.str z) := fun z h => oth_str h
  have rI : ∀ (i : Int), i.natAbs < B + 100 → R (.int i) := fun i h => oth_int h
  have rL : ∀ {z : Str}, (z.cps.toList.all fun c => decide (c < 128)) = true → z.length ≤ 50 → R (.str z) := fun h l => oth_str (ascLit h (by omega))
  have rO : ∀ {y : Dt}, Oth 20 BO 2 y → R y := fun h => h.up (by omega) (by omega) (by omega)
  have h1 := (oth_one hlo).1
  have h2 := (oth_one hlo).2
  have hint : ∀ i, x = .int i → i.natAbs < B := fun i e => by
    subst e
    exact loc_int.mp hlo
  have hstr : ∀ z, x = .str z → Asc L z := fun z e => by
    subst e
    exact loc_str.mp hlo
  have htl : ∀ xs, x = .tup xs → xs.length ≤ L := fun xs e => by
    subst e
    exact (loc_tup.mp hlo).1
  have rM : ∀ xs ys, x = .tup xs → (∀ y ∈ ys, y ∈ xs) → ys.length ≤ 2 * L + 50 → R (.tup ys) ∧ R (.lst ys) := fun xs ys e m l => by
    subst e
    exact oth_mem hlo m l
  have rIn : ∀ xs y, x = .tup xs → y ∈ xs → R y := fun xs y e m => by
    subst e
    exact oth_in hlo m
  have e0 : sizeLine = 16777216 := rfl
  refine ⟨_, pss_cons (ps_set (i := 2) scOther.nd rfl (.inl rfl) (pe_call GP hr (by rfl) gP kP bP .nil pass0 (pa_cons (pv 0) (pa_cons pe_int pa_nil))))
    (pss_cons (ps_if (pt_cmpR op_eq (pv 2) pe_int (nomark _)) (pss_one (ps_ret (pe_call GO hr (by rfl) gO kO bO .nil pass0 (pa_cons (pv 0) pa_nil)))) pss_nil)
    (pss_cons (ps_if (pt_val (pe_callB (isiK K rfl) (by rfl) mi PyProof.Rows.boot_isinstance (pa_cons (pv 1) (pa_cons (pe_bltn (v := .ty "bool") (by rfl) mb PyProof.Rows.boot_bool rfl) pa_nil)))) (pss_one (ps_ret (pe_ix ix_list
      (uP_lst (E := evT (x.isBl = true) pk x v) (R := R)
        (uPs_cons (uP_of (pe_callTy call_int1 (by rfl) mn (by decide +kernel) (pa_cons (pv 1) pa_nil)) fun σ H Q e q => by
          obtain ⟨hc, y2, y3, y4, rfl, hp, hx⟩ := e
          obtain ⟨b, hb⟩ := isBl_see hc
          rw [hb] at hx
          rw [ddBl hx]
          exact ⟨_, rfl, .inr ⟨b, rfl, q _ _ _ (Same.refl H) (.int _) (rI _ (by cases b <;> (show _ < B + 100; simp; try omega)))⟩⟩)
        (uPs_cons (uP_of (pe_callTy call_strA (by rfl) ms (by decide +kernel) (pa_cons (pv 1) pa_nil)) fun σ H Q e q => by
          obtain ⟨hc, y2, y3, y4, rfl, hp, hx⟩ := e
          obtain ⟨b, hb⟩ := isBl_see hc
          rw [hb] at hx
          rw [ddBl hx]
          exact ⟨_, rfl, _, _, rfl, rfl, by cases b <;> decide, fun z hz => q _ _ _ (Same.refl H) (.str _) (rS z (hz.up (by omega)))⟩)
        (uPs_cons (uP_T uT_non (rO oNon))
        (uPs_cons (uP_T (uT_lst (uTs_cons (vT (pv 1)) uTs_nil)) h2)
        (uPs_cons (uP_T (uT_tup (uTs_cons (vT (pv 1)) uTs_nil)) h1)
        (uPs_cons (uP_T uT_str (rL (by decide +kernel) (by decide +kernel)))
        (uPs_cons (uP_T uT_neg (rI _ (by show 1 < B + 100; omega)))
        (uPs_cons (uP_of (pe_callTy call_int1 (by rfl) mn (by decide +kernel) (pa_cons (pe_not (pv 1)) pa_nil)) fun σ H Q e q => by
          obtain ⟨hc, y2, y3, y4, rfl, hp, hx⟩ := e
          obtain ⟨b, hb⟩ := isBl_see hc
          rw [hb] at hx
          rw [ddBl hx]
          exact ⟨_, rfl, b, rfl, .inr ⟨_, rfl, q _ _ _ (Same.refl H) (.int _) (rI _ (by cases b <;> (show _ < B + 100; simp; try omega)))⟩⟩) uPs_nil))))))))) (pe_op op_sub (pv 2) pe_int) (fun _ _ => rfl)))) pss_nil)
    (pss_cons (ps_if (pt_val (pe_callB (isiK K rfl) (by rfl) mi PyProof.Rows.boot_isinstance (pa_cons (pv 1) (pa_cons (pe_bltn (v := .ty "int") (by rfl) mn (by decide +kernel) rfl) pa_nil)))) (pss_one (ps_ret (pe_ix ix_list
      (uP_lst (E := evT (∃ i, x = .int i) pk x v) (R := R)
        (uPs_cons (uP_of (pe_op op_add (pv 1) pe_int) fun σ H Q e q => by
          obtain ⟨⟨i, hi⟩, y2, y3, y4, rfl, hp, hx⟩ := e
          have hb := hint i hi
          rw [hi] at hx
          rw [ddInt hx]
          exact ⟨_, rfl, _, _, rfl, rfl, q _ _ _ (Same.refl H) (.int _) (rI _ (by omega))⟩)
        (uPs_cons (uP_of (pe_op op_sub (pv 1) pe_int) fun σ H Q e q => by
          obtain ⟨⟨i, hi⟩, y2, y3, y4, rfl, hp, hx⟩ := e
          have hb := hint i hi
          rw [hi] at hx
          rw [ddInt hx]
          exact ⟨_, rfl, _, _, rfl, rfl, q _ _ _ (Same.refl H) (.int _) (rI _ (by omega))⟩)
        (uPs_cons (uP_of (pe_op op_sub (pe_un un_neg pe_int) (pv 1)) fun σ H Q e q => by
          obtain ⟨⟨i, hi⟩, y2, y3, y4, rfl, hp, hx⟩ := e
          have hb := hint i hi
          rw [hi] at hx
          rw [ddInt hx]
          exact ⟨_, rfl, _, rfl, _, _, rfl, rfl, q _ _ _ (Same.refl H) (.int _) (rI _ (by omega))⟩)
        (uPs_cons (uP_of (pe_cmpR op_eq (pv 1) pe_int (nomark _)) fun σ H Q e q => by
          obtain ⟨⟨i, hi⟩, y2, y3, y4, rfl, hp, hx⟩ := e
          rw [hi] at hx
          rw [ddInt hx]
          exact ⟨_, rfl, rfl, q _ _ _ (Same.refl H) (.bl _) oth_bl⟩)
        (uPs_cons (uP_of (pe_callTy call_strA (by rfl) ms (by decide +kernel) (pa_cons (pv 1) pa_nil)) fun σ H Q e q => by
          obtain ⟨⟨i, hi⟩, y2, y3, y4, rfl, hp, hx⟩ := e
          have hb := hint i hi
          rw [hi] at hx
          rw [ddInt hx]
          exact ⟨_, rfl, _, i, rfl, rfl, by omega, fun z hz => q _ _ _ (Same.refl H) (.str _) (rS z (hz.up (by omega)))⟩)
        (uPs_cons (uP_T (uT_tup (uTs_cons (vT (pv 1)) uTs_nil)) h1)
        (uPs_cons (uP_T (uT_lst (uTs_cons (vT (pv 1)) uTs_nil)) h2)
        (uPs_cons (uP_of (pe_op op_add (pv 1) pe_int) fun σ H Q e q => by
          obtain ⟨⟨i, hi⟩, y2, y3, y4, rfl, hp, hx⟩ := e
          have hb := hint i hi
          rw [hi] at hx
          rw [ddInt hx]
          exact ⟨_, rfl, _, _, rfl, rfl, q _ _ _ (Same.refl H) (.int _) (rI _ (by omega))⟩) uPs_nil))))))))) (pe_op op_sub (pv 2) pe_int) (fun _ _ => rfl)))) pss_nil)
    (pss_cons (ps_if (pt_val (pe_callB (isiK K rfl) (by rfl) mi PyProof.Rows.boot_isinstance (pa_cons (pv 1) (pa_cons (pe_bltn (v := .ty "str") (by rfl) ms PyProof.Rows.boot_str rfl) pa_nil))))
      (pss_cons (ps_set (i := 3) scOther.nd rfl (.inl rfl) (pe_call GP hr (by rfl) gP kP bP .nil pass0 (pa_cons (pv 0) (pa_cons (pe_op op_add (pe_callB call_len_str (by rfl) ml PySem.boot_len (pa_cons (pv 1) pa_nil)) pe_int) pa_nil))))
      (pss_cons (ps_set (i := 4) scOther.nd rfl (.inl rfl) (uP_lst (E := evI (fun i => ∃ z, x = .str z) pk x v) (R := R) (uPs_cons (uP_of (pe_op op_add_str (pe_op op_add_str (pe_slice sl_str (pv 1) po_none (po_some (pv 3))) pe_str) (pe_slice sl_str (pv 1) (po_some (pv 3)) po_none)) fun σ H Q e q => by
          obtain ⟨i, y2, y4, ⟨z, hi⟩, rfl, hp, hx⟩ := e
          have hz := hstr z hi
          rw [hi] at hx
          rw [ddStr hx]
          have zl := hz.len
          have c1 := asc_cut hz none (some (i : Int))
          have c2 := asc_cut hz (some (i : Int)) none
          have c3 := asc_cut hz (some ((i : Int) + 1)) none
          have k1 := c1.len
          have k2 := c2.len
          have k3 := c3.len
          obtain ⟨l1, l2, l3⟩ := len1
          obtain ⟨a1, a2, a3⟩ := asc1
          have zs : z.length ≤ sizeLine := by omega
          exact ⟨_, rfl, _, rfl, _, rfl, z, rfl, zs, _, _, rfl, rfl, by omega, _, rfl, _, rfl, _, rfl, z, rfl, zs, _, _, rfl, rfl, by have := (asc_app c1 a1).len; omega, q _ _ _ (Same.refl H) (.str _) (rS _ ((asc_app (asc_app c1 a1) c2).up (by omega)))⟩)
        (uPs_cons (uP_of (pe_op op_add_str (pe_op op_add_str (pe_slice sl_str (pv 1) po_none (po_some (pv 3))) pe_str) (pe_slice sl_str (pv 1) (po_some (pe_op op_add (pv 3) pe_int)) po_none)) fun σ H Q e q => by
          obtain ⟨i, y2, y4, ⟨z, hi⟩, rfl, hp, hx⟩ := e
          have hz := hstr z hi
          rw [hi] at hx
          rw [ddStr hx]
          have zl := hz.len
          have c1 := asc_cut hz none (some (i : Int))
          have c2 := asc_cut hz (some (i : Int)) none
          have c3 := asc_cut hz (some ((i : Int) + 1)) none
          have k1 := c1.len
          have k2 := c2.len
          have k3 := c3.len
          obtain ⟨l1, l2, l3⟩ := len1
          obtain ⟨a1, a2, a3⟩ := asc1
          have zs : z.length ≤ sizeLine := by omega
          exact ⟨_, rfl, _, rfl, _, rfl, z, rfl, zs, _, _, rfl, rfl, by omega, _, rfl, _, rfl, _, _, rfl, rfl, _, rfl, z, rfl, zs, _, _, rfl, rfl, by have := (asc_app c1 a2).len; omega, q _ _ _ (Same.refl H) (.str _) (rS _ ((asc_app (asc_app c1 a2) c3).up (by omega)))⟩)
        (uPs_cons (uP_of (pe_op op_add_str (pe_slice sl_str (pv 1) po_none (po_some (pv 3))) (pe_slice sl_str (pv 1) (po_some (pe_op op_add (pv 3) pe_int)) po_none)) fun σ H Q e q => by
          obtain ⟨i, y2, y4, ⟨z, hi⟩, rfl, hp, hx⟩ := e
          have hz := hstr z hi
          rw [hi] at hx
          rw [ddStr hx]
          have zl := hz.len
          have c1 := asc_cut hz none (some (i : Int))
          have c2 := asc_cut hz (some (i : Int)) none
          have c3 := asc_cut hz (some ((i : Int) + 1)) none
          have k1 := c1.len
          have k2 := c2.len
          have k3 := c3.len
          obtain ⟨l1, l2, l3⟩ := len1
          obtain ⟨a1, a2, a3⟩ := asc1
          have zs : z.length ≤ sizeLine := by omega
          exact ⟨_, rfl, _, rfl, _, rfl, z, rfl, zs, _, rfl, _, rfl, _, _, rfl, rfl, _, rfl, z, rfl, zs, _, _, rfl, rfl, by omega, q _ _ _ (Same.refl H) (.str _) (rS _ ((asc_app c1 c3).up (by omega)))⟩) uPs_nil)))))
      (pss_one (ps_ret (pe_ix ix_list (pe_op op_cat (pv 4) (uP_lst (E := evI (fun i => ∃ z, x = .str z) pk x v) (R := R) (uPs_cons (uP_of (pe_upper (pv 1)) fun σ H Q e q => by
          obtain ⟨i, y2, y4, ⟨z, hi⟩, rfl, hp, hx⟩ := e
          have hz := hstr z hi
          rw [hi] at hx
          rw [ddStr hx]
          have zl := hz.len
          have c1 := asc_cut hz none (some (i : Int))
          have c2 := asc_cut hz (some (i : Int)) none
          have c3 := asc_cut hz (some ((i : Int) + 1)) none
          have k1 := c1.len
          have k2 := c2.len
          have k3 := c3.len
          obtain ⟨l1, l2, l3⟩ := len1
          obtain ⟨a1, a2, a3⟩ := asc1
          have zs : z.length ≤ sizeLine := by omega
          exact ⟨_, rfl, ⟨_, rfl⟩, _, rfl, rfl, by omega, q _ _ _ (Same.refl H) (.str _) (rS _ ((asc_upper hz).up (by omega)))⟩)
        (uPs_cons (uP_T (uT_tup (uTs_cons (vI (pv 1)) uTs_nil)) h1)
        (uPs_cons (uP_T (uT_lst (uTs_cons (vI (pv 1)) uTs_nil)) h2)
        (uPs_cons (uP_of (pe_op op_add_str (pv 1) pe_str) fun σ H Q e q => by
          obtain ⟨i, y2, y4, ⟨z, hi⟩, rfl, hp, hx⟩ := e
          have hz := hstr z hi
          rw [hi] at hx
          rw [ddStr hx]
          have zl := hz.len
          have c1 := asc_cut hz none (some (i : Int))
          have c2 := asc_cut hz (some (i : Int)) none
          have c3 := asc_cut hz (some ((i : Int) + 1)) none
          have k1 := c1.len
          have k2 := c2.len
          have k3 := c3.len
          obtain ⟨l1, l2, l3⟩ := len1
          obtain ⟨a1, a2, a3⟩ := asc1
          have zs : z.length ≤ sizeLine := by omega
          exact ⟨_, rfl, _, _, rfl, rfl, by omega, q _ _ _ (Same.refl H) (.str _) (rS _ ((asc_app hz a3).up (by omega)))⟩)
        (uPs_cons (uP_T uT_str (rL (by decide +kernel) (by decide +kernel))) uPs_nil))))))) (pe_op op_sub (pv 2) pe_int) (fun _ _ => rfl)))))) pss_nil)
    (pss_cons (ps_if (PW.pt (pw_or (pt_not (pt_val (pe_callB (isiK K rfl) (by rfl) mi PyProof.Rows.boot_isinstance (pa_cons (pv 1) (pa_cons (pe_bltn (v := .ty "tuple") (by rfl) mt PyProof.Rows.boot_tuple rfl) pa_nil))))) (pw_or1 (pt_cmpR (op_eqTT hr.units) (pv 1) (pe_tup pa_nil) (nomark _)))))
      (pss_one (ps_ret (pe_ix ix_list (uP_lst (E := evT True pk x v) (R := R)
        (uPs_cons (uP_T (uT_tup (uTs_cons uT_str uTs_nil)) (rO (oStr1 (by decide +kernel) (by decide +kernel))))
        (uPs_cons (uP_T uT_non (rO oNon))
        (uPs_cons (uP_T (uT_tup (uTs_cons (uT_tup uTs_nil) uTs_nil)) (rO oTT))
        (uPs_cons (uP_T (uT_lst uTs_nil) (rO oL0))
        (uPs_cons (uP_T uT_str (rL (by decide +kernel) (by decide +kernel)))
        (uPs_cons (uP_T uT_int (rI _ (by show 0 < B + 100; omega)))
        (uPs_cons (uP_T (uT_tup (uTs_cons (vT (pv 1)) uTs_nil)) h1)
        (uPs_cons (uP_T uT_emp (rO oD0)) uPs_nil))))))))) (pe_op op_sub (pv 2) pe_int) (fun _ _ => rfl)))) pss_nil)
    (pss_cons (ps_set (i := 3) scOther.nd rfl (.inl rfl) (pe_call GP hr (by rfl) gP kP bP .nil pass0 (pa_cons (pv 0) (pa_cons (pe_callB call_len_seq (by rfl) ml PySem.boot_len (pa_cons (pv 1) pa_nil)) pa_nil))))
    (pss_cons (ps_set (i := 4) scOther.nd rfl (.inl rfl) (uP_lst (E := evI (fun i => ∃ xs, x = .tup xs ∧ i < xs.length) pk x v) (R := R) (uPs_cons (uP_of (pe_op op_catU (pe_slice sl_tupU (pv 1) po_none (po_some (pv 3))) (pe_slice sl_tupU (pv 1) (po_some (pe_op op_add (pv 3) pe_int)) po_none)) fun σ H Q e q => by
          obtain ⟨i, y2, y4, ⟨xs, hi, hix⟩, rfl, hp, hx⟩ := e
          have hxl := htl xs hi
          have rMx := fun ys => rM xs ys hi
          rw [hi] at hx
          obtain ⟨a, us, rfl, ha, hLL⟩ := Dd.tupS hx
          have ll := hLL.len
          have ed : cutV us (some ((i : Int) + 1)) none = us.drop (i + 1) := cut_drop us (i + 1)
          have et : cutV us none (some ((i : Int) + 1)) = us.take (i + 1) := cut_take us (i + 1)
          refine ⟨_, rfl, _, rfl, _, rfl, a, us, rfl, ha, fun p1 G1 s1 g1 => ⟨_, rfl, _, rfl, _, _, rfl, rfl, _, rfl, a, us, rfl, s1 _ _ ha, fun p2 G2 s2 g2 => ⟨p1, p2, _, _, rfl, rfl, s2 _ _ g1, g2, ?_, fun p3 G3 s3 g3 => ?_⟩⟩⟩
          · rw [cut_take, ed, List.length_take, List.length_drop]
            omega
          rw [cut_take, ed] at g3
          have sA := s1.trans (s2.trans s3)
          exact q _ (.tup (xs.take i ++ xs.drop (i + 1))) _ sA (.tup g3 (((hLL.same sA).take _).app ((hLL.same sA).drop _))) (rMx _ (fun y hy => by rcases List.mem_append.mp hy with z | z <;> first | exact List.mem_of_mem_take z | exact List.mem_of_mem_drop z) (by rw [List.length_append, List.length_take, List.length_drop]; omega)).1)
        (uPs_cons (uP_of (pe_op op_catU (pe_slice sl_tupU (pv 1) po_none (po_some (pe_op op_add (pv 3) pe_int))) (pe_slice sl_tupU (pv 1) (po_some (pv 3)) po_none)) fun σ H Q e q => by
          obtain ⟨i, y2, y4, ⟨xs, hi, hix⟩, rfl, hp, hx⟩ := e
          have hxl := htl xs hi
          have rMx := fun ys => rM xs ys hi
          rw [hi] at hx
          obtain ⟨a, us, rfl, ha, hLL⟩ := Dd.tupS hx
          have ll := hLL.len
          have ed : cutV us (some ((i : Int) + 1)) none = us.drop (i + 1) := cut_drop us (i + 1)
          have et : cutV us none (some ((i : Int) + 1)) = us.take (i + 1) := cut_take us (i + 1)
          refine ⟨_, rfl, _, rfl, _, _, rfl, rfl, _, rfl, a, us, rfl, ha, fun p1 G1 s1 g1 => ⟨_, rfl, _, rfl, _, rfl, a, us, rfl, s1 _ _ ha, fun p2 G2 s2 g2 => ⟨p1, p2, _, _, rfl, rfl, s2 _ _ g1, g2, ?_, fun p3 G3 s3 g3 => ?_⟩⟩⟩
          · rw [et, cut_drop, List.length_take, List.length_drop]
            omega
          rw [et, cut_drop] at g3
          have sA := s1.trans (s2.trans s3)
          exact q _ (.tup (xs.take (i + 1) ++ xs.drop i)) _ sA (.tup g3 (((hLL.same sA).take _).app ((hLL.same sA).drop _))) (rMx _ (fun y hy => by rcases List.mem_append.mp hy with z | z <;> first | exact List.mem_of_mem_take z | exact List.mem_of_mem_drop z) (by rw [List.length_append, List.length_take, List.length_drop]; omega)).1)
        (uPs_cons (uP_of (pe_revT (pv 1)) fun σ H Q e q => by
          obtain ⟨i, y2, y4, ⟨xs, hi, hix⟩, rfl, hp, hx⟩ := e
          have hxl := htl xs hi
          have rMx := fun ys => rM xs ys hi
          rw [hi] at hx
          obtain ⟨a, us, rfl, ha, hLL⟩ := Dd.tupS hx
          have ll := hLL.len
          have ed : cutV us (some ((i : Int) + 1)) none = us.drop (i + 1) := cut_drop us (i + 1)
          have et : cutV us none (some ((i : Int) + 1)) = us.take (i + 1) := cut_take us (i + 1)
          refine ⟨_, rfl, a, us, rfl, SqT.of ha, fun p np => ?_⟩
          have s1 := newS (o := .tup us.reverse) np
          exact q _ (.tup xs.reverse) _ s1 (.tup upd_same (hLL.same s1).rev) (rMx _ (fun y hy => List.mem_reverse.mp hy) (by rw [List.length_reverse]; omega)).1)
        (uPs_cons (uP_of (pe_callTy call_list_of (by rfl) mL boot_list (pa_cons (pv 1) pa_nil)) fun σ H Q e q => by
          obtain ⟨i, y2, y4, ⟨xs, hi, hix⟩, rfl, hp, hx⟩ := e
          have hxl := htl xs hi
          have rMx := fun ys => rM xs ys hi
          rw [hi] at hx
          obtain ⟨a, us, rfl, ha, hLL⟩ := Dd.tupS hx
          have ll := hLL.len
          have ed : cutV us (some ((i : Int) + 1)) none = us.drop (i + 1) := cut_drop us (i + 1)
          have et : cutV us none (some ((i : Int) + 1)) = us.take (i + 1) := cut_take us (i + 1)
          refine ⟨_, rfl, a, us, rfl, .inr (SqT.of ha), fun l nl => ?_⟩
          have s1 := newS (o := .lst us) nl
          exact q _ (.lst xs) _ s1 (.lst (hp.fr nl) upd_same (hLL.same s1)) (rMx _ (fun y hy => hy) (by omega)).2)
        (uPs_cons (uP_of (pe_ix ix_tup (pv 1) (pv 3) (fun _ _ => rfl)) fun σ H Q e q => by
          obtain ⟨i, y2, y4, ⟨xs, hi, hix⟩, rfl, hp, hx⟩ := e
          have hxl := htl xs hi
          have rMx := fun ys => rM xs ys hi
          rw [hi] at hx
          obtain ⟨a, us, rfl, ha, hLL⟩ := Dd.tupS hx
          have ll := hLL.len
          have ed : cutV us (some ((i : Int) + 1)) none = us.drop (i + 1) := cut_drop us (i + 1)
          have et : cutV us none (some ((i : Int) + 1)) = us.take (i + 1) := cut_take us (i + 1)
          obtain ⟨u, hu, ry⟩ := hLL.get' (List.getElem?_eq_getElem hix)
          exact ⟨_, rfl, _, rfl, a, _, _, _, rfl, rfl, SqT.of ha, atI_nat hu, q _ _ _ (Same.refl H) ry (rIn xs _ hi (List.getElem_mem hix))⟩) uPs_nil)))))))
    (pss_one (ps_ret (pe_ix ix_list (pe_op op_cat (pv 4) (uP_lst (E := evI (fun i => ∃ xs, x = .tup xs ∧ i < xs.length) pk x v) (R := R) (uPs_cons (uP_of (pe_op op_catU (pv 1) (pe_tup (pa_cons (pe_ix ix_tup (pv 1) (pv 3) (fun _ _ => rfl)) pa_nil))) fun σ H Q e q => by
          obtain ⟨i, y2, y4, ⟨xs, hi, hix⟩, rfl, hp, hx⟩ := e
          have hxl := htl xs hi
          have rMx := fun ys => rM xs ys hi
          rw [hi] at hx
          obtain ⟨a, us, rfl, ha, hLL⟩ := Dd.tupS hx
          have ll := hLL.len
          have ed : cutV us (some ((i : Int) + 1)) none = us.drop (i + 1) := cut_drop us (i + 1)
          have et : cutV us none (some ((i : Int) + 1)) = us.take (i + 1) := cut_take us (i + 1)
          obtain ⟨u, hu, ry⟩ := hLL.get' (List.getElem?_eq_getElem hix)
          refine ⟨_, rfl, _, rfl, _, rfl, a, _, _, _, rfl, rfl, SqT.of ha, atI_nat hu, (by show 1 ≤ sizeLine; decide), fun p1 n1 => ?_⟩
          have s1 := newS (o := .tup [u]) n1
          refine ⟨a, p1, us, [u], rfl, rfl, s1 _ _ ha, upd_same, by rw [List.length_singleton]; omega, fun p2 G2 s2 g2 => ?_⟩
          have sA := s1.trans s2
          refine q _ (.tup (xs ++ [xs[i]])) _ sA (.tup g2 ((hLL.same sA).app (.cons (ry.same sA) .nil))) (rMx _ (fun y hy => ?_) (by rw [List.length_append, List.length_singleton]; omega)).1
          rcases List.mem_append.mp hy with z | z
          · exact z
          · rw [List.mem_singleton.mp z]
            exact List.getElem_mem hix)
        (uPs_cons (uP_of (pe_op op_catU (pe_op op_catU (pe_slice sl_tupU (pv 1) po_none (po_some (pv 3))) (pe_tup (pa_cons (pe_ix ix_tup (pv 1) pe_int (fun _ _ => rfl)) pa_nil))) (pe_slice sl_tupU (pv 1) (po_some (pe_op op_add (pv 3) pe_int)) po_none)) fun σ H Q e q => by
          obtain ⟨i, y2, y4, ⟨xs, hi, hix⟩, rfl, hp, hx⟩ := e
          have hxl := htl xs hi
          have rMx := fun ys => rM xs ys hi
          rw [hi] at hx
          obtain ⟨a, us, rfl, ha, hLL⟩ := Dd.tupS hx
          have ll := hLL.len
          have ed : cutV us (some ((i : Int) + 1)) none = us.drop (i + 1) := cut_drop us (i + 1)
          have et : cutV us none (some ((i : Int) + 1)) = us.take (i + 1) := cut_take us (i + 1)
          have h0 : 0 < xs.length := by omega
          obtain ⟨u, hu, ry⟩ := hLL.get' (List.getElem?_eq_getElem h0)
          refine ⟨_, rfl, _, rfl, _, rfl, a, us, rfl, ha, fun p1 G1 s1 g1 => ⟨_, rfl, a, _, _, _, rfl, rfl, SqT.of (s1 _ _ ha), atI_nat (j := 0) hu, (by show 1 ≤ sizeLine; decide), fun p2 n2 => ?_⟩⟩
          have s2 := newS (o := .tup [u]) n2
          refine ⟨p1, p2, _, [u], rfl, rfl, s2 _ _ g1, upd_same, by rw [List.length_singleton, cut_take, List.length_take]; omega, fun p3 G3 s3 g3 => ?_⟩
          have s13 := s1.trans (s2.trans s3)
          refine ⟨_, rfl, _, rfl, _, _, rfl, rfl, _, rfl, a, us, rfl, s13 _ _ ha, fun p4 G4 s4 g4 => ⟨p3, p4, _, _, rfl, rfl, s4 _ _ g3, g4, ?_, fun p5 G5 s5 g5 => ?_⟩⟩
          · rw [ed, cut_take, List.length_append, List.length_singleton, List.length_take, List.length_drop]
            omega
          rw [cut_take, ed] at g5
          have sA := s13.trans (s4.trans s5)
          refine q _ (.tup (xs.take i ++ [xs[0]] ++ xs.drop (i + 1))) _ sA (.tup g5 ((((hLL.same sA).take i).app (.cons (ry.same sA) .nil)).app ((hLL.same sA).drop (i + 1)))) (rMx _ (fun y hy => ?_) (by rw [List.length_append, List.length_append, List.length_singleton, List.length_take, List.length_drop]; omega)).1
          rcases List.mem_append.mp hy with z | z
          · rcases List.mem_append.mp z with z | z
            · exact List.mem_of_mem_take z
            · rw [List.mem_singleton.mp z]
              exact List.getElem_mem h0
          · exact List.mem_of_mem_drop z)
        (uPs_cons (uP_of (pe_op op_catU (pe_slice sl_tupU (pv 1) (po_some (pv 3)) po_none) (pe_slice sl_tupU (pv 1) po_none (po_some (pv 3)))) fun σ H Q e q => by
          obtain ⟨i, y2, y4, ⟨xs, hi, hix⟩, rfl, hp, hx⟩ := e
          have hxl := htl xs hi
          have rMx := fun ys => rM xs ys hi
          rw [hi] at hx
          obtain ⟨a, us, rfl, ha, hLL⟩ := Dd.tupS hx
          have ll := hLL.len
          have ed : cutV us (some ((i : Int) + 1)) none = us.drop (i + 1) := cut_drop us (i + 1)
          have et : cutV us none (some ((i : Int) + 1)) = us.take (i + 1) := cut_take us (i + 1)
          refine ⟨_, rfl, _, rfl, _, rfl, a, us, rfl, ha, fun p1 G1 s1 g1 => ⟨_, rfl, _, rfl, _, rfl, a, us, rfl, s1 _ _ ha, fun p2 G2 s2 g2 => ⟨p1, p2, _, _, rfl, rfl, s2 _ _ g1, g2, ?_, fun p3 G3 s3 g3 => ?_⟩⟩⟩
          · rw [cut_drop, cut_take, List.length_drop, List.length_take]
            omega
          rw [cut_drop, cut_take] at g3
          have sA := s1.trans (s2.trans s3)
          exact q _ (.tup (xs.drop i ++ xs.take i)) _ sA (.tup g3 (((hLL.same sA).drop _).app ((hLL.same sA).take _))) (rMx _ (fun y hy => by rcases List.mem_append.mp hy with z | z <;> first | exact List.mem_of_mem_take z | exact List.mem_of_mem_drop z) (by rw [List.length_append, List.length_drop, List.length_take]; omega)).1) uPs_nil))))) (pe_op op_sub (pv 2) pe_int) (fun _ _ => rfl))))))))))), ?_⟩
  refine ⟨_, rfl, pk, 9, rfl, hk, by decide, fun way G1 w0 w1 kb1 hk1 => ?_⟩
  have hd1 := hd.kn (kb1.kn hk)
  refine ⟨_, rfl, rfl, _, rfl, ite2 (fun e => ?_) (fun e => ?_)⟩
  · exact ⟨_, rfl, pk, rfl, hk1, fun r y G kb2 hk2 hy oy => oth r y G (kb1.trans kb2) hk2 hy (rO oy)⟩
  have w2 : 1 ≤ way := by
    have : ¬ way = 0 := fun z => e (decide_eq_true (congrArg V.int z))
    omega
  -- the end: one of eight
  have fin : ∀ (G : Hp) (a : Addr) (ys : List Dt) (us : List V), Kb pk H G → Pk G pk → G a = some (.lst us) → DdL (Nk pk) G ys us → (∀ y ∈ ys, R y) → ys.length = 8 → rIxL K (.ref a) (.int (way - 1)) G Q := fun G a ys us kb pk' ga hL hR hl => by
    obtain ⟨u, y, e1, my, hy⟩ := uat hL (i := way - 1) (by omega) (by rw [hl]; show way - 1 < 8; omega)
    exact ⟨a, _, _, _, rfl, rfl, SqL.of ga, e1, oth u y G kb pk' hy (hR y my)⟩
  refine ⟨_, rfl, _, _, _, _, x.isBl, rfl, .ty "bool", hd1.ty, kBl K x, _, rfl, ite2 (fun e1 => ?_) (fun e1 => ?_)⟩
  · refine ⟨⟨e1, _, _, _, rfl, hk1, hd1⟩, fun v2 xs2 G2 s2 hv2 hR2 hl2 => ?_⟩
    obtain ⟨a2, vs2, rfl, na2, ha2, hL2⟩ := lstN hv2
    exact ⟨_, rfl, _, _, rfl, rfl, fin G2 a2 xs2 vs2 (kb1.trans (Kb.of s2)) (hk1.same s2) ha2 hL2 hR2 hl2⟩
  refine ⟨_, rfl, _, _, _, _, x.isInt, rfl, .ty "int", hd1.ty, kInt K x, _, rfl, ite2 (fun e2 => ?_) (fun e2 => ?_)⟩
  · have hi : ∃ i, x = .int i := by
      cases x with
      | int i => exact ⟨i, rfl⟩
      | bl b => exact absurd rfl e1
      | _ => cases e2
    refine ⟨⟨hi, _, _, _, rfl, hk1, hd1⟩, fun v2 xs2 G2 s2 hv2 hR2 hl2 => ?_⟩
    obtain ⟨a2, vs2, rfl, na2, ha2, hL2⟩ := lstN hv2
    exact ⟨_, rfl, _, _, rfl, rfl, fin G2 a2 xs2 vs2 (kb1.trans (Kb.of s2)) (hk1.same s2) ha2 hL2 hR2 hl2⟩
  refine ⟨_, rfl, _, _, _, _, x.isStr, rfl, .ty "str", hd1.ty, kStr K x, _, rfl, ite2 (fun e3 => ?_) (fun e3 => ?_)⟩
  · obtain ⟨z, hz⟩ : ∃ z, x = .str z := by
      cases x with
      | str z => exact ⟨z, rfl⟩
      | _ => cases e3
    have hzl := (hstr z hz).len
    have ev : v = .str z := by
      rw [hz] at hd1
      exact ddStr hd1
    subst ev
    refine ⟨_, rfl, _, rfl, z, rfl, by omega, _, _, rfl, rfl, pk, _, rfl, hk1, by omega, fun at' G2 a0 a1 kb2 hk2 => ?_⟩
    obtain ⟨i, rfl⟩ : ∃ i : Nat, at' = (i : Int) := ⟨at'.toNat, by omega⟩
    have hd2 := hd1.kn (kb2.kn hk1)
    refine ⟨⟨i, _, _, ⟨z, hz⟩, rfl, hk2, hd2⟩, fun v3 xs3 G3 s3 hv3 hR3 hl3 => ?_⟩
    obtain ⟨a3, vs3, rfl, na3, ha3, hL3⟩ := lstN hv3
    refine ⟨_, rfl, ⟨i, _, _, ⟨z, hz⟩, rfl, hk2.same s3, hd2.same s3⟩, fun v4 xs4 G4 s4 hv4 hR4 hl4 => ?_⟩
    obtain ⟨a4, vs4, rfl, na4, ha4, hL4⟩ := lstN hv4
    have l3 := hL3.len
    have l4 := hL4.len
    refine ⟨a3, a4, vs3, vs4, rfl, rfl, s4 _ _ ha3, ha4, by rw [← l3, ← l4, hl3, hl4]; exact sz (by decide), fun p np => ?_⟩
    have s5 := newS (o := .lst (vs3 ++ vs4)) np
    refine ⟨_, rfl, _, _, rfl, rfl, fin _ p (xs3 ++ xs4) (vs3 ++ vs4) ((kb1.trans kb2).trans (Kb.of (s3.trans (s4.trans s5)))) (hk2.same (s3.trans (s4.trans s5))) upd_same ((hL3.same (s4.trans s5)).app (hL4.same s5)) (fun y hy => ?_) (by rw [List.length_append, hl3, hl4])⟩
    rcases List.mem_append.mp hy with z | z
    · exact hR3 y z
    · exact hR4 y z
  have nil : ∀ G : Hp, Same G1 G → uPl (evT True pk x v) R 8 [some (.ref pk), some v, some (.int way), none, none] G fun a H2 => tVar 2 [some (.ref pk), some v, some (.int way), none, none] H2 fun y H3 => ∃ i j, y = .int i ∧ V.int 1 = .int j ∧ rIxL K a (.int (i - j)) H3 Q := fun G sG => by
    refine ⟨⟨trivial, _, _, _, rfl, hk1.same sG, hd1.same sG⟩, fun v2 xs2 G2 s2 hv2 hR2 hl2 => ?_⟩
    obtain ⟨a2, vs2, rfl, na2, ha2, hL2⟩ := lstN hv2
    exact ⟨_, rfl, _, _, rfl, rfl, fin G2 a2 xs2 vs2 (kb1.trans (Kb.of (sG.trans s2))) (hk1.same (sG.trans s2)) ha2 hL2 hR2 hl2⟩
  refine ⟨_, rfl, _, _, _, _, x.isTup, rfl, .ty "tuple", hd1.ty, kTup K x, _, rfl, ite2 (fun e4 => iteT (nil G1 (Same.refl _))) (fun e4 => ?_)⟩
  obtain ⟨xs, hxs⟩ : ∃ xs, x = .tup xs := by
    cases x with
    | tup xs => exact ⟨xs, rfl⟩
    | _ => exact absurd rfl e4
  obtain ⟨a, us, ev, ha, hLx⟩ : ∃ a us, v = .ref a ∧ G1 a = some (.tup us) ∧ DdL (Nk pk) G1 xs us := by
    rw [hxs] at hd1
    exact Dd.tupS hd1
  subst ev
  have lx := hLx.len
  refine ⟨_, rfl, Nat.zero_le _, fun p0 np0 => ?_⟩
  have s0 := newS (o := .tup []) np0
  refine ⟨a, p0, us, [], rfl, rfl, SqT.of (s0 _ _ ha), SqT.of upd_same, (fun i u v _ z => by cases z), _, rfl, ite2 (fun e5 => nil _ s0) (fun e5 => ?_)⟩
  have hpos : 0 < us.length := by
    refine List.length_pos_iff.mpr fun z => e5 ?_
    rw [z]
    rfl
  generalize upd G1 p0 (.tup []) = G1' at s0
  have hk0 := hk1.same s0
  have hd0 := hd1.same s0
  refine ⟨_, rfl, _, rfl, a, us, rfl, .inr (SqT.of (s0 _ _ ha)), pk, _, rfl, hk0, by omega, fun at' G2 a0 a1 kb2 hk2 => ?_⟩
  obtain ⟨i, rfl⟩ : ∃ i : Nat, at' = (i : Int) := ⟨at'.toNat, by omega⟩
  have hd2 := hd0.kn (kb2.kn hk0)
  have hix : ∃ xs, x = .tup xs ∧ i < xs.length := ⟨xs, hxs, by omega⟩
  refine ⟨⟨i, _, _, hix, rfl, hk2, hd2⟩, fun v3 xs3 G3 s3 hv3 hR3 hl3 => ?_⟩
  obtain ⟨a3, vs3, rfl, na3, ha3, hL3⟩ := lstN hv3
  refine ⟨_, rfl, ⟨i, _, _, hix, rfl, hk2.same s3, hd2.same s3⟩, fun v4 xs4 G4 s4 hv4 hR4 hl4 => ?_⟩
  obtain ⟨a4, vs4, rfl, na4, ha4, hL4⟩ := lstN hv4
  have l3 := hL3.len
  have l4 := hL4.len
  refine ⟨a3, a4, vs3, vs4, rfl, rfl, s4 _ _ ha3, ha4, by rw [← l3, ← l4, hl3, hl4]; exact sz (by decide), fun p np => ?_⟩
  have s5 := newS (o := .lst (vs3 ++ vs4)) np
  refine ⟨_, rfl, _, _, rfl, rfl, fin _ p (xs3 ++ xs4) (vs3 ++ vs4) ((kb1.trans ((Kb.of s0).trans kb2)).trans (Kb.of (s3.trans (s4.trans s5)))) (hk2.same (s3.trans (s4.trans s5))) upd_same ((hL3.same (s4.trans s5)).app (hL4.same s5)) (fun y hy => ?_) (by rw [List.length_append, hl3, hl4])⟩
  rcases List.mem_append.mp hy with z | z
  · exact hR3 y z
  · exact hR4 y z
end
end Kq

namespace Kq
open PySem PySem.Spec PyProof.Rows L2 Kf Kg Kv GxR RZ Ki
abbrev tBent : Stmt := tp 47
section
variable {P : Program} {w : World} {K : PySem.W.Frag} {mg : Str → Option Value} {base : Heap}
abbrev psBent : List Str := ["_law_picks", "_law_thing"]
abbrev nBent : List Str := ["_law_picks", "_law_thing", "_law_at"]
theorem scBent : FnScope nBent psBent (defScope tBent) := ⟨rfl, rfl, rfl, by decide +kernel, rfl, by decide +kernel, by decide +kernel⟩
def spBent (n : Nat) : Sp := fun vs H Q _ => ∃ (k : Addr) (v : V) (x : Dt) (L B : Nat), vs = [.ref k, v] ∧ Pk H k ∧ Dd (Nk k) H x v ∧ x.dp + 1 ≤ n ∧ x.loc L B ∧ L ≤ 1000 ∧ BO ≤ B ∧ B < 10 ^ 45 ∧
  ∀ (r : V) (y : Dt) (G : Hp), Kb k H G → Pk G k → Dd (Nk k) G y r → Oth (2 * L + 50) (B + 100) (x.dp + 2) y → Q r G
theorem okBent1 {f fP fO : Addr} {fd fdP fdO : FuncData} {n k : Nat} (F : Fun K "_law_bent" "_law_bent" tBent f fd) (bF : Binds K fd psBent []) (gF : mg "_law_bent" = some (.ref f))
    (GP : FnOk P w K mg base CX0 k fP fdP ["_law_picks", "_law_many"] spPick) (bP : Binds K fdP ["_law_picks", "_law_many"] []) (gP : mg "_law_pick" = some (.ref fP)) (kP : PySem.W.keepIn K (.ref fP) = true)
    (GO : FnOk P w K mg base CX0 k fO fdO psOther spOther) (bO : Binds K fdO psOther []) (gO : mg "_law_other" = some (.ref fO)) (kO : PySem.W.keepIn K (.ref fO) = true)
    (mi : mg "isinstance" = none) (mt : mg "tuple" = none) (ml : mg "len" = none) (GI : FnOk P w K mg base CX0 k f fd psBent (spBent n)) : FnOk P w K mg base CX0 (k + 1) f fd psBent (spBent (n + 1)) := by
  refine F.ok scBent (fun vs H Q E h => ?_) (fun cdv A outer s H vs Q E hr h => ?_)
  · obtain ⟨k, v, x, L, B, rfl, _⟩ := h
    rfl
  obtain ⟨pk, v, x, L, B, rfl, hk, hd, hn, hlo, hL, hB, hB2, q⟩ := h
  have e0 : sizeLine = 16777216 := rfl
  refine ⟨_, pss_cons (ps_if (PW.pt (pw_or (pt_not (pt_val (pe_callB (isiK K rfl) (by rfl) mi PyProof.Rows.boot_isinstance (pa_cons (pv 1) (pa_cons (pe_bltn (v := .ty "tuple") (by rfl) mt PyProof.Rows.boot_tuple rfl) pa_nil)))))
      (pw_or (pt_cmpR (op_eqTT hr.units) (pv 1) (pe_tup pa_nil) (nomark _))
      (pw_or1 (pt_cmpR op_eq (pe_call GP hr (by rfl) gP kP bP .nil pass0 (pa_cons (pv 0) (pa_cons pe_int pa_nil))) pe_int (nomark _))))))
      (pss_one (ps_ret (pe_call GO hr (by rfl) gO kO bO .nil pass0 (pa_cons (pv 0) (pa_cons (pv 1) pa_nil))))) pss_nil)
    (pss_cons (ps_set (i := 2) scBent.nd rfl (.inl rfl) (pe_call GP hr (by rfl) gP kP bP .nil pass0 (pa_cons (pv 0) (pa_cons (pe_callB call_len_seq (by rfl) ml PySem.boot_len (pa_cons (pv 1) pa_nil)) pa_nil))))
    (pss_one (ps_ret (pe_op op_catU (pe_op op_catU (pe_slice sl_tupU (pv 1) po_none (po_some (pv 2))) (pe_tup (pa_cons (pe_call GI hr (by rfl) gF F.kp bF .nil pass0 (pa_cons (pv 0) (pa_cons (pe_ix ix_tup (pv 1) (pv 2) (fun _ _ => rfl)) pa_nil))) pa_nil)))
      (pe_slice sl_tupU (pv 1) (po_some (pe_op op_add (pv 2) pe_int)) po_none))))), ?_⟩
  have oth : ∀ G : Hp, Kb pk H G → Pk G pk → Dd (Nk pk) G x v → spOther [.ref pk, v] G Q E0 := fun G kb pk' hd' => ⟨pk, v, x, L, B, rfl, pk', hd', hlo, hL, hB, hB2, fun r y G2 kb2 pk2 hy oy => q r y G2 (kb.trans kb2) pk2 hy oy⟩
  refine ⟨_, rfl, _, _, _, _, x.isTup, rfl, .ty "tuple", hd.ty, kTup K x, _, rfl, ite2 (fun e4 => iteT ⟨_, rfl, _, rfl, oth H Kb.rfl hk hd⟩) (fun e4 => ?_)⟩
  obtain ⟨xs, rfl⟩ : ∃ xs, x = .tup xs := by
    cases x with
    | tup xs => exact ⟨xs, rfl⟩
    | _ => exact absurd rfl e4
  obtain ⟨a, us, rfl, ha, hLx⟩ := Dd.tupS hd
  have lx := hLx.len
  refine ⟨_, rfl, Nat.zero_le _, fun p0 np0 => ?_⟩
  have s0 := newS (o := .tup []) np0
  refine ⟨a, p0, us, [], rfl, rfl, SqT.of (s0 _ _ ha), SqT.of upd_same, (fun i u v _ z => by cases z), _, rfl, ite2 (fun e5 => iteT ⟨_, rfl, _, rfl, oth _ (Kb.of s0) (hk.same s0) (hd.same s0)⟩) (fun e5 => ?_)⟩
  have hpos : 0 < us.length := by
    refine List.length_pos_iff.mpr fun z => e5 ?_
    rw [z]
    rfl
  generalize upd H p0 (.tup []) = H0 at s0
  refine ⟨_, rfl, pk, 6, rfl, hk.same s0, by decide, fun r6 G1 c0 c1 kb1 hk1 => ⟨rfl, _, rfl, ?_⟩⟩
  have kb01 := (Kb.of s0).trans kb1
  have hd1 := (hd.same s0).kn (kb1.kn (hk.same s0))
  refine ite2 (fun _ => ⟨_, rfl, _, rfl, oth _ kb01 hk1 hd1⟩) (fun _ => ?_)
  have hne : a ≠ pk := fun z => by
    obtain ⟨ns, e⟩ := hk
    rw [z, e] at ha
    cases ha
  have ha1 := kb01 a _ hne ha
  refine ⟨_, rfl, _, rfl, a, us, rfl, .inr (SqT.of ha1), pk, _, rfl, hk1, by omega, fun at' G2 a0 a1 kb2 hk2 => ?_⟩
  obtain ⟨i, rfl⟩ : ∃ i : Nat, at' = (i : Int) := ⟨at'.toNat, by omega⟩
  have hix : i < xs.length := by omega
  have ha2 := kb2 a _ hne ha1
  have hL2 := (hLx.same s0).kn ((kb1.kn (hk.same s0)).trans (kb2.kn hk1))
  obtain ⟨hxl, hxm⟩ := loc_tup.mp hlo
  refine ⟨_, rfl, _, rfl, _, rfl, a, us, rfl, ha2, fun p1 G3 s3 g3 => ?_⟩
  rw [cut_take] at g3
  have hL3 := hL2.same s3
  have hk3 := hk2.same s3
  obtain ⟨u, hu, ry⟩ := hL3.get' (List.getElem?_eq_getElem hix)
  have my := List.getElem_mem hix
  have dy := dps_mem' my
  have dx := dp_tup xs
  refine ⟨_, rfl, _, rfl, _, rfl, a, _, _, _, rfl, rfl, SqT.of (s3 _ _ ha2), atI_nat hu, pk, u, xs[i], L, B, rfl, hk3, ry, by omega, hxm _ my, hL, hB, hB2, fun r y G4 kb4 hk4 hy oy => ⟨(by show 1 ≤ sizeLine; decide), fun p2 n2 => ?_⟩⟩
  have s5 := newS (o := .tup [r]) n2
  have p1k : p1 ≠ pk := fun z => by
    obtain ⟨ns, e⟩ := hk3
    rw [z, e] at g3
    cases g3
  have g4 := kb4 p1 _ p1k g3
  have ha4 := kb4 a _ hne (s3 _ _ ha2)
  have hL4 := hL3.kn (kb4.kn hk3)
  refine ⟨p1, p2, _, [r], rfl, rfl, s5 _ _ g4, upd_same, by rw [List.length_singleton, List.length_take]; omega, fun p3 G6 s6 g6 => ?_⟩
  have s56 := s5.trans s6
  have ed : cutV us (some ((i : Int) + 1)) none = us.drop (i + 1) := cut_drop us (i + 1)
  refine ⟨_, rfl, _, rfl, _, _, rfl, rfl, _, rfl, a, us, rfl, s56 _ _ ha4, fun p4 G7 s7 g7 => ⟨p3, p4, _, _, rfl, rfl, s7 _ _ g6, g7, ?_, fun p5 G8 s8 g8 => ?_⟩⟩
  · rw [ed, List.length_append, List.length_singleton, List.length_take, List.length_drop]
    omega
  rw [ed] at g8
  have sA := s56.trans (s7.trans s8)
  have hL8 := hL4.same sA
  refine q _ (.tup (xs.take i ++ [y] ++ xs.drop (i + 1))) G8 (((kb01.trans kb2).trans (Kb.of s3)).trans (kb4.trans (Kb.of sA))) (hk4.same sA) (.tup g8 (((hL8.take i).app (.cons (hy.same sA) .nil)).app (hL8.drop (i + 1)))) ⟨?_, ?_⟩
  · rw [loc_tup]
    refine ⟨by rw [List.length_append, List.length_append, List.length_singleton, List.length_take, List.length_drop]; omega, fun z hz => ?_⟩
    rcases List.mem_append.mp hz with hz | hz
    · rcases List.mem_append.mp hz with hz | hz
      · exact Dt.loc_up (by omega) (by omega) (hxm z (List.mem_of_mem_take hz))
      · rw [List.mem_singleton.mp hz]
        exact oy.lo
    · exact Dt.loc_up (by omega) (by omega) (hxm z (List.mem_of_mem_drop hz))
  · rw [dp_tup, dp_tup]
    have := dps_le' (n := Dt.dps xs + 2) (xs := xs.take i ++ [y] ++ xs.drop (i + 1)) fun z hz => by
      rcases List.mem_append.mp hz with hz | hz
      · rcases List.mem_append.mp hz with hz | hz
        · have := dps_mem' (List.mem_of_mem_take hz)
          omega
        · rw [List.mem_singleton.mp hz]
          have := oy.dp
          omega
      · have := dps_mem' (List.mem_of_mem_drop hz)
        omega
    omega
theorem okBent {f fP fO : Addr} {fd fdP fdO : FuncData} {k : Nat} (F : Fun K "_law_bent" "_law_bent" tBent f fd) (bF : Binds K fd psBent []) (gF : mg "_law_bent" = some (.ref f))
    (GP : ∀ n, FnOk P w K mg base CX0 (k + n) fP fdP ["_law_picks", "_law_many"] spPick) (bP : Binds K fdP ["_law_picks", "_law_many"] []) (gP : mg "_law_pick" = some (.ref fP)) (kP : PySem.W.keepIn K (.ref fP) = true)
    (GO : ∀ n, FnOk P w K mg base CX0 (k + n) fO fdO psOther spOther) (bO : Binds K fdO psOther []) (gO : mg "_law_other" = some (.ref fO)) (kO : PySem.W.keepIn K (.ref fO) = true)
    (mi : mg "isinstance" = none) (mt : mg "tuple" = none) (ml : mg "len" = none) : ∀ n, FnOk P w K mg base CX0 (k + n) f fd psBent (spBent n)
  | 0 => noFn fun vs H Q E h => by
    obtain ⟨k, v, x, L, B, _, _, _, hn, _⟩ := h
    omega
  | n + 1 => okBent1 F bF gF (GP n) bP gP kP (GO n) bO gO kO mi mt ml (okBent F bF gF GP bP gP kP GO bO gO kO mi mt ml n)
end
end Kq

namespace Kq
open PySem PySem.Spec PyProof.Rows L2 Kf Kg Kv GxR RZ Ki
abbrev tParts : Stmt := tp 48
def isSq : Dt → Bool
  | .tup _ => true
  | .lst _ => true
  | _ => false
def isDc : Dt → Bool
  | .dct _ => true
  | _ => false
theorem kSq (K : PySem.W.Frag) (x : Dt) : PySem.W.kitAny K (.type x.cls) [.type "tuple", .type "list"] = some (isSq x) := by
  refine kitAny_cons (kTup K x) (fun h => kitAny_cons (kLst K x) (fun h2 => ?_) (fun h2 => ?_)) (fun h => ?_)
  · rw [kitAny_nil]
    cases x <;> first | rfl | (cases h; done) | (cases h2; done)
  · cases x <;> first | rfl | cases h2
  · cases x <;> first | rfl | cases h
theorem kDc (K : PySem.W.Frag) : ∀ x : Dt, PySem.W.kitOne K (.type x.cls) (.type "dict") = some (isDc x) := by
  intro x
  cases x <;> (refine kit_ty ?_; simp only [Dt.cls, isDc]; decide +kernel)
end Kq
namespace Kv
open PySem PySem.Spec PyProof.Rows L2
mutual
def Dt.pd : Dt → Nat
  | .tup xs => Dt.pds xs + 1
  | .lst xs => Dt.pds xs + 1
  | .dct _ => 2
  | _ => 0
def Dt.pds : List Dt → Nat
  | [] => 0
  | x :: xs => max x.pd (Dt.pds xs)
end
theorem pds_mem : ∀ {xs : List Dt} {x : Dt}, x ∈ xs → x.pd ≤ Dt.pds xs
  | y :: ys, x, h => by
    simp only [Dt.pds]
    rcases List.mem_cons.mp h with rfl | h
    · omega
    · have := pds_mem h
      omega
mutual
theorem pd_dp : ∀ x : Dt, x.pd ≤ x.dp + 1
  | .non => by simp only [Dt.pd]; omega
  | .bl _ => by simp only [Dt.pd]; omega
  | .int _ => by simp only [Dt.pd]; omega
  | .str _ => by simp only [Dt.pd]; omega
  | .tup xs => by
    have := pds_dps xs
    simp only [Dt.pd, Dt.dp]
    omega
  | .lst xs => by
    have := pds_dps xs
    simp only [Dt.pd, Dt.dp]
    omega
  | .dct _ => by simp only [Dt.pd, Dt.dp]; omega
theorem pds_dps : ∀ xs : List Dt, Dt.pds xs ≤ Dt.dps xs + 1
  | [] => by simp only [Dt.pds]; omega
  | x :: xs => by
    have := pd_dp x
    have := pds_dps xs
    simp only [Dt.pds, Dt.dps]
    omega
end
end Kv
namespace Kq
open PySem PySem.Spec PyProof.Rows L2 Kf Kg Kv GxR RZ Ki
/-- a dict's items, as things -/
def itm (kvs : List (Str × Int)) : List Dt := kvs.map fun p => .tup [.str p.1, .int p.2]
theorem itm_sz : ∀ kvs : List (Str × Int), Dt.szs (itm kvs) = 3 * kvs.length
  | [] => rfl
  | p :: r => by
    have := itm_sz r
    have e : itm (p :: r) = .tup [.str p.1, .int p.2] :: itm r := rfl
    rw [e]
    simp only [Dt.szs, Dt.sz, List.length_cons]
    omega
theorem itm_pd : ∀ kvs : List (Str × Int), Dt.pds (itm kvs) ≤ 1
  | [] => by show Dt.pds [] ≤ 1; simp only [Dt.pds]; omega
  | p :: r => by
    have := itm_pd r
    have e : itm (p :: r) = .tup [.str p.1, .int p.2] :: itm r := rfl
    rw [e]
    simp only [Dt.pds, Dt.pd]
    omega
theorem itm_dd {G : Hp} : ∀ {kvs : List (Str × Int)} {ts : List Addr}, Paired (fun (t : Addr) (q : Key × V) => G t = some (.tup [kV q.1, q.2])) ts (dkv kvs) → DdL Any G (itm kvs) (ts.map V.ref)
  | [], _, h => by
    cases h
    exact .nil
  | p :: r, _, h => by
    cases h with
    | cons h t => exact .cons (.tup h (.cons (.str _) (.cons (.int _) .nil))) (itm_dd t)
theorem itm_loc {L B : Nat} {kvs : List (Str × Int)} (h : (Dt.dct kvs).loc L B) (h2 : 2 ≤ L) : ∀ y ∈ itm kvs, y.loc L B := fun y hy => by
  simp only [Dt.loc] at h
  obtain ⟨p, hp, rfl⟩ := List.mem_map.mp hy
  refine loc_tup.mpr ⟨h2, fun z hz => ?_⟩
  rcases List.mem_cons.mp hz with rfl | hz
  · exact loc_str.mpr (h.2 p hp).1
  · rw [List.mem_singleton.mp hz]
    exact loc_int.mpr (h.2 p hp).2
def szI (xs : List Dt) : List Int := xs.map fun x => ((x.sz : Nat) : Int)
theorem szI_sum : ∀ xs : List Dt, (szI xs).sum = ((Dt.szs xs : Nat) : Int)
  | [] => rfl
  | x :: xs => by
    have e : szI (x :: xs) = ((x.sz : Nat) : Int) :: szI xs := rfl
    rw [e, List.sum_cons, szI_sum xs]
    simp only [Dt.szs]
    omega
section
variable {P : Program} {w : World} {K : PySem.W.Frag} {mg : Str → Option Value} {base : Heap}
abbrev nParts : List Str := ["_law_thing", "_law_part"]
theorem scParts : FnScope nParts ["_law_thing"] (defScope tParts) := ⟨rfl, rfl, rfl, by decide +kernel, rfl, by decide +kernel, by decide +kernel⟩
def spParts (n : Nat) : Sp := fun vs H Q _ => ∃ (v : V) (x : Dt) (L B : Nat), vs = [v] ∧ x.pd + 1 ≤ n ∧ Dd Any H x v ∧ x.loc L B ∧ 2 ≤ L ∧ L ≤ 1000 ∧ ∀ (G : Hp), Same H G → Q (.int ((x.sz : Nat) : Int)) G
theorem okParts1 {f : Addr} {fd : FuncData} {n : Nat} (F : Fun K "_law_parts" "_law_parts" tParts f fd) (bF : Binds K fd ["_law_thing"] []) (gF : mg "_law_parts" = some (.ref f)) (mi : mg "isinstance" = none) (mt : mg "tuple" = none) (mL : mg "list" = none) (mS : mg "sum" = none) (mD : mg "dict" = none)
    (GI : FnOk P w K mg base CX0 (n + 1) f fd ["_law_thing"] (spParts n)) : FnOk P w K mg base CX0 (n + 2) f fd ["_law_thing"] (spParts (n + 1)) := by
  refine F.ok scParts (fun vs H Q E h => ?_) (fun cdv A outer s H vs Q E hr h => ?_)
  · obtain ⟨v, x, L, B, rfl, _⟩ := h
    rfl
  obtain ⟨v, x, L, B, rfl, hn, hd, hlo, hL2, hL, q⟩ := h
  have turn : ∀ (G1 : Hp) (D : Addr) (xs : List Dt) (us : List V), Same H G1 → DdL Any G1 xs us → Dt.pds xs + 1 ≤ n → (∀ y ∈ xs, y.loc L B) → xs.length ≤ L → G1 D = none → ∀ (i : Nat) (u : V) (F : Hp), us[i]? = some u → (Same G1 F ∧ F D = some (.lst ((szI (xs.take i)).map V.int))) →
      ∀ σ, tCall (spParts n) [] E0 (tCons (tVar 1) tNil) ([σ, some u]) F fun y H4 => ∃ acc, H4 D = some (.lst acc) ∧ acc.length < sizeLine ∧ (Same G1 (upd H4 D (.lst (acc ++ [y]))) ∧ (upd H4 D (.lst (acc ++ [y]))) D = some (.lst ((szI (xs.take (i + 1))).map V.int))) := by
    intro G1 D xs us s1 hLL hpd hlo hxl nD i u F hu z σ
    obtain ⟨sF, gD⟩ := z
    obtain ⟨d, hd', rd⟩ := hLL.get hu
    have md := List.mem_of_getElem? hd'
    have d1 := pds_mem md
    have tk : xs.take (i + 1) = xs.take i ++ [d] := by rw [List.take_add_one, hd']; rfl
    refine ⟨_, rfl, u, d, L, B, rfl, by omega, rd.same sF, hlo d md, hL2, hL, fun F2 s2 => ⟨_, s2 _ _ gD, ?_, smk (sF.trans s2) nD, ?_⟩⟩
    · unfold szI
      rw [List.length_map, List.length_map, List.length_take]
      exact small1000 (by omega)
    · rw [upd_same, tk]
      unfold szI
      rw [List.map_append, List.map_append]
      rfl
  by_cases hx : (∃ xs, x = .lst xs) ∨ ∃ kvs, x = .dct kvs
  · refine ⟨_, C8.pss_cut (ps_if (pt_val (pe_callB (isiK K rfl) (by rfl) mi PyProof.Rows.boot_isinstance (pa_cons (pv 0) (pa_cons (pe_bltn (v := .ty "dict") (by rfl) mD (by decide +kernel) rfl) pa_nil)))) (pss_one (ps_set (i := 0) scParts.nd rfl (.inl rfl) (LiI.pe_listItems rfl (pv 0) (by rfl) mL boot_list))) pss_nil)
      (pss_cons (ps_if (pt_not (pt_val (pe_callB call_isiT (by rfl) mi PyProof.Rows.boot_isinstance (pa_cons (pv 0) (pa_cons (pe_tup (pa_cons (pe_bltn (v := .ty "tuple") (by rfl) mt PyProof.Rows.boot_tuple rfl) (pa_cons (pe_bltn (v := .ty "list") (by rfl) mL (by decide +kernel) rfl) pa_nil))) pa_nil))))) (pss_one (ps_ret pe_int)) pss_nil)
      (pss_one (ps_ret (pe_op op_add pe_int (pe_callB (cr_sum rfl) (by rfl) mS (by decide +kernel) (pa_cons (pe_lc (own := [("_law_part", 1)]) (g := gName 1) (by rfl) scParts.nd (pi_list (pv 0)) (blkOk_by (own := [("_law_part", 1)]) (N := nParts) (sc := defScope tParts) (by decide +kernel))
        (fun _ _ _ _ _ => pg_name (i := 1) scParts.nd rfl (.inl rfl)) (fun _ _ _ _ _ => pts_nil) (fun _ _ _ _ _ => pe_call GI hr (by rfl) gF F.kp bF .nil pass0 (pa_cons (pv 1) pa_nil))) pa_nil)))))), ?_⟩
    let Cut : L2.St → Hp → Prop := fun σ G => ∃ (b : Addr) (xs : List Dt) (us : List V), σ = [some (.ref b), none] ∧ Same H G ∧ G b = some (.lst us) ∧ DdL Any G xs us ∧ x.sz = 1 + Dt.szs xs ∧ Dt.pds xs + 1 ≤ n ∧ (∀ y ∈ xs, y.loc L B) ∧ xs.length ≤ L
    refine ⟨Cut, ?_, fun σ G c => ?_⟩
    · refine ⟨_, rfl, _, _, _, _, isDc x, rfl, .ty "dict", hd.ty, kDc K x, _, rfl, ?_⟩
      rcases hx with ⟨xs, rfl⟩ | ⟨kvs, rfl⟩
      · obtain ⟨b, us, rfl, hb, hLL⟩ : ∃ b us, v = .ref b ∧ H b = some (.lst us) ∧ DdL Any H xs us := by
          cases hd with
          | lst _ h t => exact ⟨_, _, rfl, h, t⟩
        have e1 : (Dt.lst xs).pd = Dt.pds xs + 1 := by simp only [Dt.pd]
        obtain ⟨h1, h2⟩ := loc_lst.mp hlo
        exact iteF ⟨b, xs, us, rfl, Same.refl H, hb, hLL, by simp only [Dt.sz], by omega, h2, h1⟩
      · refine iteT ?_
        obtain ⟨b, rfl, hb⟩ : ∃ b, v = .ref b ∧ H b = some (.dK (dkv kvs)) := by
          cases hd with
          | dct _ h => exact ⟨_, rfl, h⟩
        refine ⟨_, rfl, b, _, rfl, hb, fun H' p ts hs np nts npt hp hpr => ?_⟩
        have e1 : (Dt.dct kvs).pd = 2 := by simp only [Dt.pd]
        have := itm_pd kvs
        have h3 := itm_loc hlo hL2
        simp only [Dt.loc] at hlo
        exact ⟨p, itm kvs, _, rfl, hs, hp, itm_dd hpr, by rw [itm_sz]; simp only [Dt.sz], by omega, h3, by unfold itm; rw [List.length_map]; omega⟩
    obtain ⟨b, xs, us, rfl, sG, hb, hLL, esz, hpd, hll, hxl⟩ := c
    refine ⟨_, rfl, (by show 2 ≤ sizeLine; decide), fun t nt => ⟨_, t, _, _, _, _, rfl, upd_same, .cons (.ty _) (.cons (.ty _) .nil), ((Dd.lst trivial hb hLL : Dd Any G (.lst xs) (.ref b)).same (newS nt)).ty, kSq K _, _, rfl, iteF ?_⟩⟩
    have st := newS (o := .tup [V.ty "tuple", V.ty "list"]) nt
    have hb1 := st _ _ hb
    have hL1 := hLL.same st
    generalize upd G t (.tup [V.ty "tuple", V.ty "list"]) = H1 at st hb1 hL1
    refine ⟨_, rfl, b, rfl, ⟨_, SqL.of hb1⟩, fun D nD => ?_⟩
    have bD : b ≠ D := ne_of_none hb1 nD
    refine lc_list (xs := us) (fun i F => Same H1 F ∧ F D = some (.lst ((szI (xs.take i)).map V.int))) ⟨newS nD, upd_same⟩ (fun i F _ z => SqL.of (z.1 _ _ hb1)) (fun i u F hu z => ⟨rfl, ?_⟩) (fun F z => ?_)
    · exact turn H1 D xs us (sG.trans st) hL1 hpd hll hxl nD i u F hu z _
    · obtain ⟨sF, gD⟩ := z
      rw [← hL1.len, List.take_length] at gD
      refine ⟨D, _, rfl, SqL.of gD, _, _, rfl, rfl, ?_⟩
      have z := q _ ((sG.trans st).trans sF)
      rw [szI_sum]
      show Q (.int (1 + ((Dt.szs xs : Nat) : Int))) F
      rw [show (1 : Int) + ((Dt.szs xs : Nat) : Int) = ((x.sz : Nat) : Int) by rw [esz]; omega]
      exact z
  · refine ⟨_, pss_cons (ps_if (pt_val (pe_callB (isiK K rfl) (by rfl) mi PyProof.Rows.boot_isinstance (pa_cons (pv 0) (pa_cons (pe_bltn (v := .ty "dict") (by rfl) mD (by decide +kernel) rfl) pa_nil)))) (pss_one (ps_set (i := 0) scParts.nd rfl (.inl rfl) (LiI.pe_listItems rfl (pv 0) (by rfl) mL boot_list))) pss_nil)
      (pss_cons (ps_if (pt_not (pt_val (pe_callB call_isiT (by rfl) mi PyProof.Rows.boot_isinstance (pa_cons (pv 0) (pa_cons (pe_tup (pa_cons (pe_bltn (v := .ty "tuple") (by rfl) mt PyProof.Rows.boot_tuple rfl) (pa_cons (pe_bltn (v := .ty "list") (by rfl) mL (by decide +kernel) rfl) pa_nil))) pa_nil))))) (pss_one (ps_ret pe_int)) pss_nil)
      (pss_one (ps_ret (pe_op op_add pe_int (pe_callB (cr_sum rfl) (by rfl) mS (by decide +kernel) (pa_cons (pe_lc (own := [("_law_part", 1)]) (g := gName 1) (by rfl) scParts.nd (pi_tup (pv 0)) (blkOk_by (own := [("_law_part", 1)]) (N := nParts) (sc := defScope tParts) (by decide +kernel))
        (fun _ _ _ _ _ => pg_name (i := 1) scParts.nd rfl (.inl rfl)) (fun _ _ _ _ _ => pts_nil) (fun _ _ _ _ _ => pe_call GI hr (by rfl) gF F.kp bF .nil pass0 (pa_cons (pv 1) pa_nil))) pa_nil)))))), ?_⟩
    refine ⟨_, rfl, _, _, _, _, isDc x, rfl, .ty "dict", hd.ty, kDc K x, _, rfl, ite2 (fun e => ?_) (fun _ => ?_)⟩
    · cases x with
      | dct kvs => exact absurd (.inr ⟨kvs, rfl⟩) hx
      | _ => cases e
    refine ⟨_, rfl, (by show 2 ≤ sizeLine; decide), fun t nt => ⟨v, t, _, _, _, _, rfl, upd_same, .cons (.ty _) (.cons (.ty _) .nil), (hd.same (newS nt)).ty, kSq K _, _, rfl, ite2 (fun e => ?_) (fun e => ?_)⟩⟩
    · have z := q _ (newS (o := .tup [V.ty "tuple", V.ty "list"]) nt)
      have e1 : x.sz = 1 := by
        cases x with
        | tup xs => cases e
        | lst xs => exact absurd (.inl ⟨xs, rfl⟩) hx
        | dct kvs => exact absurd (.inr ⟨kvs, rfl⟩) hx
        | _ => simp only [Dt.sz]
      rw [e1] at z
      exact z
    obtain ⟨xs, rfl⟩ : ∃ xs, x = .tup xs := by
      cases x with
      | tup xs => exact ⟨xs, rfl⟩
      | lst xs => exact absurd (.inl ⟨xs, rfl⟩) hx
      | _ => exact absurd rfl e
    have st := newS (o := .tup [V.ty "tuple", V.ty "list"]) nt
    have hd1 := hd.same st
    generalize upd H t (.tup [V.ty "tuple", V.ty "list"]) = H1 at st hd1
    obtain ⟨b, us, rfl, hb, hLL⟩ := Kq.Dd.tupS hd1
    have e1 : (Dt.tup xs).pd = Dt.pds xs + 1 := by simp only [Dt.pd]
    have e2 : (Dt.tup xs).sz = 1 + Dt.szs xs := by simp only [Dt.sz]
    obtain ⟨h1, h2⟩ := loc_tup.mp hlo
    refine ⟨_, rfl, b, rfl, ⟨_, SqT.of hb⟩, fun D nD => ?_⟩
    have bD : b ≠ D := ne_of_none hb nD
    refine lc_tup (xs := us) (fun i F => Same H1 F ∧ F D = some (.lst ((szI (xs.take i)).map V.int))) ⟨newS nD, upd_same⟩ (fun i F _ z => SqT.of (z.1 _ _ hb)) (fun i u F hu z => ⟨rfl, ?_⟩) (fun F z => ?_)
    · exact turn H1 D xs us st hLL (by omega) h2 h1 nD i u F hu z _
    · obtain ⟨sF, gD⟩ := z
      rw [← hLL.len, List.take_length] at gD
      refine ⟨D, _, rfl, SqL.of gD, _, _, rfl, rfl, ?_⟩
      have z := q _ (st.trans sF)
      rw [szI_sum]
      show Q (.int (1 + ((Dt.szs xs : Nat) : Int))) F
      rw [show (1 : Int) + ((Dt.szs xs : Nat) : Int) = (((Dt.tup xs).sz : Nat) : Int) by rw [e2]; omega]
      exact z
theorem okParts {f : Addr} {fd : FuncData} (F : Fun K "_law_parts" "_law_parts" tParts f fd) (bF : Binds K fd ["_law_thing"] []) (gF : mg "_law_parts" = some (.ref f)) (mi : mg "isinstance" = none) (mt : mg "tuple" = none) (mL : mg "list" = none) (mS : mg "sum" = none) (mD : mg "dict" = none) : ∀ n, FnOk P w K mg base CX0 (n + 1) f fd ["_law_thing"] (spParts n)
  | 0 => noFn fun vs H Q E h => by
    obtain ⟨v, x, L, B, _, hn, _⟩ := h
    omega
  | n + 1 => okParts1 F bF gF mi mt mL mS mD (okParts F bF gF mi mt mL mS mD n)
end
end Kq

namespace Kq
open PySem PySem.Spec PyProof.Rows L2 Kf Kg Kv GxR RZ Ki
abbrev tAns : Stmt := tp 49
abbrev BM : Nat := 10 ^ 44
section
variable {P : Program} {w : World} {K : PySem.W.Frag} {mg : Str → Option Value} {base : Heap}
theorem okLTerm {f fA fF fN fD fC fW fL : Addr} {fd fdA fdF fdN fdD fdC fdW fdL : FuncData} {c : Nat} (F : Fun K "_law_is_term" "_law_is_term" tLTrm f fd) (bT : Binds K fd ["_law_thing"] []) (gT : mg "_law_is_term" = some (.ref f))
    (FA : Fun K "_law_is_asked" "_law_is_asked" tLAsk fA fdA) (bA : Binds K fdA psLAsk []) (gA : mg "_law_is_asked" = some (.ref fA)) (kA : PySem.W.keepIn K (.ref fA) = true)
    (GF : ∀ n, FnOk P w K mg base CX0 (c + 2 * n + 1) fF fdF [] spForms) (bF : Binds K fdF [] []) (gF : mg "_law_forms" = some (.ref fF)) (kF : PySem.W.keepIn K (.ref fF) = true)
    (GN : ∀ n, FnOk P w K mg base CX0 (c + 2 * n) fN fdN ["_law_thing"] (spLYes nmD)) (bN : Binds K fdN ["_law_thing"] []) (gN : mg "_law_is_name" = some (.ref fN)) (kN : PySem.W.keepIn K (.ref fN) = true)
    (GD : ∀ n, FnOk P w K mg base CX0 (c + 2 * n) fD fdD ["_law_thing"] (spLData n)) (bD : Binds K fdD ["_law_thing"] []) (gD : mg "_law_is_data" = some (.ref fD)) (kD : PySem.W.keepIn K (.ref fD) = true)
    (GC : ∀ n, FnOk P w K mg base CX0 (c + 2 * n) fC fdC ["_law_thing"] (spLDt n argD)) (bC : Binds K fdC ["_law_thing"] []) (gC : mg "_law_is_carried" = some (.ref fC)) (kC : PySem.W.keepIn K (.ref fC) = true)
    (GW : ∀ n, FnOk P w K mg base CX0 (c + 2 * n) fW fdW ["_law_thing"] (spYesS whlD)) (bW : Binds K fdW ["_law_thing"] []) (gW : mg "_law_whole" = some (.ref fW)) (kW : PySem.W.keepIn K (.ref fW) = true)
    (GL : ∀ n, FnOk P w K mg base CX0 (c + 2 * n) fL fdL ["_law_thing"] (spLFills n)) (bL : Binds K fdL ["_law_thing"] []) (gL : mg "_law_are_fills" = some (.ref fL)) (kL : PySem.W.keepIn K (.ref fL) = true)
    (mi : mg "isinstance" = none) (mt : mg "tuple" = none) (ms : mg "str" = none) (ml : mg "len" = none) (mr : mg "range" = none) (mb : mg "bool" = none) : ∀ n, FnOk P w K mg base CX0 (c + 2 * n) f fd ["_law_thing"] (spLTrm n)
  | 0 => noFn fun vs H Q E h => by
    obtain ⟨v, x, _, hn, _⟩ := h
    omega
  | n + 1 => okLTrm1 (k := c + 2 * n + 1) F (okLAsk1 (k := c + 2 * n) FA (okLTerm F bT gT FA bA gA kA GF bF gF kF GN bN gN kN GD bD gD kD GC bC gC kC GW bW gW kW GL bL gL kL mi mt ms ml mr mb n) bT gT F.kp (GN n) bN gN kN (GD n) bD gD kD (GC n) bC gC kC (GW n) bW gW kW (GL n) bL gL kL mi mb mr) bA gA kA (GF n) bF gF kF mi mt ms ml mr
/-! _law_answers -/
abbrev nAns : List Str := ["_law_thing", "_law_kept", "_law_found"]
theorem scAns : FnScope nAns ["_law_thing"] (defScope tAns) := ⟨rfl, rfl, rfl, by decide +kernel, rfl, by decide +kernel, by decide +kernel⟩
def spAns (T : List Addr) : Sp := fun vs H Q _ => ∃ (v : V) (x : Dt), vs = [v] ∧ Dd Any H x v ∧ x.loc 400 BM ∧ x.dp ≤ 30 ∧ TbS T H ∧ ∀ G : Hp, Sm T H G → Q (.bl true) G
theorem okAns {f fP fT fL : Addr} {fd fdP fdT fdL : FuncData} {k : Nat} {T : List Addr} (F : Fun K "_law_answers" "_law_answers" tAns f fd)
    (GP : FnOk P w K mg base CX0 (k + 72) fP fdP ["_law_thing"] (spParts 32)) (bP : Binds K fdP ["_law_thing"] []) (gP : mg "_law_parts" = some (.ref fP)) (kP : PySem.W.keepIn K (.ref fP) = true)
    (GT : FnOk P w K mg base CX0 (k + 72) fT fdT ["thing"] (spYes T trm)) (bT : Binds K fdT ["thing"] []) (gT : mg "is_term" = some (.ref fT)) (kT : PySem.W.keepIn K (.ref fT) = true)
    (GL : FnOk P w K mg base CX0 (k + 72) fL fdL ["_law_thing"] (spLTrm 31)) (bL : Binds K fdL ["_law_thing"] []) (gL : mg "_law_is_term" = some (.ref fL)) (kL : PySem.W.keepIn K (.ref fL) = true)
    (mp : mg "repr" = none) (mi : mg "isinstance" = none) (mb : mg "bool" = none) : FnG P w K mg base CX0 (k + 73) f fd ["_law_thing"] (spAns T) := by
  refine okG F scAns (fun vs H Q E h => ?_) (fun cdv A outer s H vs Q E still hr h => ?_)
  · obtain ⟨v, x, rfl, _⟩ := h
    rfl
  obtain ⟨v, x, rfl, hd, hlo, hdp, tb, q⟩ := h
  have hu : (cxOf CX0 P w K mg base nAns "_law_answers" (defScope tAns) f cdv A outer s H E).nox.A.units + (70 + 1) < cLine := by
    have := hr.un
    show (A.deeper _).units + 71 < cLine
    omega
  refine ⟨_, pss_cons (ps_if (pt_cmpR op_gt (pe_call GP hr (by rfl) gP kP bP .nil pass0 (pa_cons (pv 0) pa_nil)) pe_int (nomark _)) (pss_one (ps_ret pe_bl)) pss_nil)
    (pss_cons (ps_set (i := 1) scAns.nd rfl (.inl rfl) (pe_callB (call_showU (n := 70) still hu) (by rfl) mp PyProof.Rows.boot_repr (pa_cons (pv 0) pa_nil)))
    (pss_cons (ps_set (i := 2) scAns.nd rfl (.inl rfl) (pe_call GT hr (by rfl) gT kT bT .nil pass0 (pa_cons (pv 0) pa_nil)))
    (pss_one (ps_ret (pe_and (pe_callB (isiK K rfl) (by rfl) mi PyProof.Rows.boot_isinstance (pa_cons (pv 2) (pa_cons (pe_bltn (v := .ty "bool") (by rfl) mb PyProof.Rows.boot_bool rfl) pa_nil)))
      (pe_and (pe_cmpR op_eq (pv 2) (pe_call GL hr (by rfl) gL kL bL .nil pass0 (pa_cons (pv 0) pa_nil)) (nomark _))
      (pe_one (pe_cmpR op_eq (pe_callB (call_showU (n := 70) still hu) (by rfl) mp PyProof.Rows.boot_repr (pa_cons (pv 0) pa_nil)) (pv 1) (nomark _))))))))), ?_⟩
  have hpd := pd_dp x
  refine ⟨_, rfl, v, x, 400, BM, rfl, by omega, hd, hlo, by decide, by decide, fun G1 s1 => ⟨_, _, rfl, rfl, _, rfl, ite2 (fun e => ?_) (fun e => ?_)⟩⟩
  · exact q _ (Sm.of s1 tb)
  have hsz : x.sz ≤ 3000 := by
    have : ¬ ((x.sz : Nat) : Int) > 3000 := fun z => e (decide_eq_true z)
    omega
  have hwt := Dt.loc_wt hlo
  have e0 : sizeLine = 16777216 := rfl
  have hw : x.wt ≤ 12210000 := by
    have : (10 * 400 + 70) * x.sz ≤ (10 * 400 + 70) * 3000 := Nat.mul_le_mul_left _ hsz
    omega
  have hf : Fine BM 70 16777214 x := ⟨Dt.loc_fine hlo, by omega, by omega⟩
  have hs := hf.shw (show BM ≤ 10 ^ 45 by decide) (show 16777214 ≤ sizeLine by decide)
  have tb1 := tb.same s1
  have hd1 := hd.same s1
  refine ⟨_, rfl, v, x, rfl, hd1, hs, _, rfl, v, x, rfl, hd1, by omega, tb1, fun G2 s2 => ?_⟩
  have s12 := (Sm.of s1 tb).trans s2
  have hd2 := hd1.kn (s2.kn tb1)
  refine ⟨_, rfl, _, _, _, _, true, rfl, .ty "bool", .base (.bl _), kit_ty (by decide +kernel), _, rfl, iteT ?_⟩
  refine ⟨_, rfl, _, rfl, v, x, rfl, by omega, hd2, by omega, hsz, fun G3 s3 => ⟨rfl, _, rfl, ?_⟩⟩
  rw [decide_eq_true rfl]
  refine iteT ⟨_, rfl, v, x, rfl, hd2.same s3, hs, _, rfl, rfl, ?_⟩
  have z := q _ (s12.trans (Sm.of s3 s2.2))
  show Q (.bl (decide (V.str x.toP.shown = V.str x.toP.shown))) G3
  rw [decide_eq_true rfl]
  exact z
end
end Kq

namespace Kq
open PySem PySem.Spec PyProof.Rows L2 Kf Kg Kv GxR RZ Ki
abbrev tChain : Stmt := tp 50
theorem oT1i {x : Str} {i : Int} (h : (x.cps.toList.all fun c => decide (c < 128)) = true) (l : x.length ≤ 20) (hi : i.natAbs < BO) : Oth 20 BO 2 (.tup [.str x, .int i]) := ⟨loc_tup.mpr ⟨Nat.le_of_ble_eq_true rfl, fun y hy => by
  rcases List.mem_cons.mp hy with rfl | hy
  · exact loc_str.mpr (ascLit h l)
  · rw [List.mem_singleton.mp hy]
    exact loc_int.mpr hi⟩, by simp only [Dt.dp, Dt.dps]; omega⟩
theorem oth2 {L B n : Nat} {x : Str} {y : Dt} (hx : Asc L x) (hy : Oth L B n y) (h2 : 2 ≤ L) : Oth L B (n + 1) (.tup [.str x, y]) := by
  refine ⟨loc_tup.mpr ⟨h2, fun z hz => ?_⟩, ?_⟩
  · rcases List.mem_cons.mp hz with rfl | hz
    · exact loc_str.mpr hx
    · rw [List.mem_singleton.mp hz]
      exact hy.lo
  · have := hy.dp
    simp only [Dt.dp, Dt.dps]
    omega
theorem oth3 {L B n : Nat} {x : Str} {y z : Dt} (hx : Asc L x) (hy : Oth L B n y) (hz : Oth L B n z) (h3 : 3 ≤ L) : Oth L B (n + 1) (.tup [.str x, y, z]) := by
  refine ⟨loc_tup.mpr ⟨h3, fun u hu => ?_⟩, ?_⟩
  · rcases List.mem_cons.mp hu with rfl | hu
    · exact loc_str.mpr hx
    · rcases List.mem_cons.mp hu with rfl | hu
      · exact hy.lo
      · rw [List.mem_singleton.mp hu]
        exact hz.lo
  · have := hy.dp
    have := hz.dp
    simp only [Dt.dp, Dt.dps]
    omega
section
variable {P : Program} {w : World} {K : PySem.W.Frag} {mg : Str → Option Value} {base : Heap}
abbrev nChain : List Str := ["_law_deck_here", "_law_found", "_law_k", "_law_way"]
theorem scChain : FnScope nChain ["_law_deck_here"] (defScope tChain) := ⟨rfl, rfl, rfl, by decide +kernel, rfl, by decide +kernel, by decide +kernel⟩
/-- a thing without lists is told, the deck drawn on -/
def spMade (L n : Nat) : Sp := fun vs H Q _ => ∃ (d c : Addr), vs = [.ref d] ∧ Dk H d c ∧ ∀ (v : V) (y : Dt) (G : Hp), Kp d c H G → Dk G d c → Dd Non G y v → Oth L BO n y → Q v G
theorem okChain {f fD : Addr} {fd fdD : FuncData} {k : Nat} (F : Fun K "_law_chain" "_law_chain" tChain f fd)
    (GD : FnOk P w K mg base CX0 k fD fdD ["_law_deck_here", "_law_most"] spDraw) (bD : Binds K fdD ["_law_deck_here", "_law_most"] []) (gD : mg "_law_draw" = some (.ref fD)) (kD : PySem.W.keepIn K (.ref fD) = true)
    (mr : mg "range" = none) : FnOk P w K mg base CX0 (k + 1) f fd ["_law_deck_here"] (spMade 20 30) := by
  refine F.ok scChain (fun vs H Q E h => ?_) (fun cdv A outer s H vs Q E hr h => ?_)
  · obtain ⟨d, c, rfl, _⟩ := h
    rfl
  obtain ⟨d, c, rfl, dk, q⟩ := h
  refine ⟨_, pss_cons (ps_set (i := 1) scChain.nd rfl (.inl rfl) (pe_ix ix_list (pe_lst (pa_cons (pe_tup (pa_cons pe_str (pa_cons pe_int pa_nil))) (pa_cons (pe_tup (pa_cons pe_str pa_nil)) (pa_cons (pe_tup (pa_cons pe_str (pa_cons pe_str pa_nil))) (pa_cons (pe_tup (pa_cons pe_str (pa_cons pe_int pa_nil))) (pa_cons (pe_tup (pa_cons pe_str (pa_cons pe_str pa_nil))) pa_nil))))))
      (pe_call GD hr (by rfl) gD kD bD .nil pass0 (pa_cons (pv 0) (pa_cons pe_int pa_nil))) (fun _ _ => rfl)))
    (pss_cons (ps_for PassesOwn.never rfl (pi_range1 (by rfl) mr (pa_cons pe_int pa_nil)) (pg_name (i := 2) scChain.nd rfl (.inl rfl))
      (pss_cons (ps_set (i := 3) scChain.nd rfl (.inl rfl) (pe_call GD hr (by rfl) gD kD bD .nil pass0 (pa_cons (pv 0) (pa_cons pe_int pa_nil))))
      (pss_one (ps_set (i := 1) scChain.nd rfl (.inl rfl) (pe_ix ix_list (pe_lst (pa_cons (pe_tup (pa_cons pe_str (pa_cons (pv 1) pa_nil))) (pa_cons (pe_tup (pa_cons pe_str (pa_cons (pe_tup (pa_cons pe_str (pa_cons pe_str pa_nil))) (pa_cons (pv 1) pa_nil))))
        (pa_cons (pe_tup (pa_cons pe_str (pa_cons (pv 1) (pa_cons (pe_tup (pa_cons pe_str pa_nil)) pa_nil)))) (pa_cons (pe_tup (pa_cons pe_str (pa_cons (pv 1) pa_nil))) pa_nil))))) (pv 3) (fun _ _ => rfl))))))
    (pss_one (ps_ret (pv 1)))), ?_⟩
  have t2 : 2 ≤ sizeLine := by decide
  have t1 : 1 ≤ sizeLine := by decide
  have t3 : 3 ≤ sizeLine := by decide
  refine ⟨t2, fun p1 n1 => ⟨t1, fun p2 n2 => ⟨t2, fun p3 n3 => ⟨t2, fun p4 n4 => ⟨t2, fun p5 n5 => ⟨(by show 5 ≤ sizeLine; decide), fun l nl => ?_⟩⟩⟩⟩⟩⟩
  have s1 := newS (o := .tup [V.str "num", .int 5]) n1
  have s2 := newS (o := .tup [V.str "num"]) n2
  have s3 := newS (o := .tup [V.str "name", .str ""]) n3
  have s4 := newS (o := .tup [V.str "truth", .int 1]) n4
  have s5 := newS (o := .tup [V.str "name", .str "x"]) n5
  have s6 := newS (o := .lst [V.ref p1, .ref p2, .ref p3, .ref p4, .ref p5]) nl
  have sA := s1.trans (s2.trans (s3.trans (s4.trans (s5.trans s6))))
  have r1 : Dd Non _ (.tup [.str "num", .int 5]) (.ref p1) := .tup ((s2.trans (s3.trans (s4.trans (s5.trans s6)))) p1 _ upd_same) (.cons (.str _) (.cons (.int _) .nil))
  have r2 : Dd Non _ (.tup [.str "num"]) (.ref p2) := .tup ((s3.trans (s4.trans (s5.trans s6))) p2 _ upd_same) (.cons (.str _) .nil)
  have r3 : Dd Non _ (.tup [.str "name", .str ""]) (.ref p3) := .tup ((s4.trans (s5.trans s6)) p3 _ upd_same) (.cons (.str _) (.cons (.str _) .nil))
  have r4 : Dd Non _ (.tup [.str "truth", .int 1]) (.ref p4) := .tup ((s5.trans s6) p4 _ upd_same) (.cons (.str _) (.cons (.int _) .nil))
  have r5 : Dd Non _ (.tup [.str "name", .str "x"]) (.ref p5) := .tup (s6 p5 _ upd_same) (.cons (.str _) (.cons (.str _) .nil))
  have dkA := dk.same sA
  have offl := (dk.same (s1.trans (s2.trans (s3.trans (s4.trans s5))))).off nl
  have LL := (DdL.cons r1 (.cons r2 (.cons r3 (.cons r4 (.cons r5 .nil)))))
  have gl : (upd (upd (upd (upd (upd (upd H p1 (.tup [V.str "num", .int 5])) p2 (.tup [V.str "num"])) p3 (.tup [V.str "name", .str ""])) p4 (.tup [V.str "truth", .int 1])) p5 (.tup [V.str "name", .str "x"])) l (.lst [V.ref p1, .ref p2, .ref p3, .ref p4, .ref p5])) l = some (.lst [V.ref p1, .ref p2, .ref p3, .ref p4, .ref p5]) := upd_same
  clear s1 s2 s3 s4 s5 s6 r1 r2 r3 r4 r5
  generalize upd (upd (upd (upd (upd (upd H p1 (.tup [V.str "num", .int 5])) p2 (.tup [V.str "num"])) p3 (.tup [V.str "name", .str ""])) p4 (.tup [V.str "truth", .int 1])) p5 (.tup [V.str "name", .str "x"])) l (.lst [V.ref p1, .ref p2, .ref p3, .ref p4, .ref p5]) = HA at sA dkA LL gl
  refine ⟨_, rfl, d, c, 5, rfl, dkA, by decide, by decide, fun r G1 r0 r1 kp1 dk1 => ?_⟩
  have LL1 := LL.kn (Kn.tk (Tk.kp kp1 dkA))
  obtain ⟨u, y, e1, my, hy⟩ := uat LL1 r0 r1
  have oy : Oth 20 BO 2 y := by
    simp only [List.mem_cons, List.not_mem_nil, or_false] at my
    rcases my with rfl | rfl | rfl | rfl | rfl
    · exact oT1i (by decide +kernel) (by decide +kernel) (by decide +kernel)
    · exact oStr1 (by decide +kernel) (by decide +kernel)
    · exact oStr2 (by decide +kernel) (by decide +kernel) (by decide +kernel) (by decide +kernel)
    · exact oT1i (by decide +kernel) (by decide +kernel) (by decide +kernel)
    · exact oStr2 (by decide +kernel) (by decide +kernel) (by decide +kernel) (by decide +kernel)
  refine ⟨l, _, _, _, rfl, rfl, SqL.of (kp1 l _ offl.1 offl.2 gl), e1, ?_⟩
  have kpA := (Kp.of sA).trans kp1
  refine ⟨26, rfl, by decide, by decide, for_range (lo := 0) (n := 26) (fun i σ G => ∃ (u : V) (y : Dt) (y2 y3 : Option V), σ = [some (.ref d), some u, y2, y3] ∧ Kp d c H G ∧ Dk G d c ∧ Dd Non G y u ∧ Oth 20 BO (2 + i) y) ⟨u, y, _, _, rfl, kpA, dk1, hy, oy⟩ (fun i σ G hi z => ?_) (fun σ G z => ?_)⟩
  · obtain ⟨u, y, y2, y3, rfl, kpG, dkG, hy, oy⟩ := z
    refine ⟨_, rfl, d, c, 4, rfl, dkG, by decide, by decide, fun r G1 r0 r1 kp1 dk1 => ?_⟩
    have hy1 := hy.kn (Kn.tk (Tk.kp kp1 dkG))
    refine ⟨_, rfl, t2, fun p1 n1 => ⟨t2, fun p2 n2 => ⟨_, rfl, t3, fun p3 n3 => ⟨_, rfl, t1, fun p4 n4 => ⟨t3, fun p5 n5 => ⟨_, rfl, t2, fun p6 n6 => ⟨(by show 4 ≤ sizeLine; decide), fun l nl => ?_⟩⟩⟩⟩⟩⟩⟩
    have s1 := newS (o := .tup [V.str "first", u]) n1
    have s2 := newS (o := .tup [V.str "name", .str "x"]) n2
    have s3 := newS (o := .tup [V.str "call", .ref p2, u]) n3
    have s4 := newS (o := .tup [V.str "num"]) n4
    have s5 := newS (o := .tup [V.str "left", u, .ref p4]) n5
    have s6 := newS (o := .tup [V.str "second", u]) n6
    have s7 := newS (o := .lst [V.ref p1, .ref p3, .ref p5, .ref p6]) nl
    have w6 := s6.trans s7
    have w5 := s5.trans w6
    have w4 := s4.trans w5
    have w3 := s3.trans w4
    have w2 := s2.trans w3
    have w1 := s1.trans w2
    have hyA := hy1.same w1
    have q1 : Dd Non _ (.tup [.str "first", y]) (.ref p1) := .tup (w2 p1 _ upd_same) (.cons (.str _) (.cons hyA .nil))
    have q2 : Dd Non _ (.tup [.str "name", .str "x"]) (.ref p2) := .tup (w3 p2 _ upd_same) (.cons (.str _) (.cons (.str _) .nil))
    have q3 : Dd Non _ (.tup [.str "call", .tup [.str "name", .str "x"], y]) (.ref p3) := .tup (w4 p3 _ upd_same) (.cons (.str _) (.cons q2 (.cons hyA .nil)))
    have q4 : Dd Non _ (.tup [.str "num"]) (.ref p4) := .tup (w5 p4 _ upd_same) (.cons (.str _) .nil)
    have q5 : Dd Non _ (.tup [.str "left", y, .tup [.str "num"]]) (.ref p5) := .tup (w6 p5 _ upd_same) (.cons (.str _) (.cons hyA (.cons q4 .nil)))
    have q6 : Dd Non _ (.tup [.str "second", y]) (.ref p6) := .tup (s7 p6 _ upd_same) (.cons (.str _) (.cons hyA .nil))
    obtain ⟨u', y', e', my', hy'⟩ := uat (DdL.cons q1 (.cons q3 (.cons q5 (.cons q6 .nil)))) r0 r1
    refine ⟨_, rfl, l, _, _, _, rfl, rfl, SqL.of upd_same, e', u', y', _, _, rfl, (kpG.trans kp1).trans (Kp.of w1), dk1.same w1, hy', ?_⟩
    have o2 : Oth 20 BO (2 + i) (.tup [.str "name", .str "x"]) := (oStr2 (by decide +kernel) (by decide +kernel) (by decide +kernel) (by decide +kernel)).up (Nat.le_refl _) (Nat.le_refl _) (by omega)
    have o4 : Oth 20 BO (2 + i) (.tup [.str "num"]) := (oStr1 (by decide +kernel) (by decide +kernel)).up (Nat.le_refl _) (Nat.le_refl _) (by omega)
    simp only [List.mem_cons, List.not_mem_nil, or_false] at my'
    rcases my' with rfl | rfl | rfl | rfl
    · exact oth2 (ascLit (by decide +kernel) (by decide +kernel)) oy (by decide)
    · exact oth3 (ascLit (by decide +kernel) (by decide +kernel)) o2 oy (by decide)
    · exact oth3 (ascLit (by decide +kernel) (by decide +kernel)) oy o4 (by decide)
    · exact oth2 (ascLit (by decide +kernel) (by decide +kernel)) oy (by decide)
  · obtain ⟨u, y, y2, y3, rfl, kpG, dkG, hy, oy⟩ := z
    exact ⟨_, rfl, q u y G kpG dkG hy (oy.up (Nat.le_refl _) (Nat.le_refl _) (by omega))⟩
end
end Kq

namespace Kq
open PySem PySem.Spec PyProof.Rows L2 Kf Kg Kv GxR RZ Ki
abbrev tWide : Stmt := tp 51
/-- a name with a kind, or what is none -/
def Wf (y : Dt) : Prop := Oth 20 BO 3 y ∧ ∃ z r, y = .tup [.str z, r] ∧ Asc 20 z
theorem wf_mk {z : Str} {r : Dt} (hz : Asc 20 z) (hr : Oth 20 BO 2 r) : Wf (.tup [.str z, r]) := ⟨oth2 hz hr (by decide), z, r, rfl, hz⟩
theorem sg_asc (i : Nat) (h : i < 26) : Asc 1 (sg i) := by
  refine ⟨fun c hc => ?_, Nat.le_refl _⟩
  have hc : c ∈ [97 + i] := hc
  rw [List.mem_singleton.mp hc]
  omega
section
variable {P : Program} {w : World} {K : PySem.W.Frag} {mg : Str → Option Value} {base : Heap}
abbrev nWide : List Str := ["_law_deck_here", "_law_letters", "_law_many", "_law_at", "_law_way", "_law_k", "_law_fills"]
theorem scWide : FnScope nWide ["_law_deck_here"] (defScope tWide) := ⟨rfl, rfl, rfl, by decide +kernel, rfl, by decide +kernel, by decide +kernel⟩
theorem okWide {f fD : Addr} {fd fdD : FuncData} {k : Nat} (F : Fun K "_law_wide" "_law_wide" tWide f fd)
    (GD : FnOk P w K mg base CX0 k fD fdD ["_law_deck_here", "_law_most"] spDraw) (bD : Binds K fdD ["_law_deck_here", "_law_most"] []) (gD : mg "_law_draw" = some (.ref fD)) (kD : PySem.W.keepIn K (.ref fD) = true)
    (mr : mg "range" = none) (mt : mg "tuple" = none) : FnOk P w K mg base CX0 (k + 1) f fd ["_law_deck_here"] (spMade 400 30) := by
  refine F.ok scWide (fun vs H Q E h => ?_) (fun cdv A outer s H vs Q E hr h => ?_)
  · obtain ⟨d, c, rfl, _⟩ := h
    rfl
  obtain ⟨d, c, rfl, dk, q⟩ := h
  refine ⟨_, pss_cons (ps_set (i := 1) scWide.nd rfl (.inr rfl) pe_str)
    (pss_cons (ps_set (i := 2) scWide.nd rfl (.inl rfl) (pe_op op_add pe_int (pe_call GD hr (by rfl) gD kD bD .nil pass0 (pa_cons (pv 0) (pa_cons pe_int pa_nil)))))
    (pss_cons (ps_set (i := 3) scWide.nd rfl (.inl rfl) (pe_call GD hr (by rfl) gD kD bD .nil pass0 (pa_cons (pv 0) (pa_cons (pv 2) pa_nil))))
    (pss_cons (ps_set (i := 4) scWide.nd rfl (.inl rfl) (pe_call GD hr (by rfl) gD kD bD .nil pass0 (pa_cons (pv 0) (pa_cons pe_int pa_nil))))
    (pss_cons (ps_setLc (i := 6) (own := [("_law_k", 5)]) (g := gName 5) (by rfl) scWide.nd rfl rfl (sw_true rfl rfl rfl (by decide +kernel)) (pi_range1 (by rfl) mr (pa_cons (pv 2) pa_nil)) (blkOk_by (own := [("_law_k", 5)]) (N := nWide) (sc := defScope tWide) (by decide +kernel))
      (fun _ _ _ _ _ => pg_name (i := 5) scWide.nd rfl (.inl rfl)) (fun _ _ _ _ _ => pts_nil)
      (fun _ _ _ _ _ => pe_tup (pa_cons (pe_op op_add_str (pe_ix ix_str (pv 1) (pe_op op_fdiv (pv 5) pe_int) (fun _ _ => rfl)) (pe_ix ix_str (pv 1) (pe_op op_mod (pv 5) pe_int) (fun _ _ => rfl))) (pa_cons (pe_tup (pa_cons pe_str pa_nil)) pa_nil))))
    (C8.pss_cut (ps_if (pt_cmpR op_eq (pv 4) pe_int (nomark _)) (pss_one (ps_expr (pe_bm PySem.F.plainAttrs_list PySem.F.slot_list_insert PySem.F.type_list_insert mt_insert (pv 6) (pa_cons (pv 3) (pa_cons (pe_ix ix_list (pv 6) (pv 3) (fun _ _ => rfl)) pa_nil))))) pss_nil)
    (C8.pss_cut (ps_if (pt_cmpR op_eq (pv 4) pe_int (nomark _)) (pss_one (ps_asg (pe_tup (pa_cons (pe_ix ix_tup (pe_ix ix_list (pv 6) (pv 3) (fun _ _ => rfl)) pe_int (fun _ _ => rfl)) (pa_cons (pe_tup (pa_cons pe_str pa_nil)) pa_nil))) (pg_sub (pv 6) (pv 3) set_list))) pss_nil)
    (C8.pss_cut (ps_if (pt_cmpR op_eq (pv 4) pe_int (nomark _)) (pss_one (ps_asg (pe_tup (pa_cons (pe_ix ix_tup (pe_ix ix_list (pv 6) (pv 3) (fun _ _ => rfl)) pe_int (fun _ _ => rfl)) (pa_cons (pe_tup (pa_cons pe_str (pa_cons (pe_tup (pa_cons pe_str pa_nil)) (pa_cons (pe_tup (pa_cons pe_str pa_nil)) pa_nil)))) pa_nil))) (pg_sub (pv 6) (pv 3) set_list))) pss_nil)
    (pss_one (ps_ret (pe_tup (pa_cons pe_str (pa_cons pe_str (pa_cons (pe_callTy call_tuple_of (by rfl) mt PyProof.Rows.boot_tuple (pa_cons (pv 6) pa_nil)) pa_nil))))))))))))), ?_⟩
  have t2 : 2 ≤ sizeLine := by decide
  have t1 : 1 ≤ sizeLine := by decide
  have t3 : 3 ≤ sizeLine := by decide
  have e0 : sizeLine = 16777216 := rfl
  have oN : Oth 20 BO 2 (.tup [.str "num"]) := oStr1 (by decide +kernel) (by decide +kernel)
  have oL : Oth 20 BO 2 (.tup [.str "list"]) := oStr1 (by decide +kernel) (by decide +kernel)
  have oN1 : Oth 20 BO 1 (.tup [.str "num"]) := ⟨oN.lo, by simp only [Dt.dp, Dt.dps]; omega⟩
  have oF : Oth 20 BO 2 (.tup [.str "fun", .tup [.str "num"], .tup [.str "num"]]) := oth3 (ascLit (by decide +kernel) (by decide +kernel)) oN1 oN1 (by decide)
  refine ⟨_, rfl, d, c, 251, rfl, dk, by decide, by decide, fun r1 G1 a0 a1 kp1 dk1 => ⟨_, _, rfl, rfl, ?_⟩⟩
  obtain ⟨m, hm, hm0, hm1⟩ : ∃ m : Nat, 100 + r1 = (m : Int) ∧ 100 ≤ m ∧ m ≤ 350 := ⟨(100 + r1).toNat, by omega, by omega, by omega⟩
  simp only [hm]
  refine ⟨_, rfl, _, rfl, d, c, _, rfl, dk1, by omega, by omega, fun r2 G2 b0 b1 kp2 dk2 => ?_⟩
  obtain ⟨at', rfl⟩ : ∃ j : Nat, r2 = (j : Int) := ⟨r2.toNat, by omega⟩
  have hat : at' < m := by omega
  refine ⟨_, rfl, d, c, 4, rfl, dk2, by decide, by decide, fun way G3 c0 c1 kp3 dk3 => ?_⟩
  have kpA := kp1.trans (kp2.trans kp3)
  refine ⟨_, rfl, (m : Int), rfl, by omega, by omega, fun D nD => ?_⟩
  have offD := dk3.off nD
  have hD := kpA.free dk3 nD
  let Cut : L2.St → Hp → Prop := fun σ G => ∃ (ys : List Dt) (us : List V), σ = [some (.ref d), some (.str lets), some (.int (m : Int)), some (.int (at' : Int)), some (.int way), none, some (.ref D)] ∧ Kp d c H G ∧ Dk G d c ∧ G D = some (.lst us) ∧ DdL Non G ys us ∧ (∀ y ∈ ys, Wf y) ∧ m ≤ ys.length ∧ ys.length ≤ m + 1
  -- how the list changes
  have chg : ∀ (G G2 : Hp) (us : List V) (ys zs : List Dt) (ws : List V), Same G G2 → Kp d c H G → Dk G d c → G D = some (.lst us) → DdL Non G2 zs ws → (∀ y ∈ zs, Wf y) → m ≤ zs.length → zs.length ≤ m + 1 → Cut [some (.ref d), some (.str lets), some (.int (m : Int)), some (.int (at' : Int)), some (.int way), none, some (.ref D)] (upd G2 D (.lst ws)) := by
    intro G G2 us ys zs ws s kp dkG gD hL hw h1 h2
    refine ⟨zs, ws, rfl, (kp.trans (Kp.of s)).mk hD, (dkG.same s).put offD.1 offD.2, upd_same, hL.kn (Kn.rfl.put (fun z => z) (fun ps z => by rw [s _ _ gD] at z; cases z)), hw, h1, h2⟩
  refine lc_range (lo := 0) (n := (m : Int).toNat) (fun i G => Kp d c H G ∧ Dk G d c ∧ ∃ (ys : List Dt) (us : List V), G D = some (.lst us) ∧ DdL Non G ys us ∧ (∀ y ∈ ys, Wf y) ∧ ys.length = i) ⟨kpA.mk hD, dk3.put offD.1 offD.2, [], [], upd_same, .nil, (fun _ z => absurd z List.not_mem_nil), rfl⟩ (fun i G hi z => ?_) (fun G z => ?_)
  · obtain ⟨kpG, dkG, ys, us, gD, hL, hw, hl⟩ := z
    have hi2 : i < 350 := by omega
    have lu := hL.len
    have q1 : ((0 : Int) + (i : Int)) / 26 = ((i / 26 : Nat) : Int) := by omega
    have q2 : ((0 : Int) + (i : Int)) % 26 = ((i % 26 : Nat) : Int) := by omega
    have l1 : i / 26 < 26 := by omega
    have l2 : i % 26 < 26 := by omega
    have f1 := lets_at ⟨i / 26, l1⟩
    have f2 := lets_at ⟨i % 26, l2⟩
    have slen : lets.length ≤ sizeLine := by decide +kernel
    have hz : Asc 20 (sg (i / 26) ++ sg (i % 26)) := (asc_app (sg_asc _ l1) (sg_asc _ l2)).up (by decide)
    refine ⟨rfl, _, rfl, _, rfl, _, _, rfl, rfl, ⟨by decide, by decide⟩, lets, _, 97 + i / 26, rfl, rfl, slen, ?_, _, rfl, _, rfl, _, _, rfl, rfl, (by show (0 : Int) < 26; decide), lets, _, 97 + i % 26, rfl, rfl, slen, ?_, _, _, rfl, rfl, (by show 1 + 1 ≤ sizeLine; decide), t1, fun p1 n1 => ⟨t2, fun p2 n2 => ?_⟩⟩
    · rw [q1]
      exact atI_nat f1
    · rw [q2]
      exact atI_nat f2
    have s1 := newS (o := .tup [V.str "num"]) n1
    have s2 := newS (o := .tup [V.str (sg (i / 26) ++ sg (i % 26)), .ref p1]) n2
    have s12 := s1.trans s2
    have gD2 := s12 _ _ gD
    refine ⟨us, gD2, by omega, (kpG.trans (Kp.of s12)).mk hD, (dkG.same s12).put offD.1 offD.2, ys ++ [.tup [.str (sg (i / 26) ++ sg (i % 26)), .tup [.str "num"]]], us ++ [.ref p2], upd_same, ?_, fun y hy => ?_, ?_⟩
    · have kD : Kn Non (upd (upd G p1 (.tup [V.str "num"])) p2 (.tup [V.str (sg (i / 26) ++ sg (i % 26)), .ref p1])) (upd (upd (upd G p1 (.tup [V.str "num"])) p2 (.tup [V.str (sg (i / 26) ++ sg (i % 26)), .ref p1])) D (.lst (us ++ [.ref p2]))) := Kn.rfl.put (fun z => z) (fun ps z => by rw [gD2] at z; cases z)
      have r1 : Dd Non (upd (upd G p1 (.tup [V.str "num"])) p2 (.tup [V.str (sg (i / 26) ++ sg (i % 26)), .ref p1])) (.tup [.str (sg (i / 26) ++ sg (i % 26)), .tup [.str "num"]]) (.ref p2) := .tup upd_same (.cons (.str _) (.cons (.tup (s2 p1 _ upd_same) (.cons (.str _) .nil)) .nil))
      exact ((hL.same s12).kn kD).app (.cons (r1.kn kD) .nil)
    · rcases List.mem_append.mp hy with z | z
      · exact hw y z
      · rw [List.mem_singleton.mp z]
        exact wf_mk hz oN
    · rw [List.length_append, hl]
      rfl
  obtain ⟨kpG, dkG, ys, us, gD, hL, hw, hl⟩ := z
  have hl : ys.length = m := by omega
  refine ⟨Cut, ?_, fun σ G c => ?_⟩
  · refine ⟨_, rfl, rfl, _, rfl, ite2 (fun _ => ?_) (fun _ => ⟨ys, us, rfl, kpG, dkG, gD, hL, hw, by omega, by omega⟩)⟩
    have hi : at' < ys.length := by omega
    obtain ⟨u, hu, ry⟩ := hL.get' (List.getElem?_eq_getElem hi)
    have my := List.getElem_mem hi
    have lu := hL.len
    refine ⟨_, rfl, .inl ⟨rfl, _, SqL.of gD⟩, _, rfl, _, rfl, _, rfl, D, _, _, u, rfl, rfl, SqL.of gD, atI_nat hu, D, us, (at' : Int), u, rfl, rfl, gD, by omega, by omega, by omega, ?_⟩
    exact chg G G us ys (ys.take at' ++ [ys[at']] ++ ys.drop at') (us.take at' ++ [u] ++ us.drop at') (Same.refl _) kpG dkG gD (((hL.take at').app (.cons ry .nil)).app (hL.drop at')) (fun y hy => by
      rcases List.mem_append.mp hy with z | z
      · rcases List.mem_append.mp z with z | z
        · exact hw y (List.mem_of_mem_take z)
        · rw [List.mem_singleton.mp z]
          exact hw _ my
      · exact hw y (List.mem_of_mem_drop z)) (by rw [List.length_append, List.length_append, List.length_singleton, List.length_take, List.length_drop]; omega) (by rw [List.length_append, List.length_append, List.length_singleton, List.length_take, List.length_drop]; omega)
  clear kpG dkG gD hL hw hl
  obtain ⟨ys, us, rfl, kpG, dkG, gD, hL, hw, h1, h2⟩ := c
  refine ⟨Cut, ?_, fun σ G c => ?_⟩
  · refine ⟨_, rfl, rfl, _, rfl, ite2 (fun _ => ?_) (fun _ => ⟨ys, us, rfl, kpG, dkG, gD, hL, hw, h1, h2⟩)⟩
    have hi : at' < ys.length := by omega
    obtain ⟨u, hu, ry⟩ := hL.get' (List.getElem?_eq_getElem hi)
    have my := hw _ (List.getElem_mem hi)
    have lu := hL.len
    obtain ⟨oy, z, r, ey, hz⟩ := my
    rw [ey] at ry
    obtain ⟨b, v0, v1, rfl, hb, hv0, hv1⟩ := Dd.tup2 ry
    cases hv0
    refine ⟨_, rfl, _, rfl, D, _, _, _, rfl, rfl, SqL.of gD, atI_nat hu, b, _, _, _, rfl, rfl, SqT.of hb, atI_nat (j := 0) rfl, t1, fun p1 n1 => ⟨t2, fun p2 n2 => ?_⟩⟩
    have s1 := newS (o := .tup [V.str "list"]) n1
    have s2 := newS (o := .tup [V.str z, .ref p1]) n2
    have s12 := s1.trans s2
    refine ⟨_, rfl, _, rfl, D, us, _, at', rfl, rfl, s12 _ _ gD, by unfold ixN; rw [if_pos (by omega), if_pos (by omega)]; rfl, ?_⟩
    exact chg G _ us ys (ys.set at' (.tup [.str z, .tup [.str "list"]])) (us.set at' (.ref p2)) s12 kpG dkG gD (DdL.set (.tup upd_same (.cons (.str _) (.cons (.tup (s2 p1 _ upd_same) (.cons (.str _) .nil)) .nil))) at' (hL.same s12)) (fun y hy => by
      rcases List.mem_or_eq_of_mem_set hy with h | h
      · exact hw y h
      · rw [h]
        exact wf_mk hz oL) (by rw [List.length_set]; exact h1) (by rw [List.length_set]; exact h2)
  clear kpG dkG gD hL hw h1 h2
  obtain ⟨ys, us, rfl, kpG, dkG, gD, hL, hw, h1, h2⟩ := c
  refine ⟨Cut, ?_, fun σ G c => ?_⟩
  · refine ⟨_, rfl, rfl, _, rfl, ite2 (fun _ => ?_) (fun _ => ⟨ys, us, rfl, kpG, dkG, gD, hL, hw, h1, h2⟩)⟩
    have hi : at' < ys.length := by omega
    obtain ⟨u, hu, ry⟩ := hL.get' (List.getElem?_eq_getElem hi)
    have my := hw _ (List.getElem_mem hi)
    have lu := hL.len
    obtain ⟨oy, z, r, ey, hz⟩ := my
    rw [ey] at ry
    obtain ⟨b, v0, v1, rfl, hb, hv0, hv1⟩ := Dd.tup2 ry
    cases hv0
    refine ⟨_, rfl, _, rfl, D, _, _, _, rfl, rfl, SqL.of gD, atI_nat hu, b, _, _, _, rfl, rfl, SqT.of hb, atI_nat (j := 0) rfl, t1, fun p1 n1 => ⟨t1, fun p2 n2 => ⟨t3, fun p3 n3 => ⟨t2, fun p4 n4 => ?_⟩⟩⟩⟩
    have s1 := newS (o := .tup [V.str "num"]) n1
    have s2 := newS (o := .tup [V.str "num"]) n2
    have s3 := newS (o := .tup [V.str "fun", .ref p1, .ref p2]) n3
    have s4 := newS (o := .tup [V.str z, .ref p3]) n4
    have s12 := s1.trans (s2.trans (s3.trans s4))
    refine ⟨_, rfl, _, rfl, D, us, _, at', rfl, rfl, s12 _ _ gD, by unfold ixN; rw [if_pos (by omega), if_pos (by omega)]; rfl, ?_⟩
    exact chg G _ us ys (ys.set at' (.tup [.str z, .tup [.str "fun", .tup [.str "num"], .tup [.str "num"]]])) (us.set at' (.ref p4)) s12 kpG dkG gD (DdL.set (.tup upd_same (.cons (.str _) (.cons (.tup (s4 p3 _ upd_same) (.cons (.str _) (.cons (.tup ((s2.trans (s3.trans s4)) p1 _ upd_same) (.cons (.str _) .nil)) (.cons (.tup ((s3.trans s4) p2 _ upd_same) (.cons (.str _) .nil)) .nil)))) .nil))) at' (hL.same s12)) (fun y hy => by
      rcases List.mem_or_eq_of_mem_set hy with h | h
      · exact hw y h
      · rw [h]
        exact wf_mk hz oF) (by rw [List.length_set]; exact h1) (by rw [List.length_set]; exact h2)
  clear kpG dkG gD hL hw h1 h2
  obtain ⟨ys, us, rfl, kpG, dkG, gD, hL, hw, h1, h2⟩ := c
  refine ⟨_, rfl, D, _, rfl, .inl ⟨SqL.of gD, fun p1 n1 => ⟨t3, fun p2 n2 => ?_⟩⟩⟩
  have s1 := newS (o := .tup us) n1
  have s2 := newS (o := .tup [V.str "told", .str "x", .ref p1]) n2
  have s12 := s1.trans s2
  refine q _ (.tup [.str "told", .str "x", .tup ys]) _ (kpG.trans (Kp.of s12)) (dkG.same s12) (.tup upd_same (.cons (.str _) (.cons (.str _) (.cons (.tup (s2 p1 _ upd_same) (hL.same s12)) .nil)))) ⟨?_, ?_⟩
  · refine loc_tup.mpr ⟨Nat.le_of_ble_eq_true rfl, fun y hy => ?_⟩
    simp only [List.mem_cons, List.not_mem_nil, or_false] at hy
    rcases hy with rfl | rfl | rfl
    · exact loc_str.mpr (ascLit (by decide +kernel) (by decide +kernel))
    · exact loc_str.mpr (ascLit (by decide +kernel) (by decide +kernel))
    · exact loc_tup.mpr ⟨by omega, fun y hy => Dt.loc_up (by decide) (Nat.le_refl _) (hw y hy).1.lo⟩
  · have := dps_le' (n := 3) fun y hy => (hw y hy).1.dp
    simp only [Dt.dp, Dt.dps]
    omega
end
end Kq

namespace Kq
open PySem PySem.Spec PyProof.Rows L2 Kf Kg Kv GxR RZ Ki
abbrev tGreat : Stmt := tp 52
theorem ixLK {X : Cx} (K : PySem.W.Frag) (h : X.K = K) : IxR X (rIxL K) := by
  subst h
  exact ix_list
theorem rgc2 : ∀ j : Fin 7, RgC 0 (((2 ^ (j.val + 1) : Nat)) : Int) 2 (2 ^ j.val) := by
  intro j
  have h : ∀ j : Fin 7, Builtin.Range.small 0 (((2 ^ (j.val + 1) : Nat)) : Int) 2 = true ∧ Builtin.Range.rangeSize 0 (((2 ^ (j.val + 1) : Nat)) : Int) 2 = 2 ^ j.val := by decide +kernel
  exact ⟨by decide, by decide, (h j).1, (h j).2⟩
theorem pow7 : ∀ j : Fin 8, 1 ≤ 2 ^ j.val ∧ 2 ^ j.val ≤ 128 ∧ ((2 : Nat) ^ j.val = 1 → j.val = 0) := by decide +kernel
section
variable {P : Program} {w : World} {K : PySem.W.Frag} {mg : Str → Option Value} {base : Heap}
abbrev nGreat : List Str := ["_law_deck_here", "_law_k", "_law_items", "_law_word"]
theorem scGreat : FnScope nGreat ["_law_deck_here"] (defScope tGreat) := ⟨rfl, rfl, rfl, by decide +kernel, rfl, by decide +kernel, by decide +kernel⟩
theorem okGreat {f fD : Addr} {fd fdD : FuncData} {k : Nat} (F : Fun K "_law_great" "_law_great" tGreat f fd)
    (GD : FnOk P w K mg base CX0 k fD fdD ["_law_deck_here", "_law_most"] spDraw) (bD : Binds K fdD ["_law_deck_here", "_law_most"] []) (gD : mg "_law_draw" = some (.ref fD)) (kD : PySem.W.keepIn K (.ref fD) = true)
    (mr : mg "range" = none) (ml : mg "len" = none) : FnOk P w K mg base CX0 (k + 1) f fd ["_law_deck_here"] (spMade 20 30) := by
  refine F.ok scGreat (fun vs H Q E h => ?_) (fun cdv A outer s H vs Q E hr h => ?_)
  · obtain ⟨d, c, rfl, _⟩ := h
    rfl
  obtain ⟨d, c, rfl, dk, q⟩ := h
  refine ⟨_, pss_cons (ps_set (i := 2) scGreat.nd rfl (.inr rfl) (pe_lc (own := [("_law_k", 1)]) (g := gName 1) (by rfl) scGreat.nd (pi_range1 (by rfl) mr (pa_cons pe_int pa_nil)) (blkOk_by (own := [("_law_k", 1)]) (N := nGreat) (sc := defScope tGreat) (by decide +kernel))
      (fun _ _ _ _ _ => pg_name (i := 1) scGreat.nd rfl (.inl rfl)) (fun _ _ _ _ _ => pts_nil) (fun _ _ _ _ _ => pe_tup (pa_cons pe_str (pa_cons (pv 1) pa_nil)))))
    (pss_cons (ps_asg (pe_ix ix_list (pe_lst (pa_cons (pe_tup (pa_cons pe_str (pa_cons pe_int pa_nil))) (pa_cons (pe_tup (pa_cons pe_str (pa_cons pe_int pa_nil))) (pa_cons (pe_tup (pa_cons pe_str (pa_cons (pe_un un_neg pe_int) pa_nil))) (pa_cons (pe_tup (pa_cons pe_str (pa_cons pe_int pa_nil))) pa_nil))))) (pe_call GD hr (by rfl) gD kD bD .nil pass0 (pa_cons (pv 0) (pa_cons pe_int pa_nil))) (fun _ _ => rfl))
      (pg_sub (pv 2) (pe_call GD hr (by rfl) gD kD bD .nil pass0 (pa_cons (pv 0) (pa_cons pe_int pa_nil))) set_list))
    (pss_cons (ps_while PassesOwn.never (pt_cmpR op_gt (pe_callB call_len_seq (by rfl) ml PySem.boot_len (pa_cons (pv 2) pa_nil)) pe_int (nomark _))
      (pss_cons (ps_set (i := 3) scGreat.nd rfl (.inr rfl) (pe_ix ix_list (pe_lst (pa_cons pe_str (pa_cons pe_str (pa_cons pe_str pa_nil)))) (pe_call GD hr (by rfl) gD kD bD .nil pass0 (pa_cons (pv 0) (pa_cons pe_int pa_nil))) (fun _ _ => rfl)))
      (pss_one (ps_set (i := 2) scGreat.nd rfl (.inr rfl) (pe_lc (own := [("_law_k", 1)]) (g := gName 1) (by rfl) scGreat.nd (pi_range3 (by rfl) mr (pa_cons pe_int (pa_cons (pe_callB call_len_seq (by rfl) ml PySem.boot_len (pa_cons (pv 2) pa_nil)) (pa_cons pe_int pa_nil)))) (blkOk_by (own := [("_law_k", 1)]) (N := nGreat) (sc := defScope tGreat) (by decide +kernel))
        (fun _ _ _ _ _ => pg_name (i := 1) scGreat.nd rfl (.inl rfl)) (fun _ _ _ _ _ => pts_nil) (fun _ _ _ _ _ => pe_tup (pa_cons (pv 3) (pa_cons (pe_ix (ixLK K rfl) (pv 2) (pv 1) (fun _ _ => rfl)) (pa_cons (pe_ix (ixLK K rfl) (pv 2) (pe_op op_add (pv 1) pe_int) (fun _ _ => rfl)) pa_nil)))))))))
    (pss_one (ps_ret (pe_ix ix_list (pv 2) pe_int (fun _ _ => rfl)))))), ?_⟩
  have t2 : 2 ≤ sizeLine := by decide
  have t1 : 1 ≤ sizeLine := by decide
  have t3 : 3 ≤ sizeLine := by decide
  have e0 : sizeLine = 16777216 := rfl
  have an : Asc 20 ("num" : Str) := ascLit (by decide +kernel) (by decide +kernel)
  have eBO : BO = 10 ^ 40 := rfl
  refine ⟨128, rfl, by decide, by decide, fun D nD => ?_⟩
  have offD := dk.off nD
  refine lc_range (lo := 0) (n := 128) (fun i G => Kp d c H G ∧ Dk G d c ∧ ∃ (ys : List Dt) (us : List V), G D = some (.lst us) ∧ DdL Non G ys us ∧ (∀ y ∈ ys, Oth 20 BO 1 y) ∧ ys.length = i) ⟨Kp.rfl.mk nD, dk.put offD.1 offD.2, [], [], upd_same, .nil, (fun _ z => absurd z List.not_mem_nil), rfl⟩ (fun i G hi z => ?_) (fun G z => ?_)
  · obtain ⟨kpG, dkG, ys, us, gD, hL, hw, hl⟩ := z
    have lu := hL.len
    refine ⟨rfl, _, rfl, t2, fun p np => ?_⟩
    have s1 := newS (o := .tup [V.str "num", .int (0 + (i : Int))]) np
    have gD2 := s1 _ _ gD
    refine ⟨us, gD2, by omega, (kpG.trans (Kp.of s1)).mk nD, (dkG.same s1).put offD.1 offD.2, ys ++ [.tup [.str "num", .int (0 + (i : Int))]], us ++ [.ref p], upd_same, ?_, fun y hy => ?_, ?_⟩
    · have kD : Kn Non (upd G p (.tup [V.str "num", .int (0 + (i : Int))])) (upd (upd G p (.tup [V.str "num", .int (0 + (i : Int))])) D (.lst (us ++ [.ref p]))) := Kn.rfl.put (fun z => z) (fun ps z => by rw [gD2] at z; cases z)
      have r1 : Dd Non (upd G p (.tup [V.str "num", .int (0 + (i : Int))])) (.tup [.str "num", .int (0 + (i : Int))]) (.ref p) := .tup upd_same (.cons (.str _) (.cons (.int _) .nil))
      exact ((hL.same s1).kn kD).app (.cons (r1.kn kD) .nil)
    · rcases List.mem_append.mp hy with z | z
      · exact hw y z
      · rw [List.mem_singleton.mp z]
        exact oth2 (n := 0) an (oth_int (by omega)) (by decide)
    · rw [List.length_append, hl]
      rfl
  obtain ⟨kpG, dkG, ys, us, gD, hL, hw, hl⟩ := z
  -- one of them otherwise
  refine ⟨t2, fun p1 n1 => ⟨t2, fun p2 n2 => ⟨_, rfl, t2, fun p3 n3 => ⟨t2, fun p4 n4 => ⟨(by show 4 ≤ sizeLine; decide), fun l nl => ?_⟩⟩⟩⟩⟩
  have s1 := newS (o := .tup [V.str "num", .int 7]) n1
  have s2 := newS (o := .tup [V.str "num", .int 7]) n2
  have s3 := newS (o := .tup [V.str "num", .int (-1)]) n3
  have s4 := newS (o := .tup [V.str "truth", .int 1]) n4
  have s5 := newS (o := .lst [V.ref p1, .ref p2, .ref p3, .ref p4]) nl
  have w4 := s4.trans s5
  have w3 := s3.trans w4
  have w2 := s2.trans w3
  have w1 := s1.trans w2
  have r1 : Dd Non _ (.tup [.str "num", .int 7]) (.ref p1) := .tup (w2 p1 _ upd_same) (.cons (.str _) (.cons (.int _) .nil))
  have r2 : Dd Non _ (.tup [.str "num", .int 7]) (.ref p2) := .tup (w3 p2 _ upd_same) (.cons (.str _) (.cons (.int _) .nil))
  have r3 : Dd Non _ (.tup [.str "num", .int (-1)]) (.ref p3) := .tup (w4 p3 _ upd_same) (.cons (.str _) (.cons (.int _) .nil))
  have r4 : Dd Non _ (.tup [.str "truth", .int 1]) (.ref p4) := .tup (s5 p4 _ upd_same) (.cons (.str _) (.cons (.int _) .nil))
  have LL := DdL.cons r1 (.cons r2 (.cons r3 (.cons r4 .nil)))
  have dkA := dkG.same w1
  have offl := (dkG.same (s1.trans (s2.trans (s3.trans s4)))).off nl
  refine ⟨_, rfl, d, c, 4, rfl, dkA, by decide, by decide, fun r G1 a0 a1 kp1 dk1 => ?_⟩
  have LL1 := LL.kn (Kn.tk (Tk.kp kp1 dkA))
  obtain ⟨u, y, e1, my, hy⟩ := uat LL1 a0 a1
  have oy : Oth 20 BO 1 y := by
    simp only [List.mem_cons, List.not_mem_nil, or_false] at my
    rcases my with rfl | rfl | rfl | rfl
    · exact oth2 (n := 0) an (oth_int (by decide +kernel)) (by decide)
    · exact oth2 (n := 0) an (oth_int (by decide +kernel)) (by decide)
    · exact oth2 (n := 0) an (oth_int (by decide +kernel)) (by decide)
    · exact oth2 (n := 0) (ascLit (by decide +kernel) (by decide +kernel)) (oth_int (by decide +kernel)) (by decide)
  have gD1 := kp1 D _ offD.1 offD.2 (w1 _ _ gD)
  have gl := kp1 l _ offl.1 offl.2 (upd_same (o := .lst [V.ref p1, .ref p2, .ref p3, .ref p4]))
  refine ⟨l, _, _, _, rfl, rfl, SqL.of gl, e1, _, rfl, _, rfl, d, c, 128, rfl, dk1, by decide, by decide, fun r2 G2 b0 b1 kp2 dk2 => ?_⟩
  have gD2 := kp2 D _ offD.1 offD.2 gD1
  have lu := hL.len
  have hy2 := hy.kn (Kn.tk (Tk.kp kp2 dk1))
  have hL2 := (hL.same w1).kn ((Kn.tk (Tk.kp kp1 dkA)).trans (Kn.tk (Tk.kp kp2 dk1)))
  obtain ⟨j2, rfl⟩ : ∃ j : Nat, r2 = (j : Int) := ⟨r2.toNat, by omega⟩
  have hl128 : us.length = 128 := by omega
  refine ⟨D, _, _, j2, rfl, rfl, gD2, by unfold ixN; rw [if_pos (by omega), if_pos (by omega)]; rfl, ?_⟩
  have kD : Kn Non G2 (upd G2 D (.lst (us.set j2 u))) := Kn.rfl.put (fun z => z) (fun ps z => by rw [gD2] at z; cases z)
  have kpB : Kp d c H (upd G2 D (.lst (us.set j2 u))) := (((kpG.trans (Kp.of w1)).trans kp1).trans kp2).mk nD
  have dkB : Dk (upd G2 D (.lst (us.set j2 u))) d c := dk2.put offD.1 offD.2
  have hLB : DdL Non (upd G2 D (.lst (us.set j2 u))) (ys.set j2 y) (us.set j2 u) := DdL.set (hy2.kn kD) j2 (hL2.kn kD)
  have hwB : ∀ z ∈ ys.set j2 y, Oth 20 BO 1 z := fun z hz => by
    rcases List.mem_or_eq_of_mem_set hz with h | h
    · exact hw z h
    · rw [h]
      exact oy
  have hlB : (ys.set j2 y).length = 2 ^ 7 := by
    rw [List.length_set, hl]
  generalize hGB : upd G2 D (.lst (us.set j2 u)) = GB at kpB dkB hLB
  have gDB : GB D = some (.lst (us.set j2 u)) := by rw [← hGB, upd_same]
  generalize ys.set j2 y = ys2 at hLB hwB hlB
  generalize us.set j2 u = us2 at hLB gDB
  clear hGB
  let Iv : Nat → L2.St → Hp → Prop := fun m σ G => ∃ (y1 y3 : Option V) (D : Addr) (ys : List Dt) (us : List V), m ≤ 7 ∧ D ≠ d ∧ D ≠ c ∧ σ = [some (.ref d), y1, some (.ref D), y3] ∧ Kp d c H G ∧ Dk G d c ∧ G D = some (.lst us) ∧ DdL Non G ys us ∧ (∀ y ∈ ys, Oth 20 BO (8 - m) y) ∧ ys.length = 2 ^ m
  refine ⟨Iv, ⟨7, _, _, D, ys2, us2, Nat.le_refl _, offD.1, offD.2, rfl, kpB, dkB, gDB, hLB, hwB, hlB⟩, fun m σ G z => ?_⟩
  clear kpB dkB hLB hwB hlB gDB
  obtain ⟨y1, y3, D', ys, us, hm, od', oc', rfl, kpG, dkG, gD, hL, hw, hl⟩ := z
  have lu := hL.len
  have pw := pow7 ⟨m, by omega⟩
  simp only at pw
  refine ⟨_, rfl, D', _, rfl, .inl (SqL.of gD), _, _, rfl, rfl, _, rfl, ite2 (fun e => ?_) (fun e => ?_)⟩
  · have e2 : 1 < us.length := by
      have := of_decide_eq_true e
      omega
    obtain ⟨j, rfl⟩ : ∃ j, m = j + 1 := by
      cases m with
      | zero =>
        have : us.length = 1 := by rw [← lu, hl]
        omega
      | succ j => exact ⟨j, rfl⟩
    refine ⟨fun σ' G' => ∃ m', m' < j + 1 ∧ Iv m' σ' G', fun σ' G' z => z, ?_⟩
    refine ⟨t3, fun lw nlw => ?_⟩
    have sw := newS (o := .lst [V.str "pair", .str "plus", .str "call"]) nlw
    have offw := dkG.off nlw
    refine ⟨_, rfl, d, c, 3, rfl, dkG.same sw, by decide, by decide, fun r G1 a0 a1 kp1 dk1 => ?_⟩
    obtain ⟨wd, ew, aw⟩ : ∃ wd : Str, atI [V.str "pair", V.str "plus", V.str "call"] r = some (.str wd) ∧ Asc 20 wd := by
      have er : r = 0 ∨ r = 1 ∨ r = 2 := by omega
      rcases er with rfl | rfl | rfl
      · exact ⟨_, rfl, ascLit (by decide +kernel) (by decide +kernel)⟩
      · exact ⟨_, rfl, ascLit (by decide +kernel) (by decide +kernel)⟩
      · exact ⟨_, rfl, ascLit (by decide +kernel) (by decide +kernel)⟩
    have gw1 := kp1 lw _ offw.1 offw.2 (upd_same (o := .lst [V.str "pair", .str "plus", .str "call"]))
    have gD1 := kp1 D' _ od' oc' (sw _ _ gD)
    have hL1 := (hL.same sw).kn (Kn.tk (Tk.kp kp1 (dkG.same sw)))
    refine ⟨lw, _, _, _, rfl, rfl, SqL.of gw1, ew, ?_⟩
    have kpC := (kpG.trans (Kp.of sw)).trans kp1
    have rg := rgc2 ⟨j, by omega⟩
    have pj := pow7 ⟨j, by omega⟩
    simp only at rg pj
    have e2j : (2 : Nat) ^ (j + 1) = 2 * 2 ^ j := by rw [Nat.pow_succ, Nat.mul_comm]
    have el : ((us.length : Nat) : Int) = ((2 ^ (j + 1) : Nat) : Int) := by rw [← lu, hl]
    refine ⟨_, rfl, D', _, rfl, .inl (SqL.of gD1), 0, _, 2, 2 ^ j, rfl, by rw [el]; exact rg, fun E nE => ?_⟩
    have offE := dk1.off nE
    have nEH := kpC.free dk1 nE
    have DE : D' ≠ E := ne_of_none gD1 nE
    refine lc_it (walk_rangeC (lo := 0) (c := 2) (n := 2 ^ j)) (fun i F => Kp d c H F ∧ Dk F d c ∧ F D' = some (.lst us) ∧ DdL Non F ys us ∧ ∃ (zs : List Dt) (vs : List V), F E = some (.lst vs) ∧ DdL Non F zs vs ∧ (∀ y ∈ zs, Oth 20 BO (8 - j) y) ∧ zs.length = i) ⟨kpC.mk nEH, dk1.put offE.1 offE.2, by rw [upd_ne DE]; exact gD1, hL1.kn (Kn.rfl.new nE), [], [], upd_same, .nil, (fun _ z => absurd z List.not_mem_nil), rfl⟩ (fun _ _ _ _ => trivial) (fun i x F F' hi z yy => ?_) (fun F z => ?_)
    · obtain ⟨kpF, dkF, gF, hLF, zs, vs, gE, hZ, hwz, hlz⟩ := z
      obtain ⟨rfl, rfl⟩ := yy
      have lz := hZ.len
      have i0 : 2 * i < ys.length := by rw [hl, e2j]; omega
      have i1 : 2 * i + 1 < ys.length := by rw [hl, e2j]; omega
      obtain ⟨u0, hu0, r0⟩ := hLF.get' (List.getElem?_eq_getElem i0)
      obtain ⟨u1, hu1, r1⟩ := hLF.get' (List.getElem?_eq_getElem i1)
      have o0 := hw _ (List.getElem_mem i0)
      have o1 := hw _ (List.getElem_mem i1)
      have ez : (0 : Int) + (i : Int) * 2 = ((2 * i : Nat) : Int) := by omega
      have ez1 : (0 : Int) + (i : Int) * 2 + 1 = ((2 * i + 1 : Nat) : Int) := by omega
      refine ⟨rfl, _, rfl, _, rfl, _, rfl, D', _, _, u0, rfl, rfl, SqL.of gF, ?_, _, rfl, _, rfl, _, _, rfl, rfl, D', _, _, u1, rfl, rfl, SqL.of gF, ?_, t3, fun p np => ?_⟩
      · rw [ez]
        exact atI_nat hu0
      · rw [ez1]
        exact atI_nat hu1
      have sp := newS (o := .tup [V.str wd, u0, u1]) np
      have gE2 := sp _ _ gE
      have kE : Kn Non (upd F' p (.tup [V.str wd, u0, u1])) (upd (upd F' p (.tup [V.str wd, u0, u1])) E (.lst (vs ++ [.ref p]))) := Kn.rfl.put (fun z => z) (fun ps z => by rw [gE2] at z; cases z)
      refine ⟨vs, gE2, by omega, (kpF.trans (Kp.of sp)).mk nEH, (dkF.same sp).put offE.1 offE.2, by rw [upd_ne DE]; exact sp _ _ gF, (hLF.same sp).kn kE, zs ++ [.tup [.str wd, ys[2 * i], ys[2 * i + 1]]], vs ++ [.ref p], upd_same, ?_, fun y hy => ?_, ?_⟩
      · have r2 : Dd Non (upd F' p (.tup [V.str wd, u0, u1])) (.tup [.str wd, ys[2 * i], ys[2 * i + 1]]) (.ref p) := .tup upd_same (.cons (.str _) (.cons (r0.same sp) (.cons (r1.same sp) .nil)))
        exact ((hZ.same sp).kn kE).app (.cons (r2.kn kE) .nil)
      · rcases List.mem_append.mp hy with z | z
        · exact hwz y z
        · rw [List.mem_singleton.mp z]
          exact (oth3 aw o0 o1 (by decide)).up (Nat.le_refl _) (Nat.le_refl _) (by omega)
      · rw [List.length_append, hlz]
        rfl
    · obtain ⟨kpF, dkF, gF, hLF, zs, vs, gE, hZ, hwz, hlz⟩ := z
      exact ⟨j, Nat.lt_succ_self _, _, _, E, zs, vs, by omega, offE.1, offE.2, rfl, kpF, dkF, gE, hZ, hwz, hlz⟩
  · have e2 : ¬ ((us.length : Nat) : Int) > 1 := fun z => e (decide_eq_true z)
    have h1 : ys.length = 1 := by omega
    have hm0 := pw.2.2 (by rw [← hl]; exact h1)
    obtain ⟨u, hu, ry⟩ := hL.get' (List.getElem?_eq_getElem (show 0 < ys.length by omega))
    have oy := hw _ (List.getElem_mem (show 0 < ys.length by omega))
    exact ⟨_, rfl, D', _, _, _, rfl, rfl, SqL.of gD, atI_nat (j := 0) hu, q u _ G kpG dkG ry (oy.up (Nat.le_refl _) (Nat.le_refl _) (by omega))⟩
end
end Kq

namespace Kq
open PySem PySem.Spec PyProof.Rows L2 Kf Kg Kv GxR RZ Ki
abbrev tLaw : Stmt := tp 53
theorem isn {p b : Bool} {A B : Prop} (h : p = b) (k : B) : if (!decide (p = b)) = true then A else B := by
  rw [decide_eq_true h]
  exact k
theorem TbS.kp {T : List Addr} {H G : Hp} {d c : Addr} (t : TbS T H) (k : Kp d c H G) (x : Dk H d c) : TbS T G := fun p hp => by
  obtain ⟨ps, h1, h2⟩ := t p hp
  obtain ⟨_, ⟨_, _, hd⟩, ⟨_, hc, _⟩⟩ := x
  exact ⟨ps, k p _ (fun z => by rw [z, hd] at h1; cases h1) (fun z => by rw [z, hc] at h1; cases h1) h1, h2⟩
theorem TbS.kl {T : List Addr} {H G : Hp} {d c l : Addr} {xs : List V} (t : TbS T H) (k : Kl d c l H G) (x : Dk H d c) (hl : H l = some (.lst xs)) : TbS T G := fun p hp => by
  obtain ⟨ps, h1, h2⟩ := t p hp
  obtain ⟨_, ⟨_, _, hd⟩, ⟨_, hc, _⟩⟩ := x
  exact ⟨ps, k p _ (fun z => by rw [z, hd] at h1; cases h1) (fun z => by rw [z, hc] at h1; cases h1) (fun z => by rw [z, hl] at h1; cases h1) h1, h2⟩
theorem TbS.kb {T : List Addr} {H G : Hp} {k : Addr} (t : TbS T H) (kb : Kb k H G) (p : Pk H k) : TbS T G := fun a ha => by
  obtain ⟨ps, h1, h2⟩ := t a ha
  obtain ⟨ns, e⟩ := p
  exact ⟨ps, kb a _ (fun z => by rw [z, e] at h1; cases h1) h1, h2⟩
theorem Dk.sm {T : List Addr} {H G : Hp} {d c : Addr} (x : Dk H d c) (t : TbS T H) (s : Sm T H G) : Dk G d c := by
  obtain ⟨n, ⟨a, b, e⟩, ⟨ns, f, l⟩⟩ := x
  exact ⟨n, ⟨a, b, s.at t e (fun _ z => by cases z)⟩, ⟨ns, s.at t f (fun _ z => by cases z), l⟩⟩
theorem Dk.kb {H G : Hp} {d c k : Addr} (x : Dk H d c) (kb : Kb k H G) (h1 : d ≠ k) (h2 : c ≠ k) : Dk G d c := by
  obtain ⟨n, ⟨a, b, e⟩, ⟨ns, f, l⟩⟩ := x
  exact ⟨n, ⟨a, b, kb _ _ h1 e⟩, ⟨ns, kb _ _ h2 f, l⟩⟩
theorem kn_kp {N : Addr → Prop} {H G : Hp} {d c : Addr} (k : Kp d c H G) (dk : Dk H d c) (h : ∀ b, N b → b ≠ d ∧ b ≠ c) : Kn N H G :=
  ⟨Tk.kp k dk, fun b xs n e => k b _ (h b n).1 (h b n).2 e, fun b xs n e => k b _ (h b n).1 (h b n).2 e⟩
theorem Kb.knN {k : Addr} {H G : Hp} (a : Kb k H G) (p : Pk H k) : Kn Non H G := (a.kn p).sub fun _ n => n.elim
/-- the lists of picks -/
structure Pks (d c D : Addr) (ks : List Addr) (G : Hp) : Prop where
  at_ : G D = some (.lst (ks.map V.ref))
  nd : ks.Nodup
  pk : ∀ k ∈ ks, Pk G k ∧ k ≠ d ∧ k ≠ c ∧ k ≠ D
/-- what stays -/
structure Lq (T : List Addr) (d c D : Addr) (ks : List Addr) (x : Dt) (v : V) (G : Hp) : Prop where
  dk : Dk G d c
  tb : TbS T G
  pks : Pks d c D ks G
  tm : Dd Non G x v
theorem Pks.same {d c D : Addr} {ks : List Addr} {H G : Hp} (p : Pks d c D ks H) (s : Same H G) : Pks d c D ks G := ⟨s _ _ p.at_, p.nd, fun k hk => ⟨(p.pk k hk).1.same s, (p.pk k hk).2⟩⟩
theorem Pks.kp {d c D : Addr} {ks : List Addr} {H G : Hp} (p : Pks d c D ks H) (s : Kp d c H G) (h1 : D ≠ d) (h2 : D ≠ c) : Pks d c D ks G := ⟨s _ _ h1 h2 p.at_, p.nd, fun k hk => by
  obtain ⟨⟨ns, e⟩, a, b, c'⟩ := p.pk k hk
  exact ⟨⟨ns, s _ _ a b e⟩, a, b, c'⟩⟩
theorem Pks.kl {d c D l : Addr} {ks : List Addr} {H G : Hp} (p : Pks d c D ks H) (s : Kl d c l H G) (h1 : D ≠ d) (h2 : D ≠ c) (h3 : D ≠ l) (h4 : ∀ k ∈ ks, k ≠ l) : Pks d c D ks G := ⟨s _ _ h1 h2 h3 p.at_, p.nd, fun k hk => by
  obtain ⟨⟨ns, e⟩, a, b, c'⟩ := p.pk k hk
  exact ⟨⟨ns, s _ _ a b (h4 k hk) e⟩, a, b, c'⟩⟩
theorem Lq.sm {T : List Addr} {d c D : Addr} {ks : List Addr} {x : Dt} {v : V} {H G : Hp} (l : Lq T d c D ks x v H) (s : Sm T H G) : Lq T d c D ks x v G := ⟨l.dk.sm l.tb s, s.2, ⟨s.at l.tb l.pks.at_ (fun _ z => by cases z), l.pks.nd, fun k hk => by
  obtain ⟨⟨ns, e⟩, r⟩ := l.pks.pk k hk
  exact ⟨⟨ns, s.at l.tb e (fun _ z => by cases z)⟩, r⟩⟩, l.tm.kn (s.kn l.tb)⟩
theorem Lq.kb {T : List Addr} {d c D : Addr} {ks : List Addr} {x : Dt} {v : V} {H G : Hp} {k : Addr} (l : Lq T d c D ks x v H) (hk : k ∈ ks) (s : Kb k H G) (p : Pk G k) : Lq T d c D ks x v G := by
  obtain ⟨pk, h1, h2, h3⟩ := l.pks.pk k hk
  refine ⟨l.dk.kb s (Ne.symm h1) (Ne.symm h2), TbS.kb l.tb s pk, ⟨s _ _ (Ne.symm h3) l.pks.at_, l.pks.nd, fun j hj => ?_⟩, l.tm.kn (s.knN pk)⟩
  obtain ⟨⟨ns, e⟩, r⟩ := l.pks.pk j hj
  by_cases z : j = k
  · rw [z]
    exact ⟨p, h1, h2, h3⟩
  · exact ⟨⟨ns, s _ _ z e⟩, r⟩
def tP (E : Ev) (R : Dt → Prop) : TE := fun σ H Q => E.e σ H ∧ ∀ v x G, Same H G → Dd (New H) G x v → R x → Q v G
def tPs (E : Ev) (R : Dt → Prop) (n : Nat) : TA := fun σ H Q => E.e σ H ∧ ∀ vs xs G, Same H G → DdL (New H) G xs vs → (∀ x ∈ xs, R x) → xs.length = n → Q vs G
def tPl (E : Ev) (R : Dt → Prop) (n : Nat) : TE := fun σ H Q => E.e σ H ∧ ∀ v xs G, Same H G → Dd (New H) G (.lst xs) v → (∀ x ∈ xs, R x) → xs.length = n → Q v G
section
variable {X : Cx} {E : Ev} {R : Dt → Prop}
theorem pP_T {e : Expr} {x : Dt} (h : PE X e (tT E x)) (r : R x) : PE X e (tP E R) := weak h fun σ H Q q => ⟨q.1, fun v G s hv => q.2 v x G s hv r⟩
theorem pPs_nil : PA X [] (tPs E R 0) := weakA pa_nil fun σ H Q q => q.2 [] [] H (Same.refl H) .nil (fun _ z => nomatch z) rfl
theorem pPs_cons {e : Expr} {es : List Expr} {n : Nat} (ha : PE X e (tP E R)) (hr : PA X es (tPs E R n)) (hs : starEach (e :: es) X.env = (false, eval e X.env) :: starEach es X.env := by rfl) : PA X (e :: es) (tPs E R (n + 1)) :=
  weakA (pa_cons ha hr hs) fun σ H Q q => ⟨q.1, fun v x G s hv r => ⟨E.cl _ _ _ q.1 s, fun vs xs G2 s2 hvs rs hl => q.2 _ (x :: xs) _ (s.trans s2) (.cons (hv.same s2) (hvs.at fun b u n _ => s.free n)) (fun y hy => by
    rcases List.mem_cons.mp hy with rfl | hy
    · exact r
    · exact rs y hy) (by rw [List.length_cons, hl])⟩⟩
theorem pP_lst {es : List Expr} {n : Nat} {pos : Pos} (h : PA X es (tPs E R n)) (hl : n ≤ 1000 := by decide) : PE X (.List es pos) (tPl E R n) :=
  weak (pe_lst h) fun σ H Q q => ⟨q.1, fun vs xs G s hd rs hn => ⟨by rw [← hd.len, hn]; exact Nat.le_of_lt (small1000 hl), fun p np => q.2 _ xs _ (s.trans (newS np)) (.lst (s.free np) upd_same (hd.same (newS np))) rs hn⟩⟩
theorem pT_emp {pos : Pos} : PE X (.Dict [] [] pos) (tT E (.dct [])) := pT_of pe_dnewK fun σ H Q _ q => fun d hd => q _ _ (newS hd) (.dct hd upd_same)
end
def ev1 : Ev := ⟨fun _ _ => True, fun _ _ _ _ _ => trivial⟩
theorem Pks.put {d c D p : Addr} {ks : List Addr} {o : HO} {G : Hp} (h : Pks d c D ks G) (h1 : p ≠ D) (h2 : p ∉ ks) : Pks d c D ks (upd G p o) := ⟨by rw [upd_ne (Ne.symm h1)]; exact h.at_, h.nd, fun k hk => by
  obtain ⟨⟨ns, e⟩, r⟩ := h.pk k hk
  exact ⟨⟨ns, by rw [upd_ne (fun z => h2 (by rw [← z]; exact hk))]; exact e⟩, r⟩⟩
theorem TbS.put {T : List Addr} {G : Hp} {p : Addr} {o : HO} {xs : List V} (t : TbS T G) (h : G p = some (.lst xs)) : TbS T (upd G p o) := fun a ha => by
  obtain ⟨ps, h1, h2⟩ := t a ha
  exact ⟨ps, by rw [upd_ne (fun z => by rw [z, h] at h1; cases h1)]; exact h1, h2⟩
theorem TbS.nw {T : List Addr} {G : Hp} {p : Addr} {o : HO} (t : TbS T G) (h : G p = none) : TbS T (upd G p o) := t.same (newS h)
theorem three {i : Nat} (h : i < 3) : ∃ g : Nat, atI [V.int 3, V.int 7, V.int 13] ((0 : Int) + (i : Int)) = some (.int (g : Int)) ∧ 1 ≤ g ∧ g ≤ 13 := by
  have : i = 0 ∨ i = 1 ∨ i = 2 := by omega
  rcases this with rfl | rfl | rfl
  · exact ⟨3, rfl, by decide, by decide⟩
  · exact ⟨7, rfl, by decide, by decide⟩
  · exact ⟨13, rfl, by decide, by decide⟩
theorem tens {r : Int} (h0 : 0 ≤ r) (h1 : r < 3) : ∃ g : Int, atI [V.int 10, V.int 25, V.int 70] r = some (.int g) ∧ g ≤ 70 := by
  have : r = 0 ∨ r = 1 ∨ r = 2 := by omega
  rcases this with rfl | rfl | rfl
  · exact ⟨10, rfl, by decide⟩
  · exact ⟨25, rfl, by decide⟩
  · exact ⟨70, rfl, by decide⟩
theorem oS : Oth 20 BO 2 (.str "name x") := oStr (by decide +kernel) (by decide +kernel)
theorem oN1 : Oth 20 BO 2 (.tup [.str "name"]) := oStr1 (by decide +kernel) (by decide +kernel)
theorem oT1n : Oth 20 BO 2 (.tup [.tup [.str "name", .str "x"]]) := ⟨loc_tup.mpr ⟨Nat.le_of_ble_eq_true rfl, fun y hy => by
  rw [List.mem_singleton.mp hy]
  exact (oStr2 (by decide +kernel) (by decide +kernel) (by decide +kernel) (by decide +kernel)).lo⟩, by simp only [Dt.dp, Dt.dps]; omega⟩
def scOut : Scope := { kind := .function, names := [((".0" : Str), NameKind.local), (("_law_again" : Str), NameKind.local), (("range" : Str), NameKind.globalImplicit), (("_law_deck_here" : Str), NameKind.free)], isGenerator := false, isCoroutine := false, more := [] }
theorem rel_free {env : Env} {x : Str} : ∀ {names : List (Str × NameKind)}, names.lookup x = some .free →
    (names.map fun (n, k) => if (k == NameKind.free && env.scope.kind == .function && env.kindOf n == some .cell) then (n, NameKind.cell) else (n, k)).lookup x = some .cell ∨
    (names.map fun (n, k) => if (k == NameKind.free && env.scope.kind == .function && env.kindOf n == some .cell) then (n, NameKind.cell) else (n, k)).lookup x = some .free
  | [], h => by simp at h
  | (n, k) :: r, h => by
    have ih := @rel_free env x r
    rw [List.map_cons, List.lookup_cons] at *
    cases hx : x == n with
    | true =>
      rw [hx] at h
      have hk : k = .free := Option.some.inj h
      subst hk
      dsimp only
      by_cases c : (NameKind.free == NameKind.free && env.scope.kind == .function && env.kindOf n == some .cell) = true
      · rw [if_pos c]
        dsimp only
        rw [hx]
        exact .inl rfl
      · rw [if_neg c]
        dsimp only
        rw [hx]
        exact .inr rfl
    | false =>
      rw [hx] at h
      dsimp only
      by_cases c : (k == NameKind.free && env.scope.kind == .function && env.kindOf n == some .cell) = true
      · rw [if_pos c]
        dsimp only
        rw [hx]
        exact ih h
      · rw [if_neg c]
        dsimp only
        rw [hx]
        exact ih h
theorem blk_in {N : List Str} {scope scope' : Scope} {own : List (Str × Nat)} {cl : List (Str × Addr)} {C : Addr} {env : Env} (h : BlkOk N scope scope' own) (hf : ∀ y ∈ scope'.names, y.2 = .free → scope.names.lookup y.1 = some .free) : BlkOk N (compEnvC scope cl C env).scope scope' own :=
  ⟨h.kind, h.uniq, h.ix, fun y hy e => rel_free (hf y hy e), h.own⟩
section
variable {P : Program} {w : World} {K : PySem.W.Frag} {mg : Str → Option Value} {base : Heap}
abbrev nLaw : List Str := ["_law_script", "_law_deck_here", "_law_turn", "_law_again", "_law_k", "_law_picks", "_law_names_here", "_law_term_here", "_law_some", "_law_twice", "_law_thing", "_law_things"]
theorem scLaw : FnScope nLaw ["_law_script"] (defScope tLaw) := ⟨rfl, rfl, rfl, by decide +kernel, rfl, by decide +kernel, by decide +kernel⟩
def spLaw (K : PySem.W.Frag) (T : List Addr) : Sp := fun vs H Q _ => ∃ (a : Addr) (ns : List Int), vs = [.ref a] ∧ SqL K H a (ns.map V.int) ∧ ns.length ≤ 63 ∧ TbS T H ∧ ∀ G : Hp, Q (.bl true) G
theorem okLaw {f f1 f2 f3 f4 f5 f6 f7 f8 f9 fa fb : Addr} {fd fd1 fd2 fd3 fd4 fd5 fd6 fd7 fd8 fd9 fda fdb : FuncData} {k : Nat} {T : List Addr} (F : Fun K "law" "law" tLaw f fd)
    (G1 : FnOk P w K mg base CX0 k f1 fd1 ["_law_script"] (spDeck K)) (b1 : Binds K fd1 ["_law_script"] []) (g1 : mg "_law_deck" = some (.ref f1)) (k1 : PySem.W.keepIn K (.ref f1) = true)
    (G2 : FnOk P w K mg base CX0 k f2 fd2 psCalled spCalled) (b2 : Binds K fd2 psCalled []) (g2 : mg "_law_called" = some (.ref f2)) (k2 : PySem.W.keepIn K (.ref f2) = true)
    (G3 : FnOk P w K mg base CX0 k f3 fd3 ["_law_deck_here", "_law_most"] spDraw) (b3 : Binds K fd3 ["_law_deck_here", "_law_most"] []) (g3 : mg "_law_draw" = some (.ref f3)) (k3 : PySem.W.keepIn K (.ref f3) = true)
    (G4 : FnOk P w K mg base CX0 k f4 fd4 psTerm (spTerm 13)) (b4 : Binds K fd4 psTerm []) (g4 : mg "_law_term" = some (.ref f4)) (k4 : PySem.W.keepIn K (.ref f4) = true)
    (G5 : FnOk P w K mg base CX0 k f5 fd5 ["_law_picks", "_law_many"] spPick) (b5 : Binds K fd5 ["_law_picks", "_law_many"] []) (g5 : mg "_law_pick" = some (.ref f5)) (k5 : PySem.W.keepIn K (.ref f5) = true)
    (G6 : FnOk P w K mg base CX0 k f6 fd6 psBent (spBent 24)) (b6 : Binds K fd6 psBent []) (g6 : mg "_law_bent" = some (.ref f6)) (k6 : PySem.W.keepIn K (.ref f6) = true)
    (G7 : FnG P w K mg base CX0 k f7 fd7 ["_law_thing"] (spAns T)) (b7 : Binds K fd7 ["_law_thing"] []) (g7 : mg "_law_answers" = some (.ref f7)) (k7 : PySem.W.keepIn K (.ref f7) = true)
    (G8 : FnOk P w K mg base CX0 k f8 fd8 ["thing"] (spYes T trm)) (b8 : Binds K fd8 ["thing"] []) (g8 : mg "is_term" = some (.ref f8)) (k8 : PySem.W.keepIn K (.ref f8) = true)
    (G9 : FnOk P w K mg base CX0 k f9 fd9 ["_law_deck_here"] (spMade 20 30)) (b9 : Binds K fd9 ["_law_deck_here"] []) (g9 : mg "_law_chain" = some (.ref f9)) (k9 : PySem.W.keepIn K (.ref f9) = true)
    (Ga : FnOk P w K mg base CX0 k fa fda ["_law_deck_here"] (spMade 400 30)) (ba : Binds K fda ["_law_deck_here"] []) (ga : mg "_law_wide" = some (.ref fa)) (ka : PySem.W.keepIn K (.ref fa) = true)
    (Gb : FnOk P w K mg base CX0 k fb fdb ["_law_deck_here"] (spMade 20 30)) (bb : Binds K fdb ["_law_deck_here"] []) (gb : mg "_law_great" = some (.ref fb)) (kb : PySem.W.keepIn K (.ref fb) = true)
    (mr : mg "range" = none) : FnG P w K mg base CX0 (k + 1) f fd ["_law_script"] (spLaw K T) := by
  refine okG F scLaw (fun vs H Q E h => ?_) (fun cdv A outer s H vs Q E still hr h => ?_)
  · obtain ⟨a, ns, rfl, _⟩ := h
    rfl
  obtain ⟨a, ns, rfl, hS, hl, tb, q⟩ := h
  refine ⟨_, pss_cons (ps_set (i := 1) scLaw.nd rfl (.inr rfl) (pe_call G1 hr (by rfl) g1 k1 b1 .nil pass0 (pa_cons (pv 0) pa_nil)))
    (pss_cons (ps_for PassesOwn.never rfl (pi_range1 (by rfl) mr (pa_cons pe_int pa_nil)) (pg_name (i := 2) scLaw.nd rfl (.inl rfl))
      (pss_cons (ps_setLc (i := 5) (own := [("_law_again", 3)]) (g := gName 3) (by rfl) scLaw.nd rfl rfl (sw_true rfl rfl rfl (by decide +kernel)) (pi_range1 (by rfl) mr (pa_cons pe_int pa_nil)) (blkOk_by (own := [("_law_again", 3)]) (N := nLaw) (sc := defScope tLaw) (by decide +kernel))
        (fun _ _ _ _ _ => pg_name (i := 3) scLaw.nd rfl (.inl rfl)) (fun _ _ _ _ _ => pts_nil)
        (fun _ _ _ _ _ => pe_lc (own := [("_law_k", 4)]) (g := gName 4) (by rfl) scLaw.nd (pi_range1 (by rfl) mr (pa_cons pe_int pa_nil)) (blk_in (scope := scOut) (blkOk_by (own := [("_law_k", 4)]) (N := nLaw) (sc := scOut) (by decide +kernel)) (by decide +kernel))
          (fun _ _ _ _ _ => pg_name (i := 4) scLaw.nd rfl (.inl rfl)) (fun _ _ _ _ _ => pts_nil)
          (fun _ _ _ _ _ => pe_call G3 hr (by rfl) g3 k3 b3 .nil pass0 (pa_cons (pv 1) (pa_cons pe_int pa_nil)))))
      (pss_cons (ps_set (i := 6) scLaw.nd rfl (.inl rfl) (pe_call G2 hr (by rfl) g2 k2 b2 .nil pass0 (pa_cons (pv 1) (pa_cons pe_int pa_nil))))
      (pss_cons (ps_set (i := 7) scLaw.nd rfl (.inl rfl) (pe_call G4 hr (by rfl) g4 k4 b4 .nil pass0 (pa_cons (pv 1) (pa_cons (pv 6) (pa_cons (pe_ix ix_list (pe_lst (pa_cons pe_int (pa_cons pe_int (pa_cons pe_int pa_nil)))) (pv 2) (fun _ _ => rfl))
        (pa_cons (pe_lst (pa_cons (pe_ix ix_list (pe_lst (pa_cons pe_int (pa_cons pe_int (pa_cons pe_int pa_nil)))) (pe_call G3 hr (by rfl) g3 k3 b3 .nil pass0 (pa_cons (pv 1) (pa_cons pe_int pa_nil))) (fun _ _ => rfl)) pa_nil)) pa_nil))))))
      (pss_cons (ps_if (pt_cmpR op_isnot_bl (pe_call G8 hr (by rfl) g8 k8 b8 .nil pass0 (pa_cons (pv 7) pa_nil)) pe_bl (nomark _)) (pss_one (ps_ret pe_bl)) pss_nil)
      (pss_cons (ps_for PassesOwn.never rfl (pi_list (pv 5)) (pg_name (i := 8) scLaw.nd rfl (.inl rfl))
        (pss_cons (ps_set (i := 9) scLaw.nd rfl (.inl rfl) (pe_cmpR op_eq (pe_call G5 hr (by rfl) g5 k5 b5 .nil pass0 (pa_cons (pv 8) (pa_cons pe_int pa_nil))) pe_int (nomark _)))
        (pss_cons (ps_set (i := 10) scLaw.nd rfl (.inl rfl) (pe_call G6 hr (by rfl) g6 k6 b6 .nil pass0 (pa_cons (pv 8) (pa_cons (pv 7) pa_nil))))
        (C8.pss_cut (ps_if (pt_val (pv 9)) (pss_one (ps_set (i := 10) scLaw.nd rfl (.inl rfl) (pe_call G6 hr (by rfl) g6 k6 b6 .nil pass0 (pa_cons (pv 8) (pa_cons (pv 10) pa_nil))))) pss_nil)
        (pss_one (ps_if (pt_not (pt_val (pe_callG G7 still hr (by rfl) g7 k7 b7 .nil pass0 (pa_cons (pv 10) pa_nil)))) (pss_one (ps_ret pe_bl)) pss_nil))))))
      (pss_one (ps_if (pt_cmpR op_isnot_bl (pe_call G8 hr (by rfl) g8 k8 b8 .nil pass0 (pa_cons (pv 7) pa_nil)) pe_bl (nomark _)) (pss_one (ps_ret pe_bl)) pss_nil))))))))
    (pss_cons (ps_set (i := 11) scLaw.nd rfl (.inl rfl) (pP_lst (E := ev1) (R := Oth 20 BO 2) (pPs_cons (pP_T pT_non oNon) (pPs_cons (pP_T pT_bl oBl) (pPs_cons (pP_T pT_int (oInt (by decide +kernel))) (pPs_cons (pP_T pT_str oS) (pPs_cons (pP_T (pT_tup pTs_nil) oT0) (pPs_cons (pP_T (pT_lst pTs_nil) oL0) (pPs_cons (pP_T pT_emp oD0)
      (pPs_cons (pP_T (pT_tup (pTs_cons pT_str pTs_nil)) oN1) (pPs_cons (pP_T (pT_tup (pTs_cons (pT_tup (pTs_cons pT_str (pTs_cons pT_str pTs_nil))) pTs_nil)) oT1n) pPs_nil)))))))))))
    (pss_cons (ps_for PassesOwn.never rfl (pi_list (pe_op op_cat (pv 11) (pe_lst (pa_cons (pe_call G9 hr (by rfl) g9 k9 b9 .nil pass0 (pa_cons (pv 1) pa_nil)) (pa_cons (pe_call Ga hr (by rfl) ga ka ba .nil pass0 (pa_cons (pv 1) pa_nil)) (pa_cons (pe_call Gb hr (by rfl) gb kb bb .nil pass0 (pa_cons (pv 1) pa_nil)) pa_nil)))))) (pg_name (i := 10) scLaw.nd rfl (.inl rfl))
      (pss_one (ps_if (pt_not (pt_val (pe_callG G7 still hr (by rfl) g7 k7 b7 .nil pass0 (pa_cons (pv 10) pa_nil)))) (pss_one (ps_ret pe_bl)) pss_nil)))
    (pss_one (ps_ret pe_bl))))), ?_⟩
  have e0 : sizeLine = 16777216 := rfl
  have eBO : BO = 10 ^ 40 := rfl
  have eBM : BM = 10 ^ 44 := rfl
  refine ⟨_, rfl, a, ns, rfl, hS, hl, fun d c H1 s1 dk1 => ?_⟩
  have tb1 := tb.same s1
  refine ⟨3, rfl, by decide, by decide, for_range (lo := 0) (n := 3) (fun i σ G => ∃ y2 y3 y4 y5 y6 y7 y8 y9 y10, σ = [some (.ref a), some (.ref d), y2, y3, y4, y5, y6, y7, y8, y9, y10, none] ∧ Dk G d c ∧ TbS T G) ⟨_, _, _, _, _, _, _, _, _, rfl, dk1, tb1⟩ (fun i σ G hi z => ?_) (fun σ G z => ?_)⟩
  · obtain ⟨y2, y3, y4, y5, y6, y7, y8, y9, y10, rfl, dkG, tbG⟩ := z
    refine ⟨4, rfl, by decide, by decide, fun D nD => ?_⟩
    have offD := dkG.off nD
    refine lc_range (lo := 0) (n := 4) (fun i F => Dk F d c ∧ TbS T F ∧ ∃ ks : List Addr, ks.length = i ∧ Pks d c D ks F) ⟨dkG.put offD.1 offD.2, TbS.nw tbG nD, [], rfl, upd_same, List.nodup_nil, fun _ z => absurd z List.not_mem_nil⟩ (fun i2 F hi2 z => ?_) (fun F z => ?_)
    · obtain ⟨dkF, tbF, ks, lk, pF⟩ := z
      refine ⟨rfl, 20, rfl, by decide, by decide, fun D2 nD2 => ?_⟩
      have off2 := dkF.off nD2
      have D2D : D2 ≠ D := fun z => by
        rw [z, pF.at_] at nD2
        cases nD2
      have D2k : D2 ∉ ks := fun z => by
        obtain ⟨⟨ns, e⟩, _⟩ := pF.pk D2 z
        rw [e] at nD2
        cases nD2
      refine lc_range (lo := 0) (n := 20) (fun j F2 => Dk F2 d c ∧ TbS T F2 ∧ Pks d c D ks F2 ∧ ∃ ns : List Int, ns.length = j ∧ F2 D2 = some (.lst (ns.map V.int))) ⟨dkF.put off2.1 off2.2, TbS.nw tbF nD2, pF.put D2D D2k, [], rfl, upd_same⟩ (fun j F2 hj z => ?_) (fun F2 z => ?_)
      · obtain ⟨dk2, tb2, p2, ns2, ln, g2⟩ := z
        refine ⟨rfl, _, rfl, d, c, 55440, rfl, dk2, by decide, by decide, fun r G3 r0 r1 kp3 dk3 => ?_⟩
        have g3 := kp3 D2 _ off2.1 off2.2 g2
        refine ⟨_, g3, by rw [List.length_map]; exact small1000 (by omega), dk3.put off2.1 off2.2, TbS.put (TbS.kp tb2 kp3 dk2) g3, (p2.kp kp3 offD.1 offD.2).put D2D D2k, ns2 ++ [r], by rw [List.length_append, ln]; rfl, ?_⟩
        rw [upd_same, List.map_append]
        rfl
      · obtain ⟨dk2, tb2, p2, ns2, ln, g2⟩ := z
        refine ⟨_, p2.at_, by rw [List.length_map]; exact small1000 (by omega), dk2.put offD.1 offD.2, TbS.put tb2 p2.at_, ks ++ [D2], by rw [List.length_append, lk]; rfl, ?_, ?_, fun k hk => ?_⟩
        · rw [upd_same, List.map_append]
          rfl
        · exact List.nodup_append.mpr ⟨p2.nd, List.nodup_cons.mpr ⟨List.not_mem_nil, List.nodup_nil⟩, fun x hx y hy => by
            rw [List.mem_singleton.mp hy]
            exact fun z => D2k (by rw [← z]; exact hx)⟩
        · rcases List.mem_append.mp hk with z | z
          · obtain ⟨⟨ns, e⟩, h1, h2, h3⟩ := p2.pk k z
            exact ⟨⟨ns, by rw [upd_ne h3]; exact e⟩, h1, h2, h3⟩
          · rw [List.mem_singleton.mp z]
            exact ⟨⟨ns2, by rw [upd_ne D2D]; exact g2⟩, off2.1, off2.2, D2D⟩
    obtain ⟨dkF, tbF, ks, lk, pF⟩ := z
    -- the names, the term
    refine ⟨_, rfl, d, c, rfl, dkF, fun o xs G2 kp2 dk2 no ho n4 => ?_⟩
    have offo := dkF.off no
    have tb2 := TbS.kp tbF kp2 dkF
    have p2 := pF.kp kp2 offD.1 offD.2
    obtain ⟨g, hg, hg1, hg2⟩ := three hi
    refine ⟨_, rfl, _, rfl, (by show 3 ≤ sizeLine; decide), fun p1 n1 => ⟨_, rfl, p1, _, _, _, rfl, rfl, SqL.of upd_same, hg, (by show 3 ≤ sizeLine; decide), fun pb nb => ?_⟩⟩
    have s1 := newS (o := .lst [V.int 3, .int 7, .int 13]) n1
    have s2 := newS (o := .lst [V.int 10, .int 25, .int 70]) nb
    have s12 := s1.trans s2
    have offb := (dk2.same s1).off nb
    refine ⟨_, rfl, d, c, 3, rfl, dk2.same s12, by decide, by decide, fun r G3 r0 r1 kp3 dk3 => ?_⟩
    obtain ⟨k0, hk0, hk70⟩ := tens r0 r1
    have tb3 := TbS.kp (tb2.same s12) kp3 (dk2.same s12)
    have p3 := (p2.same s12).kp kp3 offD.1 offD.2
    have ho3 := kp3 o _ offo.1 offo.2 (s12 _ _ ho)
    refine ⟨pb, _, _, _, rfl, rfl, SqL.of (kp3 pb _ offb.1 offb.2 upd_same), hk0, (by show 1 ≤ sizeLine; decide), fun l nl => ?_⟩
    have s4 := newS (o := .lst [V.int k0]) nl
    have offl := dk3.off nl
    have ol : o ≠ l := ne_of_none ho3 nl
    have Dl : D ≠ l := ne_of_none p3.at_ nl
    have kl : ∀ k ∈ ks, k ≠ l := fun k hk => by
      obtain ⟨⟨ns, e⟩, _⟩ := p3.pk k hk
      exact ne_of_none e nl
    have dk4 := dk3.same s4
    have tb4 := tb3.same s4
    have p4 := p3.same s4
    have gl4 : (upd G3 l (.lst [V.int k0])) l = some (.lst [V.int k0]) := upd_same
    refine ⟨d, c, o, l, xs, g, k0, rfl, hg1, hg2, dk4, s4 _ _ ho3, offo.1, offo.2, ol, offl.1, offl.2, gl4, n4, fun v x G5 k1 kl5 dk5 gl5 hv ht hw hk hlo hdp => ?_⟩
    have lq5 : Lq T d c D ks x v G5 := ⟨dk5, TbS.kl tb4 kl5 dk4 gl4, p4.kl kl5 offD.1 offD.2 Dl kl, hv⟩
    have hw2 : x.wt + 2 ≤ sizeLine := by omega
    clear dkG tbG dkF tbF pF dk2 tb2 p2 dk3 tb3 p3 dk4 tb4 p4 dk5 gl5 hv s1 s2 s12 s4
    refine ⟨_, rfl, v, x, rfl, lq5.tm.any, hw2, lq5.tb, fun G6 s6 => ⟨_, _, rfl, rfl, _, rfl, isn ht ?_⟩⟩
    have lq6 := lq5.sm s6
    have hloB : x.loc 20 BO := Dt.loc_up (Nat.le_refl _) (by decide) hlo
    refine ⟨_, rfl, D, rfl, ⟨_, SqL.of lq6.pks.at_⟩, for_list (xs := ks.map V.ref) (fun j σ G => ∃ y8 y9 y10, σ = [some (.ref a), some (.ref d), some (.int (0 + (i : Int))), y3, y4, some (.ref D), some (.ref o), some v, y8, y9, y10, none] ∧ Lq T d c D ks x v G) ⟨_, _, _, rfl, lq6⟩ (fun j σ G _ z => ?_) (fun j u σ G hu z => ?_) (fun σ G z => ?_)⟩
    · obtain ⟨_, _, _, _, lq⟩ := z
      exact SqL.of lq.pks.at_
    · obtain ⟨y8, y9, y10, rfl, lq⟩ := z
      obtain ⟨k, rfl, hkm⟩ : ∃ k, u = .ref k ∧ k ∈ ks := by
        rw [List.getElem?_map] at hu
        cases hq : ks[j]? with
        | none => rw [hq] at hu; cases hu
        | some k =>
          rw [hq] at hu
          exact ⟨k, (Option.some.inj hu).symm, List.mem_of_getElem? hq⟩
      refine ⟨_, rfl, k, 3, rfl, (lq.pks.pk k hkm).1, by decide, fun r G7 r0 r1 kb7 pk7 => ⟨rfl, ?_⟩⟩
      have lq7 := lq.kb hkm kb7 pk7
      refine ⟨_, rfl, _, rfl, k, v, x, 20, BO, rfl, pk7, lq7.tm.at fun _ _ n _ => n.elim, by omega, hloB, by decide, Nat.le_refl _, by decide, fun r2 y G8 kb8 pk8 hy oy => ?_⟩
      have lq8 := lq7.kb hkm kb8 pk8
      let Cut : L2.St → Hp → Prop := fun σ G => ∃ y9 u y, σ = [some (.ref a), some (.ref d), some (.int (0 + (i : Int))), y3, y4, some (.ref D), some (.ref o), some v, some (.ref k), y9, some u, none] ∧ Lq T d c D ks x v G ∧ Dd (Nk k) G y u ∧ Oth 400 BM 30 y
      refine ⟨Cut, ?_, fun σ G c => ?_⟩
      · refine ⟨_, rfl, _, rfl, ite2 (fun _ => ?_) (fun _ => ⟨_, _, y, rfl, lq8, hy, oy.up (by decide) (by decide) (by omega)⟩)⟩
        refine ⟨_, rfl, _, rfl, k, r2, y, 90, BO + 100, rfl, pk8, hy, by have := oy.dp; omega, oy.lo, by decide, Nat.le_add_right _ _, by decide, fun r3 y' G9' kb9 pk9 hy' oy' => ⟨_, _, y', rfl, lq8.kb hkm kb9 pk9, hy', oy'.up (by decide) (by decide) (by have := oy.dp; omega)⟩⟩
      · obtain ⟨y9', u, y', rfl, lq9, hy9, oy9⟩ := c
        exact ⟨_, rfl, u, y', rfl, hy9.any, oy9.lo, oy9.dp, lq9.tb, fun Gx sx => ⟨_, rfl, iteF ⟨_, _, _, rfl, lq9.sm sx⟩⟩⟩
    · obtain ⟨y8, y9, y10, rfl, lq⟩ := z
      refine ⟨_, rfl, v, x, rfl, lq.tm.any, hw2, lq.tb, fun Gz sz' => ⟨_, _, rfl, rfl, _, rfl, isn ht ?_⟩⟩
      have lqz := lq.sm sz'
      exact ⟨_, _, _, _, _, _, _, _, _, rfl, lqz.dk, lqz.tb⟩
  · obtain ⟨y2, y3, y4, y5, y6, y7, y8, y9, y10, rfl, dkG, tbG⟩ := z
    refine ⟨trivial, fun v2 xs2 G2 s2 hv2 hR2 hl2 => ?_⟩
    obtain ⟨a2, vs2, rfl, na2, ha2, hL2⟩ := lstS hv2
    have dk2 := dkG.same s2
    have tb2 := tbG.same s2
    have hN : ∀ b, New G b → b ≠ d ∧ b ≠ c := fun b n => dkG.off n
    have offa := hN a2 na2
    refine ⟨_, rfl, _, rfl, d, c, rfl, dk2, fun v3 y3' G3 kp3 dk3 hy3 oy3 => ?_⟩
    refine ⟨_, rfl, d, c, rfl, dk3, fun v4 y4' G4 kp4 dk4 hy4 oy4 => ?_⟩
    refine ⟨_, rfl, d, c, rfl, dk4, fun v5 y5' G5 kp5 dk5 hy5 oy5 => ⟨(by show 3 ≤ sizeLine; decide), fun p6 n6 => ?_⟩⟩
    have s6 := newS (o := .lst [v3, v4, v5]) n6
    have kp25 := kp3.trans (kp4.trans kp5)
    have ha5 := kp25 a2 _ offa.1 offa.2 ha2
    have hL5 := hL2.kn ((kn_kp kp3 dk2 hN).trans ((kn_kp kp4 dk3 hN).trans (kn_kp kp5 dk4 hN)))
    have hy35 := (hy3.kn (Kn.tk (Tk.kp kp4 dk3))).kn (Kn.tk (Tk.kp kp5 dk4))
    have hy45 := hy4.kn (Kn.tk (Tk.kp kp5 dk4))
    have tb5 := TbS.kp (TbS.kp (TbS.kp tb2 kp3 dk2) kp4 dk3) kp5 dk4
    have l2 := hL2.len
    refine ⟨a2, p6, vs2, [v3, v4, v5], rfl, rfl, s6 _ _ ha5, upd_same, by rw [← l2, hl2]; exact sz (Nat.le_of_ble_eq_true rfl), fun p7 n7 => ?_⟩
    have s7 := newS (o := .lst (vs2 ++ [v3, v4, v5])) n7
    have s67 := s6.trans s7
    have LL : DdL Any (upd (upd G5 p6 (.lst [v3, v4, v5])) p7 (.lst (vs2 ++ [v3, v4, v5]))) (xs2 ++ [y3', y4', y5']) (vs2 ++ [v3, v4, v5]) := ((hL5.any).same s67).app (.cons ((hy35.any).same s67) (.cons ((hy45.any).same s67) (.cons ((hy5.any).same s67) .nil)))
    have RR : ∀ y ∈ xs2 ++ [y3', y4', y5'], Oth 400 BM 30 y := fun y hy => by
      rcases List.mem_append.mp hy with z | z
      · exact (hR2 y z).up (by decide) (by decide) (by decide)
      · simp only [List.mem_cons, List.not_mem_nil, or_false] at z
        rcases z with rfl | rfl | rfl
        · exact oy3.up (by decide) (by decide) (Nat.le_refl _)
        · exact oy4.up (by decide) (by decide) (Nat.le_refl _)
        · exact oy5.up (by decide) (by decide) (Nat.le_refl _)
    have tb7 := tb5.same s67
    have g7 : (upd (upd G5 p6 (.lst [v3, v4, v5])) p7 (.lst (vs2 ++ [v3, v4, v5]))) p7 = some (.lst (vs2 ++ [v3, v4, v5])) := upd_same
    generalize upd (upd G5 p6 (.lst [v3, v4, v5])) p7 (.lst (vs2 ++ [v3, v4, v5])) = G7' at LL tb7 g7
    generalize xs2 ++ [y3', y4', y5'] = zs at LL RR
    generalize vs2 ++ [v3, v4, v5] = ws at LL g7
    refine ⟨p7, rfl, ⟨_, SqL.of g7⟩, for_list (xs := ws) (fun j σ G => ∃ y10, σ = [some (.ref a), some (.ref d), y2, y3, y4, y5, y6, y7, y8, y9, y10, some (.ref a2)] ∧ TbS T G ∧ G p7 = some (.lst ws) ∧ DdL Any G zs ws) ⟨_, rfl, tb7, g7, LL⟩ (fun j σ G _ z => ?_) (fun j u σ G hu z => ?_) (fun σ G z => ?_)⟩
    · obtain ⟨_, _, _, g, _⟩ := z
      exact SqL.of g
    · obtain ⟨y10, rfl, tbx, gx, Lx⟩ := z
      obtain ⟨y, hy, ry⟩ := Lx.get hu
      have oy := RR y (List.mem_of_getElem? hy)
      exact ⟨_, rfl, u, y, rfl, ry, oy.lo, oy.dp, tbx, fun Gx sx => ⟨_, rfl, iteF ⟨_, rfl, sx.2, sx.at tbx gx (fun _ z => by cases z), Lx.kn (sx.kn tbx)⟩⟩⟩
    · exact q G
end
end Kq

/-! the end where some of the defs hold generator expressions -/
namespace Kg
open PySem PySem.Spec PyProof.Rows L2 LamX
/-- the def's code object, its table: empty -/
def TabOf (mg : Str → Option Value) (h : Heap) (x : Str) : Prop := ∃ (a : Addr) (o : Obj) (fd : FuncData) (c p : Addr), mg x = some (.ref a) ∧ h.get? a = some o ∧ o.data = .func fd ∧ fd.code = .ref c ∧ h.IsCode c p #[] ∧ h.TableAt c p #[]
theorem walk_ofNs {l : PySem.W.OpenLaw} {n k : Nat} {q : Program} {loose : List Str} {XP : (Str → Option Value) → Heap → Prop} {YP : World → Heap → Prop} {d : DefRec} {K : Params → PySem.W.Frag} {CX : World → CXT} {x : Str} (names : List Str)
    (hn : l.most = some n) (hn2 : n ≤ sizeLine) (hdf : d.params.defaults = []) (hr : Room k callerA) (hrec : (names.all fun y => (recsOf q).any fun e => e.name == y) = true) (hY : ∀ (w : World) (h : Heap), YP w h → (K w.params).In h)
    (F : ∀ (w : World) (mg : Str → Option Value) (fa : Addr) (h : Heap), YP w h → (K w.params).In h → h.Ns mainGlobals mg → mg d.name = some (.ref fa) → (∀ y ∈ names, TabOf mg h y) → LawAtS l w (K w.params) (CX w) k n x mg fa h)
    (hCX : ∀ (w : World) (H : Hp) (s : Shared) (e : Value) (s' : Shared), CX w [] H s (fun _ _ _ => False) e s' → False) :
    PySem.W.WalkO q loose XP YP l.row.toRowW d [] (fun f vs => PySem.call f vs) := by
  refine Att.attach_callB hn hdf fun w s₀ s₁ mg mb fa o pm cd doc a vs ns G Y ho hd hcd hmg hobj hints hlen hbits hg => ?_
  have KX := hY w _ Y
  have own : ∀ y ∈ names, TabOf mg s₁.heap y := fun y hy => by
    obtain ⟨dL, hm, hn1⟩ := List.any_eq_true.mp (List.all_eq_true.mp hrec y hy)
    have hn2 : dL.name = y := beq_iff_eq.mp hn1
    obtain ⟨a', o', fd', c', P', h1, h2, h3, h4, h5, h6⟩ := G.T.tab dL hm
    exact ⟨a', o', fd', c', P', by rw [← hn2]; exact h1, h2, h3, h4, h5, h6⟩
  obtain ⟨fd, cs, sp, hT, nT, C, hb, hsp, hF⟩ := F w mg fa _ Y KX G.T.g hmg own
  exact law_callTs KX G.T.g G.T.b G.T.builtins G.T.nolimit hg hT nT C G.T.bmain hobj hints (Nat.le_trans hlen hn2) hr hF hb (fun H hH hS => hsp H a ns hlen hbits hH hS) fun H e s' => hCX w H s₁ e s'
/-- such a def by what is written of it -/
theorem tabOf_at {K : PySem.W.Frag} {mg : Str → Option Value} {h : Heap} {x name qual : Str} {f c p : Addr} {params : Arguments} {body : List Stmt} {scope : Scope} {oc dV kV doc pm ct e : Value} {od an dd : Option Addr} {sl sl' : Array (Option Value)} {vs : Array Value} (X : K.In h) (T : TabOf mg h x) (g : mg x = some (.ref f))
    (l : K.lookup f = some ⟨oc, od, .func (PySem.W.fnOf name qual params body scope dV kV doc pm an (.ref c) ct), sl⟩) (t : K.lookup c = some ⟨e, dd, .fields vs, sl'⟩) (v : vs[11]? = some (.ref p)) :
    h.get? p = some { cls := .none, data := .fields #[] } ∧ PySem.W.CodeHd h c p := by
  obtain ⟨a', o', fd', c', P', h1, h2, h3, h4, h5, h6⟩ := T
  rw [g] at h1
  cases h1
  rw [X _ _ l] at h2
  cases h2
  cases h3
  cases h4
  obtain ⟨⟨oc', vc, e1, e2, e3, e4⟩, hP⟩ := id h6
  rw [X _ _ t] at e1
  cases e1
  cases e3
  rw [v] at e4
  cases e4
  exact ⟨hP, .of h5 h6⟩
end Kg

namespace Kq
open PySem PySem.Spec PyProof.Rows L2 Kf Kg Kv GxR RZ Kj Ki
def KeysAre : List DictEntry → List (Str × Value) → Prop
  | [], [] => True
  | e :: es, (x, v) :: xs => (∃ t, e.key = .str x t) ∧ e.val = v ∧ KeysAre es xs
  | _, _ => False
theorem find_keys (z : Str) : ∀ {es : List DictEntry} {xs : List (Str × Value)}, KeysAre es xs → (es.find? (·.key.isStr z)).map (·.val) = xs.lookup z ∧ es.any (·.refKey) = false
  | [], [], _ => ⟨rfl, rfl⟩
  | e :: es, (x, v) :: xs, h => by
    obtain ⟨⟨t, h1⟩, h2, h3⟩ := h
    obtain ⟨i1, i2⟩ := find_keys z h3
    have e1 : e.key.isStr z = (z == x) := by
      rw [h1]
      show (x == z) = (z == x)
      by_cases c : x = z
      · subst c
        rfl
      · rw [beq_eq_false_iff_ne.mpr c, beq_eq_false_iff_ne.mpr (Ne.symm c)]
    have e2 : e.refKey = false := by
      unfold DictEntry.refKey
      rw [h1]
    refine ⟨?_, by rw [List.any_cons, e2, i2]; rfl⟩
    rw [List.find?_cons, List.lookup_cons, e1]
    cases c : (z == x) with
    | true => exact congrArg some h2
    | false => exact i1
  | [], _ :: _, h => h.elim
  | _ :: _, [], h => h.elim
theorem ns_keys {K : PySem.W.Frag} {a : Addr} {es : Array DictEntry} {n : Nat} {xs : List (Str × Value)} (l : K.lookup a = some ⟨.type "dict", none, .dict es n, #[]⟩) (h : KeysAre es.toList xs) (z : Str) : PySem.W.nsIn K a z = some (xs.lookup z) := by
  obtain ⟨i1, i2⟩ := find_keys z h
  unfold PySem.W.nsIn
  rw [l]
  simp only
  cases c : es.toList.find? (·.key.isStr z) with
  | some e =>
    rw [c] at i1
    exact congrArg some i1
  | none =>
    rw [c] at i1
    simp only [i2]
    exact congrArg some i1
theorem upOk {P : Program} {w : World} {K : PySem.W.Frag} {mg : Str → Option Value} {base : Heap} {j k : Nat} {f : Addr} {fd : FuncData} {ps : List Str} {sp : Sp} (F : FnOk P w K mg base CX0 j f fd ps sp) (h : j ≤ k) : FnOk P w K mg base CX0 k f fd ps sp :=
  ⟨F.len, fun A outer s H args us vs Q E hr => F.run A outer s H args us vs Q E (hr.mono h)⟩
theorem tt_of {x : Str} {q : Program} {mg : Str → Option Value} {h : Heap} (hrec : ((recsOf q).any fun e => e.name == x) = true)
    (tabs : ∀ e ∈ recsOf q, ∃ (a : Addr) (o : Obj) (fd : FuncData) (c p : Addr), mg e.name = some (.ref a) ∧ h.get? a = some o ∧ o.data = .func fd ∧ fd.code = .ref c ∧ h.IsCode c p #[] ∧ h.TableAt c p #[]) : Kg.TabOf mg h x := by
  obtain ⟨dL, hm, hn1⟩ := List.any_eq_true.mp hrec
  obtain ⟨a', o', fd', c', P', h1, h2, h3, h4, h5, h6⟩ := tabs dL hm
  exact ⟨a', o', fd', c', P', by rw [← (beq_iff_eq.mp hn1)]; exact h1, h2, h3, h4, h5, h6⟩
theorem tabX {base : Heap} {mg : Str → Option Value} {c p : Addr} (t : LamX.TabB base mg c p) : GxR.TabB base mg c p := ⟨t.code, t.bm, t.gP⟩
inductive Rl2 (R : List Str → Value → Prop) : List (Str × List Str) → List (Str × Value) → Prop
  | nil : Rl2 R [] []
  | cons {z : Str} {rs : List Str} {u : Value} {xs : List (Str × List Str)} {ys : List (Str × Value)} : R rs u → Rl2 R xs ys → Rl2 R ((z, rs) :: xs) ((z, u) :: ys)
theorem Rl2.look {R : List Str → Value → Prop} (k : Str) : ∀ {xs : List (Str × List Str)} {ys : List (Str × Value)}, Rl2 R xs ys → (xs.lookup k = none → ys.lookup k = none) ∧ ∀ rs, xs.lookup k = some rs → ∃ u, ys.lookup k = some u ∧ R rs u
  | _, _, .nil => ⟨fun _ => rfl, fun _ h => by cases h⟩
  | _, _, .cons (z := z) (u := u) r t => by
    obtain ⟨h1, h2⟩ := t.look k
    rw [List.lookup_cons, List.lookup_cons]
    cases c : (k == z) with
    | true => exact ⟨fun h => (by cases h), fun rs h => ⟨u, rfl, by rw [← Option.some.inj h]; exact r⟩⟩
    | false => exact ⟨h1, h2⟩
theorem all_mk {l : PySem.W.OpenLaw} {w : World} {K : PySem.W.Frag} {h : Heap} {mg : Str → Option Value} {fa dA dB o1 o2 o3 o4 o5 o6 o7 r1 r2 r3 r4 r5 r6 r7 r8 r9 r10 r11 r12 r13 r14 r15 r16 r17 r18 r19 r20 r21 r22 f1 f2 f3 f4 f5 f6 f7 f8 f9 f10 f11 f12 f13 f14 f15 f16 f17 f18 f19 f20 f21 f22 f23 f24 f25 f26 f27 f28 f29 f30 f31 f32 f33 f34 f35 f36 f37 f38 f39 f40 f41 f42 f43 f44 f45 c1 p1 c6 p6 c16 p16 c13 p13 : Addr} (X : K.In h) (G : h.Ns mainGlobals mg) (hfa : mg "law" = some (.ref fa))
    (TT1 : Kg.TabOf mg h "is_name")
    (TT6 : Kg.TabOf mg h "is_rising")
    (TT16 : Kg.TabOf mg h "is_fills")
    (TT13 : Kg.TabOf mg h "has_term_form")
    {od1 an1 od2 an2 od3 an3 od4 an4 od5 an5 od6 an6 od7 an7 od8 an8 od9 an9 od10 an10 od11 an11 od12 an12 od13 an13 od14 an14 od15 an15 od16 an16 od17 an17 od18 an18 od19 an19 od20 an20 od21 an21 od22 an22 od23 an23 od24 an24 od25 an25 od26 an26 od27 an27 od28 an28 od29 an29 od30 an30 od31 an31 od32 an32 od33 an33 od34 an34 od35 an35 od36 an36 od37 an37 od38 an38 od39 an39 od40 an40 od41 an41 od42 an42 od43 an43 od44 an44 od45 an45 dd1 dd6 dd16 dd13 dT1 dT2 dT3 dT4 dT5 dT6 dT7 dR1 dR2 dR3 dR4 dR5 dR6 dR7 dR8 dR9 dR10 dR11 dR12 dR13 dR14 dR15 dR16 dR17 dR18 dR19 dR20 dR21 dR22 : Option Addr} {sl1 sl2 sl3 sl4 sl5 sl6 sl7 sl8 sl9 sl10 sl11 sl12 sl13 sl14 sl15 sl16 sl17 sl18 sl19 sl20 sl21 sl22 sl23 sl24 sl25 sl26 sl27 sl28 sl29 sl30 sl31 sl32 sl33 sl34 sl35 sl36 sl37 sl38 sl39 sl40 sl41 sl42 sl43 sl44 sl45 sm1 sm6 sm16 sm13 sT1 sT2 sT3 sT4 sT5 sT6 sT7 sR1 sR2 sR3 sR4 sR5 sR6 sR7 sR8 sR9 sR10 sR11 sR12 sR13 sR14 sR15 sR16 sR17 sR18 sR19 sR20 sR21 sR22 : Array (Option Value)} {es esB : Array DictEntry} {nD nB nT1 nT2 nT3 nT4 nT5 nT6 nT7 nR1 nR2 nR3 nR4 nR5 nR6 nR7 nR8 nR9 nR10 nR11 nR12 nR13 nR14 nR15 nR16 nR17 nR18 nR19 nR20 nR21 nR22 : Nat} {oc1 kV1 dc1 pm1 ct1 oc2 kV2 dc2 pm2 ct2 oc3 kV3 dc3 pm3 ct3 oc4 kV4 dc4 pm4 ct4 oc5 kV5 dc5 pm5 ct5 oc6 kV6 dc6 pm6 ct6 oc7 kV7 dc7 pm7 ct7 oc8 kV8 dc8 pm8 ct8 oc9 kV9 dc9 pm9 ct9 oc10 kV10 dc10 pm10 ct10 oc11 kV11 dc11 pm11 ct11 oc12 kV12 dc12 pm12 ct12 oc13 kV13 dc13 pm13 ct13 oc14 kV14 dc14 pm14 ct14 oc15 kV15 dc15 pm15 ct15 oc16 kV16 dc16 pm16 ct16 oc17 kV17 dc17 pm17 ct17 oc18 kV18 dc18 pm18 ct18 oc19 kV19 dc19 pm19 ct19 oc20 kV20 dc20 pm20 ct20 oc21 kV21 dc21 pm21 ct21 oc22 kV22 dc22 pm22 ct22 oc23 kV23 dc23 pm23 ct23 oc24 kV24 dc24 pm24 ct24 oc25 kV25 dc25 pm25 ct25 oc26 kV26 dc26 pm26 ct26 oc27 kV27 dc27 pm27 ct27 oc28 kV28 dc28 pm28 ct28 oc29 kV29 dc29 pm29 ct29 oc30 kV30 dc30 pm30 ct30 oc31 kV31 dc31 pm31 ct31 oc32 kV32 dc32 pm32 ct32 oc33 kV33 dc33 pm33 ct33 oc34 kV34 dc34 pm34 ct34 oc35 kV35 dc35 pm35 ct35 oc36 kV36 dc36 pm36 ct36 oc37 kV37 dc37 pm37 ct37 oc38 kV38 dc38 pm38 ct38 oc39 kV39 dc39 pm39 ct39 oc40 kV40 dc40 pm40 ct40 oc41 kV41 dc41 pm41 ct41 oc42 kV42 dc42 pm42 ct42 oc43 kV43 dc43 pm43 ct43 oc44 kV44 dc44 pm44 ct44 oc45 kV45 dc45 pm45 ct45 cd2 cd3 cd4 cd5 cd7 cd8 cd9 cd10 cd11 cd12 cd14 cd15 cd17 cd18 cd19 cd20 cd21 cd22 cd23 cd24 cd25 cd26 cd27 cd28 cd29 cd30 cd31 cd32 cd33 cd34 cd35 cd36 cd37 cd38 cd39 cd40 cd41 cd42 cd43 cd44 cd45 e1 e6 e16 e13 uL uN uM : Value} {vs1 vs6 vs16 vs13 iT1 iT2 iT3 iT4 iT5 iT6 iT7 iR1 iR2 iR3 iR4 iR5 iR6 iR7 iR8 iR9 iR10 iR11 iR12 iR13 iR14 iR15 iR16 iR17 iR18 iR19 iR20 iR21 iR22 : Array Value}
    (a1 : PySem.W.nsIn K mainGlobals "is_name" = some (some (.ref f1))) (l1 : K.lookup f1 = some ⟨oc1, od1, .func (PySem.W.fnOf "is_name" "is_name" (defArgs tName) (defBody tName) (defScope tName) .none kV1 dc1 pm1 an1 (.ref c1) ct1), sl1⟩)
      (q1 : PySem.W.codeIn K (.ref c1) "is_name" = true) (k1 : PySem.W.keepIn K (.ref f1) = true)
    (a2 : PySem.W.nsIn K mainGlobals "is_truth" = some (some (.ref f2))) (l2 : K.lookup f2 = some ⟨oc2, od2, .func (PySem.W.fnOf "is_truth" "is_truth" (defArgs tTruth) (defBody tTruth) (defScope tTruth) .none kV2 dc2 pm2 an2 cd2 ct2), sl2⟩)
      (q2 : PySem.W.codeIn K cd2 "is_truth" = true) (k2 : PySem.W.keepIn K (.ref f2) = true)
    (a3 : PySem.W.nsIn K mainGlobals "is_whole" = some (some (.ref f3))) (l3 : K.lookup f3 = some ⟨oc3, od3, .func (PySem.W.fnOf "is_whole" "is_whole" (defArgs tWhole) (defBody tWhole) (defScope tWhole) .none kV3 dc3 pm3 an3 cd3 ct3), sl3⟩)
      (q3 : PySem.W.codeIn K cd3 "is_whole" = true) (k3 : PySem.W.keepIn K (.ref f3) = true)
    (a4 : PySem.W.nsIn K mainGlobals "is_number" = some (some (.ref f4))) (l4 : K.lookup f4 = some ⟨oc4, od4, .func (PySem.W.fnOf "is_number" "is_number" (defArgs tNumber) (defBody tNumber) (defScope tNumber) .none kV4 dc4 pm4 an4 cd4 ct4), sl4⟩)
      (q4 : PySem.W.codeIn K cd4 "is_number" = true) (k4 : PySem.W.keepIn K (.ref f4) = true)
    (a5 : PySem.W.nsIn K mainGlobals "is_tagged" = some (some (.ref f5))) (l5 : K.lookup f5 = some ⟨oc5, od5, .func (PySem.W.fnOf "is_tagged" "is_tagged" (defArgs tTagged) (defBody tTagged) (defScope tTagged) .none kV5 dc5 pm5 an5 cd5 ct5), sl5⟩)
      (q5 : PySem.W.codeIn K cd5 "is_tagged" = true) (k5 : PySem.W.keepIn K (.ref f5) = true)
    (a6 : PySem.W.nsIn K mainGlobals "is_rising" = some (some (.ref f6))) (l6 : K.lookup f6 = some ⟨oc6, od6, .func (PySem.W.fnOf "is_rising" "is_rising" (defArgs tRising) (defBody tRising) (defScope tRising) .none kV6 dc6 pm6 an6 (.ref c6) ct6), sl6⟩)
      (q6 : PySem.W.codeIn K (.ref c6) "is_rising" = true) (k6 : PySem.W.keepIn K (.ref f6) = true)
    (a7 : PySem.W.nsIn K mainGlobals "is_data" = some (some (.ref f7))) (l7 : K.lookup f7 = some ⟨oc7, od7, .func (PySem.W.fnOf "is_data" "is_data" (defArgs tIsData) (defBody tIsData) (defScope tIsData) .none kV7 dc7 pm7 an7 cd7 ct7), sl7⟩)
      (q7 : PySem.W.codeIn K cd7 "is_data" = true) (k7 : PySem.W.keepIn K (.ref f7) = true)
    (a8 : PySem.W.nsIn K mainGlobals "has_data_form" = some (some (.ref f8))) (l8 : K.lookup f8 = some ⟨oc8, od8, .func (PySem.W.fnOf "has_data_form" "has_data_form" (defArgs tForm) (defBody tForm) (defScope tForm) .none kV8 dc8 pm8 an8 cd8 ct8), sl8⟩)
      (q8 : PySem.W.codeIn K cd8 "has_data_form" = true) (k8 : PySem.W.keepIn K (.ref f8) = true)
    (a9 : PySem.W.nsIn K mainGlobals "kinds_within" = some (some (.ref f9))) (l9 : K.lookup f9 = some ⟨oc9, od9, .func (PySem.W.fnOf "kinds_within" "kinds_within" (defArgs tWithin) (defBody tWithin) (defScope tWithin) .none kV9 dc9 pm9 an9 cd9 ct9), sl9⟩)
      (q9 : PySem.W.codeIn K cd9 "kinds_within" = true) (k9 : PySem.W.keepIn K (.ref f9) = true)
    (a10 : PySem.W.nsIn K mainGlobals "is_first" = some (some (.ref f10))) (l10 : K.lookup f10 = some ⟨oc10, od10, .func (PySem.W.fnOf "is_first" "is_first" (defArgs tIsFirst) (defBody tIsFirst) (defScope tIsFirst) .none kV10 dc10 pm10 an10 cd10 ct10), sl10⟩)
      (q10 : PySem.W.codeIn K cd10 "is_first" = true) (k10 : PySem.W.keepIn K (.ref f10) = true)
    (a11 : PySem.W.nsIn K mainGlobals "is_argument" = some (some (.ref f11))) (l11 : K.lookup f11 = some ⟨oc11, od11, .func (PySem.W.fnOf "is_argument" "is_argument" (defArgs tIsArg) (defBody tIsArg) (defScope tIsArg) .none kV11 dc11 pm11 an11 cd11 ct11), sl11⟩)
      (q11 : PySem.W.codeIn K cd11 "is_argument" = true) (k11 : PySem.W.keepIn K (.ref f11) = true)
    (a12 : PySem.W.nsIn K mainGlobals "is_term" = some (some (.ref f12))) (l12 : K.lookup f12 = some ⟨oc12, od12, .func (PySem.W.fnOf "is_term" "is_term" (defArgs tIsTerm) (defBody tIsTerm) (defScope tIsTerm) .none kV12 dc12 pm12 an12 cd12 ct12), sl12⟩)
      (q12 : PySem.W.codeIn K cd12 "is_term" = true) (k12 : PySem.W.keepIn K (.ref f12) = true)
    (a13 : PySem.W.nsIn K mainGlobals "has_term_form" = some (some (.ref f13))) (l13 : K.lookup f13 = some ⟨oc13, od13, .func (PySem.W.fnOf "has_term_form" "has_term_form" (defArgs tHasTerm) (defBody tHasTerm) (defScope tHasTerm) .none kV13 dc13 pm13 an13 (.ref c13) ct13), sl13⟩)
      (q13 : PySem.W.codeIn K (.ref c13) "has_term_form" = true) (k13 : PySem.W.keepIn K (.ref f13) = true)
    (a14 : PySem.W.nsIn K mainGlobals "fits" = some (some (.ref f14))) (l14 : K.lookup f14 = some ⟨oc14, od14, .func (PySem.W.fnOf "fits" "fits" (defArgs tFits) (defBody tFits) (defScope tFits) .none kV14 dc14 pm14 an14 cd14 ct14), sl14⟩)
      (q14 : PySem.W.codeIn K cd14 "fits" = true) (k14 : PySem.W.keepIn K (.ref f14) = true)
    (a15 : PySem.W.nsIn K mainGlobals "is_turns" = some (some (.ref f15))) (l15 : K.lookup f15 = some ⟨oc15, od15, .func (PySem.W.fnOf "is_turns" "is_turns" (defArgs tTurns) (defBody tTurns) (defScope tTurns) .none kV15 dc15 pm15 an15 cd15 ct15), sl15⟩)
      (q15 : PySem.W.codeIn K cd15 "is_turns" = true) (k15 : PySem.W.keepIn K (.ref f15) = true)
    (a16 : PySem.W.nsIn K mainGlobals "is_fills" = some (some (.ref f16))) (l16 : K.lookup f16 = some ⟨oc16, od16, .func (PySem.W.fnOf "is_fills" "is_fills" (defArgs tFills) (defBody tFills) (defScope tFills) .none kV16 dc16 pm16 an16 (.ref c16) ct16), sl16⟩)
      (q16 : PySem.W.codeIn K (.ref c16) "is_fills" = true) (k16 : PySem.W.keepIn K (.ref f16) = true)
    (a17 : PySem.W.nsIn K mainGlobals "is_fill" = some (some (.ref f17))) (l17 : K.lookup f17 = some ⟨oc17, od17, .func (PySem.W.fnOf "is_fill" "is_fill" (defArgs tFill) (defBody tFill) (defScope tFill) .none kV17 dc17 pm17 an17 cd17 ct17), sl17⟩)
      (q17 : PySem.W.codeIn K cd17 "is_fill" = true) (k17 : PySem.W.keepIn K (.ref f17) = true)
    (a18 : PySem.W.nsIn K mainGlobals "terms_in" = some (some (.ref f18))) (l18 : K.lookup f18 = some ⟨oc18, od18, .func (PySem.W.fnOf "terms_in" "terms_in" (defArgs tTermsIn) (defBody tTermsIn) (defScope tTermsIn) .none kV18 dc18 pm18 an18 cd18 ct18), sl18⟩)
      (q18 : PySem.W.codeIn K cd18 "terms_in" = true) (k18 : PySem.W.keepIn K (.ref f18) = true)
    (a19 : PySem.W.nsIn K mainGlobals "_law_deck" = some (some (.ref f19))) (l19 : K.lookup f19 = some ⟨oc19, od19, .func (PySem.W.fnOf "_law_deck" "_law_deck" (defArgs tDeck) (defBody tDeck) (defScope tDeck) .none kV19 dc19 pm19 an19 cd19 ct19), sl19⟩)
      (q19 : PySem.W.codeIn K cd19 "_law_deck" = true) (k19 : PySem.W.keepIn K (.ref f19) = true)
    (a20 : PySem.W.nsIn K mainGlobals "_law_mixed" = some (some (.ref f20))) (l20 : K.lookup f20 = some ⟨oc20, od20, .func (PySem.W.fnOf "_law_mixed" "_law_mixed" (defArgs tMixed) (defBody tMixed) (defScope tMixed) .none kV20 dc20 pm20 an20 cd20 ct20), sl20⟩)
      (q20 : PySem.W.codeIn K cd20 "_law_mixed" = true) (k20 : PySem.W.keepIn K (.ref f20) = true)
    (a21 : PySem.W.nsIn K mainGlobals "_law_draw" = some (some (.ref f21))) (l21 : K.lookup f21 = some ⟨oc21, od21, .func (PySem.W.fnOf "_law_draw" "_law_draw" (defArgs tDraw) (defBody tDraw) (defScope tDraw) .none kV21 dc21 pm21 an21 cd21 ct21), sl21⟩)
      (q21 : PySem.W.codeIn K cd21 "_law_draw" = true) (k21 : PySem.W.keepIn K (.ref f21) = true)
    (a22 : PySem.W.nsIn K mainGlobals "_law_names" = some (some (.ref f22))) (l22 : K.lookup f22 = some ⟨oc22, od22, .func (PySem.W.fnOf "_law_names" "_law_names" (defArgs tNames) (defBody tNames) (defScope tNames) .none kV22 dc22 pm22 an22 cd22 ct22), sl22⟩)
      (q22 : PySem.W.codeIn K cd22 "_law_names" = true) (k22 : PySem.W.keepIn K (.ref f22) = true)
    (a23 : PySem.W.nsIn K mainGlobals "_law_called" = some (some (.ref f23))) (l23 : K.lookup f23 = some ⟨oc23, od23, .func (PySem.W.fnOf "_law_called" "_law_called" (defArgs tCalled) (defBody tCalled) (defScope tCalled) .none kV23 dc23 pm23 an23 cd23 ct23), sl23⟩)
      (q23 : PySem.W.codeIn K cd23 "_law_called" = true) (k23 : PySem.W.keepIn K (.ref f23) = true)
    (a24 : PySem.W.nsIn K mainGlobals "_law_data" = some (some (.ref f24))) (l24 : K.lookup f24 = some ⟨oc24, od24, .func (PySem.W.fnOf "_law_data" "_law_data" (defArgs tData) (defBody tData) (defScope tData) .none kV24 dc24 pm24 an24 cd24 ct24), sl24⟩)
      (q24 : PySem.W.codeIn K cd24 "_law_data" = true) (k24 : PySem.W.keepIn K (.ref f24) = true)
    (a25 : PySem.W.nsIn K mainGlobals "_law_carried" = some (some (.ref f25))) (l25 : K.lookup f25 = some ⟨oc25, od25, .func (PySem.W.fnOf "_law_carried" "_law_carried" (defArgs tCarried) (defBody tCarried) (defScope tCarried) .none kV25 dc25 pm25 an25 cd25 ct25), sl25⟩)
      (q25 : PySem.W.codeIn K cd25 "_law_carried" = true) (k25 : PySem.W.keepIn K (.ref f25) = true)
    (a26 : PySem.W.nsIn K mainGlobals "_law_forms" = some (some (.ref f26))) (l26 : K.lookup f26 = some ⟨oc26, od26, .func (PySem.W.fnOf "_law_forms" "_law_forms" (defArgs tForms) (defBody tForms) (defScope tForms) .none kV26 dc26 pm26 an26 cd26 ct26), sl26⟩)
      (q26 : PySem.W.codeIn K cd26 "_law_forms" = true) (k26 : PySem.W.keepIn K (.ref f26) = true)
    (a27 : PySem.W.nsIn K mainGlobals "_law_leaf" = some (some (.ref f27))) (l27 : K.lookup f27 = some ⟨oc27, od27, .func (PySem.W.fnOf "_law_leaf" "_law_leaf" (defArgs tLeaf) (defBody tLeaf) (defScope tLeaf) .none kV27 dc27 pm27 an27 cd27 ct27), sl27⟩)
      (q27 : PySem.W.codeIn K cd27 "_law_leaf" = true) (k27 : PySem.W.keepIn K (.ref f27) = true)
    (a28 : PySem.W.nsIn K mainGlobals "_law_term" = some (some (.ref f28))) (l28 : K.lookup f28 = some ⟨oc28, od28, .func (PySem.W.fnOf "_law_term" "_law_term" (defArgs tTerm) (defBody tTerm) (defScope tTerm) .none kV28 dc28 pm28 an28 cd28 ct28), sl28⟩)
      (q28 : PySem.W.codeIn K cd28 "_law_term" = true) (k28 : PySem.W.keepIn K (.ref f28) = true)
    (a29 : PySem.W.nsIn K mainGlobals "_law_is_name" = some (some (.ref f29))) (l29 : K.lookup f29 = some ⟨oc29, od29, .func (PySem.W.fnOf "_law_is_name" "_law_is_name" (defArgs tLName) (defBody tLName) (defScope tLName) .none kV29 dc29 pm29 an29 cd29 ct29), sl29⟩)
      (q29 : PySem.W.codeIn K cd29 "_law_is_name" = true) (k29 : PySem.W.keepIn K (.ref f29) = true)
    (a30 : PySem.W.nsIn K mainGlobals "_law_is_data" = some (some (.ref f30))) (l30 : K.lookup f30 = some ⟨oc30, od30, .func (PySem.W.fnOf "_law_is_data" "_law_is_data" (defArgs tLData) (defBody tLData) (defScope tLData) .none kV30 dc30 pm30 an30 cd30 ct30), sl30⟩)
      (q30 : PySem.W.codeIn K cd30 "_law_is_data" = true) (k30 : PySem.W.keepIn K (.ref f30) = true)
    (a31 : PySem.W.nsIn K mainGlobals "_law_is_carried" = some (some (.ref f31))) (l31 : K.lookup f31 = some ⟨oc31, od31, .func (PySem.W.fnOf "_law_is_carried" "_law_is_carried" (defArgs tLCar) (defBody tLCar) (defScope tLCar) .none kV31 dc31 pm31 an31 cd31 ct31), sl31⟩)
      (q31 : PySem.W.codeIn K cd31 "_law_is_carried" = true) (k31 : PySem.W.keepIn K (.ref f31) = true)
    (a32 : PySem.W.nsIn K mainGlobals "_law_whole" = some (some (.ref f32))) (l32 : K.lookup f32 = some ⟨oc32, od32, .func (PySem.W.fnOf "_law_whole" "_law_whole" (defArgs tLWhole) (defBody tLWhole) (defScope tLWhole) .none kV32 dc32 pm32 an32 cd32 ct32), sl32⟩)
      (q32 : PySem.W.codeIn K cd32 "_law_whole" = true) (k32 : PySem.W.keepIn K (.ref f32) = true)
    (a33 : PySem.W.nsIn K mainGlobals "_law_are_fills" = some (some (.ref f33))) (l33 : K.lookup f33 = some ⟨oc33, od33, .func (PySem.W.fnOf "_law_are_fills" "_law_are_fills" (defArgs tLFills) (defBody tLFills) (defScope tLFills) .none kV33 dc33 pm33 an33 cd33 ct33), sl33⟩)
      (q33 : PySem.W.codeIn K cd33 "_law_are_fills" = true) (k33 : PySem.W.keepIn K (.ref f33) = true)
    (a34 : PySem.W.nsIn K mainGlobals "_law_is_asked" = some (some (.ref f34))) (l34 : K.lookup f34 = some ⟨oc34, od34, .func (PySem.W.fnOf "_law_is_asked" "_law_is_asked" (defArgs tLAsk) (defBody tLAsk) (defScope tLAsk) .none kV34 dc34 pm34 an34 cd34 ct34), sl34⟩)
      (q34 : PySem.W.codeIn K cd34 "_law_is_asked" = true) (k34 : PySem.W.keepIn K (.ref f34) = true)
    (a35 : PySem.W.nsIn K mainGlobals "_law_is_term" = some (some (.ref f35))) (l35 : K.lookup f35 = some ⟨oc35, od35, .func (PySem.W.fnOf "_law_is_term" "_law_is_term" (defArgs tLTrm) (defBody tLTrm) (defScope tLTrm) .none kV35 dc35 pm35 an35 cd35 ct35), sl35⟩)
      (q35 : PySem.W.codeIn K cd35 "_law_is_term" = true) (k35 : PySem.W.keepIn K (.ref f35) = true)
    (a36 : PySem.W.nsIn K mainGlobals "_law_pick" = some (some (.ref f36))) (l36 : K.lookup f36 = some ⟨oc36, od36, .func (PySem.W.fnOf "_law_pick" "_law_pick" (defArgs tPick) (defBody tPick) (defScope tPick) .none kV36 dc36 pm36 an36 cd36 ct36), sl36⟩)
      (q36 : PySem.W.codeIn K cd36 "_law_pick" = true) (k36 : PySem.W.keepIn K (.ref f36) = true)
    (a37 : PySem.W.nsIn K mainGlobals "_law_odd" = some (some (.ref f37))) (l37 : K.lookup f37 = some ⟨oc37, od37, .func (PySem.W.fnOf "_law_odd" "_law_odd" (defArgs tOdd) (defBody tOdd) (defScope tOdd) .none kV37 dc37 pm37 an37 cd37 ct37), sl37⟩)
      (q37 : PySem.W.codeIn K cd37 "_law_odd" = true) (k37 : PySem.W.keepIn K (.ref f37) = true)
    (a38 : PySem.W.nsIn K mainGlobals "_law_other" = some (some (.ref f38))) (l38 : K.lookup f38 = some ⟨oc38, od38, .func (PySem.W.fnOf "_law_other" "_law_other" (defArgs tOther) (defBody tOther) (defScope tOther) .none kV38 dc38 pm38 an38 cd38 ct38), sl38⟩)
      (q38 : PySem.W.codeIn K cd38 "_law_other" = true) (k38 : PySem.W.keepIn K (.ref f38) = true)
    (a39 : PySem.W.nsIn K mainGlobals "_law_bent" = some (some (.ref f39))) (l39 : K.lookup f39 = some ⟨oc39, od39, .func (PySem.W.fnOf "_law_bent" "_law_bent" (defArgs tBent) (defBody tBent) (defScope tBent) .none kV39 dc39 pm39 an39 cd39 ct39), sl39⟩)
      (q39 : PySem.W.codeIn K cd39 "_law_bent" = true) (k39 : PySem.W.keepIn K (.ref f39) = true)
    (a40 : PySem.W.nsIn K mainGlobals "_law_parts" = some (some (.ref f40))) (l40 : K.lookup f40 = some ⟨oc40, od40, .func (PySem.W.fnOf "_law_parts" "_law_parts" (defArgs tParts) (defBody tParts) (defScope tParts) .none kV40 dc40 pm40 an40 cd40 ct40), sl40⟩)
      (q40 : PySem.W.codeIn K cd40 "_law_parts" = true) (k40 : PySem.W.keepIn K (.ref f40) = true)
    (a41 : PySem.W.nsIn K mainGlobals "_law_answers" = some (some (.ref f41))) (l41 : K.lookup f41 = some ⟨oc41, od41, .func (PySem.W.fnOf "_law_answers" "_law_answers" (defArgs tAns) (defBody tAns) (defScope tAns) .none kV41 dc41 pm41 an41 cd41 ct41), sl41⟩)
      (q41 : PySem.W.codeIn K cd41 "_law_answers" = true) (k41 : PySem.W.keepIn K (.ref f41) = true)
    (a42 : PySem.W.nsIn K mainGlobals "_law_chain" = some (some (.ref f42))) (l42 : K.lookup f42 = some ⟨oc42, od42, .func (PySem.W.fnOf "_law_chain" "_law_chain" (defArgs tChain) (defBody tChain) (defScope tChain) .none kV42 dc42 pm42 an42 cd42 ct42), sl42⟩)
      (q42 : PySem.W.codeIn K cd42 "_law_chain" = true) (k42 : PySem.W.keepIn K (.ref f42) = true)
    (a43 : PySem.W.nsIn K mainGlobals "_law_wide" = some (some (.ref f43))) (l43 : K.lookup f43 = some ⟨oc43, od43, .func (PySem.W.fnOf "_law_wide" "_law_wide" (defArgs tWide) (defBody tWide) (defScope tWide) .none kV43 dc43 pm43 an43 cd43 ct43), sl43⟩)
      (q43 : PySem.W.codeIn K cd43 "_law_wide" = true) (k43 : PySem.W.keepIn K (.ref f43) = true)
    (a44 : PySem.W.nsIn K mainGlobals "_law_great" = some (some (.ref f44))) (l44 : K.lookup f44 = some ⟨oc44, od44, .func (PySem.W.fnOf "_law_great" "_law_great" (defArgs tGreat) (defBody tGreat) (defScope tGreat) .none kV44 dc44 pm44 an44 cd44 ct44), sl44⟩)
      (q44 : PySem.W.codeIn K cd44 "_law_great" = true) (k44 : PySem.W.keepIn K (.ref f44) = true)
    (a45 : PySem.W.nsIn K mainGlobals "law" = some (some (.ref f45))) (l45 : K.lookup f45 = some ⟨oc45, od45, .func (PySem.W.fnOf "law" "law" (defArgs tLaw) (defBody tLaw) (defScope tLaw) .none kV45 dc45 pm45 an45 cd45 ct45), sl45⟩)
      (q45 : PySem.W.codeIn K cd45 "law" = true) (k45 : PySem.W.keepIn K (.ref f45) = true)
    (t1 : K.lookup c1 = some ⟨e1, dd1, .fields vs1, sm1⟩) (v1 : vs1[11]? = some (.ref p1)) (n1 : K.lookup p1 = none)
    (t6 : K.lookup c6 = some ⟨e6, dd6, .fields vs6, sm6⟩) (v6 : vs6[11]? = some (.ref p6)) (n6 : K.lookup p6 = none)
    (t16 : K.lookup c16 = some ⟨e16, dd16, .fields vs16, sm16⟩) (v16 : vs16[11]? = some (.ref p16)) (n16 : K.lookup p16 = none)
    (t13 : K.lookup c13 = some ⟨e13, dd13, .fields vs13, sm13⟩) (v13 : vs13[11]? = some (.ref p13)) (n13 : K.lookup p13 = none)
    (aL : PySem.W.nsIn K mainGlobals "LETTERS" = some (some uL)) (rL : RelV (.str lets) uL) (aN : PySem.W.nsIn K mainGlobals "LONGEST_NAME" = some (some uN)) (rN : RelV (.int 8) uN) (aM : PySem.W.nsIn K mainGlobals "MOST_TURNS" = some (some uM)) (rM : RelV (.int 30) uM)
    (aD : PySem.W.nsIn K mainGlobals "KIND_FORMS" = some (some (.ref dA))) (lD : K.lookup dA = some ⟨.type "dict", none, .dict es nD, #[]⟩) (tD : PySem.W.KeysLit w.params es.toList) (sD : (dA == sysModules) = false)
    (kD : KeysAre es.toList [("open", .ref o1), ("num", .ref o2), ("truth", .ref o3), ("pair", .ref o4), ("either", .ref o5), ("list", .ref o6), ("fun", .ref o7)])
    (lT1 : K.lookup o1 = some ⟨.type "tuple", dT1, .seq iT1 nT1, sT1⟩) (vT1 : iT1.size ≤ sizeLine ∧ Vals [V.str "name"] iT1.toList)
    (lT2 : K.lookup o2 = some ⟨.type "tuple", dT2, .seq iT2 nT2, sT2⟩) (vT2 : iT2.size ≤ sizeLine ∧ Vals [] iT2.toList)
    (lT3 : K.lookup o3 = some ⟨.type "tuple", dT3, .seq iT3 nT3, sT3⟩) (vT3 : iT3.size ≤ sizeLine ∧ Vals [] iT3.toList)
    (lT4 : K.lookup o4 = some ⟨.type "tuple", dT4, .seq iT4 nT4, sT4⟩) (vT4 : iT4.size ≤ sizeLine ∧ Vals [V.str "kind", V.str "kind"] iT4.toList)
    (lT5 : K.lookup o5 = some ⟨.type "tuple", dT5, .seq iT5 nT5, sT5⟩) (vT5 : iT5.size ≤ sizeLine ∧ Vals [V.str "kind", V.str "kind"] iT5.toList)
    (lT6 : K.lookup o6 = some ⟨.type "tuple", dT6, .seq iT6 nT6, sT6⟩) (vT6 : iT6.size ≤ sizeLine ∧ Vals [V.str "kind"] iT6.toList)
    (lT7 : K.lookup o7 = some ⟨.type "tuple", dT7, .seq iT7 nT7, sT7⟩) (vT7 : iT7.size ≤ sizeLine ∧ Vals [V.str "kind", V.str "kind"] iT7.toList)
    (aB : PySem.W.nsIn K mainGlobals "TERM_FORMS" = some (some (.ref dB))) (lB : K.lookup dB = some ⟨.type "dict", none, .dict esB nB, #[]⟩) (tB : PySem.W.KeysLit w.params esB.toList) (sB : (dB == sysModules) = false)
    (kB : KeysAre esB.toList [("name", .ref r1), ("fun", .ref r2), ("call", .ref r3), ("num", .ref r4), ("plus", .ref r5), ("less", .ref r6), ("truth", .ref r7), ("if", .ref r8), ("pair", .ref r9), ("first", .ref r10), ("second", .ref r11), ("left", .ref r12), ("right", .ref r13), ("case", .ref r14), ("none", .ref r15), ("more", .ref r16), ("fold", .ref r17), ("built", .ref r18), ("alike", .ref r19), ("fault", .ref r20), ("rounds", .ref r21), ("told", .ref r22)])
    (lR1 : K.lookup r1 = some ⟨.type "tuple", dR1, .seq iR1 nR1, sR1⟩) (vR1 : iR1.size ≤ sizeLine ∧ Vals [V.str "name"] iR1.toList)
    (lR2 : K.lookup r2 = some ⟨.type "tuple", dR2, .seq iR2 nR2, sR2⟩) (vR2 : iR2.size ≤ sizeLine ∧ Vals [V.str "name", V.str "argument", V.str "term"] iR2.toList)
    (lR3 : K.lookup r3 = some ⟨.type "tuple", dR3, .seq iR3 nR3, sR3⟩) (vR3 : iR3.size ≤ sizeLine ∧ Vals [V.str "term", V.str "term"] iR3.toList)
    (lR4 : K.lookup r4 = some ⟨.type "tuple", dR4, .seq iR4 nR4, sR4⟩) (vR4 : iR4.size ≤ sizeLine ∧ Vals [V.str "number"] iR4.toList)
    (lR5 : K.lookup r5 = some ⟨.type "tuple", dR5, .seq iR5 nR5, sR5⟩) (vR5 : iR5.size ≤ sizeLine ∧ Vals [V.str "term", V.str "term"] iR5.toList)
    (lR6 : K.lookup r6 = some ⟨.type "tuple", dR6, .seq iR6 nR6, sR6⟩) (vR6 : iR6.size ≤ sizeLine ∧ Vals [V.str "term", V.str "term"] iR6.toList)
    (lR7 : K.lookup r7 = some ⟨.type "tuple", dR7, .seq iR7 nR7, sR7⟩) (vR7 : iR7.size ≤ sizeLine ∧ Vals [V.str "truth"] iR7.toList)
    (lR8 : K.lookup r8 = some ⟨.type "tuple", dR8, .seq iR8 nR8, sR8⟩) (vR8 : iR8.size ≤ sizeLine ∧ Vals [V.str "term", V.str "term", V.str "term"] iR8.toList)
    (lR9 : K.lookup r9 = some ⟨.type "tuple", dR9, .seq iR9 nR9, sR9⟩) (vR9 : iR9.size ≤ sizeLine ∧ Vals [V.str "term", V.str "term"] iR9.toList)
    (lR10 : K.lookup r10 = some ⟨.type "tuple", dR10, .seq iR10 nR10, sR10⟩) (vR10 : iR10.size ≤ sizeLine ∧ Vals [V.str "term"] iR10.toList)
    (lR11 : K.lookup r11 = some ⟨.type "tuple", dR11, .seq iR11 nR11, sR11⟩) (vR11 : iR11.size ≤ sizeLine ∧ Vals [V.str "term"] iR11.toList)
    (lR12 : K.lookup r12 = some ⟨.type "tuple", dR12, .seq iR12 nR12, sR12⟩) (vR12 : iR12.size ≤ sizeLine ∧ Vals [V.str "term", V.str "data"] iR12.toList)
    (lR13 : K.lookup r13 = some ⟨.type "tuple", dR13, .seq iR13 nR13, sR13⟩) (vR13 : iR13.size ≤ sizeLine ∧ Vals [V.str "data", V.str "term"] iR13.toList)
    (lR14 : K.lookup r14 = some ⟨.type "tuple", dR14, .seq iR14 nR14, sR14⟩) (vR14 : iR14.size ≤ sizeLine ∧ Vals [V.str "term", V.str "name", V.str "term", V.str "name", V.str "term"] iR14.toList)
    (lR15 : K.lookup r15 = some ⟨.type "tuple", dR15, .seq iR15 nR15, sR15⟩) (vR15 : iR15.size ≤ sizeLine ∧ Vals [V.str "data"] iR15.toList)
    (lR16 : K.lookup r16 = some ⟨.type "tuple", dR16, .seq iR16 nR16, sR16⟩) (vR16 : iR16.size ≤ sizeLine ∧ Vals [V.str "term", V.str "term"] iR16.toList)
    (lR17 : K.lookup r17 = some ⟨.type "tuple", dR17, .seq iR17 nR17, sR17⟩) (vR17 : iR17.size ≤ sizeLine ∧ Vals [V.str "term", V.str "term", V.str "name", V.str "name", V.str "term"] iR17.toList)
    (lR18 : K.lookup r18 = some ⟨.type "tuple", dR18, .seq iR18 nR18, sR18⟩) (vR18 : iR18.size ≤ sizeLine ∧ Vals [V.str "data", V.str "name", V.str "name", V.str "name", V.str "term"] iR18.toList)
    (lR19 : K.lookup r19 = some ⟨.type "tuple", dR19, .seq iR19 nR19, sR19⟩) (vR19 : iR19.size ≤ sizeLine ∧ Vals [V.str "term", V.str "term"] iR19.toList)
    (lR20 : K.lookup r20 = some ⟨.type "tuple", dR20, .seq iR20 nR20, sR20⟩) (vR20 : iR20.size ≤ sizeLine ∧ Vals [V.str "data"] iR20.toList)
    (lR21 : K.lookup r21 = some ⟨.type "tuple", dR21, .seq iR21 nR21, sR21⟩) (vR21 : iR21.size ≤ sizeLine ∧ Vals [V.str "turns", V.str "term", V.str "name", V.str "term"] iR21.toList)
    (lR22 : K.lookup r22 = some ⟨.type "tuple", dR22, .seq iR22 nR22, sR22⟩) (vR22 : iR22.size ≤ sizeLine ∧ Vals [V.str "name", V.str "fills"] iR22.toList)
    (z1 : PySem.W.nsIn K mainGlobals "range" = some none) (z2 : PySem.W.nsIn K mainGlobals "len" = some none) (z3 : PySem.W.nsIn K mainGlobals "list" = some none) (z4 : PySem.W.nsIn K mainGlobals "reversed" = some none) (z5 : PySem.W.nsIn K mainGlobals "tuple" = some none) (z6 : PySem.W.nsIn K mainGlobals "all" = some none) (z7 : PySem.W.nsIn K mainGlobals "isinstance" = some none) (z8 : PySem.W.nsIn K mainGlobals "bool" = some none) (z9 : PySem.W.nsIn K mainGlobals "str" = some none) (z10 : PySem.W.nsIn K mainGlobals "int" = some none) (z11 : PySem.W.nsIn K mainGlobals "zip" = some none) (z12 : PySem.W.nsIn K mainGlobals "sorted" = some none) (z13 : PySem.W.nsIn K mainGlobals "min" = some none) (z14 : PySem.W.nsIn K mainGlobals "set" = some none) (z15 : PySem.W.nsIn K mainGlobals "repr" = some none) (z16 : PySem.W.nsIn K mainGlobals "sum" = some none) (z17 : PySem.W.nsIn K mainGlobals "dict" = some none) :
    LawG l w K CX0 100 63 "_law_script" mg fa h := by
  have e := hfa.symm.trans (PySem.W.mg_of X G a45)
  cases e
  have F1 := fun_mk (st := tName) l1 q1 k1
  have b1 := F1.binds (ps := ["thing"]) fun _ _ _ _ _ _ us hl => match us, hl with | [_], _ => rfl
  have g1 := PySem.W.mg_of X G a1
  have F2 := fun_mk (st := tTruth) l2 q2 k2
  have b2 := F2.binds (ps := ["thing"]) fun _ _ _ _ _ _ us hl => match us, hl with | [_], _ => rfl
  have g2 := PySem.W.mg_of X G a2
  have F3 := fun_mk (st := tWhole) l3 q3 k3
  have b3 := F3.binds (ps := ["thing"]) fun _ _ _ _ _ _ us hl => match us, hl with | [_], _ => rfl
  have g3 := PySem.W.mg_of X G a3
  have F4 := fun_mk (st := tNumber) l4 q4 k4
  have b4 := F4.binds (ps := ["thing"]) fun _ _ _ _ _ _ us hl => match us, hl with | [_], _ => rfl
  have g4 := PySem.W.mg_of X G a4
  have F5 := fun_mk (st := tTagged) l5 q5 k5
  have b5 := F5.binds (ps := ["thing", "word", "many"]) fun _ _ _ _ _ _ us hl => match us, hl with | [_, _, _], _ => rfl
  have g5 := PySem.W.mg_of X G a5
  have F6 := fun_mk (st := tRising) l6 q6 k6
  have b6 := F6.binds (ps := ["row"]) fun _ _ _ _ _ _ us hl => match us, hl with | [_], _ => rfl
  have g6 := PySem.W.mg_of X G a6
  have F7 := fun_mk (st := tIsData) l7 q7 k7
  have b7 := F7.binds (ps := ["thing"]) fun _ _ _ _ _ _ us hl => match us, hl with | [_], _ => rfl
  have g7 := PySem.W.mg_of X G a7
  have F8 := fun_mk (st := tForm) l8 q8 k8
  have b8 := F8.binds (ps := ["thing"]) fun _ _ _ _ _ _ us hl => match us, hl with | [_], _ => rfl
  have g8 := PySem.W.mg_of X G a8
  have F9 := fun_mk (st := tWithin) l9 q9 k9
  have b9 := F9.binds (ps := ["kind"]) fun _ _ _ _ _ _ us hl => match us, hl with | [_], _ => rfl
  have g9 := PySem.W.mg_of X G a9
  have F10 := fun_mk (st := tIsFirst) l10 q10 k10
  have b10 := F10.binds (ps := ["thing"]) fun _ _ _ _ _ _ us hl => match us, hl with | [_], _ => rfl
  have g10 := PySem.W.mg_of X G a10
  have F11 := fun_mk (st := tIsArg) l11 q11 k11
  have b11 := F11.binds (ps := ["thing"]) fun _ _ _ _ _ _ us hl => match us, hl with | [_], _ => rfl
  have g11 := PySem.W.mg_of X G a11
  have F12 := fun_mk (st := tIsTerm) l12 q12 k12
  have b12 := F12.binds (ps := ["thing"]) fun _ _ _ _ _ _ us hl => match us, hl with | [_], _ => rfl
  have g12 := PySem.W.mg_of X G a12
  have F13 := fun_mk (st := tHasTerm) l13 q13 k13
  have b13 := F13.binds (ps := ["thing"]) fun _ _ _ _ _ _ us hl => match us, hl with | [_], _ => rfl
  have g13 := PySem.W.mg_of X G a13
  have F14 := fun_mk (st := tFits) l14 q14 k14
  have b14 := F14.binds (ps := ["role", "part"]) fun _ _ _ _ _ _ us hl => match us, hl with | [_, _], _ => rfl
  have g14 := PySem.W.mg_of X G a14
  have F15 := fun_mk (st := tTurns) l15 q15 k15
  have b15 := F15.binds (ps := ["thing"]) fun _ _ _ _ _ _ us hl => match us, hl with | [_], _ => rfl
  have g15 := PySem.W.mg_of X G a15
  have F16 := fun_mk (st := tFills) l16 q16 k16
  have b16 := F16.binds (ps := ["thing"]) fun _ _ _ _ _ _ us hl => match us, hl with | [_], _ => rfl
  have g16 := PySem.W.mg_of X G a16
  have F17 := fun_mk (st := tFill) l17 q17 k17
  have b17 := F17.binds (ps := ["thing"]) fun _ _ _ _ _ _ us hl => match us, hl with | [_], _ => rfl
  have g17 := PySem.W.mg_of X G a17
  have F18 := fun_mk (st := tTermsIn) l18 q18 k18
  have b18 := F18.binds (ps := ["term"]) fun _ _ _ _ _ _ us hl => match us, hl with | [_], _ => rfl
  have g18 := PySem.W.mg_of X G a18
  have F19 := fun_mk (st := tDeck) l19 q19 k19
  have b19 := F19.binds (ps := ["_law_script"]) fun _ _ _ _ _ _ us hl => match us, hl with | [_], _ => rfl
  have g19 := PySem.W.mg_of X G a19
  have F20 := fun_mk (st := tMixed) l20 q20 k20
  have b20 := F20.binds (ps := ["_law_cell", "_law_k"]) fun _ _ _ _ _ _ us hl => match us, hl with | [_, _], _ => rfl
  have g20 := PySem.W.mg_of X G a20
  have F21 := fun_mk (st := tDraw) l21 q21 k21
  have b21 := F21.binds (ps := ["_law_deck_here", "_law_most"]) fun _ _ _ _ _ _ us hl => match us, hl with | [_, _], _ => rfl
  have g21 := PySem.W.mg_of X G a21
  have F22 := fun_mk (st := tNames) l22 q22 k22
  have b22 := F22.binds (ps := ["_law_deck_here", "_law_many"]) fun _ _ _ _ _ _ us hl => match us, hl with | [_, _], _ => rfl
  have g22 := PySem.W.mg_of X G a22
  have F23 := fun_mk (st := tCalled) l23 q23 k23
  have b23 := F23.binds (ps := psCalled) fun _ _ _ _ _ _ us hl => match us, hl with | [_, _], _ => rfl
  have g23 := PySem.W.mg_of X G a23
  have F24 := fun_mk (st := tData) l24 q24 k24
  have b24 := F24.binds (ps := psData) fun _ _ _ _ _ _ us hl => match us, hl with | [_, _, _], _ => rfl
  have g24 := PySem.W.mg_of X G a24
  have F25 := fun_mk (st := tCarried) l25 q25 k25
  have b25 := F25.binds (ps := psCarried) fun _ _ _ _ _ _ us hl => match us, hl with | [_, _], _ => rfl
  have g25 := PySem.W.mg_of X G a25
  have F26 := fun_mk (st := tForms) l26 q26 k26
  have b26 := F26.binds (ps := []) fun _ _ _ _ _ _ us hl => match us, hl with | [], _ => rfl
  have g26 := PySem.W.mg_of X G a26
  have F27 := fun_mk (st := tLeaf) l27 q27 k27
  have b27 := F27.binds (ps := psLeaf) fun _ _ _ _ _ _ us hl => match us, hl with | [_, _, _], _ => rfl
  have g27 := PySem.W.mg_of X G a27
  have F28 := fun_mk (st := tTerm) l28 q28 k28
  have b28 := F28.binds (ps := psTerm) fun _ _ _ _ _ _ us hl => match us, hl with | [_, _, _, _], _ => rfl
  have g28 := PySem.W.mg_of X G a28
  have F29 := fun_mk (st := tLName) l29 q29 k29
  have b29 := F29.binds (ps := ["_law_thing"]) fun _ _ _ _ _ _ us hl => match us, hl with | [_], _ => rfl
  have g29 := PySem.W.mg_of X G a29
  have F30 := fun_mk (st := tLData) l30 q30 k30
  have b30 := F30.binds (ps := ["_law_thing"]) fun _ _ _ _ _ _ us hl => match us, hl with | [_], _ => rfl
  have g30 := PySem.W.mg_of X G a30
  have F31 := fun_mk (st := tLCar) l31 q31 k31
  have b31 := F31.binds (ps := ["_law_thing"]) fun _ _ _ _ _ _ us hl => match us, hl with | [_], _ => rfl
  have g31 := PySem.W.mg_of X G a31
  have F32 := fun_mk (st := tLWhole) l32 q32 k32
  have b32 := F32.binds (ps := ["_law_thing"]) fun _ _ _ _ _ _ us hl => match us, hl with | [_], _ => rfl
  have g32 := PySem.W.mg_of X G a32
  have F33 := fun_mk (st := tLFills) l33 q33 k33
  have b33 := F33.binds (ps := ["_law_thing"]) fun _ _ _ _ _ _ us hl => match us, hl with | [_], _ => rfl
  have g33 := PySem.W.mg_of X G a33
  have F34 := fun_mk (st := tLAsk) l34 q34 k34
  have b34 := F34.binds (ps := psLAsk) fun _ _ _ _ _ _ us hl => match us, hl with | [_, _], _ => rfl
  have g34 := PySem.W.mg_of X G a34
  have F35 := fun_mk (st := tLTrm) l35 q35 k35
  have b35 := F35.binds (ps := ["_law_thing"]) fun _ _ _ _ _ _ us hl => match us, hl with | [_], _ => rfl
  have g35 := PySem.W.mg_of X G a35
  have F36 := fun_mk (st := tPick) l36 q36 k36
  have b36 := F36.binds (ps := ["_law_picks", "_law_many"]) fun _ _ _ _ _ _ us hl => match us, hl with | [_, _], _ => rfl
  have g36 := PySem.W.mg_of X G a36
  have F37 := fun_mk (st := tOdd) l37 q37 k37
  have b37 := F37.binds (ps := ["_law_picks"]) fun _ _ _ _ _ _ us hl => match us, hl with | [_], _ => rfl
  have g37 := PySem.W.mg_of X G a37
  have F38 := fun_mk (st := tOther) l38 q38 k38
  have b38 := F38.binds (ps := psOther) fun _ _ _ _ _ _ us hl => match us, hl with | [_, _], _ => rfl
  have g38 := PySem.W.mg_of X G a38
  have F39 := fun_mk (st := tBent) l39 q39 k39
  have b39 := F39.binds (ps := psBent) fun _ _ _ _ _ _ us hl => match us, hl with | [_, _], _ => rfl
  have g39 := PySem.W.mg_of X G a39
  have F40 := fun_mk (st := tParts) l40 q40 k40
  have b40 := F40.binds (ps := ["_law_thing"]) fun _ _ _ _ _ _ us hl => match us, hl with | [_], _ => rfl
  have g40 := PySem.W.mg_of X G a40
  have F41 := fun_mk (st := tAns) l41 q41 k41
  have b41 := F41.binds (ps := ["_law_thing"]) fun _ _ _ _ _ _ us hl => match us, hl with | [_], _ => rfl
  have g41 := PySem.W.mg_of X G a41
  have F42 := fun_mk (st := tChain) l42 q42 k42
  have b42 := F42.binds (ps := ["_law_deck_here"]) fun _ _ _ _ _ _ us hl => match us, hl with | [_], _ => rfl
  have g42 := PySem.W.mg_of X G a42
  have F43 := fun_mk (st := tWide) l43 q43 k43
  have b43 := F43.binds (ps := ["_law_deck_here"]) fun _ _ _ _ _ _ us hl => match us, hl with | [_], _ => rfl
  have g43 := PySem.W.mg_of X G a43
  have F44 := fun_mk (st := tGreat) l44 q44 k44
  have b44 := F44.binds (ps := ["_law_deck_here"]) fun _ _ _ _ _ _ us hl => match us, hl with | [_], _ => rfl
  have g44 := PySem.W.mg_of X G a44
  have F45 := fun_mk (st := tLaw) l45 q45 k45
  have m_range := PySem.W.mg_none_of X G z1
  have m_len := PySem.W.mg_none_of X G z2
  have m_list := PySem.W.mg_none_of X G z3
  have m_reversed := PySem.W.mg_none_of X G z4
  have m_tuple := PySem.W.mg_none_of X G z5
  have m_all := PySem.W.mg_none_of X G z6
  have m_isinstance := PySem.W.mg_none_of X G z7
  have m_bool := PySem.W.mg_none_of X G z8
  have m_str := PySem.W.mg_none_of X G z9
  have m_int := PySem.W.mg_none_of X G z10
  have m_zip := PySem.W.mg_none_of X G z11
  have m_sorted := PySem.W.mg_none_of X G z12
  have m_min := PySem.W.mg_none_of X G z13
  have m_set := PySem.W.mg_none_of X G z14
  have m_repr := PySem.W.mg_none_of X G z15
  have m_sum := PySem.W.mg_none_of X G z16
  have m_dict := PySem.W.mg_none_of X G z17
  have C1 := Kg.funC_mk (st := tName) l1 q1
  obtain ⟨h1, hc1⟩ := Kg.tabOf_at X TT1 g1 l1 t1 v1
  have C6 := Kg.funC_mk (st := tRising) l6 q6
  obtain ⟨h6, hc6⟩ := Kg.tabOf_at X TT6 g6 l6 t6 v6
  have C16 := Kg.funC_mk (st := tFills) l16 q16
  obtain ⟨h16, hc16⟩ := Kg.tabOf_at X TT16 g16 l16 t16 v16
  have C13 := Kg.funC_mk (st := tHasTerm) l13 q13
  obtain ⟨h13, hc13⟩ := Kg.tabOf_at X TT13 g13 l13 t13 v13
  have gL := PySem.W.mg_of X G aL
  have gN := PySem.W.mg_of X G aN
  have gM := PySem.W.mg_of X G aM
  have gD := PySem.W.mg_of X G aD
  have gB := PySem.W.mg_of X G aB
  have hD : Forms K w dA es nD := by
    refine ⟨⟨lD, tD, sD⟩, fun z hz => ?_, fun z m hz => ?_⟩
    · rw [ns_keys lD kD]
      unfold ar at hz
      repeat' split at hz
      all_goals first | cases hz | skip
      rename_i c1 c2 c3 c4 c5 c6 c7
      simp only [List.lookup_cons, beq_eq_false_iff_ne.mpr c1, beq_eq_false_iff_ne.mpr c2, beq_eq_false_iff_ne.mpr c3, beq_eq_false_iff_ne.mpr c4, beq_eq_false_iff_ne.mpr c5, beq_eq_false_iff_ne.mpr c6, beq_eq_false_iff_ne.mpr c7, List.lookup_nil]
    · unfold ar at hz
      repeat' split at hz
      all_goals first | (rename_i c1; subst c1; cases hz) | cases hz
      · exact ⟨o1, [V.str "name"], (ns_keys lD kD _).trans rfl, rfl, fun H => .inr ⟨_, iT1, nT1, lT1, rfl, rfl, vT1.1, vT1.2⟩⟩
      · exact ⟨o2, [], (ns_keys lD kD _).trans rfl, rfl, fun H => .inr ⟨_, iT2, nT2, lT2, rfl, rfl, vT2.1, vT2.2⟩⟩
      · exact ⟨o3, [], (ns_keys lD kD _).trans rfl, rfl, fun H => .inr ⟨_, iT3, nT3, lT3, rfl, rfl, vT3.1, vT3.2⟩⟩
      · exact ⟨o4, [V.str "kind", V.str "kind"], (ns_keys lD kD _).trans rfl, rfl, fun H => .inr ⟨_, iT4, nT4, lT4, rfl, rfl, vT4.1, vT4.2⟩⟩
      · exact ⟨o5, [V.str "kind", V.str "kind"], (ns_keys lD kD _).trans rfl, rfl, fun H => .inr ⟨_, iT5, nT5, lT5, rfl, rfl, vT5.1, vT5.2⟩⟩
      · exact ⟨o6, [V.str "kind"], (ns_keys lD kD _).trans rfl, rfl, fun H => .inr ⟨_, iT6, nT6, lT6, rfl, rfl, vT6.1, vT6.2⟩⟩
      · exact ⟨o7, [V.str "kind", V.str "kind"], (ns_keys lD kD _).trans rfl, rfl, fun H => .inr ⟨_, iT7, nT7, lT7, rfl, rfl, vT7.1, vT7.2⟩⟩
  have hB : TForms K w dB esB nB := by
    have r2 : Rl2 (fun rs u => ∃ t, u = Value.ref t ∧ ∀ G : Hp, SqT K G t (rs.map V.str)) tblT [("name", .ref r1), ("fun", .ref r2), ("call", .ref r3), ("num", .ref r4), ("plus", .ref r5), ("less", .ref r6), ("truth", .ref r7), ("if", .ref r8), ("pair", .ref r9), ("first", .ref r10), ("second", .ref r11), ("left", .ref r12), ("right", .ref r13), ("case", .ref r14), ("none", .ref r15), ("more", .ref r16), ("fold", .ref r17), ("built", .ref r18), ("alike", .ref r19), ("fault", .ref r20), ("rounds", .ref r21), ("told", .ref r22)] := (.cons ⟨r1, rfl, fun H => .inr ⟨_, iR1, nR1, lR1, rfl, rfl, vR1.1, vR1.2⟩⟩ (.cons ⟨r2, rfl, fun H => .inr ⟨_, iR2, nR2, lR2, rfl, rfl, vR2.1, vR2.2⟩⟩ (.cons ⟨r3, rfl, fun H => .inr ⟨_, iR3, nR3, lR3, rfl, rfl, vR3.1, vR3.2⟩⟩ (.cons ⟨r4, rfl, fun H => .inr ⟨_, iR4, nR4, lR4, rfl, rfl, vR4.1, vR4.2⟩⟩ (.cons ⟨r5, rfl, fun H => .inr ⟨_, iR5, nR5, lR5, rfl, rfl, vR5.1, vR5.2⟩⟩ (.cons ⟨r6, rfl, fun H => .inr ⟨_, iR6, nR6, lR6, rfl, rfl, vR6.1, vR6.2⟩⟩ (.cons ⟨r7, rfl, fun H => .inr ⟨_, iR7, nR7, lR7, rfl, rfl, vR7.1, vR7.2⟩⟩ (.cons ⟨r8, rfl, fun H => .inr ⟨_, iR8, nR8, lR8, rfl, rfl, vR8.1, vR8.2⟩⟩ (.cons ⟨r9, rfl, fun H => .inr ⟨_, iR9, nR9, lR9, rfl, rfl, vR9.1, vR9.2⟩⟩ (.cons ⟨r10, rfl, fun H => .inr ⟨_, iR10, nR10, lR10, rfl, rfl, vR10.1, vR10.2⟩⟩ (.cons ⟨r11, rfl, fun H => .inr ⟨_, iR11, nR11, lR11, rfl, rfl, vR11.1, vR11.2⟩⟩ (.cons ⟨r12, rfl, fun H => .inr ⟨_, iR12, nR12, lR12, rfl, rfl, vR12.1, vR12.2⟩⟩ (.cons ⟨r13, rfl, fun H => .inr ⟨_, iR13, nR13, lR13, rfl, rfl, vR13.1, vR13.2⟩⟩ (.cons ⟨r14, rfl, fun H => .inr ⟨_, iR14, nR14, lR14, rfl, rfl, vR14.1, vR14.2⟩⟩ (.cons ⟨r15, rfl, fun H => .inr ⟨_, iR15, nR15, lR15, rfl, rfl, vR15.1, vR15.2⟩⟩ (.cons ⟨r16, rfl, fun H => .inr ⟨_, iR16, nR16, lR16, rfl, rfl, vR16.1, vR16.2⟩⟩ (.cons ⟨r17, rfl, fun H => .inr ⟨_, iR17, nR17, lR17, rfl, rfl, vR17.1, vR17.2⟩⟩ (.cons ⟨r18, rfl, fun H => .inr ⟨_, iR18, nR18, lR18, rfl, rfl, vR18.1, vR18.2⟩⟩ (.cons ⟨r19, rfl, fun H => .inr ⟨_, iR19, nR19, lR19, rfl, rfl, vR19.1, vR19.2⟩⟩ (.cons ⟨r20, rfl, fun H => .inr ⟨_, iR20, nR20, lR20, rfl, rfl, vR20.1, vR20.2⟩⟩ (.cons ⟨r21, rfl, fun H => .inr ⟨_, iR21, nR21, lR21, rfl, rfl, vR21.1, vR21.2⟩⟩ (.cons ⟨r22, rfl, fun H => .inr ⟨_, iR22, nR22, lR22, rfl, rfl, vR22.1, vR22.2⟩⟩ .nil))))))))))))))))))))))
    refine ⟨⟨lB, tB, sB⟩, fun z hz => ?_, fun z rs hz => ?_⟩
    · rw [ns_keys lB kB, (r2.look z).1 hz]
    · obtain ⟨u, hu, t, rfl, ht⟩ := (r2.look z).2 rs hz
      exact ⟨t, by rw [ns_keys lB kB, hu], ht⟩
  refine ⟨PySem.W.fnOf "law" "law" (defArgs tLaw) (defBody tLaw) (defScope tLaw) .none kV45 dc45 pm45 an45 cd45 ct45, [(c1, p1), (c6, p6), (c16, p16), (c13, p13)], spLaw K [p1, p6, p16, p13], ?T, fun s v => .of_eq rfl, fun H a ns hl _ hH hS => ⟨a, ns, rfl, hS, hl, ?S, fun _ => rfl⟩, fun base _ _ TB => ?_⟩
  case T =>
    intro p hp
    rcases List.mem_cons.mp hp with e | hp
    · rw [e]; exact ⟨h1, n1, hc1⟩
    rcases List.mem_cons.mp hp with e | hp
    · rw [e]; exact ⟨h6, n6, hc6⟩
    rcases List.mem_cons.mp hp with e | hp
    · rw [e]; exact ⟨h16, n16, hc16⟩
    · rw [List.mem_singleton.mp hp]; exact ⟨h13, n13, hc13⟩
  case S =>
    intro p hp
    have q : ∀ p ∈ [p1, p6, p16, p13], H p = some (.tbl #[]) := by
      intro p hp
      rcases List.mem_cons.mp hp with e | hp
      · rw [e]; exact hH (c1, p1) (by simp)
      rcases List.mem_cons.mp hp with e | hp
      · rw [e]; exact hH (c6, p6) (by simp)
      rcases List.mem_cons.mp hp with e | hp
      · rw [e]; exact hH (c16, p16) (by simp)
      · rw [List.mem_singleton.mp hp]; exact hH (c13, p13) (by simp)
    exact ⟨#[], q p hp, True.intro⟩
  have T1 := tabX (TB (c1, p1) (by simp))
  have M1 : p1 ∈ [p1, p6, p16, p13] := by simp
  have T6 := tabX (TB (c6, p6) (by simp))
  have M6 : p6 ∈ [p1, p6, p16, p13] := by simp
  have T16 := tabX (TB (c16, p16) (by simp))
  have M16 : p16 ∈ [p1, p6, p16, p13] := by simp
  have T13 := tabX (TB (c13, p13) (by simp))
  have M13 : p13 ∈ [p1, p6, p16, p13] := by simp
  have D0 : ∀ k, FnOk l.prog w K mg base CX0 (k + 2) f21 _ ["_law_deck_here", "_law_most"] spDraw := fun k => okDraw F21 F20 b20 g20
  have N0 : ∀ k, FnOk l.prog w K mg base CX0 (k + 4) f1 _ ["thing"] (spName [p1, p6, p16, p13]) := fun k => okName C1 T1 M1 gL rL gN rN m_all m_isinstance m_str m_len
  have O0 : ∀ k, FnOk l.prog w K mg base CX0 (k + 5) f8 _ ["thing"] (spForm [p1, p6, p16, p13]) := fun k => okForm F8 (N0 k) b1 g1 k1 gD hD m_isinstance m_tuple m_str m_len
  have I0 : ∀ k, FnOk l.prog w K mg base CX0 (k + 6) f7 _ ["thing"] (spIsData [p1, p6, p16, p13]) := fun k => okIsData F7 (O0 k) b8 g8 k8 (fun N => okWithin F9) b9 g9 k9
  have TG : ∀ k, FnOk l.prog w K mg base CX0 (k + 1) f5 _ ["thing", "word", "many"] spTagged := fun k => okTagged F5 m_isinstance m_tuple m_len
  have FI : ∀ k, FnOk l.prog w K mg base CX0 (k + 7) f10 _ ["thing"] (spYes [p1, p6, p16, p13] fstD) := fun k => okIsFirst F10 (TG (k + 5)) b5 g5 k5 (I0 k) b7 g7 k7
  have AR : ∀ k, FnOk l.prog w K mg base CX0 (k + 8) f11 _ ["thing"] (spYes [p1, p6, p16, p13] argD) := fun k => okIsArg F11 (FI k) b10 g10 k10 (I0 (k + 1)) b7 g7 k7
  have WH : ∀ k, FnOk l.prog w K mg base CX0 (k + 1) f3 _ ["thing"] (spYesS whlD) := fun k => okWhole F3 m_isinstance m_bool m_int
  have NU : ∀ k, FnOk l.prog w K mg base CX0 (k + 2) f4 _ ["thing"] (spYesS numD) := fun k => okNumber F4 (WH k) b3 g3 k3
  have TU : ∀ k, FnOk l.prog w K mg base CX0 (k + 2) f15 _ ["thing"] (spYesS trnD) := fun k => okTurns F15 (WH k) b3 g3 k3 gM rM
  have TR : ∀ k, FnOk l.prog w K mg base CX0 (k + 1) f2 _ ["thing"] (spYesS Dt.isBl) := fun k => okTruth F2 m_isinstance m_bool
  have RI : ∀ k, FnOk l.prog w K mg base CX0 (k + 4) f6 _ ["row"] (spRising [p1, p6, p16, p13]) := fun k => okRising C6 T6 M6 m_all m_zip
  have FL : ∀ k, FnOk l.prog w K mg base CX0 (k + 7) f17 _ ["thing"] (spYes [p1, p6, p16, p13] filD1) := fun k => okFill F17 (N0 (k + 2)) b1 g1 k1 (I0 k) b7 g7 k7 m_isinstance m_tuple m_len
  have FS : ∀ k, FnOk l.prog w K mg base CX0 (k + 11) f16 _ ["thing"] (spYes [p1, p6, p16, p13] filD) := fun k => okFills (k := k + 7) C16 T16 M16 (FL k) b17 g17 k17 (RI (k + 6)) b6 g6 k6 m_all m_isinstance m_tuple
  have FT : FnOk l.prog w K mg base CX0 12 f14 _ ["role", "part"] (spFits [p1, p6, p16, p13]) := okFits (k := 11) F14 (N0 7) b1 g1 k1 (NU 9) b4 g4 k4 (TR 10) b2 g2 k2 (TU 9) b15 g15 k15 (I0 5) b7 g7 k7 (AR 3) b11 g11 k11 (FS 0) b16 g16 k16
  have HF : FnOk l.prog w K mg base CX0 16 f13 _ ["thing"] (spYes [p1, p6, p16, p13] tfrm) := okHasTerm (k := 12) C13 T13 M13 FT b14 g14 k14 gB hB m_all m_zip m_isinstance m_tuple m_str m_len
  have IT : FnOk l.prog w K mg base CX0 17 f12 _ ["thing"] (spYes [p1, p6, p16, p13] trm) := okIsTerm (k := 16) F12 HF b13 g13 k13 (fun N => okTermsIn (k := 15) F18 gB hB m_zip) b18 g18 k18
  have DA := okData (P := l.prog) (w := w) (base := base) F24 b24 g24 D0 b21 g21 k21 m_len m_min 4
  have NM := okNames (P := l.prog) (w := w) (base := base) (k := 0) F22 (D0 0) b21 g21 k21 m_list m_range
  have CA := okCalled (P := l.prog) (w := w) (base := base) (k := 3) F23 (D0 1) b21 g21 k21 NM b22 g22 k22
  have CR := okCarried (P := l.prog) (w := w) (base := base) (k := 6) F25 (D0 4) b21 g21 k21 DA b24 g24 k24 m_range
  have FO : ∀ k, FnOk l.prog w K mg base CX0 (k + 1) f26 _ [] spForms := fun k => okForms F26
  have LF := okLeaf (P := l.prog) (w := w) (base := base) (k := 7) F27 (D0 5) b21 g21 k21 (upOk DA (by decide)) b24 g24 k24 CR b25 g25 k25 m_len m_sorted m_tuple
  have TE := okTerm (P := l.prog) (w := w) (base := base) (k := 8) F28 b28 g28 (fun n => upOk (D0 6) (Nat.le_add_right _ _)) b21 g21 k21 (fun n => upOk (FO 7) (Nat.le_add_right _ _)) b26 g26 k26 (fun n => upOk LF (Nat.le_add_right _ _)) b27 g27 k27 m_len m_list m_tuple m_int
  have DE := okDeck (P := l.prog) (w := w) (base := base) (k := 0) F19 m_list m_reversed
  have LN : ∀ k, FnOk l.prog w K mg base CX0 (k + 1) f29 _ ["_law_thing"] (spLYes nmD) := fun k => okLName F29 m_isinstance m_str m_len
  have LD := okLData (P := l.prog) (w := w) (base := base) F30 b30 g30 F29 b29 g29 m_isinstance m_tuple m_str m_len
  have LC : ∀ n, FnOk l.prog w K mg base CX0 (n + 3) f31 _ ["_law_thing"] (spLDt n argD) := fun n => okLCar F31 (LD n) b30 g30 k30 m_isinstance m_tuple m_str m_len
  have LW : ∀ k, FnOk l.prog w K mg base CX0 (k + 1) f32 _ ["_law_thing"] (spYesS whlD) := fun k => okLWhole F32 m_isinstance m_bool m_int
  have LL : ∀ n, FnOk l.prog w K mg base CX0 (n + 3) f33 _ ["_law_thing"] (spLFills n) := fun n => okLFills F33 (LN (n + 1)) b29 g29 k29 (LD n) b30 g30 k30 m_isinstance m_tuple m_len m_sorted m_set
  have LT := okLTerm (P := l.prog) (w := w) (base := base) (c := 4) F35 b35 g35 F34 b34 g34 k34 (fun n => upOk (FO 0) (by omega)) b26 g26 k26 (fun n => upOk (LN 0) (by omega)) b29 g29 k29 (fun n => upOk (LD n) (by omega)) b30 g30 k30 (fun n => upOk (LC n) (by omega)) b31 g31 k31 (fun n => upOk (LW 0) (by omega)) b32 g32 k32 (fun n => upOk (LL n) (by omega)) b33 g33 k33 m_isinstance m_tuple m_str m_len m_range m_bool
  have PK : ∀ k, FnOk l.prog w K mg base CX0 (k + 1) f36 _ ["_law_picks", "_law_many"] spPick := fun k => okPick F36
  have OD : ∀ k, FnOk l.prog w K mg base CX0 (k + 2) f37 _ ["_law_picks"] spOdd := fun k => okOdd F37 (PK k) b36 g36 k36
  have OT : ∀ k, FnOk l.prog w K mg base CX0 (k + 3) f38 _ psOther spOther := fun k => okOther F38 (PK (k + 1)) b36 g36 k36 (OD k) b37 g37 k37 m_isinstance m_bool m_int m_str m_tuple m_len m_list
  have BE := okBent (P := l.prog) (w := w) (base := base) (k := 4) F39 b39 g39 (fun n => upOk (PK 0) (by omega)) b36 g36 k36 (fun n => upOk (OT 0) (by omega)) b38 g38 k38 m_isinstance m_tuple m_len
  have PA := okParts (P := l.prog) (w := w) (base := base) F40 b40 g40 m_isinstance m_tuple m_list m_sum m_dict
  have AN := okAns (P := l.prog) (w := w) (base := base) (k := 0) (T := [p1, p6, p16, p13]) F41 (upOk (PA 32) (by decide)) b40 g40 k40 (upOk IT (by decide)) b12 g12 k12 (upOk (LT 31) (by decide)) b35 g35 k35 m_repr m_isinstance m_bool
  have CH := okChain (P := l.prog) (w := w) (base := base) (k := 2) F42 (D0 0) b21 g21 k21 m_range
  have WI := okWide (P := l.prog) (w := w) (base := base) (k := 2) F43 (D0 0) b21 g21 k21 m_range m_tuple
  have GR := okGreat (P := l.prog) (w := w) (base := base) (k := 2) F44 (D0 0) b21 g21 k21 m_range m_len
  exact (okLaw (k := 76) F45 (upOk DE (by decide)) b19 g19 k19 (upOk CA (by decide)) b23 g23 k23 (D0 74) b21 g21 k21 (upOk (TE 13) (by decide)) b28 g28 k28 (PK 75) b36 g36 k36 (upOk (BE 24) (by decide)) b39 g39 k39 (AN.up (by decide)) b41 g41 k41 (upOk IT (by decide)) b12 g12 k12 (upOk CH (by decide)) b42 g42 k42 (upOk WI (by decide)) b43 g43 k43 (upOk GR (by decide)) b44 g44 k44 m_range).up (by decide)
end Kq
open PySem PySem.W PyProof.Rows
set_option maxRecDepth 100000 in
set_option maxHeartbeats 0 in
theorem PySem.Challenge.cw_kindalone_k09_what_is_a_term_holds : PySem.Challenge.rw_kindalone_k09_what_is_a_term.Holds := by
  w_on; o_law; k_head; (case hw => w_witness2)
  k_fill
  refine Kf.walk_ofG (l := PySem.Challenge.rw_kindalone_k09_what_is_a_term) (n := 63) (k := 100) (x := "_law_script") (CX := fun _ => L2.CX0) rfl (by decide) rfl ⟨rfl, by decide, by decide⟩ (fun w h Y => PySem.W.kIn_of Y) ?F (fun _ _ _ _ _ h => h)
  case F =>
    intro w mg fa h Y KX G hmg tabs
    have TT1 : Kg.TabOf mg h "is_name" := by
      refine Kq.tt_of ?_ tabs
      decide +kernel
    have TT6 : Kg.TabOf mg h "is_rising" := by
      refine Kq.tt_of ?_ tabs
      decide +kernel
    have TT16 : Kg.TabOf mg h "is_fills" := by
      refine Kq.tt_of ?_ tabs
      decide +kernel
    have TT13 : Kg.TabOf mg h "has_term_form" := by
      refine Kq.tt_of ?_ tabs
      decide +kernel
    refine' Kq.all_mk KX G hmg TT1 TT6 TT16 TT13 ?a1 ?l1 ?q1 ?k1 ?a2 ?l2 ?q2 ?k2 ?a3 ?l3 ?q3 ?k3 ?a4 ?l4 ?q4 ?k4 ?a5 ?l5 ?q5 ?k5 ?a6 ?l6 ?q6 ?k6 ?a7 ?l7 ?q7 ?k7 ?a8 ?l8 ?q8 ?k8 ?a9 ?l9 ?q9 ?k9 ?a10 ?l10 ?q10 ?k10 ?a11 ?l11 ?q11 ?k11 ?a12 ?l12 ?q12 ?k12 ?a13 ?l13 ?q13 ?k13 ?a14 ?l14 ?q14 ?k14 ?a15 ?l15 ?q15 ?k15 ?a16 ?l16 ?q16 ?k16 ?a17 ?l17 ?q17 ?k17 ?a18 ?l18 ?q18 ?k18 ?a19 ?l19 ?q19 ?k19 ?a20 ?l20 ?q20 ?k20 ?a21 ?l21 ?q21 ?k21 ?a22 ?l22 ?q22 ?k22 ?a23 ?l23 ?q23 ?k23 ?a24 ?l24 ?q24 ?k24 ?a25 ?l25 ?q25 ?k25 ?a26 ?l26 ?q26 ?k26 ?a27 ?l27 ?q27 ?k27 ?a28 ?l28 ?q28 ?k28 ?a29 ?l29 ?q29 ?k29 ?a30 ?l30 ?q30 ?k30 ?a31 ?l31 ?q31 ?k31 ?a32 ?l32 ?q32 ?k32 ?a33 ?l33 ?q33 ?k33 ?a34 ?l34 ?q34 ?k34 ?a35 ?l35 ?q35 ?k35 ?a36 ?l36 ?q36 ?k36 ?a37 ?l37 ?q37 ?k37 ?a38 ?l38 ?q38 ?k38 ?a39 ?l39 ?q39 ?k39 ?a40 ?l40 ?q40 ?k40 ?a41 ?l41 ?q41 ?k41 ?a42 ?l42 ?q42 ?k42 ?a43 ?l43 ?q43 ?k43 ?a44 ?l44 ?q44 ?k44 ?a45 ?l45 ?q45 ?k45 ?t1 ?v1 ?n1 ?t6 ?v6 ?n6 ?t16 ?v16 ?n16 ?t13 ?v13 ?n13 ?aL ?rL ?aN ?rN ?aM ?rM ?aD ?lD ?tD ?sD ?kD ?lT1 ?vT1 ?lT2 ?vT2 ?lT3 ?vT3 ?lT4 ?vT4 ?lT5 ?vT5 ?lT6 ?vT6 ?lT7 ?vT7 ?aB ?lB ?tB ?sB ?kB ?lR1 ?vR1 ?lR2 ?vR2 ?lR3 ?vR3 ?lR4 ?vR4 ?lR5 ?vR5 ?lR6 ?vR6 ?lR7 ?vR7 ?lR8 ?vR8 ?lR9 ?vR9 ?lR10 ?vR10 ?lR11 ?vR11 ?lR12 ?vR12 ?lR13 ?vR13 ?lR14 ?vR14 ?lR15 ?vR15 ?lR16 ?vR16 ?lR17 ?vR17 ?lR18 ?vR18 ?lR19 ?vR19 ?lR20 ?vR20 ?lR21 ?vR21 ?lR22 ?vR22 ?z1 ?z2 ?z3 ?z4 ?z5 ?z6 ?z7 ?z8 ?z9 ?z10 ?z11 ?z12 ?z13 ?z14 ?z15 ?z16 ?z17
    (case a1 => k_is); (case l1 => k_is); (case q1 => k_is); (case k1 => k_is)
    (case a2 => k_is); (case l2 => k_is); (case q2 => k_is); (case k2 => k_is)
    (case a3 => k_is); (case l3 => k_is); (case q3 => k_is); (case k3 => k_is)
    (case a4 => k_is); (case l4 => k_is); (case q4 => k_is); (case k4 => k_is)
    (case a5 => k_is); (case l5 => k_is); (case q5 => k_is); (case k5 => k_is)
    (case a6 => k_is); (case l6 => k_is); (case q6 => k_is); (case k6 => k_is)
    (case a7 => k_is); (case l7 => k_is); (case q7 => k_is); (case k7 => k_is)
    (case a8 => k_is); (case l8 => k_is); (case q8 => k_is); (case k8 => k_is)
    (case a9 => k_is); (case l9 => k_is); (case q9 => k_is); (case k9 => k_is)
    (case a10 => k_is); (case l10 => k_is); (case q10 => k_is); (case k10 => k_is)
    (case a11 => k_is); (case l11 => k_is); (case q11 => k_is); (case k11 => k_is)
    (case a12 => k_is); (case l12 => k_is); (case q12 => k_is); (case k12 => k_is)
    (case a13 => k_is); (case l13 => k_is); (case q13 => k_is); (case k13 => k_is)
    (case a14 => k_is); (case l14 => k_is); (case q14 => k_is); (case k14 => k_is)
    (case a15 => k_is); (case l15 => k_is); (case q15 => k_is); (case k15 => k_is)
    (case a16 => k_is); (case l16 => k_is); (case q16 => k_is); (case k16 => k_is)
    (case a17 => k_is); (case l17 => k_is); (case q17 => k_is); (case k17 => k_is)
    (case a18 => k_is); (case l18 => k_is); (case q18 => k_is); (case k18 => k_is)
    (case a19 => k_is); (case l19 => k_is); (case q19 => k_is); (case k19 => k_is)
    (case a20 => k_is); (case l20 => k_is); (case q20 => k_is); (case k20 => k_is)
    (case a21 => k_is); (case l21 => k_is); (case q21 => k_is); (case k21 => k_is)
    (case a22 => k_is); (case l22 => k_is); (case q22 => k_is); (case k22 => k_is)
    (case a23 => k_is); (case l23 => k_is); (case q23 => k_is); (case k23 => k_is)
    (case a24 => k_is); (case l24 => k_is); (case q24 => k_is); (case k24 => k_is)
    (case a25 => k_is); (case l25 => k_is); (case q25 => k_is); (case k25 => k_is)
    (case a26 => k_is); (case l26 => k_is); (case q26 => k_is); (case k26 => k_is)
    (case a27 => k_is); (case l27 => k_is); (case q27 => k_is); (case k27 => k_is)
    (case a28 => k_is); (case l28 => k_is); (case q28 => k_is); (case k28 => k_is)
    (case a29 => k_is); (case l29 => k_is); (case q29 => k_is); (case k29 => k_is)
    (case a30 => k_is); (case l30 => k_is); (case q30 => k_is); (case k30 => k_is)
    (case a31 => k_is); (case l31 => k_is); (case q31 => k_is); (case k31 => k_is)
    (case a32 => k_is); (case l32 => k_is); (case q32 => k_is); (case k32 => k_is)
    (case a33 => k_is); (case l33 => k_is); (case q33 => k_is); (case k33 => k_is)
    (case a34 => k_is); (case l34 => k_is); (case q34 => k_is); (case k34 => k_is)
    (case a35 => k_is); (case l35 => k_is); (case q35 => k_is); (case k35 => k_is)
    (case a36 => k_is); (case l36 => k_is); (case q36 => k_is); (case k36 => k_is)
    (case a37 => k_is); (case l37 => k_is); (case q37 => k_is); (case k37 => k_is)
    (case a38 => k_is); (case l38 => k_is); (case q38 => k_is); (case k38 => k_is)
    (case a39 => k_is); (case l39 => k_is); (case q39 => k_is); (case k39 => k_is)
    (case a40 => k_is); (case l40 => k_is); (case q40 => k_is); (case k40 => k_is)
    (case a41 => k_is); (case l41 => k_is); (case q41 => k_is); (case k41 => k_is)
    (case a42 => k_is); (case l42 => k_is); (case q42 => k_is); (case k42 => k_is)
    (case a43 => k_is); (case l43 => k_is); (case q43 => k_is); (case k43 => k_is)
    (case a44 => k_is); (case l44 => k_is); (case q44 => k_is); (case k44 => k_is)
    (case a45 => k_is); (case l45 => k_is); (case q45 => k_is); (case k45 => k_is)
    (case t1 => k_is); (case v1 => rfl); (case n1 => rfl)
    (case t6 => k_is); (case v6 => rfl); (case n6 => rfl)
    (case t16 => k_is); (case v16 => rfl); (case n16 => rfl)
    (case t13 => k_is); (case v13 => rfl); (case n13 => rfl)
    (case aL => k_is); (case rL => exact ⟨_, rfl⟩); (case aN => k_is); (case rN => exact ⟨_, rfl⟩); (case aM => k_is); (case rM => exact ⟨_, rfl⟩)
    (case aD => k_is); (case lD => k_is); (case tD => exact ⟨⟨_, _, rfl, rfl⟩, ⟨_, _, rfl, rfl⟩, ⟨_, _, rfl, rfl⟩, ⟨_, _, rfl, rfl⟩, ⟨_, _, rfl, rfl⟩, ⟨_, _, rfl, rfl⟩, ⟨_, _, rfl, rfl⟩, trivial⟩); (case sD => rfl)
    (case kD => exact ⟨⟨_, rfl⟩, rfl, ⟨_, rfl⟩, rfl, ⟨_, rfl⟩, rfl, ⟨_, rfl⟩, rfl, ⟨_, rfl⟩, rfl, ⟨_, rfl⟩, rfl, ⟨_, rfl⟩, rfl, trivial⟩)
    (case lT1 => k_is); (case vT1 => exact ⟨by decide, (.cons ⟨_, rfl⟩ .nil)⟩)
    (case lT2 => k_is); (case vT2 => exact ⟨by decide, .nil⟩)
    (case lT3 => k_is); (case vT3 => exact ⟨by decide, .nil⟩)
    (case lT4 => k_is); (case vT4 => exact ⟨by decide, (.cons ⟨_, rfl⟩ (.cons ⟨_, rfl⟩ .nil))⟩)
    (case lT5 => k_is); (case vT5 => exact ⟨by decide, (.cons ⟨_, rfl⟩ (.cons ⟨_, rfl⟩ .nil))⟩)
    (case lT6 => k_is); (case vT6 => exact ⟨by decide, (.cons ⟨_, rfl⟩ .nil)⟩)
    (case lT7 => k_is); (case vT7 => exact ⟨by decide, (.cons ⟨_, rfl⟩ (.cons ⟨_, rfl⟩ .nil))⟩)
    (case aB => k_is); (case lB => k_is); (case tB => exact ⟨⟨_, _, rfl, rfl⟩, ⟨_, _, rfl, rfl⟩, ⟨_, _, rfl, rfl⟩, ⟨_, _, rfl, rfl⟩, ⟨_, _, rfl, rfl⟩, ⟨_, _, rfl, rfl⟩, ⟨_, _, rfl, rfl⟩, ⟨_, _, rfl, rfl⟩, ⟨_, _, rfl, rfl⟩, ⟨_, _, rfl, rfl⟩, ⟨_, _, rfl, rfl⟩, ⟨_, _, rfl, rfl⟩, ⟨_, _, rfl, rfl⟩, ⟨_, _, rfl, rfl⟩, ⟨_, _, rfl, rfl⟩, ⟨_, _, rfl, rfl⟩, ⟨_, _, rfl, rfl⟩, ⟨_, _, rfl, rfl⟩, ⟨_, _, rfl, rfl⟩, ⟨_, _, rfl, rfl⟩, ⟨_, _, rfl, rfl⟩, ⟨_, _, rfl, rfl⟩, trivial⟩); (case sB => rfl)
    (case kB => exact ⟨⟨_, rfl⟩, rfl, ⟨_, rfl⟩, rfl, ⟨_, rfl⟩, rfl, ⟨_, rfl⟩, rfl, ⟨_, rfl⟩, rfl, ⟨_, rfl⟩, rfl, ⟨_, rfl⟩, rfl, ⟨_, rfl⟩, rfl, ⟨_, rfl⟩, rfl, ⟨_, rfl⟩, rfl, ⟨_, rfl⟩, rfl, ⟨_, rfl⟩, rfl, ⟨_, rfl⟩, rfl, ⟨_, rfl⟩, rfl, ⟨_, rfl⟩, rfl, ⟨_, rfl⟩, rfl, ⟨_, rfl⟩, rfl, ⟨_, rfl⟩, rfl, ⟨_, rfl⟩, rfl, ⟨_, rfl⟩, rfl, ⟨_, rfl⟩, rfl, ⟨_, rfl⟩, rfl, trivial⟩)
    (case lR1 => k_is); (case vR1 => exact ⟨by decide, (.cons ⟨_, rfl⟩ .nil)⟩)
    (case lR2 => k_is); (case vR2 => exact ⟨by decide, (.cons ⟨_, rfl⟩ (.cons ⟨_, rfl⟩ (.cons ⟨_, rfl⟩ .nil)))⟩)
    (case lR3 => k_is); (case vR3 => exact ⟨by decide, (.cons ⟨_, rfl⟩ (.cons ⟨_, rfl⟩ .nil))⟩)
    (case lR4 => k_is); (case vR4 => exact ⟨by decide, (.cons ⟨_, rfl⟩ .nil)⟩)
    (case lR5 => k_is); (case vR5 => exact ⟨by decide, (.cons ⟨_, rfl⟩ (.cons ⟨_, rfl⟩ .nil))⟩)
    (case lR6 => k_is); (case vR6 => exact ⟨by decide, (.cons ⟨_, rfl⟩ (.cons ⟨_, rfl⟩ .nil))⟩)
    (case lR7 => k_is); (case vR7 => exact ⟨by decide, (.cons ⟨_, rfl⟩ .nil)⟩)
    (case lR8 => k_is); (case vR8 => exact ⟨by decide, (.cons ⟨_, rfl⟩ (.cons ⟨_, rfl⟩ (.cons ⟨_, rfl⟩ .nil)))⟩)
    (case lR9 => k_is); (case vR9 => exact ⟨by decide, (.cons ⟨_, rfl⟩ (.cons ⟨_, rfl⟩ .nil))⟩)
    (case lR10 => k_is); (case vR10 => exact ⟨by decide, (.cons ⟨_, rfl⟩ .nil)⟩)
    (case lR11 => k_is); (case vR11 => exact ⟨by decide, (.cons ⟨_, rfl⟩ .nil)⟩)
    (case lR12 => k_is); (case vR12 => exact ⟨by decide, (.cons ⟨_, rfl⟩ (.cons ⟨_, rfl⟩ .nil))⟩)
    (case lR13 => k_is); (case vR13 => exact ⟨by decide, (.cons ⟨_, rfl⟩ (.cons ⟨_, rfl⟩ .nil))⟩)
    (case lR14 => k_is); (case vR14 => exact ⟨by decide, (.cons ⟨_, rfl⟩ (.cons ⟨_, rfl⟩ (.cons ⟨_, rfl⟩ (.cons ⟨_, rfl⟩ (.cons ⟨_, rfl⟩ .nil)))))⟩)
    (case lR15 => k_is); (case vR15 => exact ⟨by decide, (.cons ⟨_, rfl⟩ .nil)⟩)
    (case lR16 => k_is); (case vR16 => exact ⟨by decide, (.cons ⟨_, rfl⟩ (.cons ⟨_, rfl⟩ .nil))⟩)
    (case lR17 => k_is); (case vR17 => exact ⟨by decide, (.cons ⟨_, rfl⟩ (.cons ⟨_, rfl⟩ (.cons ⟨_, rfl⟩ (.cons ⟨_, rfl⟩ (.cons ⟨_, rfl⟩ .nil)))))⟩)
    (case lR18 => k_is); (case vR18 => exact ⟨by decide, (.cons ⟨_, rfl⟩ (.cons ⟨_, rfl⟩ (.cons ⟨_, rfl⟩ (.cons ⟨_, rfl⟩ (.cons ⟨_, rfl⟩ .nil)))))⟩)
    (case lR19 => k_is); (case vR19 => exact ⟨by decide, (.cons ⟨_, rfl⟩ (.cons ⟨_, rfl⟩ .nil))⟩)
    (case lR20 => k_is); (case vR20 => exact ⟨by decide, (.cons ⟨_, rfl⟩ .nil)⟩)
    (case lR21 => k_is); (case vR21 => exact ⟨by decide, (.cons ⟨_, rfl⟩ (.cons ⟨_, rfl⟩ (.cons ⟨_, rfl⟩ (.cons ⟨_, rfl⟩ .nil))))⟩)
    (case lR22 => k_is); (case vR22 => exact ⟨by decide, (.cons ⟨_, rfl⟩ (.cons ⟨_, rfl⟩ .nil))⟩)
    (case z1 => k_is); (case z2 => k_is); (case z3 => k_is); (case z4 => k_is); (case z5 => k_is); (case z6 => k_is); (case z7 => k_is); (case z8 => k_is); (case z9 => k_is); (case z10 => k_is); (case z11 => k_is); (case z12 => k_is); (case z13 => k_is); (case z14 => k_is); (case z15 => k_is); (case z16 => k_is); (case z17 => k_is)
