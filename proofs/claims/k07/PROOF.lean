import PyProof.Rows.All
import Wide.All
import OpenK.AllK
import Wide.FinOn
import HandS.ForMost
import HandS.Rev
import HandS.StrMore
import HandS.IsInst
import HandS.Wide
import HandS.Replace
import HandS.Codes
import HandS.GenList
import HandS.AnyAll
import HandS.EndOwn
import HandS.ExcOwn
import PyProof.ReprRoads
import HandS.Walk
import HandS.Dict
import HandS.TupAny
import HandS.Style
import KE.KDictPairs
import KE.GoesMore
import HandS.Iter
import KE.KRevSl
import PyProof.Draws
import PyProof.EnumMake
import PyProof.EqKinds
import HandS.More
import PyProof.Rows.IntBool
import PyProof.CallStr
import PyProof.IsRules
import PyProof.ReprLen
import PyProof.FitsInt
import PyProof.StrLawsRepr
import HandS.FStrTup
import PyProof.Rows.RegReprOcc
import PyProof.NeKinds
import HandS.IterVal
import HandS.FStr
import HandS.ForExc
import KE.KDictZip
import KE.GoesZip
import HandS.Zip
import HandS.TupMul
import HandS.Flow
import HandS.Text
import KE.KIntText
import PyProof.Rows.Digits
import PyProof.Rows.StrOr
import HandS.RaiseMore
import HandS.Comp
import HandS.Star
import PyProof.TupleOfGen
import PyProof.EnumIter
import HandS.Conv
import HandS.ExcIs
import KE.KExcIs
import KE.KIsAll
import HandS.TryOnly
import HandS.TupLe
import HandS.Sort
import KE.KSortTupAny
import PySem.Challenge.RW_kindalone_k07_tables_in_order
set_option Elab.async false
set_option linter.all false
set_option maxRecDepth 100000
set_option maxHeartbeats 4000000
namespace Kq
open PySem PySem.Spec PyProof.Rows L2
/-! the program's defs, by their places -/
def tp (i : Nat) : Stmt := PySem.Challenge.pw_kindalone_k07_tables_in_order.main.body.getD i (.Pass ⟨0, 0, 0, 0⟩)
abbrev tMixed : Stmt := tp 32
abbrev tDraw : Stmt := tp 33
/-! heaps -/
theorem newS {H : Hp} {p : Addr} {o : HO} (h : H p = none) : Same H (upd H p o) := fun b u e => by
  rw [upd_ne (ne_of_none e h)]
  exact e
/-- but for d and c all that stood stands -/
def Kp (d c : Addr) (H G : Hp) : Prop := ∀ b o, b ≠ d → b ≠ c → H b = some o → G b = some o
theorem Kp.rfl {d c : Addr} {H : Hp} : Kp d c H H := fun _ _ _ _ e => e
theorem Kp.trans {d c : Addr} {H G F : Hp} (a : Kp d c H G) (b : Kp d c G F) : Kp d c H F := fun x o h1 h2 e => b x o h1 h2 (a x o h1 h2 e)
theorem Kp.of {d c : Addr} {H G : Hp} (a : Same H G) : Kp d c H G := fun x o _ _ e => a x o e
theorem Kp.at1 {d c : Addr} {H : Hp} {o : HO} : Kp d c H (upd H d o) := fun x u h1 _ e => by rw [upd_ne h1]; exact e
theorem Kp.at2 {d c : Addr} {H : Hp} {o : HO} : Kp d c H (upd H c o) := fun x u _ h2 e => by rw [upd_ne h2]; exact e
/-- the deck of drawn cells -/
structure Dk (H : Hp) (d c : Addr) : Prop where
  ne : d ≠ c
  dd : ∃ seed k : Int, H d = some (.lst [.ref c, .int seed, .int k])
  cc : ∃ ns : List Int, H c = some (.lst (ns.map V.int)) ∧ ns.length ≤ 63
theorem Dk.same {H G : Hp} {d c : Addr} (x : Dk H d c) (s : Same H G) : Dk G d c := by
  obtain ⟨n, ⟨a, b, e⟩, ⟨ns, f, l⟩⟩ := x
  exact ⟨n, ⟨a, b, s _ _ e⟩, ⟨ns, s _ _ f, l⟩⟩
theorem sz {n : Nat} (h : n ≤ 1000) : n ≤ sizeLine := Nat.le_of_lt (small1000 h)
section
variable {P : Program} {w : World} {K : PySem.W.Frag} {mg : Str → Option Value} {base : Heap}
/-! _law_mixed -/
theorem scMixed : FnScope ["_law_cell", "_law_k", "_law_number"] ["_law_cell", "_law_k"] (defScope tMixed) := ⟨rfl, rfl, rfl, by decide +kernel, rfl, by decide +kernel, by decide +kernel⟩
def spMixed : Sp := fun vs H Q _ => ∃ a b : Int, vs = [.int a, .int b] ∧ ∀ r : Int, Q (.int r) H
theorem okMixed {f : Addr} {fd : FuncData} {k : Nat} (F : Fun K "_law_mixed" "_law_mixed" tMixed f fd) : FnOk P w K mg base CX0 (k + 1) f fd ["_law_cell", "_law_k"] spMixed := by
  refine F.ok scMixed (fun vs H Q E h => ?_) (fun cdv A outer s H vs Q E hr h => ?_)
  · obtain ⟨a, b, rfl, _⟩ := h
    rfl
  obtain ⟨a, b, rfl, q⟩ := h
  refine ⟨_, pss_cons (ps_set (i := 2) scMixed.nd rfl (.inl rfl) (pe_op op_mod (pe_op op_mul (pe_op op_add (pe_op op_add (pe_op op_mod (pv 0) pe_int) (pe_op op_mul pe_int (pv 1))) pe_int) pe_int) pe_int))
    (pss_cons (ps_set (i := 2) scMixed.nd rfl (.inl rfl) (pe_op op_mod (pe_op op_add (pe_op op_add (pe_op op_mul (pv 2) (pv 2)) (pe_op op_mul pe_int (pv 1))) pe_int) pe_int))
    (pss_one (ps_ret (pe_op op_fdiv (pe_op op_mod (pe_op op_mul (pv 2) (pe_op op_add (pe_op op_fdiv (pv 2) pe_int) pe_int)) pe_int) pe_int)))), ?_⟩
  refine ⟨_, rfl, _, _, rfl, rfl, (by show (0 : Int) < 2147483629; decide), _, rfl, _, _, rfl, rfl, .inl ⟨by decide, by decide⟩, _, _, rfl, rfl, _, _, rfl, rfl, _, _, rfl, rfl, .inr ⟨by decide, by decide⟩, _, _, rfl, rfl, (by show (0 : Int) < 2147483647; decide), ?_⟩
  generalize hx : (a % 2147483629 + 104729 * b + 1) * 48271 % 2147483647 = x
  have x0 : 0 ≤ x := by rw [← hx]; exact Int.emod_nonneg _ (by decide)
  have x1 : x < 2147483647 := by rw [← hx]; exact Int.emod_lt_of_pos _ (by decide)
  refine ⟨_, rfl, _, rfl, _, _, rfl, rfl, .inl ⟨by omega, by omega⟩, _, rfl, _, _, rfl, rfl, .inl ⟨by decide, by decide⟩, _, _, rfl, rfl, _, _, rfl, rfl, _, _, rfl, rfl, (by show (0 : Int) < 2147483587; decide), ?_⟩
  generalize hy : (x * x + 69621 * b + 7) % 2147483587 = y
  have y0 : 0 ≤ y := by rw [← hy]; exact Int.emod_nonneg _ (by decide)
  have y1 : y < 2147483587 := by rw [← hy]; exact Int.emod_lt_of_pos _ (by decide)
  refine ⟨_, rfl, _, rfl, _, _, rfl, rfl, ⟨by decide, by decide⟩, _, _, rfl, rfl, _, _, rfl, rfl, .inl ⟨by omega, by omega⟩, _, _, rfl, rfl, (by show (0 : Int) < 2305843009213693951; decide), _, _, rfl, rfl, ⟨by decide, by decide⟩, q _⟩
/-! _law_draw -/
theorem scDraw : FnScope ["_law_deck_here", "_law_most", "_law_cell"] ["_law_deck_here", "_law_most"] (defScope tDraw) := ⟨rfl, rfl, rfl, by decide +kernel, rfl, by decide +kernel, by decide +kernel⟩
def spDraw : Sp := fun vs H Q _ => ∃ (d c : Addr) (m : Int), vs = [.ref d, .int m] ∧ Dk H d c ∧ 0 < m ∧ m < 1125899906842624 ∧ ∀ (r : Int) (G : Hp), 0 ≤ r → r < m → Kp d c H G → Dk G d c → Q (.int r) G
theorem dpInts (K : PySem.W.Frag) (H : Hp) : ∀ ns : List Int, DpAll K H (ns.map V.int) (ns.map PyData.int)
  | [] => .nil
  | n :: ns => .cons (.int n) (dpInts K H ns)
theorem okDraw {f fM : Addr} {fd fdM : FuncData} {k : Nat} (F : Fun K "_law_draw" "_law_draw" tDraw f fd) (FM : Fun K "_law_mixed" "_law_mixed" tMixed fM fdM) (bM : Binds K fdM ["_law_cell", "_law_k"] []) (gM : mg "_law_mixed" = some (.ref fM)) :
    FnOk P w K mg base CX0 (k + 2) f fd ["_law_deck_here", "_law_most"] spDraw := by
  have GM : FnOk P w K mg base CX0 (k + 1) fM fdM ["_law_cell", "_law_k"] spMixed := okMixed FM
  refine F.ok scDraw (fun vs H Q E h => ?_) (fun cdv A outer s H vs Q E hr h => ?_)
  · obtain ⟨d, c, m, rfl, _⟩ := h
    rfl
  obtain ⟨d, c, m, rfl, ⟨ndc, ⟨seed, k0, hd⟩, ⟨ns, hc, hl⟩⟩, m0, m1, q⟩ := h
  refine ⟨_, pss_cons (ps_asg (pe_op op_add (pe_ix ix_list (pv 0) pe_int (fun _ _ => rfl)) pe_int) (pg_sub (pv 0) pe_int set_list))
    (pss_cons (ps_if (pt_cmpR (op_eqD hr.units) (pe_ix ix_list (pv 0) pe_int (fun _ _ => rfl)) (pe_lst pa_nil) (nomark _))
      (pss_one (ps_ret (pe_op op_mod (pe_call GM hr (by rfl) gM FM.kp bM .nil pass0 (pa_cons (pe_ix ix_list (pv 0) pe_int (fun _ _ => rfl)) (pa_cons (pe_ix ix_list (pv 0) pe_int (fun _ _ => rfl)) pa_nil))) (pv 1)))) pss_nil)
    (pss_cons (ps_set (i := 2) scDraw.nd rfl (.inl rfl) (pe_bm0 PySem.F.plainAttrs_list PySem.F.slot_list_pop PySem.F.type_list_pop mt_pop (pe_ix ix_list (pv 0) pe_int (fun _ _ => rfl))))
    (pss_cons (ps_if (pt_cmpR op_lt (pv 2) (pe_op op_pow pe_int pe_int) (nomark _))
      (pss_one (ps_ret (pe_op op_mod (pe_call GM hr (by rfl) gM FM.kp bM .nil pass0 (pa_cons (pv 2) (pa_cons (pe_ix ix_list (pv 0) pe_int (fun _ _ => rfl)) pa_nil))) (pv 1)))) pss_nil)
    (pss_cons (ps_expr (pe_bm PySem.F.plainAttrs_list PySem.F.slot_list_append PySem.F.type_list_append mt_append (pe_ix ix_list (pv 0) pe_int (fun _ _ => rfl)) (pa_cons (pe_op op_fdivW (pv 2) (pv 1)) pa_nil)))
    (pss_one (ps_ret (pe_op op_mod (pv 2) (pv 1)))))))), ?_⟩
  -- the count
  refine ⟨_, rfl, d, _, _, _, rfl, rfl, SqL.of hd, atI_nat (j := 2) rfl, _, _, rfl, rfl, _, rfl, d, _, _, 2, rfl, rfl, hd, rfl, ?_⟩
  generalize hH1 : upd H d _ = H1
  have d1 : H1 d = some (.lst [.ref c, .int seed, .int (k0 + 1)]) := by rw [← hH1, upd_same]; rfl
  have c1 : H1 c = some (.lst (ns.map V.int)) := by rw [← hH1, upd_ne ndc.symm]; exact hc
  have p1 : Kp d c H H1 := by rw [← hH1]; exact Kp.at1
  clear hH1
  -- no cell left?
  refine ⟨_, rfl, d, _, _, _, rfl, rfl, SqL.of d1, atI_nat (j := 0) rfl, Nat.zero_le _, fun p np => ?_⟩
  have sp : Same H1 (upd H1 p (.lst [])) := newS np
  have d2 := sp _ _ d1
  have c2 := sp _ _ c1
  have p2 : Kp d c H (upd H1 p (.lst [])) := p1.trans (.of sp)
  refine ⟨.list (ns.map PyData.int), .list [], .lst (SqL.of c2) (dpInts K _ ns), .lst (SqL.of upd_same) .nil, PySem.W.ke_shaped_ints ns, rfl, _, rfl, ?_⟩
  generalize upd H1 p (.lst []) = H2 at d2 c2 p2
  refine ite2 (fun _ => ?_) (fun hne => ?_)
  · refine ⟨_, rfl, d, _, _, _, rfl, rfl, SqL.of d2, atI_nat (j := 1) rfl, _, rfl, d, _, _, _, rfl, rfl, SqL.of d2, atI_nat (j := 2) rfl, _, _, rfl, fun r => ?_⟩
    exact ⟨_, rfl, _, _, rfl, rfl, m0, q _ _ (Int.emod_nonneg _ (by omega)) (Int.emod_lt_of_pos _ m0) p2 ⟨ndc, ⟨_, _, d2⟩, ⟨ns, c2, hl⟩⟩⟩
  · have nn : ns ≠ [] := fun z => hne (by rw [z]; rfl)
    obtain ⟨n, hn⟩ : ∃ n, (ns.map V.int)[(ns.map V.int).length - 1]? = some (.int n) := by
      have h0 : 0 < ns.length := List.length_pos_iff.mpr nn
      rw [List.length_map, List.getElem?_map, List.getElem?_eq_getElem (by omega)]
      exact ⟨_, rfl⟩
    have ed : (ns.map V.int).dropLast = ns.dropLast.map V.int := by rw [List.map_dropLast]
    refine ⟨_, rfl, d, _, _, _, rfl, rfl, SqL.of d2, atI_nat (j := 0) rfl, .inl ⟨rfl, _, SqL.of c2⟩, c, _, _, rfl, rfl, c2, hn, ?_⟩
    rw [ed]
    generalize hH3 : upd H2 c _ = H3
    have d3 : H3 d = some (.lst [.ref c, .int seed, .int (k0 + 1)]) := by rw [← hH3, upd_ne ndc]; exact d2
    have c3 : H3 c = some (.lst (ns.dropLast.map V.int)) := by rw [← hH3, upd_same]
    have p3 : Kp d c H H3 := by rw [← hH3]; exact p2.trans Kp.at2
    have l3 : ns.dropLast.length ≤ 62 := by rw [List.length_dropLast]; omega
    clear hH3
    refine ⟨_, rfl, _, _, rfl, rfl, ⟨by decide, by decide, by decide⟩, _, _, rfl, rfl, _, rfl, ite2 (fun _ => ?_) (fun _ => ?_)⟩
    · refine ⟨_, rfl, _, rfl, d, _, _, _, rfl, rfl, SqL.of d3, atI_nat (j := 2) rfl, _, _, rfl, fun r => ?_⟩
      exact ⟨_, rfl, _, _, rfl, rfl, m0, q _ _ (Int.emod_nonneg _ (by omega)) (Int.emod_lt_of_pos _ m0) p3 ⟨ndc, ⟨_, _, d3⟩, ⟨_, c3, by omega⟩⟩⟩
    · refine ⟨_, rfl, d, _, _, _, rfl, rfl, SqL.of d3, atI_nat (j := 0) rfl, .inl ⟨rfl, _, SqL.of c3⟩, _, rfl, _, rfl, _, _, rfl, rfl, wide_div (b := 51) m0 (by show m.natAbs < 2251799813685248; omega) (by decide) (by decide), c, _, _, rfl, rfl, c3, (by rw [List.length_map]; exact small1000 (by omega)), ?_⟩
      refine ⟨_, rfl, _, rfl, _, _, rfl, rfl, m0, q _ _ (Int.emod_nonneg _ (by omega)) (Int.emod_lt_of_pos _ m0) (p3.trans Kp.at2) ⟨ndc, ⟨seed, k0 + 1, (by rw [upd_ne ndc]; exact d3)⟩, ⟨ns.dropLast ++ [n / m], ?_, ?_⟩⟩⟩
      · rw [upd_same, List.map_append]
        rfl
      · rw [List.length_append, List.length_singleton]
        omega
end
end Kq

namespace Kr
open PySem PySem.Spec PyProof.Rows L2 RT
section
variable {prog : Program} {w : World} {A : Around} {E : Value → Shared → Prop} {s : Shared}
/-- a list grows by what a walk from behind over another list gives -/
theorem growRev {R : Result → Shared → Prop} {it l S : Addr} {its : Array Value} {res : Value} {c0 : Nat} (hh : A.handled = none) (hit : s.heap.IsRevIter it l ((its.size : Int) - 1))
    (hl : s.heap.IsList l its) (hne : l ≠ it) (hn : its.size ≤ sizeLine) (hS : s.heap.get? S = some { cls := .type "list", data := .seq #[] c0 }) (hSi : S ≠ it) (hSl : S ≠ l)
    (hR : ∀ (h' : Heap) (tk : Nat) (acc : Array Value) (c : Nat), (∀ b o, b ≠ it → b ≠ S → s.heap.get? b = some o → h'.get? b = some o) →
      h'.get? S = some { cls := .type "list", dict := none, data := .seq acc c, slots := #[] } → ItemsOf (fun i v => its[its.size - 1 - i]? = some v) acc its.size → R (.ok (.ret res)) { s with heap := h', toks := tk }) :
    wpAny (model prog w) A.in1 (Builtin.List.listExtendWith (.ref S) (.ref it) res)
      (fun fin s' => match fin with
        | .done f => R (.ok f) s'
        | .again c' => c'.quiet = true ∧ codeAny (model prog w) A c' R s') (fun e s' => R (.error e) s') s := by
  have W := (Walks.listRev (prog := prog) (w := w) (A := A.in1) hh it l hne its).toS
  have out : S ∉ [it, l] := by
    intro z
    rcases List.mem_cons.mp z with z | z
    · exact hSi z
    · exact hSl (List.mem_singleton.mp z)
  have ty : s.TypeIs (.ref it) "list_reverseiterator" := hit.typeIs
  have no : Builtin.List.listSameRef (.ref S) (.ref it) = false := by
    simp [Builtin.List.listSameRef, hSi]
  unfold Builtin.List.listExtendWith
  refine wpAny_bind (wpAny_typeOf ty ?_)
  rw [if_neg (by rw [no]; decide)]
  refine wpAny_bind (wpAny_pyIter_revIter hit ?_)
  refine wpAny_bind (wpAny_holding ?_)
  unfold Builtin.List.listLengthHint
  refine wpAny_bind (wpAny_specialOf ty RT.nolen_lri ?_)
  show wpAny _ A.in1 (specialOf (.ref it) (Str.ofString "__length_hint__") >>= _) _ _ _
  refine wpAny_bind (wpAny_specialOf ty RT.hint_lri ?_)
  generalize hid : ("list_reverseiterator.__length_hint__" : String) = nm
  wp_delta
  have sp : splitId nm = some ("list_reverseiterator", "__length_hint__") := by
    subst hid
    decide +kernel
  rw [sp]
  subst hid
  refine wpAny_bind (wpAny_isInstance (b := true) ty (by rw [isSubtype_type]; kernel_rfl) ?_)
  refine wpAny_pure ?_
  rw [if_neg (by decide)]
  have z0 : ((its.size : Nat) : Int) - 1 - ((0 : Nat) : Int) = (its.size : Int) - 1 := by omega
  have st0 : s.heap.IsRevIter it l ((its.size : Int) - 1 - ((0 : Nat) : Int)) := by rw [z0]; exact hit
  refine wpAny_pure ⟨plainId_quiet F.plain_extend_loop _, ?_⟩
  refine codeAny_extend_loopS W hn S out res its.size 0 _ _ _ rfl (Nat.zero_le _) ⟨Nat.zero_le _, st0, hl⟩ hS (ItemsOf.nil _) (fun s' acc' c' mv hS' hacc => ?_)
  rw [Moved.eq_with mv]
  refine hR s'.heap s'.toks acc' c' (fun b o h1 h2 e => mv.heap b o (fun z => ?_) e) hS' hacc
  rcases List.mem_cons.mp z with z | z
  · exact h2 z
  · exact h1 (List.mem_singleton.mp z)
theorem call_list_rev {Q : Value → Shared → Prop} {it l : Addr} {its : Array Value} (hh : A.handled = none) (hit : s.heap.IsRevIter it l ((its.size : Int) - 1)) (hl : s.heap.IsList l its) (hne : l ≠ it) (hn : its.size ≤ sizeLine)
    (hQ : ∀ (h' : Heap) (tk : Nat) (acc : Array Value) (c : Nat), (∀ b o, b ≠ it → s.heap.get? b = some o → h'.get? b = some o) →
      h'.get? s.heap.objs.size = some { cls := .type "list", dict := none, data := .seq acc c, slots := #[] } → ItemsOf (fun i v => its[its.size - 1 - i]? = some v) acc its.size → Q (.ref s.heap.objs.size) { s with heap := h', toks := tk }) :
    wpAny (model prog w) A (call (.type "list") [.ref it]) Q E s := by
  obtain ⟨oi, hoi, _⟩ := id hit
  obtain ⟨ol, hol, _⟩ := id hl
  have n1 : s.heap.objs.size ≠ it := Nat.ne_of_gt (Heap.lt_size hoi)
  have n2 : s.heap.objs.size ≠ l := Nat.ne_of_gt (Heap.lt_size hol)
  refine callType_codes (Q₁ := fun obj s₁ => obj = .ref s.heap.objs.size ∧ s₁ = { s with heap := s.heap.push { cls := .type "list", data := .seq #[] } })
    F.called_list (F.typeCall_list_1 _) F.entry_list_init (code_list_new _ ⟨rfl, rfl⟩) (fun obj s₁ h₁ => ?_)
  obtain ⟨rfl, rfl⟩ := h₁
  have hS : (s.heap.push { cls := .type "list", data := .seq #[] }).get? s.heap.objs.size
      = some { cls := .type "list", data := .seq #[] } := Heap.get?_push_size _ rfl
  refine ⟨⟨_, hS, rfl⟩, F.args_list_init_2 _ _, ?_⟩
  show wpAny _ _ (do
    let old ← Builtin.List.listItems (.ref s.heap.objs.size)
    Builtin.List.listUpdate (.ref s.heap.objs.size) (fun _ => #[])
    letGo old.toList.reverse
    Builtin.List.listExtendWith (.ref s.heap.objs.size) (.ref it) .none) _ _ _
  refine wpAny_bind ?_
  unfold Builtin.List.listItems
  refine wpAny_bind (wpAny_seqItems hS rfl (wpAny_pure ?_))
  show wpAny _ _ (do
    updateSeq s.heap.objs.size (fun _ => #[])
    letGo (#[] : Array Value).toList.reverse
    Builtin.List.listExtendWith (.ref s.heap.objs.size) (.ref it) .none) _ _ _
  refine wpAny_bind (wpAny_updateSeq hS rfl ?_)
  have hS2 := Heap.get?_update_self (Obj.mapSeq fun _ => (#[] : Array Value)) hS rfl
  refine wpAny_bind (wpAny_letGo ?_)
  generalize hh2 : (s.heap.push { cls := .type "list", data := .seq #[] }).update s.heap.objs.size (Obj.mapSeq fun _ => (#[] : Array Value)) = h2 at hS2 ⊢
  have kp : ∀ b o, s.heap.get? b = some o → h2.get? b = some o := fun b o e => by
    rw [← hh2, Heap.get?_update_other _ _ (Nat.ne_of_gt (Heap.lt_size e))]
    exact Heap.get?_push_of_some _ e
  have hl2 : h2.IsList l its := by
    obtain ⟨o, e, r⟩ := id hl
    exact ⟨o, kp _ _ e, r⟩
  refine growRev (A := A.in1) (s := { s with heap := h2 }) hh (hit.at fun o e => kp _ _ e) hl2 hne hn hS2 n1 n2 (fun h' tk acc c k e i => ?_)
  exact ⟨rfl, hQ h' tk acc c (fun b o hb hbo => k b o hb (Nat.ne_of_lt (Heap.lt_size hbo)) (kp b o hbo)) e i⟩
end
/-- list(reversed(x)), x a list -/
def tListRev (K : PySem.W.Frag) (te : TE) : TE := fun σ H Q => te σ H fun v G => ∃ (a : Addr) (xs : List V), v = .ref a ∧ SqL K G a xs ∧ ∀ q, G q = none → Q (.ref q) (upd G q (.lst xs.reverse))
theorem pe_listRev {X : Cx} {e : Expr} {te : TE} {p p2 pos pos2 : Pos} (hc : X.calm = true) (hg : Gl X "list") (hm : X.mg "list" = none) (hg2 : Gl X "reversed") (hm2 : X.mg "reversed" = none) (he : PE X e te)
    (hs : starEach [e] X.env = (false, eval e X.env) :: starEach [] X.env := by rfl)
    (hs2 : starEach [.Call (.Name "reversed" p2) [e] [] pos2] X.env = (false, eval (.Call (.Name "reversed" p2) [e] [] pos2) X.env) :: starEach [] X.env := by rfl) :
    PE X (.Call (.Name "list" p) [.Call (.Name "reversed" p2) [e] [] pos2] [] pos) (tListRev X.K te) := by
  refine ⟨fun pins s σ H Q I h => ?_⟩
  have inner := fun (Q' : Value → Shared → Prop) (k : ∀ (a : Addr) (xs : List V) (its : List Value) (s1 : Shared) (G : Hp), Inv X pins σ G s1 → SqL X.K G a xs → Vals xs its → PlainL s1.heap a its.toArray → xs.length ≤ sizeLine →
      (∀ q, G q = none → Q (.ref q) (upd G q (.lst xs.reverse))) → Q' (.ref s1.heap.objs.size) { s1 with heap := s1.heap.push (revObj a ((its.toArray.size : Int) - 1)) }) =>
    show wpAny (model X.prog X.w) X.A (eval (.Call (.Name "reversed" p2) [e] [] pos2) X.env) Q' X.xe s from
      Call_ (ld_blt I hg2 hm2 PyProof.Rows.boot_reversed (PyProof.Rows.callWith_type1 (args_cons (thn (he.run pins s σ H _ I h) fun u s1 ⟨v, G, I1, r1, a, xs, ev, hq, q⟩ => args_nil (by
        subst ev
        obtain rfl : u = Value.ref a := r1
        obtain ⟨its, rv, pl, hz⟩ := I1.list hq
        exact call_reversed_list pl.isList (k a xs its s1 G I1 hq rv pl hz q))) hs) hs rfl))
  refine Call_ (ld_blt I hg hm boot_list (PyProof.Rows.callWith_type1 (args_cons (inner _ fun a xs its s1 G I1 hq rv pl hz q => args_nil ?_) hs2) hs2 rfl))
  have k0 : ∀ b o, s1.heap.get? b = some o → (s1.heap.push (revObj a ((its.toArray.size : Int) - 1))).get? b = some o := fun b o z => Heap.get?_push_of_some _ z
  obtain ⟨ol, hol, _⟩ := id pl.isList
  have hne : a ≠ s1.heap.objs.size := Nat.ne_of_lt (Heap.lt_size hol)
  have hn : its.toArray.size ≤ sizeLine := by rw [List.size_toArray, ← rv.length]; exact hz
  generalize hh3 : s1.heap.push (revObj a ((its.toArray.size : Int) - 1)) = h3 at k0 ⊢
  have it3 : h3.IsRevIter s1.heap.objs.size a ((its.toArray.size : Int) - 1) := by
    rw [← hh3]
    exact ⟨_, Heap.get?_push_size _ rfl, rfl, rfl⟩
  have l3 : h3.IsList a its.toArray := by
    rw [← hh3]
    exact pl.isList.push _
  have lt3 : s1.heap.objs.size < h3.objs.size := by
    obtain ⟨o, e, _⟩ := id it3
    exact Heap.lt_size e
  refine call_list_rev (s := { s1 with heap := h3 }) (I1.ok.hd hc) it3 l3 hne hn fun h' tk acc c hk hS hi => ?_
  have hgo : G h3.objs.size = none := I1.hok.fresh (Nat.le_of_lt lt3)
  refine ⟨.ref h3.objs.size, upd G h3.objs.size (.lst xs.reverse), I1.laid (t' := tk) (fun b o z => hk b o (Nat.ne_of_lt (Heap.lt_size z)) (k0 b o z)) (Nat.le_of_lt lt3)
    (show ObjOk X.prog X.w _ _ _ (.lst xs.reverse) from ⟨by rw [List.length_reverse]; exact hz, acc.toList, c, vals_rev rv hi, by rw [Array.toArray_toList]; exact hS⟩), rfl, q _ hgo⟩
/-- xs.extend(t), t a tuple -/
def rExtT (K : PySem.W.Frag) : V → List V → Hp → VK → Prop := fun x vs H Q => ∃ l b xs zs, x = .ref l ∧ vs = [.ref b] ∧ H l = some (.lst xs) ∧ SqT K H b zs ∧ xs.length + zs.length ≤ sizeLine ∧ Q .non (upd H l (.lst (xs ++ zs)))
theorem mt_extT {X : Cx} : MtM X "list.extend" (rExtT X.K) := by
  intro pins s σ H x vs v us Q I rx rv h
  obtain ⟨l, b, xs, zs, rfl, rfl, hl, hb, hz, q⟩ := h
  cases rx
  obtain ⟨u, rfl, ru⟩ := rv.one
  cases ru
  obtain ⟨z1, its, n, r1, _, e1⟩ := I.lstM hl
  obtain ⟨jts, r2, ⟨o, eo, oc, m, od⟩, z2⟩ := I.tuple hb
  have n1 := r1.length
  have n2 := r2.length
  have sm : its.toArray.size + jts.toArray.size ≤ sizeLine := by
    rw [List.size_toArray, List.size_toArray]
    omega
  have ty : s.TypeIs (.ref b) "tuple" := ⟨o, eo, oc⟩
  refine wpAny_call_entry F.slot_list_extend ⟨_, e1, rfl⟩ F.entry_list_extend ?_ (F.args_list_extend_2 _ _)
  show wpAny _ _ (Builtin.List.listExtendWith (.ref l) (.ref b) .none) _ _ _
  unfold Builtin.List.listExtendWith
  refine wpAny_bind (wpAny_typeOf ty ?_)
  have yes : (Builtin.List.listSameRef (.ref l) (.ref b) || Value.type "tuple" == Value.type "list" || Value.type "tuple" == Value.type "tuple") = true := by simp
  rw [if_pos yes]
  refine wpAny_bind ?_
  unfold Builtin.List.listItems
  refine wpAny_bind (wpAny_seqItems eo od (wpAny_pure ?_))
  refine wpAny_bind ?_
  refine wpAny_bind (wpAny_seqItems e1 rfl (wpAny_pure ?_))
  have long : (!its.toArray.isEmpty && Builtin.List.listTooLong (its.toArray.size + jts.toArray.size)) = false := by
    rw [notLongL sm, Bool.and_false]
  rw [if_neg (by rw [long]; exact Bool.false_ne_true)]
  refine wpAny_bind ?_
  show wpAny _ _ (updateSeq l (· ++ jts.toArray)) _ _ _
  refine wpAny_updateSeq e1 rfl ?_ (by rw [List.size_toArray]; omega) (by rw [Array.size_append]; omega)
  refine wpAny_pure ⟨_, rfl, ?_⟩
  refine ⟨.non, _, I.lset (its' := its ++ jts) hl e1 (by simp) (r1.append r2) ?_, rfl, q⟩
  rw [List.length_append]
  exact hz
end Kr

namespace Kq
open PySem PySem.Spec PyProof.Rows L2
abbrev tDeck : Stmt := tp 31
abbrev tNames : Stmt := tp 34
theorem Kp.mk {d c p : Addr} {H G : Hp} {o : HO} (a : Kp d c H G) (h : H p = none) : Kp d c H (upd G p o) := fun b u h1 h2 e => by
  rw [upd_ne (ne_of_none e h)]
  exact a b u h1 h2 e
theorem Dk.put {G : Hp} {d c p : Addr} {o : HO} (x : Dk G d c) (h : p ≠ d) (h' : p ≠ c) : Dk (upd G p o) d c := by
  obtain ⟨n, ⟨a, b, e⟩, ⟨ns, f, l⟩⟩ := x
  exact ⟨n, ⟨a, b, by rw [upd_ne h.symm]; exact e⟩, ⟨ns, by rw [upd_ne h'.symm]; exact f, l⟩⟩
theorem Dk.off {H : Hp} {d c p : Addr} (x : Dk H d c) (h : H p = none) : p ≠ d ∧ p ≠ c := by
  obtain ⟨n, ⟨a, b, e⟩, ⟨ns, f, l⟩⟩ := x
  exact ⟨(ne_of_none e h).symm, (ne_of_none f h).symm⟩
/-! texts of letters -/
def lets : Str := "abcdefghijklmnopqrstuvwxyz"
def sg (i : Nat) : Str := ⟨#[97 + i]⟩
theorem lets_at : ∀ i : Fin 26, lets.cps.toList[i.val]? = some (97 + i.val) := by decide +kernel
theorem lets_ix : ∀ i : Fin 26, Builtin.Str.occurrences lets (sg i.val) 0 lets.length 1 = [i.val] := by decide +kernel
structure Nm (x : Str) : Prop where
  low : ∀ c ∈ x.cps.toList, 97 ≤ c ∧ c < 123
  few : x.cps.toList.length ≤ 8
  one : 1 ≤ x.cps.toList.length
theorem app_cps (x y : Str) : (x ++ y).cps.toList = x.cps.toList ++ y.cps.toList := by
  show (x.cps ++ y.cps).toList = _
  rw [Array.toList_append]
theorem join_low : ∀ ks : List Nat, (∀ k ∈ ks, k < 26) → (∀ c ∈ (Txt.join (Str.ofString "") (ks.map sg)).cps.toList, 97 ≤ c ∧ c < 123) ∧ (Txt.join (Str.ofString "") (ks.map sg)).cps.toList.length = ks.length := by
  intro ks h
  rw [show ∀ a b, Txt.join a b = Str.join a b from TL.join_eq]
  induction ks with
  | nil => exact ⟨fun c z => absurd z (by simp [Str.join, Str.empty]), by simp [Str.join, Str.empty]⟩
  | cons k ks ih =>
    have hk := h k List.mem_cons_self
    have ih := ih fun j hj => h j (List.mem_cons_of_mem _ hj)
    cases ks with
    | nil =>
      refine ⟨fun c z => ?_, rfl⟩
      have e : c = 97 + k := by simpa [Str.join, sg] using z
      omega
    | cons j r =>
      have e : Str.join (Str.ofString "") ((k :: j :: r).map sg) = sg k ++ Str.ofString "" ++ Str.join (Str.ofString "") ((j :: r).map sg) := rfl
      rw [e, app_cps, app_cps]
      have e0 : (Str.ofString "").cps.toList = [] := by decide
      rw [e0, List.append_nil]
      refine ⟨fun c z => ?_, ?_⟩
      · rcases List.mem_append.mp z with z | z
        · have e : c = 97 + k := by simpa [sg] using z
          omega
        · exact ih.1 c z
      · rw [List.length_append, ih.2]
        show 1 + _ = _
        simp only [List.length_cons]
        omega
theorem join_nm {ks : List Nat} (h : ∀ k ∈ ks, k < 26) (h1 : 1 ≤ ks.length) (h8 : ks.length ≤ 8) : Nm (Txt.join (Str.ofString "") (ks.map sg)) := by
  obtain ⟨a, b⟩ := join_low ks h
  exact ⟨a, by omega, by omega⟩
theorem cutTo {xs : List V} {j : Nat} (h : j ≤ xs.length) : cutV xs none (some (j : Int)) = xs.take j := by
  unfold cutV
  rw [HT.sIx_nat, HT.sIx_none, Nat.min_eq_left h]
  rfl
section
variable {P : Program} {w : World} {K : PySem.W.Frag} {mg : Str → Option Value} {base : Heap}
/-! _law_deck -/
theorem scDeck : FnScope ["_law_script", "_law_cells", "_law_seed", "_law_cell"] ["_law_script"] (defScope tDeck) := ⟨rfl, rfl, rfl, by decide +kernel, rfl, by decide +kernel, by decide +kernel⟩
def spDeck (K : PySem.W.Frag) : Sp := fun vs H Q _ => ∃ (a : Addr) (ns : List Int), vs = [.ref a] ∧ SqL K H a (ns.map V.int) ∧ ns.length ≤ 63 ∧ ∀ (d c : Addr) (G : Hp), Same H G → Dk G d c → Q (.ref d) G
theorem okDeck {f : Addr} {fd : FuncData} {k : Nat} (F : Fun K "_law_deck" "_law_deck" tDeck f fd) (ml : mg "list" = none) (mr : mg "reversed" = none) : FnOk P w K mg base CX0 (k + 1) f fd ["_law_script"] (spDeck K) := by
  refine F.ok scDeck (fun vs H Q E h => ?_) (fun cdv A outer s H vs Q E hr h => ?_)
  · obtain ⟨a, ns, rfl, _⟩ := h
    rfl
  obtain ⟨a, ns, rfl, hS, hl, q⟩ := h
  refine ⟨_, pss_cons (ps_set (i := 1) scDeck.nd rfl (.inl rfl) (Kr.pe_listRev rfl (by rfl) ml (by rfl) mr (pe_slice sl_list (pv 0) po_none (po_some pe_int))))
    (pss_cons (ps_set (i := 2) scDeck.nd rfl (.inl rfl) pe_int)
    (pss_cons (ps_for PassesOwn.never rfl (pi_list (pv 1)) (pg_name (i := 3) scDeck.nd rfl (.inl rfl))
      (pss_one (ps_set (i := 2) scDeck.nd rfl (.inl rfl) (pe_op op_mod (pe_op op_add (pe_op op_add (pe_op op_mul (pv 2) pe_int) (pe_op op_mod (pv 3) pe_int)) pe_int) pe_int))))
    (pss_one (ps_ret (pe_lst (pa_cons (pv 1) (pa_cons (pv 2) (pa_cons pe_int pa_nil)))))))), ?_⟩
  refine ⟨_, rfl, 63, rfl, a, _, rfl, hS, fun p np => ?_⟩
  refine ⟨p, _, rfl, SqL.of upd_same, fun c nc => ?_⟩
  have e0 : cutV (ns.map V.int) none (some 63) = (ns.take 63).map V.int := by
    rw [List.take_of_length_le hl]
    unfold cutV
    rw [HT.sIx_none, show HT.sIx (ns.map V.int).length (ns.map V.int).length (some 63) = min 63 (ns.map V.int).length from HT.sIx_nat _ _ 63, List.drop_zero, List.take_of_length_le]
    rw [List.length_map]
    omega
  rw [e0, ← List.map_reverse]
  generalize hm : (ns.take 63).reverse = ms
  have lm : ms.length ≤ 63 := by rw [← hm, List.length_reverse, List.length_take]; omega
  generalize hG : upd (upd H p _) c (.lst (ms.map V.int)) = G
  have gc : G c = some (.lst (ms.map V.int)) := by rw [← hG, upd_same]
  have sG : Same H G := by
    rw [← hG]
    rw [e0] at nc
    exact (newS np).trans (newS nc)
  refine ⟨_, rfl, c, rfl, ⟨_, SqL.of gc⟩, for_list (xs := ms.map V.int) (fun i σ F => F = G ∧ ∃ (sd : Int) (y : Option V), σ = [some (.ref a), some (.ref c), some (.int sd), y]) ⟨rfl, _, none, rfl⟩ (fun i σ F _ z => by rw [z.1]; exact SqL.of gc) (fun i x σ F hx z => ?_) (fun σ F z => ?_)⟩
  · obtain ⟨rfl, sd, y, rfl⟩ := z
    obtain ⟨n, rfl⟩ : ∃ n, x = .int n := by
      rw [List.getElem?_map] at hx
      cases hq : ms[i]? with
      | none => rw [hq] at hx; cases hx
      | some n => rw [hq] at hx; exact ⟨n, (Option.some.inj hx).symm⟩
    exact ⟨_, rfl, _, _, rfl, rfl, .inr ⟨by decide, by decide⟩, _, rfl, _, _, rfl, rfl, (by show (0 : Int) < 1000000007; decide), _, _, rfl, rfl, _, _, rfl, rfl, _, _, rfl, rfl, (by show (0 : Int) < 2147483629; decide), rfl, _, _, rfl⟩
  · obtain ⟨rfl, sd, y, rfl⟩ := z
    refine ⟨_, rfl, _, rfl, (by show 3 ≤ sizeLine; decide), fun d nd => q d c _ (sG.trans (newS nd)) ⟨(ne_of_none gc nd).symm, ⟨_, _, upd_same⟩, ⟨ms, ?_, lm⟩⟩⟩
    rw [upd_ne (ne_of_none gc nd)]
    exact gc
end
end Kq

namespace Kq
open PySem PySem.Spec PyProof.Rows L2
theorem Kp.free {d c p : Addr} {H G : Hp} (a : Kp d c H G) (k : Dk G d c) (h : G p = none) : H p = none := by
  obtain ⟨h1, h2⟩ := k.off h
  cases e : H p with
  | none => rfl
  | some o =>
    rw [a p o h1 h2 e] at h
    cases h
theorem sg_len (ks : List Nat) : ((ks.map sg).map (·.length)).sum = ks.length := by
  induction ks with
  | nil => rfl
  | cons k ks ih =>
    rw [List.map_cons, List.map_cons, List.sum_cons, ih, List.length_cons]
    show 1 + ks.length = _
    omega
theorem lets_get {r : Int} (h0 : 0 ≤ r) (h1 : r < 26) : atI lets.cps.toList r = some (97 + r.toNat) := by
  have e : r = ((r.toNat : Nat) : Int) := by omega
  have q := atI_nat (lets_at ⟨r.toNat, by omega⟩)
  rw [← show r = (((⟨r.toNat, by omega⟩ : Fin 26).val : Nat) : Int) from e] at q
  exact q
theorem cutKs {ks : List Nat} {j : Nat} (h : j ≤ ks.length) : cutV ((ks.map sg).map V.str) none (some (j : Int)) = ((ks.take j).map sg).map V.str := by
  rw [cutTo (by rw [List.length_map, List.length_map]; exact h), List.map_take, List.map_take]
theorem lets_len : lets.length ≤ sizeLine := by decide
/-! rules for the inside of a comprehension, the written part named -/
theorem slK {X : Cx} (K : PySem.W.Frag) (h : X.K = K) : SlR X (rSlL K) := by
  subst h
  exact sl_list
def rJn (K : PySem.W.Frag) : V → List V → Hp → VK → Prop := fun x xs H Q => ∃ a p, ∃ ys : List Str, x = .str a ∧ xs = [.ref p] ∧ (SqL K H p (ys.map V.str) ∨ SqT K H p (ys.map V.str)) ∧ (ys.map (·.length)).sum + ys.length * a.length ≤ 16777216 ∧ Q (.str (Txt.join a ys)) H
theorem pe_joinK {X : Cx} (K : PySem.W.Frag) (h : X.K = K) {o e : Expr} {apos pos : Pos} {to te : TE} (ho : PE X o to) (he : PE X e te) (hbase : attributeBase o "join" X.env (eval o X.env) = eval o X.env := by rfl) (hline : (apos.endLine == pos.line) = true := by rfl)
    (hs : starEach [e] X.env = [(false, eval e X.env)] := by rfl) : PE X (.Call (.Attribute o "join" apos) [e] [] pos) (tM1 (rJn K) to te) := by
  subst h
  exact pe_join ho he hs hbase hline
theorem join_cps : ∀ ks : List Nat, (Txt.join (Str.ofString "") (ks.map sg)).cps.toList = ks.map (97 + ·) := by
  intro ks
  rw [show ∀ a b, Txt.join a b = Str.join a b from TL.join_eq]
  induction ks with
  | nil => rfl
  | cons k ks ih =>
    cases ks with
    | nil => rfl
    | cons j r =>
      have e : Str.join (Str.ofString "") ((k :: j :: r).map sg) = sg k ++ Str.ofString "" ++ Str.join (Str.ofString "") ((j :: r).map sg) := rfl
      rw [e, app_cps, app_cps, ih]
      rfl
theorem nodupR {f : Nat → Str} : ∀ n, (∀ i j, i < n → j < n → f i = f j → i = j) → ((List.range n).map f).Nodup
  | 0, _ => List.nodup_nil
  | n + 1, h => by
    rw [List.range_succ, List.map_append]
    refine List.nodup_append.mpr ⟨nodupR n fun i j hi hj e => h i j (by omega) (by omega) e, (by simp), fun x hx y hy e => ?_⟩
    obtain ⟨i, hi, rfl⟩ := List.mem_map.mp hx
    have ey : y = f n := List.mem_singleton.mp hy
    rw [ey] at e
    have hi := List.mem_range.mp hi
    have := h i n (by omega) (by omega) e
    omega
/-- the beginnings of a word -/
def nmPre (ks : List Nat) (j : Nat) : Str := Txt.join (Str.ofString "") ((ks.take (j + 1)).map sg)
theorem nmPre_inj {ks : List Nat} {n i j : Nat} (hn : n ≤ ks.length) (hi : i < n) (hj : j < n) (h : nmPre ks i = nmPre ks j) : i = j := by
  have e : (ks.take (i + 1)).map (97 + ·) = (ks.take (j + 1)).map (97 + ·) := by
    rw [← join_cps, ← join_cps]
    exact congrArg (fun s : Str => s.cps.toList) h
  have e2 := congrArg List.length e
  rw [List.length_map, List.length_map, List.length_take, List.length_take] at e2
  omega
/-- a word with another letter at a place -/
def nmAt (ls : List Nat) (a k j : Nat) : Str := Txt.join (Str.ofString "") ((ls.set a ((((k : Nat) : Int) + (0 + (j : Int))) % 26).toNat).map sg)
theorem nmAt_inj {ls : List Nat} {a k i j : Nat} (ha : a < ls.length) (hi : i < 26) (hj : j < 26) (h : nmAt ls a k i = nmAt ls a k j) : i = j := by
  have e : (ls.set a ((((k : Nat) : Int) + (0 + (i : Int))) % 26).toNat).map (97 + ·) = (ls.set a ((((k : Nat) : Int) + (0 + (j : Int))) % 26).toNat).map (97 + ·) := by
    rw [← join_cps, ← join_cps]
    exact congrArg (fun s : Str => s.cps.toList) h
  have e2 := congrArg (fun l => l[a]?) e
  simp only [List.getElem?_map, List.getElem?_set_self ha, Option.map_some] at e2
  have e3 := Option.some.inj e2
  omega
section
variable {P : Program} {w : World} {K : PySem.W.Frag} {mg : Str → Option Value} {base : Heap}
abbrev nNames : List Str := ["_law_deck_here", "_law_many_here", "_law_letters", "_law_k", "_law_word", "_law_long", "_law_at", "_law_found", "_law_one"]
theorem scNames : FnScope nNames ["_law_deck_here", "_law_many_here"] (defScope tNames) := ⟨rfl, rfl, rfl, by decide +kernel, rfl, by decide +kernel, by decide +kernel⟩
def spNames : Sp := fun vs H Q _ => ∃ (d c : Addr) (m : Int), vs = [.ref d, .int m] ∧ Dk H d c ∧ 0 ≤ m ∧ m ≤ 26 ∧
  ∀ (l : Addr) (xs : List Str) (G : Hp), Kp d c H G → Dk G d c → H l = none → G l = some (.lst (xs.map V.str)) → xs.length = m.toNat → (∀ x ∈ xs, Nm x) → xs.Nodup → Q (.ref l) G
theorem okNames {f fD : Addr} {fd fdD : FuncData} {k : Nat} (F : Fun K "_law_names" "_law_names" tNames f fd) (GD : FnOk P w K mg base CX0 (k + 2) fD fdD ["_law_deck_here", "_law_most"] spDraw) (bD : Binds K fdD ["_law_deck_here", "_law_most"] []) (gD : mg "_law_draw" = some (.ref fD)) (kD : PySem.W.keepIn K (.ref fD) = true)
    (ml : mg "list" = none) (mr : mg "range" = none) : FnOk P w K mg base CX0 (k + 3) f fd ["_law_deck_here", "_law_many_here"] spNames := by
  refine F.ok scNames (fun vs H Q E h => ?_) (fun cdv A outer s H vs Q E hr h => ?_)
  · obtain ⟨d, c, m, rfl, _⟩ := h
    rfl
  obtain ⟨d, c, m, rfl, dk, m0, m1, q⟩ := h
  refine ⟨_, pss_cons (ps_set (i := 2) scNames.nd rfl (.inr rfl) pe_str)
    (pss_cons (ps_set (i := 4) scNames.nd rfl (.inr rfl) (pe_lc (own := [("_law_k", 3)]) (g := gName 3) (by rfl) scNames.nd (pi_range1 (by rfl) mr (pa_cons pe_int pa_nil)) (blkOk_by (own := [("_law_k", 3)]) (N := nNames) (sc := defScope tNames) (by decide +kernel))
        (fun _ _ _ _ _ => pg_name (i := 3) scNames.nd rfl (.inl rfl)) (fun _ _ _ _ _ => pts_nil)
        (fun _ _ _ _ _ => pe_ix ix_str (pv 2) (pe_call GD hr (by rfl) gD kD bD .nil pass0 (pa_cons (pv 0) (pa_cons pe_int pa_nil))) (fun _ _ => rfl))))
    (pss_cons (ps_set (i := 5) scNames.nd rfl (.inl rfl) (pe_op op_add pe_int (pe_call GD hr (by rfl) gD kD bD .nil pass0 (pa_cons (pv 0) (pa_cons pe_int pa_nil)))))
    (pss_cons (ps_set (i := 6) scNames.nd rfl (.inl rfl) (pe_call GD hr (by rfl) gD kD bD .nil pass0 (pa_cons (pv 0) (pa_cons (pv 5) pa_nil))))
    (pss_cons (ps_if (PW.pt (pw_and (pt_cmpR op_eq (pe_call GD hr (by rfl) gD kD bD .nil pass0 (pa_cons (pv 0) (pa_cons pe_int pa_nil))) pe_int (nomark _)) (pw_and1 (pt_cmpR op_lt (pv 1) pe_int (nomark _)))))
      (pss_one (ps_ret (pe_lc (own := [("_law_k", 3)]) (g := gName 3) (by rfl) scNames.nd (pi_range1 (by rfl) mr (pa_cons (pv 1) pa_nil)) (blkOk_by (own := [("_law_k", 3)]) (N := nNames) (sc := defScope tNames) (by decide +kernel))
        (fun _ _ _ _ _ => pg_name (i := 3) scNames.nd rfl (.inl rfl)) (fun _ _ _ _ _ => pts_nil)
        (fun _ _ _ _ _ => pe_joinK K rfl pe_str (pe_slice (slK K rfl) (pv 4) po_none (po_some (pe_op op_add pe_int (pv 3)))))))) pss_nil)
    (pss_cons (ps_set (i := 7) scNames.nd rfl (.inl rfl) (pe_lst pa_nil))
    (pss_cons (ps_for PassesOwn.never rfl (pi_range1 (by rfl) mr (pa_cons (pv 1) pa_nil)) (pg_name (i := 3) scNames.nd rfl (.inl rfl))
      (pss_cons (ps_set (i := 8) scNames.nd rfl (.inl rfl) (pe_callTy call_list_of (by rfl) ml boot_list (pa_cons (pe_slice sl_list (pv 4) po_none (po_some (pv 5))) pa_nil)))
      (pss_cons (ps_asg (pe_ix ix_str (pv 2) (pe_op op_mod (pe_op op_add (pe_bm PySem.F.plainAttrs_str PySem.F.slot_str_index PySem.F.type_str_index mt_sindex (pv 2) (pa_cons (pe_ix ix_list (pv 4) (pv 6) (fun _ _ => rfl)) pa_nil)) (pv 3)) pe_int) (fun _ _ => rfl)) (pg_sub (pv 8) (pv 6) set_list))
      (pss_one (ps_expr (pe_bm PySem.F.plainAttrs_list PySem.F.slot_list_append PySem.F.type_list_append mt_append (pv 7) (pa_cons (pe_join pe_str (pv 8)) pa_nil)))))))
    (pss_one (ps_ret (pv 7))))))))), ?_⟩
  -- the word
  refine ⟨8, rfl, by decide, by decide, fun W nW => lc_range (lo := 0) (n := 8) (fun i G => Kp d c H G ∧ Dk G d c ∧ ∃ ks : List Nat, ks.length = i ∧ (∀ k ∈ ks, k < 26) ∧ G W = some (.lst ((ks.map sg).map V.str)))
    ⟨(Kp.rfl).mk nW, dk.put (dk.off nW).1 (dk.off nW).2, [], rfl, (fun _ z => nomatch z), upd_same⟩ (fun i G hi z => ?_) (fun G z => ?_)⟩
  · obtain ⟨kp, dk1, ks, lk, hk, gW⟩ := z
    refine ⟨rfl, _, rfl, _, rfl, d, c, 26, rfl, dk1, by decide, by decide, fun r G1 r0 r1 kp1 dk2 => ?_⟩
    have off := dk.off nW
    have gW1 := kp1 W _ off.1 off.2 gW
    refine ⟨_, r, 97 + r.toNat, rfl, rfl, lets_len, lets_get r0 r1, _, gW1, ?_, (kp.trans kp1).mk nW, dk2.put off.1 off.2, ks ++ [r.toNat], ?_, ?_, ?_⟩
    · rw [List.length_map, List.length_map]
      exact small1000 (by omega)
    · rw [List.length_append, lk]
      rfl
    · intro j hj
      rcases List.mem_append.mp hj with hj | hj
      · exact hk j hj
      · rw [List.mem_singleton.mp hj]
        omega
    · rw [upd_same, List.map_append, List.map_append]
      rfl
  obtain ⟨kp, dk1, ks, lk, hk, gW⟩ := z
  have off := dk.off nW
  -- long, at
  refine ⟨_, rfl, d, c, 8, rfl, dk1, by decide, by decide, fun r5 G5 a0 a1 kp5 dk5 => ⟨_, _, rfl, rfl, ?_⟩⟩
  refine ⟨_, rfl, _, rfl, d, c, _, rfl, dk5, by omega, by omega, fun r6 G6 b0 b1 kp6 dk6 => ?_⟩
  refine ⟨_, rfl, d, c, 4, rfl, dk6, by decide, by decide, fun r7 G7 c0 c1 kp7 dk7 => ?_⟩
  have kpW : Kp d c G G7 := kp5.trans (kp6.trans kp7)
  have gW7 := kpW W _ off.1 off.2 gW
  have kp7' : Kp d c H G7 := kp.trans kpW
  clear kp5 kp6 kp7 dk5 dk6 gW kp dk1 kpW
  refine ⟨rfl, _, rfl, (fun h2 => ite2 (fun _ => ⟨_, rfl, _, _, rfl, rfl, _, rfl, ite2 (fun c9 => ?b1) (fun _ => h2)⟩) (fun _ => iteF h2)) ?b2⟩
  case b1 =>
    have m9 : m < 9 := of_decide_eq_true c9
    refine ⟨_, rfl, m, rfl, by omega, by omega, fun D nD => lc_range (lo := 0) (n := m.toNat) (fun i G => Kp d c H G ∧ Dk G d c ∧ G W = some (.lst ((ks.map sg).map V.str)) ∧ ∃ xs : List Str, xs.length = i ∧ (∀ x ∈ xs, Nm x) ∧ G D = some (.lst (xs.map V.str)) ∧ xs = (List.range i).map (nmPre ks)) ?_ (fun i G hi z => ?_) (fun G z => ?_)⟩
    · exact ⟨kp7'.mk (kp7'.free dk7 nD), dk7.put (dk7.off nD).1 (dk7.off nD).2, by rw [upd_ne (ne_of_none gW7 nD)]; exact gW7, [], rfl, (fun _ z => nomatch z), upd_same, rfl⟩
    · obtain ⟨kpi, dki, gWi, xs, lx, hx, gD', exs⟩ := z
      refine ⟨rfl, ⟨_, rfl⟩, _, rfl, _, rfl, _, _, rfl, rfl, ((i + 1 : Nat) : Int), congrArg V.int (by omega), W, _, rfl, SqL.of gWi, fun p np => ?_⟩
      rw [cutKs (ks := ks) (j := i + 1) (by omega)]
      have lt : (ks.take (i + 1)).length = i + 1 := by rw [List.length_take]; omega
      refine ⟨_, p, (ks.take (i + 1)).map sg, rfl, rfl, .inl (SqL.of upd_same), ?_, xs.map V.str, ?_, ?_, ?_⟩
      · rw [sg_len, List.length_map, lt]
        show i + 1 + (i + 1) * 0 ≤ 16777216
        omega
      · rw [upd_ne (ne_of_none gD' np)]
        exact gD'
      · rw [List.length_map]
        exact small1000 (by omega)
      · have hD : H D = none := kp7'.free dk7 nD
        refine ⟨(kpi.mk (kpi.free dki np)).mk hD, (dki.put (dki.off np).1 (dki.off np).2).put (dk7.off nD).1 (dk7.off nD).2, ?_, xs ++ [Txt.join (Str.ofString "") ((ks.take (i + 1)).map sg)], ?_, ?_, ?_, ?_⟩
        · rw [upd_ne (ne_of_none gW7 nD), upd_ne (ne_of_none gWi np)]
          exact gWi
        · rw [List.length_append, lx]
          rfl
        · intro x hx'
          rcases List.mem_append.mp hx' with z | z
          · exact hx x z
          · rw [List.mem_singleton.mp z]
            exact join_nm (fun j hj => hk j (List.mem_of_mem_take hj)) (by omega) (by omega)
        · rw [upd_same, List.map_append]
          rfl
        · rw [exs, List.range_succ, List.map_append]
          rfl
    · obtain ⟨kpi, dki, gWi, xs, lx, hx, gD', exs⟩ := z
      refine q D xs G kpi dki (kp7'.free dk7 nD) gD' lx hx ?_
      rw [exs]
      exact nodupR _ fun i j hi hj e => nmPre_inj (ks := ks) (n := m.toNat) (by omega) hi hj e
  case b2 =>
    refine ⟨Nat.zero_le _, fun Fd nF => ?_⟩
    have hF : H Fd = none := kp7'.free dk7 nF
    have offF := dk7.off nF
    have nFW : W ≠ Fd := ne_of_none gW7 nF
    refine ⟨_, rfl, m, rfl, by omega, by omega, for_range (lo := 0) (n := m.toNat) (fun i σ G => ∃ y3 y8, σ = [some (.ref d), some (.int m), some (.str lets), y3, some (.ref W), some (.int (1 + r5)), some (.int r6), some (.ref Fd), y8] ∧
      Kp d c H G ∧ Dk G d c ∧ G W = some (.lst ((ks.map sg).map V.str)) ∧ ∃ xs : List Str, xs.length = i ∧ (∀ x ∈ xs, Nm x) ∧ G Fd = some (.lst (xs.map V.str)) ∧ xs = (List.range i).map (nmAt (ks.take (1 + r5).toNat) r6.toNat (ks.getD r6.toNat 0))) ?_ (fun i σ G hi z => ?_) (fun σ G z => ?_)⟩
    · exact ⟨_, _, rfl, kp7'.mk hF, dk7.put offF.1 offF.2, by rw [upd_ne nFW]; exact gW7, [], rfl, (fun _ z => nomatch z), upd_same, rfl⟩
    · obtain ⟨y3, y8, rfl, kpi, dki, gWi, xs, lx, hx, gF, exs⟩ := z
      refine ⟨_, rfl, _, rfl, (((1 + r5).toNat : Nat) : Int), congrArg V.int (by omega), W, _, rfl, SqL.of gWi, fun p np => ?_⟩
      rw [cutKs (ks := ks) (j := (1 + r5).toNat) (by omega)]
      refine ⟨p, _, rfl, .inl (SqL.of upd_same), fun o no => ?_⟩
      have kp1 : Same G (upd (upd G p (.lst (((ks.take (1 + r5).toNat).map sg).map V.str))) o (.lst (((ks.take (1 + r5).toNat).map sg).map V.str))) := (newS np).trans (newS no)
      have gW1 := kp1 _ _ gWi
      have gF1 := kp1 _ _ gF
      have oG : G o = none := (newS np).free no
      generalize hG1 : upd (upd G p _) o (.lst (((ks.take (1 + r5).toNat).map sg).map V.str)) = G1 at kp1 gW1 gF1
      have gO : G1 o = some (.lst (((ks.take (1 + r5).toNat).map sg).map V.str)) := by rw [← hG1, upd_same]
      clear hG1
      have hat : r6.toNat < ks.length := by omega
      have h26 : ks[r6.toNat] < 26 := hk _ (List.getElem_mem hat)
      have e6 : r6 = ((r6.toNat : Nat) : Int) := by omega
      have gat : atI ((ks.map sg).map V.str) r6 = some (.str (sg ks[r6.toNat])) := by
        have z := atI_nat (xs := (ks.map sg).map V.str) (j := r6.toNat) (v := .str (sg ks[r6.toNat])) (by rw [List.getElem?_map, List.getElem?_map, List.getElem?_eq_getElem hat]; rfl)
        rw [← e6] at z
        exact z
      have occ : Builtin.Str.occurrences lets (sg ks[r6.toNat]) 0 lets.length 1 = [ks[r6.toNat]] := lets_ix ⟨ks[r6.toNat], h26⟩
      generalize hv : (((ks[r6.toNat] : Nat) : Int) + (0 + (i : Int))) % 26 = v
      have v0 : 0 ≤ v := by rw [← hv]; exact Int.emod_nonneg _ (by decide)
      have v1 : v < 26 := by rw [← hv]; exact Int.emod_lt_of_pos _ (by decide)
      refine ⟨_, rfl, _, rfl, rfl, _, rfl, _, rfl, W, _, _, _, rfl, rfl, SqL.of gW1, gat, lets, _, _, _, rfl, rfl, occ, _, rfl, _, _, rfl, rfl, _, _, rfl, rfl, (by show (0 : Int) < 26; decide), _, v, 97 + v.toNat, rfl, congrArg V.int hv, lets_len, lets_get v0 v1, ?_⟩
      have lq : ((ks.take (1 + r5).toNat).map sg).length = (1 + r5).toNat := by rw [List.length_map, List.length_take]; omega
      have eix : ixN (((ks.take (1 + r5).toNat).map sg).map V.str).length r6 = some r6.toNat := by
        unfold ixN
        rw [List.length_map, lq, if_pos b0, if_pos (by omega)]
      refine ⟨_, rfl, _, rfl, o, _, _, r6.toNat, rfl, rfl, gO, eix, ?_⟩
      have eset : ((((ks.take (1 + r5).toNat).map sg).map V.str).set r6.toNat (.str ⟨#[97 + v.toNat]⟩)) = ((((ks.take (1 + r5).toNat).set r6.toNat v.toNat).map sg).map V.str) := by
        rw [List.map_set, List.map_set]
        rfl
      rw [eset]
      generalize hls : (ks.take (1 + r5).toNat).set r6.toNat v.toNat = ls
      have ll : ls.length = (1 + r5).toNat := by rw [← hls, List.length_set, List.length_take]; omega
      have hls2 : ∀ k ∈ ls, k < 26 := fun j hj => by
        rw [← hls] at hj
        rcases List.mem_or_eq_of_mem_set hj with z | z
        · exact hk j (List.mem_of_mem_take z)
        · rw [z]
          omega
      have nFo : Fd ≠ o := fun z => by
        rw [z] at gF
        rw [gF] at oG
        cases oG
      have nWo : W ≠ o := fun z => by
        rw [z] at gWi
        rw [gWi] at oG
        cases oG
      have gF2 : (upd G1 o (.lst ((ls.map sg).map V.str))) Fd = some (.lst (xs.map V.str)) := by
        rw [upd_ne nFo]
        exact gF1
      refine ⟨_, rfl, .inl ⟨rfl, _, SqL.of gF2⟩, ⟨_, rfl⟩, _, rfl, _, o, ls.map sg, rfl, rfl, .inl (SqL.of upd_same), ?_, Fd, _, _, rfl, rfl, gF2, ?_, ?_⟩
      · rw [sg_len, List.length_map, ll]
        show (1 + r5).toNat + (1 + r5).toNat * 0 ≤ 16777216
        omega
      · rw [List.length_map]
        exact small1000 (by omega)
      · have oH : H o = none := kpi.free dki oG
        have offo := dki.off oG
        refine ⟨_, _, rfl, ((kpi.trans (Kp.of kp1)).mk oH).mk hF, ((dki.same kp1).put offo.1 offo.2).put offF.1 offF.2, ?_, xs ++ [Txt.join (Str.ofString "") (ls.map sg)], ?_, ?_, ?_, ?_⟩
        · rw [upd_ne nFW, upd_ne nWo]
          exact gW1
        · rw [List.length_append, lx]
          rfl
        · intro x hx'
          rcases List.mem_append.mp hx' with z | z
          · exact hx x z
          · rw [List.mem_singleton.mp z]
            exact join_nm hls2 (by omega) (by omega)
        · rw [upd_same, List.map_append]
          rfl
        · rw [exs, List.range_succ, List.map_append, ← hls, ← hv]
          have eg : ks.getD r6.toNat 0 = ks[r6.toNat] := by simp [List.getD, List.getElem?_eq_getElem hat]
          rw [eg]
          rfl
    · obtain ⟨y3, y8, rfl, kpi, dki, gWi, xs, lx, hx, gF, exs⟩ := z
      refine ⟨_, rfl, q Fd xs G kpi dki hF gF lx hx ?_⟩
      rw [exs]
      exact nodupR _ fun i j hi hj e => nmAt_inj (by rw [List.length_take]; omega) (by omega) (by omega) e
end
end Kq

namespace Kq
open PySem PySem.Spec PyProof.Rows L2
/-! kinds as trees -/
inductive Kd where
  | opn (x : Str)
  | num
  | tru
  | pair (a b : Kd)
  | eith (a b : Kd)
  | lst (a : Kd)
  | fn (a b : Kd)
namespace Kd
def word : Kd → Str
  | opn _ => "open"
  | num => "num"
  | tru => "truth"
  | pair _ _ => "pair"
  | eith _ _ => "either"
  | lst _ => "list"
  | fn _ _ => "fun"
def kids : Kd → List Kd
  | pair a b => [a, b]
  | eith a b => [a, b]
  | lst a => [a]
  | fn a b => [a, b]
  | _ => []
def isFn : Kd → Bool
  | fn _ _ => true
  | _ => false
/-- no function anywhere -/
def data : Kd → Bool
  | pair a b => a.data && b.data
  | eith a b => a.data && b.data
  | lst a => a.data
  | fn _ _ => false
  | _ => true
def isOp : Kd → Bool
  | opn _ => true
  | _ => false
def nodes : Kd → List Kd
  | opn x => [opn x]
  | num => [num]
  | tru => [tru]
  | pair a b => pair a b :: (nodes a ++ nodes b)
  | eith a b => eith a b :: (nodes a ++ nodes b)
  | lst a => lst a :: nodes a
  | fn a b => fn a b :: (nodes a ++ nodes b)
def size (t : Kd) : Nat := t.nodes.length
def dp : Kd → Nat
  | pair a b => max a.dp b.dp + 1
  | eith a b => max a.dp b.dp + 1
  | lst a => a.dp + 1
  | fn a b => max a.dp b.dp + 1
  | _ => 0
def opens : Kd → List Str
  | opn x => [x]
  | num => []
  | tru => []
  | pair a b => opens a ++ opens b
  | eith a b => opens a ++ opens b
  | lst a => opens a
  | fn a b => opens a ++ opens b
def args : Kd → List Kd
  | fn a b => a :: args b
  | _ => []
def res : Kd → Kd
  | fn _ b => res b
  | t => t
def ledTo (ts : List Kd) (t : Kd) : Kd := ts.foldr fn t
theorem nodes_eq (t : Kd) : t.nodes = t :: t.kids.flatMap nodes := by
  cases t <;> simp [nodes, kids]
theorem isFn_word (t : Kd) : decide (V.str t.word = V.str "fun") = t.isFn := by
  cases t <;> rfl
theorem isOp_word (t : Kd) : decide (V.str t.word = V.str "open") = t.isOp := by
  cases t <;> rfl
end Kd
/-- the tuples stay -/
def Tk (H G : Hp) : Prop := ∀ b xs, H b = some (.tup xs) → G b = some (.tup xs)
theorem Tk.of {H G : Hp} (s : Same H G) : Tk H G := fun b xs e => s b _ e
theorem Tk.rfl {H : Hp} : Tk H H := fun _ _ e => e
theorem Tk.trans {H G F : Hp} (a : Tk H G) (b : Tk G F) : Tk H F := fun x o e => b x o (a x o e)
theorem Tk.kp {H G : Hp} {d c : Addr} (a : Kp d c H G) (k : Dk H d c) : Tk H G := fun b xs e => by
  obtain ⟨n, ⟨s, k0, hd⟩, ⟨ns, hc, _⟩⟩ := k
  refine a b _ (fun z => ?_) (fun z => ?_) e
  · rw [z, hd] at e
    cases e
  · rw [z, hc] at e
    cases e
theorem Tk.put {H G : Hp} {p : Addr} {o : HO} (a : Tk H G) (h : ∀ xs, H p ≠ some (.tup xs)) : Tk H (upd G p o) := fun b xs e => by
  rw [upd_ne (fun z => h xs (by rw [← z]; exact e))]
  exact a b xs e
/-- the tree stands at v -/
def Rp (H : Hp) : Kd → V → Prop
  | .opn x, v => ∃ a, v = .ref a ∧ H a = some (.tup [.str "open", .str x])
  | .num, v => ∃ a, v = .ref a ∧ H a = some (.tup [.str "num"])
  | .tru, v => ∃ a, v = .ref a ∧ H a = some (.tup [.str "truth"])
  | .pair s t, v => ∃ a x y, v = .ref a ∧ H a = some (.tup [.str "pair", x, y]) ∧ Rp H s x ∧ Rp H t y
  | .eith s t, v => ∃ a x y, v = .ref a ∧ H a = some (.tup [.str "either", x, y]) ∧ Rp H s x ∧ Rp H t y
  | .lst s, v => ∃ a x, v = .ref a ∧ H a = some (.tup [.str "list", x]) ∧ Rp H s x
  | .fn s t, v => ∃ a x y, v = .ref a ∧ H a = some (.tup [.str "fun", x, y]) ∧ Rp H s x ∧ Rp H t y
def RpL (H : Hp) : List Kd → List V → Prop
  | [], [] => True
  | t :: ts, v :: vs => Rp H t v ∧ RpL H ts vs
  | _, _ => False
theorem Rp.tk {H G : Hp} (k : Tk H G) : ∀ {t : Kd} {v : V}, Rp H t v → Rp G t v := by
  intro t
  induction t with
  | opn x => exact fun ⟨a, e, h⟩ => ⟨a, e, k _ _ h⟩
  | num => exact fun ⟨a, e, h⟩ => ⟨a, e, k _ _ h⟩
  | tru => exact fun ⟨a, e, h⟩ => ⟨a, e, k _ _ h⟩
  | pair s t i j => exact fun ⟨a, x, y, e, h, p, q⟩ => ⟨a, x, y, e, k _ _ h, i p, j q⟩
  | eith s t i j => exact fun ⟨a, x, y, e, h, p, q⟩ => ⟨a, x, y, e, k _ _ h, i p, j q⟩
  | lst s i => exact fun ⟨a, x, e, h, p⟩ => ⟨a, x, e, k _ _ h, i p⟩
  | fn s t i j => exact fun ⟨a, x, y, e, h, p, q⟩ => ⟨a, x, y, e, k _ _ h, i p, j q⟩
theorem RpL.tk {H G : Hp} (k : Tk H G) : ∀ {ts : List Kd} {vs : List V}, RpL H ts vs → RpL G ts vs
  | [], [], _ => trivial
  | _ :: _, _ :: _, h => ⟨h.1.tk k, RpL.tk k h.2⟩
  | [], _ :: _, h => h.elim
  | _ :: _, [], h => h.elim
theorem RpL.len {H : Hp} : ∀ {ts : List Kd} {vs : List V}, RpL H ts vs → ts.length = vs.length
  | [], [], _ => rfl
  | _ :: _, _ :: _, h => congrArg (· + 1) (RpL.len h.2)
  | [], _ :: _, h => h.elim
  | _ :: _, [], h => h.elim
theorem RpL.app {H : Hp} : ∀ {ts us : List Kd} {vs ws : List V}, RpL H ts vs → RpL H us ws → RpL H (ts ++ us) (vs ++ ws)
  | [], _, [], _, _, h => h
  | _ :: _, _, _ :: _, _, h, k => ⟨h.1, RpL.app h.2 k⟩
  | [], _, _ :: _, _, h, _ => h.elim
  | _ :: _, _, [], _, h, _ => h.elim
theorem RpL.get {H : Hp} : ∀ {ts : List Kd} {vs : List V} {i : Nat} {v : V}, RpL H ts vs → vs[i]? = some v → ∃ t, ts[i]? = some t ∧ Rp H t v
  | [], [], i, v, _, e => by simp at e
  | t :: _, w :: _, 0, v, h, e => ⟨t, rfl, by rw [← show w = v from Option.some.inj e]; exact h.1⟩
  | _ :: ts, _ :: vs, i + 1, v, h, e => RpL.get (ts := ts) (vs := vs) (i := i) h.2 e
  | [], _ :: _, _, _, h, _ => h.elim
  | _ :: _, [], _, _, h, _ => h.elim
theorem RpL.last {H : Hp} : ∀ {ts : List Kd} {vs : List V}, RpL H ts vs → vs ≠ [] → ∃ us u ws w, ts = us ++ [u] ∧ vs = ws ++ [w] ∧ RpL H us ws ∧ Rp H u w
  | [t], [v], h, _ => ⟨[], t, [], v, rfl, rfl, trivial, h.1⟩
  | t :: t' :: ts, v :: v' :: vs, h, _ => by
    obtain ⟨us, u, ws, w, e1, e2, k, r⟩ := RpL.last (ts := t' :: ts) (vs := v' :: vs) h.2 (by simp)
    exact ⟨t :: us, u, v :: ws, w, by rw [e1]; rfl, by rw [e2]; rfl, ⟨h.1, k⟩, r⟩
  | [], [], _, n => absurd rfl n
  | [], _ :: _, h, _ => h.elim
  | _ :: _, [], h, _ => h.elim
  | [_], _ :: _ :: _, h, _ => h.2.elim
  | _ :: _ :: _, [_], h, _ => h.2.elim
/-- the tuple at v: the word, and the rest -/
theorem Rp.see {H : Hp} {t : Kd} {v : V} (h : Rp H t v) : ∃ a vs, v = .ref a ∧ H a = some (.tup (.str t.word :: vs)) ∧ ((t.isOp = false ∧ RpL H t.kids vs) ∨ ∃ x, t = .opn x ∧ vs = [.str x]) := by
  cases t with
  | opn x =>
    obtain ⟨a, e, g⟩ := h
    exact ⟨a, _, e, g, .inr ⟨x, rfl, rfl⟩⟩
  | num =>
    obtain ⟨a, e, g⟩ := h
    exact ⟨a, [], e, g, .inl ⟨rfl, trivial⟩⟩
  | tru =>
    obtain ⟨a, e, g⟩ := h
    exact ⟨a, [], e, g, .inl ⟨rfl, trivial⟩⟩
  | pair s t =>
    obtain ⟨a, x, y, e, g, p, q⟩ := h
    exact ⟨a, _, e, g, .inl ⟨rfl, p, q, trivial⟩⟩
  | eith s t =>
    obtain ⟨a, x, y, e, g, p, q⟩ := h
    exact ⟨a, _, e, g, .inl ⟨rfl, p, q, trivial⟩⟩
  | lst s =>
    obtain ⟨a, x, e, g, p⟩ := h
    exact ⟨a, _, e, g, .inl ⟨rfl, p, trivial⟩⟩
  | fn s t =>
    obtain ⟨a, x, y, e, g, p, q⟩ := h
    exact ⟨a, _, e, g, .inl ⟨rfl, p, q, trivial⟩⟩
theorem cutFrom1 (x : V) (vs : List V) : cutV (x :: vs) (some 1) none = vs := by
  unfold cutV
  rw [show HT.sIx (x :: vs).length 0 (some 1) = min 1 (x :: vs).length from HT.sIx_nat _ _ 1, HT.sIx_none, List.length_cons, Nat.min_eq_left (by omega)]
  show (vs.take (vs.length + 1 - 1)) = vs
  rw [Nat.add_sub_cancel, List.take_length]
theorem notWhole (x : V) (vs : List V) : ¬ (HT.sIx (x :: vs).length 0 (some 1) = 0 ∧ HT.sIx (x :: vs).length (x :: vs).length none = (x :: vs).length) := by
  rw [show HT.sIx (x :: vs).length 0 (some 1) = min 1 (x :: vs).length from HT.sIx_nat _ _ 1, List.length_cons, Nat.min_eq_left (by omega)]
  rintro ⟨h, _⟩
  cases h
theorem smk {H G : Hp} {p : Addr} {o : HO} (a : Same H G) (h : H p = none) : Same H (upd G p o) := fun b u e => by
  rw [upd_ne (ne_of_none e h)]
  exact a b u e
end Kq

namespace Kq
open PySem PySem.Spec PyProof.Rows L2
namespace Kd
theorem size_fn (a b : Kd) : (fn a b).size = a.size + b.size + 1 := by
  show (a.nodes ++ b.nodes).length + 1 = _
  rw [List.length_append]
  rfl
theorem size_pos (t : Kd) : 1 ≤ t.size := by
  unfold size
  rw [nodes_eq]
  exact Nat.succ_le_succ (Nat.zero_le _)
theorem args_le : ∀ t : Kd, t.args.length ≤ t.size
  | fn a b => by
    have := args_le b
    rw [size_fn]
    show b.args.length + 1 ≤ _
    omega
  | opn _ => Nat.zero_le _
  | num => Nat.zero_le _
  | tru => Nat.zero_le _
  | pair _ _ => Nat.zero_le _
  | eith _ _ => Nat.zero_le _
  | lst _ => Nat.zero_le _
def nm? : Kd → Option Str
  | opn x => some x
  | _ => none
theorem opens_nodes : ∀ t : Kd, t.nodes.filterMap nm? = t.opens
  | opn _ => rfl
  | num => rfl
  | tru => rfl
  | pair a b => by
    show ((a.nodes ++ b.nodes).filterMap nm?) = a.opens ++ b.opens
    rw [List.filterMap_append, opens_nodes a, opens_nodes b]
  | eith a b => by
    show ((a.nodes ++ b.nodes).filterMap nm?) = a.opens ++ b.opens
    rw [List.filterMap_append, opens_nodes a, opens_nodes b]
  | lst a => by
    show (a.nodes.filterMap nm?) = a.opens
    exact opens_nodes a
  | fn a b => by
    show ((a.nodes ++ b.nodes).filterMap nm?) = a.opens ++ b.opens
    rw [List.filterMap_append, opens_nodes a, opens_nodes b]
end Kd
theorem ixTK {X : Cx} (K : PySem.W.Frag) (h : X.K = K) : IxR X (rIxT K) := by
  subst h
  exact ix_tup
-- abbrev tOpens : Stmt := tp 9999
end Kq

namespace Kq
open PySem PySem.Spec PyProof.Rows L2
theorem Nm.ok {x : Str} (h : Nm x) : PyData.strOk x = true := by
  unfold PyData.strOk
  rw [← Array.all_toList, List.all_eq_true]
  intro c hc
  have := (h.low c hc).2
  exact decide_eq_true (by omega)
theorem dpStrs (K : PySem.W.Frag) (H : Hp) : ∀ xs : List Str, DpAll K H (xs.map V.str) (xs.map PyData.str)
  | [] => .nil
  | x :: xs => .cons (.str x) (dpStrs K H xs)
theorem layStrs : ∀ xs : List Str, (∀ x ∈ xs, Nm x) → PyData.canLayAll0 (xs.map PyData.str) = true ∧ PyData.depthAll (xs.map PyData.str) = 0
  | [], _ => ⟨by simp [PyData.canLayAll0], by simp [PyData.depthAll]⟩
  | x :: xs, h => by
    obtain ⟨a, b⟩ := layStrs xs fun y hy => h y (List.mem_cons_of_mem _ hy)
    have c := (h x List.mem_cons_self).ok
    exact ⟨by simp [PyData.canLayAll0, PyData.canLay0, a, c], by simp [PyData.depthAll, PyData.depth, b]⟩
theorem shStrs {xs : List Str} (h : ∀ x ∈ xs, Nm x) : SeqAt.shaped (.list (xs.map PyData.str)) = true := by
  obtain ⟨a, b⟩ := layStrs xs h
  simp [SeqAt.shaped, PyData.canLay0, PyData.depth, a, b]
theorem eqvNil (xs : List Str) : PyData.eqv (.list (xs.map PyData.str)) (.list []) = xs.isEmpty := by
  cases xs <;> simp [PyData.eqv, PyData.eqvAll]
def sb : Nat → Nat
  | 0 => 1
  | n + 1 => 2 * sb n + 1
theorem sb_pos (n : Nat) : 1 ≤ sb n := by
  cases n with
  | zero => exact Nat.le_refl _
  | succ n =>
    show 1 ≤ 2 * sb n + 1
    omega
structure Dta (g : Nat) (t : Kd) : Prop where
  nf : t.data = true
  dp : t.dp ≤ g
  sz : t.size ≤ sb g
  nm : ∀ x ∈ t.opens, Nm x
namespace Kd
theorem size2 (a b : Kd) : (pair a b).size = a.size + b.size + 1 ∧ (eith a b).size = a.size + b.size + 1 ∧ (lst a).size = a.size + 1 := by
  refine ⟨?_, ?_, rfl⟩
  · show (a.nodes ++ b.nodes).length + 1 = _
    rw [List.length_append]
    rfl
  · show (a.nodes ++ b.nodes).length + 1 = _
    rw [List.length_append]
    rfl
theorem opens_le (t : Kd) : t.opens.length ≤ t.size := by
  rw [← opens_nodes]
  exact List.length_filterMap_le _ _
theorem kids_size (t : Kd) : t.size = 1 + (t.kids.map size).sum := by
  cases t with
  | opn x => rfl
  | num => rfl
  | tru => rfl
  | pair a b =>
    rw [(size2 a b).1]
    show _ = 1 + (a.size + (b.size + 0))
    omega
  | eith a b =>
    rw [(size2 a b).2.1]
    show _ = 1 + (a.size + (b.size + 0))
    omega
  | lst a =>
    rw [(size2 a a).2.2]
    show _ = 1 + (a.size + 0)
    omega
  | fn a b =>
    rw [size_fn]
    show _ = 1 + (a.size + (b.size + 0))
    omega
theorem kids_opens {t : Kd} (h : t.isOp = false) : t.opens = t.kids.flatMap opens := by
  cases t <;> simp_all [opens, kids, isOp]
theorem kids_dp {t u : Kd} (h : u ∈ t.kids) : u.dp + 1 ≤ t.dp := by
  cases t with
  | opn x => cases h
  | num => cases h
  | tru => cases h
  | pair a b =>
    have : u = a ∨ u = b := by simpa [kids] using h
    rcases this with rfl | rfl <;> simp only [dp] <;> omega
  | eith a b =>
    have : u = a ∨ u = b := by simpa [kids] using h
    rcases this with rfl | rfl <;> simp only [dp] <;> omega
  | lst a =>
    have : u = a := by simpa [kids] using h
    subst this
    simp only [dp]
    omega
  | fn a b =>
    have : u = a ∨ u = b := by simpa [kids] using h
    rcases this with rfl | rfl <;> simp only [dp] <;> omega
theorem kids_le (t : Kd) : t.kids.length ≤ 2 := by
  cases t <;> simp [kids]
end Kd
theorem isiK {X : Cx} (K : PySem.W.Frag) (h : X.K = K) : CallR X (.builtin "isinstance") (rIsi K) := by
  subst h
  exact call_isi
abbrev tData : Stmt := tp 35
-- abbrev tLOpens : Stmt := tp 9999
-- abbrev tArgument : Stmt := tp 9999
abbrev psData : List Str := ["_law_deck_here", "_law_opens", "_law_deep"]
section
variable {P : Program} {w : World} {K : PySem.W.Frag} {mg : Str → Option Value} {base : Heap}
/-! _law_data -/
theorem scData : FnScope ["_law_deck_here", "_law_opens", "_law_deep", "_law_way"] psData (defScope tData) := ⟨rfl, rfl, rfl, by decide +kernel, rfl, by decide +kernel, by decide +kernel⟩
def spData (n : Nat) : Sp := fun vs H Q _ => ∃ (d c o : Addr) (xs : List Str) (g : Nat), vs = [.ref d, .ref o, .int (g : Int)] ∧ g + 1 ≤ n ∧ Dk H d c ∧ H o = some (.lst (xs.map V.str)) ∧ o ≠ d ∧ o ≠ c ∧ xs.length ≤ 26 ∧ (∀ x ∈ xs, Nm x) ∧
  ∀ (v : V) (t : Kd) (G : Hp), Kp d c H G → Dk G d c → Rp G t v → Dta g t → Q v G
theorem okData1 {f fD : Addr} {fd fdD : FuncData} {n : Nat} (F : Fun K "_law_data" "_law_data" tData f fd) (bF : Binds K fd psData []) (gF : mg "_law_data" = some (.ref f))
    (GD : FnOk P w K mg base CX0 (n + 2) fD fdD ["_law_deck_here", "_law_most"] spDraw) (bD : Binds K fdD ["_law_deck_here", "_law_most"] []) (gD : mg "_law_draw" = some (.ref fD)) (kD : PySem.W.keepIn K (.ref fD) = true) (ml : mg "len" = none)
    (GI : FnOk P w K mg base CX0 (n + 2) f fd psData (spData n)) : FnOk P w K mg base CX0 (n + 3) f fd psData (spData (n + 1)) := by
  refine F.ok scData (fun vs H Q E h => ?_) (fun cdv A outer s H vs Q E hr h => ?_)
  · obtain ⟨d, c, o, xs, g, rfl, _⟩ := h
    rfl
  obtain ⟨d, c, o, xs, g, rfl, hg, dk, ho, od, oc, lx, hx, q⟩ := h
  refine ⟨_, pss_cons (ps_set (i := 3) scData.nd rfl (.inl rfl) (pe_call GD hr (by rfl) gD kD bD .nil pass0 (pa_cons (pv 0) (pa_cons pe_int pa_nil))))
    (C8.pss_cut (ps_if (PW.pt (pw_and (pt_cmpR op_lt (pv 3) pe_int (nomark _)) (pw_and1 (pt_cmpR (op_neD hr.units) (pv 1) (pe_lst pa_nil) (nomark _)))))
      (pss_one (ps_ret (pe_tup (pa_cons pe_str (pa_cons (pe_ix ix_list (pv 1) (pe_call GD hr (by rfl) gD kD bD .nil pass0 (pa_cons (pv 0) (pa_cons (pe_callB call_len_seq (by rfl) ml PySem.boot_len (pa_cons (pv 1) pa_nil)) pa_nil))) (fun _ _ => rfl)) pa_nil))))) pss_nil)
    (pss_cons (ps_if (PW.pt (pw_or (pt_cmpR op_eq (pv 2) pe_int (nomark _)) (pw_or1 (pt_cmpR op_lt (pv 3) pe_int (nomark _)))))
      (pss_one (ps_ret (pe_ix ix_list (pe_lst (pa_cons (pe_tup (pa_cons pe_str pa_nil)) (pa_cons (pe_tup (pa_cons pe_str pa_nil)) (pa_cons (pe_tup (pa_cons pe_str pa_nil)) pa_nil)))) (pe_call GD hr (by rfl) gD kD bD .nil pass0 (pa_cons (pv 0) (pa_cons pe_int pa_nil))) (fun _ _ => rfl)))) pss_nil)
    (pss_cons (ps_if (pt_cmpR op_eq (pv 3) pe_int (nomark _))
      (pss_one (ps_ret (pe_tup (pa_cons pe_str (pa_cons (pe_call GI hr (by rfl) gF F.kp bF .nil pass0 (pa_cons (pv 0) (pa_cons (pv 1) (pa_cons (pe_op op_sub (pv 2) pe_int) pa_nil)))) (pa_cons (pe_call GI hr (by rfl) gF F.kp bF .nil pass0 (pa_cons (pv 0) (pa_cons (pv 1) (pa_cons (pe_op op_sub (pv 2) pe_int) pa_nil)))) pa_nil)))))) pss_nil)
    (pss_cons (ps_if (pt_cmpR op_eq (pv 3) pe_int (nomark _))
      (pss_one (ps_ret (pe_tup (pa_cons pe_str (pa_cons (pe_call GI hr (by rfl) gF F.kp bF .nil pass0 (pa_cons (pv 0) (pa_cons (pv 1) (pa_cons (pe_op op_sub (pv 2) pe_int) pa_nil)))) (pa_cons (pe_call GI hr (by rfl) gF F.kp bF .nil pass0 (pa_cons (pv 0) (pa_cons (pv 1) (pa_cons (pe_op op_sub (pv 2) pe_int) pa_nil)))) pa_nil)))))) pss_nil)
    (pss_one (ps_ret (pe_tup (pa_cons pe_str (pa_cons (pe_call GI hr (by rfl) gF F.kp bF .nil pass0 (pa_cons (pv 0) (pa_cons (pv 1) (pa_cons (pe_op op_sub (pv 2) pe_int) pa_nil)))) pa_nil))))))))), ?_⟩
  refine ⟨_, rfl, d, c, 10, rfl, dk, by decide, by decide, fun way G1 w0 w1 kp1 dk1 => ?_⟩
  have ho1 := kp1 o _ od oc ho
  refine ⟨fun σ G => σ = [some (.ref d), some (.ref o), some (.int g), some (.int way)] ∧ Kp d c H G ∧ Dk G d c ∧ G o = some (.lst (xs.map V.str)), ?_, ?b2⟩
  refine ⟨_, rfl, _, _, rfl, rfl, _, rfl, ?_⟩
  refine ite2 (fun _ => ⟨_, rfl, Nat.zero_le _, fun e ne => ⟨.list (xs.map PyData.str), .list [], .lst (SqL.of (newS ne _ _ ho1)) (dpStrs K _ xs), .lst (SqL.of upd_same) .nil, shStrs hx, rfl, _, rfl, ite2 (fun c1 => ?b1) (fun _ => ⟨rfl, kp1.trans (Kp.of (newS ne)), dk1.same (newS ne), newS ne _ _ ho1⟩)⟩⟩) (fun _ => iteF ⟨rfl, kp1, dk1, ho1⟩)
  case b1 =>
    have ho2 := newS (o := .lst []) ne _ _ ho1
    have dk2 := dk1.same (newS (o := .lst []) ne)
    have kp2 : Kp d c H (upd G1 e (.lst [])) := kp1.trans (Kp.of (newS ne))
    rw [eqvNil] at c1
    have l0 : 0 < xs.length := by
      cases xs with
      | nil => cases c1
      | cons x r => exact Nat.succ_pos _
    refine ⟨_, rfl, _, rfl, _, rfl, o, _, rfl, .inl (SqL.of ho2), d, c, _, rfl, dk2, ?_, ?_, fun r G3 r0 r1 kp3 dk3 => ?_⟩
    · rw [List.length_map]
      omega
    · rw [List.length_map]
      omega
    rw [List.length_map] at r1
    have lr : r.toNat < xs.length := by omega
    have er : r = ((r.toNat : Nat) : Int) := by omega
    have gat : atI (xs.map V.str) r = some (.str xs[r.toNat]) := by
      have z := atI_nat (xs := xs.map V.str) (j := r.toNat) (v := .str xs[r.toNat]) (by rw [List.getElem?_map, List.getElem?_eq_getElem lr]; rfl)
      rw [← er] at z
      exact z
    refine ⟨o, _, _, _, rfl, rfl, SqL.of (kp3 o _ od oc ho2), gat, (by show 2 ≤ sizeLine; decide), fun p np => ?_⟩
    refine q (.ref p) (.opn xs[r.toNat]) _ ((kp2.trans kp3).trans (Kp.of (newS np))) (dk3.same (newS np)) ⟨p, rfl, upd_same⟩ ⟨rfl, Nat.zero_le _, sb_pos g, fun x hx' => ?_⟩
    rw [List.mem_singleton.mp hx']
    exact hx _ (List.getElem_mem lr)
  case b2 =>
    rintro σ G ⟨rfl, kp, dkG, hoG⟩
    have leaf : ∀ (r : Int) (G2 : Hp) (p1 p2 p3 l : Addr), 0 ≤ r → r < 3 → Kp d c H G2 → Dk G2 d c → G2 p1 = some (.tup [.str "num"]) → G2 p2 = some (.tup [.str "truth"]) → G2 p3 = some (.tup [.str "truth"]) → ∃ v : V, atI [V.ref p1, .ref p2, .ref p3] r = some v ∧ Q v G2 := fun r G2 p1 p2 p3 l r0 r1 kp2 dk2 g1 g2 g3 => by
      have er : r = 0 ∨ r = 1 ∨ r = 2 := by omega
      rcases er with rfl | rfl | rfl
      · exact ⟨.ref p1, rfl, q _ .num _ kp2 dk2 ⟨p1, rfl, g1⟩ ⟨rfl, Nat.zero_le _, sb_pos g, fun x z => (nomatch z)⟩⟩
      · exact ⟨.ref p2, rfl, q _ .tru _ kp2 dk2 ⟨p2, rfl, g2⟩ ⟨rfl, Nat.zero_le _, sb_pos g, fun x z => (nomatch z)⟩⟩
      · exact ⟨.ref p3, rfl, q _ .tru _ kp2 dk2 ⟨p3, rfl, g3⟩ ⟨rfl, Nat.zero_le _, sb_pos g, fun x z => (nomatch z)⟩⟩
    refine ⟨_, rfl, rfl, _, rfl, (fun h3 => ite2 (fun _ => iteT h3) (fun hdeep => ⟨_, rfl, _, _, rfl, rfl, _, rfl, ite2 (fun _ => h3) (fun _ => ?deep)⟩)) ?leaf⟩
    case leaf =>
      refine ⟨(by show 1 ≤ sizeLine; decide), fun p1 n1 => ⟨(by show 1 ≤ sizeLine; decide), fun p2 n2 => ⟨(by show 1 ≤ sizeLine; decide), fun p3 n3 => ⟨(by show 3 ≤ sizeLine; decide), fun l nl => ?_⟩⟩⟩⟩
      have s1 := newS (o := .tup [.str "num"]) n1
      have s2 := newS (o := .tup [.str "truth"]) n2
      have s3 := newS (o := .tup [.str "truth"]) n3
      have s4 := newS (o := .lst [V.ref p1, .ref p2, .ref p3]) nl
      have s14 := s1.trans (s2.trans (s3.trans s4))
      have g1 := s4 _ _ (s3 _ _ (s2 p1 _ upd_same))
      have g2 := s4 _ _ (s3 p2 _ upd_same)
      have g3 := s4 p3 _ upd_same
      refine ⟨_, rfl, d, c, 3, rfl, dkG.same s14, by decide, by decide, fun r G3 r0 r1 kp3 dk3 => ?_⟩
      have tk := Tk.kp kp3 (dkG.same s14)
      obtain ⟨v, e1, e2⟩ := leaf r G3 p1 p2 p3 l r0 r1 ((kp.trans (Kp.of s14)).trans kp3) dk3 (tk _ _ g1) (tk _ _ g2) (tk _ _ g3)
      have off := (dkG.same (s1.trans (s2.trans s3))).off nl
      exact ⟨l, _, _, v, rfl, rfl, SqL.of (kp3 l _ off.1 off.2 upd_same), e1, e2⟩
    case deep =>
      obtain ⟨j, rfl⟩ : ∃ j, g = j + 1 := by
        cases g with
        | zero => exact absurd (decide_eq_true rfl) hdeep
        | succ j => exact ⟨j, rfl⟩
      have ej : ((j + 1 : Nat) : Int) - 1 = ((j : Nat) : Int) := by omega
      have eL : [V.ref d, V.ref o, V.int (((j + 1 : Nat) : Int) - 1)] = [V.ref d, V.ref o, V.int ((j : Nat) : Int)] := by rw [ej]
      have both : ∀ (a b : Kd) (va vb : V) (G2 : Hp) (p : Addr) (wd : Str) (mk : Kd → Kd → Kd), Kp d c H G2 → Dk G2 d c → Rp G2 a va → Rp G2 b vb → Dta j a → Dta j b → G2 p = none → (∀ F x y pp, F pp = some (.tup [.str wd, x, y]) → Rp F a x → Rp F b y → Rp F (mk a b) (.ref pp)) →
          (mk a b).data = (a.data && b.data) → (mk a b).dp = max a.dp b.dp + 1 → (mk a b).size = a.size + b.size + 1 → (mk a b).opens = a.opens ++ b.opens → Q (.ref p) (upd G2 p (.tup [.str wd, va, vb])) := fun a b va vb G2 p wd mk kp2 dk2 ra rb da db np hmk m1 m2 m3 m4 => by
        have s := newS (o := .tup [.str wd, va, vb]) np
        refine q _ (mk a b) _ (kp2.trans (Kp.of s)) (dk2.same s) (hmk _ _ _ p upd_same (ra.tk (Tk.of s)) (rb.tk (Tk.of s))) ⟨by rw [m1, da.nf, db.nf]; rfl, ?_, ?_, fun x hx' => ?_⟩
        · have := da.dp
          have := db.dp
          omega
        · have := da.sz
          have := db.sz
          rw [m3]
          show _ ≤ 2 * sb j + 1
          omega
        · rw [m4] at hx'
          rcases List.mem_append.mp hx' with z | z
          · exact da.nm x z
          · exact db.nm x z
      refine ⟨_, rfl, rfl, _, rfl, ite2 (fun _ => ?_) (fun _ => ⟨_, rfl, rfl, _, rfl, ite2 (fun _ => ?_) (fun _ => ?_)⟩)⟩
      · refine ⟨_, rfl, _, rfl, _, rfl, _, _, rfl, rfl, d, c, o, xs, j, eL, by omega, dkG, hoG, od, oc, lx, hx, fun va a G3 kp3 dk3 ra da => ?_⟩
        refine ⟨_, rfl, _, rfl, _, rfl, _, _, rfl, rfl, d, c, o, xs, j, eL, by omega, dk3, kp3 o _ od oc hoG, od, oc, lx, hx, fun vb b G4 kp4 dk4 rb db => ?_⟩
        exact ⟨(by show 3 ≤ sizeLine; decide), fun p np => both a b va vb G4 p "pair" .pair ((kp.trans kp3).trans kp4) dk4 (ra.tk (Tk.kp kp4 dk3)) rb da db np (fun F x y pp h1 h2 h3 => ⟨pp, x, y, rfl, h1, h2, h3⟩) rfl rfl (Kd.size2 a b).1 rfl⟩
      · refine ⟨_, rfl, _, rfl, _, rfl, _, _, rfl, rfl, d, c, o, xs, j, eL, by omega, dkG, hoG, od, oc, lx, hx, fun va a G3 kp3 dk3 ra da => ?_⟩
        refine ⟨_, rfl, _, rfl, _, rfl, _, _, rfl, rfl, d, c, o, xs, j, eL, by omega, dk3, kp3 o _ od oc hoG, od, oc, lx, hx, fun vb b G4 kp4 dk4 rb db => ?_⟩
        exact ⟨(by show 3 ≤ sizeLine; decide), fun p np => both a b va vb G4 p "either" .eith ((kp.trans kp3).trans kp4) dk4 (ra.tk (Tk.kp kp4 dk3)) rb da db np (fun F x y pp h1 h2 h3 => ⟨pp, x, y, rfl, h1, h2, h3⟩) rfl rfl (Kd.size2 a b).2.1 rfl⟩
      · refine ⟨_, rfl, _, rfl, _, rfl, _, _, rfl, rfl, d, c, o, xs, j, eL, by omega, dkG, hoG, od, oc, lx, hx, fun va a G3 kp3 dk3 ra da => ?_⟩
        refine ⟨(by show 2 ≤ sizeLine; decide), fun p np => ?_⟩
        have s := newS (o := .tup [.str "list", va]) np
        refine q _ (.lst a) _ ((kp.trans kp3).trans (Kp.of s)) (dk3.same s) ⟨p, va, rfl, upd_same, ra.tk (Tk.of s)⟩ ⟨da.nf, ?_, ?_, da.nm⟩
        · have := da.dp
          show a.dp + 1 ≤ j + 1
          omega
        · have := da.sz
          rw [(Kd.size2 a a).2.2]
          show _ ≤ 2 * sb j + 1
          omega
theorem noFn {f : Addr} {fd : FuncData} {ps : List Str} {sp : Sp} {k : Nat} (no : ∀ vs H Q E, ¬ sp vs H Q E) : FnOk P w K mg base CX0 k f fd ps sp :=
  ⟨fun vs H Q E h => absurd h (no vs H Q E), fun A outer s H args us vs Q E _ _ _ _ h => absurd h (no vs H Q E)⟩
theorem okData {f fD fM : Addr} {fd fdD fdM : FuncData} (F : Fun K "_law_data" "_law_data" tData f fd) (bF : Binds K fd psData []) (gF : mg "_law_data" = some (.ref f))
    (FD : Fun K "_law_draw" "_law_draw" tDraw fD fdD) (bD : Binds K fdD ["_law_deck_here", "_law_most"] []) (gD : mg "_law_draw" = some (.ref fD)) (FM : Fun K "_law_mixed" "_law_mixed" tMixed fM fdM) (bM : Binds K fdM ["_law_cell", "_law_k"] []) (gM : mg "_law_mixed" = some (.ref fM)) (ml : mg "len" = none) :
    ∀ n, FnOk P w K mg base CX0 (n + 2) f fd psData (spData n)
  | 0 => noFn fun vs H Q E h => by
    obtain ⟨d, c, o, xs, g, _, hg, _⟩ := h
    omega
  | n + 1 => okData1 F bF gF (okDraw FD FM bM gM) bD gD FD.kp ml (okData F bF gF FD bD gD FM bM gM ml n)
end
end Kq

/-! all(..) of a generator expression whose element may call defs -/
namespace Kg
open PySem PySem.Spec PyProof.Rows L2 GenW GxR
open Sem (wp)
theorem over_startC {A : Around} {elt t it : Expr} {ifs : List Expr} {scope : Scope} {pos : Pos} {iv acc : Value} {env : Env} : A.over (.compStart (.GeneratorExp elt [⟨t, it, ifs, 0⟩] scope pos) 0 iv acc env) [] = A.deeper env := by
  first
    | rfl
    | (obtain ⟨hd, d, fr, gs, u⟩ := A; simp [Around.over, Around.deeper, marksOver, frameCount, unitsOf, envsOf, guardsOf, pushEnvs, pushGuards, Code.envs, Code.env?, Code.isFrame, Code.guards, Code.isGuard, Code.weight, Code.frames, Code.isCreation, Code.isCaller, Code.cUnits])
theorem over_loopC {A : Around} {elt t it : Expr} {ifs : List Expr} {scope : Scope} {pos : Pos} {iv acc : Value} {env : Env} : A.over (.compLoop (.GeneratorExp elt [⟨t, it, ifs, 0⟩] scope pos) 0 iv acc env) [] = A.deeper env := by
  first
    | rfl
    | (obtain ⟨hd, d, fr, gs, u⟩ := A; simp [Around.over, Around.deeper, marksOver, frameCount, unitsOf, envsOf, guardsOf, pushEnvs, pushGuards, Code.envs, Code.env?, Code.isFrame, Code.guards, Code.isGuard, Code.weight, Code.frames, Code.isCreation, Code.isCaller, Code.cUnits])
/-- the scope of a generator expression within a def: its own names, those that it captures (with their places in N) -/
structure GxS (N : List Str) (sc scope : Scope) (own : List Str) (caps : List (Str × Nat)) : Prop where
  kind : scope.kind = .function
  co : scope.isCoroutine = false
  cell : ∀ y ∈ scope.names, y.2 ≠ .cell
  dot : scope.names.lookup (".0" : Str) = some NameKind.local
  nd : (own ++ caps.map (·.1)).Nodup
  caps : ∀ p ∈ caps, N[p.2]? = some p.1 ∧ scope.names.lookup p.1 = some .free
  free : ∀ y ∈ scope.names, y.2 = .free → sc.names.lookup y.1 = some .cell ∨ sc.names.lookup y.1 = some .free
  uniq : ∀ y ∈ scope.names, scope.names.lookup y.1 = some y.2
abbrev gxN (own : List Str) (caps : List (Str × Nat)) : List Str := own ++ caps.map (·.1)
abbrev gxSt (own : List Str) (caps : List (Str × Nat)) (σ : L2.St) : L2.St := own.map (fun _ => none) ++ caps.map (fun p => (σ[p.2]?).join)
abbrev gxEnv (X : Cx) (scope : Scope) (C : Addr) (code : Value) : Env := genEnv scope (cloFrom X.env.cells scope.names []) C code builtinsNs X.env
/-- the context of its frame -/
abbrev gcx (X : Cx) (A : Around) (N : List Str) (s : Shared) (H : Hp) (cenv : Env) (fp : List Addr) : Cx :=
  { X with A := A.deeper cenv, N := N, s_0 := s, H_0 := H, env := cenv, outer := X.stack, stack := cenv :: X.stack, ex := fp, fn := fun _ => false, calm := true, pn := [], xe := fun _ _ => False }
section
variable {X : Cx} {pins : List (Addr × Obj)} {σ : L2.St} {H : Hp} {s : Shared}
theorem gx_start {A : Around} {scope : Scope} {own : List Str} {caps : List (Str × Nat)} {fp : List Addr} {code : Value} {m0 : Str → Option Value} {s1 : Shared} (I : Inv X pins σ H s) (S : GxS X.N X.env.scope scope own caps) (hh : A.handled = none) (hfr : A.frames = some X.stack)
    (hfp : ∀ b ∈ fp, FpOk X pins H b ∧ b < s.heap.objs.size) (hns : s1.heap.Ns s.heap.objs.size m0) (kp : ∀ b o, s.heap.get? b = some o → s1.heap.get? b = some o) (hos : s1.os = s.os) (hb : AllBare s1.gens) :
    Inv (gcx X A (gxN own caps) s H (gxEnv X scope s.heap.objs.size code) fp) [] (gxSt own caps σ) H s1 := by
  have hfree : ∀ y ∈ scope.names, y.2 = .free → ∃ c, X.env.cells.lookup y.1 = some c := fun y hy e => by
    rcases S.free y hy e with k | k
    · exact I.ok.has _ (.inl k)
    · exact I.ok.has _ (.inr k)
  have cm : ∀ {y c}, (y, c) ∈ cloFrom X.env.cells scope.names [] → X.env.cells.lookup y = some c ∧ c < s.heap.objs.size := fun {y c} hm => by
    rcases cloFrom_mem hm with hm | ⟨h1, rfl⟩
    · cases hm
    · obtain ⟨c, hc⟩ := hfree _ h1 rfl
      rw [hc]
      obtain ⟨w, z⟩ := I.cell _ _ hc
      exact ⟨rfl, z.lt⟩
  have mem : ∀ {y c}, (cloFrom X.env.cells scope.names []).lookup y = some c → X.env.cells.lookup y = some c ∧ c < s.heap.objs.size := fun {y c} e => cm (PySem.mem_of_lookup e)
  have look : ∀ {y}, scope.names.lookup y = some .free → ∃ c, (cloFrom X.env.cells scope.names []).lookup y = some c := fun {y} hl => by
    have hy : (y, NameKind.free) ∈ scope.names := PySem.mem_of_lookup hl
    exact mem_lookup (cloFrom_has (cells := X.env.cells) (acc := []) hy)
  have nfs : ∀ b o, X.base.get? b = some o → b ∉ frs X.stack := fun b o e z => by
    rcases List.mem_cons.mp (I.stkSub b z) with z | z
    · have h1 := Heap.lt_size e
      have h2 := Nat.le_trans I.ok.bsz I.ok.above
      rw [z] at h1
      exact absurd (Nat.lt_of_lt_of_le h1 h2) (Nat.lt_irrefl _)
    · exact I.ok.nofr e z
  have okB : (gcx X A (gxN own caps) s H (gxEnv X scope s.heap.objs.size code) fp).Ok := by
    refine ⟨I.ok.mod, S.kind, I.ok.glob, rfl, Nat.le_refl _, fun y z c e1 e2 => I.ok.inj y z c (mem e1).1 (mem e2).1, fun y hy => ?_, fun y c z e => ?_, fun _ => hh, ?_, .inr ⟨rfl, rfl⟩, fun b hb => ⟨Nat.ne_of_lt (hfp b hb).2, fun y c e z => (hfp b hb).1.2.2.2.2.1 y c (mem e).1 z⟩,
      I.bs, Nat.le_trans I.ok.bsz I.sz, fun b o e hb => ?_, fun b hb z => ?_, I.stack, I.stkFree⟩
    · have hy : scope.names.lookup y = some .cell ∨ scope.names.lookup y = some .free := hy
      rcases hy with hy | hy
      · exact absurd rfl (S.cell _ (PySem.mem_of_lookup hy))
      · exact look hy
    · cases z
    · exact Around.frames_deeper hfr
    · rcases (hfp b hb).1.2.2.2.1 with z | z
      · exact I.ok.noex b o e z
      · exact absurd (Nat.lt_of_lt_of_le (Heap.lt_size e) (Nat.le_trans I.ok.bsz z)) (Nat.lt_irrefl _)
    · rcases List.mem_cons.mp (I.stkSub b z) with z | z
      · exact (hfp b hb).1.2.1 z
      · exact (hfp b hb).1.2.2.1 z
  refine ⟨okB, hos, hb, Un.kept kp, ⟨m0, hns, fun i y av e1 e2 e3 => ?_⟩, fun y c e => ?_, I.hok.fresh (Nat.le_refl _), fun y c e => ?_, fun p hp => ?_, I.hok.kept kp, ?_⟩
  · have e1 : (own ++ caps.map (·.1))[i]? = some y := e1
    have e2 : (own.map (fun _ => (none : Option V)) ++ caps.map (fun p => (σ[p.2]?).join))[i]? = some (some av) := e2
    by_cases hi : i < own.length
    · rw [List.getElem?_append_left (by rw [List.length_map]; exact hi), List.getElem?_map, List.getElem?_eq_getElem hi] at e2
      cases e2
    · rw [List.getElem?_append_right (by rw [List.length_map]; omega), List.length_map, List.getElem?_map] at e2
      rw [List.getElem?_append_right (by omega), List.getElem?_map] at e1
      cases hc : caps[i - own.length]? with
      | none => rw [hc] at e1; cases e1
      | some p =>
        rw [hc] at e1 e2
        have e1 : p.1 = y := Option.some.inj e1
        have e2 : (σ[p.2]?).join = some av := Option.some.inj e2
        obtain ⟨hN, hf⟩ := S.caps p (List.mem_of_getElem? hc)
        have hσ : σ[p.2]? = some (some av) := by
          cases q : σ[p.2]? with
          | none => rw [q] at e2; cases e2
          | some o => rw [q] at e2; exact congrArg some e2
        have hv : X.env.scope.names.lookup p.1 = some .cell ∨ X.env.scope.names.lookup p.1 = some .free := S.free (p.1, .free) (PySem.mem_of_lookup hf) rfl
        obtain ⟨m, hm, hl⟩ := I.loc
        obtain ⟨u, ru, lk⟩ := hl p.2 p.1 av hN hσ (.inr hv)
        subst e1
        refine ⟨u, ru, .inr ⟨.inr hf, ?_⟩⟩
        obtain ⟨c, hc'⟩ := look hf
        refine ⟨c, hc', ?_⟩
        rcases lk with ⟨h1, _⟩ | ⟨_, c2, h2, h3⟩
        · have h1 : X.env.scope.names.lookup p.1 = some .local := h1
          rcases hv with hv | hv
          · rw [hv] at h1; cases h1
          · rw [hv] at h1; cases h1
        · rw [(mem hc').1] at h2
          cases h2
          obtain ⟨o, ho, hd⟩ := h3
          exact ⟨o, kp _ _ ho, hd⟩
  · obtain ⟨v, o, ho, hd⟩ := I.cell y c (mem e).1
    exact ⟨v, o, kp _ _ ho, hd⟩
  · exact I.freeC y c (mem e).1
  · exact absurd (show p ∈ ([] : List (Addr × Obj)) ++ [] from hp) (by simp)
  · show (own.map (fun _ => (none : Option V)) ++ caps.map (fun p => (σ[p.2]?).join)).length = (own ++ caps.map (·.1)).length
    simp
end
/-! the protocol -/
/-- behind the whole: only the table of generators has turned, things may be new -/
def Done (Qf : Value → Shared → Prop) (b : Bool) (s : Shared) : Prop := ∀ s' : Shared, (∀ x o, s.heap.get? x = some o → s'.heap.get? x = some o) → s'.os = s.os → AllBare s'.gens → Qf (.bool b) s'
def GEndA (Qf : Value → Shared → Prop) : Nat → Shared → Shared → Prop := fun _ _ s => AllBare s.gens ∧ Done Qf true s
def GProto (Qf : Value → Shared → Prop) (a : Addr) (g : Nat) : Protocol := fun _ _ v s kap =>
  ∃ b : Bool, v = .bool b ∧ s.heap.IsGen a g ∧ s.heap.NoLimit ∧ AllBare s.gens ∧ (b = true → ∀ s' : Shared, s'.heap = s.heap → s'.os = s.os → AllBare s'.gens → kap (.send .none) s') ∧ (b = false → Done Qf false s)
section
variable {P : Program} {w : World} {A : Around} {Qf : Value → Shared → Prop} {a : Addr} {g : Nat}
/-- all's own loop -/
theorem all_drain (hh : A.handled = none) (hd : A.depth < recursionLimit) : ∀ (n : Nat) (s : Shared), s.heap.IsGen a g → s.heap.NoLimit →
    (∃ gs, s.gens[g]? = some gs ∧ gs.Goes (model P w) A.in1.in1 (fun n s₀ r s₁ => r = .ok .next ∧ GEndA Qf n s₀ s₁) (GProto Qf a g) n (.send .none) (s.setGen g .running)) →
    codeAny (model P w) A (.builtin "all.loop" ⟨[.ref a], []⟩) (fun r s' => ∃ b : Bool, r = .ok (.ret (.bool b)) ∧ Qf (.bool b) s') s := by
  intro n
  induction n with
  | zero =>
    intro s hg hl ⟨gs, hgs, hgo⟩
    refine codeAny_builtin F.entry_all_loop ?_
    rw [Around.under_plainId F.plain_all_loop _]
    show wpAny _ A.in1 (pyNext (.ref a) >>= _) _ _ s
    refine wpAny_bind (wpAny_pyNext_genexpQ (A := A.in1) (P := GEndA Qf) hh hl hd hg hgs hgo (fun v s₁ gs' hbare hv => ?_) (fun s₁ hp h' hk => ?_))
    · obtain ⟨b, rfl, hg1, hl1, hb1, ht, hf⟩ := hv
      cases b with
      | true => exact False.elim (ht rfl s₁ rfl rfl hb1)
      | false =>
        refine wpAny_bind (wpAny_holding (wpAny_truthy_bool ?_))
        refine wpAny_bind (wpAny_letGo ?_)
        simp only [Bool.false_eq_true, if_false]
        refine wpAny_bind (wpAny_rule (wpAny_pure ⟨false, rfl, hf rfl _ (fun x o e => e) rfl (allBare_setGen hb1 hbare)⟩))
    · refine wpAny_bind (wpAny_rule (wpAny_pure ⟨true, rfl, hp.2 _ hk rfl (allBare_setGen hp.1 rfl)⟩))
  | succ n ih =>
    intro s hg hl ⟨gs, hgs, hgo⟩
    have hgl : g < s.gens.size := (Array.getElem?_eq_some_iff.mp hgs).1
    refine codeAny_builtin F.entry_all_loop ?_
    rw [Around.under_plainId F.plain_all_loop _]
    show wpAny _ A.in1 (pyNext (.ref a) >>= _) _ _ s
    refine wpAny_bind (wpAny_gsz (n := g + 1) hgl (wpAny_pyNext_genexpQ (A := A.in1) (P := GEndA Qf) hh hl hd hg hgs hgo (fun v s₁ gs' hbare hv => ?_) (fun s₁ hp h' hk => ?_)))
    · intro hsz
      have hsz1 : g < s₁.gens.size := by
        have q : (s₁.setGen g gs').gens.size = s₁.gens.size := setGen_size _ _ _
        have hsz' : g + 1 ≤ (s₁.setGen g gs').gens.size := hsz
        omega
      obtain ⟨b, rfl, hg1, hl1, hb1, ht, hf⟩ := hv
      refine wpAny_bind (wpAny_holding (wpAny_truthy_bool ?_))
      refine wpAny_bind (wpAny_letGo ?_)
      cases b with
      | true =>
        simp only [if_true]
        refine wpAny_pure ⟨plainId_quiet F.plain_all_loop _, ih _ hg1 hl1 ⟨gs', setGen_at hsz1, ?_⟩⟩
        exact ht rfl _ rfl rfl (allBare_setGen (s := s₁.setGen g gs') (allBare_setGen hb1 hbare) rfl)
      | false =>
        simp only [Bool.false_eq_true, if_false]
        refine wpAny_bind (wpAny_rule (wpAny_pure ⟨false, rfl, hf rfl _ (fun x o e => e) rfl (allBare_setGen hb1 hbare)⟩))
    · intro hsz
      refine wpAny_bind (wpAny_rule (wpAny_pure ⟨true, rfl, hp.2 _ hk rfl (allBare_setGen hp.1 rfl)⟩))
theorem call_all_gen {E : Value → Shared → Prop} {n : Nat} {s : Shared} (hh : A.handled = none) (hd : A.depth < recursionLimit) (hg : s.heap.IsGen a g) (hl : s.heap.NoLimit)
    (hgo : ∃ gs, s.gens[g]? = some gs ∧ gs.Goes (model P w) A.in1.in1 (fun n s₀ r s₁ => r = .ok .next ∧ GEndA Qf n s₀ s₁) (GProto Qf a g) n (.send .none) (s.setGen g .running)) : wpAny (model P w) A (call (.builtin "all") [.ref a]) Qf E s := by
  refine call_function_tree F.kind_all F.plain_all F.entry_all (F.args_all1 _) ?_
  unfold Builtin.«all»
  refine wpAny_bind (m := oneArg "all" _) (wpAny_pure ?_)
  refine wpAny_bind (wpAny_pyIter_gen hg ?_)
  refine wpAny_pure ⟨plainId_quiet F.plain_all_loop _, codeAny_mono (all_drain hh hd n s hg hl hgo) fun r s' h => ?_⟩
  obtain ⟨b, rfl, q⟩ := h
  exact q
end
end Kg

namespace Kg
open PySem PySem.Spec PyProof.Rows L2 GenW GxR
open Sem (wp)
theorem inv_same {G : Cx} {pins : List (Addr × Obj)} {σ : L2.St} {H : Hp} {s s' : Shared} (I : Inv G pins σ H s) (hk : ∀ x o, s.heap.get? x = some o → s'.heap.get? x = some o) (ho : s'.os = s.os) (hb : AllBare s'.gens) : Inv G pins σ H s' :=
  I.call' (ch := []) ho (Un.kept hk) (I.hok.kept hk) hb fun b z => by simp at z
/-- a turn's wish -/
def Turns (J : It) (σ0 : L2.St) (vs : List Nat) (g : TG) (te : TE) (Qe : Bool → Hp → Prop) (W : Nat → Nat → Hp → Prop) : Prop :=
  ∀ i m H, W i m H → (J.stop i H ∧ Qe true H) ∨ (J.go i H ∧ ∃ Nx : Hp → Prop, (∀ H', Nx H' → ∃ m', m' < m ∧ W (i + 1) m' H') ∧ ∀ x H', J.yld i H x H' → g x σ0 H' fun σ2 H2 => wipe σ2 vs = σ0 ∧ te σ2 H2 fun y H4 => ∃ b, y = .bl b ∧ if b = true then Nx H4 else Qe false H4)
section
variable {X : Cx} {A : Around} {N : List Str} {s4 : Shared} {H0 : Hp} {cenv : Env} {fp : List Addr} {tg elt iter : Expr} {scope : Scope} {pos : Pos} {it a : Addr} {gi : Nat} {go : Obj} {J : It} {tn : Nat → Heap → Prop} {σ0 : L2.St} {vs : List Nat} {g : TG} {te : TE} {Qe : Bool → Hp → Prop} {W : Nat → Nat → Hp → Prop} {Qf : Value → Shared → Prop}
theorem gx_loop (hh : A.handled = none) (hco : cenv.scope.isCoroutine = false) (T : Turn X.prog X.w X.K tg J fp it tn) (haf : a ∉ fp) (hgen : ∀ h : Heap, h.get? a = some go → h.IsGen a gi)
    (pg : PG (gcx X A N s4 H0 cenv fp) tg g) (pe : PE (gcx X A N s4 H0 cenv fp) elt te) (turn : Turns J σ0 vs g te Qe W)
    (hfin : ∀ b s H', Inv (gcx X A N s4 H0 cenv fp) [(a, go)] σ0 H' s → Qe b H' → Done Qf b s) :
    ∀ (m n i : Nat) (H : Hp) (s₀ s : Shared), m < n → W i m H → Inv (gcx X A N s4 H0 cenv fp) [(a, go)] σ0 H s → tn i s.heap → (∀ b ∈ fp, H b = none) →
      Seg (model X.prog X.w) A (fun n s₀ r s₁ => r = .ok .next ∧ GEndA Qf n s₀ s₁) (GProto Qf a gi) n s₀ (.compLoop (.GeneratorExp elt [⟨tg, iter, [], 0⟩] scope pos) 0 (.ref it) .none cenv)
        ((model X.prog X.w).den (.compLoop (.GeneratorExp elt [⟨tg, iter, [], 0⟩] scope pos) 0 (.ref it) .none cenv)) [] s := by
  have stat : ∀ {σ' : L2.St} {H' : Hp} {s' : Shared}, Inv (gcx X A N s4 H0 cenv fp) [(a, go)] σ' H' s' → (∀ b ∈ fp, H' b = none) → ∀ b ∈ fp, FpOk (gcx X A N s4 H0 cenv fp) [(a, go)] H' b := fun {σ' H' s'} I' hn b hb =>
    ⟨hn b hb, (I'.ok.exf b hb).1, I'.ok.exfs b hb, .inl hb, fun x c e => (I'.ok.exf b hb).2 x c e, fun p hp z => by
      have hp : p ∈ [(a, go)] := hp
      rw [List.mem_singleton.mp hp] at z
      have z : a = b := z
      exact haf (by rw [z]; exact hb)⟩
  have hy : ∀ v, yieldOut cenv v = yieldValue v := fun v => by simp only [yieldOut, hco, Bool.false_eq_true, if_false]
  intro m
  induction m using Nat.strongRecOn with
  | ind m ih =>
    intro n i H s₀ s hmn hW I hst hn
    obtain ⟨n, rfl⟩ : ∃ k, n = k + 1 := ⟨n - 1, by omega⟩
    show Seg _ A _ _ _ s₀ _ ((compTurn (.GeneratorExp elt [⟨tg, iter, [], 0⟩] scope pos) 0 (.ref it) .none cenv).onRaise (leaving cenv)) [] s
    rw [compTurn_gen, Sem.onRaise_eq_wrap]
    refine seg_bind_wrap (wpAny_standAt ?_)
    rcases turn i m H hW with ⟨stop, qq⟩ | ⟨hgo, Nx, hNx, step⟩
    · refine seg_bind_wrap ?_
      rw [over_loopC]
      refine thn (T.done (gcx X A N s4 H0 cenv fp) rfl rfl rfl rfl i [(a, go)] s _ H _ I (stat I hn) hst stop) fun r s6 ⟨hr, I6⟩ => ?_
      subst hr
      exact seg_end (.ok .next) ⟨rfl, I6.bare, hfin true s6 H I6 qq⟩
    · refine seg_bind_wrap ?_
      rw [over_loopC]
      refine thn (T.item (gcx X A N s4 H0 cenv fp) rfl rfl rfl rfl i [(a, go)] s _ H _ I (stat I hn) hst hgo) fun r s6 ⟨u, hr, h6⟩ => ?_
      subst hr
      refine seg_bind_wrap ?_
      rw [over_loopC]
      refine thn h6 fun _ s7 ⟨x, H7, I7, r7, y7, st7, n7⟩ => ?_
      have I7' := I7.pinned (stat I7 n7) (T.obj _ _ st7)
      refine seg_bind_wrap ?_
      rw [over_loopC]
      refine wpAny_mono (pg.run _ s7 _ H7 x u _ I7' r7 (step x H7 y7)) (fun _ s8 ⟨σ8, H8, I8, hw8, q8⟩ => ?_) fun _ _ e => e.elim
      have fin : ∀ {s' : Shared} {H' : Hp}, Inv (gcx X A N s4 H0 cenv fp) ([(a, go)] ++ pinsAt fp s7.heap) σ8 H' s' → Inv (gcx X A N s4 H0 cenv fp) [(a, go)] σ0 H' s' ∧ tn (i + 1) s'.heap ∧ ∀ b ∈ fp, H' b = none := fun {s' H'} I' => by
        have pin' : ∀ b ∈ fp, ∀ o, s7.heap.get? b = some o → s'.heap.get? b = some o ∧ H' b = none := fun b hb o e =>
          let z := I'.pin (b, o) (List.mem_append_right _ (List.mem_append_right _ (mem_pinsAt hb e)))
          ⟨z.1, z.2.1⟩
        have hl : σ0.length = σ8.length := by rw [← hw8, wipe_length]
        refine ⟨(I'.unpinned (pins := [(a, go)])).weak hl (fun j v e => ?_), T.keep _ _ _ st7 fun b hb o e => (pin' b hb o e).1, fun b hb => ?_⟩
        · rw [← hw8] at e
          exact (wipe_some e).1
        · obtain ⟨o, e, _⟩ := T.obj _ _ st7 b hb
          exact (pin' b hb o e).2
      simp only [List.forIn_nil]
      refine seg_bind_wrap (wpAny_pure ?_)
      simp only [if_true]
      simp only [hy]
      rw [Sem.bind_eq_wrap', Sem.bind_eq_wrap', Sem.wrap_wrap, Sem.wrap_wrap]
      refine seg_wrap ?_
      rw [over_loopC]
      refine wpAny_mono (pe.run _ s8 σ8 H8 _ I8 q8) (fun v s10 ⟨y, H10, I10, r10, b, hyb, q10⟩ => ?_) fun _ _ e => e.elim
      subst hyb
      obtain rfl : v = Value.bool b := r10
      obtain ⟨J1, J2, J3⟩ := fin I10
      have hga : s10.heap.IsGen a gi := hgen _ (J1.pin (a, go) (List.mem_append_right _ (List.mem_singleton.mpr rfl))).1
      refine seg_at (seg_yield rfl rfl rfl ⟨b, rfl, hga, J1.nolimit, J1.bare, fun hb s'' e1 e2 e3 => ?_, fun hb => ?_⟩)
      · subst hb
        rw [if_pos rfl] at q10
        obtain ⟨m', hm', w'⟩ := hNx H10 q10
        refine seg_again rfl (ih m' hm' n (i + 1) H10 s'' s'' (by omega) w' (inv_same J1 (fun x o e => by rw [e1]; exact e) e2 e3) (by rw [e1]; exact J2) J3)
      · subst hb
        rw [if_neg Bool.false_ne_true] at q10
        exact hfin false s10 H10 J1 q10
theorem gx_begin (hh : A.handled = none) (hco : cenv.scope.isCoroutine = false) (T : Turn X.prog X.w X.K tg J fp it tn) (haf : a ∉ fp) (hgen : ∀ h : Heap, h.get? a = some go → h.IsGen a gi)
    (pg : PG (gcx X A N s4 H0 cenv fp) tg g) (pe : PE (gcx X A N s4 H0 cenv fp) elt te) (turn : Turns J σ0 vs g te Qe W)
    (hfin : ∀ b s H', Inv (gcx X A N s4 H0 cenv fp) [(a, go)] σ0 H' s → Qe b H' → Done Qf b s) {m : Nat} {H : Hp} {s : Shared} (w0 : W 0 m H) (I : Inv (gcx X A N s4 H0 cenv fp) [(a, go)] σ0 H s) (hst : tn 0 s.heap) (hn : ∀ b ∈ fp, H b = none) :
    Seg (model X.prog X.w) A (fun n s₀ r s₁ => r = .ok .next ∧ GEndA Qf n s₀ s₁) (GProto Qf a gi) (m + 1) s (.compStart (.GeneratorExp elt [⟨tg, iter, [], 0⟩] scope pos) 0 (.ref it) .none cenv)
      ((model X.prog X.w).den (.compStart (.GeneratorExp elt [⟨tg, iter, [], 0⟩] scope pos) 0 (.ref it) .none cenv)) [] s := by
  have loop := gx_loop (iter := iter) (scope := scope) (pos := pos) hh hco T haf hgen pg pe turn hfin m (m + 1) 0 H s s (Nat.lt_succ_self _) w0 I hst hn
  show Seg _ A _ _ _ s _ ((compStart (.GeneratorExp elt [⟨tg, iter, [], 0⟩] scope pos) 0 (.ref it) .none cenv).onRaise (leaving cenv)) [] s
  unfold compStart
  rw [Sem.onRaise_eq_wrap]
  show Seg _ A _ _ _ s _ ((ask >>= _).wrap _ _ _ _) [] s
  refine seg_bind_wrap (wpAny_askSetting ?_)
  split
  · exact seg_again rfl loop
  · first
      | exact seg_bind_wrap (wpAny_rule (seg_bind_wrap (wpAny_standAt (seg_bind_wrap (T.self _ 0 s _ _ hst (seg_again rfl loop))))))
      | (refine seg_bind_wrap (wpAny_rule ?_); show Seg _ A _ _ _ s _ ((standAt iter.pos >>= _).wrap _ _ _ _) [] s; exact seg_bind_wrap (wpAny_standAt (seg_bind_wrap (T.self _ 0 s _ _ hst (seg_again rfl loop)))))
end
/-! the rule -/
section
variable {X : Cx}
/-- all(elt for tg in iter) -/
def tAllG (P : Addr) (wi : TI) (own : List Str) (caps : List (Str × Nat)) (vs : List Nat) (g : TG) (te : TE) : TE := fun σ H Q => wi σ H fun J H1 => TabG H1 P ∧ ∀ H2, Tabbed P H1 H2 → ∃ W : Nat → Nat → Hp → Prop, (∃ m, W 0 m H2) ∧ Turns J (gxSt own caps σ) vs g te (fun b H' => Q (.bl b) H') W
theorem pe_allG {c P : Addr} {elt tg iter : Expr} {p pos gpos : Pos} {scope : Scope} {own : List Str} {caps : List (Str × Nat)} {vs : List Nat} {wi : TI} {g : TG} {te : TE} {k : Nat}
    (hr : Room k X.A) (hg : Gl X "all") (hm : X.mg "all" = none) (TB : TabB X.base X.mg c P) (hcode : X.env.code = .ref c) (S : GxS X.N X.env.scope scope own caps) (hi : PI X tg iter wi)
    (pg : ∀ (s : Shared) (H : Hp) (C : Addr) (cd : Value) (fp : List Addr), PG (gcx X X.A.in1.in1 (gxN own caps) s H (gxEnv X scope C cd) fp) tg g)
    (pe : ∀ (s : Shared) (H : Hp) (C : Addr) (cd : Value) (fp : List Addr), PE (gcx X X.A.in1.in1 (gxN own caps) s H (gxEnv X scope C cd) fp) elt te)
    (hs : ∀ v, genFold iter X.env v = pure v := by intro _; rfl)
    (he : starEach [.GeneratorExp elt [⟨tg, iter, [], 0⟩] scope gpos] X.env = (false, eval (.GeneratorExp elt [⟨tg, iter, [], 0⟩] scope gpos) X.env) :: starEach [] X.env := by rfl) :
    PE X (.Call (.Name "all" p) [.GeneratorExp elt [⟨tg, iter, [], 0⟩] scope gpos] [] pos) (tAllG P wi own caps vs g te) := by
  refine ⟨fun pins s σ H Q I h => ?_⟩
  have hfree : ∀ y ∈ scope.names, y.2 = .free → ∃ c, X.env.cells.lookup y.1 = some c := fun y hy e => by
    rcases S.free y hy e with k | k
    · exact I.ok.has _ (.inl k)
    · exact I.ok.has _ (.inr k)
  refine wpAny_Call_Name_kw (ld_blt I hg hm PyProof.Rows.boot_all ?_)
  refine PyProof.Rows.callWith_builtin1 ?_ he (by rfl)
  rw [he]
  show wpAny _ _ (spliced ((false, eval (.GeneratorExp elt [⟨tg, iter, [], 0⟩] scope gpos) X.env) :: backTo pos (starEach [] X.env))) _ _ s
  refine Calls.spliced_cons ?_
  refine wpAny_GeneratorExp_make S.co (closure_ok hfree) S.cell S.dot S.kind (by have := hr.dp; omega) ?_ hs
  refine thn (hi.run pins s σ H _ I h) fun xv s1 hx => thn hx fun itv s2 h2 => ?_
  obtain ⟨it, fp, tn, J, H1, rfl, I2, T, st2, f2, ⟨ps, hP, ht⟩, q⟩ := h2
  refine ⟨I2.nolimit, ?_⟩
  have hPs : s2.heap.get? P = some { cls := .none, data := .fields ps } := I2.hok P _ hP
  have cd : PySem.W.CodeHd s2.heap c P := TB.code.keeps I2.bk
  have sz2 : ∀ b ∈ fp, b < s2.heap.objs.size := fun b hb => by
    obtain ⟨o, e, _⟩ := T.obj _ _ st2 b hb
    exact Heap.lt_size e
  have cont : ∀ (code : Value) (h3 : Heap) (tk : Nat) (ps' more : Array Value), Heap.ExtBut P s2.heap h3 → s2.heap.objs.size ≤ h3.objs.size → h3.get? P = some { cls := .none, data := .fields ps' } → ps' = ps ++ more → TriplesOk ps'.toList →
      wpAny (model X.prog X.w) X.A (builtinsFor X.env.globals X.env.builtins) (fun bi s₄ =>
        ∀ h', h'.Ns s₄.heap.objs.size (fun y => if y = ".0" then some (.ref it) else none) → Heap.SameBut s₄.heap.objs.size (s₄.heap.push { cls := .type "frame", data := .dict #[] }) h' →
          wpAny (model X.prog X.w) X.A (spliced (backTo pos (starEach [] X.env))) (fun us s' => wpAny (model X.prog X.w) X.A (call (.builtin "all") (.ref h'.objs.size :: us)) (EP X pins σ Q) X.xe s') X.xe { s₄ with
            gens := s₄.gens.push (.fresh (.compStart (.GeneratorExp elt [⟨tg, iter, [], 0⟩] scope gpos) 0 (.ref it) .none (genEnv scope (cloFrom X.env.cells scope.names []) s₄.heap.objs.size code bi X.env))),
            toks := s₄.toks + 1 + 1 + 1,
            heap := h'.push { cls := .type "generator", data := .fields #[.int s₄.gens.size 0, .str "<genexpr>" (s₄.toks + 1), .str (X.env.qual ++ "<genexpr>") (s₄.toks + 1 + 1)] } }) X.xe { s2 with heap := h3, toks := tk } := by
    intro code h3 tk ps' more hx hsz hP3 hmore ht3
    obtain ⟨bm, ob, e1, e2, e3, e4, e5, e6, e7, e8⟩ := TB.bm
    have keep3 : ∀ b u, b ≠ P → s2.heap.get? b = some u → h3.get? b = some u := fun b u hb e => hx b u hb e
    refine wpAny_builtinsFor (m := X.mg) (by rw [I2.ok.glob]; exact (I2.mod.glob.keeps I2.bk).extBut hx TB.gP) e1 e2 (keep3 _ _ e4 (I2.bk _ _ e5)) e6 e7 e8 ?_
    intro h' hns hsb
    have I3 : Inv X pins σ (upd H1 P (.tbl (ps ++ more))) { s2 with heap := h3, toks := tk } := inv_tab (more := more) (g' := s2.gens) (d' := s2.drawn) (t' := tk) I2 hP keep3 (by rw [← hmore]; exact hP3) I2.bare
    have hT : Tabbed P H1 (upd H1 P (.tbl (ps ++ more))) := ⟨⟨ps ++ more, upd_same, by rw [← hmore]; exact ht3⟩, fun b hb => upd_ne hb⟩
    obtain ⟨W, ⟨m, w0⟩, turn⟩ := q _ hT
    have nP : ∀ b ∈ fp, b ≠ P := fun b hb z => by
      have := (f2 b hb).1
      rw [z, hP] at this
      cases this
    have f3 : ∀ b ∈ fp, FpOk X pins (upd H1 P (.tbl (ps ++ more))) b ∧ b < h3.objs.size := fun b hb => ⟨⟨by rw [upd_ne (nP b hb)]; exact (f2 b hb).1, (f2 b hb).2⟩, Nat.lt_of_lt_of_le (sz2 b hb) hsz⟩
    generalize upd H1 P (.tbl (ps ++ more)) = H3 at I3 w0 f3
    have hsz' : h'.objs.size = h3.objs.size + 1 := by rw [hsb.1, Heap.size_push]
    have keep' : ∀ b o, h3.get? b = some o → h'.get? b = some o := fun b o e => hsb.extBut b o (Nat.ne_of_lt (Heap.lt_size e)) (Heap.get?_push_of_some _ e)
    refine Calls.spliced_nil ?_
    generalize hgo : ({ cls := .type "generator", data := .fields #[.int s2.gens.size 0, .str "<genexpr>" (tk + 1), .str (X.env.qual ++ "<genexpr>") (tk + 1 + 1)] } : Obj) = go
    have hgen : ∀ hp : Heap, hp.get? h'.objs.size = some go → hp.IsGen h'.objs.size s2.gens.size := fun hp e => ⟨go, _, _, e, by rw [← hgo], by rw [← hgo], by rw [← hgo]⟩
    have hput : (h'.push go).get? h'.objs.size = some go := Heap.get?_push_size _ (by rw [← hgo]; rfl)
    have hgd : ∀ v, go.data ≠ .cell v := fun v z => by rw [← hgo] at z; cases z
    show wpAny _ _ (call (.builtin "all") [.ref h'.objs.size]) _ _ { s2 with gens := s2.gens.push (.fresh (.compStart (.GeneratorExp elt [⟨tg, iter, [], 0⟩] scope gpos) 0 (.ref it) .none (gxEnv X scope h3.objs.size code))), toks := tk + 1 + 1 + 1, heap := h'.push go }
    have keep5 : ∀ b o, h3.get? b = some o → (h'.push go).get? b = some o := fun b o e => Heap.get?_push_of_some _ (keep' b o e)
    have hb5 : AllBare (s2.gens.push (.fresh (.compStart (.GeneratorExp elt [⟨tg, iter, [], 0⟩] scope gpos) 0 (.ref it) .none (gxEnv X scope h3.objs.size code)))) := I2.bare.push rfl
    have hrun : AllBare (({ s2 with gens := s2.gens.push (.fresh (.compStart (.GeneratorExp elt [⟨tg, iter, [], 0⟩] scope gpos) 0 (.ref it) .none (gxEnv X scope h3.objs.size code))), toks := tk + 1 + 1 + 1, heap := h'.push go } : Shared).setGen s2.gens.size .running).gens := allBare_setGen hb5 rfl
    have G0 : Inv (gcx X X.A.in1.in1 (gxN own caps) { s2 with heap := h3, toks := tk } H3 (gxEnv X scope h3.objs.size code) fp) [] (gxSt own caps σ) H3 (({ s2 with gens := s2.gens.push (.fresh (.compStart (.GeneratorExp elt [⟨tg, iter, [], 0⟩] scope gpos) 0 (.ref it) .none (gxEnv X scope h3.objs.size code))), toks := tk + 1 + 1 + 1, heap := h'.push go } : Shared).setGen s2.gens.size .running) :=
      gx_start (s := { s2 with heap := h3, toks := tk }) I3 S hr.hd I3.ok.frames f3 (hns.push go) keep5 rfl hrun
    have hna : H3 h'.objs.size = none := I3.hok.fresh (by show h3.objs.size ≤ h'.objs.size; omega)
    have G1 : Inv (gcx X X.A.in1.in1 (gxN own caps) { s2 with heap := h3, toks := tk } H3 (gxEnv X scope h3.objs.size code) fp) [(h'.objs.size, go)] (gxSt own caps σ) H3 (({ s2 with gens := s2.gens.push (.fresh (.compStart (.GeneratorExp elt [⟨tg, iter, [], 0⟩] scope gpos) 0 (.ref it) .none (gxEnv X scope h3.objs.size code))), toks := tk + 1 + 1 + 1, heap := h'.push go } : Shared).setGen s2.gens.size .running) :=
      G0.pins_of fun p hp => by
        rw [List.mem_singleton.mp hp]
        refine ⟨hput, hna, ?_, fun z => ?_, hgd⟩
        · show h'.objs.size ≠ h3.objs.size
          omega
        · have z : h'.objs.size ∈ frs X.stack := z
          rcases List.mem_cons.mp (I3.stkSub _ z) with z | z
          · have h1 := I3.lt
            rw [← z] at h1
            have h1 : h'.objs.size < h3.objs.size := h1
            omega
          · exact I3.nofs (show h3.objs.size ≤ h'.objs.size by omega) z
    have st5 : tn 0 (h'.push go) := T.keep _ _ _ st2 fun b hb o e => keep5 b o (keep3 b o (nP b hb) e)
    refine call_all_gen (n := m + 1) hr.hd (by have := hr.dp; omega) (hgen _ hput) (I3.nolimit.keeps keep5) ⟨_, Array.getElem?_push_size .., rfl, ?_⟩
    refine gx_begin (A := X.A.in1.in1) (N := gxN own caps) (σ0 := gxSt own caps σ) (vs := vs) (g := g) (te := te) (Qe := fun b H' => Q (.bl b) H') (W := W) hr.hd S.co T (fun z => ?_) hgen (pg _ _ _ _ _) (pe _ _ _ _ _) turn (fun b s6 H6 J6 q6 s7 k7 o7 b7 => ?_) w0 G1 st5 (fun b hb => (f3 b hb).1.1)
    · have z2 : h'.objs.size < h3.objs.size := (f3 _ z).2
      rw [hsz'] at z2
      exact absurd z2 (by omega)
    · have I6 : Inv X pins σ H6 s6 := I3.call' (ch := fp) J6.os J6.base J6.hok J6.bare fun b hb => ⟨(f3 b hb).1.2.2.2.1, (f3 b hb).1.2.1, (f3 b hb).1.2.2.2.2.1, (f3 b hb).1.2.2.2.2.2⟩
      exact ⟨.bl b, H6, inv_same I6 k7 o7 b7, rfl, q6⟩
  cases hf : codeAmong gpos ps.toList with
  | none =>
    refine wpAny_genexprCodeX hcode (cd.code hPs ht) (cd.tab hPs) hf fun c' h' tk hx hge hlt hco' _ htab' _ => ?_
    obtain ⟨o1, vs, f1, tf, fl, tg, inF, tx, tt, op, _, _, _, _, _, _, _, _, _, htr, _⟩ := hco'
    exact cont _ h' tk _ _ hx (Nat.le_trans hge (Nat.le_of_lt hlt)) htab'.2 rfl htr
  | some cv =>
    refine wpAny_genexprCode_hit hcode (cd.code hPs ht) hf ?_
    exact cont cv s2.heap s2.toks ps #[] (Heap.ExtBut.refl _ _) (Nat.le_refl _) hPs (by simp) ht
end
end Kg

/-! defs that are called where no repr is under way -/
namespace Kf
open PySem PySem.Spec PyProof.Rows L2 LamX
/-- no repr is under way -/
abbrev Still (A : Around) : Prop := A.guards = some []
/-- a def's promise, called where no repr is under way -/
structure FnG (P : Program) (w : World) (K : PySem.W.Frag) (mg : Str → Option Value) (base : Heap) (CX : CXT) (k : Nat) (f : Addr) (fd : FuncData) (ps : List Str) (sp : Sp) : Prop where
  cnt : ∀ vs H Q E, sp vs H Q E → vs.length = ps.length
  go : ∀ (A : Around) (o : List Env) (s : Shared) (H : Hp) (r : Args) (us : List Value) (vs : List V) (Q : VK) (E : XK), Still A → Room k A → Env0 P w K mg base A o s H → BindsTo s fd r (ps.zip us) → Vals vs us → sp vs H Q E →
    codeAny (model P w) A (.call (.ref f) r) (CR CX o P w H s Q E) s
section
variable {P : Program} {w : World} {K : PySem.W.Frag} {mg : Str → Option Value} {base : Heap} {CX : CXT}
theorem FnG.of {k : Nat} {f : Addr} {fd : FuncData} {ps : List Str} {sp : Sp} (F : FnOk P w K mg base CX k f fd ps sp) : FnG P w K mg base CX k f fd ps sp :=
  ⟨F.len, fun A o s H r us vs Q E _ => F.run A o s H r us vs Q E⟩
theorem FnG.up {j k : Nat} {f : Addr} {fd : FuncData} {ps : List Str} {sp : Sp} (F : FnG P w K mg base CX j f fd ps sp) (h : j ≤ k) : FnG P w K mg base CX k f fd ps sp :=
  ⟨F.cnt, fun A o s H r us vs Q E g hr => F.go A o s H r us vs Q E g (hr.mono h)⟩
/-- a def by its body -/
theorem fnG_of {k : Nat} {f : Addr} {nm ql : Str} {prm : Arguments} {bd : List Stmt} {sco : Scope} {dV kV doc pm cdv ct oc : Value} {an od : Option Addr} {sl : Array (Option Value)} {N ps : List Str} {sp : Sp}
    (at' : K.lookup f = some ⟨oc, od, .func (PySem.W.fnOf nm ql prm bd sco dV kV doc pm an cdv ct), sl⟩) (hc : PySem.W.codeIn K cdv ql = true) (S : FnScope N ps sco) (cnt : ∀ vs H Q E, sp vs H Q E → vs.length = ps.length)
    (body : ∀ (A : Around) (o : List Env) (s : Shared) (H : Hp) (vs : List V) (Q : VK) (E : XK), Still A → Room k (A.deeper (envOfC ql sco s.heap.objs.size f cdv)) → sp vs H Q E →
      ∃ t, PSs (cxOf CX P w K mg base N ql sco f cdv A o s H E) bd t ∧ t { nx := fun _ G => Q .non G, rt := Q } (start N vs) H) : FnG P w K mg base CX (k + 1) f (PySem.W.fnOf nm ql prm bd sco dV kV doc pm an cdv ct) ps sp where
  cnt := cnt
  go := by
    intro A o s H r us vs Q E still room e0 binds vals hsp
    have hold := fun b u (z : base.get? b = some u) => (e0.bs b u z).1
    have kx := e0.mod.kin.keeps hold
    have par : ∀ z ∈ ps.zip us, sco.names.lookup z.1 = some .local ∨ (sco.names.lookup z.1 = some .cell ∧ ((cellsFrom (s.heap.objs.size + 1) sco.names []).lookup z.1).isSome = true) := by
      intro z hz
      have hm : z.1 ∈ ps := (List.of_mem_zip (a := z.1) (b := z.2) hz).1
      exact (S.par z.1 hm).imp id fun q => ⟨q, PySem.W.cellsFrom_some _ _ _ (.inl q)⟩
    refine codeAny_call_function room.depth (kx _ _ at') rfl S.co S.gen rfl (PySem.W.codeRec_of kx hc) (binds _ _ _ _ (wpAny_newFunctionEnv_cells S.kind par ?_))
    rintro env rfl s1 x
    refine ⟨(e0.mod.nolimit.keeps hold).keeps x.toInCall.keep, codeAny_func ?_⟩
    obtain ⟨t, ht, hq⟩ := body A o s H vs Q E still (room.deeper _) hsp
    refine wpAny_mono (ht.run [] s1 (start N vs) H _ (inv_start S room.hd e0 (cnt _ _ _ _ hsp) vals x) hq) ?_ (fun _ _ z => z)
    intro fl s2 z
    match fl, z with
    | .ret u, ⟨v, _, G, J, rv, q⟩ => exact ⟨v, G, J.os, J.bare, J.base, J.hok, rv, q⟩
    | .next, ⟨_, G, J, q⟩ => exact ⟨V.non, G, J.os, J.bare, J.base, J.hok, rfl, q⟩
    | .brk, ⟨_, _, _, q⟩ => exact q.elim
    | .cont, ⟨_, _, _, q⟩ => exact q.elim
/-- a def of the text that lets nothing out -/
theorem okG {x ql : Str} {st : Stmt} {f : Addr} {fd : FuncData} {N ps : List Str} {k : Nat} {sp : Sp} (F : Fun K x ql st f fd) (S : FnScope N ps (defScope st)) (cnt : ∀ vs H Q E, sp vs H Q E → vs.length = ps.length)
    (body : ∀ (cdv : Value) (A : Around) (o : List Env) (s : Shared) (H : Hp) (vs : List V) (Q : VK) (E : XK), Still A → Room k (A.deeper (envOfC ql (defScope st) s.heap.objs.size f cdv)) → sp vs H Q E →
      ∃ t, PSs (cxOf CX0 P w K mg base N ql (defScope st) f cdv A o s H E).nox (defBody st) t ∧ t { nx := fun _ G => Q .non G, rt := Q } (start N vs) H) : FnG P w K mg base CX0 (k + 1) f fd ps sp := by
  obtain ⟨oc, od, kV, doc, pm, an, cdv, ct, sl, rfl, hl, hc⟩ := F.ex
  exact fnG_of hl hc S cnt fun A o s H vs Q E g hr h => (body cdv A o s H vs Q E g hr h).imp fun t z => ⟨z.1.nox, z.2⟩
end
section
variable {X : Cx} {CX : CXT} {k : Nat} {f : Addr} {fd : FuncData} {ps : List Str} {sp : Sp} {dvs : List V} {ds : List Value} {E : XK} {x : Str} {p pos : Pos} {e : Expr} {es : List Expr} {t : TA}
theorem goG {pins : List (Addr × Obj)} {σ : L2.St} {H : Hp} {s : Shared} {Q : VK} {us : List Value} {vs : List V} (F : FnG X.prog X.w X.K X.mg X.base CX k f fd ps sp) (g : Still X.A) (hr : Room k X.A) (hb : Binds X.K fd ps ds) (hd : Vals dvs ds) (hx : Passes CX X E) (I : Inv X pins σ H s) (rv : Vals vs us)
    (h : sp (vs ++ dvs) H Q E) : wpAny (model X.prog X.w) X.A (call (.ref f) us) (EP X pins σ Q) X.xe s := by
  have both := rv.append hd
  have n : (us ++ ds).length = ps.length := both.length.symm.trans (F.cnt _ _ _ _ h)
  refine wpAny_call (codeAny_mono (F.go X.A X.stack s H ⟨us, []⟩ _ _ Q E g hr I.env0 (hb s us I.kIn n) both h) ?_)
  intro r s2 z
  match r, z with
  | .error u, z => exact hx pins σ H s u s2 I z
  | .ok (.ret u), z => exact I.after z
  | .ok .next, z => exact z.elim
  | .ok .brk, z => exact z.elim
  | .ok .cont, z => exact z.elim
/-- f(e, ..) -/
theorem pe_callG (F : FnG X.prog X.w X.K X.mg X.base CX k f fd ps sp) (g : Still X.A) (hr : Room k X.A) (hg : Gl X x) (hm : X.mg x = some (.ref f)) (hk : PySem.W.keepIn X.K (.ref f) = true) (hb : Binds X.K fd ps ds) (hd : Vals dvs ds) (hx : Passes CX X E) (ha : PA X (e :: es) t)
    (hn : (x == ("__debug__" : Str)) = false := by decide) (h1 : starEach (e :: es) X.env = (false, eval e X.env) :: starEach es X.env := by rfl) (h2 : (backTo pos (starEach es X.env)).any (·.1) = false := by rfl) : PE X (.Call (.Name x p) (e :: es) [] pos) (tCall sp dvs E t) := by
  constructor
  intro pins s σ H Q I h
  refine wpAny_Call_Name_kw (ld_glob I hg hm (PySem.W.callWith_K (h₀ := X.base) I.ok.mod.kin hk (thn (ha.run pos pins s σ H _ I h) ?_) h1 h2) hn)
  rintro us s2 ⟨vs, G, J, rv, q⟩
  exact ⟨J.kIn, goG F g hr hb hd hx J rv q⟩
end
end Kf

/-! repr of data -/
namespace Kf
open PySem PySem.Spec PyProof.Rows L2
/-- data that shows as it is, of at most so many in one another -/
structure Shows (n : Nat) (d : PyData) : Prop where
  ok : d.showable = true
  nd : d.hasDict = false
  dp : d.depth ≤ n
  sz : d.shown.length ≤ sizeLine
def rShow (K : PySem.W.Frag) (n : Nat) : List V → Hp → VK → Prop := fun xs H Q => ∃ (a : Addr) (d : PyData), xs = [.ref a] ∧ Dp K H (.ref a) d ∧ Shows n d ∧ Q (.str d.shown) H
theorem call_show {X : Cx} {n : Nat} (g : Still X.A) (hu : X.A.units + (n + 1) < cLine) : CallR X (.builtin "repr") (rShow X.K n) := by
  intro pins s σ H xs us Q I r h
  obtain ⟨a, d, rfl, hd, sh, q⟩ := h
  rw [Vals.ref1 r]
  obtain ⟨as, rd⟩ := Dp.reads I d _ (.ref a) hd rfl
  exact repr_of_reads' rd sh.ok (PyData.noDict_hsm sh.nd) g (by have := sh.dp; omega) (fun _ _ e => e) (fun h' u tk hk => ⟨.str d.shown, H, I.kept hk, ⟨u, rfl⟩, q⟩) sh.sz
end Kf

/-! things of anything: none, truths, numbers, texts, tuples, lists, the empty dict -/
namespace Kv
open PySem PySem.Spec PyProof.Rows L2 Kf
inductive Dt where
  | non
  | bl (b : Bool)
  | int (i : Int)
  | str (x : Str)
  | tup (xs : List Dt)
  | lst (xs : List Dt)
  | emp
mutual
/-- the thing stands at v; its lists and dicts at places N -/
inductive Dd (N : Addr → Prop) (H : Hp) : Dt → V → Prop
  | non : Dd N H .non .non
  | bl (b : Bool) : Dd N H (.bl b) (.bl b)
  | int (i : Int) : Dd N H (.int i) (.int i)
  | str (x : Str) : Dd N H (.str x) (.str x)
  | tup {a : Addr} {xs : List Dt} {vs : List V} : H a = some (.tup vs) → DdL N H xs vs → Dd N H (.tup xs) (.ref a)
  | lst {a : Addr} {xs : List Dt} {vs : List V} : N a → H a = some (.lst vs) → DdL N H xs vs → Dd N H (.lst xs) (.ref a)
  | emp {a : Addr} : N a → H a = some (.dK []) → Dd N H .emp (.ref a)
inductive DdL (N : Addr → Prop) (H : Hp) : List Dt → List V → Prop
  | nil : DdL N H [] []
  | cons {x : Dt} {xs : List Dt} {v : V} {vs : List V} : Dd N H x v → DdL N H xs vs → DdL N H (x :: xs) (v :: vs)
end
/-- what stood of tuples, and of lists and dicts at N, stands -/
structure Kn (N : Addr → Prop) (H G : Hp) : Prop where
  tup : ∀ b xs, H b = some (.tup xs) → G b = some (.tup xs)
  lst : ∀ b xs, N b → H b = some (.lst xs) → G b = some (.lst xs)
  dic : ∀ b xs, N b → H b = some (.dK xs) → G b = some (.dK xs)
theorem Kn.of {N : Addr → Prop} {H G : Hp} (s : Same H G) : Kn N H G := ⟨fun b _ e => s b _ e, fun b _ _ e => s b _ e, fun b _ _ e => s b _ e⟩
theorem Kn.trans {N : Addr → Prop} {H G F : Hp} (a : Kn N H G) (b : Kn N G F) : Kn N H F := ⟨fun x _ e => b.tup x _ (a.tup x _ e), fun x _ n e => b.lst x _ n (a.lst x _ n e), fun x _ n e => b.dic x _ n (a.dic x _ n e)⟩
theorem Kn.rfl {N : Addr → Prop} {H : Hp} : Kn N H H := ⟨fun _ _ e => e, fun _ _ _ e => e, fun _ _ _ e => e⟩
theorem Kn.sub {N M : Addr → Prop} {H G : Hp} (k : Kn N H G) (h : ∀ b, M b → N b) : Kn M H G := ⟨k.tup, fun b xs n e => k.lst b xs (h b n) e, fun b xs n e => k.dic b xs (h b n) e⟩
/-- another list, dict or the like is put at p -/
theorem Kn.put {N : Addr → Prop} {H G : Hp} {p : Addr} {o : HO} (k : Kn N H G) (n : ¬ N p) (h : ∀ xs, H p ≠ some (.tup xs)) : Kn N H (upd G p o) := by
  refine ⟨fun b xs e => ?_, fun b u hb e => ?_, fun b u hb e => ?_⟩
  · rw [upd_ne (fun z => h xs (by rw [← z]; exact e))]
    exact k.tup b xs e
  · rw [upd_ne (fun z => n (by rw [← z]; exact hb))]
    exact k.lst b u hb e
  · rw [upd_ne (fun z => n (by rw [← z]; exact hb))]
    exact k.dic b u hb e
/-- what was free is put at p -/
theorem Kn.new {N : Addr → Prop} {H G : Hp} {p : Addr} {o : HO} (k : Kn N H G) (h : H p = none) : Kn N H (upd G p o) := by
  refine ⟨fun b xs e => ?_, fun b u hb e => ?_, fun b u hb e => ?_⟩
  · rw [upd_ne (ne_of_none e h)]
    exact k.tup b xs e
  · rw [upd_ne (ne_of_none e h)]
    exact k.lst b u hb e
  · rw [upd_ne (ne_of_none e h)]
    exact k.dic b u hb e
mutual
theorem Dd.kn {N : Addr → Prop} {H G : Hp} (k : Kn N H G) : ∀ {x : Dt} {v : V}, Dd N H x v → Dd N G x v
  | _, _, .non => .non
  | _, _, .bl b => .bl b
  | _, _, .int i => .int i
  | _, _, .str x => .str x
  | _, _, .tup h t => .tup (k.tup _ _ h) (t.kn k)
  | _, _, .lst n h t => .lst n (k.lst _ _ n h) (t.kn k)
  | _, _, .emp n h => .emp n (k.dic _ _ n h)
theorem DdL.kn {N : Addr → Prop} {H G : Hp} (k : Kn N H G) : ∀ {xs : List Dt} {vs : List V}, DdL N H xs vs → DdL N G xs vs
  | _, _, .nil => .nil
  | _, _, .cons h t => .cons (h.kn k) (t.kn k)
end
mutual
/-- at fewer, or other places, where the heap has nothing elsewhere -/
theorem Dd.at {N M : Addr → Prop} {H : Hp} (k : ∀ b u, N b → H b = some u → M b) : ∀ {x : Dt} {v : V}, Dd N H x v → Dd M H x v
  | _, _, .non => .non
  | _, _, .bl b => .bl b
  | _, _, .int i => .int i
  | _, _, .str x => .str x
  | _, _, .tup h t => .tup h (t.at k)
  | _, _, .lst n h t => .lst (k _ _ n h) h (t.at k)
  | _, _, .emp n h => .emp (k _ _ n h) h
theorem DdL.at {N M : Addr → Prop} {H : Hp} (k : ∀ b u, N b → H b = some u → M b) : ∀ {xs : List Dt} {vs : List V}, DdL N H xs vs → DdL M H xs vs
  | _, _, .nil => .nil
  | _, _, .cons h t => .cons (h.at k) (t.at k)
end
/-- at any places -/
abbrev Any : Addr → Prop := fun _ => True
theorem Dd.any {N : Addr → Prop} {H : Hp} {x : Dt} {v : V} (h : Dd N H x v) : Dd Any H x v := h.at fun _ _ _ _ => trivial
theorem DdL.any {N : Addr → Prop} {H : Hp} {x : List Dt} {v : List V} (h : DdL N H x v) : DdL Any H x v := h.at fun _ _ _ _ => trivial
theorem Dd.same {N : Addr → Prop} {H G : Hp} {x : Dt} {v : V} (h : Dd N H x v) (s : Same H G) : Dd N G x v := h.kn (.of s)
theorem DdL.same {N : Addr → Prop} {H G : Hp} {x : List Dt} {v : List V} (h : DdL N H x v) (s : Same H G) : DdL N G x v := h.kn (.of s)
section
variable {N : Addr → Prop} {H : Hp}
theorem DdL.len : ∀ {xs : List Dt} {vs : List V}, DdL N H xs vs → xs.length = vs.length
  | _, _, .nil => rfl
  | _, _, .cons _ t => congrArg (· + 1) t.len
theorem DdL.app : ∀ {xs ys : List Dt} {vs ws : List V}, DdL N H xs vs → DdL N H ys ws → DdL N H (xs ++ ys) (vs ++ ws)
  | _, _, _, _, .nil, h => h
  | _, _, _, _, .cons h t, k => .cons h (t.app k)
theorem DdL.get : ∀ {xs : List Dt} {vs : List V} {i : Nat} {v : V}, DdL N H xs vs → vs[i]? = some v → ∃ x, xs[i]? = some x ∧ Dd N H x v
  | _, _, i, v, .nil, e => by simp at e
  | _, _, 0, v, .cons (x := x) (v := w) h t, e => ⟨x, rfl, by rw [← show w = v from Option.some.inj e]; exact h⟩
  | _, _, i + 1, v, .cons h t, e => DdL.get (i := i) t e
theorem DdL.get' : ∀ {xs : List Dt} {vs : List V} {i : Nat} {x : Dt}, DdL N H xs vs → xs[i]? = some x → ∃ v, vs[i]? = some v ∧ Dd N H x v
  | _, _, i, v, .nil, e => by simp at e
  | _, _, 0, v, .cons (x := w) (v := y) h t, e => ⟨y, rfl, by rw [← show w = v from Option.some.inj e]; exact h⟩
  | _, _, i + 1, v, .cons h t, e => DdL.get' (i := i) t e
theorem DdL.drop : ∀ {xs : List Dt} {vs : List V} (n : Nat), DdL N H xs vs → DdL N H (xs.drop n) (vs.drop n)
  | _, _, 0, h => h
  | _, _, n + 1, .nil => .nil
  | _, _, n + 1, .cons _ t => t.drop n
theorem DdL.take : ∀ {xs : List Dt} {vs : List V} (n : Nat), DdL N H xs vs → DdL N H (xs.take n) (vs.take n)
  | _, _, 0, h => .nil
  | _, _, n + 1, .nil => .nil
  | _, _, n + 1, .cons h t => .cons h (t.take n)
theorem DdL.rev : ∀ {xs : List Dt} {vs : List V}, DdL N H xs vs → DdL N H xs.reverse vs.reverse
  | _, _, .nil => .nil
  | _, _, .cons (x := x) (xs := xs) (v := v) (vs := vs) h t => by
    rw [List.reverse_cons, List.reverse_cons]
    exact t.rev.app (.cons h .nil)
theorem DdL.last : ∀ {xs : List Dt} {vs : List V}, DdL N H xs vs → vs ≠ [] → ∃ ys y ws w, xs = ys ++ [y] ∧ vs = ws ++ [w] ∧ DdL N H ys ws ∧ Dd N H y w
  | _, _, .nil, n => absurd rfl n
  | _, _, .cons (x := x) (v := v) h .nil, _ => ⟨[], x, [], v, rfl, rfl, .nil, h⟩
  | _, _, .cons (x := x) (v := v) h (.cons h' t'), _ => by
    obtain ⟨ys, y, ws, w, e1, e2, k, r⟩ := DdL.last (.cons h' t') (by simp)
    exact ⟨x :: ys, y, v :: ws, w, by rw [e1]; rfl, by rw [e2]; rfl, .cons h k, r⟩
theorem DdL.strs : ∀ (xs : List Str), DdL N H (xs.map Dt.str) (xs.map V.str)
  | [] => .nil
  | x :: xs => .cons (.str x) (DdL.strs xs)
theorem DdL.ints : ∀ (xs : List Int), DdL N H (xs.map Dt.int) (xs.map V.int)
  | [] => .nil
  | x :: xs => .cons (.int x) (DdL.ints xs)
end
/-! their classes -/
def Dt.cls : Dt → String
  | .non => "NoneType"
  | .bl _ => "bool"
  | .int _ => "int"
  | .str _ => "str"
  | .tup _ => "tuple"
  | .lst _ => "list"
  | .emp => "dict"
theorem Dd.ty {K : PySem.W.Frag} {N : Addr → Prop} {H : Hp} {x : Dt} {v : V} (h : Dd N H x v) : TyX K H v (.type x.cls) := by
  cases h with
  | non => exact .base .non
  | bl b => exact .base (.bl b)
  | int i => exact .base (.int i)
  | str x => exact .base (.str x)
  | tup h _ => exact .base (.tup h)
  | lst _ h _ => exact .base (.lst h)
  | emp _ h => exact .base (.dK h)
def Dt.isTup : Dt → Bool
  | .tup _ => true
  | _ => false
def Dt.isStr : Dt → Bool
  | .str _ => true
  | _ => false
def Dt.isBl : Dt → Bool
  | .bl _ => true
  | _ => false
def Dt.isInt : Dt → Bool
  | .bl _ => true
  | .int _ => true
  | _ => false
def Dt.isLst : Dt → Bool
  | .lst _ => true
  | _ => false
/-- isinstance of such a thing: the answers -/
theorem kTup (K : PySem.W.Frag) : ∀ x : Dt, PySem.W.kitOne K (.type x.cls) (.type "tuple") = some x.isTup := by
  intro x
  cases x <;> (refine kit_ty ?_; simp only [Dt.cls, Dt.isTup]; decide +kernel)
theorem kStr (K : PySem.W.Frag) : ∀ x : Dt, PySem.W.kitOne K (.type x.cls) (.type "str") = some x.isStr := by
  intro x
  cases x <;> (refine kit_ty ?_; simp only [Dt.cls, Dt.isStr]; decide +kernel)
theorem kBl (K : PySem.W.Frag) : ∀ x : Dt, PySem.W.kitOne K (.type x.cls) (.type "bool") = some x.isBl := by
  intro x
  cases x <;> (refine kit_ty ?_; simp only [Dt.cls, Dt.isBl]; decide +kernel)
theorem kInt (K : PySem.W.Frag) : ∀ x : Dt, PySem.W.kitOne K (.type x.cls) (.type "int") = some x.isInt := by
  intro x
  cases x <;> (refine kit_ty ?_; simp only [Dt.cls, Dt.isInt]; decide +kernel)
theorem kLst (K : PySem.W.Frag) : ∀ x : Dt, PySem.W.kitOne K (.type x.cls) (.type "list") = some x.isLst := by
  intro x
  cases x <;> (refine kit_ty ?_; simp only [Dt.cls, Dt.isLst]; decide +kernel)
/-! as data, shown -/
mutual
def Dt.toP : Dt → PyData
  | .non => .none
  | .bl b => .bool b
  | .int i => .int i
  | .str x => .str x
  | .tup xs => .tuple (Dt.toPs xs)
  | .lst xs => .list (Dt.toPs xs)
  | .emp => .dict []
def Dt.toPs : List Dt → List PyData
  | [] => []
  | x :: xs => x.toP :: Dt.toPs xs
end
section
variable {X : Cx} {pins : List (Addr × Obj)} {σ : L2.St} {H : Hp} {s : Shared} {N : Addr → Prop}
/-- the empty dict, as an object -/
theorem emp_obj (I : Inv X pins σ H s) {a : Addr} (h : H a = some (.dK [])) : ∃ o n, s.heap.get? a = some o ∧ o.cls = .type "dict" ∧ o.data = .dict #[] n ∧ (a == sysModules) = false := by
  obtain ⟨_, low, vs, kv, o, es, ep, ho, hx, hd, _, pr, _⟩ := dk_of I.hok h
  cases kv
  have ee : es = #[] := by
    obtain ⟨l⟩ := es
    cases l with
    | nil => rfl
    | cons e r => cases pr
  subst ee
  exact ⟨o, ep, ho, hx.1, hd, low⟩
mutual
theorem Dd.reads (I : Inv X pins σ H s) : ∀ {x : Dt} {v : V}, Dd N H x v → ∀ {u : Value}, RelV v u → ∃ as, Reads s.heap u x.toP as
  | _, _, .non, _, r => by
    cases r
    exact ⟨_, .none⟩
  | _, _, .bl b, _, r => by
    cases r
    exact ⟨_, .bool b⟩
  | _, _, .int i, _, r => by
    obtain ⟨t, rfl⟩ := r
    exact ⟨_, .int i t⟩
  | _, _, .str x, _, r => by
    obtain ⟨t, rfl⟩ := r
    exact ⟨_, .str x t⟩
  | _, _, .tup h t, _, r => by
    cases r
    obtain ⟨its, rv, ⟨o, ho, hc, n, hd⟩, _⟩ := I.tuple (SqT.of h)
    obtain ⟨as, ra⟩ := t.reads I rv
    exact ⟨_, .tuple ho hc hd ra⟩
  | _, _, .lst _ h t, _, r => by
    cases r
    obtain ⟨its, rv, ⟨o, n, ho, hc, _, hd⟩, _⟩ := I.list (SqL.of h)
    obtain ⟨as, ra⟩ := t.reads I rv
    exact ⟨_, .list ho hc hd ra⟩
  | _, _, .emp _ h, _, r => by
    cases r
    obtain ⟨o, n, ho, hc, hd, _⟩ := emp_obj I h
    exact ⟨_, .dict (kvs := []) ho hc hd .nil .nil⟩
theorem DdL.reads (I : Inv X pins σ H s) : ∀ {xs : List Dt} {vs : List V}, DdL N H xs vs → ∀ {us : List Value}, Vals vs us → ∃ as, ReadsAll s.heap us (Dt.toPs xs) as
  | _, _, .nil, _, r => by
    cases r
    exact ⟨_, .nil⟩
  | _, _, .cons h t, _, r => by
    cases r with
    | cons r1 r2 =>
      obtain ⟨as, ra⟩ := h.reads I r1
      obtain ⟨bs, rb⟩ := t.reads I r2
      exact ⟨_, .cons ra rb⟩
end
theorem shownAll_le {xs : List PyData} {n : Nat} (h : ∀ t ∈ PyData.shownAll xs, t.length ≤ n) : ∀ t ∈ PyData.shownAll xs, t.length ≤ n := h
mutual
theorem Dd.reprK (I : Inv X pins σ H s) : ∀ {x : Dt} {v : V}, Dd N H x v → ∀ {u : Value}, RelV v u → x.toP.showable = true → x.toP.shown.length ≤ sizeLine → ∃ bs, ReadAtMost s.heap x.toP.depth bs ∧ ReprK X.prog X.w bs s.heap x.toP.depth u x.toP.shown
  | _, _, .non, _, r, _, _ => by
    cases r
    exact ⟨[], (fun _ h => nomatch h), by simp only [Dt.toP, PyData.shown]; exact .of_is ReprIs.none _ _ _⟩
  | _, _, .bl b, _, r, _, _ => by
    cases r
    exact ⟨[], (fun _ h => nomatch h), by simp only [Dt.toP, PyData.shown]; exact .of_is (ReprIs.bool b) _ _ _⟩
  | _, _, .int i, _, r, hs, _ => by
    obtain ⟨t, rfl⟩ := r
    exact ⟨[], (fun _ h => nomatch h), by simp only [Dt.toP, PyData.shown]; exact .of_is (ReprIs.int t (by simpa [Dt.toP, PyData.showable] using hs)) _ _ _⟩
  | _, _, .str x, _, r, _, hz => by
    obtain ⟨t, rfl⟩ := r
    exact ⟨[], (fun _ h => nomatch h), by simp only [Dt.toP, PyData.shown]; exact .of_is (ReprIs.str x t (by simpa only [Dt.toP, PyData.shown] using hz)) _ _ _⟩
  | _, _, .tup (a := a) (xs := xs) h t, _, r, hs, hz => by
    cases r
    obtain ⟨its, rv, ⟨o, ho, hc, n, hd⟩, _⟩ := I.tuple (SqT.of h)
    have hz' : (tupleText (PyData.shownAll (Dt.toPs xs))).length ≤ sizeLine := by simpa only [Dt.toP, PyData.shown] using hz
    obtain ⟨as, ra⟩ := t.reads I rv
    obtain ⟨bs, hb, hk⟩ := t.reprK I rv (by simpa [Dt.toP, PyData.showable] using hs) (fun t ht => Nat.le_trans (tupleText_mem_le ht) hz')
    have rd : Reads s.heap (.ref a) (.tuple (Dt.toPs xs)) _ := .tuple ho hc hd ra
    have na : a ∉ bs := not_mem_of_deeper rd (by simp only [PyData.depth]; omega) hb
    have le : PyData.depthAll (Dt.toPs xs) ≤ (PyData.tuple (Dt.toPs xs)).depth := by simp only [PyData.depth]; omega
    exact ⟨a :: bs, ReadAtMost.cons rd le hb, by simp only [Dt.toP, PyData.depth, PyData.shown]; exact ReprK.tuple ho hc hd na hk⟩
  | _, _, .lst (a := a) (xs := xs) (vs := vs) _ h t, _, r, hs, hz => by
    cases r
    obtain ⟨its, rv, ⟨o, n, ho, hc, _, hd⟩, _⟩ := I.list (SqL.of h)
    have hz' : (listText (PyData.shownAll (Dt.toPs xs))).length ≤ sizeLine := by simpa only [Dt.toP, PyData.shown] using hz
    obtain ⟨as, ra⟩ := t.reads I rv
    obtain ⟨bs, hb, hk⟩ := t.reprK I rv (by simpa [Dt.toP, PyData.showable] using hs) (fun t ht => Nat.le_trans (listText_mem_le ht) hz')
    have rd : Reads s.heap (.ref a) (.list (Dt.toPs xs)) _ := .list ho hc hd ra
    have na : a ∉ bs := not_mem_of_deeper rd (by simp only [PyData.depth]; omega) hb
    have le : PyData.depthAll (Dt.toPs xs) ≤ (PyData.list (Dt.toPs xs)).depth := by simp only [PyData.depth]; omega
    refine ⟨a :: bs, ReadAtMost.cons rd le hb, ?_⟩
    simp only [Dt.toP, PyData.depth, PyData.shown]
    cases its with
    | nil =>
      cases rv
      cases t
      simp only [Dt.toPs, PyData.shownAll, listText_nil]
      exact ReprK.listEmpty ho hc hd
    | cons y l => exact ReprK.list ho hc hd na (by simpa using hk.length_eq) (fun i y e => hk.item i y (by simpa using e))
  | _, _, .emp (a := a) _ h, _, r, _, hz => by
    cases r
    obtain ⟨o, n, ho, hc, hd, low⟩ := emp_obj I h
    have rd : Reads s.heap (.ref a) (.dict []) _ := .dict (kvs := []) ho hc hd .nil .nil
    refine ⟨a :: [], ReadAtMost.cons (n := 0) rd (Nat.zero_le _) (fun _ h => nomatch h), ?_⟩
    simp only [Dt.toP, PyData.depth, PyData.shown, PyData.shownKv_eq]
    exact ReprK.dict ho hc hd low (by simp) .nil
theorem DdL.reprK (I : Inv X pins σ H s) : ∀ {xs : List Dt} {vs : List V}, DdL N H xs vs → ∀ {us : List Value}, Vals vs us → PyData.showableAll (Dt.toPs xs) = true → (∀ t ∈ PyData.shownAll (Dt.toPs xs), t.length ≤ sizeLine) →
    ∃ bs, ReadAtMost s.heap (PyData.depthAll (Dt.toPs xs)) bs ∧ ReprAllK X.prog X.w bs s.heap (PyData.depthAll (Dt.toPs xs)) us (PyData.shownAll (Dt.toPs xs))
  | _, _, .nil, _, r, _, _ => by
    cases r
    exact ⟨[], (fun _ h => nomatch h), .nil⟩
  | _, _, .cons (x := x) (xs := xs) h t, _, r, hs, hz => by
    cases r with
    | cons r1 r2 =>
      have hs' : x.toP.showable = true ∧ PyData.showableAll (Dt.toPs xs) = true := by simpa [Dt.toPs, PyData.showableAll] using hs
      obtain ⟨as, ha, ka⟩ := h.reprK I r1 hs'.1 (hz _ (by simp [Dt.toPs, PyData.shownAll]))
      obtain ⟨bs, hb, kb⟩ := t.reprK I r2 hs'.2 (fun t ht => hz _ (by simp [Dt.toPs, PyData.shownAll, ht]))
      have m1 : x.toP.depth ≤ PyData.depthAll (Dt.toPs (x :: xs)) := by simp only [Dt.toPs, PyData.depthAll]; omega
      have m2 : PyData.depthAll (Dt.toPs xs) ≤ PyData.depthAll (Dt.toPs (x :: xs)) := by simp only [Dt.toPs, PyData.depthAll]; omega
      refine ⟨as ++ bs, (ha.mono m1).append (hb.mono m2), ?_⟩
      simp only [Dt.toPs, PyData.shownAll]
      exact .cons ((ka.more fun b hb => List.mem_append_left _ hb).level_le m1) (kb.more_le (fun b hb => List.mem_append_right _ hb) m2)
end
/-- it is shown: within the bounds -/
structure Shw (n : Nat) (x : Dt) : Prop where
  ok : x.toP.showable = true
  dp : x.toP.depth ≤ n
  sz : x.toP.shown.length ≤ sizeLine
def rShowU (n : Nat) : List V → Hp → VK → Prop := fun xs H Q => ∃ (v : V) (x : Dt), xs = [v] ∧ Dd Any H x v ∧ Shw n x ∧ Q (.str x.toP.shown) H
theorem call_showU {n : Nat} (g : Still X.A) (hu : X.A.units + (n + 1) < cLine) : CallR X (.builtin "repr") (rShowU n) := by
  intro pins s σ H xs us Q I r h
  obtain ⟨v, x, rfl, hd, sh, q⟩ := h
  cases r with
  | cons r1 r2 =>
    cases r2
    have done : ∀ (h' : Heap) (u tk : Tok), (∀ b o, s.heap.get? b = some o → h'.get? b = some o) → EP X pins σ Q (.str x.toP.shown u) { s with heap := h', toks := tk } := fun h' u tk hk => ⟨.str _, H, I.kept hk, ⟨u, rfl⟩, q⟩
    have dpx := sh.dp
    cases hd with
    | non =>
      cases r1
      exact PySem.P.repr_of_none (done s.heap _ _ fun _ _ e => e)
    | bl b =>
      cases r1
      exact PySem.P.repr_of_bool (by simpa only [Dt.toP, PyData.shown] using done s.heap _ _ fun _ _ e => e)
    | int i =>
      obtain ⟨t, rfl⟩ := r1
      exact PySem.P.repr_of_int (by simpa [Dt.toP, PyData.showable] using sh.ok) (by simpa only [Dt.toP, PyData.shown] using done s.heap _ _ fun _ _ e => e)
    | str y =>
      obtain ⟨t, rfl⟩ := r1
      exact PySem.P.repr_of_str (by simpa only [Dt.toP, PyData.shown] using done s.heap _ _ fun _ _ e => e) (by simpa only [Dt.toP, PyData.shown] using sh.sz)
    | tup h t =>
      rename_i a ys ws
      cases r1
      obtain ⟨its, rv, ⟨o, ho, hc, m, hd⟩, _⟩ := I.tuple (SqT.of h)
      have hz' : (tupleText (PyData.shownAll (Dt.toPs ys))).length ≤ sizeLine := by simpa only [Dt.toP, PyData.shown] using sh.sz
      obtain ⟨as, ra⟩ := t.reads I rv
      obtain ⟨bs, hb, hk⟩ := t.reprK I rv (by simpa [Dt.toP, PyData.showable] using sh.ok) (fun t ht => Nat.le_trans (tupleText_mem_le ht) hz')
      have rd : Reads s.heap (.ref a) (.tuple (Dt.toPs ys)) _ := .tuple ho hc hd ra
      have na : a ∉ bs := not_mem_of_deeper rd (by simp only [PyData.depth]; omega) hb
      have dp : PyData.depthAll (Dt.toPs ys) + 1 ≤ n := by simpa only [Dt.toP, PyData.depth, Nat.add_comm] using dpx
      exact call_repr_slot (by omega) ⟨o, ho, hc⟩ PySem.F.slot_tuple_repr (call_tuple_reprK ho hc hd na hk (A := X.A.in1) g (fun b _ => Clear.nil b) (by show X.A.units + 1 + _ < cLine; omega) (fun _ _ e => e) (fun h' u tk hk' => ⟨_, _, rfl, by simpa only [Dt.toP, PyData.shown] using done h' u tk hk'⟩) hz')
    | lst _ h t =>
      rename_i a ys ws _
      cases r1
      obtain ⟨its, rv, ⟨o, m, ho, hc, _, hd⟩, _⟩ := I.list (SqL.of h)
      have hz' : (listText (PyData.shownAll (Dt.toPs ys))).length ≤ sizeLine := by simpa only [Dt.toP, PyData.shown] using sh.sz
      obtain ⟨as, ra⟩ := t.reads I rv
      obtain ⟨bs, hb, hk⟩ := t.reprK I rv (by simpa [Dt.toP, PyData.showable] using sh.ok) (fun t ht => Nat.le_trans (listText_mem_le ht) hz')
      have rd : Reads s.heap (.ref a) (.list (Dt.toPs ys)) _ := .list ho hc hd ra
      have na : a ∉ bs := not_mem_of_deeper rd (by simp only [PyData.depth]; omega) hb
      have dp : PyData.depthAll (Dt.toPs ys) + 1 ≤ n := by simpa only [Dt.toP, PyData.depth, Nat.add_comm] using dpx
      cases its with
      | nil =>
        cases rv
        cases t
        exact call_repr_slot (by omega) ⟨o, ho, hc⟩ PySem.F.slot_list_repr.toG (call_list_repr_empty ⟨o, ho, hc⟩ ho hd ⟨_, _, rfl, by
          have z := done s.heap s.toks (s.toks + 1) fun _ _ e => e
          simp only [Dt.toP, Dt.toPs, PyData.shown, PyData.shownAll, listText_nil] at z
          exact z⟩)
      | cons y l =>
        exact call_repr_slot (by omega) ⟨o, ho, hc⟩ PySem.F.slot_list_repr.toG (call_list_reprK ho hc hd na (by simpa using hk.length_eq) (fun i y e => hk.item i y (by simpa using e)) (A := X.A.in1) g (fun b _ => Clear.nil b) (by show X.A.units + 1 + _ < cLine; omega) (fun _ _ e => e) (fun h' u tk hk' => ⟨_, _, rfl, by simpa only [Dt.toP, PyData.shown] using done h' u tk hk'⟩) hz')
    | emp _ h =>
      rename_i a _
      cases r1
      obtain ⟨o, m, ho, hc, hd, low⟩ := emp_obj I h
      have dp : 1 ≤ n := by simpa only [Dt.toP, PyData.depth, PyData.depthKv] using dpx
      exact call_repr_slot (by omega) ⟨o, ho, hc⟩ PySem.F.slot_dict_repr (call_dict_reprK (as := []) (d := 0) (ps := []) ho hc hd low (by simp) .nil (A := X.A.in1) g (fun b _ => Clear.nil b) (by show X.A.units + 1 + _ < cLine; omega) (fun _ _ e => e) (fun h' u tk hk' => ⟨_, _, rfl, by simpa only [Dt.toP, PyData.shown, PyData.shownKv] using done h' u tk hk'⟩) (by decide))
end
end Kv

namespace Kg
open PySem PySem.Spec PyProof.Rows L2 GxR
/-- a def whose code object is known -/
structure FunC (K : PySem.W.Frag) (x qual : Str) (st : Stmt) (f : Addr) (fd : FuncData) (c : Addr) : Prop where
  ex : ∃ (oc : Value) (od : Option Addr) (kV doc pm : Value) (an : Option Addr) (ct : Value) (osl : Array (Option Value)),
    fd = PySem.W.fnOf x qual (defArgs st) (defBody st) (defScope st) .none kV doc pm an (.ref c) ct ∧ K.lookup f = some ⟨oc, od, .func fd, osl⟩ ∧ PySem.W.codeIn K (.ref c) qual = true
section
variable {P : Program} {w : World} {K : PySem.W.Frag} {mg : Str → Option Value} {base : Heap}
theorem FunC.ok {x qual : Str} {st : Stmt} {f : Addr} {fd : FuncData} {c : Addr} {N ps : List Str} {k : Nat} {sp : Sp} (F : FunC K x qual st f fd c) (S : FnScope N ps (defScope st)) (len : ∀ vs H Q E, sp vs H Q E → vs.length = ps.length)
    (hbody : ∀ (A : Around) (outer : List Env) (s : Shared) (H : Hp) (vs : List V) (Q : VK) (E : XK), Room k (A.deeper (envOfC qual (defScope st) s.heap.objs.size f (.ref c))) → sp vs H Q E →
      ∃ t, PSs (cxOf CX0 P w K mg base N qual (defScope st) f (.ref c) A outer s H E).nox (defBody st) t ∧ t { nx := fun _ H' => Q .non H', rt := Q } (start N vs) H) : FnOk P w K mg base CX0 (k + 1) f fd ps sp := by
  obtain ⟨oc, od, kV, doc, pm, an, ct, osl, rfl, lk, hcd⟩ := F.ex
  refine fn_of lk hcd S len fun A outer s H vs Q E hr hsp => ?_
  obtain ⟨t, h, q⟩ := hbody A outer s H vs Q E hr hsp
  exact ⟨t, h.nox, q⟩
theorem funC_mk {x qual : Str} {st : Stmt} {f c : Addr} {oc : Value} {od an : Option Addr} {osl : Array (Option Value)} {kV doc pm ct : Value} (l : K.lookup f = some ⟨oc, od, .func (PySem.W.fnOf x qual (defArgs st) (defBody st) (defScope st) .none kV doc pm an (.ref c) ct), osl⟩)
    (h : PySem.W.codeIn K (.ref c) qual = true) : FunC K x qual st f (PySem.W.fnOf x qual (defArgs st) (defBody st) (defScope st) .none kV doc pm an (.ref c) ct) c := ⟨⟨oc, od, kV, doc, pm, an, ct, osl, rfl, l, h⟩⟩
end
def gxSB (N : List Str) (sc scope : Scope) (own : List Str) (caps : List (Str × Nat)) : Bool :=
  decide (scope.kind = .function) && !scope.isCoroutine && scope.names.all (fun y => !decide (y.2 = .cell)) && decide (scope.names.lookup (".0" : Str) = some NameKind.local) && decide ((own ++ caps.map (·.1)).Nodup) &&
  caps.all (fun p => decide (N[p.2]? = some p.1) && decide (scope.names.lookup p.1 = some .free)) && scope.names.all (fun y => !decide (y.2 = .free) || decide (sc.names.lookup y.1 = some .cell) || decide (sc.names.lookup y.1 = some .free)) && scope.names.all fun y => decide (scope.names.lookup y.1 = some y.2)
theorem gxS_by {N : List Str} {sc scope : Scope} {own : List Str} {caps : List (Str × Nat)} (h : gxSB N sc scope own caps = true) : GxS N sc scope own caps := by
  unfold gxSB at h
  simp only [Bool.and_eq_true, Bool.or_eq_true, Bool.not_eq_true', decide_eq_true_eq, decide_eq_false_iff_not, List.all_eq_true] at h
  obtain ⟨⟨⟨⟨⟨⟨⟨h1, h2⟩, h3⟩, h4⟩, h5⟩, h6⟩, h7⟩, h8⟩ := h
  refine ⟨h1, h2, h3, h4, h5, h6, fun y hy e => ?_, h8⟩
  rcases h7 y hy with (z | z) | z
  · exact absurd e z
  · exact .inl z
  · exact .inr z
/-! the tables of code objects -/
def TbS (T : List Addr) (H : Hp) : Prop := ∀ p ∈ T, TabG H p
/-- all but the tables stands; they are tables -/
def Sm (T : List Addr) (H G : Hp) : Prop := (∀ b u, b ∉ T → H b = some u → G b = some u) ∧ TbS T G
theorem TbS.same {T : List Addr} {H G : Hp} (t : TbS T H) (s : Same H G) : TbS T G := fun p hp => by
  obtain ⟨ps, h1, h2⟩ := t p hp
  exact ⟨ps, s _ _ h1, h2⟩
theorem Sm.refl {T : List Addr} {H : Hp} (t : TbS T H) : Sm T H H := ⟨fun _ _ _ e => e, t⟩
theorem Sm.of {T : List Addr} {H G : Hp} (s : Same H G) (t : TbS T H) : Sm T H G := ⟨fun b u _ e => s b u e, t.same s⟩
theorem Sm.trans {T : List Addr} {H G F : Hp} (a : Sm T H G) (b : Sm T G F) : Sm T H F := ⟨fun x u h e => b.1 x u h (a.1 x u h e), b.2⟩
theorem Sm.tab {T : List Addr} {H G : Hp} {p : Addr} (hp : p ∈ T) (t : TbS T H) (h : Tabbed p H G) : Sm T H G := by
  refine ⟨fun b u hb e => ?_, fun q hq => ?_⟩
  · rw [h.2 b (fun z => hb (by rw [z]; exact hp))]
    exact e
  · by_cases z : q = p
    · rw [z]
      exact h.1
    · obtain ⟨ps, h1, h2⟩ := t q hq
      exact ⟨ps, by rw [h.2 q z]; exact h1, h2⟩
theorem TbS.off {T : List Addr} {H : Hp} {b : Addr} {u : HO} (t : TbS T H) (e : H b = some u) (n : ∀ ps, u ≠ .tbl ps) : b ∉ T := fun hb => by
  obtain ⟨ps, h1, _⟩ := t b hb
  rw [e] at h1
  exact n ps (Option.some.inj h1)
theorem Sm.at {T : List Addr} {H G : Hp} (a : Sm T H G) (t : TbS T H) {b : Addr} {u : HO} (e : H b = some u) (n : ∀ ps, u ≠ .tbl ps) : G b = some u := a.1 b u (t.off e n) e
theorem Sm.free {T : List Addr} {H G : Hp} {p : Addr} (a : Sm T H G) (h : G p = none) : H p = none := by
  cases e : H p with
  | none => rfl
  | some u =>
    by_cases hp : p ∈ T
    · obtain ⟨ps, h1, _⟩ := a.2 p hp
      rw [h] at h1
      cases h1
    · rw [a.1 p u hp e] at h
      cases h
/-! all over a list, over a tuple -/
section
variable {K : PySem.W.Frag} {a : Addr} {xs : List V} {g : TG} {te : TE} {vs : List Nat} {σ0 : L2.St} {G : Hp} {Qe : Bool → Hp → Prop}
theorem all_list (Pv : Nat → Hp → Prop) (h0 : Pv 0 G) (hl : ∀ i H, i ≤ xs.length → Pv i H → SqL K H a xs)
    (hs : ∀ i x H, xs[i]? = some x → Pv i H → g x σ0 H fun σ2 H2 => wipe σ2 vs = σ0 ∧ te σ2 H2 fun y H4 => ∃ b, y = .bl b ∧ if b = true then Pv (i + 1) H4 else Qe false H4) (hd : ∀ H, Pv xs.length H → Qe true H) :
    ∃ W : Nat → Nat → Hp → Prop, (∃ m, W 0 m G) ∧ Turns (Itl K a) σ0 vs g te Qe W := by
  refine ⟨fun i m F => m = xs.length - i ∧ i ≤ xs.length ∧ Pv i F, ⟨_, rfl, Nat.zero_le _, h0⟩, fun i m F z => ?_⟩
  obtain ⟨rfl, hi, p⟩ := z
  have q := hl i F hi p
  by_cases lt : i < xs.length
  · refine .inr ⟨⟨xs, xs[i], q, List.getElem?_eq_getElem lt⟩, Pv (i + 1), fun F' p' => ⟨xs.length - (i + 1), by omega, rfl, lt, p'⟩, fun x F' y => ?_⟩
    obtain ⟨e, y⟩ := y
    subst e
    exact hs i x _ (y xs q) p
  · have e : i = xs.length := by omega
    subst e
    exact .inl ⟨⟨xs, q, Nat.le_refl _⟩, hd F p⟩
theorem all_tup (Pv : Nat → Hp → Prop) (h0 : Pv 0 G) (hl : ∀ i H, i ≤ xs.length → Pv i H → SqT K H a xs)
    (hs : ∀ i x H, xs[i]? = some x → Pv i H → g x σ0 H fun σ2 H2 => wipe σ2 vs = σ0 ∧ te σ2 H2 fun y H4 => ∃ b, y = .bl b ∧ if b = true then Pv (i + 1) H4 else Qe false H4) (hd : ∀ H, Pv xs.length H → Qe true H) :
    ∃ W : Nat → Nat → Hp → Prop, (∃ m, W 0 m G) ∧ Turns (Itt K a) σ0 vs g te Qe W := by
  refine ⟨fun i m F => m = xs.length - i ∧ i ≤ xs.length ∧ Pv i F, ⟨_, rfl, Nat.zero_le _, h0⟩, fun i m F z => ?_⟩
  obtain ⟨rfl, hi, p⟩ := z
  have q := hl i F hi p
  by_cases lt : i < xs.length
  · refine .inr ⟨⟨xs, xs[i], q, List.getElem?_eq_getElem lt⟩, Pv (i + 1), fun F' p' => ⟨xs.length - (i + 1), by omega, rfl, lt, p'⟩, fun x F' y => ?_⟩
    obtain ⟨e, y⟩ := y
    subst e
    exact hs i x _ (y xs q) p
  · have e : i = xs.length := by omega
    subst e
    exact .inl ⟨⟨xs, q, Nat.le_refl _⟩, hd F p⟩
/-- all over what walks -/
theorem all_it {J : It} {n : Nat} {I : Hp → Prop} {Y : Nat → Hp → V → Hp → Prop} (w : Walk J n I Y) (Pv : Nat → Hp → Prop) (h0 : Pv 0 G) (hl : ∀ i H, i ≤ n → Pv i H → I H)
    (hs : ∀ i x H H', i < n → Pv i H → Y i H x H' → g x σ0 H' fun σ2 H2 => wipe σ2 vs = σ0 ∧ te σ2 H2 fun y H4 => ∃ b, y = .bl b ∧ if b = true then Pv (i + 1) H4 else Qe false H4) (hd : ∀ H, Pv n H → Qe true H) :
    ∃ W : Nat → Nat → Hp → Prop, (∃ m, W 0 m G) ∧ Turns J σ0 vs g te Qe W := by
  refine ⟨fun i m F => m = n - i ∧ i ≤ n ∧ Pv i F, ⟨_, rfl, Nat.zero_le _, h0⟩, fun i m F z => ?_⟩
  obtain ⟨rfl, hi, p⟩ := z
  have q := hl i F hi p
  by_cases lt : i < n
  · exact .inr ⟨w.goes i F lt q, Pv (i + 1), fun F' p' => ⟨n - (i + 1), by omega, rfl, lt, p'⟩, fun x F' y => hs i x F F' lt p (w.yields i F x F' lt q y)⟩
  · have e : i = n := by omega
    subst e
    exact .inl ⟨w.stops F q, hd F p⟩
theorem Sm.kn {T : List Addr} {N : Addr → Prop} {H G : Hp} (a : Sm T H G) (t : TbS T H) : Kv.Kn N H G :=
  ⟨fun b xs e => a.at t e (fun ps z => by cases z), fun b xs _ e => a.at t e (fun ps z => by cases z), fun b xs _ e => a.at t e (fun ps z => by cases z)⟩
theorem Sm.new {T : List Addr} {H G : Hp} {p : Addr} {o : HO} (a : Sm T H G) (h : H p = none) (tb : TbS T H) : Sm T H (upd G p o) := by
  refine ⟨fun b u hb e => ?_, fun q hq => ?_⟩
  · rw [upd_ne (ne_of_none e h)]
    exact a.1 b u hb e
  · obtain ⟨ps, h1, h2⟩ := a.2 q hq
    obtain ⟨ps0, h10, _⟩ := tb q hq
    exact ⟨ps, by rw [upd_ne (ne_of_none h10 h)]; exact h1, h2⟩
end
end Kg

/-! dict(..) of a tuple of pairs, a tuple of two turned about -/
namespace Kt
open PySem PySem.Spec PyProof.Rows L2
section
variable {X : Cx}
/-- tuple(l): the object is known -/
theorem call_tupleF : CallR X (.type "tuple") (fun xs H Q => ∃ p ys, xs = [.ref p] ∧ SqL X.K H p ys ∧ ∀ l (o : Obj), H l = none → o.dict = none → o.cls = .type "tuple" → Q (.ref l) (upd H l (.frz o (.tup ys)))) := by
  intro pins s σ H xs us Q I r h
  obtain ⟨p, ys, rfl, hq, q⟩ := h
  obtain ⟨u, rfl, rx⟩ := vals1 r
  cases rx
  obtain ⟨its, r', pl, hz⟩ := I.list hq
  have hlen := r'.length
  refine call_tuple_list pl.isList (fun h' kp => ?_) (by simp only [List.size_toArray] <;> omega)
  have I1 : Inv X pins σ H { s with heap := h' } := I.kept (t' := s.toks) kp
  have I2 : Inv X pins σ (upd H h'.objs.size (.frz { cls := .type "tuple", data := .seq its.toArray } (.tup ys))) { s with heap := h'.push { cls := .type "tuple", data := .seq its.toArray } } :=
    I1.laid (t' := s.toks) (fun b o e => Heap.get?_push_of_some _ e) (Nat.le_refl _) (show ObjOk X.prog X.w _ _ _ (.frz _ (.tup ys)) from ⟨Heap.get?_push_size _ rfl, hz, its, r', IsTup.new _ _⟩)
  exact ⟨.ref h'.objs.size, _, I2, rfl, q _ _ (I1.hok.fresh (Nat.le_refl _)) rfl rfl⟩
/-- () -/
def tTup0 : TE := fun _ H Q => ∀ p (o : Obj), H p = none → o.dict = none → o.cls = .type "tuple" → Q (.ref p) (upd H p (.frz o (.tup [])))
theorem pe_tup0 {x1 : Nat} {pos : Pos} : PE X (.Tuple [] x1 pos) tTup0 := by
  refine ⟨fun pins s σ H Q I h => ?_⟩
  refine wpAny_Tuple_spliced (thn ((pa_nil (X := X)).run pos pins s σ H (fun xs H1 => xs = [] ∧ H1 = H) I ⟨rfl, rfl⟩) fun us s1 ⟨xs, H1, I1, r, e1, e2⟩ => ?_)
  subst e1 e2
  cases r
  refine ⟨Nat.zero_le _, ?_⟩
  refine ⟨.ref s1.heap.objs.size, _, I1.laid (t' := s1.toks) (o := .frz { cls := .type "tuple", data := .seq ([] : List Value).toArray } (.tup [])) (fun b u e => Heap.get?_push_of_some _ e) (Nat.le_refl _) ?_, rfl, h _ _ (I1.hok.fresh (Nat.le_refl _)) rfl rfl⟩
  exact ⟨Heap.get?_push_size _ rfl, Nat.zero_le _, [], .nil, IsTup.new _ _⟩
theorem raws_of {pins : List (Addr × Obj)} {σ : L2.St} {H : Hp} {s : Shared} (I : Inv X pins σ H s) : ∀ {ps : List Addr} {kvs : List (Key × V)}, Paired (fun p kv => SqT X.K H p [kV kv.1, kv.2]) ps kvs →
    ∃ (prs : List (Key × Value)) (raws : List (Value × Value)), KV kvs prs ∧ prs.length = ps.length ∧ raws.length = ps.length ∧ ∀ (j : Nat) (u v : Value), raws[j]? = some (u, v) → ∃ (b : Addr) (k : Key), ps[j]? = some b ∧ IsTup s.heap b #[u, v] ∧ prs[j]? = some (k, v) ∧ keyIs k u = true
  | _, _, .nil => ⟨[], [], .nil, rfl, rfl, fun j u v e => by simp at e⟩
  | _, _, .cons (a := p) (b := kv) h t => by
    obtain ⟨prs, raws, r, hl, hl2, hp⟩ := raws_of I t
    obtain ⟨its, rv, ht, _⟩ := I.tuple h
    obtain ⟨u, y, ei, ru, ry⟩ := vals2 rv
    subst ei
    refine ⟨(kv.1, y) :: prs, (u, y) :: raws, .cons ⟨rfl, ry⟩ r, by rw [List.length_cons, List.length_cons, hl], by rw [List.length_cons, List.length_cons, hl2], fun j u' v' e => ?_⟩
    cases j with
    | zero =>
      have e' : (u, y) = (u', v') := Option.some.inj e
      cases e'
      exact ⟨p, kv.1, rfl, ht, rfl, kV_is (P := X.prog) (w := X.w) ru⟩
    | succ j =>
      obtain ⟨b, k, e1, e2, e3, e4⟩ := hp j u' v' (by simpa using e)
      exact ⟨b, k, by simpa using e1, e2, by simpa using e3, e4⟩
/-- dict(t) of a tuple of pairs -/
theorem call_dictF (hcalm : X.calm = true) : CallR X (.type "dict") (fun xs H Q => ∃ (a : Addr) (o : Obj) (ps : List Addr) (kvs : List (Key × V)), xs = [.ref a] ∧ H a = some (.frz o (.tup (ps.map V.ref))) ∧ o.dict = none ∧ o.cls = .type "tuple" ∧ Paired (fun p kv => SqT X.K H p [kV kv.1, kv.2]) ps kvs ∧
    ∀ p, H p = none → Q (.ref p) (upd H p (.dK (mergeK [] kvs)))) := by
  intro pins s σ H xs us Q I r q
  obtain ⟨a, o, ps, kvs, ex, hq, hod, hoc, hp, q⟩ := q
  subst ex
  obtain ⟨u, eu, rx⟩ := vals1 r
  subst eu
  cases rx
  obtain ⟨ho, hz, its, rv, o2, ho2, hc2, n2, hdat⟩ := I.hok a _ hq
  rw [ho] at ho2
  cases ho2
  have ei := refs_at rv
  subst ei
  rw [List.length_map] at hz
  obtain ⟨prs, raws, rel, hl, hl2, hpr⟩ := raws_of I hp
  have PA := PairArg.tuple (prog := X.prog) (w := X.w) a (ps.map Value.ref).toArray (fun j => (ps[j]?).getD 0) raws
  refine PySem.call_dict_pairs (knd := mixKind X.prog X.w) (kvs := prs) PA (I.ok.hd hcalm) ⟨⟨o, n2, ho, hoc, hod, hdat⟩, by simp [hl2], fun j k v e => ?_⟩ ⟨by rw [hl, hl2], fun i key v e => ?_⟩ (by rw [hl2]; exact hz) fun h' tk hd' k => ?_
  · obtain ⟨b, kk, e1, e2, e3, e4⟩ := hpr j k v e
    refine ⟨by simp [e1], .inl ?_⟩
    show s.heap.IsTuple ((ps[j]?).getD 0) #[k, v]
    rw [e1]
    exact e2
  · obtain ⟨b, kk, e1, e2, e3, e4⟩ := hpr i key v e
    exact ⟨kk, e3, e4⟩
  · have hm : (s.heap.objs.size == sysModules) = false := beq_eq_false_iff_ne.mpr (Nat.ne_of_gt I.big)
    have hlen : (mergeK [] kvs).length ≤ sizeLine := by
      refine Nat.le_trans (length_mergeK kvs []) ?_
      rw [List.length_nil, Nat.zero_add, rel.length, hl]
      exact hz
    exact ⟨.ref s.heap.objs.size, upd H s.heap.objs.size (.dK (mergeK [] kvs)), I.laid (t' := tk) (fun b o e => k b o (by simp) e) (Nat.le_refl _) (show ObjOk X.prog X.w _ _ _ (.dK (mergeK [] kvs)) from ⟨hlen, hm, merged [] prs, KV.merge rel .nil, hd'⟩), rfl, q _ (I.hok.fresh (Nat.le_refl _))⟩
end
/-! t[::-1], t of two -/
section
variable {prog : Program} {w : World} {A : Around} {E : Value → Shared → Prop} {s : Shared}
theorem getItem_two {t sl : Addr} {x y vl vu vs : Value} {Q : Value → Shared → Prop} (ht : IsTup s.heap t #[x, y]) (hs : s.heap.IsSliceOf sl vl vu vs) (pl : IsPart vl none) (pu : IsPart vu none) (ps : IsPart vs (some (-1)))
    (h : Q (.ref s.heap.objs.size) { s with heap := s.heap.push { cls := .type "tuple", data := .seq #[y, x] } }) : wpAny (model prog w) A (getItem (.ref t) (.ref sl)) Q E s := by
  have htake : sizeOk (.seq #[y, x]) := by
    show 2 ≤ sizeLine
    decide
  obtain ⟨os, hos, hcs, hds⟩ := id hs
  have hTs : s.TypeIs (.ref sl) "slice" := ⟨os, hos, hcs⟩
  unfold getItem
  try with_reducible refine wpAny_holding ?_
  first | refine wpAny_bind (wpAny_pure ?_) | skip
  refine wpAny_bind (wpAny_sequenceKey ht.typeIs (by decide) ?_)
  refine wpAny_bind (wpAny_callSpecial?_slot (name := Str.ofString "__getitem__") ht.typeIs PyProof.Rows.slot_tuple_getitem
    (wpAny_call_entry PyProof.Rows.slot_tuple_getitem ht.typeIs entry_tuple_getitem ?_ (args_tuple_getitem _ _)))
  show wpAny _ _ (Builtin.Tuple.tupleItemsOf (.ref t) >>= _) _ _ s
  refine wpAny_bind (tupleItemsOf_ ht ?_)
  refine wpAny_bind (wpAny_typeOf hTs ?_)
  rw [if_pos (by decide)]
  refine wpAny_bind ?_
  unfold Builtin.Slice.sliceApplied Builtin.Slice.sliceFields
  refine wpAny_bind (wpAny_bind (wpAny_field hos hds (x := vl) rfl (wpAny_bind (wpAny_field hos hds (x := vu) rfl (wpAny_bind (wpAny_field hos hds (x := vs) rfl (wpAny_pure ?_)))))))
  refine wpAny_bind (HT.slicePart_ ps ?_)
  show wpAny _ _ (if ((-1 : Int) == 0) = true then _ else _) _ _ s
  rw [if_neg (by decide)]
  refine wpAny_bind (HT.slicePart_ pl (wpAny_bind (HT.slicePart_ pu (wpAny_bind (wpAny_pure ?_)))))
  refine wpAny_pure ?_
  show wpAny _ _ (if (((1 : Int) == 0 && (-1 : Int) == 1 && (2 : Nat) == 2) = true) then _ else _) _ _ s
  rw [if_neg (by decide)]
  generalize hA : (List.filterMap _ (List.range _)).toArray = arr
  have eA : arr = #[y, x] := by
    rw [← hA]
    first
      | rfl
      | kernel_rfl
      | with_unfolding_all rfl
  subst eA
  show wpAny _ _ (Builtin.Tuple.tupleExact #[y, x] >>= fun v => ret v) _ _ s
  have e : ((List.range 2).filterMap fun (m : Nat) => (#[x, y] : Array Value)[((1 : Int) + (m : Int) * (-1)).toNat]?).toArray = #[y, x] := rfl
  first
    | exact wpAny_bind (m := Builtin.Tuple.tupleExact _) (wpAny_newObj_type (wpAny_pure ⟨_, rfl, wpAny_pure h⟩) htake)
    | exact wpAny_bind (m := Builtin.Tuple.tupleExact _) (wpAny_newObj_type (wpAny_bind (wpAny_pure (wpAny_pure ⟨_, rfl, wpAny_pure h⟩))) htake)
    | exact wpAny_bind (wpAny_bind (m := Builtin.Tuple.tupleExact _) (wpAny_newObj_type (wpAny_pure (wpAny_pure ⟨_, rfl, wpAny_pure h⟩)) htake))
    | exact wpAny_bind (wpAny_bind (m := Builtin.Tuple.tupleExact _) (wpAny_newObj_type (wpAny_pure ⟨_, rfl, wpAny_pure h⟩) htake))
end
section
variable {X : Cx}
def tRev2 (K : PySem.W.Frag) (te : TE) : TE := fun σ H Q => te σ H fun x H1 => ∃ a y z, x = .ref a ∧ SqT K H1 a [y, z] ∧ ∀ p, H1 p = none → Q (.ref p) (upd H1 p (.tup [z, y]))
theorem pe_rev2 {e : Expr} {te : TE} {k : Nat} {p1 p2 p3 pos : Pos} (he : PE X e te) : PE X (.Subscript e (.Slice none none (some (.UnaryOp .USub (.Constant (.int 1) k p1) p2)) p3) pos) (tRev2 X.K te) := by
  refine ⟨fun pins s σ H Q I h => ?_⟩
  refine Subscript_ (thn (he.run pins s σ H _ I h) fun v s1 ⟨x, H1, I1, r1, q1⟩ => ?_)
  obtain ⟨a, y, z, ex, hx, q⟩ := q1
  subst ex
  cases r1
  have hst : PO X (some (.UnaryOp .USub (.Constant (.int 1) k p1) p2)) (tPart (tUn (rU fun i => .int (-i)) (tC (.int 1)))) := po_some (pe_un un_neg pe_int)
  refine wpAny_Slice (thn (po_none.run pins s1 σ H1 (fun o H2 => o = none ∧ H2 = H1) I1 ⟨rfl, rfl⟩) fun vl s2 ⟨l, H2, I2, pl, el, e2⟩ => ?_)
  subst el e2
  refine thn (po_none.run pins s2 σ H2 (fun o H3 => o = none ∧ H3 = H2) I2 ⟨rfl, rfl⟩) fun vu s3 ⟨u, H3, I3, pu, eu, e3⟩ => ?_
  subst eu e3
  refine thn (hst.run pins s3 σ H3 (fun o H4 => o = some (-1) ∧ H4 = H3) I3 ⟨1, rfl, -1, rfl, rfl, rfl⟩) fun vs s4 ⟨o, H4, I4, ps, eo, e4⟩ => ?_
  subst eo e4
  have I5 : Inv X pins σ H4 { s4 with heap := s4.heap.push { cls := .type "slice", data := .fields #[vl, vu, vs] } } := I4.kept (t' := s4.toks) fun b ob q => Heap.get?_push_of_some _ q
  obtain ⟨its, r, ht, hz⟩ := I5.tuple hx
  obtain ⟨yv, zv, ei, ry, rz⟩ := vals2 r
  subst ei
  show wpAny (model X.prog X.w) X.A (subscriptTail e (.Slice none none (some (.UnaryOp .USub (.Constant (.int 1) k p1) p2)) p3) (.ref a) (.ref s4.heap.objs.size)) (EP X pins σ Q) X.xe { s4 with heap := s4.heap.push { cls := .type "slice", data := .fields #[vl, vu, vs] } }
  refine tail_any (ops := [.ref a, .ref s4.heap.objs.size]) ht.typeIs (PyProof.Rows.slot_tuple_getitem.lookup) ?_ (by with_unfolding_all rfl)
  refine getItem_two ht (Heap.IsSliceOf.new _ vl vu vs) pl pu ps ?_
  refine ⟨.ref _, _, I5.laid (t' := s4.toks) (o := .tup [z, y]) (fun b ob q => Heap.get?_push_of_some _ q) (Nat.le_refl _) ?_, rfl, q _ (I5.hok.fresh (Nat.le_refl _))⟩
  exact ⟨by show 2 ≤ sizeLine; decide, [zv, yv], .cons rz (.cons ry .nil), IsTup.new _ _⟩
end
end Kt

/-! further rules: == of tuples by texts, enumerate of a tuple, a text many times, a tuple turned about -/
namespace Kv
open PySem PySem.Spec PyProof.Rows L2 Kf
theorem vals_at : ∀ {xs : List V} {us : List Value} {i : Nat} (h : i < us.length), Vals xs us → ∃ x, xs[i]? = some x ∧ RelV x us[i]
  | _, _, i, h, .nil => absurd h (Nat.not_lt_zero _)
  | _, _, 0, h, .cons r t => ⟨_, rfl, r⟩
  | _, _, i + 1, h, .cons r t => by
    obtain ⟨x, e, q⟩ := vals_at (i := i) (Nat.lt_of_succ_lt_succ h) t
    exact ⟨x, e, q⟩
/-- at places that both have stand texts -/
def BothTxt (xs ys : List V) : Prop := ∀ (i : Nat) (u v : V), xs[i]? = some u → ys[i]? = some v → ∃ a b : Str, u = .str a ∧ v = .str b
def rEqTT (K : PySem.W.Frag) : R2 := fun x y H Q => ∃ (a b : Addr) (xs ys : List V), x = .ref a ∧ y = .ref b ∧ SqT K H a xs ∧ SqT K H b ys ∧ BothTxt xs ys ∧ Q (.bl (decide (xs = ys))) H
theorem op_eqTT {X : Cx} (hu : X.A.units + 64 < cLine) : OpR X (compareOp .Eq) (rEqTT X.K) := by
  intro pins s σ H x y v u Q I rx ry h
  obtain ⟨a, b, xs, ys, rfl, rfl, ha, hb, bt, q⟩ := h
  cases rx
  cases ry
  obtain ⟨is, r1, ⟨o1, h1, c1, n1, d1⟩, _⟩ := I.tuple ha
  obtain ⟨js, r2, ⟨o2, h2, c2, n2, d2⟩, _⟩ := I.tuple hb
  have l1 := r1.length
  have l2 := r2.length
  refine PySem.SeqAt.eq_tupleAt (e := fun i => decide (xs[i]? = ys[i]?)) ⟨o1, h1, c1, n1, d1⟩ ⟨o2, h2, c2, n2, d2⟩ (by omega) (fun j j1 j2 => ?_) ?_
  · have j1' : j < is.length := by simpa using j1
    have j2' : j < js.length := by simpa using j2
    obtain ⟨p, ep, rp⟩ := vals_at j1' r1
    obtain ⟨p', ep', rp'⟩ := vals_at j2' r2
    obtain ⟨sa, sb, rfl, rfl⟩ := bt j p p' ep ep'
    obtain ⟨t1, e1⟩ := rp
    obtain ⟨t2, e2⟩ := rp'
    have z := PySem.SeqAt.EqAt.str_str (A := X.A.in1) (s := s) sa t1 sb t2
    simp only [List.getElem_toArray, e1, e2, ep, ep']
    have e : decide (some (V.str sa) = some (V.str sb)) = (sa == sb) := by
      by_cases c : sa = sb
      · subst c
        simp
      · have : ¬ some (V.str sa) = some (V.str sb) := fun z => c (V.str.inj (Option.some.inj z))
        rw [decide_eq_false this]
        exact (beq_eq_false_iff_ne.mpr c).symm
    rw [e]
    exact z
  · have e : ((List.range (min is.toArray.size js.toArray.size)).all (fun i => decide (xs[i]? = ys[i]?)) && is.toArray.size == js.toArray.size) = decide (xs = ys) := by
      rw [List.size_toArray, List.size_toArray, ← l1, ← l2]
      by_cases c : xs = ys
      · subst c
        simp
      · rw [decide_eq_false c]
        by_cases cl : xs.length = ys.length
        · rw [Bool.and_eq_false_iff]
          left
          rw [← Bool.not_eq_true, List.all_eq_true]
          intro all
          refine c (List.ext_getElem? fun i => ?_)
          by_cases hi : i < xs.length
          · exact of_decide_eq_true (all i (List.mem_range.mpr (by omega)))
          · rw [List.getElem?_eq_none (by omega), List.getElem?_eq_none (by omega)]
        · rw [Bool.and_eq_false_iff]
          right
          exact beq_eq_false_iff_ne.mpr cl
    rw [e]
    exact ⟨.bl _, H, I, rfl, q⟩
/-! a text many times -/
theorem fold_app : ∀ (l : List (Array Nat)) (acc : Array Nat), (l.foldl (· ++ ·) acc).toList = acc.toList ++ (l.map Array.toList).flatten
  | [], acc => by simp
  | x :: l, acc => by
    rw [List.foldl_cons, fold_app l]
    simp [Array.toList_append, List.append_assoc]
theorem mul_cps (z : Str) (n : Nat) : (∀ c ∈ (Txt.mul z (n : Int)).cps.toList, c ∈ z.cps.toList) ∧ (Txt.mul z (n : Int)).cps.toList.length ≤ z.cps.toList.length * n := by
  unfold Txt.mul
  by_cases h1 : (n : Int) < 1
  · rw [if_pos h1]
    exact ⟨fun c h => absurd h (by simp [Str.empty]), by simp [Str.empty]⟩
  rw [if_neg h1]
  by_cases h2 : ((n : Int) == 1 || z.length == 0) = true
  · rw [if_pos h2]
    exact ⟨fun c h => h, Nat.le_mul_of_pos_right _ (by omega)⟩
  rw [if_neg h2]
  show (∀ c ∈ ((List.replicate (n : Int).toNat z.cps).foldl (· ++ ·) #[]).toList, c ∈ z.cps.toList) ∧ ((List.replicate (n : Int).toNat z.cps).foldl (· ++ ·) #[]).toList.length ≤ _
  rw [fold_app, Int.toNat_natCast, List.map_replicate]
  refine ⟨fun c h => ?_, ?_⟩
  · have h' : c ∈ (List.replicate n z.cps.toList).flatten := by simpa using h
    obtain ⟨l, hl, hc⟩ := List.mem_flatten.mp h'
    rw [(List.mem_replicate.mp hl).2] at hc
    exact hc
  · have e : ((#[] : Array Nat).toList ++ (List.replicate n z.cps.toList).flatten).length = n * z.cps.toList.length := by simp
    rw [e, Nat.mul_comm]
    exact Nat.le_refl _
def rMulS : R2 := fun x y H Q => ∃ (z : Str) (n : Nat), x = .str z ∧ y = .int (n : Int) ∧ n ≤ 1000 ∧ z.length ≤ sizeLine ∧ z.length * n ≤ sizeLine ∧ Q (.str (Txt.mul z (n : Int))) H
theorem op_mulS {X : Cx} : OpR X (binaryOp .Mult) rMulS := by
  intro pins s σ H x y v u Q I rx ry h
  obtain ⟨z, n, rfl, rfl, hn, hz0, hz1, q⟩ := h
  have hz : z.length ≤ 16777216 := hz0
  obtain ⟨t1, rfl⟩ := rx
  obtain ⟨t2, rfl⟩ := ry
  refine SB.mul (x := z) (n := (n : Int)) ⟨?_, fun h1 _ => ?_, fun h1 _ => ?_⟩ fun t' k => ⟨.str _, H, I.tok _, ⟨t', rfl⟩, q⟩
  · have a : decide ((n : Int) < -(2 ^ 63 : Int)) = false := decide_eq_false (by omega)
    have b : decide ((n : Int) ≥ 2 ^ 63) = false := decide_eq_false (by omega)
    rw [a, b]
    rfl
  · have h0 : (0 : Int) < (n : Int) := by omega
    have h3 : (16777216 : Int) ≤ (2 ^ 63 - 1) / (n : Int) := by
      rw [Int.le_ediv_iff_mul_le h0]
      omega
    omega
  · have le : z.length * (n : Int).toNat ≤ 16777216 := by
      rw [Int.toNat_natCast]
      exact hz1
    unfold Builtin.Str.tooLong
    exact decide_eq_false (by have : sizeLine = 16777216 := rfl; omega)
/-! a tuple turned about -/
theorem fm_congr {α β : Type} {f g : α → Option β} : ∀ {l : List α}, (∀ x ∈ l, f x = g x) → l.filterMap f = l.filterMap g
  | [], _ => rfl
  | x :: l, h => by
    rw [List.filterMap_cons, List.filterMap_cons, h x List.mem_cons_self, fm_congr fun y hy => h y (List.mem_cons_of_mem _ hy)]
section
variable {prog : Program} {w : World} {A : Around} {E : Value → Shared → Prop} {s : Shared}
theorem getItem_back {t sl : Addr} {its : Array Value} {vl vu vs : Value} {Q : Value → Shared → Prop} (ht : IsTup s.heap t its) (hz : its.size ≤ sizeLine) (hs : s.heap.IsSliceOf sl vl vu vs) (pl : IsPart vl none) (pu : IsPart vu none) (ps : IsPart vs (some (-1)))
    (h : Q (.ref s.heap.objs.size) { s with heap := s.heap.push { cls := .type "tuple", data := .seq its.toList.reverse.toArray } }) : wpAny (model prog w) A (getItem (.ref t) (.ref sl)) Q E s := by
  have htake : sizeOk (.seq its.toList.reverse.toArray) := by
    show its.toList.reverse.toArray.size ≤ sizeLine
    simpa using hz
  obtain ⟨os, hos, hcs, hds⟩ := id hs
  have hTs : s.TypeIs (.ref sl) "slice" := ⟨os, hos, hcs⟩
  unfold getItem
  try with_reducible refine wpAny_holding ?_
  first | refine wpAny_bind (wpAny_pure ?_) | skip
  refine wpAny_bind (wpAny_sequenceKey ht.typeIs (by decide) ?_)
  refine wpAny_bind (wpAny_callSpecial?_slot (name := Str.ofString "__getitem__") ht.typeIs PyProof.Rows.slot_tuple_getitem
    (wpAny_call_entry PyProof.Rows.slot_tuple_getitem ht.typeIs entry_tuple_getitem ?_ (args_tuple_getitem _ _)))
  show wpAny _ _ (Builtin.Tuple.tupleItemsOf (.ref t) >>= _) _ _ s
  refine wpAny_bind (tupleItemsOf_ ht ?_)
  refine wpAny_bind (wpAny_typeOf hTs ?_)
  rw [if_pos (by decide)]
  refine wpAny_bind ?_
  unfold Builtin.Slice.sliceApplied Builtin.Slice.sliceFields
  refine wpAny_bind (wpAny_bind (wpAny_field hos hds (x := vl) rfl (wpAny_bind (wpAny_field hos hds (x := vu) rfl (wpAny_bind (wpAny_field hos hds (x := vs) rfl (wpAny_pure ?_)))))))
  refine wpAny_bind (HT.slicePart_ ps ?_)
  show wpAny _ _ (if ((-1 : Int) == 0) = true then _ else _) _ _ s
  rw [if_neg (by decide)]
  refine wpAny_bind (HT.slicePart_ pl (wpAny_bind (HT.slicePart_ pu (wpAny_bind (wpAny_pure ?_)))))
  refine wpAny_pure ?_
  have en : Builtin.Slice.slicePlaces ((its.size : Int) - 1) (-1) (-1) = its.size := by
    unfold Builtin.Slice.slicePlaces
    simp only [show ¬ ((-1 : Int) > 0) by decide, if_false, show (- -1 : Int) = 1 by decide, Int.ediv_one]
    split <;> omega
  show wpAny _ _ (if ((((its.size : Int) - 1) == 0 && (-1 : Int) == 1 && Builtin.Slice.slicePlaces ((its.size : Int) - 1) (-1) (-1) == its.size) = true) then _ else _) _ _ s
  rw [if_neg (by simp)]
  generalize hA : (List.filterMap _ (List.range _)).toArray = arr
  have hA' : (List.filterMap (fun k : Nat => its[(((its.size : Int) - 1) + (k : Int) * (-1)).toNat]?) (List.range (Builtin.Slice.slicePlaces ((its.size : Int) - 1) (-1) (-1)))).toArray = arr := hA
  have eA : arr = its.toList.reverse.toArray := by
    rw [← hA', en]
    have e : List.filterMap (fun k : Nat => its[(((its.size : Int) - 1) + (k : Int) * (-1)).toNat]?) (List.range its.size) = List.filterMap (its[·]?) ((List.range its.size).map fun k => its.size - 1 - k) := by
      rw [List.filterMap_map]
      refine fm_congr fun k hk => ?_
      have := List.mem_range.mp hk
      show its[(((its.size : Int) - 1) + (k : Int) * (-1)).toNat]? = its[its.size - 1 - k]?
      have e2 : (((its.size : Int) - 1) + (k : Int) * (-1)).toNat = its.size - 1 - k := by omega
      rw [e2]
    rw [e, PySem.W.krv_range, List.filterMap_reverse, PySem.W.krv_all]
  subst eA
  show wpAny _ _ (Builtin.Tuple.tupleExact its.toList.reverse.toArray >>= fun v => ret v) _ _ s
  first
    | exact wpAny_bind (m := Builtin.Tuple.tupleExact _) (wpAny_newObj_type (wpAny_pure ⟨_, rfl, wpAny_pure h⟩) htake)
    | exact wpAny_bind (m := Builtin.Tuple.tupleExact _) (wpAny_newObj_type (wpAny_bind (wpAny_pure (wpAny_pure ⟨_, rfl, wpAny_pure h⟩))) htake)
end
section
variable {X : Cx}
def tRevT (K : PySem.W.Frag) (te : TE) : TE := fun σ H Q => te σ H fun x H1 => ∃ (a : Addr) (xs : List V), x = .ref a ∧ SqT K H1 a xs ∧ ∀ p, H1 p = none → Q (.ref p) (upd H1 p (.tup xs.reverse))
theorem pe_revT {e : Expr} {te : TE} {k : Nat} {p1 p2 p3 pos : Pos} (he : PE X e te) : PE X (.Subscript e (.Slice none none (some (.UnaryOp .USub (.Constant (.int 1) k p1) p2)) p3) pos) (tRevT X.K te) := by
  refine ⟨fun pins s σ H Q I h => ?_⟩
  refine Subscript_ (thn (he.run pins s σ H _ I h) fun v s1 ⟨x, H1, I1, r1, q1⟩ => ?_)
  obtain ⟨a, xs, ex, hx, q⟩ := q1
  subst ex
  cases r1
  have hst : PO X (some (.UnaryOp .USub (.Constant (.int 1) k p1) p2)) (tPart (tUn (rU fun i => .int (-i)) (tC (.int 1)))) := po_some (pe_un un_neg pe_int)
  refine wpAny_Slice (thn (po_none.run pins s1 σ H1 (fun o H2 => o = none ∧ H2 = H1) I1 ⟨rfl, rfl⟩) fun vl s2 ⟨l, H2, I2, pl, el, e2⟩ => ?_)
  subst el e2
  refine thn (po_none.run pins s2 σ H2 (fun o H3 => o = none ∧ H3 = H2) I2 ⟨rfl, rfl⟩) fun vu s3 ⟨u, H3, I3, pu, eu, e3⟩ => ?_
  subst eu e3
  refine thn (hst.run pins s3 σ H3 (fun o H4 => o = some (-1) ∧ H4 = H3) I3 ⟨1, rfl, -1, rfl, rfl, rfl⟩) fun vs s4 ⟨o, H4, I4, ps, eo, e4⟩ => ?_
  subst eo e4
  have I5 : Inv X pins σ H4 { s4 with heap := s4.heap.push { cls := .type "slice", data := .fields #[vl, vu, vs] } } := I4.kept (t' := s4.toks) fun b ob q => Heap.get?_push_of_some _ q
  obtain ⟨its, r, ht, hz⟩ := I5.tuple hx
  have lr := r.length
  show wpAny (model X.prog X.w) X.A (subscriptTail e (.Slice none none (some (.UnaryOp .USub (.Constant (.int 1) k p1) p2)) p3) (.ref a) (.ref s4.heap.objs.size)) (EP X pins σ Q) X.xe { s4 with heap := s4.heap.push { cls := .type "slice", data := .fields #[vl, vu, vs] } }
  refine tail_any (ops := [.ref a, .ref s4.heap.objs.size]) ht.typeIs (PyProof.Rows.slot_tuple_getitem.lookup) ?_ (by with_unfolding_all rfl)
  refine getItem_back ht (by rw [List.size_toArray]; omega) (Heap.IsSliceOf.new _ vl vu vs) pl pu ps ?_
  refine ⟨.ref _, _, I5.laid (t' := s4.toks) (o := .tup xs.reverse) (fun b ob q => Heap.get?_push_of_some _ q) (Nat.le_refl _) ?_, rfl, q _ (I5.hok.fresh (Nat.le_refl _))⟩
  exact ⟨by rw [List.length_reverse]; exact hz, its.reverse, r.reverse, IsTup.new _ _⟩
end
/-! a list == the empty list -/
def rEqL0 (K : PySem.W.Frag) : R2 := fun x y H Q => ∃ (a b : Addr) (xs : List V), x = .ref a ∧ y = .ref b ∧ SqL K H a xs ∧ SqL K H b [] ∧ Q (.bl xs.isEmpty) H
theorem op_eqL0 {X : Cx} (hu : X.A.units + 64 < cLine) : OpR X (compareOp .Eq) (rEqL0 X.K) := by
  intro pins s σ H x y v u Q I rx ry h
  obtain ⟨a, b, xs, rfl, rfl, ha, hb, q⟩ := h
  cases rx
  cases ry
  obtain ⟨is, r1, ⟨o1, n1, h1, c1, _, d1⟩, _⟩ := I.list ha
  obtain ⟨js, r2, ⟨o2, n2, h2, c2, _, d2⟩, _⟩ := I.list hb
  cases r2
  cases r1 with
  | nil => exact PySem.SeqAt.eq_listAt (e := fun _ => true) ⟨o1, h1, c1, n1, d1⟩ ⟨o2, h2, c2, n2, d2⟩ rfl (by omega) (fun j j1 _ => absurd j1 (Nat.not_lt_zero _)) ⟨.bl true, H, I, rfl, q⟩
  | cons r t => exact PySem.SeqAt.eq_list_lengthsAt ⟨o1, h1, c1, n1, d1⟩ ⟨o2, h2, c2, n2, d2⟩ (by simp) (by omega) ⟨.bl false, H, I, rfl, q⟩
end Kv

/-! enumerate of a tuple -/
namespace PySem
open Sem (wp)
open AutoSeq1 (wpAny_loadPart')
theorem enumT_new (l : Addr) (its : Array Value) :
    Meets (Builtin.«enumerate.__new__» ⟨[.type "enumerate", .ref l], []⟩) (fun _ R s => s.heap.IsTuple l its ∧
      R (.ok (.ret (.ref (s.heap.push { cls := .type "tuple_iterator", data := .fields #[.ref l, .int 0 0] }).objs.size)))
        { s with heap := (s.heap.push { cls := .type "tuple_iterator", data := .fields #[.ref l, .int 0 0] }).push { cls := .type "enumerate", data := .fields #[.none, .bool false, .ref s.heap.objs.size, rawInt 0, .none, .none] } }) :=
  .of_wp fun prog w A R s h => by
    obtain ⟨hp, g, d, tk, os⟩ := s
    obtain ⟨hT, h⟩ := h
    obtain ⟨o, ho, hc, n, hd⟩ := id hT
    have ff := sub_enumerate
    wp_walk using wpAny_loadPart' ho
    refine wpAny_stack_any fun st => wpAny_pure ?_
    split
    · rename_i c _ _ _ _ _
      cases (c == Value.type "enumerate")
      · wp_walk using wpAny_loadPart' ho, wpAny_pyIter_tuple hT
        exact ⟨_, rfl, h⟩
      · wp_walk using wpAny_loadPart' ho, wpAny_pyIter_tuple hT
        exact ⟨_, rfl, h⟩
    · wp_walk using wpAny_loadPart' ho, wpAny_pyIter_tuple hT
      exact ⟨_, rfl, h⟩
end PySem
namespace Kv
open PySem PySem.Spec PyProof.Rows L2 Kf
/-- the tuple at a, each item in a new pair -/
def IteT (K : PySem.W.Frag) (a : Addr) : It where
  go := fun i H => ∃ (xs : List V) (x : V), SqT K H a xs ∧ xs[i]? = some x
  yld := fun i H v G => ∃ T x, v = .ref T ∧ H T = none ∧ G = upd H T (.tup [.int (i : Nat), x]) ∧ ∀ xs, SqT K H a xs → xs[i]? = some x
  stop := fun i H => ∃ xs : List V, SqT K H a xs ∧ xs.length ≤ i
theorem turn_enumT {P : Program} {w : World} {K : PySem.W.Frag} {elts : List Expr} {kk : Nat} {tpos : Pos} (a e it : Addr) :
    Turn P w K (.Tuple elts kk tpos) (IteT K a) [e, it] e (fun i h => (∃ old, IsEnum h e it ((i : Nat) : Int) old) ∧ h.IsTupleIter it a i ∧ e ≠ it) where
  mem := by simp
  obj := by
    intro i h st b hb
    obtain ⟨⟨old, he⟩, ⟨o, ho, hc, hd⟩, _⟩ := st
    rcases (by simpa using hb : b = e ∨ b = it) with rfl | rfl
    · exact ⟨_, he, fun v q => nomatch q⟩
    · exact ⟨o, ho, fun v q => by rw [hd] at q; cases q⟩
  keep := fun i h h' st k => let ⟨⟨old, he⟩, hi, hne⟩ := st; ⟨⟨old, k e (by simp) _ he⟩, hi.at fun o q => k it (by simp) o q, hne⟩
  item := by
    intro X hP hw hK hc i pins s σ H E I hf st hg
    subst hP hw hK
    obtain ⟨⟨old, he⟩, hit, hne⟩ := st
    obtain ⟨xs, x, hq, hx⟩ := hg
    obtain ⟨its, rv, tp, hz⟩ := I.tuple hq
    obtain ⟨u, hu, ru⟩ := rv.get hx
    obtain ⟨oi, hoi, hci, hdi⟩ := id hit
    obtain ⟨ot, hot, hct, nt, hdt⟩ := id tp
    have lt : i < its.length := (List.getElem?_eq_some_iff.mp hu).1
    have ai : a ≠ it := fun z => by
      rw [z, hoi] at hot
      cases hot
      rw [hci] at hct
      exact absurd (Value.type.inj hct) (by decide)
    have ea : e ≠ a := fun z => by
      rw [← z, he] at hot
      cases hot
      exact absurd (Value.type.inj hct) (by decide)
    have hel : e < s.heap.objs.size := Heap.lt_size he
    have hil : it < s.heap.objs.size := Heap.lt_size hoi
    refine wpAny_pyNext_enum_itemD (Draws.tuple (A := X.A.in1) (I.ok.hd hc) it a ai its.toArray) he ⟨hit, ⟨ot, hot, hct, nt, hdt⟩⟩ (by simpa using lt) hne (by simp [hne, ea]) ?_
    intro u' h1 tk hu' ho hst hT hsz hk
    have eu : u' = u := by
      have z : its[i]? = some u' := by simpa using hu'
      rw [hu] at z
      exact (Option.some.inj z).symm
    subst eu
    refine ⟨_, rfl, wpAny_letOwnedTupleGo_enum (s := { s with heap := h1, toks := tk + 1 }) ho ?_⟩
    intro h2 he' sb
    have hT2 : h2.get? s.heap.objs.size = some { cls := .type "tuple", data := .seq #[.int i tk, u'] } := (sb.2 _ (Nat.ne_of_gt hel)).trans hT
    have new : ObjOk X.prog X.w (upd H s.heap.objs.size (.tup [.int (i : Nat), x])) h2 s.heap.objs.size (.tup [.int (i : Nat), x]) := ⟨by show 2 ≤ sizeLine; decide, [.int i tk, u'], .cons ⟨_, rfl⟩ (.cons ru .nil), ⟨_, hT2, rfl, _, rfl⟩⟩
    have J : Inv X pins σ (upd H s.heap.objs.size (.tup [.int (i : Nat), x])) { s with heap := h2, toks := tk + 1 } :=
      I.turnedNew (ch := [e, it]) (fun b ob hb q => (sb.2 b (fun z => hb (by simp [z]))).trans (hk b ob (fun z => hb (by simp [z])) (fun z => hb (by simp [z])) q)) hf (Nat.le_refl _) new
    refine ⟨.ref s.heap.objs.size, _, J, rfl, ⟨_, x, rfl, I.hok.fresh (Nat.le_refl _), rfl, fun ys hy => by rw [I.tuple_inj hy hq]; exact hx⟩, ⟨⟨u', ?_⟩, hst.1.at fun o q => (sb.2 it (Ne.symm hne)).trans q, hne⟩, fun b hb => ?_⟩
    · rw [show ((i + 1 : Nat) : Int) = (i : Int) + 1 by omega]
      exact he'
    · have lb : b < s.heap.objs.size := by
        rcases (by simpa using hb : b = e ∨ b = it) with rfl | rfl
        · exact hel
        · exact hil
      rw [upd_ne (Nat.ne_of_lt lb)]
      exact (hf b hb).1
  done := by
    intro X hP hw hK hc i pins s σ H E I hf st hg
    subst hP hw hK
    obtain ⟨⟨old, he⟩, hit, hne⟩ := st
    obtain ⟨xs, hq, hx⟩ := hg
    obtain ⟨its, rv, tp, hz⟩ := I.tuple hq
    obtain ⟨oi, hoi, hci, hdi⟩ := id hit
    obtain ⟨ot, hot, hct, nt, hdt⟩ := id tp
    have ai : a ≠ it := fun z => by
      rw [z, hoi] at hot
      cases hot
      rw [hci] at hct
      exact absurd (Value.type.inj hct) (by decide)
    obtain ⟨f0, f1, f2, f3, f4, f5⟩ := hf it (by simp)
    have hl := rv.length
    have none : its.toArray[i]? = none := by
      rw [List.getElem?_toArray]
      exact List.getElem?_eq_none (by omega)
    have D : Draws X.prog X.w X.A.in1 it [it, a] i (fun _ _ => True) (fun j h => j = i ∧ h.IsTupleIter it a i ∧ h.IsTuple a its.toArray) :=
      { live := fun _ _ st => let ⟨o, ho, _⟩ := st.2.1; ⟨o, ho⟩
        frame := fun _ _ _ st hk => ⟨st.1, st.2.1.at fun o e => hk it (by simp) o e, st.2.2.at fun o e => hk a (by simp) o e⟩
        item := fun j s Q E hj st _ => absurd st.1 (Nat.ne_of_lt hj)
        done := fun s Q E st hE => wpAny_nextOf_tuple_end (I.ok.hd hc) st.2.1 st.2.2 none hE }
    exact wpAny_pyNext_enum_endD D he ⟨rfl, hit, ⟨ot, hot, hct, nt, hdt⟩⟩ fun h1 eb => ⟨rfl, I.turned (t' := s.toks) (fun b o hb q => eb b o hb q) f0 f1 f3 f4 f5⟩
  self := fun A i s Q E st h => let ⟨⟨_, he⟩, _⟩ := st; wpAny_pyIter_enum he h
def iEnumT (K : PySem.W.Frag) (ta : TA) : TI := fun σ H R => ta σ H fun vs G => ∃ (a : Addr) (xs : List V), vs = [.ref a] ∧ SqT K G a xs ∧ R (IteT K a) G
theorem pi_enumT {X : Cx} {e : Expr} {ta : TA} {p pos tpos : Pos} {elts : List Expr} {kk : Nat} (hg : Gl X "enumerate") (hm : X.mg "enumerate" = none) (ha : PA X [e] ta) (hs : starEach [e] X.env = [(false, eval e X.env)] := by rfl) :
    PI X (.Tuple elts kk tpos) (.Call (.Name "enumerate" p) [e] [] pos) (iEnumT X.K ta) := by
  constructor
  intro pins s σ H R I h
  refine Call_ (ld_blt I hg hm boot_enumerate (PyProof.Rows.callWith_type1 (thn (ha.run pos pins s σ H _ I h) ?_) hs rfl))
  rintro us s1 ⟨vs, G, J, r, a, xs, rfl, hq, q⟩
  rw [Vals.ref1 r]
  obtain ⟨its, rv, tp, hz⟩ := J.tuple hq
  have IT : s1.heap.IsTuple a its.toArray := let ⟨o, ho, hc, n, hd⟩ := tp; ⟨o, ho, hc, n, hd⟩
  have sz1 : (s1.heap.push { cls := .type "tuple_iterator", data := .fields #[.ref a, .int 0 0] }).objs.size = s1.heap.objs.size + 1 := Heap.size_push ..
  refine callType_new F.called_enumerate (by decide) (F.typeCall_enumerate_1 _) (F.newCall_enumerate_1 _) (fun obj => F.args_object_init_2 obj _) F.entry_enumerate_new (enumT_new a its.toArray) ⟨IT, ?_⟩
  show _ ∧ _
  rw [sz1]
  have he := Heap.get?_push_size (s1.heap.push { cls := .type "tuple_iterator", data := .fields #[.ref a, .int 0 0] }) (o := { cls := .type "enumerate", data := .fields #[.none, .bool false, .ref s1.heap.objs.size, rawInt 0, .none, .none] }) rfl
  rw [sz1] at he
  refine ⟨⟨_, he, rfl⟩, wpAny_pyIter_enum he ?_⟩
  have J2 := J.kept (h' := (s1.heap.push { cls := .type "tuple_iterator", data := .fields #[.ref a, .int 0 0] }).push { cls := .type "enumerate", data := .fields #[.none, .bool false, .ref s1.heap.objs.size, rawInt 0, .none, .none] }) (t' := s1.toks) (fun b o x => Heap.get?_push_of_some _ (Heap.get?_push_of_some _ x))
  refine ⟨s1.heap.objs.size + 1, [s1.heap.objs.size + 1, s1.heap.objs.size], _, _, G, rfl, J2, turn_enumT a (s1.heap.objs.size + 1) s1.heap.objs.size, ⟨⟨.none, he⟩, ⟨_, Heap.get?_push_of_some _ (Heap.get?_push_size _ rfl), rfl, rfl⟩, Nat.succ_ne_self _⟩, fun b hb => ?_, q⟩
  have le : s1.heap.objs.size ≤ b := by
    rcases (by simpa using hb : b = s1.heap.objs.size + 1 ∨ b = s1.heap.objs.size) with rfl | rfl
    · exact Nat.le_add_right _ _
    · exact Nat.le_refl _
  exact J.fpOk le (J.hok.fresh le)
theorem walk_enumT {K : PySem.W.Frag} {a : Addr} {xs : List V} : Walk (IteT K a) xs.length (fun H => SqT K H a xs) (YPair (fun i => some (.int (i : Nat))) (fun i => xs[i]?)) := by
  refine ⟨fun i _ hi q => ⟨xs, xs[i], q, by simp [hi]⟩, fun _ q => ⟨xs, q, Nat.le_refl _⟩, fun i H v G _ q y => ?_⟩
  obtain ⟨T, x, h1, h2, h3, h4⟩ := y
  exact ⟨T, .int (i : Nat), x, h1, h2, h3, rfl, h4 xs q⟩
end Kv

/-! a thing of anything == a text -/
namespace PySem.SeqAt
theorem sub_str_dic : isSubtype (.type "str") (.type "dict") = pure false := by kernel_rfl
theorem dic_declines (l : Addr) (es : Array DictEntry) (n : Nat) (dd : Option Addr) (sl : Array (Option Value)) (b : Str) (u : Tok) :
    Meets (Builtin.«dict.__eq__» ⟨[.ref l, .str b u], []⟩) (fun _ R s => s.heap.get? l = some { cls := .type "dict", dict := dd, data := .dict es n, slots := sl } ∧ R (.ok (.ret .notImplemented)) s) :=
  .of_wp fun prog w A R s h => by
    obtain ⟨hp, g, d, tk, os⟩ := s
    obtain ⟨hl, h⟩ := h
    have f1 := sub_str_dic
    wp_walk using AutoSeq1.wpAny_loadPart' hl
    exact ⟨_, rfl, h⟩
theorem str_declines_dic (b : Str) (u : Tok) (l : Addr) (es : Array DictEntry) (n : Nat) (dd : Option Addr) (sl : Array (Option Value)) :
    Meets (Builtin.«str.__eq__» ⟨[.str b u, .ref l], []⟩) (fun _ R s => s.heap.get? l = some { cls := .type "dict", dict := dd, data := .dict es n, slots := sl } ∧ R (.ok (.ret .notImplemented)) s) :=
  .of_wp fun prog w A R s h => by
    obtain ⟨hp, g, d, tk, os⟩ := s
    obtain ⟨hl, h⟩ := h
    wp_walk using AutoSeq1.wpAny_loadPart' hl, wpAny_load hl
    exact ⟨_, rfl, h⟩
theorem dic_str {A : Around} {s : Shared} {l : Addr} {o : Obj} {es : Array DictEntry} {n : Nat} (b : Str) (u : Tok) (ho : s.heap.get? l = some o) (hc : o.cls = .type "dict") (hd : o.data = .dict es n) (hu : A.units < cLine) : RcAt A s (.ref l) (.str b u) false := fun prog w E Q h => by
  obtain ⟨cls, dd, data, sl⟩ := o
  simp only at hc hd
  subst hc hd
  exact rc_eq_decline_or (k := false) ⟨_, ho, rfl⟩ (typeIs_str s b u) (by decide) sub_str_dic F.slot_dict_eq F.slot_str_eq_refl
    (fun _ hq => call_meets F.slot_dict_eq ⟨_, ho, rfl⟩ F.entry_dict_eq (F.args_dict_eq_2 _ _) (dic_declines l es n dd sl b u) ⟨ho, hq⟩)
    (fun _ hq => call_meets F.slot_str_eq_refl (typeIs_str s b u) F.entry_str_eq (F.args_str_eq_2 _ _) (str_declines_dic b u l es n dd sl) ⟨ho, hq⟩)
    (fun _ hq => wpAny_of_eq (rfl : isSame (.ref l) (.str b u) = pure false) hq) (.inr hu) h
end PySem.SeqAt
namespace Kv
open PySem PySem.Spec PyProof.Rows L2 Kf
def Dt.isS (x : Dt) (z : Str) : Bool := match x with
  | .str y => decide (y = z)
  | _ => false
def rEqUS : R2 := fun x y H Q => ∃ (d : Dt) (z : Str), Dd Any H d x ∧ y = .str z ∧ Q (.bl (d.isS z)) H
theorem op_eqUS {X : Cx} (hu : X.A.units + 64 < cLine) : OpR X (compareOp .Eq) rEqUS := by
  intro pins s σ H x y v u Q I rx ry h
  obtain ⟨d, z, hd, rfl, q⟩ := h
  obtain ⟨t2, rfl⟩ := ry
  have no : d.isS z = false → EP X pins σ Q (.bool false) s := fun e => by
    rw [e] at q
    exact ⟨.bl false, H, I, rfl, q⟩
  cases hd with
  | non =>
    cases rx
    exact SeqAt.RcAt.none_str z t2 _ _ _ _ (no rfl)
  | bl b =>
    cases rx
    exact SeqAt.RcAt.bool_str b z t2 _ _ _ _ (no rfl)
  | int i =>
    obtain ⟨t1, rfl⟩ := rx
    exact SeqAt.RcAt.int_str i t1 z t2 _ _ _ _ (no rfl)
  | str y =>
    obtain ⟨t1, rfl⟩ := rx
    refine SeqAt.RcAt.str_str y t1 z t2 _ _ _ _ ?_
    have e : (y == z) = (Dt.str y).isS z := by
      show (y == z) = decide (y = z)
      by_cases c : y = z
      · subst c
        simp
      · rw [decide_eq_false c]
        exact beq_eq_false_iff_ne.mpr c
    rw [e]
    exact ⟨.bl _, H, I, rfl, q⟩
  | tup h t =>
    cases rx
    obtain ⟨its, rv, ⟨o, ho, hc, n, hd⟩, _⟩ := I.tuple (SqT.of h)
    exact SeqAt.RcAt.tuple_str z t2 ⟨o, ho, hc, n, hd⟩ (by omega) _ _ _ _ (no rfl)
  | lst _ h t =>
    cases rx
    obtain ⟨its, rv, ⟨o, n, ho, hc, _, hd⟩, _⟩ := I.list (SqL.of h)
    exact SeqAt.RcAt.list_str z t2 ⟨o, ho, hc, n, hd⟩ (by omega) _ _ _ _ (no rfl)
  | emp _ h =>
    cases rx
    obtain ⟨o, n, ho, hc, hd, _⟩ := emp_obj I h
    exact SeqAt.dic_str z t2 ho hc hd (by omega) _ _ _ _ (no rfl)
end Kv

/-! numbers and truths reckoned with; a thing is a truth; None among things -/
namespace Kv
open PySem PySem.Spec PyProof.Rows L2 Kf
/-- a number, or a truth as a number -/
def nu : V → Option Int
  | .int i => some i
  | .bl b => some (if b = true then (1 : Int) else 0)
  | _ => none
section
variable {X : Cx}
theorem op_addU : OpR X (binaryOp .Add) (fun x y H Q => ∃ i j, nu x = some i ∧ y = .int j ∧ Q (.int (i + j)) H) := by
  intro pins s σ H x y v u Q I rx ry h
  obtain ⟨i, j, hx, rfl, q⟩ := h
  obtain ⟨t2, rfl⟩ := ry
  cases x with
  | int a =>
    obtain ⟨t1, rfl⟩ := rx
    cases hx
    exact (op_add (X := X)) pins s σ H (.int i) (.int j) _ _ Q I ⟨t1, rfl⟩ ⟨t2, rfl⟩ ⟨i, j, rfl, rfl, q⟩
  | bl b =>
    cases rx
    cases hx
    exact PySem.IntBool.add_bool_int ⟨.int _, H, I.tok _, ⟨_, rfl⟩, q⟩
  | _ => cases hx
theorem op_subU : OpR X (binaryOp .Sub) (fun x y H Q => ∃ i j, nu x = some i ∧ y = .int j ∧ Q (.int (i - j)) H) := by
  intro pins s σ H x y v u Q I rx ry h
  obtain ⟨i, j, hx, rfl, q⟩ := h
  obtain ⟨t2, rfl⟩ := ry
  cases x with
  | int a =>
    obtain ⟨t1, rfl⟩ := rx
    cases hx
    exact (op_sub (X := X)) pins s σ H (.int i) (.int j) _ _ Q I ⟨t1, rfl⟩ ⟨t2, rfl⟩ ⟨i, j, rfl, rfl, q⟩
  | bl b =>
    cases rx
    cases hx
    exact PySem.IntBool.sub_bool_int ⟨.int _, H, I.tok _, ⟨_, rfl⟩, q⟩
  | _ => cases hx
theorem op_subV : OpR X (binaryOp .Sub) (fun x y H Q => ∃ i j, x = .int i ∧ nu y = some j ∧ Q (.int (i - j)) H) := by
  intro pins s σ H x y v u Q I rx ry h
  obtain ⟨i, j, rfl, hy, q⟩ := h
  obtain ⟨t1, rfl⟩ := rx
  cases y with
  | int a =>
    obtain ⟨t2, rfl⟩ := ry
    cases hy
    exact (op_sub (X := X)) pins s σ H (.int i) (.int j) _ _ Q I ⟨t1, rfl⟩ ⟨t2, rfl⟩ ⟨i, j, rfl, rfl, q⟩
  | bl b =>
    cases ry
    cases hy
    exact PySem.IntBool.sub_int_bool ⟨.int _, H, I.tok _, ⟨_, rfl⟩, q⟩
  | _ => cases hy
theorem op_eqU1 : OpR X (compareOp .Eq) (fun x y H Q => ∃ i j, nu x = some i ∧ y = .int j ∧ ∀ b : Bool, Q (.bl b) H) := by
  intro pins s σ H x y v u Q I rx ry h
  obtain ⟨i, j, hx, rfl, q⟩ := h
  obtain ⟨t2, rfl⟩ := ry
  cases x with
  | int a =>
    obtain ⟨t1, rfl⟩ := rx
    exact SeqAt.RcAt.int_int a t1 j t2 _ _ _ _ ⟨.bl _, H, I, rfl, q _⟩
  | bl b =>
    cases rx
    exact SeqAt.RcAt.bool_int b j t2 _ _ _ _ ⟨.bl _, H, I, rfl, q _⟩
  | _ => cases hx
theorem call_strU : CallR X (.type "str") (fun xs H Q => ∃ x i, xs = [x] ∧ nu x = some i ∧ i.natAbs < 10 ^ 45 ∧ ∀ z : Str, z.length ≤ 50 → (∀ c ∈ z.cps.toList, c < 16 ^ 8) → Q (.str z) H) := by
  intro pins s σ H xs us Q I r h
  obtain ⟨x, i, rfl, hx, hi, q⟩ := h
  obtain ⟨u, rfl, rx⟩ := vals1 r
  cases x with
  | int a =>
    obtain ⟨t, rfl⟩ := rx
    cases hx
    have hl : i.natAbs.log2 < 1920 := by
      by_cases z : i.natAbs = 0
      · rw [z]
        decide
      · have : i.natAbs.log2 < 150 := (Nat.log2_lt z).mpr (Nat.lt_of_lt_of_le hi (by decide))
        omega
    refine PySem.P.str_of_int hl ⟨.str _, H, I.tok _, ⟨_, rfl⟩, q _ ?_ ?_⟩
    · have z := int_text_length_le10 (a := i) (k := 45) (by decide) hi
      have e : (Str.ofString (toString i)).length = (toString i).length := PySem.ofString_length _
      show (Str.ofString (toString i)).length ≤ 50
      rw [e]
      omega
    · intro c hc
      have hc : c ∈ (Str.ofString (toString i)).cps.toList := hc
      rw [Str.ofString_eq_toList] at hc
      simp only [List.mem_map] at hc
      obtain ⟨ch, _, rfl⟩ := hc
      exact ch.val.toNat_lt
  | bl b =>
    cases rx
    refine PySem.P.str_of_bool ⟨.str _, H, I.tok _, ⟨_, rfl⟩, q _ ?_ ?_⟩
    · cases b <;> decide +kernel
    · cases b <;> decide +kernel
  | _ => cases hx
/-- a thing is this truth -/
def Dt.isB (x : Dt) (b : Bool) : Bool := match x with
  | .bl c => decide (c = b)
  | _ => false
theorem op_isU : OpR X (compareOp .Is) (fun x y H Q => ∃ (d : Dt) (b : Bool), Dd Any H d x ∧ y = .bl b ∧ Q (.bl (d.isB b)) H) := by
  intro pins s σ H x y v u Q I rx ry h
  obtain ⟨d, b, hd, rfl, q⟩ := h
  cases ry
  have no : d.isB b = false → EP X pins σ Q (.bool false) s := fun e => by
    rw [e] at q
    exact ⟨.bl false, H, I, rfl, q⟩
  cases hd with
  | non =>
    cases rx
    exact wpAny_is_other rfl (fun z => by cases z) (no rfl)
  | bl c =>
    cases rx
    by_cases e : c = b
    · subst e
      exact wpAny_is_self rfl ⟨.bl true, H, I, rfl, by simpa [Dt.isB] using q⟩
    · exact wpAny_is_other rfl (fun z => e (Value.bool.inj z)) (no (by simp [Dt.isB, e]))
  | int i =>
    obtain ⟨t1, rfl⟩ := rx
    exact wpAny_is_other rfl (fun z => by cases z) (no rfl)
  | str y =>
    obtain ⟨t1, rfl⟩ := rx
    exact wpAny_is_other rfl (fun z => by cases z) (no rfl)
  | tup h t =>
    cases rx
    exact wpAny_is_other rfl (fun z => by cases z) (no rfl)
  | lst _ h t =>
    cases rx
    exact wpAny_is_other rfl (fun z => by cases z) (no rfl)
  | emp _ h =>
    cases rx
    exact wpAny_is_other rfl (fun z => by cases z) (no rfl)
/-- None, a number, a truth, a tuple -/
def Plainy (H : Hp) (z : V) : Prop := z = .non ∨ (∃ i, z = .int i) ∨ (∃ b, z = .bl b) ∨ ∃ a xs, z = .ref a ∧ H a = some (.tup xs)
theorem isNone_pl {z : V} {u : Value} {H : Hp} (r : RelV z u) (f : Plainy H z) : PySem.Numpy.isNone u = isNon z := by
  rcases f with rfl | ⟨i, rfl⟩ | ⟨b, rfl⟩ | ⟨a, xs, rfl, _⟩
  · cases r; rfl
  · obtain ⟨t, rfl⟩ := r; rfl
  · cases r; rfl
  · cases r; rfl
theorem any_pl {H : Hp} : ∀ {xs : List V} {us : List Value}, Vals xs us → (∀ z ∈ xs, Plainy H z) → us.any PySem.Numpy.isNone = xs.any isNon
  | _, _, .nil, _ => rfl
  | y :: xs, u :: us, .cons r t, f => by
    rw [List.any_cons, List.any_cons, isNone_pl r (f y (List.mem_cons_self ..)), any_pl t fun z hz => f z (List.mem_cons_of_mem _ hz)]
theorem pl_eq {A : Around} {pins : List (Addr × Obj)} {σ : L2.St} {H : Hp} {s : Shared} (I : Inv X pins σ H s) (hu : A.units < cLine) {z : V} {u : Value} (r : RelV z u) (f : Plainy H z) : SeqAt.EqAt A s u .none (PySem.Numpy.isNone u) := by
  rcases f with rfl | ⟨i, rfl⟩ | ⟨b, rfl⟩ | ⟨a, xs, rfl, h⟩
  · cases r
    exact SeqAt.EqAt.same _
  · obtain ⟨t, rfl⟩ := r
    exact SeqAt.EqAt.int_none i t
  · cases r
    exact SeqAt.EqAt.bool_none b
  · cases r
    obtain ⟨its, rv, ⟨o, ho, hc, n, hd⟩, _⟩ := I.tuple (SqT.of h)
    exact SeqAt.EqAt.tuple_none ⟨o, ho, hc, n, hd⟩ hu
theorem mem_pl {A : Around} {pins : List (Addr × Obj)} {σ : L2.St} {H : Hp} {s : Shared} (I : Inv X pins σ H s) (hu : A.units < cLine) : ∀ {xs : List V} {us : List Value}, Vals xs us → (∀ z ∈ xs, Plainy H z) → ∀ u ∈ us, SeqAt.EqAt A s u .none (PySem.Numpy.isNone u)
  | _, _, .nil, _ => fun u hu' => by cases hu'
  | y :: xs, u :: us, .cons r t, f => fun u' hu' => by
    rcases List.mem_cons.mp hu' with e | hu'
    · subst e
      exact pl_eq I hu r (f y (List.mem_cons_self ..))
    · exact mem_pl I hu t (fun z hz => f z (List.mem_cons_of_mem _ hz)) u' hu'
def rNoneInU (K : PySem.W.Frag) : R2 := fun x y H Q => ∃ p xs, x = .non ∧ y = .ref p ∧ SqL K H p xs ∧ (∀ z ∈ xs, Plainy H z) ∧ Q (.bl (xs.any isNon)) H
theorem op_noneInU (hu : X.A.units + 64 < cLine) : OpR X (compareOp .In) (rNoneInU X.K) := by
  intro pins s σ H x y v u Q I rx ry h
  obtain ⟨p, xs, rfl, rfl, hq, f, q⟩ := h
  cases rx
  cases ry
  obtain ⟨its, rv, hl, _⟩ := I.list hq
  have hu1 : X.A.in1.units < cLine := by show X.A.units + 1 < cLine; omega
  refine SeqAt.in_listAt PySem.Numpy.isNone hl.isList (fun z hz => mem_pl I hu1 rv f z (by simpa using hz)) ⟨.bl _, H, I, rfl, ?_⟩
  rw [show its.toArray.any PySem.Numpy.isNone = its.any PySem.Numpy.isNone by simp, any_pl rv f]
  exact q
end
end Kv

/-! things of anything: how great they are -/
namespace Kv
open PySem PySem.Spec PyProof.Rows L2 Kf
mutual
def Dt.sz : Dt → Nat
  | .tup xs => 1 + Dt.szs xs
  | .lst xs => 1 + Dt.szs xs
  | _ => 1
def Dt.szs : List Dt → Nat
  | [] => 0
  | x :: xs => x.sz + Dt.szs xs
end
theorem sz_mem : ∀ {xs : List Dt} {x : Dt}, x ∈ xs → x.sz ≤ Dt.szs xs
  | y :: ys, x, h => by
    rcases List.mem_cons.mp h with rfl | h
    · exact Nat.le_add_right _ _
    · exact Nat.le_trans (sz_mem h) (Nat.le_add_left _ _)
theorem szs_app : ∀ (xs ys : List Dt), Dt.szs (xs ++ ys) = Dt.szs xs + Dt.szs ys
  | [], ys => by show _ = 0 + _; rw [Nat.zero_add]; rfl
  | x :: xs, ys => by
    show x.sz + Dt.szs (xs ++ ys) = x.sz + Dt.szs xs + Dt.szs ys
    rw [szs_app xs ys, Nat.add_assoc]
mutual
def Dt.dp : Dt → Nat
  | .tup xs => Dt.dps xs + 1
  | .lst xs => Dt.dps xs + 1
  | .emp => 1
  | _ => 0
def Dt.dps : List Dt → Nat
  | [] => 0
  | x :: xs => max x.dp (Dt.dps xs)
end
mutual
def Dt.wt : Dt → Nat
  | .non => 4
  | .bl _ => 5
  | .int _ => 52
  | .str x => 10 * x.length + 2
  | .tup xs => Dt.wts xs + 3
  | .lst xs => Dt.wts xs + 3
  | .emp => 2
def Dt.wts : List Dt → Nat
  | [] => 0
  | x :: xs => x.wt + 2 + Dt.wts xs
end
mutual
def Dt.fine (B : Nat) : Dt → Prop
  | .int i => i.natAbs < B
  | .str x => ∀ c ∈ x.cps.toList, c < 16 ^ 8
  | .tup xs => Dt.fines B xs
  | .lst xs => Dt.fines B xs
  | _ => True
def Dt.fines (B : Nat) : List Dt → Prop
  | [] => True
  | x :: xs => x.fine B ∧ Dt.fines B xs
end
mutual
theorem Dt.shw {B : Nat} (hB : B ≤ 10 ^ 45) : ∀ (x : Dt), x.fine B → x.toP.showable = true ∧ x.toP.depth = x.dp ∧ x.toP.shown.length ≤ x.wt
  | .non, _ => ⟨by simp [Dt.toP, PyData.showable], by simp [Dt.toP, PyData.depth, Dt.dp], by simp only [Dt.toP, PyData.shown, Dt.wt]; decide⟩
  | .bl b, _ => ⟨by simp [Dt.toP, PyData.showable], by simp [Dt.toP, PyData.depth, Dt.dp], by cases b <;> (simp only [Dt.toP, PyData.shown, Dt.wt]; decide)⟩
  | .int i, h => by
    have h : i.natAbs < B := by simpa only [Dt.fine] using h
    have h : i.natAbs < 10 ^ 45 := Nat.lt_of_lt_of_le h hB
    refine ⟨?_, by simp [Dt.toP, PyData.depth, Dt.dp], ?_⟩
    · simp only [Dt.toP, PyData.showable]
      refine decide_eq_true ?_
      by_cases z : i.natAbs = 0
      · rw [z]
        decide
      · have : i.natAbs.log2 < 150 := (Nat.log2_lt z).mpr (Nat.lt_of_lt_of_le h (by decide))
        omega
    · have z := int_text_length_le10 (a := i) (k := 45) (by decide) h
      simp only [Dt.toP, PyData.shown, Dt.wt]
      have e : (Str.ofString (toString i)).length = (toString i).length := PySem.ofString_length _
      rw [e]
      omega
  | .str x, h => by
    have h : ∀ c ∈ x.cps.toList, c < 16 ^ 8 := by simpa only [Dt.fine] using h
    exact ⟨by simp [Dt.toP, PyData.showable], by simp [Dt.toP, PyData.depth, Dt.dp], by simp only [Dt.toP, PyData.shown, Dt.wt]; exact PySem.StrLaws.reprText_len x h⟩
  | .tup xs, h => by
    obtain ⟨a, b, c⟩ := Dt.shws hB xs (by simpa only [Dt.fine] using h)
    refine ⟨by simpa only [Dt.toP, PyData.showable] using a, by simp only [Dt.toP, PyData.depth, Dt.dp]; omega, ?_⟩
    simp only [Dt.toP, PyData.shown, Dt.wt]
    have := tupleText_len_le (PyData.shownAll (Dt.toPs xs))
    omega
  | .lst xs, h => by
    obtain ⟨a, b, c⟩ := Dt.shws hB xs (by simpa only [Dt.fine] using h)
    refine ⟨by simpa only [Dt.toP, PyData.showable] using a, by simp only [Dt.toP, PyData.depth, Dt.dp]; omega, ?_⟩
    simp only [Dt.toP, PyData.shown, Dt.wt]
    have := listText_len_le (PyData.shownAll (Dt.toPs xs))
    omega
  | .emp, _ => ⟨by simp [Dt.toP, PyData.showable, PyData.showableKv], by simp [Dt.toP, PyData.depth, PyData.depthKv, Dt.dp], by simp only [Dt.toP, PyData.shown, PyData.shownKv, Dt.wt]; decide⟩
theorem Dt.shws {B : Nat} (hB : B ≤ 10 ^ 45) : ∀ (xs : List Dt), Dt.fines B xs → PyData.showableAll (Dt.toPs xs) = true ∧ PyData.depthAll (Dt.toPs xs) = Dt.dps xs ∧ ((PyData.shownAll (Dt.toPs xs)).map (·.length)).sum + 2 * (PyData.shownAll (Dt.toPs xs)).length ≤ Dt.wts xs
  | [], _ => ⟨by simp [Dt.toPs, PyData.showableAll], by simp [Dt.toPs, PyData.depthAll, Dt.dps], by simp [Dt.toPs, PyData.shownAll]⟩
  | x :: xs, h => by
    have h : x.fine B ∧ Dt.fines B xs := by simpa only [Dt.fines] using h
    obtain ⟨a, b, c⟩ := x.shw hB h.1
    obtain ⟨a', b', c'⟩ := Dt.shws hB xs h.2
    refine ⟨by simp [Dt.toPs, PyData.showableAll, a, a'], by simp [Dt.toPs, PyData.depthAll, Dt.dps, b, b'], ?_⟩
    simp only [Dt.toPs, PyData.shownAll, List.map_cons, List.sum_cons, List.length_cons, Dt.wts]
    omega
end
/-- it is fine, and within the bounds -/
structure Fine (B n W : Nat) (x : Dt) : Prop where
  ok : x.fine B
  dp : x.dp ≤ n
  wt : x.wt ≤ W
theorem Fine.shw {B n W : Nat} {x : Dt} (h : Fine B n W x) (hB : B ≤ 10 ^ 45) (hW : W ≤ sizeLine) : Shw n x := by
  obtain ⟨a, b, c⟩ := x.shw hB h.ok
  exact ⟨a, by rw [b]; exact h.dp, Nat.le_trans c (Nat.le_trans h.wt hW)⟩
mutual
theorem Dt.fine_up {B C : Nat} (h : B ≤ C) : ∀ {x : Dt}, x.fine B → x.fine C
  | .non, _ => by simp only [Dt.fine]
  | .bl _, _ => by simp only [Dt.fine]
  | .int i, f => by
    simp only [Dt.fine] at f ⊢
    omega
  | .str x, f => by
    simp only [Dt.fine] at f ⊢
    exact f
  | .tup xs, f => by
    simp only [Dt.fine] at f ⊢
    exact Dt.fines_up h f
  | .lst xs, f => by
    simp only [Dt.fine] at f ⊢
    exact Dt.fines_up h f
  | .emp, _ => by simp only [Dt.fine]
theorem Dt.fines_up {B C : Nat} (h : B ≤ C) : ∀ {xs : List Dt}, Dt.fines B xs → Dt.fines C xs
  | [], _ => by simp only [Dt.fines]
  | x :: xs, f => by
    simp only [Dt.fines] at f ⊢
    exact ⟨Dt.fine_up h f.1, Dt.fines_up h f.2⟩
end
theorem Fine.mono {A B n W m V : Nat} {x : Dt} (h : Fine A n W x) (ha : A ≤ B) (hn : n ≤ m) (hw : W ≤ V) : Fine B m V x := ⟨Dt.fine_up ha h.ok, Nat.le_trans h.dp hn, Nat.le_trans h.wt hw⟩
mutual
theorem Dt.sz_wt : ∀ x : Dt, x.sz ≤ x.wt
  | .non => by simp only [Dt.sz, Dt.wt]; omega
  | .bl _ => by simp only [Dt.sz, Dt.wt]; omega
  | .int _ => by simp only [Dt.sz, Dt.wt]; omega
  | .str _ => by simp only [Dt.sz, Dt.wt]; omega
  | .tup xs => by
    have := Dt.szs_wts xs
    simp only [Dt.sz, Dt.wt]
    omega
  | .lst xs => by
    have := Dt.szs_wts xs
    simp only [Dt.sz, Dt.wt]
    omega
  | .emp => by simp only [Dt.sz, Dt.wt]; omega
theorem Dt.szs_wts : ∀ xs : List Dt, Dt.szs xs ≤ Dt.wts xs
  | [] => by simp only [Dt.szs, Dt.wts]; omega
  | x :: xs => by
    have := x.sz_wt
    have := Dt.szs_wts xs
    simp only [Dt.szs, Dt.wts]
    omega
end
theorem len_szs : ∀ xs : List Dt, xs.length ≤ Dt.szs xs
  | [] => Nat.zero_le _
  | x :: xs => by
    have := len_szs xs
    have : 1 ≤ x.sz := by cases x <;> simp only [Dt.sz] <;> omega
    simp only [Dt.szs, List.length_cons]
    omega
theorem wts_app : ∀ (xs ys : List Dt), Dt.wts (xs ++ ys) = Dt.wts xs + Dt.wts ys
  | [], ys => by simp only [List.nil_append, Dt.wts]; omega
  | x :: xs, ys => by
    simp only [List.cons_append, Dt.wts]
    rw [wts_app xs ys]
    omega
theorem dps_app : ∀ (xs ys : List Dt), Dt.dps (xs ++ ys) = max (Dt.dps xs) (Dt.dps ys)
  | [], ys => by simp only [List.nil_append, Dt.dps]; omega
  | x :: xs, ys => by
    simp only [List.cons_append, Dt.dps]
    rw [dps_app xs ys]
    omega
theorem fines_app {B : Nat} : ∀ (xs ys : List Dt), Dt.fines B (xs ++ ys) ↔ Dt.fines B xs ∧ Dt.fines B ys
  | [], ys => by simp only [List.nil_append, Dt.fines, true_and]
  | x :: xs, ys => by
    simp only [List.cons_append, Dt.fines]
    rw [fines_app xs ys, and_assoc]
end Kv

/-! the end of a law whose defs show things -/
namespace Kf
open PySem PySem.Spec PyProof.Rows L2 LamX
/-- the heap at the law's call: the written part, the tables cs, the script -/
structure Beg (h : Heap) (K : PySem.W.Frag) (mg : Str → Option Value) (cs : List (Addr × Addr)) (a : Addr) (us : Array Value) : Prop where
  kin : K.In h
  gl : h.Ns mainGlobals mg
  bl : ∃ m, h.Ns builtinsNs m ∧ ∀ y : Str, y ≠ "__name__" → m y = bootBuiltins y
  nl : h.NoLimit
  tb : ∀ p ∈ cs, h.get? p.2 = some { cls := .none, data := .fields #[] }
  nk : ∀ p ∈ cs, K.lookup p.2 = none
  cd : ∀ p ∈ cs, PySem.W.CodeHd h p.1 p.2
  bm : ∃ (z : Addr) (q : Obj), mg "__builtins__" = some (.ref z) ∧ z ≠ builtinsNs ∧ h.get? z = some q ∧ q.cls = .type "module" ∧ q.dict = some builtinsNs ∧ q.data = .plain
  sc : h.get? a = some { cls := .type "list", data := .seq us }
/-- tracked are the tables, and perhaps the script -/
structure Fit (H : Hp) (K : PySem.W.Frag) (cs : List (Addr × Addr)) (a : Addr) : Prop where
  tb : ∀ p ∈ cs, H p.2 = some (.tbl #[])
  no : ∀ b u, H b = some u → (∃ p ∈ cs, p.2 = b ∧ u = .tbl #[]) ∨ (b = a ∧ K.lookup a = none ∧ ∃ o xs, u = .frz o (.lst xs))
section
variable {h : Heap} {K : PySem.W.Frag} {mg : Str → Option Value} {cs : List (Addr × Addr)} {a : Addr} {us : Array Value} {H : Hp}
theorem Fit.off (F : Fit H K cs a) (B : Beg h K mg cs a us) {b : Addr} {o : Obj} (e : h.get? b = some o) (n1 : ∀ vs n, o.data ≠ .seq vs n) (n2 : o.data ≠ .fields #[]) : H b = none := by
  match q : H b with
  | none => rfl
  | some u =>
    rcases F.no b u q with ⟨p, hp, rfl, _⟩ | ⟨rfl, _⟩
    · have z := (B.tb p hp).symm.trans e
      exact absurd (congrArg Obj.data (Option.some.inj z)).symm n2
    · have z := B.sc.symm.trans e
      exact absurd (congrArg Obj.data (Option.some.inj z)).symm (n1 _ _)
theorem Fit.dic (F : Fit H K cs a) (B : Beg h K mg cs a us) {b : Addr} {m : Str → Option Value} (N : h.Ns b m) : (hidT h H).Ns b m := by
  obtain ⟨o, es, n, e, d, r⟩ := N
  refine ⟨o, es, n, hidT_get e (F.off B e ?_ ?_), d, r⟩
  · intro vs k z
    rw [d] at z
    cases z
  · intro z
    rw [d] at z
    cases z
theorem Fit.kin (F : Fit H K cs a) (B : Beg h K mg cs a us) : K.In (hidT h H) := fun b o e => hidT_get (B.kin b o e) <| by
  match q : H b with
  | none => rfl
  | some u =>
    rcases F.no b u q with ⟨p, hp, rfl, _⟩ | ⟨rfl, n, _⟩
    · rw [B.nk p hp] at e
      cases e
    · rw [n] at e
      cases e
theorem Fit.mod (F : Fit H K cs a) (B : Beg h K mg cs a us) : L2.Mod K mg (hidT h H) := by
  obtain ⟨m, m1, m2⟩ := B.bl
  obtain ⟨c, c1, c2⟩ := B.nl
  exact ⟨F.kin B, F.dic B B.gl, ⟨m, F.dic B m1, m2⟩, ⟨c, F.dic B c1, c2⟩⟩
theorem Fit.tabs (F : Fit H K cs a) (B : Beg h K mg cs a us) : ∀ p ∈ cs, TabB (hidT h H) mg p.1 p.2 := by
  intro p hp
  have tp := B.tb p hp
  have gP : mainGlobals ≠ p.2 := by
    intro z
    obtain ⟨o, es, n, e, d, _⟩ := B.gl
    rw [z, tp] at e
    cases e
    cases d
  refine ⟨?_, ?_, gP⟩
  · obtain ⟨o, vs, fl, tf, fg, tg, iF, tx, tt, e, r1, r2, r3, r⟩ := B.cd p hp
    refine ⟨o, vs, fl, tf, fg, tg, iF, tx, tt, hidT_get e (F.off B e (fun vs n z => ?_) (fun z => ?_)), r1, r2, r3, r⟩
    · rw [r2] at z
      cases z
    · rw [r2] at z
      cases z
      simp at r3
  · obtain ⟨z, q, b1, b2, b3, b4, b5, b6⟩ := B.bm
    refine ⟨z, q, b1, b2, fun y => ?_, fun y => ?_, hidT_get b3 (F.off B b3 (fun vs n y => ?_) (fun y => ?_)), b4, b5, b6⟩
    · obtain ⟨o, es, n, e, d, _⟩ := B.gl
      rw [← y, b3] at e
      cases e
      rw [b6] at d
      cases d
    · rw [y, tp] at b3
      cases b3
      cases b6
    · rw [b6] at y
      cases y
    · rw [b6] at y
      cases y
/-- what stood stands, behind the call -/
theorem Fit.old (F : Fit H K cs a) (B : Beg h K mg cs a us) {P : Program} {w : World} {G : Hp} {h' : Heap} (U : Un [] [] H G h h') (o1 : HOk P w H h) (o2 : HOk P w G h') : OldK h h' := by
  have tab : ∀ p ∈ cs, ∃ m : Array Value, h'.get? p.2 = some { cls := .none, data := .fields m } := fun p hp => by
    obtain ⟨m, z⟩ := U.tbls p.2 #[] (F.tb p hp)
    exact ⟨_, o2 p.2 _ z⟩
  have rest : ∀ b o, h.get? b = some o → (∃ p ∈ cs, p.2 = b) ∨ h'.get? b = some o := fun b o e => by
    match q : H b with
    | none => exact .inr (U.keep b o e q (by simp) (by simp))
    | some u =>
      rcases F.no b u q with ⟨p, hp, z, _⟩ | ⟨_, _, ob, xs, rfl⟩
      · exact .inl ⟨p, hp, z⟩
      · have e1 := (o1 b _ q).1
        have e2 := (o2 b _ (U.frzs b ob _ q)).1
        rw [e] at e1
        cases e1
        exact .inr e2
  constructor
  · intro b o e
    rcases rest b o e with ⟨p, hp, rfl⟩ | z
    · obtain ⟨m, hm⟩ := tab p hp
      have tp := B.tb p hp
      rw [tp] at e
      cases e
      exact .inr (.inl ⟨((B.cd p hp).tab tp).isCodeTable, rfl, #[], m, rfl, by rw [Array.empty_append]; exact hm⟩)
    · exact .inl z
  · intro b o e
    rcases rest b o e with ⟨p, hp, rfl⟩ | z
    · obtain ⟨m, hm⟩ := tab p hp
      exact ⟨_, hm⟩
    · exact ⟨o, z⟩
end
/-- such a heap there is -/
theorem fit_of {h : Heap} {K : PySem.W.Frag} {mg : Str → Option Value} {cs : List (Addr × Addr)} {a : Addr} {vs : List Value} {ns : List Int} (P : Program) (w : World) (B : Beg h K mg cs a vs.toArray) (hi : IntsAre vs ns) (hl : ns.length ≤ sizeLine) :
    ∃ H : Hp, Fit H K cs a ∧ SqL K H a (ns.map V.int) ∧ HOk P w H h := by
  have lv := hi.length
  have isT : ∀ b, (∃ p ∈ cs, p.2 = b) → h.get? b = some { cls := .none, data := .fields #[] } := by
    rintro b ⟨p, hp, rfl⟩
    exact B.tb p hp
  have na : ¬ ∃ p ∈ cs, p.2 = a := fun z => by
    have y := congrArg Obj.data (Option.some.inj ((isT a z).symm.trans B.sc))
    cases y
  open Classical in
  let T : Hp := fun b => if ∃ p ∈ cs, p.2 = b then some (.tbl #[]) else none
  have Ty : ∀ p ∈ cs, T p.2 = some (.tbl #[]) := fun p hp => if_pos ⟨p, hp, rfl⟩
  have Tn : ∀ b u, T b = some u → (∃ p ∈ cs, p.2 = b) ∧ u = .tbl #[] := fun b u z => by
    by_cases c : ∃ p ∈ cs, p.2 = b
    · exact ⟨c, (Option.some.inj ((if_pos c).symm.trans z)).symm⟩
    · have y := (if_neg c).symm.trans z
      cases y
  match hk : K.lookup a with
  | some o =>
    have e := B.kin a o hk
    rw [B.sc] at e
    cases e
    refine ⟨T, ⟨Ty, fun b u z => ?_⟩, .inr ⟨_, vs.toArray, _, hk, rfl, rfl, rfl, by rw [List.size_toArray, lv]; exact hl, by simpa using vals_ints hi⟩, fun b u z => ?_⟩
    · obtain ⟨⟨p, hp, e⟩, e2⟩ := Tn b u z
      exact .inl ⟨p, hp, e, e2⟩
    · obtain ⟨c, rfl⟩ := Tn b u z
      exact isT b c
  | none =>
    refine ⟨upd T a (.frz { cls := .type "list", data := .seq vs.toArray } (.lst (ns.map V.int))), ⟨fun p hp => ?_, fun b u z => ?_⟩, .inl (.inr ⟨_, upd_same⟩), fun b u z => ?_⟩
    · rw [upd_ne (fun y => na ⟨p, hp, y⟩)]
      exact Ty p hp
    · by_cases c : b = a
      · subst c
        rw [upd_same] at z
        cases z
        exact .inr ⟨rfl, hk, _, _, rfl⟩
      · rw [upd_ne c] at z
        obtain ⟨⟨p, hp, e⟩, e2⟩ := Tn b u z
        exact .inl ⟨p, hp, e, e2⟩
    · by_cases c : b = a
      · subst c
        rw [upd_same] at z
        cases z
        exact ⟨B.sc, by rw [List.length_map]; exact hl, vs, _, vals_ints hi, B.sc⟩
      · rw [upd_ne c] at z
        obtain ⟨c, rfl⟩ := Tn b u z
        exact isT b c
/-- what is known of the law's promise at the head's heap -/
def LawG (l : PySem.W.OpenLaw) (w : World) (K : PySem.W.Frag) (CX : CXT) (k n : Nat) (x : Str) (mg : Str → Option Value) (fa : Addr) (h : Heap) : Prop :=
  ∃ (fd : FuncData) (cs : List (Addr × Addr)) (sp : Sp), (∀ p ∈ cs, h.get? p.2 = some { cls := .none, data := .fields #[] } ∧ K.lookup p.2 = none ∧ PySem.W.CodeHd h p.1 p.2) ∧ (∀ (s : Shared) (u : Value), BindsTo s fd ⟨[u], []⟩ [(x, u)]) ∧
    (∀ (H : Hp) (a : Addr) (ns : List Int), ns.length ≤ n → (∀ z ∈ ns, Builtin.Int.intBits z ≤ 1048576) → (∀ p ∈ cs, H p.2 = some (.tbl #[])) → SqL K H a (ns.map V.int) → sp [.ref a] H (fun v _ => v = .bl true) E0) ∧
    ∀ base : Heap, K.In base → base.Ns mainGlobals mg → (∀ p ∈ cs, TabB base mg p.1 p.2) → FnG l.prog w K mg base CX k fa fd [x] sp
/-- the end; names: the defs with generator expressions -/
theorem walk_ofG {l : PySem.W.OpenLaw} {n k : Nat} {q : Program} {loose : List Str} {XP : (Str → Option Value) → Heap → Prop} {YP : World → Heap → Prop} {d : DefRec} {K : Params → PySem.W.Frag} {CX : World → CXT} {x : Str}
    (hn : l.most = some n) (hz : n ≤ sizeLine) (hdf : d.params.defaults = []) (hr : Room k callerA) (hY : ∀ (w : World) (h : Heap), YP w h → (K w.params).In h)
    (F : ∀ (w : World) (mg : Str → Option Value) (fa : Addr) (h : Heap), YP w h → (K w.params).In h → h.Ns mainGlobals mg → mg d.name = some (.ref fa) →
      (∀ e ∈ recsOf q, ∃ (a : Addr) (o : Obj) (fd : FuncData) (c p : Addr), mg e.name = some (.ref a) ∧ h.get? a = some o ∧ o.data = .func fd ∧ fd.code = .ref c ∧ h.IsCode c p #[] ∧ h.TableAt c p #[]) → LawG l w (K w.params) (CX w) k n x mg fa h)
    (hX : ∀ (w : World) (H : Hp) (s : Shared) (e : Value) (t : Shared), CX w [] H s E0 e t → False) :
    PySem.W.WalkO q loose XP YP l.row.toRowW d [] (fun f vs => PySem.call f vs) := by
  refine Att.attach_callB hn hdf ?_
  intro w s₀ s mg mb fa o pm cd doc a vs ns G Y _ _ _ hmg ha hi hlen bits hg
  have KX := hY w _ Y
  obtain ⟨fd, cs, sp, tabs, bind, start, run⟩ := F w mg fa _ Y KX G.T.g hmg fun e he => G.T.tab e he
  have B : Beg s.heap (K w.params) mg cs a vs.toArray := ⟨KX, G.T.g, ⟨mb, G.T.b, G.T.builtins⟩, G.T.nolimit, fun p hp => (tabs p hp).1, fun p hp => (tabs p hp).2.1, fun p hp => (tabs p hp).2.2, G.T.bmain, ha⟩
  obtain ⟨H, Ft, sq, ok⟩ := fit_of l.prog w B hi (Nat.le_trans hlen hz)
  have e0 : Env0 l.prog w (K w.params) mg (hidT s.heap H) callerA [] s H := ⟨rfl, Ft.mod B, fun b u e => of_hidT e, Nat.le_of_eq (hidT_size _ _), trivial, by simp [frs], ok, .of_eq hg⟩
  refine codeAny_mono ((run _ (Ft.kin B) (Ft.dic B G.T.g) (Ft.tabs B)).go callerA [] s H ⟨[.ref a], []⟩ [.ref a] [.ref a] _ E0 rfl hr e0 (bind s (.ref a)) (.cons rfl .nil) (start H a ns hlen bits Ft.tb sq)) ?_
  intro r t z
  match r, z with
  | .error e, z => exact (hX w H s e t z).elim
  | .ok .next, z => exact z.elim
  | .ok .brk, z => exact z.elim
  | .ok .cont, z => exact z.elim
  | .ok (.ret u), ⟨v, G', os, bare, un, ok', rv, e⟩ =>
    have e : v = .bl true := e
    subst e
    obtain rfl : u = Value.bool true := rv
    exact ⟨rfl, Ft.old B un ok ok', os, bare⟩
end Kf

/-! the signs of a repr: texts of letters, tuples -/
namespace Kf
open PySem PySem.Spec PyProof.Rows L2 PySem.Builtin.Str
/-- of small letters alone -/
def Low (x : Str) : Prop := ∀ c ∈ x.cps.toList, 97 ≤ c ∧ c < 123
theorem ch_low : ∀ i : Fin 26, reprChar 39 (97 + i.val) = [97 + i.val] := by decide +kernel
theorem ch_low' {c : Nat} (h : 97 ≤ c ∧ c < 123) : reprChar 39 c = [c] := by
  have z := ch_low ⟨c - 97, by omega⟩
  have e : 97 + (c - 97) = c := by omega
  simp only [e] at z
  exact z
theorem fold_low : ∀ (l : List Nat) (acc : Array Nat), (∀ c ∈ l, 97 ≤ c ∧ c < 123) → (l.foldl (fun out c => out ++ (reprChar 39 c).toArray) acc).toList = acc.toList ++ l
  | [], acc, _ => by simp
  | c :: l, acc, h => by
    rw [List.foldl_cons, fold_low l _ fun d hd => h d (List.mem_cons_of_mem _ hd), ch_low' (h c List.mem_cons_self)]
    simp
theorem quote_low {x : Str} (h : Low x) : reprQuote x = 39 := by
  unfold reprQuote
  have e : x.cps.contains 39 = false := by
    rw [← Bool.not_eq_true]
    intro z
    have m : (39 : Nat) ∈ x.cps := by simpa using z
    have := h 39 (Array.mem_def.mp m)
    omega
  rw [e]
  rfl
theorem repr_low {x : Str} (h : Low x) : (reprText x).cps.toList = 39 :: (x.cps.toList ++ [39]) := by
  unfold reprText
  rw [quote_low h, ← Array.foldl_toList, Array.toList_push, fold_low _ _ h]
  rfl
theorem cnt_low {x : Str} (h : Low x) : cnt 40 (reprText x).cps.toList = 0 := by
  rw [repr_low h, cnt_cons, cnt_append]
  have z : ∀ l : List Nat, (∀ c ∈ l, 97 ≤ c ∧ c < 123) → cnt 40 l = 0 := by
    intro l
    induction l with
    | nil => intro _; rfl
    | cons c l ih =>
      intro h
      rw [cnt_cons, ih fun d hd => h d (List.mem_cons_of_mem _ hd)]
      have := h c List.mem_cons_self
      rw [if_neg (by omega)]
      rfl
  rw [z _ h]
  decide
theorem len_low {x : Str} (h : Low x) : (reprText x).length = x.cps.toList.length + 2 := by
  show (reprText x).cps.size = _
  rw [← Array.length_toList, repr_low h]
  simp
theorem cps_app (x y : Str) : (x ++ y).cps.toList = x.cps.toList ++ y.cps.toList := by
  show (x.cps ++ y.cps).toList = _
  rw [Array.toList_append]
theorem cnt_tup (ts : List Str) : cnt 40 (tupleText ts).cps.toList = 1 + (ts.map fun t => cnt 40 t.cps.toList).sum := by
  unfold tupleText
  rw [cps_app, cps_app, cnt_append, cnt_append, cnt_join_sum]
  have e1 : cnt 40 (("(" : Str)).cps.toList = 1 := by decide +kernel
  have e2 : cnt 40 ((", " : Str)).cps.toList = 0 := by decide +kernel
  have e3 : cnt 40 (((if ts.length == 1 then ",)" else ")" : String) : Str)).cps.toList = 0 := by split <;> decide +kernel
  rw [e1, e2, e3, Int.mul_zero]
  omega
theorem count_par (x : Str) : Txt.count x "(" = cnt 40 x.cps.toList := by
  have e : (("(" : String) : Str) = ⟨#[40]⟩ := by decide +kernel
  rw [e]
  exact count_cnt x 40
end Kf

namespace Kq
open PySem PySem.Spec PyProof.Rows L2 Kf Kg Kv GxR
/-! worths -/
def numD : Dt → Bool
  | .int i => decide (0 ≤ i)
  | _ => false
def look (sz : List (Str × Int)) (n : Str) : Int := match sz.find? (fun p => decide (p.1 = n)) with
  | some p => p.2
  | none => 0
/-- this word and so many parts behind it -/
def tagD (x : Dt) (z : Str) (m : Nat) : Bool := match x with
  | .tup (y :: ys) => decide (ys.length = m) && y.isS z
  | _ => false
/-- a part of a tuple -/
def pt (x : Dt) (i : Nat) : Dt := match x with
  | .tup xs => xs.getD i .non
  | _ => .non
def its : Dt → List Dt
  | .tup xs => xs
  | _ => []
def numB (m : Int) : Dt → Bool
  | .int i => decide (0 ≤ i) && decide (i < m)
  | _ => false
def wth (sz : List (Str × Int)) : Kd → Dt → Bool
  | .opn n, x => tagD x "thing" 2 && ((pt x 1).isS n && numB (look sz n) (pt x 2))
  | .num, x => numD x
  | .tru, x => x.isBl
  | .pair a b, x => tagD x "pair" 2 && (wth sz a (pt x 1) && wth sz b (pt x 2))
  | .eith a b, x => if tagD x "left" 1 then wth sz a (pt x 1) else tagD x "right" 1 && wth sz b (pt x 1)
  | .lst a, x => tagD x "list" 1 && ((pt x 1).isTup && (its (pt x 1)).all (wth sz a))
  | .fn _ _, _ => false
/-- the sizes stand at p -/
def Sz (H : Hp) (p : Addr) (sz : List (Str × Int)) : Prop := ∃ (o : Obj) (ps : List Addr), H p = some (.frz o (.tup (ps.map V.ref))) ∧ o.dict = none ∧ o.cls = .type "tuple" ∧ Paired (fun q (kv : Str × Int) => H q = some (.tup [.str kv.1, .int kv.2])) ps sz
theorem Paired.mono {α β : Type} {R S : α → β → Prop} (h : ∀ a b, R a b → S a b) : ∀ {l : List α} {m : List β}, Paired R l m → Paired S l m
  | _, _, .nil => .nil
  | _, _, .cons r t => .cons (h _ _ r) (Paired.mono h t)
theorem Paired.snoc {α β : Type} {R : α → β → Prop} : ∀ {l : List α} {m : List β} {a : α} {b : β}, Paired R l m → R a b → Paired R (l ++ [a]) (m ++ [b])
  | _, _, _, _, .nil, h => .cons h .nil
  | _, _, _, _, .cons h t, k => .cons h (Paired.snoc t k)
theorem Paired.len {α β : Type} {R : α → β → Prop} : ∀ {l : List α} {m : List β}, Paired R l m → l.length = m.length
  | _, _, .nil => rfl
  | _, _, .cons _ t => congrArg (· + 1) (Paired.len t)
theorem Paired.at {α β : Type} {R : α → β → Prop} : ∀ {l : List α} {m : List β} {i : Nat} {a : α}, Paired R l m → l[i]? = some a → ∃ b, m[i]? = some b ∧ R a b
  | _, _, _, _, .nil, e => by simp at e
  | _, _, 0, _, .cons (b := b) h t, e => ⟨b, rfl, by rw [← Option.some.inj e]; exact h⟩
  | _, _, i + 1, _, .cons h t, e => Paired.at (i := i) t e
theorem Sz.at {H G : Hp} {p : Addr} {sz : List (Str × Int)} (h : Sz H p sz) (k : ∀ b o, (∀ xs, o ≠ .lst xs) → (∀ xs, o ≠ .tbl xs) → H b = some o → G b = some o) : Sz G p sz := by
  obtain ⟨o, ps, h1, h2, h3, h4⟩ := h
  exact ⟨o, ps, k _ _ (fun _ z => by cases z) (fun _ z => by cases z) h1, h2, h3, Paired.mono (fun _ _ e => k _ _ (fun _ z => by cases z) (fun _ z => by cases z) e) h4⟩
theorem Sz.same {H G : Hp} {p : Addr} {sz : List (Str × Int)} (h : Sz H p sz) (s : Same H G) : Sz G p sz := h.at fun b o _ _ e => s b o e
theorem Sz.sm {T : List Addr} {H G : Hp} {p : Addr} {sz : List (Str × Int)} (h : Sz H p sz) (t : TbS T H) (s : Sm T H G) : Sz G p sz := h.at fun b o _ n e => s.at t e n
theorem Sz.kp {d c : Addr} {H G : Hp} {p : Addr} {sz : List (Str × Int)} (h : Sz H p sz) (k : Kp d c H G) (x : Dk H d c) : Sz G p sz := h.at fun b o n _ e => by
  obtain ⟨_, ⟨_, _, hd⟩, ⟨_, hc, _⟩⟩ := x
  refine k b o (fun z => ?_) (fun z => ?_) e
  · rw [z, hd] at e
    exact n _ (Option.some.inj e).symm
  · rw [z, hc] at e
    exact n _ (Option.some.inj e).symm
theorem Sz.put {H : Hp} {p q : Addr} {o : HO} {sz : List (Str × Int)} {xs : List V} (h : Sz H p sz) (hq : H q = some (.lst xs)) : Sz (upd H q o) p sz := h.at fun b u n _ e => by
  rw [upd_ne (fun z => by rw [z, hq] at e; exact n _ (Option.some.inj e).symm)]
  exact e
abbrev tThings : Stmt := tp 19
theorem _root_.Kv.Dd.tupS {N : Addr → Prop} {H : Hp} {xs : List Dt} {v : V} (h : Dd N H (.tup xs) v) : ∃ a vs, v = .ref a ∧ H a = some (.tup vs) ∧ DdL N H xs vs := by
  cases h with
  | tup h t => exact ⟨_, _, rfl, h, t⟩
theorem _root_.Kv.DdL.see {N : Addr → Prop} {H : Hp} {xs : List Dt} {vs : List V} (h : DdL N H xs vs) : (xs = [] ∧ vs = []) ∨ ∃ y ys w ws, xs = y :: ys ∧ vs = w :: ws ∧ Dd N H y w ∧ DdL N H ys ws := by
  cases h with
  | nil => exact .inl ⟨rfl, rfl⟩
  | cons h t => exact .inr ⟨_, _, _, _, rfl, rfl, h, t⟩
section
variable {P : Program} {w : World} {K : PySem.W.Frag} {mg : Str → Option Value} {base : Heap}
def spYesS (p : Dt → Bool) : Sp := fun vs H Q _ => ∃ (v : V) (x : Dt), vs = [v] ∧ Dd Any H x v ∧ Q (.bl (p x)) H
/-! things_of -/
theorem scThings : FnScope ["sizes", "name", "sized", "many"] ["sizes", "name"] (defScope tThings) := ⟨rfl, rfl, rfl, by decide +kernel, rfl, by decide +kernel, by decide +kernel⟩
def spThings : Sp := fun vs H Q _ => ∃ (p : Addr) (sz : List (Str × Int)) (n : Str), vs = [.ref p, .str n] ∧ Sz H p sz ∧ Q (.int (look sz n)) H
theorem okThings {f : Addr} {fd : FuncData} {k : Nat} (F : Fun K "things_of" "things_of" tThings f fd) : FnOk P w K mg base CX0 (k + 1) f fd ["sizes", "name"] spThings := by
  refine F.ok scThings (fun vs H Q E h => ?_) (fun cdv A outer s H vs Q E hr h => ?_)
  · obtain ⟨p, sz, n, rfl, _⟩ := h
    rfl
  obtain ⟨p, sz, n, rfl, ⟨o, ps, hp, _, _, pr⟩, q⟩ := h
  refine ⟨_, pss_cons (ps_for PassesOwn.never rfl (pi_tup (pv 0)) (pg_tup rfl (pgs_cons (pg_name (i := 2) scThings.nd rfl (.inl rfl)) (pgs_cons (pg_name (i := 3) scThings.nd rfl (.inl rfl)) pgs_nil)))
      (pss_one (ps_if (pt_cmpR op_eq (pv 2) (pv 1) (nomark _)) (pss_one (ps_ret (pv 3))) pss_nil)))
    (pss_one (ps_ret pe_int)), ?_⟩
  have hs : SqT K H p (ps.map V.ref) := .inl (.inr ⟨o, hp⟩)
  have lp := Paired.len pr
  refine ⟨_, rfl, p, rfl, ⟨_, hs⟩, for_tup (xs := ps.map V.ref) (fun i σ G => G = H ∧ (∃ y2 y3, σ = [some (.ref p), some (.str n), y2, y3]) ∧ (sz.take i).find? (fun kv => decide (kv.1 = n)) = none) ⟨rfl, ⟨_, _, rfl⟩, rfl⟩ (fun i σ G _ z => by rw [z.1]; exact hs) (fun i x σ G hx z => ?_) (fun σ G z => ?_)⟩
  · obtain ⟨rfl, ⟨y2, y3, rfl⟩, hf⟩ := z
    rw [List.getElem?_map] at hx
    cases hq : ps[i]? with
    | none => rw [hq] at hx; cases hx
    | some r =>
      rw [hq] at hx
      obtain rfl := Option.some.inj hx
      obtain ⟨kv, hkv, hr2⟩ := Paired.at pr hq
      have et : sz.take (i + 1) = sz.take i ++ [kv] := by rw [List.take_add_one, hkv]; rfl
      refine ⟨r, _, rfl, SqT.of hr2, rfl, _, _, rfl, _, _, rfl, rfl, ?_⟩
      refine ⟨_, rfl, _, rfl, rfl, _, rfl, ite2 (fun e => ?_) (fun e => ?_)⟩
      · have e1 : kv.1 = n := V.str.inj (of_decide_eq_true e)
        have e2 : look sz n = kv.2 := by
          have z : sz.find? (fun kv => decide (kv.1 = n)) = some kv := by
            have li := (List.getElem?_eq_some_iff.mp hkv).1
            rw [← List.take_append_drop i sz, List.find?_append, hf, List.drop_eq_getElem_cons li, (List.getElem?_eq_some_iff.mp hkv).2]
            simp [e1]
          unfold look
          rw [z]
        rw [e2] at q
        exact ⟨_, rfl, q⟩
      · have e1 : ¬ kv.1 = n := fun z => e (decide_eq_true (by rw [z]))
        refine ⟨rfl, ⟨_, _, rfl⟩, ?_⟩
        rw [et, List.find?_append, hf]
        simp [e1]
  · obtain ⟨rfl, ⟨y2, y3, rfl⟩, hf⟩ := z
    rw [List.length_map, lp, List.take_length] at hf
    have e2 : look sz n = 0 := by
      unfold look
      rw [hf]
    rw [e2] at q
    exact q
end
end Kq

/-! a thing of anything != a text -/
namespace PySem.SeqAt
theorem dic_declinesN (l : Addr) (es : Array DictEntry) (n : Nat) (dd : Option Addr) (sl : Array (Option Value)) (b : Str) (u : Tok) :
    Meets (Builtin.«dict.__ne__» ⟨[.ref l, .str b u], []⟩) (fun _ R s => s.heap.get? l = some { cls := .type "dict", dict := dd, data := .dict es n, slots := sl } ∧ R (.ok (.ret .notImplemented)) s) :=
  .of_wp fun prog w A R s h => by
    obtain ⟨hp, g, d, tk, os⟩ := s
    obtain ⟨hl, h⟩ := h
    have f1 := sub_str_dic
    wp_walk using AutoSeq1.wpAny_loadPart' hl
    exact ⟨_, rfl, h⟩
theorem str_declines_dicN (b : Str) (u : Tok) (l : Addr) (es : Array DictEntry) (n : Nat) (dd : Option Addr) (sl : Array (Option Value)) :
    Meets (Builtin.«str.__ne__» ⟨[.str b u, .ref l], []⟩) (fun _ R s => s.heap.get? l = some { cls := .type "dict", dict := dd, data := .dict es n, slots := sl } ∧ R (.ok (.ret .notImplemented)) s) :=
  .of_wp fun prog w A R s h => by
    obtain ⟨hp, g, d, tk, os⟩ := s
    obtain ⟨hl, h⟩ := h
    wp_walk using AutoSeq1.wpAny_loadPart' hl, wpAny_load hl
    exact ⟨_, rfl, h⟩
theorem dic_strN {A : Around} {s : Shared} {l : Addr} {o : Obj} {es : Array DictEntry} {n : Nat} (b : Str) (u : Tok) (ho : s.heap.get? l = some o) (hc : o.cls = .type "dict") (hd : o.data = .dict es n) (hu : A.units < cLine) : RcNeAt A s (.ref l) (.str b u) true := fun prog w E Q h => by
  obtain ⟨cls, dd, data, sl⟩ := o
  simp only at hc hd
  subst hc hd
  exact rc_ne_decline_or (k := false) ⟨_, ho, rfl⟩ (typeIs_str s b u) (by decide) sub_str_dic F.slot_dict_ne F.slot_str_ne_refl
    (fun _ hq => call_meets F.slot_dict_ne ⟨_, ho, rfl⟩ F.entry_dict_ne (F.args_dict_ne_2 _ _) (dic_declinesN l es n dd sl b u) ⟨ho, hq⟩)
    (fun _ hq => call_meets F.slot_str_ne_refl (typeIs_str s b u) F.entry_str_ne (F.args_str_ne_2 _ _) (str_declines_dicN b u l es n dd sl) ⟨ho, hq⟩)
    (fun _ hq => wpAny_of_eq (rfl : isSame (.ref l) (.str b u) = pure false) hq) (.inr hu) h
end PySem.SeqAt
namespace Kv
open PySem PySem.Spec PyProof.Rows L2 Kf
def rNeUS : R2 := fun x y H Q => ∃ (d : Dt) (z : Str), Dd Any H d x ∧ y = .str z ∧ Q (.bl (!d.isS z)) H
theorem op_neUS {X : Cx} (hu : X.A.units + 64 < cLine) : OpR X (compareOp .NotEq) rNeUS := by
  intro pins s σ H x y v u Q I rx ry h
  obtain ⟨d, z, hd, rfl, q⟩ := h
  obtain ⟨t2, rfl⟩ := ry
  have no : d.isS z = false → EP X pins σ Q (.bool true) s := fun e => by
    rw [e] at q
    exact ⟨.bl true, H, I, rfl, q⟩
  cases hd with
  | non =>
    cases rx
    exact SeqAt.RcNeAt.none_str z t2 _ _ _ _ (no rfl)
  | bl b =>
    cases rx
    exact SeqAt.RcNeAt.bool_str b z t2 _ _ _ _ (no rfl)
  | int i =>
    obtain ⟨t1, rfl⟩ := rx
    exact SeqAt.RcNeAt.int_str i t1 z t2 _ _ _ _ (no rfl)
  | str y =>
    obtain ⟨t1, rfl⟩ := rx
    refine SeqAt.RcNeAt.str_str y t1 z t2 _ _ _ _ ?_
    have e : (y == z) = (Dt.str y).isS z := by
      show (y == z) = decide (y = z)
      by_cases c : y = z
      · subst c
        simp
      · rw [decide_eq_false c]
        exact beq_eq_false_iff_ne.mpr c
    rw [e]
    exact ⟨.bl _, H, I, rfl, q⟩
  | tup h t =>
    cases rx
    obtain ⟨its, rv, ⟨o, ho, hc, n, hd⟩, _⟩ := I.tuple (SqT.of h)
    exact SeqAt.RcNeAt.tuple_str z t2 ⟨o, ho, hc, n, hd⟩ (by omega) _ _ _ _ (no rfl)
  | lst _ h t =>
    cases rx
    obtain ⟨its, rv, ⟨o, n, ho, hc, _, hd⟩, _⟩ := I.list (SqL.of h)
    exact SeqAt.RcNeAt.list_str z t2 ⟨o, ho, hc, n, hd⟩ (by omega) _ _ _ _ (no rfl)
  | emp _ h =>
    cases rx
    obtain ⟨o, n, ho, hc, hd, _⟩ := emp_obj I h
    exact SeqAt.dic_strN z t2 ho hc hd (by omega) _ _ _ _ (no rfl)
end Kv

namespace Kq
open PySem PySem.Spec PyProof.Rows L2 Kf Kg Kv GxR
abbrev tLNumber : Stmt := tp 39
abbrev tLWorth : Stmt := tp 40
theorem take_all_no {α : Type} {f : α → Bool} {xs : List α} {i : Nat} {x : α} (hx : xs[i]? = some x) (e : f x = false) : (xs.take (i + 1)).all f = false := by
  rw [List.take_add_one, hx, List.all_append]
  simp [e]
theorem take_all_yes {α : Type} {f : α → Bool} {xs : List α} {i : Nat} {x : α} (hx : xs[i]? = some x) (e : f x = true) : (xs.take (i + 1)).all f = (xs.take i).all f := by
  rw [List.take_add_one, hx, List.all_append]
  simp [e]
theorem app_ne {α : Type} (xs : List α) (x : α) : (xs ++ [x]).isEmpty = false := by
  cases xs <;> rfl
theorem wts_mem : ∀ {xs : List Dt} {x : Dt}, x ∈ xs → x.wt + 2 ≤ Dt.wts xs
  | y :: ys, x, h => by
    simp only [Dt.wts]
    rcases List.mem_cons.mp h with rfl | h
    · omega
    · have := wts_mem h
      omega
/-! dict(sizes).get(name, 0) -/
theorem merge_val (k : Key) : ∀ (kvs acc : List (Key × V)), (kvs.map (·.1)).Nodup → valV (mergeK acc kvs) k = (valV kvs k).or (valV acc k)
  | [], acc, _ => by
    show valV acc k = _
    rw [valV_nil]
    rfl
  | kv :: r, acc, h => by
    rw [List.map_cons, List.nodup_cons] at h
    show valV (mergeK (putK acc kv.1 kv.2) r) k = _
    rw [merge_val k r _ h.2, valV_put]
    by_cases e : kv.1 = k
    · have e2 : valV r k = none := by
        cases c : valV r k with
        | none => rfl
        | some v =>
          have hs : (valV r k).isSome = true := by rw [c]; rfl
          rw [← valV_any] at hs
          obtain ⟨y, hy, ey⟩ := List.any_eq_true.mp hs
          exact absurd (List.mem_map.mpr ⟨y, hy, (of_decide_eq_true ey).trans e.symm⟩) h.1
      rw [e2, if_pos e.symm, valV_pos e]
      rfl
    · rw [if_neg (Ne.symm e), valV_neg e]
def szK (sz : List (Str × Int)) : List (Key × V) := sz.map fun kv => (.inr kv.1, .int kv.2)
theorem szK_val (n : Str) : ∀ sz : List (Str × Int), (valV (szK sz) (.inr n)).getD (.int 0) = .int (look sz n)
  | [] => rfl
  | kv :: r => by
    by_cases e : kv.1 = n
    · have e1 : valV (szK (kv :: r)) (.inr n) = some (.int kv.2) := valV_pos (p := (Sum.inr kv.1, V.int kv.2)) (congrArg Sum.inr e)
      rw [e1]
      unfold look
      rw [List.find?_cons, decide_eq_true e]
      rfl
    · have e1 : valV (szK (kv :: r)) (.inr n) = valV (szK r) (.inr n) := valV_neg (p := (Sum.inr kv.1, V.int kv.2)) (fun z => e (Sum.inr.inj z))
      have e2 : look (kv :: r) n = look r n := by
        unfold look
        rw [List.find?_cons, decide_eq_false e]
      rw [e1, e2]
      exact szK_val n r
theorem szK_nd {sz : List (Str × Int)} (h : (sz.map (·.1)).Nodup) : ((szK sz).map (·.1)).Nodup := by
  have e : (szK sz).map (·.1) = (sz.map (·.1)).map (Sum.inr : Str → Key) := by
    unfold szK
    rw [List.map_map, List.map_map]
    rfl
  rw [e]
  exact h.map (f := (Sum.inr : Str → Key)) (fun a b n z => n (Sum.inr.inj z))
theorem szK_get {sz : List (Str × Int)} (h : (sz.map (·.1)).Nodup) (n : Str) : (valV (mergeK [] (szK sz)) (.inr n)).getD (.int 0) = .int (look sz n) := by
  rw [merge_val _ _ _ (szK_nd h), valV_nil, Option.or_none]
  exact szK_val n sz
theorem szK_pairs {K : PySem.W.Frag} {H : Hp} : ∀ {ps : List Addr} {sz : List (Str × Int)}, Paired (fun q (kv : Str × Int) => H q = some (.tup [.str kv.1, .int kv.2])) ps sz → Paired (fun p (kv : Key × V) => SqT K H p [kV kv.1, kv.2]) ps (szK sz)
  | _, _, .nil => .nil
  | _, _, .cons h t => .cons (SqT.of h) (szK_pairs t)
/-! lists that are empty, texts among texts -/
theorem notInK {X : Cx} (K : PySem.W.Frag) (h : X.K = K) : OpR X (compareOp .NotIn) (rIn K true) := by
  subst h
  exact op_notIn_seq
theorem in2 (z : Str) : inV (V.str z) [V.str "left", V.str "right"] = (decide (z = "left") || decide (z = "right")) := by
  show ((("left" : Str) == z) || ((("right" : Str) == z) || false)) = _
  rw [Bool.or_false]
  have e : ∀ a : Str, (a == z) = decide (z = a) := fun a => by
    by_cases h : z = a
    · subst h
      simp
    · rw [decide_eq_false h]
      exact beq_eq_false_iff_ne.mpr (Ne.symm h)
  rw [e, e]
theorem wne {a b : Str} (h : ¬ a = b) {d : Decidable (V.str a = V.str b)} : ¬ @decide _ d = true := fun e => h (V.str.inj (@of_decide_eq_true _ d e))
theorem neI_t {a b : Int} (e : (!decide (V.int a = V.int b)) = true) : a ≠ b := fun z => by
  rw [z, decide_eq_true rfl] at e
  cases e
theorem neI_f {a b : Int} (e : ¬ (!decide (V.int a = V.int b)) = true) : a = b := by
  by_cases z : a = b
  · exact z
  · refine absurd ?_ e
    rw [decide_eq_false (fun h => z (V.int.inj h))]
    rfl
theorem neS_t {a b : Str} (e : (!decide (V.str a = V.str b)) = true) : ¬ a = b := fun z => by
  rw [z, decide_eq_true rfl] at e
  cases e
theorem neS_f {a b : Str} (e : ¬ (!decide (V.str a = V.str b)) = true) : a = b := by
  by_cases z : a = b
  · exact z
  · refine absurd ?_ e
    rw [decide_eq_false (fun h => z (V.str.inj h))]
    rfl
theorem tag_str (wd z : Str) (ys : List Dt) (m : Nat) : tagD (.tup (.str wd :: ys)) z m = (decide (ys.length = m) && decide (wd = z)) := rfl
theorem tag_no {x : Dt} {z : Str} {m : Nat} (h : ∀ z ys, x ≠ .tup (.str z :: ys)) : tagD x z m = false := by
  unfold tagD
  split
  · rename_i y ys
    cases y with
    | str w => exact absurd rfl (h w ys)
    | _ => exact Bool.and_false _
  · rfl
theorem wth_no {sz : List (Str × Int)} {t : Kd} {x : Dt} (h1 : t ≠ .num) (h2 : t ≠ .tru) (h : ∀ z ys, x ≠ .tup (.str z :: ys)) : wth sz t x = false := by
  cases t with
  | num => exact absurd rfl h1
  | tru => exact absurd rfl h2
  | fn _ _ => rfl
  | opn y => simp only [wth]; rw [tag_no h]; rfl
  | pair a b => simp only [wth]; rw [tag_no h]; rfl
  | lst a => simp only [wth]; rw [tag_no h]; rfl
  | eith a b => simp only [wth]; rw [tag_no h, tag_no h]; rfl
theorem word_num {t : Kd} (h : t.word = "num") : t = .num := by
  cases t <;> first | rfl | (exfalso; revert h; simp only [Kd.word]; decide +kernel)
theorem word_tru {t : Kd} (h : t.word = "truth") : t = .tru := by
  cases t <;> first | rfl | (exfalso; revert h; simp only [Kd.word]; decide +kernel)
theorem dd_two {N : Addr → Prop} {H : Hp} {ys : List Dt} {ws : List V} (h : DdL N H ys ws) (l : ws.length = 2) : ∃ y1 y2 w1 w2, ys = [y1, y2] ∧ ws = [w1, w2] ∧ Dd N H y1 w1 ∧ Dd N H y2 w2 := by
  rcases Kv.DdL.see h with ⟨rfl, rfl⟩ | ⟨y1, ys1, w1, ws1, rfl, rfl, h1, hL1⟩
  · cases l
  rcases Kv.DdL.see hL1 with ⟨rfl, rfl⟩ | ⟨y2, ys2, w2, ws2, rfl, rfl, h2, hL2⟩
  · simp at l
  rcases Kv.DdL.see hL2 with ⟨rfl, rfl⟩ | ⟨y3, ys3, w3, ws3, rfl, rfl, h3, hL3⟩
  · exact ⟨y1, y2, w1, w2, rfl, rfl, h1, h2⟩
  · simp at l
theorem dd_one {N : Addr → Prop} {H : Hp} {ys : List Dt} {ws : List V} (h : DdL N H ys ws) (l : ws.length = 1) : ∃ y1 w1, ys = [y1] ∧ ws = [w1] ∧ Dd N H y1 w1 := by
  rcases Kv.DdL.see h with ⟨rfl, rfl⟩ | ⟨y1, ys1, w1, ws1, rfl, rfl, h1, hL1⟩
  · cases l
  rcases Kv.DdL.see hL1 with ⟨rfl, rfl⟩ | ⟨y2, ys2, w2, ws2, rfl, rfl, h2, hL2⟩
  · exact ⟨y1, w1, rfl, rfl, h1⟩
  · simp at l
section
variable {P : Program} {w : World} {K : PySem.W.Frag} {mg : Str → Option Value} {base : Heap}
theorem scLNumber : FnScope ["_law_thing"] ["_law_thing"] (defScope tLNumber) := ⟨rfl, rfl, rfl, by decide +kernel, rfl, by decide +kernel, by decide +kernel⟩
theorem okLNumber {f : Addr} {fd : FuncData} {k : Nat} (F : Fun K "_law_is_number" "_law_is_number" tLNumber f fd) (mi : mg "isinstance" = none) (mb : mg "bool" = none) (mn : mg "int" = none) : FnOk P w K mg base CX0 (k + 1) f fd ["_law_thing"] (spYesS numD) := by
  refine F.ok scLNumber (fun vs H Q E h => ?_) (fun cdv A outer s H vs Q E hr h => ?_)
  · obtain ⟨v, x, rfl, _⟩ := h
    rfl
  obtain ⟨v, x, rfl, hd, q⟩ := h
  refine ⟨_, pss_one (ps_ret (pe_and (pe_callB (isiK K rfl) (by rfl) mi PyProof.Rows.boot_isinstance (pa_cons (pv 0) (pa_cons (pe_bltn (v := .ty "int") (by rfl) mn (by decide +kernel) rfl) pa_nil)))
    (pe_and (pe_not (pe_callB (isiK K rfl) (by rfl) mi PyProof.Rows.boot_isinstance (pa_cons (pv 0) (pa_cons (pe_bltn (v := .ty "bool") (by rfl) mb PyProof.Rows.boot_bool rfl) pa_nil))))
    (pe_one (pe_cmpR op_ge (pv 0) pe_int (nomark _)))))), ?_⟩
  have no : numD x = false → Q (.bl false) H := fun e => by
    rw [e] at q
    exact q
  refine ⟨_, rfl, _, _, _, _, x.isInt, rfl, .ty "int", hd.ty, kInt K x, _, rfl, ite2 (fun e => ?_) (fun e => no ?_)⟩
  rotate_left
  · cases x <;> first | rfl | exact absurd rfl e
  refine ⟨_, rfl, _, _, _, _, x.isBl, rfl, .ty "bool", hd.ty, kBl K x, _, rfl, _, rfl, ite2 (fun e2 => ?_) (fun e2 => no ?_)⟩
  rotate_left
  · cases x <;> first | rfl | exact absurd rfl e2
  obtain ⟨i, rfl⟩ : ∃ i, x = .int i := by
    cases x with
    | int i => exact ⟨i, rfl⟩
    | bl b => cases e2
    | _ => cases e
  cases hd
  exact ⟨_, rfl, _, _, rfl, rfl, q⟩
abbrev psLW : List Str := ["_law_kind", "_law_sizes_here", "_law_thing"]
abbrev nLW : List Str := ["_law_kind", "_law_sizes_here", "_law_thing", "_law_item"]
theorem scLWorth : FnScope nLW psLW (defScope tLWorth) := ⟨rfl, rfl, rfl, by decide +kernel, rfl, by decide +kernel, by decide +kernel⟩
def spLW (n : Nat) : Sp := fun vs H Q _ => ∃ (vk : V) (p : Addr) (vx : V) (t : Kd) (sz : List (Str × Int)) (x : Dt), vs = [vk, .ref p, vx] ∧ t.dp + 1 ≤ n ∧ t.data = true ∧ Rp H t vk ∧ Sz H p sz ∧ (sz.map (·.1)).Nodup ∧ Dd Any H x vx ∧ x.wt ≤ sizeLine ∧ ∀ G : Hp, Same H G → Q (.bl (wth sz t x)) G
theorem okLWorth1 {f fN : Addr} {fd fdN : FuncData} {n : Nat} (F : Fun K "_law_is_worth" "_law_is_worth" tLWorth f fd) (bF : Binds K fd psLW []) (gF : mg "_law_is_worth" = some (.ref f))
    (GN : FnOk P w K mg base CX0 (n + 2) fN fdN ["_law_thing"] (spYesS numD)) (bN : Binds K fdN ["_law_thing"] []) (gN : mg "_law_is_number" = some (.ref fN)) (kN : PySem.W.keepIn K (.ref fN) = true)
    (mi : mg "isinstance" = none) (mt : mg "tuple" = none) (ms : mg "str" = none) (ml : mg "len" = none) (mn : mg "int" = none) (md : mg "dict" = none)
    (GI : FnOk P w K mg base CX0 (n + 2) f fd psLW (spLW n)) : FnOk P w K mg base CX0 (n + 3) f fd psLW (spLW (n + 1)) := by
  refine F.ok scLWorth (fun vs H Q E h => ?_) (fun cdv A outer s H vs Q E hr h => ?_)
  · obtain ⟨vk, p, vx, t, sz, x, rfl, _⟩ := h
    rfl
  obtain ⟨vk, p, vx, t, sz, x, rfl, hn, hdt, rk, hz, hnd, hd, hw, q⟩ := h
  obtain ⟨ka, us, rfl, hk, hks⟩ := rk.see
  have hu1 : (cxOf CX0 P w K mg base nLW "_law_is_worth" (defScope tLWorth) f cdv A outer s H E).nox.A.units + 1 < cLine := hu_of hr
  refine ⟨_, pss_cons (ps_if (pt_cmpR (op_eqTT hr.units) (pv 0) (pe_tup (pa_cons pe_str pa_nil)) (nomark _)) (pss_one (ps_ret (pe_call GN hr (by rfl) gN kN bN .nil pass0 (pa_cons (pv 2) pa_nil)))) pss_nil)
    (pss_cons (ps_if (pt_cmpR (op_eqTT hr.units) (pv 0) (pe_tup (pa_cons pe_str pa_nil)) (nomark _)) (pss_one (ps_ret (pe_or (pe_cmpR op_isU (pv 2) pe_bl (nomark _)) (pe_one (pe_cmpR op_isU (pv 2) pe_bl (nomark _)))))) pss_nil)
    (pss_cons (ps_if (PW.pt (pw_or (pt_not (pt_val (pe_callB (isiK K rfl) (by rfl) mi PyProof.Rows.boot_isinstance (pa_cons (pv 2) (pa_cons (pe_bltn (v := .ty "tuple") (by rfl) mt PyProof.Rows.boot_tuple rfl) pa_nil)))))
      (pw_or (pt_cmpR (op_eqTT hr.units) (pv 2) (pe_tup pa_nil) (nomark _))
      (pw_or1 (pt_not (pt_val (pe_callB (isiK K rfl) (by rfl) mi PyProof.Rows.boot_isinstance (pa_cons (pe_ix ix_tup (pv 2) pe_int (fun _ _ => rfl)) (pa_cons (pe_bltn (v := .ty "str") (by rfl) ms PyProof.Rows.boot_str rfl) pa_nil)))))))))
      (pss_one (ps_ret pe_bl)) pss_nil)
    (pss_cons (ps_if (pt_cmpR op_eq (pe_ix ix_tup (pv 0) pe_int (fun _ _ => rfl)) pe_str (nomark _))
      (pss_cons (ps_if (PW.pt (pw_or (pt_cmpR op_ne (pe_callB call_len_seq (by rfl) ml PySem.boot_len (pa_cons (pv 2) pa_nil)) pe_int (nomark _))
        (pw_or (pt_cmpR op_ne (pe_ix ix_tup (pv 2) pe_int (fun _ _ => rfl)) pe_str (nomark _))
        (pw_or (pt_not (pt_val (pe_callB (isiK K rfl) (by rfl) mi PyProof.Rows.boot_isinstance (pa_cons (pe_ix ix_tup (pv 2) pe_int (fun _ _ => rfl)) (pa_cons (pe_bltn (v := .ty "str") (by rfl) ms PyProof.Rows.boot_str rfl) pa_nil)))))
        (pw_or1 (pt_cmpR op_ne (pe_ix ix_tup (pv 2) pe_int (fun _ _ => rfl)) (pe_ix ix_tup (pv 0) pe_int (fun _ _ => rfl)) (nomark _)))))))
        (pss_one (ps_ret pe_bl)) pss_nil)
      (pss_one (ps_ret (pe_and (pe_call GN hr (by rfl) gN kN bN .nil pass0 (pa_cons (pe_ix ix_tup (pv 2) pe_int (fun _ _ => rfl)) pa_nil))
        (pe_one (pe_cmpR op_lt (pe_ix ix_tup (pv 2) pe_int (fun _ _ => rfl)) (pe_dget2 hu1 (pe_callTy (Kt.call_dictF rfl) (by rfl) md PyProof.Rows.boot_dict (pa_cons (pv 1) pa_nil)) (pe_ix ix_tup (pv 0) pe_int (fun _ _ => rfl)) pe_int ⟨by rfl, by rfl, by rfl, by rfl⟩) (nomark _))))))) pss_nil)
    (pss_cons (ps_if (pt_cmpR op_eq (pe_ix ix_tup (pv 0) pe_int (fun _ _ => rfl)) pe_str (nomark _))
      (pss_cons (ps_if (PW.pt (pw_or (pt_cmpR op_ne (pe_callB call_len_seq (by rfl) ml PySem.boot_len (pa_cons (pv 2) pa_nil)) pe_int (nomark _))
        (pw_or (pt_cmpR op_ne (pe_ix ix_tup (pv 2) pe_int (fun _ _ => rfl)) pe_str (nomark _))
        (pw_or1 (pt_not (pt_val (pe_callB (isiK K rfl) (by rfl) mi PyProof.Rows.boot_isinstance (pa_cons (pe_ix ix_tup (pv 2) pe_int (fun _ _ => rfl)) (pa_cons (pe_bltn (v := .ty "tuple") (by rfl) mt PyProof.Rows.boot_tuple rfl) pa_nil)))))))))
        (pss_one (ps_ret pe_bl)) pss_nil)
      (pss_one (ps_ret (pe_cmpR (op_eqL0 hr.units) (pe_lc (own := [("_law_item", 3)]) (g := gName 3) (by rfl) scLWorth.nd (pi_tup (pe_ix ix_tup (pv 2) pe_int (fun _ _ => rfl))) (blkOk_by (own := [("_law_item", 3)]) (N := nLW) (sc := defScope tLWorth) (by decide +kernel))
        (fun _ _ _ _ _ => pg_name (i := 3) scLWorth.nd rfl (.inl rfl)) (fun _ _ _ _ _ => pts_one (pt_not (pt_val (pe_call GI hr (by rfl) gF F.kp bF .nil pass0 (pa_cons (pe_ix (ixTK K rfl) (pv 0) pe_int (fun _ _ => rfl)) (pa_cons (pv 1) (pa_cons (pv 3) pa_nil))))))) (fun _ _ _ _ _ => pv 3)) (pe_lst pa_nil) (nomark _))))) pss_nil)
    (pss_cons (ps_if (pt_cmpR op_eq (pe_ix ix_tup (pv 0) pe_int (fun _ _ => rfl)) pe_str (nomark _))
      (pss_cons (ps_if (PW.pt (pw_or (pt_cmpR op_ne (pe_callB call_len_seq (by rfl) ml PySem.boot_len (pa_cons (pv 2) pa_nil)) pe_int (nomark _))
        (pw_or1 (pt_cmpR op_ne (pe_ix ix_tup (pv 2) pe_int (fun _ _ => rfl)) pe_str (nomark _)))))
        (pss_one (ps_ret pe_bl)) pss_nil)
      (pss_one (ps_ret (pe_and (pe_call GI hr (by rfl) gF F.kp bF .nil pass0 (pa_cons (pe_ix ix_tup (pv 0) pe_int (fun _ _ => rfl)) (pa_cons (pv 1) (pa_cons (pe_ix ix_tup (pv 2) pe_int (fun _ _ => rfl)) pa_nil))))
        (pe_one (pe_call GI hr (by rfl) gF F.kp bF .nil pass0 (pa_cons (pe_ix ix_tup (pv 0) pe_int (fun _ _ => rfl)) (pa_cons (pv 1) (pa_cons (pe_ix ix_tup (pv 2) pe_int (fun _ _ => rfl)) pa_nil))))))))) pss_nil)
    (pss_cons (ps_if (PW.pt (pw_or (pt_cmpR op_ne (pe_callB call_len_seq (by rfl) ml PySem.boot_len (pa_cons (pv 2) pa_nil)) pe_int (nomark _))
        (pw_or1 (pt_cmpR (notInK K rfl) (pe_ix ix_tup (pv 2) pe_int (fun _ _ => rfl)) (pe_tup (pa_cons pe_str (pa_cons pe_str pa_nil))) rfl))))
        (pss_one (ps_ret pe_bl)) pss_nil)
    (pss_one (ps_ret (pe_call GI hr (by rfl) gF F.kp bF .nil pass0 (pa_cons (pe_ix ix_tup (pv 0) (pe_op op_add pe_int (pe_callTy call_int1 (by rfl) mn (by decide +kernel) (pa_cons (pe_cmpR op_eq (pe_ix ix_tup (pv 2) pe_int (fun _ _ => rfl)) pe_str (nomark _)) pa_nil))) (fun _ _ => rfl)) (pa_cons (pv 1) (pa_cons (pe_ix ix_tup (pv 2) pe_int (fun _ _ => rfl)) pa_nil)))))))))))), ?_⟩
  have fin : ∀ (b : Bool) (G : Hp), Same H G → wth sz t x = b → Q (.bl b) G := fun b G sG e => by
    have z := q _ sG
    rw [e] at z
    exact z
  have bt : ∀ (z0 z : Str) (ws : List V), BothTxt (V.str z0 :: ws) [V.str z] := fun z0 z ws i u v h1 h2 => by
    cases i with
    | zero => exact ⟨z0, z, (Option.some.inj h1).symm, (Option.some.inj h2).symm⟩
    | succ i => cases h2
  refine ⟨_, rfl, (by show 1 ≤ sizeLine; decide), fun p1 np1 => ⟨ka, p1, _, _, rfl, rfl, SqT.of (newS np1 _ _ hk), SqT.of upd_same, bt _ _ _, _, rfl, ite2 (fun e => ?_) (fun n1 => ?_)⟩⟩
  · have e1 : t.word = "num" := V.str.inj (List.cons.inj (of_decide_eq_true e)).1
    have e2 := word_num e1
    subst e2
    have s1 := newS (o := .tup [.str "num"]) np1
    exact ⟨_, rfl, vx, x, rfl, hd.same s1, fin _ _ s1 rfl⟩
  have n1 : t ≠ .num := fun z => by
    subst z
    refine n1 (decide_eq_true ?_)
    rcases hks with ⟨_, h⟩ | ⟨y, h, _⟩
    · cases us with
      | nil => rfl
      | cons a b => exact h.elim
    · cases h
  have s1 := newS (o := .tup [.str "num"]) np1
  generalize upd H p1 (.tup [.str "num"]) = H1 at s1
  have hk1 := s1 _ _ hk
  refine ⟨_, rfl, (by show 1 ≤ sizeLine; decide), fun p2 np2 => ⟨ka, p2, _, _, rfl, rfl, SqT.of (newS np2 _ _ hk1), SqT.of upd_same, bt _ _ _, _, rfl, ite2 (fun e => ?_) (fun n2 => ?_)⟩⟩
  · have e1 : t.word = "truth" := V.str.inj (List.cons.inj (of_decide_eq_true e)).1
    have e2 := word_tru e1
    subst e2
    have s2 := s1.trans (newS (o := .tup [.str "truth"]) np2)
    refine ⟨_, rfl, x, true, hd.same s2, rfl, _, rfl, ite2 (fun e => fin _ _ s2 ?_) (fun e => ⟨_, rfl, x, false, hd.same s2, rfl, fin _ _ s2 ?_⟩)⟩
    · cases x <;> first | rfl | cases e
    · cases x with
      | bl b =>
        cases b with
        | true => exact absurd rfl e
        | false => rfl
      | _ => rfl
  have n2 : t ≠ .tru := fun z => by
    subst z
    refine n2 (decide_eq_true ?_)
    rcases hks with ⟨_, h⟩ | ⟨y, h, _⟩
    · cases us with
      | nil => rfl
      | cons a b => exact h.elim
    · cases h
  have s2 := s1.trans (newS (o := .tup [.str "truth"]) np2)
  generalize upd H1 p2 (.tup [.str "truth"]) = H2 at s2
  have hd2 := hd.same s2
  refine ⟨_, rfl, _, _, _, _, x.isTup, rfl, .ty "tuple", hd2.ty, kTup K x, _, rfl, ite2 (fun e => iteT (fin _ _ s2 (wth_no n1 n2 fun z ys ex => ?_))) (fun e => ?_)⟩
  · subst ex
    cases e
  obtain ⟨xs, rfl⟩ : ∃ xs, x = .tup xs := by
    cases x with
    | tup xs => exact ⟨xs, rfl⟩
    | _ => exact absurd rfl e
  obtain ⟨a, ws, rfl, ha, hL⟩ := Kv.Dd.tupS hd2
  refine ⟨_, rfl, Nat.zero_le _, fun p3 np3 => ?_⟩
  have s3 := newS (o := .tup []) np3
  refine ⟨a, p3, ws, [], rfl, rfl, SqT.of (s3 _ _ ha), SqT.of upd_same, (fun i u v _ z => by cases z), _, rfl, ite2 (fun e => iteT (fin _ _ (s2.trans s3) (wth_no n1 n2 fun z ys ex => ?_))) (fun e => ?_)⟩
  · have ew : ws = [] := of_decide_eq_true e
    subst ew
    cases hL
    cases ex
  have s3 := s2.trans s3
  have ha := newS (o := .tup []) np3 _ _ ha
  have hL := hL.same (newS (o := .tup []) np3)
  generalize upd H2 p3 (.tup []) = H3 at s3 ha hL
  rcases Kv.DdL.see hL with ⟨rfl, rfl⟩ | ⟨y, ys, u0, ws, rfl, rfl, hy, hys⟩
  · exact absurd (decide_eq_true rfl) e
  have hix : atI (u0 :: ws) 0 = some u0 := atI_nat (j := 0) rfl
  refine ⟨_, rfl, a, _, _, _, rfl, rfl, SqT.of ha, hix, _, _, _, _, y.isStr, rfl, .ty "str", hy.ty, kStr K y, _, rfl, ite2 (fun e => fin _ _ s3 (wth_no n1 n2 fun z ys ex => ?_)) (fun e => ?_)⟩
  · obtain rfl : y = .str z := (List.cons.inj (Dt.tup.inj ex)).1
    cases e
  obtain ⟨wd, rfl⟩ : ∃ z, y = .str z := by
    cases y with
    | str z => exact ⟨z, rfl⟩
    | _ => exact absurd rfl e
  cases hy
  have ly := hys.len
  have hk3 := s3 _ _ hk
  have rk3 := rk.tk (Tk.of s3)
  have hz3 := hz.same s3
  have hsz := Dt.szs_wts ys
  have hlz := len_szs ys
  have hwt : (Dt.tup (.str wd :: ys)).wt = (Dt.str wd).wt + 2 + Dt.wts ys + 3 := by simp only [Dt.wt, Dt.wts]
  refine ⟨_, rfl, ka, _, _, _, rfl, rfl, SqT.of hk3, atI_nat (j := 0) rfl, rfl, _, rfl, ?_⟩
  cases t with
  | num => exact absurd rfl n1
  | tru => exact absurd rfl n2
  | fn _ _ => cases hdt
  | opn y =>
    refine ite2 (fun _ => ?_) (fun e => absurd (decide_eq_true rfl) e)
    obtain ⟨ka', ek, hk4⟩ := rk3
    obtain rfl : ka = ka' := V.ref.inj ek
    refine ⟨_, rfl, a, _, rfl, .inr (SqT.of ha), rfl, _, rfl, ite2 (fun e => iteT (fin _ _ s3 ?_)) (fun e => ?_)⟩
    · have := neI_t e
      rw [List.length_cons] at this
      simp only [wth]
      rw [tag_str, decide_eq_false (by omega)]
      rfl
    have l3 := neI_f e
    rw [List.length_cons] at l3
    refine ⟨_, rfl, a, _, _, _, rfl, rfl, SqT.of ha, hix, rfl, _, rfl, ite2 (fun e => iteT (fin _ _ s3 ?_)) (fun e => ?_)⟩
    · simp only [wth]
      rw [tag_str, decide_eq_false (neS_t e), Bool.and_false]
      rfl
    obtain rfl := neS_f e
    obtain ⟨y1, y2, w1, w2, rfl, rfl, h1, h2⟩ := dd_two hys (by omega)
    refine ⟨_, rfl, a, _, _, _, rfl, rfl, SqT.of ha, atI_nat (j := 1) rfl, _, _, _, _, y1.isStr, rfl, .ty "str", h1.ty, kStr K y1, _, rfl, ite2 (fun e => iteT (fin _ _ s3 ?_)) (fun e => ?_)⟩
    · have : y1.isS y = false := by cases y1 <;> first | rfl | cases e
      simp only [wth]
      show (_ && (y1.isS y && _)) = false
      rw [this, Bool.false_and, Bool.and_false]
    obtain ⟨z1, rfl⟩ : ∃ z, y1 = .str z := by
      cases y1 with
      | str z => exact ⟨z, rfl⟩
      | _ => exact absurd rfl e
    cases h1
    refine ⟨_, rfl, a, _, _, _, rfl, rfl, SqT.of ha, atI_nat (j := 1) rfl, _, rfl, ka, _, _, _, rfl, rfl, SqT.of hk4, atI_nat (j := 1) rfl, rfl, _, rfl, ite2 (fun e => fin _ _ s3 ?_) (fun e => ?_)⟩
    · simp only [wth]
      show (_ && (decide (z1 = y) && _)) = false
      rw [decide_eq_false (neS_t e), Bool.false_and, Bool.and_false]
    obtain rfl := neS_f e
    have ew : wth sz (.opn z1) (.tup [.str "thing", .str z1, y2]) = numB (look sz z1) y2 := by
      simp only [wth]
      show ((decide ([Dt.str z1, y2].length = 2) && decide (("thing" : Str) = "thing")) && (decide (z1 = z1) && _)) = _
      rw [decide_eq_true rfl, decide_eq_true rfl]
      rfl
    refine ⟨_, rfl, a, _, _, _, rfl, rfl, SqT.of ha, atI_nat (j := 2) rfl, w2, y2, rfl, h2, _, rfl, ite2 (fun e9 => ?_) (fun e => fin _ _ s3 ?_)⟩
    · obtain ⟨i, rfl⟩ : ∃ i, y2 = .int i := by
        cases y2 with
        | int i => exact ⟨i, rfl⟩
        | _ => cases e9
      cases h2
      obtain ⟨o, ps, hp, od, oc, pr⟩ := hz3
      refine ⟨_, rfl, a, _, _, _, rfl, rfl, SqT.of ha, atI_nat (j := 2) rfl, _, rfl, p, o, ps, szK sz, rfl, hp, od, oc, szK_pairs pr, fun dA ndA => ?_⟩
      have s4 := newS (o := .dK (mergeK [] (szK sz))) ndA
      refine ⟨dA, rfl, .inl ⟨_, .inl upd_same⟩, _, rfl, ka, _, _, _, rfl, rfl, SqT.of (s4 _ _ hk4), atI_nat (j := 1) rfl, _, DGet.k (k := .inr z1) upd_same, i, look sz z1, rfl, szK_get hnd z1, fin _ _ (s3.trans s4) ?_⟩
      rw [ew]
      show (decide (0 ≤ i) && _) = _
      rw [show decide (0 ≤ i) = true from e9, Bool.true_and]
    · rw [ew]
      cases y2 with
      | int i =>
        show (decide (0 ≤ i) && _) = _
        cases hh : decide (0 ≤ i) with
        | true => exact absurd hh e
        | false => rfl
      | _ => rfl
  | lst ta =>
    refine ite2 (fun e => absurd e (wne (by simp only [Kd.word]; decide +kernel))) (fun _ => ?_)
    refine ⟨_, rfl, ka, _, _, _, rfl, rfl, SqT.of hk3, atI_nat (j := 0) rfl, rfl, _, rfl, ite2 (fun _ => ?_) (fun e => absurd (decide_eq_true rfl) e)⟩
    obtain ⟨ka', kx, ek, hk4, rka⟩ := rk3
    obtain rfl : ka = ka' := V.ref.inj ek
    refine ⟨_, rfl, a, _, rfl, .inr (SqT.of ha), rfl, _, rfl, ite2 (fun e => iteT (fin _ _ s3 ?_)) (fun e => ?_)⟩
    · have := neI_t e
      rw [List.length_cons] at this
      simp only [wth]
      rw [tag_str, decide_eq_false (by omega)]
      rfl
    have l3 := neI_f e
    rw [List.length_cons] at l3
    refine ⟨_, rfl, a, _, _, _, rfl, rfl, SqT.of ha, hix, rfl, _, rfl, ite2 (fun e => iteT (fin _ _ s3 ?_)) (fun e => ?_)⟩
    · simp only [wth]
      rw [tag_str, decide_eq_false (neS_t e), Bool.and_false]
      rfl
    obtain rfl := neS_f e
    obtain ⟨y1, w1, rfl, rfl, h1⟩ := dd_one hys (by omega)
    have ew : wth sz (.lst ta) (.tup [.str "list", y1]) = (y1.isTup && (its y1).all (wth sz ta)) := by
      simp only [wth]
      rw [tag_str]
      rfl
    refine ⟨_, rfl, a, _, _, _, rfl, rfl, SqT.of ha, atI_nat (j := 1) rfl, _, _, _, _, y1.isTup, rfl, .ty "tuple", h1.ty, kTup K y1, _, rfl, ite2 (fun e => fin _ _ s3 ?_) (fun e => ?_)⟩
    · rw [ew, show y1.isTup = false by simpa using e]
      rfl
    obtain ⟨xs, rfl⟩ : ∃ xs, y1 = .tup xs := by
      cases y1 with
      | tup xs => exact ⟨xs, rfl⟩
      | _ => exact absurd rfl e
    obtain ⟨b, us, rfl, hb, hLx⟩ := Kv.Dd.tupS h1
    have ew : wth sz (.lst ta) (.tup [.str "list", .tup xs]) = xs.all (wth sz ta) := ew
    have hwx : Dt.wts [Dt.tup xs] = (Dt.tup xs).wt + 2 := by simp only [Dt.wts, Nat.add_zero]
    have hwx2 : (Dt.tup xs).wt = Dt.wts xs + 3 := by simp only [Dt.wt]
    have l1 := len_szs xs
    have l2 := Dt.szs_wts xs
    have hlx := hLx.len
    have hn2 : ta.dp + 1 + 1 ≤ n + 1 := hn
    refine ⟨_, rfl, a, _, _, _, rfl, rfl, SqT.of ha, atI_nat (j := 1) rfl, b, rfl, ⟨_, SqT.of hb⟩, fun D nD => ?_⟩
    have hbD : b ≠ D := ne_of_none hb nD
    have hD : H D = none := s3.free nD
    refine lc_tup (xs := us) (fun i F => Same H3 F ∧ ∃ zs, F D = some (.lst zs) ∧ zs.length ≤ i ∧ zs.isEmpty = (xs.take i).all (wth sz ta)) ?_ (fun i F _ z => SqT.of (z.1 _ _ hb)) (fun i u F hu z => ?_) (fun F z => ?_)
    · exact ⟨newS nD, [], upd_same, Nat.zero_le _, rfl⟩
    · obtain ⟨sF, zs, gD, lz, al⟩ := z
      obtain ⟨d, hd', rd⟩ := hLx.get hu
      have md := wts_mem (List.mem_of_getElem? hd')
      have li := (List.getElem?_eq_some_iff.mp hu).1
      refine ⟨rfl, _, rfl, ka, _, _, _, rfl, rfl, SqT.of (sF _ _ hk4), atI_nat (j := 1) rfl, _, rfl, _, rfl, kx, p, u, ta, sz, d, rfl, by omega, hdt, rka.tk (Tk.of sF), hz3.same sF, hnd, rd.same sF, by omega, fun F2 sF2 => ⟨_, rfl, ite2 (fun e => ?_) (fun e => ?_)⟩⟩
      · refine ⟨_, rfl, zs, sF2 _ _ gD, by omega, smk (sF.trans sF2) nD, _, upd_same, ?_, ?_⟩
        · rw [List.length_append, List.length_singleton]
          omega
        · rw [take_all_no hd' (by simpa using e), app_ne]
      · exact ⟨sF.trans sF2, zs, sF2 _ _ gD, by omega, by rw [al, take_all_yes hd' (by simpa using e)]⟩
    · obtain ⟨sF, zs, gD, lz, al⟩ := z
      rw [← hlx, List.take_length] at al
      refine ⟨Nat.zero_le _, fun e ne => ⟨D, e, zs, rfl, rfl, SqL.of (newS ne _ _ gD), SqL.of upd_same, fin _ _ ((s3.trans sF).trans (newS (o := .lst []) ne)) ?_⟩⟩
      rw [ew, al]
  | pair ta tb =>
    refine ite2 (fun e => absurd e (wne (by simp only [Kd.word]; decide +kernel))) (fun _ => ?_)
    refine ⟨_, rfl, ka, _, _, _, rfl, rfl, SqT.of hk3, atI_nat (j := 0) rfl, rfl, _, rfl, ite2 (fun e => absurd e (wne (by simp only [Kd.word]; decide +kernel))) (fun _ => ?_)⟩
    refine ⟨_, rfl, ka, _, _, _, rfl, rfl, SqT.of hk3, atI_nat (j := 0) rfl, rfl, _, rfl, ite2 (fun _ => ?_) (fun e => absurd (decide_eq_true rfl) e)⟩
    obtain ⟨ka', kx, ky, ek, hk4, rka, rkb⟩ := rk3
    obtain rfl : ka = ka' := V.ref.inj ek
    obtain ⟨d1, d2⟩ := Bool.and_eq_true_iff.mp hdt
    have hn2 : max ta.dp tb.dp + 1 + 1 ≤ n + 1 := hn
    refine ⟨_, rfl, a, _, rfl, .inr (SqT.of ha), rfl, _, rfl, ite2 (fun e => iteT (fin _ _ s3 ?_)) (fun e => ?_)⟩
    · have := neI_t e
      rw [List.length_cons] at this
      simp only [wth]
      rw [tag_str, decide_eq_false (by omega)]
      rfl
    have l3 := neI_f e
    rw [List.length_cons] at l3
    refine ⟨_, rfl, a, _, _, _, rfl, rfl, SqT.of ha, hix, rfl, _, rfl, ite2 (fun e => fin _ _ s3 ?_) (fun e => ?_)⟩
    · simp only [wth]
      rw [tag_str, decide_eq_false (neS_t e), Bool.and_false]
      rfl
    obtain rfl := neS_f e
    obtain ⟨y1, y2, w1, w2, rfl, rfl, h1, h2⟩ := dd_two hys (by omega)
    have hw2 : Dt.wts [y1, y2] = y1.wt + 2 + (y2.wt + 2) := by simp only [Dt.wts, Nat.add_zero]
    have ew : wth sz (.pair ta tb) (.tup [.str "pair", y1, y2]) = (wth sz ta y1 && wth sz tb y2) := by
      simp only [wth]
      rw [tag_str]
      rfl
    refine ⟨_, rfl, ka, _, _, _, rfl, rfl, SqT.of hk4, atI_nat (j := 1) rfl, _, rfl, _, rfl, a, _, _, _, rfl, rfl, SqT.of ha, atI_nat (j := 1) rfl, kx, p, w1, ta, sz, y1, rfl, by omega, d1, rka, hz3, hnd, h1, by omega, fun G sG => ⟨_, rfl, ite2 (fun e => ?_) (fun e => fin _ _ (s3.trans sG) ?_)⟩⟩
    · refine ⟨_, rfl, ka, _, _, _, rfl, rfl, SqT.of (sG _ _ hk4), atI_nat (j := 2) rfl, _, rfl, _, rfl, a, _, _, _, rfl, rfl, SqT.of (sG _ _ ha), atI_nat (j := 2) rfl, ky, p, w2, tb, sz, y2, rfl, by omega, d2, rkb.tk (Tk.of sG), hz3.same sG, hnd, h2.same sG, by omega, fun G2 s2' => fin _ _ ((s3.trans sG).trans s2') ?_⟩
      rw [ew, e, Bool.true_and]
    · rw [ew, show wth sz ta y1 = false by simpa using e]
      rfl
  | eith ta tb =>
    refine ite2 (fun e => absurd e (wne (by simp only [Kd.word]; decide +kernel))) (fun _ => ?_)
    refine ⟨_, rfl, ka, _, _, _, rfl, rfl, SqT.of hk3, atI_nat (j := 0) rfl, rfl, _, rfl, ite2 (fun e => absurd e (wne (by simp only [Kd.word]; decide +kernel))) (fun _ => ?_)⟩
    refine ⟨_, rfl, ka, _, _, _, rfl, rfl, SqT.of hk3, atI_nat (j := 0) rfl, rfl, _, rfl, ite2 (fun e => absurd e (wne (by simp only [Kd.word]; decide +kernel))) (fun _ => ?_)⟩
    obtain ⟨ka', kx, ky, ek, hk4, rka, rkb⟩ := rk3
    obtain rfl : ka = ka' := V.ref.inj ek
    obtain ⟨d1, d2⟩ := Bool.and_eq_true_iff.mp hdt
    have hn2 : max ta.dp tb.dp + 1 + 1 ≤ n + 1 := hn
    refine ⟨_, rfl, a, _, rfl, .inr (SqT.of ha), rfl, _, rfl, ite2 (fun e => iteT (fin _ _ s3 ?_)) (fun e => ?_)⟩
    · have := neI_t e
      rw [List.length_cons] at this
      simp only [wth]
      rw [tag_str, tag_str, decide_eq_false (by omega)]
      rfl
    have l3 := neI_f e
    rw [List.length_cons] at l3
    obtain ⟨y1, w1, rfl, rfl, h1⟩ := dd_one hys (by omega)
    have hw2 : Dt.wts [y1] = y1.wt + 2 := by simp only [Dt.wts, Nat.add_zero]
    have ew : wth sz (.eith ta tb) (.tup [.str wd, y1]) = if wd = "left" then wth sz ta y1 else decide (wd = "right") && wth sz tb y1 := by
      simp only [wth]
      rw [tag_str, tag_str]
      by_cases c : wd = "left"
      · rw [if_pos c, decide_eq_true c]
        rfl
      · rw [if_neg c, decide_eq_false c]
        rfl
    refine ⟨_, rfl, a, _, _, _, rfl, rfl, SqT.of ha, hix, (by show 2 ≤ sizeLine; decide), fun p4 np4 => ⟨p4, _, rfl, .inr (SqT.of upd_same), rfl, rfl, _, rfl, ?_⟩⟩
    have s4 := newS (o := .tup [V.str "left", V.str "right"]) np4
    have ha4 := s4 _ _ ha
    have hk5 := s4 _ _ hk4
    have hz4 := hz3.same s4
    have h14 := h1.same s4
    have rka4 := rka.tk (Tk.of s4)
    have rkb4 := rkb.tk (Tk.of s4)
    have s34 := s3.trans s4
    generalize upd H3 p4 (.tup [V.str "left", V.str "right"]) = H4 at ha4 hk5 hz4 h14 rka4 rkb4 s34
    show if (!inV (V.str wd) [V.str "left", V.str "right"]) = true then _ else _
    rw [in2]
    refine ite2 (fun e => fin _ _ s34 ?_) (fun e => ?_)
    · have e2 : decide (wd = "left") = false ∧ decide (wd = "right") = false := by simpa using e
      rw [ew, if_neg (of_decide_eq_false e2.1), e2.2]
      rfl
    refine ⟨_, rfl, _, rfl, a, _, _, _, rfl, rfl, SqT.of ha4, hix, rfl, .inr ⟨_, rfl, _, _, rfl, rfl, ?_⟩⟩
    by_cases c : wd = "left"
    · subst c
      refine ⟨ka, _, _, kx, rfl, rfl, SqT.of hk5, rfl, _, rfl, _, rfl, a, _, _, _, rfl, rfl, SqT.of ha4, atI_nat (j := 1) rfl, kx, p, w1, ta, sz, y1, rfl, by omega, d1, rka4, hz4, hnd, h14, by omega, fun G sG => fin _ _ (s34.trans sG) ?_⟩
      rw [ew, if_pos rfl]
    · have c2 : wd = "right" := by
        by_cases c2 : wd = "right"
        · exact c2
        · exact absurd (by simp [c, c2]) e
      subst c2
      refine ⟨ka, _, _, ky, rfl, rfl, SqT.of hk5, rfl, _, rfl, _, rfl, a, _, _, _, rfl, rfl, SqT.of ha4, atI_nat (j := 1) rfl, ky, p, w1, tb, sz, y1, rfl, by omega, d2, rkb4, hz4, hnd, h14, by omega, fun G sG => fin _ _ (s34.trans sG) ?_⟩
      rw [ew, if_neg c, decide_eq_true rfl, Bool.true_and]
theorem okLWorth {f fN : Addr} {fd fdN : FuncData} (F : Fun K "_law_is_worth" "_law_is_worth" tLWorth f fd) (bF : Binds K fd psLW []) (gF : mg "_law_is_worth" = some (.ref f))
    (FN : Fun K "_law_is_number" "_law_is_number" tLNumber fN fdN) (bN : Binds K fdN ["_law_thing"] []) (gN : mg "_law_is_number" = some (.ref fN))
    (mi : mg "isinstance" = none) (mb : mg "bool" = none) (mt : mg "tuple" = none) (ms : mg "str" = none) (ml : mg "len" = none) (mn : mg "int" = none) (md : mg "dict" = none) : ∀ n, FnOk P w K mg base CX0 (n + 2) f fd psLW (spLW n)
  | 0 => noFn fun vs H Q E h => by
    obtain ⟨vk, p, vx, t, sz, x, _, hn, _⟩ := h
    omega
  | n + 1 => okLWorth1 F bF gF (okLNumber FN mi mb mn) bN gN FN.kp mi mt ms ml mn md (okLWorth F bF gF FN bN gN mi mb mt ms ml mn md n)
end
end Kq

namespace Kq
open PySem PySem.Spec PyProof.Rows L2 Kf Kg Kv GxR
abbrev tSizes : Stmt := tp 38
abbrev psSizes : List Str := ["_law_deck_here", "_law_opens", "_law_most"]
abbrev nSizes : List Str := ["_law_deck_here", "_law_opens", "_law_most", "_law_found", "_law_name", "_law_many_here"]
/-- sizes of names, each within bounds -/
structure SzB (sz : List (Str × Int)) : Prop where
  nd : (sz.map (·.1)).Nodup
  lo : ∀ kv ∈ sz, 0 ≤ kv.2
  hi : ∀ kv ∈ sz, kv.2 < 4
theorem look_in (sz : List (Str × Int)) (n : Str) : look sz n = 0 ∨ ∃ kv ∈ sz, look sz n = kv.2 := by
  unfold look
  cases e : sz.find? (fun p => decide (p.1 = n)) with
  | none => exact .inl rfl
  | some kv => exact .inr ⟨kv, List.mem_of_find?_eq_some e, rfl⟩
theorem SzB.look {sz : List (Str × Int)} (h : SzB sz) (n : Str) : 0 ≤ Kq.look sz n ∧ Kq.look sz n < 4 := by
  rcases look_in sz n with e | ⟨kv, hm, e⟩
  · rw [e]
    decide
  · rw [e]
    exact ⟨h.lo kv hm, h.hi kv hm⟩
section
variable {P : Program} {w : World} {K : PySem.W.Frag} {mg : Str → Option Value} {base : Heap}
theorem scSizes : FnScope nSizes psSizes (defScope tSizes) := ⟨rfl, rfl, rfl, by decide +kernel, rfl, by decide +kernel, by decide +kernel⟩
def spSizes : Sp := fun vs H Q _ => ∃ (d c o : Addr) (xs : List Str) (m : Int), vs = [.ref d, .ref o, .int m] ∧ Dk H d c ∧ H o = some (.lst (xs.map V.str)) ∧ o ≠ d ∧ o ≠ c ∧ xs.length ≤ 26 ∧ xs.Nodup ∧ 0 ≤ m ∧ m ≤ 3 ∧
  ∀ (p : Addr) (sz : List (Str × Int)) (G : Hp), Kp d c H G → Dk G d c → Sz G p sz → SzB sz → Q (.ref p) G
theorem okSizes {f fD : Addr} {fd fdD : FuncData} {k : Nat} (F : Fun K "_law_sizes" "_law_sizes" tSizes f fd)
    (GD : FnOk P w K mg base CX0 (k + 2) fD fdD ["_law_deck_here", "_law_most"] spDraw) (bD : Binds K fdD ["_law_deck_here", "_law_most"] []) (gD : mg "_law_draw" = some (.ref fD)) (kD : PySem.W.keepIn K (.ref fD) = true)
    (ms : mg "sorted" = none) (mt : mg "tuple" = none) (mn : mg "int" = none) : FnOk P w K mg base CX0 (k + 3) f fd psSizes spSizes := by
  refine F.ok scSizes (fun vs H Q E h => ?_) (fun cdv A outer s H vs Q E hr h => ?_)
  · obtain ⟨d, c, o, xs, m, rfl, _⟩ := h
    rfl
  obtain ⟨d, c, o, xs, m, rfl, dk, ho, od, oc, lx, nx, m0, m1, q⟩ := h
  refine ⟨_, pss_cons (ps_set (i := 3) scSizes.nd rfl (.inl rfl) (pe_lst pa_nil))
    (pss_cons (ps_for PassesOwn.never rfl (pi_list (pe_callB cr_sortedS (by rfl) ms PyProof.Rows.boot_sorted (pa_cons (pv 1) pa_nil))) (pg_name (i := 4) scSizes.nd rfl (.inl rfl))
      (pss_cons (ps_set (i := 5) scSizes.nd rfl (.inl rfl) (pe_call GD hr (by rfl) gD kD bD .nil pass0 (pa_cons (pv 0) (pa_cons (pe_op op_add (pv 2) pe_int) pa_nil))))
      (pss_one (ps_if (pt_cmpR op_gt (pe_call GD hr (by rfl) gD kD bD .nil pass0 (pa_cons (pv 0) (pa_cons pe_int pa_nil))) pe_int (nomark _))
        (pss_one (ps_expr (pe_bm PySem.F.plainAttrs_list PySem.F.slot_list_append PySem.F.type_list_append mt_append (pv 3) (pa_cons (pe_tup (pa_cons (pv 4) (pa_cons (pv 5) pa_nil))) pa_nil)))) pss_nil))))
    (pss_one (ps_ret (pe_callTy Kt.call_tupleF (by rfl) mt PyProof.Rows.boot_tuple (pa_cons (pv 3) pa_nil))))), ?_⟩
  refine ⟨Nat.zero_le _, fun L nL => ?_⟩
  have sL := newS (o := .lst []) nL
  have offL := dk.off nL
  refine ⟨_, rfl, o, xs, rfl, SqL.of (sL _ _ ho), by omega, fun ys S pm hs nS => ⟨S, rfl, ⟨_, SqL.of upd_same⟩, ?_⟩⟩
  have sS := newS (o := .lst (ys.map V.str)) nS
  have dkS := dk.same (sL.trans sS)
  have offS := (dk.same sL).off nS
  have LS : L ≠ S := ne_of_none upd_same nS
  have hS : H S = none := sL.free nS
  have yn : ys.Nodup := pm.nodup_iff.mpr nx
  have ly : ys.length = xs.length := pm.length_eq
  refine for_list (xs := ys.map V.str) (fun i σ G => ∃ (y4 y5 : Option V) (ps : List Addr) (sz : List (Str × Int)), σ = [some (.ref d), some (.ref o), some (.int m), some (.ref L), y4, y5] ∧ Kp d c H G ∧ Dk G d c ∧ G S = some (.lst (ys.map V.str)) ∧
      G L = some (.lst (ps.map V.ref)) ∧ Paired (fun q (kv : Str × Int) => G q = some (.tup [.str kv.1, .int kv.2])) ps sz ∧ (sz.map (·.1)).Sublist (ys.take i) ∧ ∀ kv ∈ sz, 0 ≤ kv.2 ∧ kv.2 < m + 1) ?_ (fun i σ G _ z => ?_) (fun i x σ G hx z => ?_) (fun σ G z => ?_)
  · exact ⟨none, none, [], [], rfl, Kp.of (sL.trans sS), dkS, upd_same, sS L _ upd_same, .nil, List.nil_sublist _, fun kv z => (nomatch z)⟩
  · obtain ⟨_, _, _, _, _, _, _, gS, _⟩ := z
    exact SqL.of gS
  · obtain ⟨y4, y5, ps, sz, rfl, kpG, dkG, gS, gL, pr, sub, hb⟩ := z
    rw [List.getElem?_map] at hx
    cases hy : ys[i]? with
    | none => rw [hy] at hx; cases hx
    | some y =>
      rw [hy] at hx
      obtain rfl := Option.some.inj hx
      have tk : ys.take (i + 1) = ys.take i ++ [y] := by rw [List.take_add_one, hy]; rfl
      refine ⟨_, rfl, _, rfl, _, _, rfl, rfl, d, c, m + 1, rfl, dkG, by omega, by omega, fun mm G3 a0 a1 kp1 dk3 => ?_⟩
      have kpA : Kp d c G G3 := kp1
      have tkA : Tk G G3 := Tk.kp kp1 dkG
      refine ⟨_, rfl, d, c, 6, rfl, dk3, by decide, by decide, fun r4 G4 d0 d1 kp4 dk4 => ⟨_, _, rfl, rfl, _, rfl, ?_⟩⟩
      have kpB := kpA.trans kp4
      have tkB := tkA.trans (Tk.kp kp4 dk3)
      have gS4 := kpB S _ offS.1 offS.2 gS
      have gL4 := kpB L _ offL.1 offL.2 gL
      have pr4 : Paired (fun q (kv : Str × Int) => G4 q = some (.tup [.str kv.1, .int kv.2])) ps sz := Paired.mono (fun _ _ e => tkB _ _ e) pr
      refine ite2 (fun _ => ?_) (fun _ => ⟨_, _, ps, sz, rfl, kpG.trans kpB, dk4, gS4, gL4, pr4, by rw [tk]; exact sub.trans (List.sublist_append_left _ _), hb⟩)
      refine ⟨_, rfl, .inl ⟨rfl, _, SqL.of gL4⟩, _, rfl, _, rfl, (by show 2 ≤ sizeLine; decide), fun T nT => ?_⟩
      have sT := newS (o := .tup [.str y, .int mm]) nT
      have gLT := sT _ _ gL4
      have lps := Paired.len pr
      have lsz := sub.length_le
      rw [List.length_map, List.length_take] at lsz
      refine ⟨L, _, _, rfl, rfl, gLT, ?_, _, _, ps ++ [T], sz ++ [(y, mm)], rfl, ((kpG.trans kpB).trans (Kp.of sT)).mk (Kp.free Kp.rfl dk nL), (dk4.same sT).put offL.1 offL.2, ?_, ?_, ?_, ?_, ?_⟩
      · rw [List.length_map]
        exact small1000 (by omega)
      · rw [upd_ne LS.symm]
        exact sT _ _ gS4
      · rw [upd_same, List.map_append]
        rfl
      · have kT : Tk (upd G4 T (.tup [.str y, .int mm])) (upd (upd G4 T (.tup [.str y, .int mm])) L (.lst (ps.map V.ref ++ [.ref T]))) := Tk.rfl.put (fun _ z => by rw [gLT] at z; cases z)
        exact Paired.snoc (Paired.mono (fun _ _ e => kT _ _ (sT _ _ e)) pr4) (kT _ _ upd_same)
      · rw [tk, List.map_append]
        exact List.Sublist.append sub (List.Sublist.refl _)
      · intro kv hkv
        rcases List.mem_append.mp hkv with z | z
        · exact hb kv z
        · rw [List.mem_singleton.mp z]
          exact ⟨a0, by show mm < m + 1; omega⟩
  · obtain ⟨y4, y5, ps, sz, rfl, kpG, dkG, gS, gL, pr, sub, hb⟩ := z
    rw [List.length_map, List.take_length] at sub
    refine ⟨_, rfl, L, _, rfl, SqL.of gL, fun l ob nl od oc => ?_⟩
    have sl := newS (o := .frz ob (.tup (ps.map V.ref))) nl
    exact q l sz _ (kpG.trans (Kp.of sl)) (dkG.same sl) ⟨ob, ps, upd_same, od, oc, Paired.mono (fun _ _ e => sl _ _ e) pr⟩ ⟨yn.sublist sub, fun kv h => (hb kv h).1, fun kv h => by have := (hb kv h).2; omega⟩
end
end Kq

/-! how many worths, all worths in order -/
namespace Kq
open PySem PySem.Spec PyProof.Rows L2 Kf Kg Kv GxR
def cutN (n : Nat) : Nat := min n 301
theorem cutN_le (n : Nat) : cutN n ≤ 301 := Nat.min_le_right _ _
theorem cutN_lo {n : Nat} (h : n ≤ 301) : cutN n = n := Nat.min_eq_left h
theorem cutN_hi {n : Nat} (h : 301 ≤ n) : cutN n = 301 := Nat.min_eq_right h
theorem cutN_add (a b : Nat) : cutN (cutN a + cutN b) = cutN (a + b) := by
  unfold cutN
  omega
theorem cutN_add1 (a b : Nat) : cutN (cutN a + b) = cutN (a + b) := by
  unfold cutN
  omega
theorem cutN_mul (a b : Nat) : cutN (cutN a * cutN b) = cutN (a * b) := by
  by_cases ha : a ≤ 301
  · rw [cutN_lo ha]
    by_cases hb : b ≤ 301
    · rw [cutN_lo hb]
    · rw [cutN_hi (n := b) (by omega)]
      cases a with
      | zero => simp
      | succ a =>
        rw [cutN_hi, cutN_hi]
        · exact Nat.le_trans (by omega : 301 ≤ 1 * b) (Nat.mul_le_mul_right b (by omega))
        · exact Nat.le_trans (by omega : 301 ≤ 1 * 301) (Nat.mul_le_mul_right 301 (by omega))
  · rw [cutN_hi (n := a) (by omega)]
    cases hb : b with
    | zero => simp [cutN]
    | succ c =>
      rw [cutN_hi, cutN_hi]
      · exact Nat.le_trans (by omega : 301 ≤ a * 1) (Nat.mul_le_mul_left a (by omega))
      · have : 1 ≤ cutN (c + 1) := by unfold cutN; omega
        exact Nat.le_trans (by omega : 301 ≤ 301 * 1) (Nat.mul_le_mul_left 301 this)
/-- runs of fewer than j, of m worths -/
def gm (m : Nat) : Nat → Nat
  | 0 => 0
  | j + 1 => gm m j * m + 1
theorem gm_next (m : Nat) : ∀ j, gm m (j + 1) = gm m j + m ^ j
  | 0 => by simp [gm]
  | j + 1 => by
    have e : m ^ (j + 1) = m ^ j * m := Nat.pow_succ m j
    have d : gm m (j + 1) = gm m j * m + 1 := rfl
    show gm m (j + 1) * m + 1 = gm m (j + 1) + m ^ (j + 1)
    rw [e]
    conv => lhs; rw [gm_next m j, Nat.add_mul]
    omega
theorem gm_mono (m : Nat) : ∀ {i j}, i ≤ j → gm m i ≤ gm m j
  | i, 0, h => by rw [Nat.le_zero.mp h]; exact Nat.le_refl _
  | i, j + 1, h => by
    rcases Nat.lt_or_eq_of_le h with h | rfl
    · have := gm_mono m (i := i) (j := j) (by omega)
      rw [gm_next]
      omega
    · exact Nat.le_refl _
theorem gm_le {m n : Nat} (h : m ≤ n) : ∀ j, gm m j ≤ gm n j
  | 0 => Nat.le_refl _
  | j + 1 => by
    have := Nat.mul_le_mul (gm_le h j) h
    show gm m j * m + 1 ≤ gm n j * n + 1
    omega
theorem gm_cut (m b : Nat) : cutN (gm (cutN m) (b + 1)) = cutN (gm m (b + 1)) := by
  by_cases h : m ≤ 301
  · rw [cutN_lo h]
  rw [cutN_hi (n := m) (by omega)]
  cases b with
  | zero => simp [gm]
  | succ b =>
    have k : ∀ n, 301 ≤ n → 301 ≤ gm n (b + 1 + 1) := fun n hn => by
      have h1 := gm_mono n (i := 2) (j := b + 1 + 1) (by omega)
      have h2 : gm n 2 = n + 1 := by simp [gm]
      omega
    rw [cutN_hi (k 301 (Nat.le_refl _)), cutN_hi (k m (by omega))]
/-- how many worths -/
def mny (sz : List (Str × Int)) (b : Nat) : Kd → Nat
  | .opn n => (look sz n).toNat
  | .num => b + 1
  | .tru => 2
  | .pair s t => mny sz b s * mny sz b t
  | .eith s t => mny sz b s + mny sz b t
  | .lst s => gm (mny sz b s) (b + 1)
  | .fn s t => mny sz b t ^ mny sz b s
/-- runs of items, in order -/
def runs (xs : List Dt) : Nat → List (List Dt)
  | 0 => [[]]
  | l + 1 => (runs xs l).flatMap fun r => xs.map fun y => r ++ [y]
/-- a table's rows -/
def rows (xs ys : List Dt) : List Dt := List.zipWith (fun x y => .tup [x, y]) xs ys
/-- all worths, in order -/
def lw (sz : List (Str × Int)) (b : Nat) : Kd → List Dt
  | .opn n => (List.range (look sz n).toNat).map fun i => .tup [.str "thing", .str n, .int (i : Nat)]
  | .num => (List.range (b + 1)).map fun i => .int (i : Nat)
  | .tru => [.bl false, .bl true]
  | .pair s t => (lw sz b s).flatMap fun x => (lw sz b t).map fun y => .tup [.str "pair", x, y]
  | .eith s t => (lw sz b s).map (fun x => .tup [.str "left", x]) ++ (lw sz b t).map fun x => .tup [.str "right", x]
  | .lst s => (List.range (b + 1)).flatMap fun l => (runs (lw sz b s) l).map fun r => .tup [.str "list", .tup r]
  | .fn s t => (runs (lw sz b t) (mny sz b s)).map fun r => .tup [.str "table", .tup (rows (lw sz b s) r)]
theorem flat_len {α β : Type} {n : Nat} {f : α → List β} (h : ∀ a, (f a).length = n) : ∀ xs : List α, (xs.flatMap f).length = xs.length * n
  | [] => by simp
  | x :: xs => by
    rw [List.flatMap_cons, List.length_append, flat_len h xs, h, List.length_cons, Nat.add_mul]
    omega
theorem runs_len (xs : List Dt) : ∀ l, (runs xs l).length = xs.length ^ l
  | 0 => rfl
  | l + 1 => by
    show ((runs xs l).flatMap _).length = _
    rw [flat_len (n := xs.length) (fun r => List.length_map _), runs_len xs l, Nat.pow_succ]
theorem runs_each {xs : List Dt} : ∀ {l : Nat} {r : List Dt}, r ∈ runs xs l → r.length = l ∧ ∀ x ∈ r, x ∈ xs
  | 0, r, h => by
    rw [List.mem_singleton.mp h]
    exact ⟨rfl, fun x h => nomatch h⟩
  | l + 1, r, h => by
    obtain ⟨q, hq, hr⟩ := List.mem_flatMap.mp h
    obtain ⟨y, hy, rfl⟩ := List.mem_map.mp hr
    obtain ⟨h1, h2⟩ := runs_each hq
    refine ⟨by rw [List.length_append, h1]; rfl, fun x hx => ?_⟩
    rcases List.mem_append.mp hx with hx | hx
    · exact h2 x hx
    · rw [List.mem_singleton.mp hx]
      exact hy
theorem range_succ_flat {α : Type} (f : Nat → List α) (n : Nat) : (List.range (n + 1)).flatMap f = (List.range n).flatMap f ++ f n := by
  rw [List.range_succ, List.flatMap_append]
  simp
theorem lists_len (xs : List Dt) : ∀ b, ((List.range b).flatMap fun l => (runs xs l).map fun r => Dt.tup [.str "list", .tup r]).length = gm xs.length b
  | 0 => rfl
  | b + 1 => by
    rw [range_succ_flat, List.length_append, lists_len xs b, List.length_map, runs_len, gm_next]
theorem lw_len (sz : List (Str × Int)) (b : Nat) : ∀ t : Kd, (lw sz b t).length = mny sz b t
  | .opn n => by simp [lw, mny]
  | .num => by simp [lw, mny]
  | .tru => rfl
  | .pair s t => by
    show ((lw sz b s).flatMap _).length = _
    rw [flat_len (n := mny sz b t) (fun x => by rw [List.length_map, lw_len sz b t]), lw_len sz b s]
    rfl
  | .eith s t => by
    show (_ ++ _ : List Dt).length = mny sz b s + mny sz b t
    rw [List.length_append, List.length_map, List.length_map, lw_len sz b s, lw_len sz b t]
  | .lst s => by
    show ((List.range (b + 1)).flatMap _).length = gm (mny sz b s) (b + 1)
    rw [lists_len, lw_len sz b s]
  | .fn s t => by
    show ((runs (lw sz b t) (mny sz b s)).map _).length = mny sz b t ^ mny sz b s
    rw [List.length_map, runs_len, lw_len sz b t]
/-- they are worths -/
theorem lw_wth {sz : List (Str × Int)} {b : Nat} : ∀ {t : Kd} {x : Dt}, t.data = true → x ∈ lw sz b t → wth sz t x = true
  | .opn n, x, _, h => by
    obtain ⟨i, hi, rfl⟩ := List.mem_map.mp h
    have hi := List.mem_range.mp hi
    have e : decide (0 ≤ ((i : Nat) : Int)) = true ∧ decide (((i : Nat) : Int) < look sz n) = true := ⟨decide_eq_true (by omega), decide_eq_true (by omega)⟩
    show ((decide ([Dt.str n, .int (i : Nat)].length = 2) && decide (("thing" : Str) = "thing")) && (decide (n = n) && (decide (0 ≤ ((i : Nat) : Int)) && decide (((i : Nat) : Int) < look sz n)))) = true
    rw [e.1, e.2, decide_eq_true (rfl : n = n)]
    rfl
  | .num, x, _, h => by
    obtain ⟨i, hi, rfl⟩ := List.mem_map.mp h
    exact decide_eq_true (show (0 : Int) ≤ (i : Nat) by omega)
  | .tru, x, _, h => by
    have h : x = .bl false ∨ x = .bl true := by simpa [lw] using h
    rcases h with rfl | rfl <;> rfl
  | .pair s t, x, hd, h => by
    obtain ⟨d1, d2⟩ := Bool.and_eq_true_iff.mp (show (s.data && t.data) = true from hd)
    obtain ⟨a, ha, hx⟩ := List.mem_flatMap.mp h
    obtain ⟨c, hc, rfl⟩ := List.mem_map.mp hx
    show (true && (wth sz s a && wth sz t c)) = true
    rw [lw_wth d1 ha, lw_wth d2 hc]
    rfl
  | .eith s t, x, hd, h => by
    obtain ⟨d1, d2⟩ := Bool.and_eq_true_iff.mp (show (s.data && t.data) = true from hd)
    rcases List.mem_append.mp h with h | h
    · obtain ⟨a, ha, rfl⟩ := List.mem_map.mp h
      show (if (decide ([a].length = 1) && decide (("left" : Str) = "left")) = true then wth sz s a else _) = true
      rw [if_pos (by simp)]
      exact lw_wth d1 ha
    · obtain ⟨a, ha, rfl⟩ := List.mem_map.mp h
      show (if (true && decide (("right" : Str) = "left")) = true then _ else (true && decide (("right" : Str) = "right")) && wth sz t a) = true
      rw [if_neg (by decide), lw_wth d2 ha]
      rfl
  | .lst s, x, hd, h => by
    obtain ⟨l, hl, hx⟩ := List.mem_flatMap.mp h
    obtain ⟨r, hr, rfl⟩ := List.mem_map.mp hx
    show (true && (true && r.all (wth sz s))) = true
    rw [Bool.true_and, Bool.true_and, List.all_eq_true]
    exact fun y hy => lw_wth (t := s) hd ((runs_each hr).2 y hy)
  | .fn _ _, x, hd, _ => nomatch hd
/-- how heavy they are -/
def wB : Nat → Nat
  | 0 => 200
  | n + 1 => 3 * wB n + 200
theorem wB_pos (n : Nat) : 200 ≤ wB n := by
  cases n with
  | zero => exact Nat.le_refl _
  | succ n =>
    show 200 ≤ 3 * wB n + 200
    omega
theorem wB_mono {i : Nat} : ∀ {j}, i ≤ j → wB i ≤ wB j
  | 0, h => by rw [Nat.le_zero.mp h]; exact Nat.le_refl _
  | j + 1, h => by
    rcases Nat.lt_or_eq_of_le h with h | rfl
    · have := wB_mono (i := i) (j := j) (by omega)
      show _ ≤ 3 * wB j + 200
      omega
    · exact Nat.le_refl _
theorem wts_all {W : Nat} : ∀ {xs : List Dt}, (∀ x ∈ xs, x.wt ≤ W) → Dt.wts xs ≤ xs.length * (W + 2)
  | [], _ => by simp only [Dt.wts]; omega
  | x :: xs, h => by
    have h1 := h x List.mem_cons_self
    have h2 := wts_all fun y hy => h y (List.mem_cons_of_mem _ hy)
    simp only [Dt.wts]
    rw [List.length_cons, Nat.add_mul]
    omega
theorem lw_wt {sz : List (Str × Int)} {b : Nat} (hb : b ≤ 3) : ∀ {t : Kd} {x : Dt}, t.data = true → (∀ n ∈ t.opens, Nm n) → x ∈ lw sz b t → x.wt ≤ wB t.dp
  | .opn n, x, _, hn, h => by
    obtain ⟨i, hi, rfl⟩ := List.mem_map.mp h
    have l : n.length ≤ 8 := (hn n (List.mem_singleton.mpr rfl)).few
    have e : ("thing" : Str).length = 5 := by decide +kernel
    simp only [Dt.wt, Dt.wts, e]
    show _ ≤ 200
    omega
  | .num, x, _, _, h => by
    obtain ⟨i, hi, rfl⟩ := List.mem_map.mp h
    show 52 ≤ 200
    decide
  | .tru, x, _, _, h => by
    have h : x = .bl false ∨ x = .bl true := by simpa [lw] using h
    rcases h with rfl | rfl <;> (show 5 ≤ 200; decide)
  | .pair s t, x, hd, hn, h => by
    obtain ⟨d1, d2⟩ := Bool.and_eq_true_iff.mp (show (s.data && t.data) = true from hd)
    obtain ⟨a, ha, hx⟩ := List.mem_flatMap.mp h
    obtain ⟨c, hc, rfl⟩ := List.mem_map.mp hx
    have h1 := lw_wt hb d1 (fun n hn' => hn n (List.mem_append_left _ hn')) ha
    have h2 := lw_wt hb d2 (fun n hn' => hn n (List.mem_append_right _ hn')) hc
    have m1 := wB_mono (Nat.le_max_left s.dp t.dp)
    have m2 := wB_mono (Nat.le_max_right s.dp t.dp)
    have e : ("pair" : Str).length = 4 := by decide +kernel
    have p := wB_pos (max s.dp t.dp)
    simp only [Dt.wt, Dt.wts, e]
    show _ ≤ 3 * wB (max s.dp t.dp) + 200
    omega
  | .eith s t, x, hd, hn, h => by
    obtain ⟨d1, d2⟩ := Bool.and_eq_true_iff.mp (show (s.data && t.data) = true from hd)
    have p := wB_pos (max s.dp t.dp)
    have m1 := wB_mono (Nat.le_max_left s.dp t.dp)
    have m2 := wB_mono (Nat.le_max_right s.dp t.dp)
    have e : ("left" : Str).length = 4 := by decide +kernel
    have e2 : ("right" : Str).length = 5 := by decide +kernel
    rcases List.mem_append.mp h with h | h
    · obtain ⟨a, ha, rfl⟩ := List.mem_map.mp h
      have h1 := lw_wt hb d1 (fun n hn' => hn n (List.mem_append_left _ hn')) ha
      simp only [Dt.wt, Dt.wts, e]
      show _ ≤ 3 * wB (max s.dp t.dp) + 200
      omega
    · obtain ⟨a, ha, rfl⟩ := List.mem_map.mp h
      have h1 := lw_wt hb d2 (fun n hn' => hn n (List.mem_append_right _ hn')) ha
      simp only [Dt.wt, Dt.wts, e2]
      show _ ≤ 3 * wB (max s.dp t.dp) + 200
      omega
  | .lst s, x, hd, hn, h => by
    obtain ⟨l, hl, hx⟩ := List.mem_flatMap.mp h
    obtain ⟨r, hr, rfl⟩ := List.mem_map.mp hx
    obtain ⟨r1, r2⟩ := runs_each hr
    have hl := List.mem_range.mp hl
    have h1 := wts_all (W := wB s.dp) fun y hy => lw_wt (t := s) hb hd hn (r2 y hy)
    have h2 : r.length * (wB s.dp + 2) ≤ 3 * (wB s.dp + 2) := Nat.mul_le_mul_right _ (by omega)
    have e : ("list" : Str).length = 4 := by decide +kernel
    have p := wB_pos s.dp
    simp only [Dt.wt, Dt.wts, e]
    show _ ≤ 3 * wB s.dp + 200
    omega
  | .fn _ _, x, hd, _, _ => nomatch hd
/-! caps -/
theorem cap_mul {K : Nat} (hK : 1 ≤ K) (a b : Nat) : min (min a K * min b K) K = min (a * b) K := by
  by_cases ha : a ≤ K
  · rw [Nat.min_eq_left ha]
    by_cases hb : b ≤ K
    · rw [Nat.min_eq_left hb]
    · rw [Nat.min_eq_right (a := b) (by omega)]
      cases a with
      | zero => simp
      | succ a =>
        rw [Nat.min_eq_right, Nat.min_eq_right]
        · exact Nat.le_trans (by omega : K ≤ 1 * b) (Nat.mul_le_mul_right b (by omega))
        · exact Nat.le_trans (by omega : K ≤ 1 * K) (Nat.mul_le_mul_right K (by omega))
  · rw [Nat.min_eq_right (a := a) (by omega)]
    cases b with
    | zero => simp
    | succ c =>
      rw [Nat.min_eq_right, Nat.min_eq_right]
      · exact Nat.le_trans (by omega : K ≤ a * 1) (Nat.mul_le_mul_left a (by omega))
      · exact Nat.le_trans (by omega : K ≤ K * 1) (Nat.mul_le_mul_left K (by omega))
/-- a cap of a power: capped turn by turn -/
theorem cap_step {K : Nat} (hK : 1 ≤ K) (m i : Nat) : min (min (m ^ i) K * m) K = min (m ^ (i + 1)) K := by
  rw [Nat.pow_succ, ← cap_mul hK (m ^ i) m, ← cap_mul hK (min (m ^ i) K) m]
  rw [Nat.min_eq_left (Nat.min_le_right (m ^ i) K)]
theorem pow_big {m : Nat} (h : 2 ≤ m) : ∀ n, n < m ^ n
  | 0 => by simp
  | n + 1 => by
    have := pow_big h n
    have : m ^ n * 2 ≤ m ^ n * m := Nat.mul_le_mul_left _ h
    rw [Nat.pow_succ]
    omega
theorem cap_pow {K : Nat} (hK : 1 ≤ K) (m n : Nat) : min (min m K ^ min n K) K = min (m ^ n) K := by
  by_cases h0 : n = 0
  · subst h0
    simp
  have hn : 1 ≤ n := by omega
  have hnK : min n K ≠ 0 := by omega
  by_cases hm : m ≤ K
  · rw [Nat.min_eq_left hm]
    by_cases hk : n ≤ K
    · rw [Nat.min_eq_left hk]
    rw [Nat.min_eq_right (a := n) (by omega)]
    by_cases m2 : 2 ≤ m
    · have h1 := pow_big m2 K
      have h2 := pow_big m2 n
      rw [Nat.min_eq_right (by omega), Nat.min_eq_right (by omega)]
    · have : m = 0 ∨ m = 1 := by omega
      rcases this with rfl | rfl
      · rw [Nat.zero_pow (by omega), Nat.zero_pow (by omega)]
      · rw [Nat.one_pow, Nat.one_pow]
  · rw [Nat.min_eq_right (a := m) (by omega)]
    have a1 : K ^ 1 ≤ K ^ min n K := Nat.pow_le_pow_right hK (by omega)
    have a2 : m ^ 1 ≤ m ^ n := Nat.pow_le_pow_right (by omega) hn
    rw [Nat.pow_one] at a1 a2
    rw [Nat.min_eq_right a1, Nat.min_eq_right (by omega)]
theorem cutN_pow (m n : Nat) : cutN (cutN m ^ cutN n) = cutN (m ^ n) := cap_pow (by decide) m n
/-- kinds whose worths are asked: data, or functions of data that lead to such -/
def knd : Kd → Bool
  | .fn a b => a.data && knd b
  | t => t.data
theorem knd_data : ∀ {t : Kd}, t.data = true → knd t = true
  | .opn _, h => h
  | .num, h => h
  | .tru, h => h
  | .pair _ _, h => h
  | .eith _ _, h => h
  | .lst _, h => h
  | .fn _ _, h => nomatch h
/-- a table with too many rows -/
def lng (sz : List (Str × Int)) (b : Nat) : Kd → Bool
  | .fn s t => decide (mny sz b (.fn s t) ≠ 0) && (decide (300 < mny sz b s) || (decide (mny sz b s ≠ 0) && lng sz b t))
  | _ => false
theorem lng_data {sz : List (Str × Int)} {b : Nat} : ∀ {t : Kd}, t.data = true → lng sz b t = false
  | .opn _, _ => rfl
  | .num, _ => rfl
  | .tru, _ => rfl
  | .pair _ _, _ => rfl
  | .eith _ _, _ => rfl
  | .lst _, _ => rfl
  | .fn _ _, h => nomatch h
end Kq

/-! how many worths: the program -/
namespace Kq
open PySem PySem.Spec PyProof.Rows L2 Kf Kg Kv GxR
abbrev tLeads : Stmt := tp 16
abbrev tCut : Stmt := tp 21
abbrev tMany : Stmt := tp 22
abbrev tManyL : Stmt := tp 23
abbrev tLong : Stmt := tp 25
theorem cut_int (n : Nat) (i : Int) (h : i = (n : Int)) : (if (301 : Int) < i then (301 : Int) else i) = ((cutN n : Nat) : Int) := by
  subst h
  unfold cutN
  split <;> omega
theorem gm_zero : ∀ j, gm 0 (j + 1) = 1
  | 0 => rfl
  | j + 1 => by
    show gm 0 (j + 1) * 0 + 1 = 1
    rw [Nat.mul_zero]
section
variable {P : Program} {w : World} {K : PySem.W.Frag} {mg : Str → Option Value} {base : Heap} {uM : Value}
theorem scCut : FnScope ["many"] ["many"] (defScope tCut) := ⟨rfl, rfl, rfl, by decide +kernel, rfl, by decide +kernel, by decide +kernel⟩
def spCut : Sp := fun vs H Q _ => ∃ (n : Nat) (i : Int), vs = [.int i] ∧ i = (n : Int) ∧ Q (.int (cutN n : Nat)) H
theorem okCut {f : Addr} {fd : FuncData} {k : Nat} (F : Fun K "cut" "cut" tCut f fd) (gM : mg "MOST" = some uM) (rM : RelV (.int 300) uM) (mm : mg "min" = none) : FnOk P w K mg base CX0 (k + 1) f fd ["many"] spCut := by
  refine F.ok scCut (fun vs H Q E h => ?_) (fun cdv A outer s H vs Q E hr h => ?_)
  · obtain ⟨n, i, rfl, _⟩ := h
    rfl
  obtain ⟨n, i, rfl, hi, q⟩ := h
  refine ⟨_, pss_one (ps_ret (pe_callB (call_min2 rfl) (by rfl) mm (by decide +kernel) (pa_cons (pv 0) (pa_cons (pe_op op_add (pe_glob (v := .int 300) (by rfl) gM rM) pe_int) pa_nil)))), ?_⟩
  refine ⟨_, rfl, _, _, rfl, rfl, _, _, rfl, ?_⟩
  have e := cut_int n i hi
  rw [← e] at q
  exact q
theorem scManyL : FnScope ["many", "bound", "total", "longest", "length"] ["many", "bound"] (defScope tManyL) := ⟨rfl, rfl, rfl, by decide +kernel, rfl, by decide +kernel, by decide +kernel⟩
def spManyL : Sp := fun vs H Q _ => ∃ (m b : Nat) (i j : Int), vs = [.int i, .int j] ∧ i = (m : Int) ∧ j = (b : Int) ∧ m ≤ 301 ∧ b ≤ 3 ∧ Q (.int (cutN (gm m (b + 1)) : Nat)) H
theorem okManyL {f fC : Addr} {fd fdC : FuncData} {k : Nat} (F : Fun K "many_lists" "many_lists" tManyL f fd) (GC : FnOk P w K mg base CX0 k fC fdC ["many"] spCut) (bC : Binds K fdC ["many"] []) (gC : mg "cut" = some (.ref fC)) (kC : PySem.W.keepIn K (.ref fC) = true)
    (gM : mg "MOST" = some uM) (rM : RelV (.int 300) uM) (mr : mg "range" = none) : FnOk P w K mg base CX0 (k + 1) f fd ["many", "bound"] spManyL := by
  refine F.ok scManyL (fun vs H Q E h => ?_) (fun cdv A outer s H vs Q E hr h => ?_)
  · obtain ⟨m, b, i, j, rfl, _⟩ := h
    rfl
  obtain ⟨m, b, i, j, rfl, rfl, rfl, hm, hb, q⟩ := h
  refine ⟨_, pss_cons (ps_set (i := 2) scManyL.nd rfl (.inl rfl) pe_int)
    (pss_cons (ps_set (i := 3) scManyL.nd rfl (.inl rfl) pe_int)
    (pss_cons (ps_for PassesOwn.never rfl (pi_range1 (by rfl) mr (pa_cons (pv 1) pa_nil)) (pg_name (i := 4) scManyL.nd rfl (.inl rfl))
      (pss_cons (ps_set (i := 3) scManyL.nd rfl (.inl rfl) (pe_op op_mul (pv 3) (pv 0)))
      (pss_cons (ps_set (i := 2) scManyL.nd rfl (.inl rfl) (pe_call GC hr (by rfl) gC kC bC .nil pass0 (pa_cons (pe_op op_add (pv 2) (pv 3)) pa_nil)))
      (pss_one (ps_if (PW.pt (pw_or (pt_cmpR op_eq (pv 3) pe_int (nomark _)) (pw_or1 (pt_cmpR op_gt (pv 2) (pe_glob (v := .int 300) (by rfl) gM rM) (nomark _))))) (pss_one ps_break) pss_nil)))))
    (pss_one (ps_ret (pv 2))))), ?_⟩
  refine ⟨_, rfl, _, rfl, by omega, by omega, ?_⟩
  rw [show ((b : Nat) : Int).toNat = b from Int.toNat_natCast b]
  refine for_range (fun i σ G => G = H ∧ i ≤ b ∧ ∃ y, σ = [some (.int (m : Nat)), some (.int (b : Nat)), some (.int ((cutN (gm m (i + 1)) : Nat) : Int)), some (.int ((m ^ i : Nat) : Int)), y]) ⟨rfl, Nat.zero_le _, none, by rw [show cutN (gm m (0 + 1)) = 1 by simp [gm, cutN]]; rfl⟩ (fun i σ G hi z => ?_) (fun σ G z => ?_)
  rotate_left
  · obtain ⟨rfl, _, y, rfl⟩ := z
    exact ⟨_, rfl, q⟩
  obtain ⟨rfl, _, y, rfl⟩ := z
  have e1 : ((m ^ i : Nat) : Int) * ((m : Nat) : Int) = ((m ^ (i + 1) : Nat) : Int) := by
    rw [Nat.pow_succ]
    push_cast
    rfl
  have e2 : cutN (cutN (gm m (i + 1)) + m ^ (i + 1)) = cutN (gm m (i + 1 + 1)) := by
    rw [cutN_add1, gm_next m (i + 1)]
  refine ⟨_, rfl, _, rfl, _, _, rfl, rfl, .inr ⟨by omega, by omega⟩, ?_⟩
  refine ⟨_, rfl, _, rfl, _, _, rfl, rfl, cutN (gm m (i + 1)) + m ^ (i + 1), _, rfl, by rw [e1]; push_cast; rfl, ?_⟩
  have e3 : [some (V.int (m : Nat)), some (V.int (b : Nat)), some (V.int ((cutN (cutN (gm m (i + 1)) + m ^ (i + 1)) : Nat) : Int)), some (V.int (((m ^ i : Nat) : Int) * ((m : Nat) : Int))), some (V.int (0 + (i : Nat)))] = [some (V.int (m : Nat)), some (V.int (b : Nat)), some (V.int ((cutN (gm m (i + 1 + 1)) : Nat) : Int)), some (V.int ((m ^ (i + 1) : Nat) : Int)), some (V.int (0 + (i : Nat)))] := by rw [e1, e2]
  have stop : (m ^ (i + 1) = 0 ∨ 300 < cutN (gm m (i + 1 + 1))) → Q (.int ((cutN (gm m (i + 1 + 1)) : Nat) : Int)) G := fun h => by
    have e : cutN (gm m (i + 1 + 1)) = cutN (gm m (b + 1)) := by
      rcases h with h | h
      · have h0 : m = 0 := by
          rcases Nat.eq_zero_or_pos m with h0 | h0
          · exact h0
          · have := Nat.pow_pos (n := i + 1) h0
            omega
        rw [h0, gm_zero, gm_zero]
      · have h1 : 301 ≤ gm m (i + 1 + 1) := by
          unfold cutN at h
          omega
        have h2 := gm_mono m (i := i + 1 + 1) (j := b + 1) (by omega)
        rw [cutN_hi h1, cutN_hi (by omega)]
    rw [e]
    exact q
  refine ⟨_, rfl, rfl, _, rfl, ite2 (fun h => ?_) (fun h => ⟨_, rfl, _, _, rfl, rfl, _, rfl, ite2 (fun h2 => ?_) (fun h2 => ?_)⟩)⟩
  · have h : ((m ^ i : Nat) : Int) * ((m : Nat) : Int) = 0 := V.int.inj (of_decide_eq_true h)
    rw [e1] at h
    refine ⟨_, rfl, ?_⟩
    have z := stop (.inl (by exact_mod_cast h))
    rw [← e2] at z
    exact z
  · have h2 : (300 : Int) < ((cutN (cutN (gm m (i + 1)) + m ^ (i + 1)) : Nat) : Int) := of_decide_eq_true h2
    refine ⟨_, rfl, ?_⟩
    rw [e2] at h2
    have z := stop (.inr (by exact_mod_cast h2))
    rw [← e2] at z
    exact z
  · exact ⟨rfl, hi, _, e3⟩
abbrev tRuns : Stmt := tp 24
theorem scRuns : FnScope ["many", "length", "total", "place"] ["many", "length"] (defScope tRuns) := ⟨rfl, rfl, rfl, by decide +kernel, rfl, by decide +kernel, by decide +kernel⟩
def spRuns : Sp := fun vs H Q _ => ∃ (m l : Nat) (i j : Int), vs = [.int i, .int j] ∧ i = (m : Int) ∧ j = (l : Int) ∧ m ≤ 301 ∧ l ≤ 301 ∧ Q (.int (cutN (m ^ l) : Nat)) H
theorem okRuns {f fC : Addr} {fd fdC : FuncData} {k : Nat} (F : Fun K "many_runs" "many_runs" tRuns f fd) (GC : FnOk P w K mg base CX0 k fC fdC ["many"] spCut) (bC : Binds K fdC ["many"] []) (gC : mg "cut" = some (.ref fC)) (kC : PySem.W.keepIn K (.ref fC) = true)
    (mr : mg "range" = none) : FnOk P w K mg base CX0 (k + 1) f fd ["many", "length"] spRuns := by
  refine F.ok scRuns (fun vs H Q E h => ?_) (fun cdv A outer s H vs Q E hr h => ?_)
  · obtain ⟨m, l, i, j, rfl, _⟩ := h
    rfl
  obtain ⟨m, l, i, j, rfl, rfl, rfl, hm, hl, q⟩ := h
  refine ⟨_, pss_cons (ps_set (i := 2) scRuns.nd rfl (.inl rfl) pe_int)
    (pss_cons (ps_for PassesOwn.never rfl (pi_range1 (by rfl) mr (pa_cons (pv 1) pa_nil)) (pg_name (i := 3) scRuns.nd rfl (.inl rfl))
      (pss_one (ps_set (i := 2) scRuns.nd rfl (.inl rfl) (pe_call GC hr (by rfl) gC kC bC .nil pass0 (pa_cons (pe_op op_mul (pv 2) (pv 0)) pa_nil)))))
    (pss_one (ps_ret (pv 2)))), ?_⟩
  refine ⟨_, rfl, _, rfl, by omega, by omega, ?_⟩
  rw [show ((l : Nat) : Int).toNat = l from Int.toNat_natCast l]
  refine for_range (fun i σ G => G = H ∧ i ≤ l ∧ ∃ y, σ = [some (.int (m : Nat)), some (.int (l : Nat)), some (.int ((cutN (m ^ i) : Nat) : Int)), y]) ⟨rfl, Nat.zero_le _, none, rfl⟩ (fun i σ G hi z => ?_) (fun σ G z => ?_)
  rotate_left
  · obtain ⟨rfl, _, y, rfl⟩ := z
    exact ⟨_, rfl, q⟩
  obtain ⟨rfl, _, y, rfl⟩ := z
  have c1 := cutN_le (m ^ i)
  refine ⟨_, rfl, _, rfl, _, _, rfl, rfl, .inr ⟨by omega, by omega⟩, cutN (m ^ i) * m, _, rfl, by push_cast; rfl, ?_⟩
  have e : cutN (cutN (m ^ i) * m) = cutN (m ^ (i + 1)) := cap_step (by decide) m i
  rw [e]
  exact ⟨rfl, hi, _, rfl⟩
end
end Kq

/-! d.get(k) of a dict of the module; statements and expressions that are never reached -/
namespace Kk
open PySem PySem.Spec PyProof.Rows L2
theorem ps_no {X : Cx} {st : Stmt} : PS X st (fun _ _ _ => False) := ⟨fun _ _ _ _ _ _ h => h.elim⟩
theorem pss_no {X : Cx} {b : List Stmt} : PSs X b (fun _ _ _ => False) := ⟨fun _ _ _ _ _ _ h => h.elim⟩
theorem pe_no {X : Cx} {e : Expr} : PE X e (fun _ _ _ => False) := ⟨fun _ _ _ _ _ _ h => h.elim⟩
section
variable {X : Cx} {d : Addr} {es : Array DictEntry} {n : Nat}
def tKGet (K : PySem.W.Frag) (d : Addr) (to ty : TE) : TE := fun σ H Q => to σ H fun x H1 => x = .ref d ∧ ty σ H1 fun y H2 => ∃ (z : Str) (r : Option Value) (v : V), y = .str z ∧ PySem.W.nsIn K d z = some r ∧ RelV v (r.getD .none) ∧ Q v H2
theorem pe_kget {o e : Expr} {apos cpos : Pos} {to ty : TE} (D : KDict X.K X.w d es n) (ho : PE X o to) (he : PE X e ty) (m : M1 X o "get" apos e cpos) : PE X (.Call (.Attribute o "get" apos) [e] [] cpos) (tKGet X.K d to ty) := by
  refine ⟨fun pins s σ H Q I h => ?_⟩
  refine wpAny_Call_method m.base m.few m.line PySem.F.plainAttrs_dict PySem.F.slot_dict_get PySem.F.type_dict_get (thn (ho.run pins s σ H _ I h) fun u s1 ⟨x, H1, I1, rx, ex, q1⟩ => ?_)
  subst ex
  obtain rfl : u = Value.ref d := rx
  have M := PySem.W.mapOf_K (prog := X.prog) (w := X.w) I1.kIn D.at_ D.lit
  refine ⟨M.typeIs, M.noDict, ?_⟩
  rw [m.trees]
  refine Calls.callWith_builtin rfl (Calls.evalArgs_plain (Calls.spliced_cons (thn (he.run pins s1 σ H1 _ I1 q1) fun iv s2 ⟨y, H2, I2, ry, z, r, v, ey, e, rv, q2⟩ => Calls.spliced_nil ?_)))
  subst ey
  obtain ⟨t, rfl⟩ := (show ∃ t, iv = Value.str z t from ry)
  have M2 := PySem.W.mapOf_K (prog := X.prog) (w := X.w) I2.kIn D.at_ D.lit
  refine call_meetsIn PySem.F.slot_dict_get M2.typeIs PySem.F.entry_dict_get (PySem.F.args_dict_get_2 _ _) (meets_dict_get _ d (PySem.strKind_is X.prog X.w z t) D.low) ⟨_, M2, ?_⟩
  rw [PySem.W.find_K D.at_ e]
  exact ⟨v, H2, I2.tok _, rv, q2⟩
end
end Kk

/-! many_worths -/
namespace Kq
open PySem PySem.Spec PyProof.Rows L2 Kf Kg Kv GxR Kk
theorem knd_kid {t u : Kd} (h : knd t = true) (m : u ∈ t.kids) : knd u = true := by
  cases t with
  | opn x => cases m
  | num => cases m
  | tru => cases m
  | fn a b =>
    obtain ⟨h1, h2⟩ := Bool.and_eq_true_iff.mp (show (a.data && knd b) = true from h)
    rcases List.mem_cons.mp m with rfl | m
    · exact knd_data h1
    · rw [List.mem_singleton.mp m]
      exact h2
  | lst a =>
    rw [List.mem_singleton.mp m]
    exact knd_data (show a.data = true from h)
  | pair a b =>
    obtain ⟨h1, h2⟩ := Bool.and_eq_true_iff.mp (show (a.data && b.data) = true from h)
    rcases List.mem_cons.mp m with rfl | m
    · exact knd_data h1
    · rw [List.mem_singleton.mp m]
      exact knd_data h2
  | eith a b =>
    obtain ⟨h1, h2⟩ := Bool.and_eq_true_iff.mp (show (a.data && b.data) = true from h)
    rcases List.mem_cons.mp m with rfl | m
    · exact knd_data h1
    · rw [List.mem_singleton.mp m]
      exact knd_data h2
section
variable {P : Program} {w : World} {K : PySem.W.Frag} {mg : Str → Option Value} {base : Heap} {uM : Value}
abbrev psMany : List Str := ["kind", "sizes", "bound"]
abbrev nMany : List Str := ["kind", "sizes", "bound", "word", "many", "part"]
theorem scMany : FnScope nMany psMany (defScope tMany) := ⟨rfl, rfl, rfl, by decide +kernel, rfl, by decide +kernel, by decide +kernel⟩
def spMany (n : Nat) : Sp := fun vs H Q _ => ∃ (vk : V) (p : Addr) (t : Kd) (sz : List (Str × Int)) (b : Nat), vs = [vk, .ref p, .int (b : Nat)] ∧ t.dp + 1 ≤ n ∧ knd t = true ∧ Rp H t vk ∧ Sz H p sz ∧ SzB sz ∧ b ≤ 3 ∧ ∀ G : Hp, Same H G → Q (.int (cutN (mny sz b t) : Nat)) G
theorem okMany1 {f fC fT fL fR : Addr} {fd fdC fdT fdL fdR : FuncData} {n : Nat} (F : Fun K "many_worths" "many_worths" tMany f fd) (bF : Binds K fd psMany []) (gF : mg "many_worths" = some (.ref f))
    (GC : FnOk P w K mg base CX0 (n + 2) fC fdC ["many"] spCut) (bC : Binds K fdC ["many"] []) (gC : mg "cut" = some (.ref fC)) (kC : PySem.W.keepIn K (.ref fC) = true)
    (GT : FnOk P w K mg base CX0 (n + 2) fT fdT ["sizes", "name"] spThings) (bT : Binds K fdT ["sizes", "name"] []) (gT : mg "things_of" = some (.ref fT)) (kT : PySem.W.keepIn K (.ref fT) = true)
    (GL : FnOk P w K mg base CX0 (n + 2) fL fdL ["many", "bound"] spManyL) (bL : Binds K fdL ["many", "bound"] []) (gL : mg "many_lists" = some (.ref fL)) (kL : PySem.W.keepIn K (.ref fL) = true)
    (GR : FnOk P w K mg base CX0 (n + 2) fR fdR ["many", "length"] spRuns) (bR : Binds K fdR ["many", "length"] []) (gR : mg "many_runs" = some (.ref fR)) (kR : PySem.W.keepIn K (.ref fR) = true)
    (GI : FnOk P w K mg base CX0 (n + 2) f fd psMany (spMany n)) : FnOk P w K mg base CX0 (n + 3) f fd psMany (spMany (n + 1)) := by
  refine F.ok scMany (fun vs H Q E h => ?_) (fun cdv A outer s H vs Q E hr h => ?_)
  · obtain ⟨vk, p, t, sz, b, rfl, _⟩ := h
    rfl
  obtain ⟨vk, p, t, sz, b, rfl, hn, hdt, rk, hz, hB, hb, q⟩ := h
  refine ⟨_, pss_cons (ps_set (i := 3) scMany.nd rfl (.inl rfl) (pe_ix ix_tup (pv 0) pe_int (fun _ _ => rfl)))
    (pss_cons (ps_if (pt_cmpR op_eq (pv 3) pe_str (nomark _)) (pss_one (ps_ret (pe_call GC hr (by rfl) gC kC bC .nil pass0 (pa_cons (pe_call GT hr (by rfl) gT kT bT .nil pass0 (pa_cons (pv 1) (pa_cons (pe_ix ix_tup (pv 0) pe_int (fun _ _ => rfl)) pa_nil))) pa_nil)))) pss_nil)
    (pss_cons (ps_if (pt_cmpR op_eq (pv 3) pe_str (nomark _)) (pss_one (ps_ret (pe_call GC hr (by rfl) gC kC bC .nil pass0 (pa_cons (pe_op op_add (pv 2) pe_int) pa_nil)))) pss_nil)
    (pss_cons (ps_if (pt_cmpR op_eq (pv 3) pe_str (nomark _)) (pss_one (ps_ret pe_int)) pss_nil)
    (pss_cons (ps_setLc (i := 4) (own := [("part", 5)]) (g := gName 5) (by rfl) scMany.nd rfl rfl (sw_true rfl rfl rfl (by decide +kernel)) (pi_tup (pe_slice sl_tup (pv 0) (po_some pe_int) po_none)) (blkOk_by (own := [("part", 5)]) (N := nMany) (sc := defScope tMany) (by decide +kernel))
      (fun _ _ _ _ _ => pg_name (i := 5) scMany.nd rfl (.inl rfl)) (fun _ _ _ _ _ => pts_nil) (fun _ _ _ _ _ => pe_call GI hr (by rfl) gF F.kp bF .nil pass0 (pa_cons (pv 5) (pa_cons (pv 1) (pa_cons (pv 2) pa_nil)))))
    (pss_cons (ps_if (pt_cmpR op_eq (pv 3) pe_str (nomark _)) (pss_one (ps_ret (pe_call GC hr (by rfl) gC kC bC .nil pass0 (pa_cons (pe_op op_mul (pe_ix ix_list (pv 4) pe_int (fun _ _ => rfl)) (pe_ix ix_list (pv 4) pe_int (fun _ _ => rfl))) pa_nil)))) pss_nil)
    (pss_cons (ps_if (pt_cmpR op_eq (pv 3) pe_str (nomark _)) (pss_one (ps_ret (pe_call GC hr (by rfl) gC kC bC .nil pass0 (pa_cons (pe_op op_add (pe_ix ix_list (pv 4) pe_int (fun _ _ => rfl)) (pe_ix ix_list (pv 4) pe_int (fun _ _ => rfl))) pa_nil)))) pss_nil)
    (pss_cons (ps_if (pt_cmpR op_eq (pv 3) pe_str (nomark _)) (pss_one (ps_ret (pe_call GL hr (by rfl) gL kL bL .nil pass0 (pa_cons (pe_ix ix_list (pv 4) pe_int (fun _ _ => rfl)) (pa_cons (pv 2) pa_nil))))) pss_nil)
    (pss_one (ps_ret (pe_call GR hr (by rfl) gR kR bR .nil pass0 (pa_cons (pe_ix ix_list (pv 4) pe_int (fun _ _ => rfl)) (pa_cons (pe_ix ix_list (pv 4) pe_int (fun _ _ => rfl)) pa_nil)))))))))))), ?_⟩
  obtain ⟨ka, us, rfl, hk, hks⟩ := rk.see
  refine ⟨_, rfl, ka, _, _, _, rfl, rfl, SqT.of hk, atI_nat (j := 0) rfl, ?_⟩
  cases t with
  | opn y =>
    obtain ⟨ka', ek, hk4⟩ := rk
    obtain rfl : ka = ka' := V.ref.inj ek
    refine ⟨_, rfl, rfl, _, rfl, ite2 (fun _ => ?_) (fun e => absurd (decide_eq_true rfl) e)⟩
    have hl := (hB.look y).1
    refine ⟨_, rfl, _, rfl, ka, _, _, _, rfl, rfl, SqT.of hk4, atI_nat (j := 1) rfl, p, sz, y, rfl, hz, (look sz y).toNat, _, rfl, (Int.toNat_of_nonneg hl).symm, q _ (Same.refl _)⟩
  | num =>
    refine ⟨_, rfl, rfl, _, rfl, ite2 (fun e => absurd e (wne (by simp only [Kd.word]; decide +kernel))) (fun _ => ⟨_, rfl, rfl, _, rfl, ite2 (fun _ => ?_) (fun e => absurd (decide_eq_true rfl) e)⟩)⟩
    exact ⟨_, rfl, _, _, rfl, rfl, b + 1, _, rfl, by push_cast; rfl, q _ (Same.refl _)⟩
  | tru =>
    refine ⟨_, rfl, rfl, _, rfl, ite2 (fun e => absurd e (wne (by simp only [Kd.word]; decide +kernel))) (fun _ => ⟨_, rfl, rfl, _, rfl, ite2 (fun e => absurd e (wne (by simp only [Kd.word]; decide +kernel))) (fun _ => ⟨_, rfl, rfl, _, rfl, ite2 (fun _ => ?_) (fun e => absurd (decide_eq_true rfl) e)⟩)⟩)⟩
    exact q _ (Same.refl _)
  | lst s =>
    refine ⟨_, rfl, rfl, _, rfl, ite2 (fun e => absurd e (wne (by simp only [Kd.word]; decide +kernel))) (fun _ => ⟨_, rfl, rfl, _, rfl, ite2 (fun e => absurd e (wne (by simp only [Kd.word]; decide +kernel))) (fun _ => ⟨_, rfl, rfl, _, rfl, ite2 (fun e => absurd e (wne (by simp only [Kd.word]; decide +kernel))) (fun _ => ?_)⟩)⟩)⟩
    have hL : RpL H (Kd.lst s).kids us := by
      rcases hks with ⟨_, h⟩ | ⟨_, h, _⟩
      · exact h
      · cases h
    refine ⟨_, rfl, 1, rfl, ka, _, rfl, SqT.of hk, notWhole _ _, fun p1 np1 => ?_⟩
    rw [cutFrom1]
    have s1 := newS (o := .tup us) np1
    have g1 : (upd H p1 (.tup us)) p1 = some (.tup us) := upd_same
    generalize upd H p1 (.tup us) = H1 at s1 g1
    refine ⟨p1, rfl, ⟨_, SqT.of g1⟩, fun D nD => ?_⟩
    refine lc_tup (xs := us) (fun i G => Same H1 G ∧ G D = some (.lst (((Kd.lst s).kids.take i).map fun u => V.int ((cutN (mny sz b u) : Nat) : Int)))) ⟨newS nD, upd_same⟩ (fun i G _ z => SqT.of (z.1 _ _ g1)) (fun i x G hx z => ?_) (fun G z => ?_)
    · obtain ⟨u, hu, ru⟩ := hL.get hx
      have mu := List.mem_of_getElem? hu
      have hd := Kd.kids_dp mu
      have hdd : knd u = true := knd_kid hdt mu
      refine ⟨rfl, _, rfl, _, rfl, _, rfl, x, p, u, sz, b, rfl, by omega, hdd, ru.tk (Tk.of (s1.trans z.1)), hz.same (s1.trans z.1), hB, hb, fun G2 s2 => ?_⟩
      have lk := List.length_take_le i (Kd.lst s).kids
      have l2 := Kd.kids_le (Kd.lst s)
      refine ⟨_, s2 _ _ z.2, small1000 (by rw [List.length_map, List.length_take]; omega), smk (z.1.trans s2) nD, ?_⟩
      rw [upd_same, List.take_add_one, hu, List.map_append]
      rfl
    · obtain ⟨s3, gD⟩ := z
      rw [← hL.len, List.take_length] at gD
      have sA := s1.trans s3
      refine ⟨_, rfl, rfl, _, rfl, ite2 (fun e => absurd e (wne (by simp only [Kd.word]; decide +kernel))) (fun _ => ⟨_, rfl, rfl, _, rfl, ite2 (fun e => absurd e (wne (by simp only [Kd.word]; decide +kernel))) (fun _ => ⟨_, rfl, rfl, _, rfl, ite2 (fun _ => ?_) (fun e => absurd (decide_eq_true rfl) e)⟩)⟩)⟩
      refine ⟨_, rfl, D, _, _, _, rfl, rfl, SqL.of gD, atI_nat (j := 0) rfl, _, rfl, cutN (mny sz b s), b, _, _, rfl, rfl, rfl, cutN_le _, hb, ?_⟩
      rw [gm_cut]
      exact q _ sA
  | pair s u =>
    refine ⟨_, rfl, rfl, _, rfl, ite2 (fun e => absurd e (wne (by simp only [Kd.word]; decide +kernel))) (fun _ => ⟨_, rfl, rfl, _, rfl, ite2 (fun e => absurd e (wne (by simp only [Kd.word]; decide +kernel))) (fun _ => ⟨_, rfl, rfl, _, rfl, ite2 (fun e => absurd e (wne (by simp only [Kd.word]; decide +kernel))) (fun _ => ?_)⟩)⟩)⟩
    have hL : RpL H (Kd.pair s u).kids us := by
      rcases hks with ⟨_, h⟩ | ⟨_, h, _⟩
      · exact h
      · cases h
    refine ⟨_, rfl, 1, rfl, ka, _, rfl, SqT.of hk, notWhole _ _, fun p1 np1 => ?_⟩
    rw [cutFrom1]
    have s1 := newS (o := .tup us) np1
    have g1 : (upd H p1 (.tup us)) p1 = some (.tup us) := upd_same
    generalize upd H p1 (.tup us) = H1 at s1 g1
    refine ⟨p1, rfl, ⟨_, SqT.of g1⟩, fun D nD => ?_⟩
    refine lc_tup (xs := us) (fun i G => Same H1 G ∧ G D = some (.lst (((Kd.pair s u).kids.take i).map fun u => V.int ((cutN (mny sz b u) : Nat) : Int)))) ⟨newS nD, upd_same⟩ (fun i G _ z => SqT.of (z.1 _ _ g1)) (fun i x G hx z => ?_) (fun G z => ?_)
    · obtain ⟨y, hu, ru⟩ := hL.get hx
      have mu := List.mem_of_getElem? hu
      have hd := Kd.kids_dp mu
      have hdd : knd y = true := knd_kid hdt mu
      refine ⟨rfl, _, rfl, _, rfl, _, rfl, x, p, y, sz, b, rfl, by omega, hdd, ru.tk (Tk.of (s1.trans z.1)), hz.same (s1.trans z.1), hB, hb, fun G2 s2 => ?_⟩
      have lk := List.length_take_le i (Kd.pair s u).kids
      have l2 := Kd.kids_le (Kd.pair s u)
      refine ⟨_, s2 _ _ z.2, small1000 (by rw [List.length_map, List.length_take]; omega), smk (z.1.trans s2) nD, ?_⟩
      rw [upd_same, List.take_add_one, hu, List.map_append]
      rfl
    · obtain ⟨s3, gD⟩ := z
      rw [← hL.len, List.take_length] at gD
      have sA := s1.trans s3
      refine ⟨_, rfl, rfl, _, rfl, ite2 (fun _ => ?_) (fun e => absurd (decide_eq_true rfl) e)⟩
      have c1 := cutN_le (mny sz b s)
      refine ⟨_, rfl, D, _, _, _, rfl, rfl, SqL.of gD, atI_nat (j := 0) rfl, _, rfl, D, _, _, _, rfl, rfl, SqL.of gD, atI_nat (j := 1) rfl, _, _, rfl, rfl, .inl ⟨by omega, by omega⟩, cutN (mny sz b s) * cutN (mny sz b u), _, rfl, by push_cast; rfl, ?_⟩
      rw [cutN_mul]
      exact q _ sA
  | eith s u =>
    refine ⟨_, rfl, rfl, _, rfl, ite2 (fun e => absurd e (wne (by simp only [Kd.word]; decide +kernel))) (fun _ => ⟨_, rfl, rfl, _, rfl, ite2 (fun e => absurd e (wne (by simp only [Kd.word]; decide +kernel))) (fun _ => ⟨_, rfl, rfl, _, rfl, ite2 (fun e => absurd e (wne (by simp only [Kd.word]; decide +kernel))) (fun _ => ?_)⟩)⟩)⟩
    have hL : RpL H (Kd.eith s u).kids us := by
      rcases hks with ⟨_, h⟩ | ⟨_, h, _⟩
      · exact h
      · cases h
    refine ⟨_, rfl, 1, rfl, ka, _, rfl, SqT.of hk, notWhole _ _, fun p1 np1 => ?_⟩
    rw [cutFrom1]
    have s1 := newS (o := .tup us) np1
    have g1 : (upd H p1 (.tup us)) p1 = some (.tup us) := upd_same
    generalize upd H p1 (.tup us) = H1 at s1 g1
    refine ⟨p1, rfl, ⟨_, SqT.of g1⟩, fun D nD => ?_⟩
    refine lc_tup (xs := us) (fun i G => Same H1 G ∧ G D = some (.lst (((Kd.eith s u).kids.take i).map fun u => V.int ((cutN (mny sz b u) : Nat) : Int)))) ⟨newS nD, upd_same⟩ (fun i G _ z => SqT.of (z.1 _ _ g1)) (fun i x G hx z => ?_) (fun G z => ?_)
    · obtain ⟨y, hu, ru⟩ := hL.get hx
      have mu := List.mem_of_getElem? hu
      have hd := Kd.kids_dp mu
      have hdd : knd y = true := knd_kid hdt mu
      refine ⟨rfl, _, rfl, _, rfl, _, rfl, x, p, y, sz, b, rfl, by omega, hdd, ru.tk (Tk.of (s1.trans z.1)), hz.same (s1.trans z.1), hB, hb, fun G2 s2 => ?_⟩
      have lk := List.length_take_le i (Kd.eith s u).kids
      have l2 := Kd.kids_le (Kd.eith s u)
      refine ⟨_, s2 _ _ z.2, small1000 (by rw [List.length_map, List.length_take]; omega), smk (z.1.trans s2) nD, ?_⟩
      rw [upd_same, List.take_add_one, hu, List.map_append]
      rfl
    · obtain ⟨s3, gD⟩ := z
      rw [← hL.len, List.take_length] at gD
      have sA := s1.trans s3
      refine ⟨_, rfl, rfl, _, rfl, ite2 (fun e => absurd e (wne (by simp only [Kd.word]; decide +kernel))) (fun _ => ⟨_, rfl, rfl, _, rfl, ite2 (fun _ => ?_) (fun e => absurd (decide_eq_true rfl) e)⟩)⟩
      refine ⟨_, rfl, D, _, _, _, rfl, rfl, SqL.of gD, atI_nat (j := 0) rfl, _, rfl, D, _, _, _, rfl, rfl, SqL.of gD, atI_nat (j := 1) rfl, _, _, rfl, rfl, cutN (mny sz b s) + cutN (mny sz b u), _, rfl, by push_cast; rfl, ?_⟩
      rw [cutN_add]
      exact q _ sA
  | fn s u =>
    refine ⟨_, rfl, rfl, _, rfl, ite2 (fun e => absurd e (wne (by simp only [Kd.word]; decide +kernel))) (fun _ => ⟨_, rfl, rfl, _, rfl, ite2 (fun e => absurd e (wne (by simp only [Kd.word]; decide +kernel))) (fun _ => ⟨_, rfl, rfl, _, rfl, ite2 (fun e => absurd e (wne (by simp only [Kd.word]; decide +kernel))) (fun _ => ?_)⟩)⟩)⟩
    have hL : RpL H (Kd.fn s u).kids us := by
      rcases hks with ⟨_, h⟩ | ⟨_, h, _⟩
      · exact h
      · cases h
    refine ⟨_, rfl, 1, rfl, ka, _, rfl, SqT.of hk, notWhole _ _, fun p1 np1 => ?_⟩
    rw [cutFrom1]
    have s1 := newS (o := .tup us) np1
    have g1 : (upd H p1 (.tup us)) p1 = some (.tup us) := upd_same
    generalize upd H p1 (.tup us) = H1 at s1 g1
    refine ⟨p1, rfl, ⟨_, SqT.of g1⟩, fun D nD => ?_⟩
    refine lc_tup (xs := us) (fun i G => Same H1 G ∧ G D = some (.lst (((Kd.fn s u).kids.take i).map fun u => V.int ((cutN (mny sz b u) : Nat) : Int)))) ⟨newS nD, upd_same⟩ (fun i G _ z => SqT.of (z.1 _ _ g1)) (fun i x G hx z => ?_) (fun G z => ?_)
    · obtain ⟨y, hu, ru⟩ := hL.get hx
      have mu := List.mem_of_getElem? hu
      have hd := Kd.kids_dp mu
      have hdd : knd y = true := knd_kid hdt mu
      refine ⟨rfl, _, rfl, _, rfl, _, rfl, x, p, y, sz, b, rfl, by omega, hdd, ru.tk (Tk.of (s1.trans z.1)), hz.same (s1.trans z.1), hB, hb, fun G2 s2 => ?_⟩
      have lk := List.length_take_le i (Kd.fn s u).kids
      have l2 := Kd.kids_le (Kd.fn s u)
      refine ⟨_, s2 _ _ z.2, small1000 (by rw [List.length_map, List.length_take]; omega), smk (z.1.trans s2) nD, ?_⟩
      rw [upd_same, List.take_add_one, hu, List.map_append]
      rfl
    · obtain ⟨s3, gD⟩ := z
      rw [← hL.len, List.take_length] at gD
      have sA := s1.trans s3
      refine ⟨_, rfl, rfl, _, rfl, ite2 (fun e => absurd e (wne (by simp only [Kd.word]; decide +kernel))) (fun _ => ⟨_, rfl, rfl, _, rfl, ite2 (fun e => absurd e (wne (by simp only [Kd.word]; decide +kernel))) (fun _ => ⟨_, rfl, rfl, _, rfl, ite2 (fun e => absurd e (wne (by simp only [Kd.word]; decide +kernel))) (fun _ => ?_)⟩)⟩)⟩
      refine ⟨_, rfl, D, _, _, _, rfl, rfl, SqL.of gD, atI_nat (j := 1) rfl, _, rfl, D, _, _, _, rfl, rfl, SqL.of gD, atI_nat (j := 0) rfl, cutN (mny sz b u), cutN (mny sz b s), _, _, rfl, rfl, rfl, cutN_le _, cutN_le _, ?_⟩
      rw [cutN_pow]
      exact q _ sA
end
end Kq

/-! list(zip(a, b)) -/
namespace Kz
open PySem PySem.Spec PyProof.Rows L2
section
variable {prog : Program} {w : World} {A : Around} {E : Value → Shared → Prop} {s : Shared} {z TI TO i1 i2 T : Addr} {fp1 fp2 : List Addr} {n1 n2 i : Nat} {P1 P2 : Nat → Value → Prop} {St1 St2 : Nat → Heap → Prop} {f : Bool} {oT : Obj}
/-- a turn of the zip while its tuple T is out -/
theorem outItem {Q : Value → Shared → Prop} (S : ZipSep2 z TI TO i1 i2 fp1 fp2) (D1 : Draws prog w A i1 fp1 n1 P1 St1) (D2 : Draws prog w A i2 fp2 n2 P2 St2)
    (hz : IsZipHeld s.heap z TI TO T f) (hT : s.heap.get? T = some oT) (hTI : IsTupOf2 s.heap TI (.ref i1) (.ref i2)) (st1 : St1 i s.heap) (st2 : St2 i s.heap) (l1 : i < n1) (l2 : i < n2)
    (q : ∀ x1 x2 h' tk, P1 i x1 → P2 i x2 → IsZipHeld h' z TI TO T true → St1 (i + 1) h' → St2 (i + 1) h' → IsTupOf2 h' s.heap.objs.size x1 x2 → h'.objs.size = s.heap.objs.size + 1 →
      (∀ c o, c ≠ z → c ≠ i1 → c ≠ i2 → s.heap.get? c = some o → h'.get? c = some o) → Q (.ref s.heap.objs.size) { s with heap := h', toks := tk }) :
    wpAny (model prog w) A (Builtin.«zip.__next__» ⟨[.ref z], []⟩) (fun fin s' => ∃ v, fin = .done (.ret v) ∧ Q v s') E s := by
  obtain ⟨hp, g, d, tk0, os⟩ := s
  show wpAny _ _ (field (.ref z) 2 >>= _) _ _ _
  refine wpAny_bind (wpAny_field hz rfl (x := .bool false) rfl ?_)
  show wpAny _ _ (field (.ref z) 3 >>= _) _ _ _
  refine wpAny_bind (wpAny_field hz rfl (x := .ref TI) rfl ?_)
  refine wpAny_bind (wpAny_seqItems hTI rfl ?_)
  show wpAny _ _ (Builtin.SmallTypes.ownedTupleIsFree (.ref z) >>= _) _ _ _
  refine wpAny_bind (wpAny_tupleHeld_zip hz hT fun ha za sa => ?_)
  replace sa : Heap.SameBut z hp ha := sa
  simp only [Bool.false_eq_true, if_false]
  refine wpAny_bind ?_
  rw [← Array.forIn_toList]
  simp only [List.forIn_cons, List.forIn_nil]
  refine wpAny_bind (wpAny_bind (wpAny_holding ?_))
  show wpAny _ _ (Builtin.SmallTypes.nextOf (.ref i1) >>= _) _ _ ⟨ha, g, d, tk0, os⟩
  refine wpAny_bind (D1.item i ⟨ha, g, d, tk0, os⟩ _ _ l1 (D1.over st1 sa S.zf1) fun x1 hb tkb px1 tb sb => wpAny_pure ?_)
  replace sb : Heap.SameBut i1 ha hb := sb
  refine wpAny_pure ?_
  refine wpAny_bind (wpAny_bind (wpAny_holding ?_))
  show wpAny _ _ (Builtin.SmallTypes.nextOf (.ref i2) >>= _) _ _ ⟨hb, g, d, tkb, os⟩
  refine wpAny_bind (D2.item i ⟨hb, g, d, tkb, os⟩ _ _ l2 (D2.over (D2.over st2 sa S.zf2) sb S.sep1_2) fun x2 hc tkc px2 tc sc => wpAny_pure ?_)
  replace sc : Heap.SameBut i2 hb hc := sc
  refine wpAny_pure (wpAny_pure ?_)
  show wpAny _ _ (newTuple [x1, x2] >>= _) _ _ ⟨hc, g, d, tkc, os⟩
  refine wpAny_bind (wpAny_newTuple ?_)
  have sz : hc.objs.size = hp.objs.size := by rw [sc.1, sb.1, sa.1]
  have zc : IsZipHeld hc z TI TO T true := sc.extBut _ _ S.zi2 (sb.extBut _ _ S.zi1 za)
  have kc : ∀ c o, c ≠ z → c ≠ i1 → c ≠ i2 → hp.get? c = some o → hc.get? c = some o := fun c o c1 c2 c3 e => sc.extBut _ _ c3 (sb.extBut _ _ c2 (sa.extBut _ _ c1 e))
  have ub : ∀ b o, hc.get? b = some o → (hc.push { cls := .type "tuple", data := .seq #[x1, x2] }).get? b = some o := fun b o e => Heap.get?_push_of_some _ e
  refine wpAny_pure ⟨_, rfl, ?_⟩
  show Q (.ref hc.objs.size) _
  have pp : IsTupOf2 (hc.push { cls := .type "tuple", data := .seq #[x1, x2] }) hc.objs.size x1 x2 := Heap.get?_push_size _ rfl
  have ps : (hc.push { cls := .type "tuple", data := .seq #[x1, x2] }).objs.size = hc.objs.size + 1 := Heap.size_push ..
  rw [sz] at pp ps ⊢
  exact q x1 x2 _ tkc px1 px2 (ub _ _ zc) (D1.frame _ _ _ (D1.over tb sc S.sep2_1) fun b _ o e => ub b o e) (D2.frame _ _ _ tc fun b _ o e => ub b o e) pp ps fun c o c1 c2 c3 e => ub _ _ (kc c o c1 c2 c3 e)
theorem outEnd {Q : Fin → Shared → Prop} (S : ZipSep2 z TI TO i1 i2 fp1 fp2) (D1 : Draws prog w A i1 fp1 n1 P1 St1) (D2 : Draws prog w A i2 fp2 n2 P2 St2)
    (hz : IsZipHeld s.heap z TI TO T f) (hT : s.heap.get? T = some oT) (hTI : IsTupOf2 s.heap TI (.ref i1) (.ref i2)) (st1 : St1 i s.heap) (st2 : St2 i s.heap) (l1 : i ≤ n1) (l2 : i ≤ n2) (last : i = n1 ∨ i = n2)
    (q : ∀ h' tk e, (∀ c o, c ≠ z → c ≠ i1 → c ≠ i2 → s.heap.get? c = some o → h'.get? c = some o) → (∃ o, h'.get? e = some o ∧ o.cls = .type "StopIteration") → E (.ref e) { s with heap := h', toks := tk }) :
    wpAny (model prog w) A (Builtin.«zip.__next__» ⟨[.ref z], []⟩) Q E s := by
  obtain ⟨hp, g, d, tk0, os⟩ := s
  show wpAny _ _ (field (.ref z) 2 >>= _) _ _ _
  refine wpAny_bind (wpAny_field hz rfl (x := .bool false) rfl ?_)
  show wpAny _ _ (field (.ref z) 3 >>= _) _ _ _
  refine wpAny_bind (wpAny_field hz rfl (x := .ref TI) rfl ?_)
  refine wpAny_bind (wpAny_seqItems hTI rfl ?_)
  show wpAny _ _ (Builtin.SmallTypes.ownedTupleIsFree (.ref z) >>= _) _ _ _
  refine wpAny_bind (wpAny_tupleHeld_zip hz hT fun ha za sa => ?_)
  replace sa : Heap.SameBut z hp ha := sa
  simp only [Bool.false_eq_true, if_false]
  refine wpAny_bind ?_
  rw [← Array.forIn_toList]
  simp only [List.forIn_cons, List.forIn_nil]
  refine wpAny_bind (wpAny_bind (wpAny_holding ?_))
  show wpAny _ _ (Builtin.SmallTypes.nextOf (.ref i1) >>= _) _ _ ⟨ha, g, d, tk0, os⟩
  by_cases lt : i < n1
  · refine wpAny_bind (D1.item i ⟨ha, g, d, tk0, os⟩ _ _ lt (D1.over st1 sa S.zf1) fun x1 hb tkb px1 tb sb => wpAny_pure ?_)
    replace sb : Heap.SameBut i1 ha hb := sb
    refine wpAny_pure ?_
    refine wpAny_bind (wpAny_bind (wpAny_holding ?_))
    show wpAny _ _ (Builtin.SmallTypes.nextOf (.ref i2) >>= _) _ _ ⟨hb, g, d, tkb, os⟩
    have e2 : i = n2 := by omega
    refine wpAny_bind (D2.done ⟨hb, g, d, tkb, os⟩ _ _ (by rw [← e2]; exact D2.over (D2.over st2 sa S.zf2) sb S.sep1_2) fun hc e sc he => ?_)
    replace sc : Heap.ExtBut i2 hb hc := sc
    exact q hc tkb e (fun c o c1 c2 c3 u => sc _ _ c3 (sb.extBut _ _ c2 (sa.extBut _ _ c1 u))) he
  · have e1 : i = n1 := by omega
    refine wpAny_bind (D1.done ⟨ha, g, d, tk0, os⟩ _ _ (by rw [← e1]; exact D1.over st1 sa S.zf1) fun hb e sb he => ?_)
    replace sb : Heap.ExtBut i1 ha hb := sb
    exact q hb tk0 e (fun c o c1 c2 c3 u => sb _ _ c2 (sa.extBut _ _ c1 u)) he
/-- the zip before its turn i: nothing is out yet, or a tuple is -/
def Zs (z TI TO : Addr) (h : Heap) : Prop := (∃ o, h.get? TO = some o) ∧ ((IsZip h z TI TO .none ∧ ∃ a b, IsTupOf2 h TO a b) ∨ ∃ T f oT, IsZipHeld h z TI TO T f ∧ h.get? T = some oT ∧ T ≠ z ∧ oT.cls = .type "tuple")
theorem zNext {Q : Option Value → Shared → Prop} (S : ZipSep2 z TI TO i1 i2 fp1 fp2) (D1 : Draws prog w A.in1 i1 fp1 n1 P1 St1) (D2 : Draws prog w A.in1 i2 fp2 n2 P2 St2)
    (hz : Zs z TI TO s.heap) (hTI : IsTupOf2 s.heap TI (.ref i1) (.ref i2)) (hi : ∀ T, s.heap.get? T = none → T ≠ i1 ∧ T ≠ i2) (ho : ∀ T f oT, IsZipHeld s.heap z TI TO T f → s.heap.get? T = some oT → T ≠ i1 ∧ T ≠ i2) (st1 : St1 i s.heap) (st2 : St2 i s.heap) (l1 : i < n1) (l2 : i < n2)
    (q : ∀ x1 x2 h' tk, P1 i x1 → P2 i x2 → Zs z TI TO h' → IsTupOf2 h' TI (.ref i1) (.ref i2) → (∀ T f oT, IsZipHeld h' z TI TO T f → h'.get? T = some oT → T ≠ i1 ∧ T ≠ i2) → St1 (i + 1) h' → St2 (i + 1) h' → IsTupOf2 h' s.heap.objs.size x1 x2 → h'.objs.size = s.heap.objs.size + 1 →
      (∀ c o, c ≠ z → c ≠ TO → c ≠ i1 → c ≠ i2 → s.heap.get? c = some o → h'.get? c = some o) → Q (some (.ref s.heap.objs.size)) { s with heap := h', toks := tk }) :
    wpAny (model prog w) A (pyNext (.ref z)) Q E s := by
  obtain ⟨⟨oO, eO⟩, hz⟩ := hz
  rcases hz with ⟨hz, a, b, hTO⟩ | ⟨T, f, oT, hz, hT, hne, hcl⟩
  · refine wpAny_pyNext_zipD2_item S D1 D2 hz hTI hTO st1 st2 l1 l2 fun x1 x2 h' tk p1 p2 z' TO' t1 t2 nw sz kp => ?_
    have lt : z < s.heap.objs.size := Heap.lt_size hz
    have nf : s.heap.get? s.heap.objs.size = none := by
      cases e : s.heap.get? s.heap.objs.size with
      | none => rfl
      | some o => exact absurd (Heap.lt_size e) (Nat.lt_irrefl _)
    refine q x1 x2 h' tk p1 p2 ⟨⟨_, TO'⟩, .inr ⟨s.heap.objs.size, false, _, z', nw, Nat.ne_of_gt lt, rfl⟩⟩ (kp _ _ S.TIz S.TITO S.TIi1 S.TIi2 hTI) (fun T f oT hz2 hT2 => ?_) t1 t2 nw sz kp
    have e := z'.symm.trans hz2
    have e2 : T = s.heap.objs.size := by
      injection e with e
      injection e with _ _ e _
      injection e with e
      have q0 := congrArg (fun (t : Array Value) => t[0]?) e
      have q1 : some (rawInt (s.heap.objs.size : Int)) = some (rawInt (T : Int)) := q0
      injection q1 with q1
      injection q1 with q1
      exact (Int.ofNat.inj q1).symm
    rw [e2]
    exact hi _ nf
  · have ty : s.TypeIs (.ref z) "zip" := ⟨_, hz, rfl⟩
    unfold pyNext
    refine wpAny_bind (wpAny_attempt (wpAny_callSpecial?_slot (name := Str.ofString "__next__") ty F.slot_zip_next (wpAny_call_entry F.slot_zip_next ty F.entry_zip_next
      (outItem S D1 D2 hz hT hTI st1 st2 l1 l2 fun x1 x2 h' tk p1 p2 z' t1 t2 nw sz kp => wpAny_pure ?_) (F.args_zip_next_1 _))))
    obtain ⟨n1, n2⟩ := ho T f oT hz hT
    have hT' := kp _ _ hne n1 n2 hT
    refine q x1 x2 h' tk p1 p2 ⟨⟨_, kp _ _ S.TOz S.Ti1 S.Ti2 eO⟩, .inr ⟨T, true, oT, z', hT', hne, hcl⟩⟩ (kp _ _ S.TIz S.TIi1 S.TIi2 hTI) (fun T2 f2 o2 hz2 hT2 => ?_) t1 t2 nw sz fun c o c1 _ c3 c4 e => kp c o c1 c3 c4 e
    have e := z'.symm.trans hz2
    have e2 : T2 = T := by
      injection e with e
      injection e with _ _ e _
      injection e with e
      have q0 := congrArg (fun (t : Array Value) => t[0]?) e
      have q1 : some (rawInt (T : Int)) = some (rawInt (T2 : Int)) := q0
      injection q1 with q1
      injection q1 with q1
      exact (Int.ofNat.inj q1).symm
    rw [e2]
    exact ⟨n1, n2⟩
theorem zDone {Q : Option Value → Shared → Prop} (S : ZipSep2 z TI TO i1 i2 fp1 fp2) (D1 : Draws prog w A.in1 i1 fp1 n1 P1 St1) (D2 : Draws prog w A.in1 i2 fp2 n2 P2 St2)
    (hz : Zs z TI TO s.heap) (hTI : IsTupOf2 s.heap TI (.ref i1) (.ref i2)) (st1 : St1 i s.heap) (st2 : St2 i s.heap) (l1 : i ≤ n1) (l2 : i ≤ n2) (last : i = n1 ∨ i = n2)
    (q : ∀ h' tk, (∀ c o, c ≠ z → c ≠ TO → c ≠ i1 → c ≠ i2 → s.heap.get? c = some o → h'.get? c = some o) → Q none { s with heap := h', toks := tk }) :
    wpAny (model prog w) A (pyNext (.ref z)) Q E s := by
  obtain ⟨⟨oO, eO⟩, hz⟩ := hz
  rcases hz with ⟨hz, a, b, hTO⟩ | ⟨T, f, oT, hz, hT, hne, hcl⟩
  · exact wpAny_pyNext_zipD2_end S D1 D2 hz hTI hTO st1 st2 l1 l2 last q
  · have ty : s.TypeIs (.ref z) "zip" := ⟨_, hz, rfl⟩
    unfold pyNext
    refine wpAny_bind (wpAny_attempt (wpAny_callSpecial?_slot (name := Str.ofString "__next__") ty F.slot_zip_next (wpAny_call_entry F.slot_zip_next ty F.entry_zip_next
      (outEnd S D1 D2 hz hT hTI st1 st2 l1 l2 last fun h' tk e kp he => ?_) (F.args_zip_next_1 _))))
    obtain ⟨o, ho, hc⟩ := he
    refine wpAny_bind (wpAny_isInstance (T := "StopIteration") (b := true) ⟨o, ho, hc⟩ isSubtype_stop ?_)
    exact wpAny_pure (q _ _ fun c o c1 _ c3 c4 e => kp c o c1 c3 c4 e)
end
theorem nolen_zip : typeLookup (.type "zip") "__len__" = pure none := by rw [typeLookup_type, builtinLookup_eq_fast]; kernel_rfl
theorem nohint_zip : typeLookup (.type "zip") "__length_hint__" = pure none := by rw [typeLookup_type, builtinLookup_eq_fast]; kernel_rfl
/-- the pairs stand -/
def Prs (G : Hp) (ts : List Addr) (xs ys : List V) : Prop := ∀ (j : Nat) (t : Addr) (x y : V), ts[j]? = some t → xs[j]? = some x → ys[j]? = some y → G t = some (.tup [x, y])
section
variable {A : Around} {X : Cx} {pins : List (Addr × Obj)} {σ : L2.St} {z TI TO i1 i2 D : Addr} {fp1 fp2 : List Addr} {n1 n2 n : Nat} {P1 P2 : Nat → Value → Prop} {St1 St2 : Nat → Heap → Prop} {R : Result → Shared → Prop} {res : Value} {xs ys : List V} {H : Hp}
theorem zLoop (S : ZipSep2 z TI TO i1 i2 fp1 fp2) (D1 : Draws X.prog X.w A.in1.in1 i1 fp1 n1 P1 St1) (D2 : Draws X.prog X.w A.in1.in1 i2 fp2 n2 P2 St2) (hn : n = min n1 n2) (hz : n ≤ sizeLine)
    (r1 : ∀ i v, P1 i v → ∃ x, xs[i]? = some x ∧ RelV x v) (r2 : ∀ i v, P2 i v → ∃ y, ys[i]? = some y ∧ RelV y v) (nD1 : D ∉ fp1) (nD2 : D ∉ fp2) (hD : H D = none)
    (q : ∀ (s' : Shared) (G' : Hp) (ts : List Addr), Inv X pins σ G' s' → Same H G' → G' D = some (.lst (ts.map V.ref)) → ts.length = n → Prs G' ts xs ys → (∀ t ∈ ts, H t = none) → R (.ok (.ret res)) s') :
    ∀ (k i : Nat) (s : Shared) (G : Hp) (ts : List Addr), n - i = k → i ≤ n → Inv X pins σ G s → (∀ b ∈ [z, TI, TO, i1, i2], FpOk X pins G b) → Zs z TI TO s.heap → IsTupOf2 s.heap TI (.ref i1) (.ref i2) →
      (∀ T f oT, IsZipHeld s.heap z TI TO T f → s.heap.get? T = some oT → T ≠ i1 ∧ T ≠ i2) → St1 i s.heap → St2 i s.heap → Same H G → G D = some (.lst (ts.map V.ref)) → ts.length = i → Prs G ts xs ys → (∀ t ∈ ts, H t = none) →
      codeAny (model X.prog X.w) A (.builtin "list.extend.loop" ⟨[.ref D, .ref z, res], []⟩) R s := by
  intro k
  induction k with
  | zero =>
    intro i s G ts hk hi I hf hzs hTI ho t1 t2 sm gD lt pr nw
    have ei : i = n := by omega
    refine codeAny_builtin F.entry_extend_loop ?_
    rw [Around.under_plainId F.plain_extend_loop _]
    show wpAny _ A.in1 (pyNext (.ref z) >>= _) _ _ s
    refine wpAny_bind (zDone S D1 D2 hzs hTI t1 t2 (by omega) (by omega) (by omega) fun h' tk kp => ?_)
    refine wpAny_pure (q _ G ts (I.turnedL (ch := [z, TI, TO, i1, i2]) (fun c o hb e => kp c o (fun u => hb (by simp [u])) (fun u => hb (by simp [u])) (fun u => hb (by simp [u])) (fun u => hb (by simp [u])) e) hf) sm gD (by omega) pr nw)
  | succ k ih =>
    intro i s G ts hk hi I hf hzs hTI ho t1 t2 sm gD lt pr nw
    have hlt : i < n := by omega
    have live : ∀ b ∈ [z, TI, TO, i1, i2], b < s.heap.objs.size := fun b hb => by
      have hzl : z < s.heap.objs.size := by
        rcases hzs.2 with ⟨e, _⟩ | ⟨_, _, _, e, _⟩
        · exact Heap.lt_size e
        · exact Heap.lt_size e
      have hb : b = z ∨ b = TI ∨ b = TO ∨ b = i1 ∨ b = i2 := by simpa using hb
      rcases hb with e | e | e | e | e
      · rw [e]; exact hzl
      · rw [e]; exact Heap.lt_size hTI
      · rw [e]; obtain ⟨_, e⟩ := hzs.1; exact Heap.lt_size e
      · rw [e]; obtain ⟨_, e⟩ := D1.live _ _ t1; exact Heap.lt_size e
      · rw [e]; obtain ⟨_, e⟩ := D2.live _ _ t2; exact Heap.lt_size e
    have nDc : ∀ b ∈ [z, TI, TO, i1, i2], D ≠ b := fun b hb e => by
      have h0 := (hf b hb).1
      rw [← e, gD] at h0
      cases h0
    refine codeAny_builtin F.entry_extend_loop ?_
    rw [Around.under_plainId F.plain_extend_loop _]
    show wpAny _ A.in1 (pyNext (.ref z) >>= _) _ _ s
    refine wpAny_bind (zNext S D1 D2 hzs hTI (fun T e => ?_) ho t1 t2 (by omega) (by omega) fun x1 x2 h' tk p1 p2 zs' ti' ho' u1 u2 nt sz kp => ?_)
    · obtain ⟨_, e1⟩ := D1.live _ _ t1
      obtain ⟨_, e2⟩ := D2.live _ _ t2
      exact ⟨fun w => (by rw [w, e1] at e; cases e), fun w => (by rw [w, e2] at e; cases e)⟩
    obtain ⟨x, hx, rx⟩ := r1 i x1 p1
    obtain ⟨y, hy, ry⟩ := r2 i x2 p2
    have gT : G s.heap.objs.size = none := I.hok.fresh (Nat.le_refl _)
    have new : ObjOk X.prog X.w (upd G s.heap.objs.size (.tup [x, y])) h' s.heap.objs.size (.tup [x, y]) := ⟨by show 2 ≤ sizeLine; decide, [x1, x2], .cons rx (.cons ry .nil), ⟨_, nt, rfl, _, rfl⟩⟩
    have I1 : Inv X pins σ (upd G s.heap.objs.size (.tup [x, y])) { s with heap := h', toks := tk } :=
      I.turnedNew (ch := [z, TI, TO, i1, i2]) (fun c o hb e => kp c o (fun u => hb (by simp [u])) (fun u => hb (by simp [u])) (fun u => hb (by simp [u])) (fun u => hb (by simp [u])) e) hf (Nat.le_refl _) new
    have DT : D ≠ s.heap.objs.size := ne_of_none gD gT
    have gD1 : upd G s.heap.objs.size (.tup [x, y]) D = some (.lst (ts.map V.ref)) := by rw [upd_ne DT]; exact gD
    obtain ⟨_, its, c0, rv, _, raw⟩ := I1.lstM gD1
    have ln := rv.length
    rw [List.length_map] at ln
    show wpAny _ A.in1 (updateSeq D (·.push (.ref s.heap.objs.size)) >>= _) _ _ _
    refine wpAny_bind ?_
    refine wpAny_updateSeq raw rfl ?_ (by rw [List.size_toArray]; omega) (by rw [Array.size_push, List.size_toArray]; omega)
    have I2 := I1.lset (ys := (ts ++ [s.heap.objs.size]).map V.ref) (its' := its ++ [Value.ref s.heap.objs.size]) (t' := tk) gD1 raw (f := (·.push (Value.ref s.heap.objs.size))) (by simp) (by rw [List.map_append]; exact rv.append (.cons rfl .nil)) (by rw [List.length_map, List.length_append]; simp only [List.length_cons, List.length_nil]; omega)
    have oth : ∀ b o, b ≠ D → h'.get? b = some o → (h'.update D (Obj.mapSeq (·.push (Value.ref s.heap.objs.size)))).get? b = some o := fun b o hb e => (Heap.get?_update_other _ _ (Ne.symm hb)).trans e
    have smT : ∀ t o, G t = some o → t ≠ D → upd (upd G s.heap.objs.size (.tup [x, y])) D (.lst ((ts ++ [s.heap.objs.size]).map V.ref)) t = some o := fun t o e hd => by
      rw [upd_ne hd, upd_ne (ne_of_none e gT)]
      exact e
    refine wpAny_pure ⟨plainId_quiet F.plain_extend_loop _, ih (i + 1) _ _ (ts ++ [s.heap.objs.size]) (by omega) hlt I2 (fun b hb => ?_) ?_ (oth _ _ (Ne.symm (nDc TI (by simp))) ti') (fun T f oT e1 e2 => ?_) (D1.frame _ _ _ u1 fun b hb o e => oth b o (fun w => nD1 (w ▸ hb)) e) (D2.frame _ _ _ u2 fun b hb o e => oth b o (fun w => nD2 (w ▸ hb)) e)
      ?sm upd_same (by rw [List.length_append]; simp only [List.length_cons, List.length_nil]; omega) ?pr (fun t ht => ?_)⟩
    · refine ⟨?_, (hf b hb).2⟩
      rw [upd_ne (Ne.symm (nDc b hb)), upd_ne (Nat.ne_of_lt (live b hb))]
      exact (hf b hb).1
    · obtain ⟨⟨oO, eO⟩, zz⟩ := zs'
      refine ⟨⟨oO, oth _ _ (Ne.symm (nDc TO (by simp))) eO⟩, ?_⟩
      rcases zz with ⟨hz, a, b, hTO⟩ | ⟨T, f, oT, hz, hT, hne, hcl⟩
      · exact .inl ⟨oth _ _ (Ne.symm (nDc z (by simp))) hz, a, b, oth _ _ (Ne.symm (nDc TO (by simp))) hTO⟩
      · refine .inr ⟨T, f, oT, oth _ _ (Ne.symm (nDc z (by simp))) hz, oth _ _ (fun w => ?_) hT, hne, hcl⟩
        rw [w] at hT
        have q0 := raw.symm.trans hT
        injection q0 with q0
        rw [← q0] at hcl
        injection hcl with hcl
        exact absurd hcl (by decide)
    · have e1 : IsZipHeld h' z TI TO T f := (Heap.get?_update_other _ _ (nDc z (by simp))).symm.trans e1
      by_cases w : D = T
      · exact ⟨fun u => nDc i1 (by simp) (w.trans u), fun u => nDc i2 (by simp) (w.trans u)⟩
      · exact ho' T f oT e1 ((Heap.get?_update_other _ _ w).symm.trans e2)
    case sm => exact fun t o e => smT t o (sm t o e) (fun w => by rw [w, hD] at e; cases e)
    case pr =>
      intro j t a b e1 e2 e3
      by_cases hj : j < ts.length
      · rw [List.getElem?_append_left hj] at e1
        have g := pr j t a b e1 e2 e3
        exact smT t _ g fun w => by rw [w, gD] at g; cases g
      · have hj2 : j < (ts ++ [s.heap.objs.size]).length := (List.getElem?_eq_some_iff.mp e1).1
        rw [List.length_append] at hj2
        simp only [List.length_cons, List.length_nil] at hj2
        have ej : j = i := by omega
        subst ej
        rw [List.getElem?_append_right (by omega), show j - ts.length = 0 by omega] at e1
        cases e1
        rw [hx] at e2
        rw [hy] at e3
        cases e2
        cases e3
        rw [upd_ne (Ne.symm DT)]
        exact upd_same
    · rcases List.mem_append.mp ht with h | h
      · exact nw t h
      · rw [List.mem_singleton.mp h]
        cases e : H s.heap.objs.size with
        | none => rfl
        | some o => rw [sm _ _ e] at gT; cases gT
/-- listExtendWith of a zip -/
theorem zGrow {s : Shared} (T : s.TypeIs (.ref z) "zip") (hz : IsZip s.heap z TI TO .none) (hne : D ≠ z) (eD : s.heap.get? D = some { cls := .type "list", data := .seq #[] })
    (k : ∀ h', (∀ b o, b ≠ D → s.heap.get? b = some o → h'.get? b = some o) → (∃ c0, h'.get? D = some { cls := .type "list", data := .seq #[] c0 }) → codeAny (model X.prog X.w) A (.builtin "list.extend.loop" ⟨[.ref D, .ref z, res], []⟩) R { s with heap := h' }) :
    wpAny (model X.prog X.w) A.in1 (Builtin.List.listExtendWith (.ref D) (.ref z) res)
      (fun fin s' => match fin with
        | .done f => R (.ok f) s'
        | .again c' => c'.quiet = true ∧ codeAny (model X.prog X.w) A c' R s') (fun e s' => R (.error e) s') s := by
  unfold Builtin.List.listExtendWith
  refine wpAny_bind (wpAny_typeOf T ?_)
  have no : Builtin.List.listSameRef (.ref D) (.ref z) = false := by simp [Builtin.List.listSameRef, hne]
  rw [if_neg (by rw [no]; decide)]
  refine wpAny_bind (wpAny_pyIter_zip hz ?_)
  refine wpAny_bind (wpAny_holding ?_)
  unfold Builtin.List.listLengthHint
  refine wpAny_bind (wpAny_specialOf T nolen_zip ?_)
  show wpAny _ A.in1 (specialOf (.ref z) (Str.ofString "__length_hint__") >>= _) _ _ _
  refine wpAny_bind (wpAny_specialOf T nohint_zip ?_)
  refine wpAny_pure ?_
  show wpAny _ A.in1 (rule "list.extend.makes-room" >>= fun _ => Builtin.List.listTouch (.ref D) >>= fun _ => again (.builtin "list.extend.loop" ⟨[.ref D, .ref z, res], []⟩)) _ _ _
  refine wpAny_bind (wpAny_rule (wpAny_bind ?_))
  show wpAny _ A.in1 (updateSeq D (·.push .none) >>= fun _ => updateSeq D (·.pop)) _ _ _
  refine wpAny_bind (wpAny_updateSeq eD rfl ?_)
  have e2 := Heap.get?_update_self (Obj.mapSeq (·.push Value.none)) eD rfl
  refine wpAny_updateSeq e2 rfl ?_
  have e3 := Heap.get?_update_self (Obj.mapSeq (·.pop)) e2 rfl
  exact wpAny_pure ⟨plainId_quiet F.plain_extend_loop _, k _ (fun b o hb e => (Heap.get?_update_other _ _ (Ne.symm hb)).trans ((Heap.get?_update_other _ _ (Ne.symm hb)).trans e)) ⟨_, e3⟩⟩
theorem neN (a b : Nat) (h : a < b ∨ b < a) : a ≠ b := by omega
theorem nin2 (D B l : Nat) (h1 : D < B ∨ B < D) (h2 : D < l ∨ l < D) : D ∉ [B, l] := by
  simp only [List.mem_cons, List.not_mem_nil, or_false]
  omega
theorem sepN (B l1 l2 : Nat) (h1 : l1 < B) (h2 : l2 < B) : ZipSep2 (B + 4) (B + 2) (B + 3) B (B + 1) [B, l1] [B + 1, l2] :=
  ⟨neN _ _ (by omega), neN _ _ (by omega), neN _ _ (by omega), neN _ _ (by omega), List.mem_cons_self, nin2 _ _ _ (by omega) (by omega), nin2 _ _ _ (by omega) (by omega), neN _ _ (by omega), List.mem_cons_self,
    nin2 _ _ _ (by omega) (by omega), nin2 _ _ _ (by omega) (by omega), nin2 _ _ _ (by omega) (by omega), nin2 _ _ _ (by omega) (by omega)⟩
theorem ninN (D B l : Nat) (h : B < D) (hl : l < D) : D ∉ [B, l] := by
  simp only [List.mem_cons, List.not_mem_nil, or_false]
  omega
theorem inN (B b : Nat) (h : b = B + 4 ∨ b = B + 2 ∨ b = B + 3 ∨ b = B ∨ b = B + 1) : B ≤ b ∧ b < B + 5 := by omega
theorem vback {xs : List V} {its : List Value} {i : Nat} {v : Value} (r : Vals xs its) (e : its[i]? = some v) : ∃ x, xs[i]? = some x ∧ RelV x v := by
  have h := (List.getElem?_eq_some_iff.mp e).1
  rw [← r.length] at h
  obtain ⟨u, hu, ru⟩ := r.get (List.getElem?_eq_getElem h)
  rw [e] at hu
  cases hu
  exact ⟨_, List.getElem?_eq_getElem h, ru⟩
/-- what list(zip(a, b)) asks -/
def tZipL (K : PySem.W.Frag) (ta : TA) : TE := fun σ H Q => ta σ H fun vs G => ∃ (a b : Addr) (xs ys : List V), vs = [.ref a, .ref b] ∧ ((SqL K G a xs ∧ SqL K G b ys) ∨ (SqT K G a xs ∧ SqT K G b ys)) ∧
  ∀ (q : Addr) (ts : List Addr) (F : Hp), Same G F → G q = none → F q = some (.lst (ts.map V.ref)) → ts.length = min xs.length ys.length → Prs F ts xs ys → (∀ t ∈ ts, G t = none) → Q (.ref q) F
theorem zList {Q0 Q : Value → Shared → Prop} {E : Value → Shared → Prop} {s1 : Shared} {o1 o2 : Obj} {v1 v2 : Value} {H1 H2 : Heap → Prop} {l1 l2 : Addr} (hh : A.handled = none) (I : Inv X pins σ H s1) (B1 : Begins v1 o1 H1) (B2 : Begins v2 o2 H2) (h1 : H1 s1.heap) (h2 : H2 s1.heap)
    (L1 : l1 < s1.heap.objs.size) (L2 : l2 < s1.heap.objs.size)
    (D1 : ∀ A' : Around, A'.handled = none → Draws X.prog X.w A' s1.heap.objs.size [s1.heap.objs.size, l1] n1 P1 St1) (D2 : ∀ A' : Around, A'.handled = none → Draws X.prog X.w A' (s1.heap.objs.size + 1) [s1.heap.objs.size + 1, l2] n2 P2 St2)
    (hn : n = min n1 n2) (hz : n ≤ sizeLine) (r1 : ∀ i v, P1 i v → ∃ x, xs[i]? = some x ∧ RelV x v) (r2 : ∀ i v, P2 i v → ∃ y, ys[i]? = some y ∧ RelV y v)
    (b1 : ∀ h', h'.get? s1.heap.objs.size = some o1 → (∀ c o, s1.heap.get? c = some o → h'.get? c = some o) → St1 0 h') (b2 : ∀ h', h'.get? (s1.heap.objs.size + 1) = some o2 → (∀ c o, s1.heap.get? c = some o → h'.get? c = some o) → St2 0 h')
    (q : ∀ (s' : Shared) (G' : Hp) (ts : List Addr) (D : Addr), Inv X pins σ G' s' → Same H G' → H D = none → G' D = some (.lst (ts.map V.ref)) → ts.length = n → Prs G' ts xs ys → (∀ t ∈ ts, H t = none) → Q (.ref D) s')
    (q0 : ∀ v s2, wpAny (model X.prog X.w) A (call (.type "list") [v]) Q E s2 → Q0 v s2) : wpAny (model X.prog X.w) A (call (.type "zip") [v1, v2]) Q0 E s1 := by
  refine zip_begins2 B1 B2 h1 h2 fun h' hz0 hTI hTO e1 e2 sz kp => q0 _ _ ?_
  generalize hB : s1.heap.objs.size = B at *
  have dz : h'.objs.size ≠ B + 4 := by omega
  refine callType_codes (Q₁ := fun obj s₁ => obj = .ref h'.objs.size ∧ s₁ = { s1 with heap := h'.push { cls := .type "list", data := .seq #[] } })
    F.called_list (F.typeCall_list_1 _) F.entry_list_init (code_list_new _ ⟨rfl, rfl⟩) (fun obj s₁ h₁ => ?_)
  obtain ⟨rfl, rfl⟩ := h₁
  have eD : (h'.push { cls := .type "list", data := .seq #[] }).get? h'.objs.size = some { cls := .type "list", data := .seq #[] } := Heap.get?_push_size _ rfl
  refine ⟨⟨_, eD, rfl⟩, F.args_list_init_2 _ _, ?_⟩
  show wpAny _ _ (do
    let old ← Builtin.List.listItems (.ref h'.objs.size)
    Builtin.List.listUpdate (.ref h'.objs.size) (fun _ => #[])
    letGo old.toList.reverse
    Builtin.List.listExtendWith (.ref h'.objs.size) (.ref (B + 4)) .none) _ _ _
  refine wpAny_bind ?_
  unfold Builtin.List.listItems
  refine wpAny_bind (wpAny_seqItems eD rfl (wpAny_pure ?_))
  show wpAny _ _ (do
    updateSeq h'.objs.size (fun _ => #[])
    letGo (#[] : Array Value).toList.reverse
    Builtin.List.listExtendWith (.ref h'.objs.size) (.ref (B + 4)) .none) _ _ _
  refine wpAny_bind (wpAny_updateSeq eD rfl ?_)
  have eD2 := Heap.get?_update_self (Obj.mapSeq fun _ => (#[] : Array Value)) eD rfl
  refine wpAny_bind (wpAny_letGo ?_)
  generalize hh2 : (h'.push { cls := .type "list", data := .seq #[] }).update h'.objs.size (Obj.mapSeq fun _ => (#[] : Array Value)) = g2 at eD2 ⊢
  have k2 : ∀ b o, h'.get? b = some o → g2.get? b = some o := fun b o e => by
    rw [← hh2, Heap.get?_update_other _ _ (Nat.ne_of_gt (Heap.lt_size e))]
    exact Heap.get?_push_of_some _ e
  refine zGrow (X := X) (s := { s1 with heap := g2 }) ⟨_, k2 _ _ hz0, rfl⟩ (k2 _ _ hz0) dz eD2 fun g3 k3 e3 => ?_
  obtain ⟨c0, e3⟩ := e3
  have k23 : ∀ b o, h'.get? b = some o → g3.get? b = some o := fun b o e => k3 b o (Nat.ne_of_lt (Heap.lt_size e)) (k2 b o e)
  have kall : ∀ b o, s1.heap.get? b = some o → g3.get? b = some o := fun b o e => k23 b o (kp b o e)
  have hle : s1.heap.objs.size ≤ h'.objs.size := by omega
  have hD : H h'.objs.size = none := I.hok.fresh hle
  have I3 : Inv X pins σ (upd H h'.objs.size (.lst [])) { s1 with heap := g3 } := I.laid (t' := s1.toks) kall hle (show ObjOk X.prog X.w _ _ _ (.lst []) from ⟨Nat.zero_le _, [], c0, .nil, e3⟩)
  have S := sepN B l1 l2 L1 L2
  refine zLoop (A := A.in1) S (D1 _ hh) (D2 _ hh) hn hz r1 r2 (D := h'.objs.size) (xs := xs) (ys := ys) ?_ ?_ hD (fun s' G' ts I' sm gD lt pr nw => ⟨rfl, q s' G' ts _ I' sm hD gD lt pr nw⟩) n 0 _ (upd H h'.objs.size (.lst [])) [] (by omega) (Nat.zero_le _) I3 (fun b hb => ?_) ⟨⟨_, k23 _ _ hTO⟩, .inl ⟨k23 _ _ hz0, _, _, k23 _ _ hTO⟩⟩ (k23 _ _ hTI) (fun T f oT e1 e2 => ?_) (b1 _ (k23 _ _ e1) kall) (b2 _ (k23 _ _ e2) kall)
    (fun t o e => by rw [upd_ne (ne_of_none e hD)]; exact e) upd_same rfl (fun j t x y e => by simp at e) (fun t h => absurd h List.not_mem_nil)
  · exact ninN _ _ _ (by omega) (Nat.lt_of_lt_of_le L1 (by omega))
  · exact ninN _ _ _ (by omega) (Nat.lt_of_lt_of_le L2 (by omega))
  · have hb : b = B + 4 ∨ b = B + 2 ∨ b = B + 3 ∨ b = B ∨ b = B + 1 := by simpa using hb
    have l0 := inN B b hb
    have lb : s1.heap.objs.size ≤ b ∧ b ≠ h'.objs.size := ⟨by rw [hB]; exact l0.1, Nat.ne_of_lt (by omega)⟩
    refine I.fpOk lb.1 ?_
    rw [upd_ne lb.2]
    exact I.hok.fresh lb.1
  · have e := (k23 _ _ hz0).symm.trans e1
    injection e with e
    injection e with _ _ e _
    injection e with e
    have q0 := congrArg (fun (t : Array Value) => t[0]?) e
    have q1 : some Value.none = some (rawInt (T : Int)) := q0
    injection q1 with q1
    cases q1
end
section
variable {X : Cx}
theorem pe_listZip {e e2 : Expr} {ta : TA} {p p2 pos pos2 : Pos} (hc : X.calm = true) (hg : Gl X "list") (hm : X.mg "list" = none) (hg2 : Gl X "zip") (hm2 : X.mg "zip" = none) (ha : PA X [e, e2] ta)
    (hs : starEach [e, e2] X.env = (false, eval e X.env) :: starEach [e2] X.env := by rfl) (hpl : (backTo pos2 (starEach [e2] X.env)).any (·.1) = false := by rfl)
    (hs2 : starEach [.Call (.Name "zip" p2) [e, e2] [] pos2] X.env = (false, eval (.Call (.Name "zip" p2) [e, e2] [] pos2) X.env) :: starEach [] X.env := by rfl) :
    PE X (.Call (.Name "list" p) [.Call (.Name "zip" p2) [e, e2] [] pos2] [] pos) (tZipL X.K ta) := by
  refine ⟨fun pins s σ H Q I h => ?_⟩
  refine Call_ (ld_blt I hg hm boot_list (PyProof.Rows.callWith_type1 (args_cons (Call_ (ld_blt I hg2 hm2 PyProof.Rows.boot_zip (PyProof.Rows.callWith_type1 (thn (ha.run pos2 pins s σ H _ I h) fun us s1 ⟨vs, G, I1, rr, a, b, xs, ys, ev, sq, q⟩ => ?_) hs hpl))) hs2) hs2 rfl))
  subst ev
  cases rr with
  | cons ra rr =>
    cases rr with
    | cons rb rr =>
      cases rr
      cases ra
      cases rb
      have hd : X.A.handled = none := I1.ok.hd hc
      have fin : ∀ (s' : Shared) (G' : Hp) (ts : List Addr) (D : Addr), Inv X pins σ G' s' → Same G G' → G D = none → G' D = some (.lst (ts.map V.ref)) → ts.length = min xs.length ys.length → Prs G' ts xs ys → (∀ t ∈ ts, G t = none) → EP X pins σ Q (.ref D) s' :=
        fun s' G' ts D I' sm hD gD lt pr nw => ⟨.ref D, G', I', rfl, q D ts G' sm hD gD lt pr nw⟩
      rcases sq with ⟨sx, sy⟩ | ⟨sx, sy⟩
      · obtain ⟨its, rv, p1, z1⟩ := I1.list sx
        obtain ⟨jts, rw, p2, z2⟩ := I1.list sy
        have n1 := rv.length
        have n2 := rw.length
        refine zList (n := min its.toArray.size jts.toArray.size) hd I1 (begins_list a its.toArray) (begins_list b jts.toArray) p1.isList p2.isList p1.lt p2.lt (fun A' h' => .list h' _ a (Nat.ne_of_lt p1.lt) its.toArray) (fun A' h' => .list h' _ b (Nat.ne_of_lt (Nat.lt_succ_of_lt p2.lt)) jts.toArray) rfl ?_
          (fun i v e => ?_) (fun i v e => ?_) (fun h' e k => ⟨⟨_, e, rfl, rfl⟩, ?_⟩) (fun h' e k => ⟨⟨_, e, rfl, rfl⟩, ?_⟩) (fun s' G' ts D I' sm hD gD lt pr nw => fin s' G' ts D I' sm hD gD (by rw [lt, List.size_toArray, List.size_toArray, n1, n2]) pr nw) (fun v s2 hv => args_nil hv)
        · rw [List.size_toArray]
          omega
        · exact vback rv (by simpa using e)
        · exact vback rw (by simpa using e)
        · exact p1.isList.at fun o u => k _ _ u
        · exact p2.isList.at fun o u => k _ _ u
      · obtain ⟨its, rv, p1, z1⟩ := I1.tuple sx
        obtain ⟨jts, rw, p2, z2⟩ := I1.tuple sy
        have l1 : a < s1.heap.objs.size := let ⟨_, e, _⟩ := p1; Heap.lt_size e
        have l2 : b < s1.heap.objs.size := let ⟨_, e, _⟩ := p2; Heap.lt_size e
        have p1 : s1.heap.IsTuple a its.toArray := p1
        have p2 : s1.heap.IsTuple b jts.toArray := p2
        have n1 := rv.length
        have n2 := rw.length
        refine zList (n := min its.toArray.size jts.toArray.size) hd I1 (begins_tuple a its.toArray) (begins_tuple b jts.toArray) p1 p2 l1 l2 (fun A' h' => .tuple h' _ a (Nat.ne_of_lt l1) its.toArray) (fun A' h' => .tuple h' _ b (Nat.ne_of_lt (Nat.lt_succ_of_lt l2)) jts.toArray) rfl ?_
          (fun i v e => ?_) (fun i v e => ?_) (fun h' e k => ⟨⟨_, e, rfl, rfl⟩, ?_⟩) (fun h' e k => ⟨⟨_, e, rfl, rfl⟩, ?_⟩) (fun s' G' ts D I' sm hD gD lt pr nw => fin s' G' ts D I' sm hD gD (by rw [lt, List.size_toArray, List.size_toArray, n1, n2]) pr nw) (fun v s2 hv => args_nil hv)
        · rw [List.size_toArray]
          omega
        · exact vback rv (by simpa using e)
        · exact vback rw (by simpa using e)
        · exact p1.at fun o u => k _ _ u
        · exact p2.at fun o u => k _ _ u
end
end Kz

/-! a turn of a zip whose tuple is no more there; zip over tuples and texts for any target of one name or of several -/
namespace Kz
open PySem PySem.Spec PyProof.Rows L2
section
variable {prog : Program} {w : World} {A : Around} {E : Value → Shared → Prop} {s : Shared} {z TI TO i1 i2 T : Addr} {fp1 fp2 : List Addr} {n1 n2 i : Nat} {P1 P2 : Nat → Value → Prop} {St1 St2 : Nat → Heap → Prop} {f : Bool} {c1 c2 : Value}
theorem gone {a : Addr} {Q : Option Obj → Shared → Prop} (e : s.heap.get? a = none) (q : Q none s) : wpAny (model prog w) A (loadIfAlive a) Q E s := by
  have q' : Q (s.heap.get? a) s := by rw [e]; exact q
  exact fun _ _ _ => q'
theorem free_gone {Q : Bool → Shared → Prop} (hz : IsZipHeld s.heap z TI TO T f) (hT : s.heap.get? T = none) (q : Q true s) : wpAny (model prog w) A (Builtin.SmallTypes.ownedTupleIsFree (.ref z)) Q E s := by
  unfold Builtin.SmallTypes.ownedTupleIsFree
  refine wpAny_bind (wpAny_field hz rfl (x := rawInt T) rfl ?_)
  show wpAny _ _ (loadIfAlive ((T : Int).toNat) >>= _) _ _ _
  rw [Int.toNat_natCast]
  refine wpAny_bind (gone hT ?_)
  simp only [Option.isNone_none, if_true]
  exact wpAny_pure q
theorem goneItem {Q : Value → Shared → Prop} (S : ZipSep2 z TI TO i1 i2 fp1 fp2) (D1 : Draws prog w A i1 fp1 n1 P1 St1) (D2 : Draws prog w A i2 fp2 n2 P2 St2)
    (hz : IsZipHeld s.heap z TI TO T f) (hT : s.heap.get? T = none) (hTI : IsTupOf2 s.heap TI (.ref i1) (.ref i2)) (hTO : IsTupOf2 s.heap TO c1 c2) (st1 : St1 i s.heap) (st2 : St2 i s.heap) (l1 : i < n1) (l2 : i < n2)
    (q : ∀ x1 x2 h' tk, P1 i x1 → P2 i x2 → IsZip h' z TI TO (rawInt s.heap.objs.size) → IsTupOf2 h' TO x1 x2 → St1 (i + 1) h' → St2 (i + 1) h' → IsTupOf2 h' s.heap.objs.size x1 x2 → h'.objs.size = s.heap.objs.size + 1 →
      (∀ c o, c ≠ z → c ≠ TO → c ≠ i1 → c ≠ i2 → s.heap.get? c = some o → h'.get? c = some o) → Q (.ref s.heap.objs.size) { s with heap := h', toks := tk }) :
    wpAny (model prog w) A (Builtin.«zip.__next__» ⟨[.ref z], []⟩) (fun fin s' => ∃ v, fin = .done (.ret v) ∧ Q v s') E s := by
  obtain ⟨hp, ge, dr, tk0, os⟩ := s
  show wpAny _ _ (field (.ref z) 2 >>= _) _ _ _
  refine wpAny_bind (wpAny_field hz rfl (x := .bool false) rfl ?_)
  show wpAny _ _ (field (.ref z) 3 >>= _) _ _ _
  refine wpAny_bind (wpAny_field hz rfl (x := .ref TI) rfl ?_)
  refine wpAny_bind (wpAny_seqItems hTI rfl ?_)
  show wpAny _ _ (Builtin.SmallTypes.ownedTupleIsFree (.ref z) >>= _) _ _ _
  refine wpAny_bind (free_gone hz hT ?_)
  simp only [if_true]
  refine wpAny_bind (wpAny_rule ?_)
  refine wpAny_bind (wpAny_field hz rfl (x := .ref TO) rfl ?_)
  refine wpAny_bind (wpAny_setField_rec hz (by simp) fun k0 zk0 sk0 => ?_)
  replace zk0 : k0.get? z = some { cls := .type "zip", dict := none, data := .fields #[.ellipsis, .bool f, .bool false, .ref TI, .ref TO], slots := #[] } := zk0
  replace sk0 : Heap.SameBut z hp k0 := sk0
  refine wpAny_bind ?_
  simp only [List.zipIdx_cons, List.zipIdx_nil, List.forIn_cons, List.forIn_nil]
  refine wpAny_bind (wpAny_bind (wpAny_onRaise ?_))
  show wpAny _ _ (Builtin.SmallTypes.nextOf (.ref i1) >>= _) _ _ ⟨k0, ge, dr, tk0, os⟩
  refine wpAny_bind (D1.item i _ _ _ l1 (D1.over st1 sk0 S.zf1) fun x1 k1 t1 px1 n1' sk1 => wpAny_pure ?_)
  replace sk1 : Heap.SameBut i1 k0 k1 := sk1
  have u1 : IsTupOf2 k1 TO c1 c2 := sk1.extBut _ _ S.Ti1 (sk0.extBut _ _ S.TOz hTO)
  refine wpAny_bind (wpAny_seqItems (s := ⟨k1, ge, dr, t1, os⟩) u1 rfl ?_)
  refine wpAny_bind (updateSeq_IsTupOf2 (s := ⟨k1, ge, dr, t1, os⟩) u1 fun k2 v2 sk2 => ?_)
  replace v2 : IsTupOf2 k2 TO x1 c2 := v2
  replace sk2 : Heap.SameBut TO k1 k2 := sk2
  refine wpAny_bind (wpAny_letGo (wpAny_pure ?_))
  refine wpAny_bind (wpAny_bind (wpAny_onRaise ?_))
  show wpAny _ _ (Builtin.SmallTypes.nextOf (.ref i2) >>= _) _ _ ⟨k2, ge, dr, t1, os⟩
  refine wpAny_bind (D2.item i _ _ _ l2 (D2.over (D2.over (D2.over st2 sk0 S.zf2) sk1 S.sep1_2) sk2 S.Tf2) fun x2 k3 t2 px2 n2' sk3 => wpAny_pure ?_)
  replace sk3 : Heap.SameBut i2 k2 k3 := sk3
  have u2 : IsTupOf2 k3 TO x1 c2 := sk3.extBut _ _ S.Ti2 v2
  refine wpAny_bind (wpAny_seqItems (s := ⟨k3, ge, dr, t2, os⟩) u2 rfl ?_)
  refine wpAny_bind (updateSeq_IsTupOf2 (s := ⟨k3, ge, dr, t2, os⟩) u2 fun k4 v4 sk4 => ?_)
  replace v4 : IsTupOf2 k4 TO x1 x2 := v4
  replace sk4 : Heap.SameBut TO k3 k4 := sk4
  refine wpAny_bind (wpAny_letGo (wpAny_pure (wpAny_pure ?_)))
  refine wpAny_bind (wpAny_seqItems (s := ⟨k4, ge, dr, t2, os⟩) v4 rfl ?_)
  refine wpAny_bind (wpAny_newTuple ?_)
  have esz : k4.objs.size = hp.objs.size := by rw [sk4.1, sk3.1, sk2.1, sk1.1, sk0.1]
  have zk4 := sk4.extBut _ _ S.TOz.symm (sk3.extBut _ _ S.zi2 (sk2.extBut _ _ S.TOz.symm (sk1.extBut _ _ S.zi1 zk0)))
  have kk : ∀ c o, c ≠ z → c ≠ TO → c ≠ i1 → c ≠ i2 → hp.get? c = some o → k4.get? c = some o := fun c o d1 d2 d3 d4 e =>
    sk4.extBut _ _ d2 (sk3.extBut _ _ d4 (sk2.extBut _ _ d2 (sk1.extBut _ _ d3 (sk0.extBut _ _ d1 e))))
  have j1 : St1 (i + 1) k4 := D1.over (D1.over (D1.over n1' sk2 S.Tf1) sk3 S.sep2_1) sk4 S.Tf1
  have j2 : St2 (i + 1) k4 := D2.over n2' sk4 S.Tf2
  have zlt : z < k4.objs.size := Heap.lt_size zk4
  show wpAny _ _ (Builtin.SmallTypes.ownedTupleHandOut (.ref z) (.ref k4.objs.size) >>= _) _ _ ⟨k4.push { cls := .type "tuple", data := .seq #[x1, x2] }, ge, dr, t2, os⟩
  refine wpAny_bind ?_
  unfold Builtin.SmallTypes.ownedTupleHandOut
  refine wpAny_bind (wpAny_setField_rec (Heap.get?_push_of_some _ zk4) (by simp) fun k5 zk5 sk5 => ?_)
  replace sk5 : Heap.SameBut z (k4.push { cls := .type "tuple", data := .seq #[x1, x2] }) k5 := sk5
  refine wpAny_setField_rec (s := ⟨k5, ge, dr, t2, os⟩) zk5 (by simp) fun k6 zk6 sk6 => ?_
  replace zk6 : IsZip k6 z TI TO (rawInt k4.objs.size) := zk6
  replace sk6 : Heap.SameBut z k5 k6 := sk6
  have up : ∀ c o, c ≠ z → k4.get? c = some o → k6.get? c = some o := fun c o d e => sk6.extBut _ _ d (sk5.extBut _ _ d (Heap.get?_push_of_some _ e))
  have nt : IsTupOf2 k6 k4.objs.size x1 x2 := sk6.extBut _ _ (Nat.ne_of_gt zlt) (sk5.extBut _ _ (Nat.ne_of_gt zlt) (Heap.get?_push_size _ rfl))
  have sz6 : k6.objs.size = k4.objs.size + 1 := by rw [sk6.1, sk5.1, Heap.size_push]
  rw [esz] at zk6 nt sz6
  refine wpAny_pure ⟨_, rfl, ?_⟩
  show Q (.ref k4.objs.size) ⟨k6, ge, dr, t2, os⟩
  rw [esz]
  exact q x1 x2 k6 t2 px1 px2 zk6 (up _ _ S.TOz v4) (D1.frame _ _ _ j1 fun b hb o e => up b o (fun y => S.zf1 (y ▸ hb)) e) (D2.frame _ _ _ j2 fun b hb o e => up b o (fun y => S.zf2 (y ▸ hb)) e) nt sz6 fun c o d1 d2 d3 d4 e => up c o d1 (kk c o d1 d2 d3 d4 e)
theorem goneEnd {Q : Fin → Shared → Prop} (S : ZipSep2 z TI TO i1 i2 fp1 fp2) (D1 : Draws prog w A i1 fp1 n1 P1 St1) (D2 : Draws prog w A i2 fp2 n2 P2 St2)
    (hz : IsZipHeld s.heap z TI TO T f) (hT : s.heap.get? T = none) (hTI : IsTupOf2 s.heap TI (.ref i1) (.ref i2)) (hTO : IsTupOf2 s.heap TO c1 c2) (st1 : St1 i s.heap) (st2 : St2 i s.heap) (l1 : i ≤ n1) (l2 : i ≤ n2) (last : i = n1 ∨ i = n2)
    (q : ∀ h' tk e, (∀ c o, c ≠ z → c ≠ TO → c ≠ i1 → c ≠ i2 → s.heap.get? c = some o → h'.get? c = some o) → (∃ o, h'.get? e = some o ∧ o.cls = .type "StopIteration") → E (.ref e) { s with heap := h', toks := tk }) :
    wpAny (model prog w) A (Builtin.«zip.__next__» ⟨[.ref z], []⟩) Q E s := by
  obtain ⟨hp, ge, dr, tk0, os⟩ := s
  show wpAny _ _ (field (.ref z) 2 >>= _) _ _ _
  refine wpAny_bind (wpAny_field hz rfl (x := .bool false) rfl ?_)
  show wpAny _ _ (field (.ref z) 3 >>= _) _ _ _
  refine wpAny_bind (wpAny_field hz rfl (x := .ref TI) rfl ?_)
  refine wpAny_bind (wpAny_seqItems hTI rfl ?_)
  show wpAny _ _ (Builtin.SmallTypes.ownedTupleIsFree (.ref z) >>= _) _ _ _
  refine wpAny_bind (free_gone hz hT ?_)
  simp only [if_true]
  refine wpAny_bind (wpAny_rule ?_)
  refine wpAny_bind (wpAny_field hz rfl (x := .ref TO) rfl ?_)
  refine wpAny_bind (wpAny_setField_rec hz (by simp) fun k0 zk0 sk0 => ?_)
  replace zk0 : k0.get? z = some { cls := .type "zip", dict := none, data := .fields #[.ellipsis, .bool f, .bool false, .ref TI, .ref TO], slots := #[] } := zk0
  replace sk0 : Heap.SameBut z hp k0 := sk0
  refine wpAny_bind ?_
  simp only [List.zipIdx_cons, List.zipIdx_nil, List.forIn_cons, List.forIn_nil]
  refine wpAny_bind (wpAny_bind (wpAny_onRaise ?_))
  show wpAny _ _ (Builtin.SmallTypes.nextOf (.ref i1) >>= _) _ _ ⟨k0, ge, dr, tk0, os⟩
  have fin : ∀ (k : Heap) (tk : Nat) (e : Addr), k.get? z = some { cls := .type "zip", dict := none, data := .fields #[.ellipsis, .bool f, .bool false, .ref TI, .ref TO], slots := #[] } → (∃ o, k.get? e = some o ∧ o.cls = .type "StopIteration") → (∀ c o, c ≠ z → c ≠ TO → c ≠ i1 → c ≠ i2 → hp.get? c = some o → k.get? c = some o) →
      wpAny (model prog w) A (setField (.ref z) 0 .none) (fun _ s' => E (.ref e) s') E ⟨k, ge, dr, tk, os⟩ := fun k tk e zk ⟨oe, eo, ec⟩ kk => by
    have ne : e ≠ z := fun y => by
      rw [y, zk] at eo
      cases eo
      exact absurd (show Value.type "zip" = Value.type "StopIteration" from ec) (by decide)
    refine wpAny_setField_rec (s := ⟨k, ge, dr, tk, os⟩) zk (by simp) fun k' _ sk' => ?_
    replace sk' : Heap.SameBut z k k' := sk'
    exact q k' tk e (fun c o d1 d2 d3 d4 y => sk'.extBut _ _ d1 (kk c o d1 d2 d3 d4 y)) ⟨oe, sk'.extBut _ _ ne eo, ec⟩
  by_cases lt : i < n1
  · refine wpAny_bind (D1.item i _ _ _ lt (D1.over st1 sk0 S.zf1) fun x1 k1 t1 px1 n1' sk1 => wpAny_pure ?_)
    replace sk1 : Heap.SameBut i1 k0 k1 := sk1
    have u1 : IsTupOf2 k1 TO c1 c2 := sk1.extBut _ _ S.Ti1 (sk0.extBut _ _ S.TOz hTO)
    refine wpAny_bind (wpAny_seqItems (s := ⟨k1, ge, dr, t1, os⟩) u1 rfl ?_)
    refine wpAny_bind (updateSeq_IsTupOf2 (s := ⟨k1, ge, dr, t1, os⟩) u1 fun k2 v2 sk2 => ?_)
    replace sk2 : Heap.SameBut TO k1 k2 := sk2
    refine wpAny_bind (wpAny_letGo (wpAny_pure ?_))
    have e2 : i = n2 := by omega
    refine wpAny_bind (wpAny_bind (wpAny_onRaise ?_))
    show wpAny _ _ (Builtin.SmallTypes.nextOf (.ref i2) >>= _) _ _ ⟨k2, ge, dr, t1, os⟩
    refine wpAny_bind (D2.done ⟨k2, ge, dr, t1, os⟩ _ _ (by rw [← e2]; exact D2.over (D2.over (D2.over st2 sk0 S.zf2) sk1 S.sep1_2) sk2 S.Tf2) fun k3 e sk3 he => ?_)
    replace sk3 : Heap.ExtBut i2 k2 k3 := sk3
    exact fin k3 t1 e (sk3 _ _ S.zi2 (sk2.extBut _ _ S.TOz.symm (sk1.extBut _ _ S.zi1 zk0))) he fun c o d1 d2 d3 d4 y => sk3 _ _ d4 (sk2.extBut _ _ d2 (sk1.extBut _ _ d3 (sk0.extBut _ _ d1 y)))
  · have e1 : i = n1 := by omega
    refine wpAny_bind (D1.done ⟨k0, ge, dr, tk0, os⟩ _ _ (by rw [← e1]; exact D1.over st1 sk0 S.zf1) fun k3 e sk3 he => ?_)
    replace sk3 : Heap.ExtBut i1 k0 k3 := sk3
    exact fin k3 tk0 e (sk3 _ _ S.zi1 zk0) he fun c o d1 d2 d3 d4 y => sk3 _ _ d3 (sk0.extBut _ _ d1 y)
/-- the zip before a turn: nothing is out, or a tuple was given out, there or no more -/
def Zg (z TI TO : Addr) (h : Heap) : Prop := (∃ a b, IsTupOf2 h TO a b) ∧ (IsZip h z TI TO .none ∨ ∃ T f, IsZipHeld h z TI TO T f)
theorem gNext {Q : Option Value → Shared → Prop} (S : ZipSep2 z TI TO i1 i2 fp1 fp2) (D1 : Draws prog w A.in1 i1 fp1 n1 P1 St1) (D2 : Draws prog w A.in1 i2 fp2 n2 P2 St2)
    (hz : Zg z TI TO s.heap) (hTI : IsTupOf2 s.heap TI (.ref i1) (.ref i2)) (st1 : St1 i s.heap) (st2 : St2 i s.heap) (l1 : i < n1) (l2 : i < n2)
    (q : ∀ x1 x2 h' tk, P1 i x1 → P2 i x2 → ((∃ a b, IsTupOf2 h' TO a b) ∧ ∃ T f, IsZipHeld h' z TI TO T f ∧ (IsZip s.heap z TI TO .none → T = s.heap.objs.size ∧ f = false)) → IsTupOf2 h' TI (.ref i1) (.ref i2) → St1 (i + 1) h' → St2 (i + 1) h' → IsTupOf2 h' s.heap.objs.size x1 x2 → h'.objs.size = s.heap.objs.size + 1 →
      (∀ c o, c ≠ z → c ≠ TO → c ≠ i1 → c ≠ i2 → s.heap.get? c = some o → h'.get? c = some o) → Q (some (.ref s.heap.objs.size)) { s with heap := h', toks := tk }) :
    wpAny (model prog w) A (pyNext (.ref z)) Q E s := by
  obtain ⟨⟨a, b, hTO⟩, hz⟩ := hz
  rcases hz with hz | ⟨T, f, hz⟩
  · refine wpAny_pyNext_zipD2_item S D1 D2 hz hTI hTO st1 st2 l1 l2 fun x1 x2 h' tk p1 p2 z' t' u1 u2 nt sz kp => ?_
    exact q x1 x2 h' tk p1 p2 ⟨⟨_, _, t'⟩, s.heap.objs.size, false, z', fun _ => ⟨rfl, rfl⟩⟩ (kp _ _ S.TIz S.TITO S.TIi1 S.TIi2 hTI) u1 u2 nt sz kp
  · have no : ¬ IsZip s.heap z TI TO .none := fun e => by
      have e := e.symm.trans hz
      injection e with e
      injection e with _ _ e _
      injection e with e
      have q0 := congrArg (fun (t : Array Value) => t[0]?) e
      have q1 : some Value.none = some (rawInt (T : Int)) := q0
      injection q1 with q1
      cases q1
    have ty : s.TypeIs (.ref z) "zip" := ⟨_, hz, rfl⟩
    unfold pyNext
    cases hT : s.heap.get? T with
    | none =>
      refine wpAny_bind (wpAny_attempt (wpAny_callSpecial?_slot (name := Str.ofString "__next__") ty F.slot_zip_next (wpAny_call_entry F.slot_zip_next ty F.entry_zip_next
        (goneItem S D1 D2 hz hT hTI hTO st1 st2 l1 l2 fun x1 x2 h' tk p1 p2 z' t' u1 u2 nt sz kp => wpAny_pure ?_) (F.args_zip_next_1 _))))
      exact q x1 x2 h' tk p1 p2 ⟨⟨_, _, t'⟩, s.heap.objs.size, false, z', fun e => absurd e no⟩ (kp _ _ S.TIz S.TITO S.TIi1 S.TIi2 hTI) u1 u2 nt sz kp
    | some oT =>
      refine wpAny_bind (wpAny_attempt (wpAny_callSpecial?_slot (name := Str.ofString "__next__") ty F.slot_zip_next (wpAny_call_entry F.slot_zip_next ty F.entry_zip_next
        (outItem S D1 D2 hz hT hTI st1 st2 l1 l2 fun x1 x2 h' tk p1 p2 z' t1 t2 nw sz kp => wpAny_pure ?_) (F.args_zip_next_1 _))))
      exact q x1 x2 h' tk p1 p2 ⟨⟨a, b, kp _ _ S.TOz S.Ti1 S.Ti2 hTO⟩, T, true, z', fun e => absurd e no⟩ (kp _ _ S.TIz S.TIi1 S.TIi2 hTI) t1 t2 nw sz fun c o d1 _ d3 d4 e => kp c o d1 d3 d4 e
theorem gDone {Q : Option Value → Shared → Prop} (S : ZipSep2 z TI TO i1 i2 fp1 fp2) (D1 : Draws prog w A.in1 i1 fp1 n1 P1 St1) (D2 : Draws prog w A.in1 i2 fp2 n2 P2 St2)
    (hz : Zg z TI TO s.heap) (hTI : IsTupOf2 s.heap TI (.ref i1) (.ref i2)) (st1 : St1 i s.heap) (st2 : St2 i s.heap) (l1 : i ≤ n1) (l2 : i ≤ n2) (last : i = n1 ∨ i = n2)
    (q : ∀ h' tk, (∀ c o, c ≠ z → c ≠ TO → c ≠ i1 → c ≠ i2 → s.heap.get? c = some o → h'.get? c = some o) → Q none { s with heap := h', toks := tk }) :
    wpAny (model prog w) A (pyNext (.ref z)) Q E s := by
  obtain ⟨⟨a, b, hTO⟩, hz⟩ := hz
  rcases hz with hz | ⟨T, f, hz⟩
  · exact wpAny_pyNext_zipD2_end S D1 D2 hz hTI hTO st1 st2 l1 l2 last q
  · have ty : s.TypeIs (.ref z) "zip" := ⟨_, hz, rfl⟩
    unfold pyNext
    have fin : ∀ (h' : Heap) (tk : Nat) (e : Addr), (∀ c o, c ≠ z → c ≠ TO → c ≠ i1 → c ≠ i2 → s.heap.get? c = some o → h'.get? c = some o) → (∃ o, h'.get? e = some o ∧ o.cls = .type "StopIteration") → wpAny (model prog w) A (isInstance (.ref e) (.type "StopIteration")) (fun b s' => wpAny (model prog w) A (if b = true then pure none else throw (.ref e)) Q E s') E { s with heap := h', toks := tk } := fun h' tk e kp ⟨o, ho, hc⟩ =>
      wpAny_isInstance (T := "StopIteration") (b := true) ⟨o, ho, hc⟩ isSubtype_stop (wpAny_pure (q _ _ kp))
    cases hT : s.heap.get? T with
    | none =>
      refine wpAny_bind (wpAny_attempt (wpAny_callSpecial?_slot (name := Str.ofString "__next__") ty F.slot_zip_next (wpAny_call_entry F.slot_zip_next ty F.entry_zip_next
        (goneEnd S D1 D2 hz hT hTI hTO st1 st2 l1 l2 last fun h' tk e kp he => ?_) (F.args_zip_next_1 _))))
      exact wpAny_bind (fin h' tk e kp he)
    | some oT =>
      refine wpAny_bind (wpAny_attempt (wpAny_callSpecial?_slot (name := Str.ofString "__next__") ty F.slot_zip_next (wpAny_call_entry F.slot_zip_next ty F.entry_zip_next
        (outEnd S D1 D2 hz hT hTI st1 st2 l1 l2 last fun h' tk e kp he => ?_) (F.args_zip_next_1 _))))
      exact wpAny_bind (fin h' tk e (fun c o d1 _ d3 d4 y => kp c o d1 d3 d4 y) he)
end
end Kz

/-! zip over tuples and texts, for a target of one name or of several -/
namespace Kz
open PySem PySem.Spec PyProof.Rows L2
/-- what a zip draws from: a tuple that stands, or a text -/
inductive Sr where
  | tup (a : Addr) (xs : List V)
  | txt (x : Str)
def Sr.vs : Sr → List V
  | .tup _ xs => xs
  | .txt x => x.cps.toList.map fun c => V.str ⟨#[c]⟩
def Sr.v : Sr → V
  | .tup a _ => .ref a
  | .txt x => .str x
def Sr.at (K : PySem.W.Frag) (H : Hp) : Sr → Prop
  | .tup a xs => SqT K H a xs
  | .txt _ => True
def Sr.cell (h : Heap) (it : Addr) (i : Nat) : Sr → Prop
  | .tup a _ => h.IsTupleIter it a i
  | .txt x => ∃ t, h.IsStrIter it (strIterType x) x t i
theorem Sr.cell_obj {h : Heap} {it : Addr} {i : Nat} : ∀ {r : Sr}, r.cell h it i → ∃ o, h.get? it = some o ∧ ∀ v, o.data ≠ .cell v
  | .tup _ _, ⟨o, e, _, d⟩ => ⟨o, e, fun v q => by rw [d] at q; cases q⟩
  | .txt _, ⟨_, o, e, _, d⟩ => ⟨o, e, fun v q => by rw [d] at q; cases q⟩
theorem Sr.cell_keep {h h' : Heap} {it : Addr} {i : Nat} (k : ∀ o, h.get? it = some o → h'.get? it = some o) : ∀ {r : Sr}, r.cell h it i → r.cell h' it i
  | .tup _ _, ⟨o, e, c⟩ => ⟨o, k o e, c⟩
  | .txt _, ⟨t, o, e, c⟩ => ⟨t, o, k o e, c⟩
/-- below -/
def Sr.low (B : Nat) : Sr → Prop
  | .tup a _ => @LT.lt Nat _ a B
  | .txt _ => True
theorem Sr.draws {X : Cx} {pins : List (Addr × Obj)} {σ : L2.St} {H : Hp} {s : Shared} {it : Addr} {i B : Nat} (I : Inv X pins σ H s) (hB : @LE.le Nat _ B it) : ∀ {r : Sr}, r.at X.K H → r.cell s.heap it i → r.low B →
    ∃ fp P St, (∀ A' : Around, A'.handled = none → Draws X.prog X.w A' it fp r.vs.length P St) ∧ (∀ j v, P j v → ∃ x, r.vs[j]? = some x ∧ RelV x v) ∧ St i s.heap ∧ (∀ j h, St j h → r.cell h it j) ∧ it ∈ fp ∧ ∀ b ∈ fp, b = it ∨ @LT.lt Nat _ b B
  | .tup a xs, hq, c, lo => by
    obtain ⟨its, rv, p, _⟩ := I.tuple hq
    have lo : @LT.lt Nat _ a B := lo
    have ne : a ≠ it := Nat.ne_of_lt (Nat.lt_of_lt_of_le lo hB)
    have e : its.toArray.size = xs.length := by rw [List.size_toArray]; exact rv.length.symm
    refine ⟨[it, a], fun i v => its.toArray[i]? = some v, fun i h => h.IsTupleIter it a i ∧ h.IsTuple a its.toArray, fun A' hA => ?_, fun j v z => ?_, ⟨c, p⟩, fun j h z => z.1, List.mem_cons_self, fun b hb => ?_⟩
    · have D := Draws.tuple (prog := X.prog) (w := X.w) hA it a ne its.toArray
      rw [e] at D
      exact D
    · exact vback rv (by simpa using z)
    · rcases List.mem_cons.mp hb with rfl | hb
      · exact .inl rfl
      · rw [List.mem_singleton.mp hb]
        exact .inr lo
  | .txt x, _, ⟨t, c⟩, _ => by
    have e : x.cps.size = (Sr.txt x).vs.length := by
      show _ = (x.cps.toList.map _).length
      rw [List.length_map, Array.length_toList]
    refine ⟨[it], fun i v => ∃ c u, x.cps[i]? = some c ∧ v = .str ⟨#[c]⟩ u, fun i h => h.IsStrIter it (strIterType x) x t i, fun A' hA => ?_, fun j v z => ?_, c, fun j h z => ⟨t, z⟩, List.mem_cons_self, fun b hb => .inl (List.mem_singleton.mp hb)⟩
    · have D := Draws.text (prog := X.prog) (w := X.w) hA it x t
      rw [e] at D
      exact D
    · obtain ⟨cc, u, h1, rfl⟩ := z
      refine ⟨.str ⟨#[cc]⟩, ?_, u, rfl⟩
      show (x.cps.toList.map fun c => V.str ⟨#[c]⟩)[j]? = _
      rw [List.getElem?_map, Array.getElem?_toList, h1]
      rfl
theorem sepG (B : Nat) (fp1 fp2 : List Addr) (m1 : B ∈ fp1) (a1 : ∀ b ∈ fp1, b = B ∨ @LT.lt Nat _ b B) (m2 : B + 1 ∈ fp2) (a2 : ∀ b ∈ fp2, b = B + 1 ∨ @LT.lt Nat _ b B) : ZipSep2 (B + 4) (B + 2) (B + 3) B (B + 1) fp1 fp2 := by
  have n1 : ∀ k : Nat, k ≠ 0 → (B + k) ∉ fp1 := fun k hk h => by
    rcases a1 _ h with z | z
    · have z : B + k = B := z
      omega
    · omega
  have n2 : ∀ k : Nat, k ≠ 1 → (B + k) ∉ fp2 := fun k hk h => by
    rcases a2 _ h with z | z
    · have z : B + k = B + 1 := z
      omega
    · omega
  exact ⟨neN _ _ (by omega), neN _ _ (by omega), neN _ _ (by omega), neN _ _ (by omega), m1, n1 4 (by omega), n1 3 (by omega), neN _ _ (by omega), m2, n2 4 (by omega), n2 3 (by omega), n2 0 (by omega), n1 1 (by omega)⟩
/-- the pairs, new ones -/
def Jg (K : PySem.W.Frag) (p q : Sr) : It :=
  ⟨fun i H => p.at K H ∧ q.at K H ∧ i < p.vs.length ∧ i < q.vs.length,
    fun i H v H' => ∃ T x y, v = .ref T ∧ H T = none ∧ H' = upd H T (.tup [x, y]) ∧ p.vs[i]? = some x ∧ q.vs[i]? = some y,
    fun i H => p.at K H ∧ q.at K H ∧ i ≤ p.vs.length ∧ i ≤ q.vs.length ∧ (i = p.vs.length ∨ i = q.vs.length)⟩
theorem turn_zipG {P : Program} {w : World} {K : PySem.W.Frag} {tg : Expr} {p q : Sr} {B : Nat} {Z : Heap → Prop} (lp : p.low B) (lq : q.low B) (hZ : ∀ h, Z h → Zg (B + 4) (B + 2) (B + 3) h) (kZ : ∀ h h', Z h → (∀ o, h.get? (B + 4) = some o → h'.get? (B + 4) = some o) → (∀ o, h.get? (B + 3) = some o → h'.get? (B + 3) = some o) → Z h')
    (go : ∀ (A : Around) (E : Value → Shared → Prop) (s : Shared) (h0 : Heap) (T T' : Addr) (f : Bool) (Q : Unit → Shared → Prop), Z h0 → (IsZip h0 (B + 4) (B + 2) (B + 3) .none → T = T' ∧ f = false) → (∃ a b, IsTupOf2 s.heap (B + 3) a b) → IsZipHeld s.heap (B + 4) (B + 2) (B + 3) T f →
      (∀ h', Z h' → Heap.SameBut (B + 4) s.heap h' → Q () { s with heap := h' }) → wpAny (model P w) A (letOwnedTupleGo tg (.ref (B + 4)) (.ref T')) Q E s) :
    Turn P w K tg (Jg K p q) [B + 4, B + 2, B + 3, B, B + 1] (B + 4) (fun i h => Z h ∧ IsTupOf2 h (B + 2) (.ref B) (.ref (B + 1)) ∧ p.cell h B i ∧ q.cell h (B + 1) i) where
  mem := by simp
  obj := fun i h st c hc => by
    obtain ⟨zz, hTI, h1, h2⟩ := st
    obtain ⟨⟨a, b, hTO⟩, hz⟩ := hZ h zz
    have e' : c = B + 4 ∨ c = B + 2 ∨ c = B + 3 ∨ c = B ∨ c = B + 1 := by simpa using hc
    rcases e' with y | y | y | y | y
    · rw [y]
      rcases hz with hz | ⟨T, f, hz⟩
      · exact ⟨_, hz, fun v q => nomatch q⟩
      · exact ⟨_, hz, fun v q => nomatch q⟩
    · rw [y]; exact ⟨_, hTI, fun v q => nomatch q⟩
    · rw [y]; exact ⟨_, hTO, fun v q => nomatch q⟩
    · rw [y]; exact Sr.cell_obj (r := p) h1
    · rw [y]; exact Sr.cell_obj (r := q) h2
  keep := fun i h h' st k => by
    obtain ⟨zz, hTI, h1, h2⟩ := st
    exact ⟨kZ h h' zz (k _ (by simp)) (k _ (by simp)), k (B + 2) (by simp) _ hTI, Sr.cell_keep (r := p) (k B (by simp)) h1, Sr.cell_keep (r := q) (k (B + 1) (by simp)) h2⟩
  item := by
    intro X hP hw hK hc i pins s σ H E I hf st hg
    subst hP hw hK
    obtain ⟨zz, hTI, h1, h2⟩ := st
    obtain ⟨hp, hq, lt1, lt2⟩ := hg
    obtain ⟨fp1, P1, St1, D1, r1, s1, b1, m1, f1⟩ := Sr.draws I (Nat.le_refl B) hp h1 lp
    obtain ⟨fp2, P2, St2, D2, r2, s2, b2, m2, f2⟩ := Sr.draws I (show B ≤ B + 1 from Nat.le_succ B) hq h2 lq
    have S := sepG B fp1 fp2 m1 f1 m2 f2
    have hh : X.A.handled = none := I.ok.hd hc
    have hzl : ∃ o, s.heap.get? (B + 4) = some o := by
      rcases (hZ _ zz).2 with z | ⟨_, _, z⟩
      · exact ⟨_, z⟩
      · exact ⟨_, z⟩
    obtain ⟨oz, ez⟩ := hzl
    have hzl : B + 4 < s.heap.objs.size := Heap.lt_size ez
    refine gNext S (D1 _ hh) (D2 _ hh) (hZ _ zz) hTI s1 s2 lt1 lt2 fun x1 x2 h' tk p1 p2 ⟨nTO, T, f, nz, cond⟩ nTI u1 u2 nt sz kp => ?_
    obtain ⟨x, hx, rx⟩ := r1 _ _ p1
    obtain ⟨y, hy, ry⟩ := r2 _ _ p2
    refine ⟨_, rfl, go X.A E { s with heap := h', toks := tk } s.heap T s.heap.objs.size f _ zz cond nTO nz fun h'' z'' sb => ?_⟩
    replace sb : Heap.SameBut (B + 4) h' h'' := sb
    have nt2 : h''.get? s.heap.objs.size = some { cls := .type "tuple", data := .seq #[x1, x2] } := (sb.2 _ (Nat.ne_of_gt hzl)).trans nt
    have new : ObjOk X.prog X.w (upd H s.heap.objs.size (.tup [x, y])) h'' s.heap.objs.size (.tup [x, y]) :=
      ⟨by show 2 ≤ sizeLine; decide, [x1, x2], .cons rx (.cons ry .nil), ⟨_, nt2, rfl, _, rfl⟩⟩
    have I1 : Inv X pins σ (upd H s.heap.objs.size (.tup [x, y])) { s with heap := h'', toks := tk } :=
      I.turnedNew (ch := [B + 4, B + 2, B + 3, B, B + 1]) (fun c o hb e => (sb.2 c (fun q' => hb (by simp [q']))).trans (kp c o (fun q' => hb (by simp [q'])) (fun q' => hb (by simp [q'])) (fun q' => hb (by simp [q'])) (fun q' => hb (by simp [q'])) e)) hf (Nat.le_refl _) new
    have kc : ∀ c, c ≠ B + 4 → ∀ o, h'.get? c = some o → h''.get? c = some o := fun c hc o e => (sb.2 c hc).trans e
    refine ⟨.ref s.heap.objs.size, _, I1, rfl, ⟨_, x, y, rfl, I.hok.fresh (Nat.le_refl _), rfl, hx, hy⟩, ⟨z'', kc _ (neN _ _ (by omega)) _ nTI, Sr.cell_keep (r := p) (kc _ (neN _ _ (by omega))) (b1 _ _ u1), Sr.cell_keep (r := q) (kc _ (neN _ _ (by omega))) (b2 _ _ u2)⟩, fun c hcm => ?_⟩
    have hlt : c < s.heap.objs.size := by
      have e' : c = B + 4 ∨ c = B + 2 ∨ c = B + 3 ∨ c = B ∨ c = B + 1 := by simpa using hcm
      rcases e' with y | y | y | y | y
      · rw [y]; exact hzl
      · rw [y]; exact Nat.lt_trans (by omega) hzl
      · rw [y]; exact Nat.lt_trans (by omega) hzl
      · rw [y]; exact Nat.lt_trans (by omega) hzl
      · rw [y]; exact Nat.lt_trans (by omega) hzl
    rw [upd_ne (Nat.ne_of_lt hlt)]
    exact (hf c hcm).1
  done := by
    intro X hP hw hK hc i pins s σ H E I hf st hg
    subst hP hw hK
    obtain ⟨zz, hTI, h1, h2⟩ := st
    obtain ⟨hp, hq, le1, le2, last⟩ := hg
    obtain ⟨fp1, P1, St1, D1, r1, s1, b1, m1, f1⟩ := Sr.draws I (Nat.le_refl B) hp h1 lp
    obtain ⟨fp2, P2, St2, D2, r2, s2, b2, m2, f2⟩ := Sr.draws I (show B ≤ B + 1 from Nat.le_succ B) hq h2 lq
    have S := sepG B fp1 fp2 m1 f1 m2 f2
    have hh : X.A.handled = none := I.ok.hd hc
    exact gDone S (D1 _ hh) (D2 _ hh) (hZ _ zz) hTI s1 s2 le1 le2 last fun h' tk kp => ⟨rfl, I.turnedL (ch := [B + 4, B + 2, B + 3, B, B + 1]) (fun c o hb e =>
      kp c o (fun q' => hb (by simp [q'])) (fun q' => hb (by simp [q'])) (fun q' => hb (by simp [q'])) (fun q' => hb (by simp [q'])) e) hf⟩
  self := fun A i s Q E st h => by
    rcases (hZ _ st.1).2 with z | ⟨_, _, z⟩
    · exact wpAny_pyIter_zip z h
    · exact iter_held z h
where
  iter_held {A : Around} {s : Shared} {z TI TO T : Addr} {f : Bool} {Q : Value → Shared → Prop} {E : Value → Shared → Prop} (hz : IsZipHeld s.heap z TI TO T f) (h : Q (.ref z) s) : wpAny (model P w) A (pyIter (.ref z)) Q E s := by
    have ty : s.TypeIs (.ref z) "zip" := ⟨_, hz, rfl⟩
    refine wpAny_pyIter_slot ty F.slot_zip_iter (wpAny_call_entry F.slot_zip_iter ty F.entry_zip_iter ?_ (F.args_zip_iter_1 _))
    show wpAny _ _ (ret (.ref z)) _ _ s
    exact wpAny_pure ⟨_, rfl, "zip", _, ty, F.slot_zip_next.lookup, h⟩
end Kz

/-! zip(a, b) over tuples and texts, as what a loop or a comprehension goes through -/
namespace Kz
open PySem PySem.Spec PyProof.Rows L2
theorem Sr.begins {X : Cx} {pins : List (Addr × Obj)} {σ : L2.St} {H : Hp} {s : Shared} {u : Value} (I : Inv X pins σ H s) : ∀ {r : Sr}, r.at X.K H → RelV r.v u → ∃ o Hh, Begins u o Hh ∧ Hh s.heap ∧ (∀ (h : Heap) (it : Addr), h.get? it = some o → r.cell h it 0) ∧ r.low s.heap.objs.size
  | .tup a xs, hq, rv => by
    obtain ⟨its, _, p, _⟩ := I.tuple hq
    have e : u = Value.ref a := rv
    subst e
    obtain ⟨o, ho, _⟩ := id p
    exact ⟨_, _, begins_tuple a its.toArray, p, fun h it e => ⟨_, e, rfl, rfl⟩, Heap.lt_size ho⟩
  | .txt x, _, rv => by
    obtain ⟨t, rfl⟩ := (show ∃ t, u = .str x t from rv)
    exact ⟨_, _, begins_text x t, trivial, fun h it e => ⟨t, _, e, rfl, rfl⟩, trivial⟩
def iZipG (K : PySem.W.Frag) (ta : TA) : TI := fun σ H R => ta σ H fun vs H1 => ∃ p q : Sr, vs = [p.v, q.v] ∧ p.at K H1 ∧ q.at K H1 ∧ R (Jg K p q) H1
section
variable {X : Cx} {e e2 : Expr} {ta : TA} {p pos tpos : Pos} {tg : Expr}
theorem pi_zip_of {Z : Nat → Heap → Prop} (hg : Gl X "zip") (hm : X.mg "zip" = none) (ha : PA X [e, e2] ta)
    (hZ : ∀ B h, Z B h → Zg (B + 4) (B + 2) (B + 3) h) (kZ : ∀ B h h', Z B h → (∀ o, h.get? (B + 4) = some o → h'.get? (B + 4) = some o) → (∀ o, h.get? (B + 3) = some o → h'.get? (B + 3) = some o) → Z B h')
    (bZ : ∀ B h, (∃ a b, IsTupOf2 h (B + 3) a b) → IsZip h (B + 4) (B + 2) (B + 3) .none → Z B h)
    (go : ∀ (B : Nat) (A : Around) (E : Value → Shared → Prop) (s : Shared) (h0 : Heap) (T T' : Addr) (f : Bool) (Q : Unit → Shared → Prop), Z B h0 → (IsZip h0 (B + 4) (B + 2) (B + 3) .none → T = T' ∧ f = false) → (∃ a b, IsTupOf2 s.heap (B + 3) a b) → IsZipHeld s.heap (B + 4) (B + 2) (B + 3) T f →
      (∀ h', Z B h' → Heap.SameBut (B + 4) s.heap h' → Q () { s with heap := h' }) → wpAny (model X.prog X.w) A (letOwnedTupleGo tg (.ref (B + 4)) (.ref T')) Q E s)
    (hs : starEach [e, e2] X.env = (false, eval e X.env) :: starEach [e2] X.env := by rfl) (hpl : (backTo pos (starEach [e2] X.env)).any (·.1) = false := by rfl) :
    PI X tg (.Call (.Name "zip" p) [e, e2] [] pos) (iZipG X.K ta) := by
  refine ⟨fun pins s σ H R I h => ?_⟩
  refine Call_ (ld_blt I hg hm PyProof.Rows.boot_zip (PyProof.Rows.callWith_type1 (thn (ha.run pos pins s σ H _ I h) fun us s1 ⟨vs, H1, I1, r1, a, b, ev, qa, qb, q⟩ => ?_) hs hpl))
  subst ev
  cases r1 with
  | cons ra rr =>
    cases rr with
    | cons rb rr =>
      cases rr
      rename_i u1 u2
      obtain ⟨o1, H1', B1, h1, c1, l1⟩ := Sr.begins I1 qa ra
      obtain ⟨o2, H2', B2, h2, c2, l2⟩ := Sr.begins I1 qb rb
      refine zip_begins2 B1 B2 h1 h2 fun h' hz hTI hTO e1 e2 sz kp => wpAny_pyIter_zip hz ?_
      have I2 : Inv X pins σ H1 { s1 with heap := h' } := I1.kept (t' := s1.toks) kp
      refine ⟨s1.heap.objs.size + 4, [s1.heap.objs.size + 4, s1.heap.objs.size + 2, s1.heap.objs.size + 3, s1.heap.objs.size, s1.heap.objs.size + 1], _, _, H1, rfl, I2, turn_zipG (Z := Z s1.heap.objs.size) l1 l2 (hZ _) (kZ _) (go _), ⟨bZ _ _ ⟨_, _, hTO⟩ hz, hTI, c1 _ _ e1, c2 _ _ e2⟩, fun c hc => ?_, q⟩
      have e' : c = s1.heap.objs.size + 4 ∨ c = s1.heap.objs.size + 2 ∨ c = s1.heap.objs.size + 3 ∨ c = s1.heap.objs.size ∨ c = s1.heap.objs.size + 1 := by simpa using hc
      have hle : s1.heap.objs.size ≤ c := (inN _ _ e').1
      exact I1.fpOk hle (I1.hok.fresh hle)
/-- for x in zip(a, b) -/
theorem pi_zipN {nm : Str} (hg : Gl X "zip") (hm : X.mg "zip" = none) (ha : PA X [e, e2] ta)
    (hs : starEach [e, e2] X.env = (false, eval e X.env) :: starEach [e2] X.env := by rfl) (hpl : (backTo pos (starEach [e2] X.env)).any (·.1) = false := by rfl) :
    PI X (.Name nm tpos) (.Call (.Name "zip" p) [e, e2] [] pos) (iZipG X.K ta) := by
  refine pi_zip_of (Z := fun B h => Zg (B + 4) (B + 2) (B + 3) h) hg hm ha (fun _ _ z => z) (fun B h h' z k4 k3 => ?_) (fun B h a z => ⟨a, .inl z⟩) (fun B A E s h0 T T' f Q _ _ nTO nz q => ?_) hs hpl
  · obtain ⟨⟨a, b, hTO⟩, hz⟩ := z
    refine ⟨⟨a, b, k3 _ hTO⟩, ?_⟩
    rcases hz with hz | ⟨T, f, hz⟩
    · exact .inl (k4 _ hz)
    · exact .inr ⟨T, f, k4 _ hz⟩
  · exact wpAny_of_eq (show letOwnedTupleGo (.Name nm tpos) (.ref (B + 4)) (.ref T') = pure () from rfl) (q s.heap ⟨nTO, .inr ⟨T, f, nz⟩⟩ (Heap.SameBut.refl _ _))
/-- for x, y in zip(a, b) -/
theorem pi_zipM {elts : List Expr} {kk : Nat} (hg : Gl X "zip") (hm : X.mg "zip" = none) (ha : PA X [e, e2] ta)
    (hs : starEach [e, e2] X.env = (false, eval e X.env) :: starEach [e2] X.env := by rfl) (hpl : (backTo pos (starEach [e2] X.env)).any (·.1) = false := by rfl) :
    PI X (.Tuple elts kk tpos) (.Call (.Name "zip" p) [e, e2] [] pos) (iZipG X.K ta) := by
  refine pi_zip_of (Z := fun B h => (∃ a b, IsTupOf2 h (B + 3) a b) ∧ IsZip h (B + 4) (B + 2) (B + 3) .none) hg hm ha (fun _ _ z => ⟨z.1, .inl z.2⟩) (fun B h h' z k4 k3 => ?_) (fun B h a z => ⟨a, z⟩) (fun B A E s h0 T T' f Q hz0 cond nTO nz q => ?_) hs hpl
  · obtain ⟨⟨a, b, hTO⟩, hz⟩ := z
    exact ⟨⟨a, b, k3 _ hTO⟩, k4 _ hz⟩
  · obtain ⟨rfl, rfl⟩ := cond hz0.2
    refine wpAny_letOwnedTupleGo_zip (s := s) nz fun h' z' sb => q h' ⟨?_, z'⟩ sb
    obtain ⟨a, b, t⟩ := nTO
    exact ⟨a, b, sb.extBut _ _ (neN _ _ (by omega)) t⟩
/-- the same, the written part named -/
theorem pi_zipNK {nm : Str} (K : PySem.W.Frag) (hK : X.K = K) (hg : Gl X "zip") (hm : X.mg "zip" = none) (ha : PA X [e, e2] ta)
    (hs : starEach [e, e2] X.env = (false, eval e X.env) :: starEach [e2] X.env := by rfl) (hpl : (backTo pos (starEach [e2] X.env)).any (·.1) = false := by rfl) :
    PI X (.Name nm tpos) (.Call (.Name "zip" p) [e, e2] [] pos) (iZipG K ta) := by
  subst hK
  exact pi_zipN hg hm ha hs hpl
theorem pi_zipMK {elts : List Expr} {kk : Nat} (K : PySem.W.Frag) (hK : X.K = K) (hg : Gl X "zip") (hm : X.mg "zip" = none) (ha : PA X [e, e2] ta)
    (hs : starEach [e, e2] X.env = (false, eval e X.env) :: starEach [e2] X.env := by rfl) (hpl : (backTo pos (starEach [e2] X.env)).any (·.1) = false := by rfl) :
    PI X (.Tuple elts kk tpos) (.Call (.Name "zip" p) [e, e2] [] pos) (iZipG K ta) := by
  subst hK
  exact pi_zipM hg hm ha hs hpl
end
/-! loops -/
section
variable {K : PySem.W.Frag} {p q : Sr}
theorem for_zipG {g : TG} {tb : TS} {D : Ends} {σ : L2.St} {H : Hp} (Pv : Nat → L2.St → Hp → Prop) (hl : p.vs.length = q.vs.length) (h0 : Pv 0 σ H) (hq : ∀ i σ H, Pv i σ H → p.at K H ∧ q.at K H)
    (hs : ∀ (i : Nat) (x y : V) (T : Addr) (σ : L2.St) (H : Hp), p.vs[i]? = some x → q.vs[i]? = some y → Pv i σ H → H T = none → g (.ref T) σ (upd H T (.tup [x, y])) fun σ2 H2 => tb { D with nx := Pv (i + 1), ct := Pv (i + 1), bk := D.nx } σ2 H2) (hd : ∀ σ H, Pv p.vs.length σ H → D.nx σ H) :
    ∃ W : Nat → Nat → L2.St → Hp → Prop, (∃ m, W 0 m σ H) ∧ ∀ i m σ H, W i m σ H →
      ((Jg K p q).stop i H ∧ D.nx σ H) ∨ ((Jg K p q).go i H ∧ ∃ N : L2.St → Hp → Prop, (∀ σ' H', N σ' H' → ∃ m', m' < m ∧ W (i + 1) m' σ' H') ∧ ∀ v H', (Jg K p q).yld i H v H' → g v σ H' fun σ2 H2 => tb { D with nx := N, ct := N, bk := D.nx } σ2 H2) := by
  refine ⟨fun i m σ H => m = p.vs.length - i ∧ i ≤ p.vs.length ∧ Pv i σ H, ⟨_, rfl, Nat.zero_le _, h0⟩, fun i m σ H z => ?_⟩
  obtain ⟨rfl, hi, pv⟩ := z
  obtain ⟨q1, q2⟩ := hq i σ H pv
  by_cases lt : i < p.vs.length
  · refine .inr ⟨⟨q1, q2, lt, by omega⟩, Pv (i + 1), fun σ' H' p' => ⟨p.vs.length - (i + 1), by omega, rfl, lt, p'⟩, fun v H' y => ?_⟩
    obtain ⟨T, x, y, rfl, hT, rfl, e1, e2⟩ := y
    exact hs i x y T σ H e1 e2 pv hT
  · have e : i = p.vs.length := by omega
    subst e
    exact .inl ⟨⟨q1, q2, Nat.le_refl _, by omega, .inl rfl⟩, hd σ H pv⟩
end
end Kz

/-! tuple * number, none and one too -/
namespace Kz
open PySem PySem.Spec PyProof.Rows L2
theorem mul_one_same (l : Addr) (items : Array Value) (n : Nat) (dd : Option Addr) (sl : Array (Option Value)) (u : Tok) :
    Meets (Builtin.«tuple.__mul__» ⟨[.ref l, .int 1 u], []⟩) (fun _ R s => s.heap.get? l = some { cls := .type "tuple", dict := dd, data := .seq items n, slots := sl } ∧ R (.ok (.ret (Value.ref l))) s) :=
  .of_wp fun prog w A R s h => by
    obtain ⟨hp, g, d, tk, os⟩ := s
    obtain ⟨hl, h⟩ := h
    have f1 := AutoSeq1.idx_int
    have hT : Shared.TypeIs ⟨hp, g, d, tk, os⟩ (.ref l) "tuple" := ⟨_, hl, rfl⟩
    wp_walk using wpAny_loadPart' hl, wpAny_typeOf hT
    repeat (first
      | (refine wpAny_ite_false (by decide) ?_; wp_walk using wpAny_loadPart' hl, wpAny_typeOf hT)
      | (refine wpAny_ite_true (by simp) ?_; wp_walk using wpAny_loadPart' hl, wpAny_typeOf hT))
    all_goals first | exact ⟨_, rfl, h⟩ | skip
theorem mul_none (l : Addr) (items : Array Value) (n : Nat) (dd : Option Addr) (sl : Array (Option Value)) (u : Tok) (ne : items.isEmpty = false) :
    Meets (Builtin.«tuple.__mul__» ⟨[.ref l, .int 0 u], []⟩) (fun _ R s => s.heap.get? l = some { cls := .type "tuple", dict := dd, data := .seq items n, slots := sl } ∧
      R (.ok (.ret (Value.ref s.heap.objs.size))) { s with heap := s.heap.push { cls := Value.type "tuple", data := Data.seq #[] }, toks := s.toks }) :=
  .of_wp fun prog w A R s h => by
    obtain ⟨hp, g, d, tk, os⟩ := s
    obtain ⟨hl, h⟩ := h
    have f1 := AutoSeq1.idx_int
    have c1 : (items.isEmpty || (0 : Int) == 1) = false := by rw [ne]; rfl
    wp_walk using wpAny_loadPart' hl
    repeat (first
      | (refine wpAny_ite_false (by decide) ?_; wp_walk using wpAny_loadPart' hl)
      | (refine wpAny_ite_false (decide_eq_false (by rw [c1]; exact Bool.false_ne_true)) ?_; wp_walk using wpAny_loadPart' hl)
      | (refine wpAny_ite_true (by simp) ?_; wp_walk using wpAny_loadPart' hl))
    all_goals first | exact ⟨_, rfl, h⟩ | skip
def rRepA (K : PySem.W.Frag) : R2 := fun x y H Q => ∃ l k xs, x = .ref l ∧ y = .int k ∧ SqT K H l xs ∧ xs ≠ [] ∧ 0 ≤ k ∧ k ≤ 1000 ∧ xs.length ≤ 1000 ∧ ∀ t G, Same H G → SqT K G t (List.replicate k.toNat xs).flatten → Q (.ref t) G
theorem newSm {H : Hp} {p : Addr} {o : HO} (h : H p = none) : Same H (upd H p o) := fun b u e => by
  rw [upd_ne (ne_of_none e h)]
  exact e
section
variable {X : Cx}
theorem op_repA : OpR X (binaryOp .Mult) (rRepA X.K) := by
  intro pins s σ H x y v u Q I rx ry h
  obtain ⟨l, k, xs, rfl, rfl, hT, hne, h1, h2, hz, q⟩ := h
  by_cases h3 : 2 ≤ k
  · exact op_repT pins s σ H _ _ v u Q I rx ry ⟨l, k, xs, rfl, rfl, hT, hne, h3, h2, hz, fun p hp => q p _ (newSm hp) (SqT.of upd_same)⟩
  cases rx
  obtain ⟨t, rfl⟩ := ry
  obtain ⟨its, r, ⟨⟨cls, dd, data, sl⟩, ho, hc, n, hd⟩, hs⟩ := I.tuple hT
  simp only at hc hd
  subst hc hd
  have hn : its.toArray.isEmpty = false := by
    cases its with
    | nil =>
      have := r.length
      exact absurd (List.eq_nil_of_length_eq_zero this) hne
    | cons a b => rfl
  have k01 : k = 0 ∨ k = 1 := by omega
  rcases k01 with rfl | rfl
  · refine wpAny_binaryOp_repeat_ref (T := "tuple") (U := "int") (by decide) ⟨_, ho, rfl⟩ (fun s' => typeIs_int s' 0 t) noFill_tuple_mul F.fills_int_mul F.slot_int_rmul repeat_tuple F.slot_int_index.lookup
      (call_meets F.slot_int_rmul (typeIs_int s 0 t) F.entry_int_rmul (F.args_int_rmul_2 _ _) (int_rmul_tuple 0 t l its.toArray n dd sl)
        ⟨ho, rfl, ⟨_, ho, rfl⟩, call_meets F.slot_tuple_mul ⟨_, ho, rfl⟩ F.entry_tuple_mul (F.args_tuple_mul_2 _ _) (mul_none l its.toArray n dd sl t hn) ⟨ho, ?_⟩⟩)
    have hn := I.hok.fresh (Nat.le_refl s.heap.objs.size)
    refine ⟨.ref s.heap.objs.size, _, I.laid (t' := s.toks) (o := .tup []) (fun b ob q => Heap.get?_push_of_some _ q) (Nat.le_refl _) ?_, rfl, q _ _ (newSm hn) (SqT.of upd_same)⟩
    exact ⟨Nat.zero_le _, [], .nil, IsTup.new _ _⟩
  · refine wpAny_binaryOp_repeat_ref (T := "tuple") (U := "int") (by decide) ⟨_, ho, rfl⟩ (fun s' => typeIs_int s' 1 t) noFill_tuple_mul F.fills_int_mul F.slot_int_rmul repeat_tuple F.slot_int_index.lookup
      (call_meets F.slot_int_rmul (typeIs_int s 1 t) F.entry_int_rmul (F.args_int_rmul_2 _ _) (int_rmul_tuple 1 t l its.toArray n dd sl)
        ⟨ho, rfl, ⟨_, ho, rfl⟩, call_meets F.slot_tuple_mul ⟨_, ho, rfl⟩ F.entry_tuple_mul (F.args_tuple_mul_2 _ _) (mul_one_same l its.toArray n dd sl t) ⟨ho, ?_⟩⟩)
    refine ⟨.ref l, H, I, rfl, q l H (fun _ _ e => e) ?_⟩
    have e : (List.replicate (1 : Int).toNat xs).flatten = xs := by simp
    rw [e]
    exact hT
end
end Kz

/-! int(text) and str(int) to 4,300 figures, where the program leaves the limit alone -/
namespace Ki
open PySem PySem.Spec PyProof.Rows L2 PySem.Calls PySem.NumText PySem.W
theorem nodig_in {K : PySem.W.Frag} {h : Heap} (X : K.In h) (e : nsOkIn K cStatics = true) (q : nsIn K cStatics "sys.int_max_str_digits" = some none) : h.NoDigits :=
  ⟨_, .of_isNs (isNs_of_in X e), nsMap_none_of_in X e q⟩
theorem maxDig {M : Model} {A : Around} {E : Value → Shared → Prop} {s : Shared} {Q : Nat → Shared → Prop} (hn : s.heap.NoDigits) (h : Q 4300 s) : wpAny M A Builtin.intMaxStrDigits Q E s := by
  obtain ⟨mc, hns, hnone⟩ := hn
  unfold Builtin.intMaxStrDigits
  refine wpAny_bind (wpAny_nsGet hns ?_)
  rw [hnone]
  exact wpAny_pure h
theorem wp_textA {M : Model} {A : Around} {E : Value → Shared → Prop} {s : Shared} {Q : Value → Shared → Prop} {v : Value} {text : List Nat} {n : Int} (hn : s.heap.NoDigits)
    (hs : ¬ (text.takeWhile (· != 0)).length ≤ 640) (hr : (int_private% "readNumeral") 4300 10 (text.takeWhile (· != 0)) = (int_private% "Numeral.value") n)
    (ha : ((text.takeWhile (· != 0)).length == text.length) = true) (h : Q (.int n s.toks) { s with toks := s.toks + 1 }) :
    wpAny M A ((int_private% "intFromText") v text 10) Q E s := by
  wp_step
  rw [if_neg hs]
  refine wpAny_bind (maxDig hn ?_)
  dsimp only
  rw [hr]
  dsimp only
  rw [if_pos ha]
  obtain ⟨hp, g, d, tk, os⟩ := s
  repeat (any_goals (first
    | assumption
    | wp_step))
theorem meets_textA {x : PySem.Str} {u : Tok} {n : Int} (hl : x.length ≤ 4300) (hn : PySem.intText? x = some n) :
    Meets (Builtin.«int.__new__» ⟨[.type "int", .str x u], []⟩) (fun _ R s => s.heap.NoDigits ∧ R (.ok (.ret (.int n s.toks))) { s with toks := s.toks + 1 }) := by
  intro prog w A R s hq
  refine wpAny_mono (Q := fun fin s' => ∃ v, fin = .done (.ret v) ∧ R (.ok (.ret v)) s') ?_ (fun fin s' h' => by obtain ⟨v, rfl, hv⟩ := h'; exact hv) fun _ _ x => x
  have hd := hq.1
  have h := hq.2
  clear hq
  generalize hM : model prog w = M
  generalize A.in1 = A'
  clear hM
  have f1 := F.conv_sub_int
  have f2 := F.madeHere_int
  have f3 := KIN.str_int
  have f4 := KIN.str_idx
  have f5 := KIN.str_trunc
  have f6 : typeOf (.str x u) = pure (.type "str") := rfl
  by_cases h6 : (numSeenOf x).length ≤ 640
  · have hr : (int_private% "readNumeral") 0 10 (numSeenOf x) = (int_private% "Numeral.value") n ∧ ((numSeenOf x).length == (numTextOf x).length) = true := by
      rcases read0 x h6 with ⟨m, h1, h2, h3⟩ | ⟨h1, _⟩
      · rw [hn] at h1
        injection h1 with h1
        subst h1
        exact ⟨h3, h2⟩
      · rw [hn] at h1
        cases h1
    have hk := KIN.Hid.mk (And.intro h6 hr)
    clear h6 hr hl hn hd
    obtain ⟨hp, g, d, tk, os⟩ := s
    repeat (any_goals (first
      | assumption
      | ((with_reducible show wpAny _ _ ((int_private% "intFromText") _ _ _) _ _ _); refine KIN.wp_text hk.out.1 hk.out.2.1 hk.out.2.2 ?_)
      | wp_step))
    all_goals first | exact ⟨_, rfl, h⟩ | skip
  · have hr : (int_private% "readNumeral") 4300 10 (numSeenOf x) = (int_private% "Numeral.value") n ∧ ((numSeenOf x).length == (numTextOf x).length) = true := by
      rcases read4300 x (Nat.le_trans hl (by decide)) with ⟨m, h1, h2, h3⟩ | ⟨h1, _⟩
      · rw [hn] at h1
        injection h1 with h1
        subst h1
        exact ⟨h3, h2⟩
      · rw [hn] at h1
        cases h1
    have hk := KIN.Hid.mk (And.intro (And.intro h6 hd) hr)
    clear h6 hr hl hn hd
    obtain ⟨hp, g, d, tk, os⟩ := s
    repeat (any_goals (first
      | assumption
      | ((with_reducible show wpAny _ _ ((int_private% "intFromText") _ _ _) _ _ _); refine wp_textA hk.out.1.2 hk.out.1.1 hk.out.2.1 hk.out.2.2 ?_)
      | wp_step))
    all_goals first | exact ⟨_, rfl, h⟩ | skip
section
variable {X : Cx}
/-- int(text) -/
theorem call_int_strA (e : nsOkIn X.K cStatics = true) (q : nsIn X.K cStatics "sys.int_max_str_digits" = some none) : CallR X (.type "int") (fun xs H Q => ∃ a n, xs = [.str a] ∧ PySem.intText? a = some n ∧ a.length ≤ 4300 ∧ Q (.int n) H) := by
  intro pins s σ H xs us Q I rs h
  obtain ⟨a, n, rfl, hn, hl, h⟩ := h
  cases rs with
  | cons r1 rs =>
    cases rs
    obtain ⟨t, rfl⟩ := r1
    exact call_int_1 (meets_textA hl hn) ⟨nodig_in I.kIn e q, ⟨rfl, ⟨.int n, H, I.tok _, ⟨_, rfl⟩, h⟩⟩⟩
/-- str(int) -/
theorem call_str_intA (hc : X.A.handled = none) (e : nsOkIn X.K cStatics = true) (q : nsIn X.K cStatics "sys.int_max_str_digits" = some none) : CallR X (.type "str") (fun xs H Q => ∃ a : Int, xs = [.int a] ∧ a.natAbs < 10 ^ 4300 ∧ Q (.str (toString a)) H) := by
  intro pins s σ H xs us Q I rs h
  obtain ⟨a, rfl, hl, h⟩ := h
  cases rs with
  | cons r1 rs =>
    cases rs
    obtain ⟨t, rfl⟩ := r1
    exact str_of_int_or hc (nodig_in I.kIn e q) (fun _ => ⟨.str (toString a), H, I.tok _, ⟨_, rfl⟩, h⟩) fun h2 => absurd hl (Nat.not_lt.mpr h2)
end
end Ki

/-! comprehensions of two loops: a tuple, within it a zip; str of a text or of a number from nought on -/
namespace Kz
open PySem PySem.Spec PyProof.Rows L2
/-- the inner loop of a comprehension of two -/
def inn (J1 : It) (g1 : TG) (tt1 : TT) (te : TE) (vs1 : List Nat) (D : Addr) (Nx : Hp → Prop) (σ2 : L2.St) (H4 : Hp) : Prop :=
  ∃ W1 : Nat → Nat → Hp → Prop, (∃ m, W1 0 m H4) ∧ ∀ j k H, W1 j k H →
      (J1.stop j H ∧ Nx H) ∨ (J1.go j H ∧ ∃ Nx1 : Hp → Prop, (∀ H', Nx1 H' → ∃ k', k' < k ∧ W1 (j + 1) k' H') ∧ ∀ x H', J1.yld j H x H' → g1 x (wipe σ2 vs1) H' fun σ3 H5 => wipe σ3 vs1 = wipe σ2 vs1 ∧ tt1 σ3 H5 fun b H6 =>
        if b = true then te σ3 H6 fun y H7 => ∃ acc, H7 D = some (.lst acc) ∧ acc.length < sizeLine ∧ Nx1 (upd H7 D (.lst (acc ++ [y]))) else Nx1 H6)
theorem lc2_tup {K : PySem.W.Frag} {a : Addr} {xs : List V} {g g1 : TG} {tt tt1 : TT} {te : TE} {wi1 : TI} {vs vs1 : List Nat} {σ : L2.St} {H1 : Hp} {D : Addr} {Qd : Hp → Prop} (Pv : Nat → Hp → Prop) (h0 : Pv 0 (upd H1 D (.lst []))) (hl : ∀ i H, i ≤ xs.length → Pv i H → SqT K H a xs)
    (hs : ∀ i x H, xs[i]? = some x → Pv i H → g x (wipe σ vs) H fun σ2 H2 => wipe σ2 vs = wipe σ vs ∧ tt σ2 H2 fun b H3 => if b = true then wi1 σ2 H3 fun J1 H4 => inn J1 g1 tt1 te vs1 D (Pv (i + 1)) σ2 H4 else Pv (i + 1) H3) (hd : ∀ H, Pv xs.length H → Qd H) :
    ∃ W : Nat → Nat → Hp → Prop, (∃ m, W 0 m (upd H1 D (.lst []))) ∧ ∀ i m H, W i m H →
      ((Itt K a).stop i H ∧ Qd H) ∨ ((Itt K a).go i H ∧ ∃ Nx : Hp → Prop, (∀ H', Nx H' → ∃ m', m' < m ∧ W (i + 1) m' H') ∧ ∀ x H', (Itt K a).yld i H x H' → g x (wipe σ vs) H' fun σ2 H2 => wipe σ2 vs = wipe σ vs ∧ tt σ2 H2 fun b H3 =>
        if b = true then wi1 σ2 H3 fun J1 H4 => inn J1 g1 tt1 te vs1 D Nx σ2 H4 else Nx H3) := by
  refine ⟨fun i m H => m = xs.length - i ∧ i ≤ xs.length ∧ Pv i H, ⟨_, rfl, Nat.zero_le _, h0⟩, fun i m H z => ?_⟩
  obtain ⟨rfl, hi, p⟩ := z
  have q := hl i H hi p
  by_cases lt : i < xs.length
  · refine .inr ⟨⟨xs, xs[i], q, by simp [lt]⟩, Pv (i + 1), fun H' p' => ⟨xs.length - (i + 1), by omega, rfl, lt, p'⟩, fun x H' y => ?_⟩
    obtain ⟨e, y⟩ := y
    subst e
    exact hs i x _ (y xs q) p
  · have e : i = xs.length := by omega
    subst e
    exact .inl ⟨⟨xs, q, by simp⟩, hd H p⟩
theorem inn_zip {K : PySem.W.Frag} {p q : Sr} {g1 : TG} {tt1 : TT} {te : TE} {vs1 : List Nat} {D : Addr} {Nx : Hp → Prop} {σ2 : L2.St} {H4 : Hp} (Pw : Nat → Hp → Prop) (hl : p.vs.length = q.vs.length) (h0 : Pw 0 H4) (hq : ∀ i H, Pw i H → p.at K H ∧ q.at K H)
    (hs : ∀ i x y T H, p.vs[i]? = some x → q.vs[i]? = some y → Pw i H → H T = none → g1 (.ref T) (wipe σ2 vs1) (upd H T (.tup [x, y])) fun σ3 H5 => wipe σ3 vs1 = wipe σ2 vs1 ∧ tt1 σ3 H5 fun b H6 =>
        if b = true then te σ3 H6 fun y H7 => ∃ acc, H7 D = some (.lst acc) ∧ acc.length < sizeLine ∧ Pw (i + 1) (upd H7 D (.lst (acc ++ [y]))) else Pw (i + 1) H6) (hd : ∀ H, Pw p.vs.length H → Nx H) : inn (Jg K p q) g1 tt1 te vs1 D Nx σ2 H4 := by
  refine ⟨fun i m H => m = p.vs.length - i ∧ i ≤ p.vs.length ∧ Pw i H, ⟨_, rfl, Nat.zero_le _, h0⟩, fun i m H z => ?_⟩
  obtain ⟨rfl, hi, pw⟩ := z
  obtain ⟨q1, q2⟩ := hq i H pw
  by_cases lt : i < p.vs.length
  · refine .inr ⟨⟨q1, q2, lt, by omega⟩, Pw (i + 1), fun H' p' => ⟨p.vs.length - (i + 1), by omega, rfl, lt, p'⟩, fun v H' y => ?_⟩
    obtain ⟨T, x, y, rfl, hT, rfl, e1, e2⟩ := y
    exact hs i x y T H e1 e2 pw hT
  · have e : i = p.vs.length := by omega
    subst e
    exact .inl ⟨⟨q1, q2, Nat.le_refl _, by omega, .inl rfl⟩, hd H pw⟩
/-- str of a text, of a number from nought on -/
theorem call_strB {X : Cx} (hc : X.A.handled = none) (e : PySem.W.nsOkIn X.K cStatics = true) (q : PySem.W.nsIn X.K cStatics "sys.int_max_str_digits" = some none) : CallR X (.type "str") (fun xs H Q => (∃ a : Str, xs = [.str a] ∧ Q (.str a) H) ∨ ∃ n : Nat, xs = [.int n] ∧ n < 10 ^ 4300 ∧ Q (.str (Str.ofString (toString ((n : Nat) : Int)))) H) := by
  intro pins s σ H xs us Q I r h
  rcases h with ⟨a, rfl, h⟩ | ⟨n, rfl, hn, h⟩
  · exact SkE.call_str_str pins s σ H _ us Q I r ⟨a, rfl, h⟩
  · exact Ki.call_str_intA hc e q pins s σ H _ us Q I r ⟨(n : Int), rfl, by rw [Int.natAbs_natCast]; exact hn, h⟩
end Kz

/-! comprehensions of two loops: a list, within it a tuple -/
namespace Kz
open PySem PySem.Spec PyProof.Rows L2
theorem pi_tupK {X : Cx} (K : PySem.W.Frag) (h : X.K = K) {tg l : Expr} {tl : TE} (hl : PE X l tl) : PI X tg l (iTup K tl) := by
  subst h
  exact pi_tup hl
theorem pi_listK {X : Cx} (K : PySem.W.Frag) (h : X.K = K) {tg l : Expr} {tl : TE} (hl : PE X l tl) : PI X tg l (iList K tl) := by
  subst h
  exact pi_list hl
theorem pa_starK {X : Cx} (K : PySem.W.Frag) (h : X.K = K) {e : Expr} {es : List Expr} {te : TE} {t : TA} {p : Pos} (he : PE X e te) (hr : PA X es t) (hs : starEach (.Starred e p :: es) X.env = (true, eval e X.env) :: starEach es X.env := by rfl) : PA X (.Starred e p :: es) (StX.tStar K te t) := by
  subst h
  exact StX.pa_star he hr hs
theorem lc2_list {K : PySem.W.Frag} {a : Addr} {xs : List V} {g g1 : TG} {tt tt1 : TT} {te : TE} {wi1 : TI} {vs vs1 : List Nat} {σ : L2.St} {H1 : Hp} {D : Addr} {Qd : Hp → Prop} (Pv : Nat → Hp → Prop) (h0 : Pv 0 (upd H1 D (.lst []))) (hl : ∀ i H, i ≤ xs.length → Pv i H → SqL K H a xs)
    (hs : ∀ i x H, xs[i]? = some x → Pv i H → g x (wipe σ vs) H fun σ2 H2 => wipe σ2 vs = wipe σ vs ∧ tt σ2 H2 fun b H3 => if b = true then wi1 σ2 H3 fun J1 H4 => inn J1 g1 tt1 te vs1 D (Pv (i + 1)) σ2 H4 else Pv (i + 1) H3) (hd : ∀ H, Pv xs.length H → Qd H) :
    ∃ W : Nat → Nat → Hp → Prop, (∃ m, W 0 m (upd H1 D (.lst []))) ∧ ∀ i m H, W i m H →
      ((Itl K a).stop i H ∧ Qd H) ∨ ((Itl K a).go i H ∧ ∃ Nx : Hp → Prop, (∀ H', Nx H' → ∃ m', m' < m ∧ W (i + 1) m' H') ∧ ∀ x H', (Itl K a).yld i H x H' → g x (wipe σ vs) H' fun σ2 H2 => wipe σ2 vs = wipe σ vs ∧ tt σ2 H2 fun b H3 =>
        if b = true then wi1 σ2 H3 fun J1 H4 => inn J1 g1 tt1 te vs1 D Nx σ2 H4 else Nx H3) := by
  refine ⟨fun i m H => m = xs.length - i ∧ i ≤ xs.length ∧ Pv i H, ⟨_, rfl, Nat.zero_le _, h0⟩, fun i m H z => ?_⟩
  obtain ⟨rfl, hi, p⟩ := z
  have q := hl i H hi p
  by_cases lt : i < xs.length
  · refine .inr ⟨⟨xs, xs[i], q, by simp [lt]⟩, Pv (i + 1), fun H' p' => ⟨xs.length - (i + 1), by omega, rfl, lt, p'⟩, fun x H' y => ?_⟩
    obtain ⟨e, y⟩ := y
    subst e
    exact hs i x _ (y xs q) p
  · have e : i = xs.length := by omega
    subst e
    exact .inl ⟨⟨xs, q, by simp⟩, hd H p⟩
theorem inn_tup {K : PySem.W.Frag} {a : Addr} {xs : List V} {g1 : TG} {tt1 : TT} {te : TE} {vs1 : List Nat} {D : Addr} {Nx : Hp → Prop} {σ2 : L2.St} {H4 : Hp} (Pw : Nat → Hp → Prop) (h0 : Pw 0 H4) (hl : ∀ i H, i ≤ xs.length → Pw i H → SqT K H a xs)
    (hs : ∀ i x H, xs[i]? = some x → Pw i H → g1 x (wipe σ2 vs1) H fun σ3 H5 => wipe σ3 vs1 = wipe σ2 vs1 ∧ tt1 σ3 H5 fun b H6 =>
        if b = true then te σ3 H6 fun y H7 => ∃ acc, H7 D = some (.lst acc) ∧ acc.length < sizeLine ∧ Pw (i + 1) (upd H7 D (.lst (acc ++ [y]))) else Pw (i + 1) H6) (hd : ∀ H, Pw xs.length H → Nx H) : inn (Itt K a) g1 tt1 te vs1 D Nx σ2 H4 := by
  refine ⟨fun i m H => m = xs.length - i ∧ i ≤ xs.length ∧ Pw i H, ⟨_, rfl, Nat.zero_le _, h0⟩, fun i m H z => ?_⟩
  obtain ⟨rfl, hi, p⟩ := z
  have q := hl i H hi p
  by_cases lt : i < xs.length
  · refine .inr ⟨⟨xs, xs[i], q, by simp [lt]⟩, Pw (i + 1), fun H' p' => ⟨xs.length - (i + 1), by omega, rfl, lt, p'⟩, fun x H' y => ?_⟩
    obtain ⟨e, y⟩ := y
    subst e
    exact hs i x _ (y xs q) p
  · have e : i = xs.length := by omega
    subst e
    exact .inl ⟨⟨xs, q, by simp⟩, hd H p⟩
end Kz

/-! longer -/
namespace Kq
open PySem PySem.Spec PyProof.Rows L2 Kf Kg Kv GxR Kk
abbrev tLonger : Stmt := tp 29
abbrev Non : Addr → Prop := fun _ => False
def nexts (R : List (List Dt)) (W : List Dt) : List (List Dt) := R.flatMap fun r => W.map fun y => r ++ [y]
theorem take_flat {α β : Type} {f : α → List β} {xs : List α} {i : Nat} {x : α} (h : xs[i]? = some x) : (xs.take (i + 1)).flatMap f = (xs.take i).flatMap f ++ f x := by
  rw [List.take_add_one, h, List.flatMap_append]
  simp
theorem small6 {n : Nat} (h : n ≤ 16000000) : n ≤ sizeLine := by
  unfold sizeLine
  omega
theorem small6' {n : Nat} (h : n < 16000000) : n < sizeLine := by
  unfold sizeLine
  omega
section
variable {P : Program} {w : World} {K : PySem.W.Frag} {mg : Str → Option Value} {base : Heap}
abbrev nLonger : List Str := ["runs", "worths", "run", "worth"]
theorem scLonger : FnScope nLonger ["runs", "worths"] (defScope tLonger) := ⟨rfl, rfl, rfl, by decide +kernel, rfl, by decide +kernel, by decide +kernel⟩
def spLonger (K : PySem.W.Frag) : Sp := fun vs H Q _ => ∃ (r a : Addr) (R : List (List Dt)) (W : List Dt) (rs ws : List V), vs = [.ref r, .ref a] ∧ H r = some (.lst rs) ∧ SqT K H a ws ∧ (∀ G : Hp, Same H G → SqT K G a ws) ∧ DdL Non H (R.map Dt.tup) rs ∧ DdL Non H W ws ∧ R.length * W.length ≤ 1000000 ∧ (∀ q ∈ R, q.length ≤ 1000) ∧
  ∀ (L : Addr) (out : List V) (G : Hp), Same H G → H L = none → G L = some (.lst out) → DdL Non G ((nexts R W).map Dt.tup) out → Q (.ref L) G
theorem okLonger {f : Addr} {fd : FuncData} {k : Nat} (F : Fun K "longer" "longer" tLonger f fd) : FnOk P w K mg base CX0 (k + 1) f fd ["runs", "worths"] (spLonger K) := by
  refine F.ok scLonger (fun vs H Q E h => ?_) (fun cdv A outer s H vs Q E hr h => ?_)
  · obtain ⟨r, a, R, W, rs, ws, rfl, _⟩ := h
    rfl
  obtain ⟨r, a, R, W, rs, ws, rfl, hR, ha, hak, dR, dW, hm, hq, q⟩ := h
  refine ⟨_, pss_one (ps_ret (pe_lc2 (own := [("run", 2), ("worth", 3)]) (vs1 := [3]) (g := gName 2) (g1 := gName 3) (by rfl) scLonger.nd (pi_list (pv 0)) (blkOk_by (own := [("run", 2), ("worth", 3)]) (N := nLonger) (sc := defScope tLonger) (by decide +kernel)) (by decide)
      (fun _ _ _ _ _ => pg_name (i := 2) scLonger.nd rfl (.inl rfl)) (fun _ _ _ _ _ => pts_nil)
      (fun _ _ _ _ _ => Kz.pi_tupK K rfl (pv 1)) (fun _ _ _ _ _ => pg_name (i := 3) scLonger.nd rfl (.inl rfl)) (fun _ _ _ _ _ => pts_nil)
      (fun _ _ _ _ _ => pe_tup (Kz.pa_starK K rfl (pv 2) (pa_cons (pv 3) pa_nil))))), ?_⟩
  have lR : rs.length = R.length := by
    rw [← dR.len, List.length_map]
  have lW : ws.length = W.length := dW.len.symm
  refine ⟨_, rfl, r, rfl, ⟨_, SqL.of hR⟩, fun D nD => ?_⟩
  have sD := newS (o := .lst []) nD
  have tot : ∀ i, ((R.take i).flatMap fun r => W.map fun y => r ++ [y]).length = (R.take i).length * W.length := fun i => flat_len (fun _ => List.length_map _) _
  refine Kz.lc2_list (xs := rs) (fun i G => Same H G ∧ ∃ out, G D = some (.lst out) ∧ DdL Non G (((R.take i).flatMap fun r => W.map fun y => r ++ [y]).map Dt.tup) out) ⟨sD, [], upd_same, .nil⟩ (fun i G _ z => SqL.of (z.1 _ _ hR)) (fun i x G hx z => ?_) (fun G z => ?_)
  rotate_left
  · obtain ⟨sG, out, gD, dd⟩ := z
    rw [lR, List.take_length] at dd
    exact q D out G sG nD gD dd
  obtain ⟨sG, out, gD, dd⟩ := z
  obtain ⟨x', hx', dx⟩ := dR.get hx
  rw [List.getElem?_map] at hx'
  obtain ⟨run, hrun, rfl⟩ : ∃ run, R[i]? = some run ∧ Dt.tup run = x' := by
    cases c : R[i]? with
    | none => rw [c] at hx'; cases hx'
    | some run => rw [c] at hx'; exact ⟨run, rfl, Option.some.inj hx'⟩
  obtain ⟨b, us, rfl, hb, dus⟩ := Kv.Dd.tupS dx
  have lrun := hq run (List.mem_of_getElem? hrun)
  have li := (List.getElem?_eq_some_iff.mp hrun).1
  have lus : us.length = run.length := dus.len.symm
  refine ⟨rfl, _, rfl, a, rfl, ⟨_, hak _ sG⟩, ?_⟩
  refine Kz.inn_tup (xs := ws) (fun j F => Same H F ∧ ∃ out, F D = some (.lst out) ∧ DdL Non F (((R.take i).flatMap (fun r => W.map fun y => r ++ [y]) ++ (W.take j).map fun y => run ++ [y]).map Dt.tup) out) ⟨sG, out, gD, by simpa using dd⟩ (fun j F _ z => hak _ z.1) (fun j y F hy z => ?_) (fun F z => ?_)
  · obtain ⟨sF, out2, gD2, dd2⟩ := z
    obtain ⟨y', hy', dy⟩ := dW.get hy
    have lj := (List.getElem?_eq_some_iff.mp hy').1
    refine ⟨rfl, _, rfl, b, us, rfl, .inl (SqT.of (sF _ _ hb)), _, rfl, small6 (by simp only [List.length_append, List.length_singleton]; omega), fun t nt => ?_⟩
    have st := newS (o := .tup (us ++ [y])) nt
    have lo := dd2.len
    have h1 := tot i
    have h2 : (R.take i).length * W.length ≤ R.length * W.length := Nat.mul_le_mul_right _ (by rw [List.length_take]; omega)
    have h3 : (R.take i).length * W.length + W.length ≤ R.length * W.length := by
      rw [List.length_take, Nat.min_eq_left (by omega)]
      calc i * W.length + W.length = (i + 1) * W.length := by rw [Nat.add_mul, Nat.one_mul]
        _ ≤ _ := Nat.mul_le_mul_right _ li
    refine ⟨out2, st _ _ gD2, small6' ?_, smk (sF.trans st) nD, _, upd_same, ?_⟩
    · rw [← lo, List.length_map, List.length_append, List.length_map, List.length_take, h1]
      omega
    · have nt2 : ∀ xs, (upd F t (.tup (us ++ [y]))) D ≠ some (.tup xs) := fun xs e => by
        rw [st _ _ gD2] at e
        cases e
      have kt : Kn Non F (upd (upd F t (.tup (us ++ [y]))) D (.lst (out2 ++ [.ref t]))) := (Kn.of st).trans (Kn.rfl.put (fun z => z) nt2)
      have e : (((R.take i).flatMap (fun r => W.map fun y => r ++ [y]) ++ (W.take (j + 1)).map fun y => run ++ [y]).map Dt.tup) = (((R.take i).flatMap (fun r => W.map fun y => r ++ [y]) ++ (W.take j).map fun y => run ++ [y]).map Dt.tup) ++ [Dt.tup (run ++ [y'])] := by
        rw [List.take_add_one, hy']
        simp
      rw [e]
      have td : (upd (upd F t (.tup (us ++ [y]))) D (.lst (out2 ++ [.ref t]))) t = some (.tup (us ++ [y])) := by
        rw [upd_ne (fun z => by rw [z, gD2] at nt; cases nt)]
        exact upd_same
      exact (dd2.kn kt).app (.cons (.tup td ((dus.kn ((Kn.of sF).trans kt)).app (.cons (dy.kn ((Kn.of sF).trans kt)) .nil))) .nil)
  · obtain ⟨sF, out2, gD2, dd2⟩ := z
    refine ⟨sF, out2, gD2, ?_⟩
    rw [take_flat hrun]
    rw [lW, List.take_length] at dd2
    exact dd2
end
end Kq

/-! listed_lists -/
namespace Kq
open PySem PySem.Spec PyProof.Rows L2 Kf Kg Kv GxR Kk
abbrev tListed : Stmt := tp 26
abbrev tLLists : Stmt := tp 27
theorem okMany {f fC fT fL fR : Addr} {fd fdC fdT fdL fdR : FuncData} {P : Program} {w : World} {K : PySem.W.Frag} {mg : Str → Option Value} {base : Heap} (F : Fun K "many_worths" "many_worths" tMany f fd) (bF : Binds K fd psMany []) (gF : mg "many_worths" = some (.ref f))
    (GC : ∀ k, FnOk P w K mg base CX0 (k + 1) fC fdC ["many"] spCut) (bC : Binds K fdC ["many"] []) (gC : mg "cut" = some (.ref fC)) (kC : PySem.W.keepIn K (.ref fC) = true)
    (GT : ∀ k, FnOk P w K mg base CX0 (k + 1) fT fdT ["sizes", "name"] spThings) (bT : Binds K fdT ["sizes", "name"] []) (gT : mg "things_of" = some (.ref fT)) (kT : PySem.W.keepIn K (.ref fT) = true)
    (GL : ∀ k, FnOk P w K mg base CX0 (k + 2) fL fdL ["many", "bound"] spManyL) (bL : Binds K fdL ["many", "bound"] []) (gL : mg "many_lists" = some (.ref fL)) (kL : PySem.W.keepIn K (.ref fL) = true)
    (GR : ∀ k, FnOk P w K mg base CX0 (k + 2) fR fdR ["many", "length"] spRuns) (bR : Binds K fdR ["many", "length"] []) (gR : mg "many_runs" = some (.ref fR)) (kR : PySem.W.keepIn K (.ref fR) = true) : ∀ n, FnOk P w K mg base CX0 (n + 2) f fd psMany (spMany n)
  | 0 => noFn fun vs H Q E h => by
    obtain ⟨vk, p, t, sz, b, _, hn, _⟩ := h
    omega
  | n + 1 => okMany1 F bF gF (GC _) bC gC kC (GT _) bT gT kT (GL _) bL gL kL (GR _) bR gR kR (okMany F bF gF GC bC gC kC GT bT gT kT GL bL gL kL GR bR gR kR n)
theorem runs_none {xs : List Dt} {i : Nat} (h : runs xs i = []) : ∀ k, runs xs (i + k) = []
  | 0 => h
  | k + 1 => by
    show (runs xs (i + k)).flatMap _ = []
    rw [runs_none h k]
    rfl
def llw (W : List Dt) (i : Nat) : List Dt := (List.range i).flatMap fun l => (runs W l).map fun r => Dt.tup [.str "list", .tup r]
theorem llw_next (W : List Dt) (i : Nat) : llw W (i + 1) = llw W i ++ (runs W i).map fun r => Dt.tup [.str "list", .tup r] := range_succ_flat _ _
theorem llw_none {W : List Dt} {i : Nat} (h : runs W i = []) : ∀ k, llw W (i + k) = llw W i
  | 0 => rfl
  | k + 1 => by
    rw [show i + (k + 1) = (i + k) + 1 by omega, llw_next, runs_none h k, llw_none h k]
    simp
theorem llw_len (W : List Dt) : ∀ i, (llw W i).length = gm W.length i := lists_len W
section
variable {P : Program} {w : World} {K : PySem.W.Frag} {mg : Str → Option Value} {base : Heap} {T : List Addr}
def spListed (T : List Addr) (n : Nat) : Sp := fun vs H Q _ => ∃ (vk : V) (p : Addr) (t : Kd) (sz : List (Str × Int)) (b : Nat), vs = [vk, .ref p, .int (b : Nat)] ∧ t.dp + 1 ≤ n ∧ knd t = true ∧ lng sz b t = false ∧ Rp H t vk ∧ Sz H p sz ∧ SzB sz ∧ b ≤ 3 ∧ mny sz b t ≤ 300 ∧ TbS T H ∧
  ∀ (a : Addr) (us : List V) (G : Hp), Sm T H G → G a = some (.tup us) → DdL Non G (lw sz b t) us → Q (.ref a) G
abbrev nLL : List Str := ["kind", "sizes", "bound", "items", "lists", "runs", "length", "run"]
theorem scLL : FnScope nLL psMany (defScope tLLists) := ⟨rfl, rfl, rfl, by decide +kernel, rfl, by decide +kernel, by decide +kernel⟩
def spLL (T : List Addr) (n : Nat) : Sp := fun vs H Q _ => ∃ (vk : V) (p : Addr) (s : Kd) (sz : List (Str × Int)) (b : Nat), vs = [vk, .ref p, .int (b : Nat)] ∧ s.dp + 1 ≤ n ∧ s.data = true ∧ Rp H (.lst s) vk ∧ Sz H p sz ∧ SzB sz ∧ b ≤ 3 ∧ mny sz b (.lst s) ≤ 300 ∧ TbS T H ∧
  ∀ (a : Addr) (us : List V) (G : Hp), Sm T H G → G a = some (.tup us) → DdL Non G (lw sz b (.lst s)) us → Q (.ref a) G
theorem okLL {f fI fN : Addr} {fd fdI fdN : FuncData} {n k : Nat} (F : Fun K "listed_lists" "listed_lists" tLLists f fd)
    (GI : FnOk P w K mg base CX0 k fI fdI psMany (spListed T n)) (bI : Binds K fdI psMany []) (gI : mg "listed" = some (.ref fI)) (kI : PySem.W.keepIn K (.ref fI) = true)
    (GN : FnOk P w K mg base CX0 k fN fdN ["runs", "worths"] (spLonger K)) (bN : Binds K fdN ["runs", "worths"] []) (gN : mg "longer" = some (.ref fN)) (kN : PySem.W.keepIn K (.ref fN) = true)
    (mr : mg "range" = none) (mt : mg "tuple" = none) : FnOk P w K mg base CX0 (k + 1) f fd psMany (spLL T n) := by
  refine F.ok scLL (fun vs H Q E h => ?_) (fun cdv A outer s H vs Q E hr h => ?_)
  · obtain ⟨vk, p, s, sz, b, rfl, _⟩ := h
    rfl
  obtain ⟨vk, p, s', sz, b, rfl, hn, hdt, rk, hz, hB, hb, hm, tb, q⟩ := h
  refine ⟨_, C8.pss_cut (ps_set (i := 3) scLL.nd rfl (.inl rfl) (pe_ifExp (pt_cmpR op_eq (pv 2) pe_int (nomark _)) (pe_tup pa_nil) (pe_call GI hr (by rfl) gI kI bI .nil pass0 (pa_cons (pe_ix ix_tup (pv 0) pe_int (fun _ _ => rfl)) (pa_cons (pv 1) (pa_cons (pv 2) pa_nil))))))
    (pss_cons (ps_set (i := 4) scLL.nd rfl (.inl rfl) (pe_lst pa_nil))
    (pss_cons (ps_set (i := 5) scLL.nd rfl (.inl rfl) (pe_lst (pa_cons (pe_tup pa_nil) pa_nil)))
    (pss_cons (ps_for PassesOwn.never rfl (pi_range1 (by rfl) mr (pa_cons (pe_op op_add (pv 2) pe_int) pa_nil)) (pg_name (i := 6) scLL.nd rfl (.inl rfl))
      (pss_cons (ps_expr (pe_bm PySem.F.plainAttrs_list PySem.F.slot_list_extend PySem.F.type_list_extend mt_extend (pv 4) (pa_cons
        (pe_lc (own := [("run", 7)]) (g := gName 7) (tt := tYes) rfl scLL.nd (pi_list (pv 5)) (blkOk_by (own := [("run", 7)]) (N := nLL) (sc := defScope tLLists) (by decide +kernel)) (fun _ _ _ _ _ => pg_name (i := 7) scLL.nd rfl (.inl rfl)) (fun _ _ _ _ _ => pts_nil) (fun _ _ _ _ _ => pe_tup (pa_cons pe_str (pa_cons (pv 7) pa_nil)))) pa_nil)))
      (pss_cons (ps_set (i := 5) scLL.nd rfl (.inl rfl) (pe_call GN hr (by rfl) gN kN bN .nil pass0 (pa_cons (pv 5) (pa_cons (pv 3) pa_nil))))
      (pss_one (ps_if (pt_not (pt_truth (pv 5) (by intro _; rfl))) (pss_one ps_break) pss_nil)))))
    (pss_one (ps_ret (pe_callTy call_tuple_of (by rfl) mt PyProof.Rows.boot_tuple (pa_cons (pv 4) pa_nil)))))))
    , ?_⟩
  obtain ⟨ka, kx, rfl, hk, rs⟩ := rk
  refine ⟨fun σ G => ∃ (ia : Addr) (ws : List V) (W : List Dt), σ = [some (.ref ka), some (.ref p), some (.int (b : Nat)), some (.ref ia), none, none, none, none] ∧ Sm T H G ∧ G ia = some (.tup ws) ∧ DdL Non G W ws ∧ ((W = lw sz b s' ∧ b ≠ 0) ∨ (b = 0 ∧ W = [])), ?_, ?b2⟩
  · refine ⟨_, rfl, rfl, _, rfl, ite2 (fun e => ?_) (fun e => ?_)⟩
    · have e : ((b : Nat) : Int) = 0 := V.int.inj (of_decide_eq_true e)
      exact ⟨Nat.zero_le _, fun t nt => ⟨t, [], [], rfl, Sm.of (newS nt) tb, upd_same, .nil, .inr ⟨by omega, rfl⟩⟩⟩
    · have e : b ≠ 0 := fun z => e (by rw [z]; rfl)
      obtain ⟨c, rfl⟩ : ∃ c, b = c + 1 := ⟨b - 1, by omega⟩
      have hs : mny sz (c + 1) s' ≤ 300 := by
        have h1 : mny sz (c + 1) (.lst s') = gm (mny sz (c + 1) s') (c + 1 + 1) := rfl
        have h2 := gm_mono (mny sz (c + 1) s') (i := 2) (j := c + 1 + 1) (by omega)
        have h3 : gm (mny sz (c + 1) s') 2 = mny sz (c + 1) s' + 1 := by simp [gm]
        omega
      exact ⟨_, rfl, ka, _, _, _, rfl, rfl, SqT.of hk, atI_nat (j := 1) rfl, _, rfl, _, rfl, kx, p, s', sz, c + 1, rfl, hn, knd_data hdt, lng_data hdt, rs, hz, hB, hb, hs, tb, fun a us G sG ga da => ⟨a, us, _, rfl, sG, ga, da, .inl ⟨rfl, e⟩⟩⟩
  case b2 =>
    rintro σ G0 ⟨ia, ws, W, rfl, s0, gi, dW, hW⟩
    refine ⟨Nat.zero_le _, fun L nL => ?_⟩
    have sL := newS (o := .lst []) nL
    have gL0 : (upd G0 L (.lst [])) L = some (.lst []) := upd_same
    have nLH : H L = none := s0.free nL
    have s1 : Sm T H (upd G0 L (.lst [])) := s0.trans (Sm.of sL s0.2)
    have gi1 := sL _ _ gi
    have dW1 := dW.same sL
    generalize upd G0 L (.lst []) = G1 at gL0 s1 gi1 dW1
    refine ⟨Nat.zero_le _, fun t0 nt0 => ⟨(by show 1 ≤ sizeLine; decide), fun r0 nr0 => ?_⟩⟩
    have st := newS (o := .tup []) nt0
    have sr := newS (o := .lst [V.ref t0]) nr0
    have gt := sr _ _ (show (upd G1 t0 (.tup [])) t0 = some (.tup []) from upd_same)
    have gr0 : (upd (upd G1 t0 (.tup [])) r0 (.lst [V.ref t0])) r0 = some (.lst [V.ref t0]) := upd_same
    have s12 : Same G1 (upd (upd G1 t0 (.tup [])) r0 (.lst [V.ref t0])) := st.trans sr
    have s2 : Sm T H (upd (upd G1 t0 (.tup [])) r0 (.lst [V.ref t0])) := s1.trans (Sm.of s12 s1.2)
    have gi2 := s12 _ _ gi1
    have gL2 := s12 _ _ gL0
    have dW2 := dW1.same s12
    have Lr0 : L ≠ r0 := fun z => by
      rw [← z, st _ _ gL0] at nr0
      cases nr0
    generalize upd (upd G1 t0 (.tup [])) r0 (.lst [V.ref t0]) = G2 at gt gr0 s2 gi2 gL2 dW2
    -- how many
    have hg : gm W.length (b + 1) ≤ 300 := by
      rcases hW with ⟨rfl, _⟩ | ⟨rfl, rfl⟩
      · rw [lw_len]
        exact hm
      · show gm 0 1 ≤ 300
        decide
    have hw : W.length ≤ 300 := by
      rcases hW with ⟨rfl, hb0⟩ | ⟨_, rfl⟩
      · cases b with
        | zero => exact absurd rfl hb0
        | succ c =>
          have h2 := gm_mono (lw sz (c + 1) s').length (i := 2) (j := c + 1 + 1) (by omega)
          have h3 : gm (lw sz (c + 1) s').length 2 = (lw sz (c + 1) s').length + 1 := by simp [gm]
          omega
      · exact Nat.zero_le _
    have fin : ∀ i, i ≤ b + 1 → (i = b + 1 ∨ runs W i = []) → llw W i = lw sz b (.lst s') := fun i hi h => by
      have e1 : llw W i = llw W (b + 1) := by
        rcases h with rfl | h
        · rfl
        · have := llw_none h (b + 1 - i)
          rw [show i + (b + 1 - i) = b + 1 by omega] at this
          exact this.symm
      rw [e1]
      rcases hW with ⟨rfl, _⟩ | ⟨rfl, rfl⟩
      · rfl
      · rfl
    refine ⟨_, rfl, _, _, rfl, rfl, _, rfl, by omega, by omega, ?_⟩
    rw [show (((b : Nat) : Int) + 1).toNat = b + 1 by omega]
    refine for_range (fun i σ G => ∃ (r : Addr) (y : Option V) (ls rs : List V), σ = [some (.ref ka), some (.ref p), some (.int (b : Nat)), some (.ref ia), some (.ref L), some (.ref r), y, none] ∧ i ≤ b + 1 ∧ Sm T H G ∧ G ia = some (.tup ws) ∧ DdL Non G W ws ∧ L ≠ r ∧ G L = some (.lst ls) ∧ DdL Non G (llw W i) ls ∧ G r = some (.lst rs) ∧ DdL Non G ((runs W i).map Dt.tup) rs)
      ⟨r0, none, [], [V.ref t0], rfl, Nat.zero_le _, s2, gi2, dW2, Lr0, gL2, .nil, gr0, .cons (.tup gt .nil) .nil⟩ (fun i σ G hi z => ?_) (fun σ G z => ?_)
    rotate_left
    · obtain ⟨r, y, ls, rs, rfl, _, sG, gi, dW, Lr, gL, dL, gr, dR⟩ := z
      refine ⟨_, rfl, L, ls, rfl, .inl ⟨SqL.of gL, fun l nl => ?_⟩⟩
      have sl := newS (o := .tup ls) nl
      have dL2 := dL.same sl
      rw [fin _ (Nat.le_refl _) (.inl rfl)] at dL2
      exact q l ls _ (sG.trans (Sm.of sl sG.2)) upd_same dL2
    obtain ⟨r, y, ls, rs, rfl, hi1, sG, gi, dW, Lr, gL, dL, gr, dR⟩ := z
    have lr : rs.length = (runs W i).length := by rw [← dR.len, List.length_map]
    have l1 := llw_len W i
    have l2 := llw_len W (i + 1)
    have l3 := gm_mono W.length (i := i + 1) (j := b + 1) (by omega)
    rw [llw_next, List.length_append, List.length_map] at l2
    refine ⟨_, rfl, .inl ⟨rfl, _, SqL.of gL⟩, _, rfl, r, rfl, ⟨_, SqL.of gr⟩, fun D nD => ?_⟩
    have sD := newS (o := .lst []) nD
    refine lc_list (xs := rs) (fun j F => Same G F ∧ ∃ out, F D = some (.lst out) ∧ DdL Non F (((runs W i).take j).map fun r => Dt.tup [.str "list", .tup r]) out) ⟨sD, [], upd_same, .nil⟩ (fun j F _ z => SqL.of (z.1 _ _ gr)) (fun j x F hx z => ?_) (fun F z => ?_)
    · obtain ⟨sF, out, gD, dd⟩ := z
      obtain ⟨x', hx', dx⟩ := dR.get hx
      rw [List.getElem?_map] at hx'
      obtain ⟨run, hrun, rfl⟩ := Option.map_eq_some_iff.mp hx'
      have lj := (List.getElem?_eq_some_iff.mp hrun).1
      have lo := dd.len
      rw [List.length_map, List.length_take] at lo
      refine ⟨rfl, _, rfl, (by show 2 ≤ sizeLine; decide), fun t nt => ?_⟩
      have stt := newS (o := .tup [V.str "list", x]) nt
      have gD2 := stt _ _ gD
      have nt2 : ∀ xs, (upd F t (.tup [V.str "list", x])) D ≠ some (.tup xs) := fun xs e => by
        rw [gD2] at e
        cases e
      have kt : Kn Non F (upd (upd F t (.tup [V.str "list", x])) D (.lst (out ++ [.ref t]))) := (Kn.of stt).trans (Kn.rfl.put (fun z => z) nt2)
      refine ⟨out, gD2, small6' (by omega), smk (sF.trans stt) nD, _, upd_same, ?_⟩
      rw [List.take_add_one, hrun, List.map_append]
      have td : (upd (upd F t (.tup [V.str "list", x])) D (.lst (out ++ [.ref t]))) t = some (.tup [V.str "list", x]) := by
        rw [upd_ne (fun z => by rw [z, gD] at nt; cases nt)]
        exact upd_same
      exact (dd.kn kt).app (.cons (.tup td (.cons (.str _) (.cons (dx.kn ((Kn.of sF).trans kt)) .nil))) .nil)
    · obtain ⟨sF, out, gD, dd⟩ := z
      rw [lr, List.take_length] at dd
      have lo := dd.len
      rw [List.length_map] at lo
      have ll := dL.len
      have gL3 := sF _ _ gL
      refine ⟨L, D, ls, out, rfl, rfl, gL3, gD, small6 (by omega), ?_⟩
      have nt3 : ∀ xs, F L ≠ some (.tup xs) := fun xs e => by
        rw [gL3] at e
        cases e
      have kL : Kn Non G (upd F L (.lst (ls ++ out))) := (Kn.of sF).trans (Kn.rfl.put (fun z => z) nt3)
      have kL' : Kn Non F (upd F L (.lst (ls ++ out))) := Kn.rfl.put (fun z => z) nt3
      have sA : Sm T H (upd F L (.lst (ls ++ out))) := (sG.trans (Sm.of sF sG.2)).new nLH tb
      have giA := kL.tup _ _ gi
      have dWA := dW.kn kL
      have grA : (upd F L (.lst (ls ++ out))) r = some (.lst rs) := by
        rw [upd_ne Lr.symm]
        exact sF _ _ gr
      have dRA := dR.kn kL
      have gLA : (upd F L (.lst (ls ++ out))) L = some (.lst (ls ++ out)) := upd_same
      have dLA : DdL Non (upd F L (.lst (ls ++ out))) (llw W (i + 1)) (ls ++ out) := by
        rw [llw_next]
        exact (dL.kn kL).app (dd.kn kL')
      generalize upd F L (.lst (ls ++ out)) = GA at sA giA dWA grA dRA gLA dLA
      have hrl : (runs W i).length ≤ 300 := by omega
      refine ⟨_, rfl, _, rfl, r, ia, runs W i, W, rs, ws, rfl, grA, SqT.of giA, (fun G' s' => SqT.of (s' _ _ giA)), dRA, dWA, ?_, ?_, fun r2 out2 G3 s3 nr2 gr2 dr2 => ?_⟩
      · exact Nat.le_trans (Nat.mul_le_mul hrl hw) (by decide)
      · intro x hx
        have := (runs_each hx).1
        omega
      · have Lr2 : L ≠ r2 := ne_of_none gLA nr2
        have sB := sA.trans (Sm.of s3 sA.2)
        have gLB := s3 _ _ gLA
        have dLB := dLA.same s3
        have dr2 : DdL Non G3 ((runs W (i + 1)).map Dt.tup) out2 := dr2
        refine ⟨_, rfl, _, .inl ⟨_, SqL.of gr2, rfl⟩, ite2 (fun e => ?_) (fun e => ?_)⟩
        · have e0 : runs W (i + 1) = [] := by
            have l0 : out2 = [] := by simpa using e
            rw [l0] at dr2
            have := dr2.len
            rw [List.length_map] at this
            exact List.length_eq_zero_iff.mp this
          refine ⟨_, rfl, L, _, rfl, .inl ⟨SqL.of gLB, fun l nl => ?_⟩⟩
          have sl := newS (o := .tup (ls ++ out)) nl
          have dL2 := dLB.same sl
          rw [fin _ (by omega) (.inr e0)] at dL2
          exact q l _ _ (sB.trans (Sm.of sl sB.2)) upd_same dL2
        · exact ⟨r2, _, _, _, rfl, by omega, sB, s3 _ _ giA, dWA.same s3, Lr2, gLB, dLB, gr2, dr2⟩
end
end Kq

/-! a generator expression whose element may call defs, as the argument of tuple(..) or list(..) -/
namespace Kg
open PySem PySem.Spec PyProof.Rows L2 GenW GxR
open Sem (wp)
/-- a turn's wish; ys: what is out -/
def TurnsY (J : It) (σ0 : L2.St) (vs : List Nat) (g : TG) (te : TE) (Q : List V → Hp → Prop) (W : Nat → Nat → List V → Hp → Prop) : Prop :=
  ∀ i m ys H, W i m ys H → (J.stop i H ∧ Q ys H) ∨ (J.go i H ∧ ys.length < sizeLine ∧ ∃ Nx : V → Hp → Prop, (∀ y H', Nx y H' → ∃ m', m' < m ∧ W (i + 1) m' (ys ++ [y]) H') ∧ ∀ x H', J.yld i H x H' → g x σ0 H' fun σ2 H2 => wipe σ2 vs = σ0 ∧ te σ2 H2 fun y H4 => Nx y H4)
section
variable {X : Cx} {A : Around} {N : List Str} {s4 : Shared} {H0 : Hp} {cenv : Env} {fp : List Addr} {tg elt iter : Expr} {scope : Scope} {pos : Pos} {it a S : Addr} {gi : Nat} {go : Obj} {J : It} {tn : Nat → Heap → Prop} {σ0 : L2.St} {vs : List Nat} {g : TG} {te : TE} {Q : List V → Hp → Prop} {EX : XK} {W : Nat → Nat → List V → Hp → Prop}
theorem gy_loop (hh : A.handled = none) (hco : cenv.scope.isCoroutine = false) (T : Turn X.prog X.w X.K tg J fp it tn) (haf : a ∉ fp) (hSf : S ∉ fp) (haS : a ≠ S) (hA : Apart (gcx X A N s4 H0 cenv fp) S) (hgen : ∀ h : Heap, h.get? a = some go → h.IsGen a gi)
    (pg : PG (gcx X A N s4 H0 cenv fp) tg g) (pe : PE (gcx X A N s4 H0 cenv fp) elt te) (turn : TurnsY J σ0 vs g te Q W) :
    ∀ (m n i : Nat) (ys : List V) (H : Hp) (s₀ s : Shared), n + ys.length = sizeLine → W i m ys H → GI (gcx X A N s4 H0 cenv fp) S [(a, go)] ys σ0 H s → tn i s.heap → (∀ b ∈ fp, H b = none) →
      Seg (model X.prog X.w) A (REnd X.prog X.w X.stack H0 s4 fp S a gi Q EX) (YItem s4 S a gi) n s₀ (.compLoop (.GeneratorExp elt [⟨tg, iter, [], 0⟩] scope pos) 0 (.ref it) .none cenv)
        ((model X.prog X.w).den (.compLoop (.GeneratorExp elt [⟨tg, iter, [], 0⟩] scope pos) 0 (.ref it) .none cenv)) [] s := by
  have stat : ∀ {acc : Array Value} {cc : Nat} {σ' : L2.St} {H' : Hp} {s' : Shared}, Inv (gcx X A N s4 H0 cenv fp) [(S, lstObj acc cc), (a, go)] σ' H' s' → (∀ b ∈ fp, H' b = none) → ∀ b ∈ fp, FpOk (gcx X A N s4 H0 cenv fp) [(S, lstObj acc cc), (a, go)] H' b := fun {acc cc σ' H' s'} I' hn b hb =>
    ⟨hn b hb, (I'.ok.exf b hb).1, I'.ok.exfs b hb, .inl hb, fun x c e => (I'.ok.exf b hb).2 x c e, fun p hp z => by
      have hp : p ∈ [(S, lstObj acc cc), (a, go)] := hp
      rcases List.mem_cons.mp hp with hp | hp
      · rw [hp] at z
        have z : S = b := z
        exact hSf (by rw [z]; exact hb)
      · rw [List.mem_singleton.mp hp] at z
        have z : a = b := z
        exact haf (by rw [z]; exact hb)⟩
  have hy : ∀ v, yieldOut cenv v = yieldValue v := fun v => by simp only [yieldOut, hco, Bool.false_eq_true, if_false]
  intro m
  induction m using Nat.strongRecOn with
  | ind m ih =>
    intro n i ys H s₀ s hmn hW hI hst hn
    obtain ⟨acc, cc, rys, I⟩ := hI
    show Seg _ A _ _ _ s₀ _ ((compTurn (.GeneratorExp elt [⟨tg, iter, [], 0⟩] scope pos) 0 (.ref it) .none cenv).onRaise (leaving cenv)) [] s
    rw [compTurn_gen, Sem.onRaise_eq_wrap]
    refine seg_bind_wrap (wpAny_standAt ?_)
    rcases turn i m ys H hW with ⟨stop, qq⟩ | ⟨hgo, hlt, Nx, hNx, step⟩
    · refine seg_bind_wrap ?_
      rw [over_loopC]
      refine thn (T.done (gcx X A N s4 H0 cenv fp) rfl rfl rfl rfl i [(S, lstObj acc cc), (a, go)] s _ H _ I (stat I hn) hst stop) fun r s6 ⟨hr, I6⟩ => ?_
      subst hr
      have p6 := I6.pin (S, lstObj acc cc) (List.mem_append_right _ List.mem_cons_self)
      exact seg_end (.ok .next) (.inl ⟨.inr rfl, H, ys, acc, cc, I6.os, I6.bare, I6.base, I6.hok, p6.2.1, p6.1, rys, by omega, qq⟩)
    · obtain ⟨n, rfl⟩ : ∃ k, n = k + 1 := ⟨n - 1, by omega⟩
      refine seg_bind_wrap ?_
      rw [over_loopC]
      refine thn (T.item (gcx X A N s4 H0 cenv fp) rfl rfl rfl rfl i [(S, lstObj acc cc), (a, go)] s _ H _ I (stat I hn) hst hgo) fun r s6 ⟨u, hr, h6⟩ => ?_
      subst hr
      refine seg_bind_wrap ?_
      rw [over_loopC]
      refine thn h6 fun _ s7 ⟨x, H7, I7, r7, y7, st7, n7⟩ => ?_
      have I7' := I7.pinned (stat I7 n7) (T.obj _ _ st7)
      refine seg_bind_wrap ?_
      rw [over_loopC]
      refine wpAny_mono (pg.run _ s7 _ H7 x u _ I7' r7 (step x H7 y7)) (fun _ s8 ⟨σ8, H8, I8, hw8, q8⟩ => ?_) fun _ _ e => e.elim
      have fin : ∀ {s' : Shared} {H' : Hp}, Inv (gcx X A N s4 H0 cenv fp) ([(S, lstObj acc cc), (a, go)] ++ pinsAt fp s7.heap) σ8 H' s' → Inv (gcx X A N s4 H0 cenv fp) [(S, lstObj acc cc), (a, go)] σ0 H' s' ∧ tn (i + 1) s'.heap ∧ ∀ b ∈ fp, H' b = none := fun {s' H'} I' => by
        have pin' : ∀ b ∈ fp, ∀ o, s7.heap.get? b = some o → s'.heap.get? b = some o ∧ H' b = none := fun b hb o e =>
          let z := I'.pin (b, o) (List.mem_append_right _ (List.mem_append_right _ (mem_pinsAt hb e)))
          ⟨z.1, z.2.1⟩
        have hl : σ0.length = σ8.length := by rw [← hw8, wipe_length]
        refine ⟨(I'.unpinned (pins := [(S, lstObj acc cc), (a, go)])).weak hl (fun j v e => ?_), T.keep _ _ _ st7 fun b hb o e => (pin' b hb o e).1, fun b hb => ?_⟩
        · rw [← hw8] at e
          exact (wipe_some e).1
        · obtain ⟨o, e, _⟩ := T.obj _ _ st7 b hb
          exact (pin' b hb o e).2
      simp only [List.forIn_nil]
      refine seg_bind_wrap (wpAny_pure ?_)
      simp only [if_true]
      simp only [hy]
      rw [Sem.bind_eq_wrap', Sem.bind_eq_wrap', Sem.wrap_wrap, Sem.wrap_wrap]
      refine seg_wrap ?_
      rw [over_loopC]
      refine wpAny_mono (pe.run _ s8 σ8 H8 _ I8 q8) (fun v s10 ⟨y, H10, I10, r10, nx⟩ => ?_) fun _ _ e => e.elim
      obtain ⟨m', hm', w'⟩ := hNx y H10 nx
      obtain ⟨J1, J2, J3⟩ := fin I10
      have hga : s10.heap.IsGen a gi := hgen _ (J1.pin (a, go) (List.mem_append_right _ (List.mem_cons_of_mem _ (List.mem_singleton.mpr rfl)))).1
      have hS10 := (J1.pin (S, lstObj acc cc) (List.mem_append_right _ List.mem_cons_self)).1
      have hsz : acc.size = ys.length := by
        have e1 := rys.length
        have e2 : acc.toList.length = acc.size := by simp
        omega
      refine seg_at (seg_yield rfl rfl rfl ⟨J1.os, J1.bare, J1.nolimit, hga, ⟨acc, cc, hS10, by rw [hsz]; exact hmn⟩, fun s'' z => ?_⟩)
      have G1 : GI (gcx X A N s4 H0 cenv fp) S [(a, go)] ys σ0 H10 s10 := ⟨acc, cc, rys, J1⟩
      have G2 := G1.woken (fun p hp => absurd (show p ∈ ([] : List (Addr × Obj)) from hp) (by simp)) (fun p hp => by rw [List.mem_singleton.mp hp]; exact haS) hA r10 z
      refine seg_again rfl (ih m' hm' n (i + 1) (ys ++ [y]) H10 s'' s'' (by rw [List.length_append, List.length_singleton]; omega) w' G2 (T.keep _ _ _ J2 fun b hb o e => z.keep b o (fun q => hSf (by rw [← q]; exact hb)) e) J3)
theorem gy_begin (hh : A.handled = none) (hco : cenv.scope.isCoroutine = false) (T : Turn X.prog X.w X.K tg J fp it tn) (haf : a ∉ fp) (hSf : S ∉ fp) (haS : a ≠ S) (hA : Apart (gcx X A N s4 H0 cenv fp) S) (hgen : ∀ h : Heap, h.get? a = some go → h.IsGen a gi)
    (pg : PG (gcx X A N s4 H0 cenv fp) tg g) (pe : PE (gcx X A N s4 H0 cenv fp) elt te) (turn : TurnsY J σ0 vs g te Q W) {m : Nat} {H : Hp} {s : Shared} (w0 : W 0 m [] H) (hI : GI (gcx X A N s4 H0 cenv fp) S [(a, go)] [] σ0 H s) (hst : tn 0 s.heap) (hn : ∀ b ∈ fp, H b = none) :
    Seg (model X.prog X.w) A (REnd X.prog X.w X.stack H0 s4 fp S a gi Q EX) (YItem s4 S a gi) sizeLine s (.compStart (.GeneratorExp elt [⟨tg, iter, [], 0⟩] scope pos) 0 (.ref it) .none cenv)
      ((model X.prog X.w).den (.compStart (.GeneratorExp elt [⟨tg, iter, [], 0⟩] scope pos) 0 (.ref it) .none cenv)) [] s := by
  have loop := gy_loop (iter := iter) (scope := scope) (pos := pos) (EX := EX) hh hco T haf hSf haS hA hgen pg pe turn m sizeLine 0 [] H s s rfl w0 hI hst hn
  show Seg _ A _ _ _ s _ ((compStart (.GeneratorExp elt [⟨tg, iter, [], 0⟩] scope pos) 0 (.ref it) .none cenv).onRaise (leaving cenv)) [] s
  unfold compStart
  rw [Sem.onRaise_eq_wrap]
  show Seg _ A _ _ _ s _ ((ask >>= _).wrap _ _ _ _) [] s
  refine seg_bind_wrap (wpAny_askSetting ?_)
  split
  · exact seg_again rfl loop
  · first
      | exact seg_bind_wrap (wpAny_rule (seg_bind_wrap (wpAny_standAt (seg_bind_wrap (T.self _ 0 s _ _ hst (seg_again rfl loop))))))
      | (refine seg_bind_wrap (wpAny_rule ?_); show Seg _ A _ _ _ s _ ((standAt iter.pos >>= _).wrap _ _ _ _) [] s; exact seg_bind_wrap (wpAny_standAt (seg_bind_wrap (T.self _ 0 s _ _ hst (seg_again rfl loop)))))
end
section
variable {X : Cx}
def tGx (P : Addr) (wi : TI) (own : List Str) (caps : List (Str × Nat)) (vs : List Nat) (g : TG) (te : TE) : TGen := fun σ H cont => wi σ H fun J H1 => TabG H1 P ∧ ∀ H2, Tabbed P H1 H2 → ∃ W : Nat → Nat → List V → Hp → Prop, (∃ m, W 0 m [] H2) ∧ TurnsY J (gxSt own caps σ) vs g te cont W
/-- a generator expression -/
theorem pgen_gx {c P : Addr} {elt tg iter : Expr} {gpos : Pos} {scope : Scope} {own : List Str} {caps : List (Str × Nat)} {vs : List Nat} {wi : TI} {g : TG} {te : TE} {k : Nat} {E : XK}
    (hr : Room k X.A) (TB : TabB X.base X.mg c P) (hcode : X.env.code = .ref c) (S : GxS X.N X.env.scope scope own caps) (hi : PI X tg iter wi)
    (pg : ∀ (A : Around) (s : Shared) (H : Hp) (C : Addr) (cd : Value) (fp : List Addr), Room k A → PG (gcx X A (gxN own caps) s H (gxEnv X scope C cd) fp) tg g)
    (pe : ∀ (A : Around) (s : Shared) (H : Hp) (C : Addr) (cd : Value) (fp : List Addr), Room k A → PE (gcx X A (gxN own caps) s H (gxEnv X scope C cd) fp) elt te)
    (hs : ∀ v, genFold iter X.env v = pure v := by intro _; rfl) :
    PGen X k (.GeneratorExp elt [⟨tg, iter, [], 0⟩] scope gpos) (tGx P wi own caps vs g te) E := by
  refine ⟨fun pins s σ H Q I h => ?_⟩
  have hfree : ∀ y ∈ scope.names, y.2 = .free → ∃ c, X.env.cells.lookup y.1 = some c := fun y hy e => by
    rcases S.free y hy e with k | k
    · exact I.ok.has _ (.inl k)
    · exact I.ok.has _ (.inr k)
  refine wpAny_GeneratorExp_make S.co (closure_ok hfree) S.cell S.dot S.kind (by have := hr.dp; omega) ?_ hs
  refine thn (hi.run pins s σ H _ I h) fun xv s1 hx => thn hx fun itv s2 h2 => ?_
  obtain ⟨it, fp, tn, J, H1, rfl, I2, T, st2, f2, ⟨ps, hP, ht⟩, q⟩ := h2
  refine ⟨I2.nolimit, ?_⟩
  have hPs : s2.heap.get? P = some { cls := .none, data := .fields ps } := I2.hok P _ hP
  have cd : PySem.W.CodeHd s2.heap c P := TB.code.keeps I2.bk
  have sz2 : ∀ b ∈ fp, b < s2.heap.objs.size := fun b hb => by
    obtain ⟨o, e, _⟩ := T.obj _ _ st2 b hb
    exact Heap.lt_size e
  have cont : ∀ (code : Value) (h3 : Heap) (tk : Nat) (ps' more : Array Value), Heap.ExtBut P s2.heap h3 → s2.heap.objs.size ≤ h3.objs.size → h3.get? P = some { cls := .none, data := .fields ps' } → ps' = ps ++ more → TriplesOk ps'.toList →
      wpAny (model X.prog X.w) X.A (builtinsFor X.env.globals X.env.builtins) (fun bi s₄ =>
        ∀ h', h'.Ns s₄.heap.objs.size (fun y => if y = ".0" then some (.ref it) else none) → Heap.SameBut s₄.heap.objs.size (s₄.heap.push { cls := .type "frame", data := .dict #[] }) h' →
          ∃ H1 sc ex, Inv X pins σ H1 sc ∧ ExOk X pins ex ∧ GMade X.prog X.w k X.stack H1 sc ex Q E (.ref h'.objs.size) { s₄ with
            gens := s₄.gens.push (.fresh (.compStart (.GeneratorExp elt [⟨tg, iter, [], 0⟩] scope gpos) 0 (.ref it) .none (genEnv scope (cloFrom X.env.cells scope.names []) s₄.heap.objs.size code bi X.env))),
            toks := s₄.toks + 1 + 1 + 1,
            heap := h'.push { cls := .type "generator", data := .fields #[.int s₄.gens.size 0, .str "<genexpr>" (s₄.toks + 1), .str (X.env.qual ++ "<genexpr>") (s₄.toks + 1 + 1)] } }) X.xe { s2 with heap := h3, toks := tk } := by
    intro code h3 tk ps' more hx hsz hP3 hmore ht3
    obtain ⟨bm, ob, e1, e2, e3, e4, e5, e6, e7, e8⟩ := TB.bm
    have keep3 : ∀ b u, b ≠ P → s2.heap.get? b = some u → h3.get? b = some u := fun b u hb e => hx b u hb e
    refine wpAny_builtinsFor (m := X.mg) (by rw [I2.ok.glob]; exact (I2.mod.glob.keeps I2.bk).extBut hx TB.gP) e1 e2 (keep3 _ _ e4 (I2.bk _ _ e5)) e6 e7 e8 ?_
    intro h' hns hsb
    have I3 : Inv X pins σ (upd H1 P (.tbl (ps ++ more))) { s2 with heap := h3, toks := tk } := inv_tab (more := more) (g' := s2.gens) (d' := s2.drawn) (t' := tk) I2 hP keep3 (by rw [← hmore]; exact hP3) I2.bare
    have hT : Tabbed P H1 (upd H1 P (.tbl (ps ++ more))) := ⟨⟨ps ++ more, upd_same, by rw [← hmore]; exact ht3⟩, fun b hb => upd_ne hb⟩
    obtain ⟨W, ⟨m, w0⟩, turn⟩ := q _ hT
    have nP : ∀ b ∈ fp, b ≠ P := fun b hb z => by
      have := (f2 b hb).1
      rw [z, hP] at this
      cases this
    have f3 : ∀ b ∈ fp, FpOk X pins (upd H1 P (.tbl (ps ++ more))) b ∧ b < h3.objs.size := fun b hb => ⟨⟨by rw [upd_ne (nP b hb)]; exact (f2 b hb).1, (f2 b hb).2⟩, Nat.lt_of_lt_of_le (sz2 b hb) hsz⟩
    generalize upd H1 P (.tbl (ps ++ more)) = H3 at I3 w0 f3
    have hsz' : h'.objs.size = h3.objs.size + 1 := by rw [hsb.1, Heap.size_push]
    have keep' : ∀ b o, h3.get? b = some o → h'.get? b = some o := fun b o e => hsb.extBut b o (Nat.ne_of_lt (Heap.lt_size e)) (Heap.get?_push_of_some _ e)
    generalize hgo : ({ cls := .type "generator", data := .fields #[.int s2.gens.size 0, .str "<genexpr>" (tk + 1), .str (X.env.qual ++ "<genexpr>") (tk + 1 + 1)] } : Obj) = go
    have hgen : ∀ hp : Heap, hp.get? h'.objs.size = some go → hp.IsGen h'.objs.size s2.gens.size := fun hp e => ⟨go, _, _, e, by rw [← hgo], by rw [← hgo], by rw [← hgo]⟩
    have hput : (h'.push go).get? h'.objs.size = some go := Heap.get?_push_size _ (by rw [← hgo]; rfl)
    have hgd : ∀ v, go.data ≠ .cell v := fun v z => by rw [← hgo] at z; cases z
    have keep5 : ∀ b o, h3.get? b = some o → (h'.push go).get? b = some o := fun b o e => Heap.get?_push_of_some _ (keep' b o e)
    have hb5 : AllBare (s2.gens.push (.fresh (.compStart (.GeneratorExp elt [⟨tg, iter, [], 0⟩] scope gpos) 0 (.ref it) .none (gxEnv X scope h3.objs.size code)))) := I2.bare.push rfl
    refine ⟨H3, { s2 with heap := h3, toks := tk }, fp, I3, fun b hb => ⟨(f3 b hb).1.2.2.2.1, (f3 b hb).1.2.1, (f3 b hb).1.2.2.2.2.1, (f3 b hb).1.2.2.2.2.2⟩, h'.objs.size, s2.gens.size, _, rfl, ?_, ?_, hgen _ hput, Array.getElem?_push_size .., rfl, hb5, I3.nolimit.keeps keep5, keep5, ?_⟩
    · show h3.objs.size ≤ h'.objs.size
      omega
    · show h'.objs.size < (h'.push go).objs.size
      rw [Heap.size_push]
      exact Nat.lt_succ_self _
    intro Aw Sx s6 hrw hfr hSx hk6 hSo hos6 hba6
    have hSx : (h'.push go).objs.size ≤ Sx := hSx
    rw [Heap.size_push] at hSx
    have hk6 : ∀ b o, (h'.push go).get? b = some o → s6.heap.get? b = some o := hk6
    have G0 : Inv (gcx X Aw (gxN own caps) { s2 with heap := h3, toks := tk } H3 (gxEnv X scope h3.objs.size code) fp) [] (gxSt own caps σ) H3 s6 :=
      gx_start (s := { s2 with heap := h3, toks := tk }) I3 S hrw.hd hfr f3 ((hns.push go).at' fun o e => hk6 _ o e) (fun b o e => hk6 b o (keep5 b o e)) hos6 hba6
    have young : ∀ b, h3.objs.size < b → H3 b = none ∧ b ≠ h3.objs.size ∧ b ∉ frs X.stack := fun b hb => by
      refine ⟨I3.hok.fresh (by show h3.objs.size ≤ b; omega), by omega, fun z => ?_⟩
      rcases List.mem_cons.mp (I3.stkSub _ z) with z | z
      · have h1 := I3.lt
        rw [← z] at h1
        have h1 : b < h3.objs.size := h1
        omega
      · exact I3.nofs (show h3.objs.size ≤ b by omega) z
    obtain ⟨cS, heS⟩ := hSo
    have hG : GI (gcx X Aw (gxN own caps) { s2 with heap := h3, toks := tk } H3 (gxEnv X scope h3.objs.size code) fp) Sx [(h'.objs.size, go)] [] (gxSt own caps σ) H3 s6 := by
      refine ⟨#[], cS, .nil, G0.pins_of fun p hp => ?_⟩
      rcases List.mem_cons.mp hp with hp | hp
      · rw [hp]
        obtain ⟨y1, y2, y3⟩ := young Sx (by omega)
        exact ⟨heS, y1, y2, y3, fun v q => by cases q⟩
      · rw [List.mem_singleton.mp hp]
        obtain ⟨y1, y2, y3⟩ := young h'.objs.size (by omega)
        exact ⟨hk6 _ _ hput, y1, y2, y3, hgd⟩
    have st5 : tn 0 s6.heap := T.keep _ _ _ st2 fun b hb o e => hk6 b o (keep5 b o (keep3 b o (nP b hb) e))
    have cm : ∀ {y c}, (y, c) ∈ cloFrom X.env.cells scope.names [] → c < h3.objs.size := fun {y c} hm => by
      rcases cloFrom_mem hm with hm | ⟨h1, rfl⟩
      · cases hm
      · obtain ⟨c, hc⟩ := hfree _ h1 rfl
        rw [hc]
        obtain ⟨w, z⟩ := I3.cell _ _ hc
        exact z.lt
    refine gy_begin (A := Aw) (N := gxN own caps) (σ0 := gxSt own caps σ) (vs := vs) (g := g) (te := te) (Q := Q) (EX := E) (W := W) hrw.hd S.co T (fun z => ?_) (fun z => ?_) (Nat.ne_of_lt (by omega)) ⟨?_, ?_, fun x c e z => ?_⟩ hgen (pg _ _ _ _ _ _ hrw) (pe _ _ _ _ _ _ hrw) turn w0 hG st5 (fun b hb => (f3 b hb).1.1)
    · have z2 : h'.objs.size < h3.objs.size := (f3 _ z).2
      omega
    · have z2 : @LT.lt Nat _ Sx h3.objs.size := (f3 _ z).2
      omega
    · show h3.objs.size ≤ Sx
      omega
    · exact Nat.ne_of_gt (show h3.objs.size < Sx by omega)
    · have z2 : @LT.lt Nat _ c h3.objs.size := cm (PySem.mem_of_lookup (show (cloFrom X.env.cells scope.names []).lookup x = some c from e))
      have z3 : @Eq Nat c Sx := z
      omega
  cases hf : codeAmong gpos ps.toList with
  | none =>
    refine wpAny_genexprCodeX hcode (cd.code hPs ht) (cd.tab hPs) hf fun c' h' tk hx hge hlt hco' _ htab' _ => ?_
    obtain ⟨o1, vs, f1, tf, fl, tg, inF, tx, tt, op, _, _, _, _, _, _, _, _, _, htr, _⟩ := hco'
    exact cont _ h' tk _ _ hx (Nat.le_trans hge (Nat.le_of_lt hlt)) htab'.2 rfl htr
  | some cv =>
    refine wpAny_genexprCode_hit hcode (cd.code hPs ht) hf ?_
    exact cont cv s2.heap s2.toks ps #[] (Heap.ExtBut.refl _ _) (Nat.le_refl _) hPs (by simp) ht
end
/-! tuple(g) -/
theorem collect_made {P : Program} {w : World} {outer : List Env} {H : Hp} {sc s : Shared} {ex : List Addr} {Q : List V → Hp → Prop} {A : Around} {k : Nat} {u : Value} {Q' : List Value → Shared → Prop} {E : Value → Shared → Prop}
    (hr : Room (k + 1) A) (hfr : A.frames = some outer) (h : GMade P w k outer H sc ex Q E0 u s)
    (hQ : ∀ (s' : Shared) (acc : Array Value) (H' : Hp) (ys : List V), s.heap.objs.size ≤ s'.heap.objs.size → Vals ys acc.toList → ys.length ≤ sizeLine → s'.os = sc.os → AllBare s'.gens → Un (frs outer) ex H H' sc.heap s'.heap → HOk P w H' s'.heap → Q ys H' → Q' acc.toList s') :
    wpAny (model P w) A (collect u) Q' E s := by
  obtain ⟨a, g, c, rfl, ha1, ha2, hg, hgs, hos, hb, hl, hkp, wake⟩ := h
  have hSa : s.heap.objs.size ≠ a := Nat.ne_of_gt ha2
  have hcl : cStatics < s.heap.objs.size := let ⟨_, hn, _⟩ := hl; hn.lt
  have hSc : s.heap.objs.size ≠ cStatics := Nat.ne_of_gt hcl
  unfold collect
  refine wpAny_bind (wpAny_runValue (codeAny_builtin F.entry_proto_collect ?_))
  rw [Around.under_plainId F.plain_proto_collect _]
  show wpAny _ A.in1 (newList [] >>= fun l => again (.builtin "list.__iadd__" ⟨[l, .ref a], []⟩)) _ _ s
  refine wpAny_bind (wpAny_newObj_type ?_)
  refine wpAny_pure ⟨plainId_quiet F.plain_list_iadd _, codeAny_builtin F.entry_list_iadd ?_⟩
  rw [Around.under_plainId F.plain_list_iadd _]
  show wpAny _ A.in1 (Builtin.List.listExtendWith (.ref s.heap.objs.size) (.ref a) (.ref s.heap.objs.size)) _ _ _
  unfold Builtin.List.listExtendWith
  have k1 : ∀ b o, s.heap.get? b = some o → (s.heap.push { cls := .type "list", data := .seq ([] : List Value).toArray }).get? b = some o := fun b o e => Heap.get?_push_of_some _ e
  have gty : ∀ {h : Heap}, (∀ b o, s.heap.get? b = some o → h.get? b = some o) → h.IsGen a g := fun {h} q => hg.keeps q
  refine wpAny_bind (wpAny_typeOf (Heap.IsGen.typeIs (s := { s with heap := _ }) (gty k1)) ?_)
  have h1 : Builtin.List.listSameRef (.ref s.heap.objs.size) (.ref a) = false := by simp [Builtin.List.listSameRef, hSa]
  have h2 : (Value.type "generator" == Value.type "list") = false := by decide
  have h3 : (Value.type "generator" == Value.type "tuple") = false := by decide
  simp only [h1, h2, h3, Bool.or_false, Bool.false_eq_true, if_false]
  refine wpAny_bind (wpAny_pyIter_gen (s := { s with heap := _ }) (gty k1) ?_)
  refine wpAny_bind (wpAny_holding ?_)
  unfold Builtin.List.listLengthHint
  refine wpAny_bind (wpAny_specialOf (Heap.IsGen.typeIs (s := { s with heap := _ }) (gty k1)) F.gen_no_len ?_)
  show wpAny _ A.in1 (specialOf (Value.ref a) (Str.ofString "__length_hint__") >>= _) _ _ _
  refine wpAny_bind (wpAny_specialOf (Heap.IsGen.typeIs (s := { s with heap := _ }) (gty k1)) F.gen_no_hint ?_)
  refine wpAny_pure ?_
  show wpAny _ A.in1 (rule "list.extend.makes-room" >>= fun _ => Builtin.List.listTouch (.ref s.heap.objs.size) >>= fun _ =>
    again (.builtin "list.extend.loop" ⟨[.ref s.heap.objs.size, .ref a, .ref s.heap.objs.size], []⟩)) _ _ _
  refine wpAny_bind (wpAny_rule ?_)
  have hS₁ : (s.heap.push { cls := .type "list", data := .seq ([] : List Value).toArray }).get? s.heap.objs.size = some { cls := .type "list", data := .seq ([] : List Value).toArray } := Heap.get?_push_size _ rfl
  refine wpAny_bind ?_
  show wpAny _ A.in1 (updateSeq s.heap.objs.size (·.push .none) >>= fun _ => updateSeq s.heap.objs.size (·.pop)) _ _ _
  refine wpAny_bind (wpAny_updateSeq hS₁ rfl ?_)
  have hS₂ := Heap.get?_update_self (Obj.mapSeq (·.push Value.none)) hS₁ rfl
  refine wpAny_updateSeq hS₂ rfl ?_
  have hS₃ := Heap.get?_update_self (Obj.mapSeq (·.pop)) hS₂ rfl
  have oth : ∀ b o, s.heap.get? b = some o →
      (((s.heap.push { cls := .type "list", data := .seq ([] : List Value).toArray }).update s.heap.objs.size (Obj.mapSeq (·.push Value.none))).update s.heap.objs.size (Obj.mapSeq (·.pop))).get? b = some o :=
    fun b o e => (Heap.get?_update_other _ _ (Ne.symm (Nat.ne_of_lt (Heap.lt_size e)))).trans ((Heap.get?_update_other _ _ (Ne.symm (Nat.ne_of_lt (Heap.lt_size e)))).trans (k1 b o e))
  refine wpAny_pure ⟨plainId_quiet F.plain_extend_loop _, ?_⟩
  refine drain (P := P) (w := w) (outer := outer) (H := H) (sc := sc) (ex := ex) (Q := Q) (EX := E0) (A := A) (g := g) hr.hd (by have := hr.dp; omega) hSa hSc
    (fun s' acc c' H' ys q1 q2 q3 q4 q5 q6 q7 q8 q9 => ?_) (fun e s' hc => ?_)
    sizeLine _ (gty oth) (hl.keeps oth) ⟨_, hgs, rfl, ?_⟩
  · refine wpAny_bind (wpAny_load q1 ?_)
    exact wpAny_pure (hQ s' acc H' ys (Nat.le_of_lt (Heap.lt_size q1)) q2 q3 q4 q5 q6 q7 q9)
  · obtain ⟨_, _, _, _, _, _, _, _, _, _, _, _, q⟩ := hc
    exact q.elim
  refine wake _ _ _ ⟨hr.hd, ?_, ?_⟩ hfr (Nat.le_refl _) oth ⟨_, hS₃⟩ hos (allBare_setGen (s := { s with heap := _ }) hb rfl)
  · have := hr.dp
    show A.depth + 3 * k + 5 < _
    omega
  · have := hr.un
    show A.units + 1 + 1 + 16 * k + 200 < _
    omega
end Kg

/-! tuple(generator expression) -/
namespace Kg
open PySem PySem.Spec PyProof.Rows L2 GenW GxR
open Sem (wp)
open AutoSeq1 (wpAny_loadPart')
section
variable {P : Program} {w : World} {outer : List Env} {H : Hp} {sc s : Shared} {ex : List Addr} {Q : List V → Hp → Prop} {A : Around} {k : Nat} {a : Addr}
theorem tuple_made {Q' : Value → Shared → Prop} {E : Value → Shared → Prop}
    (hr : Room (k + 2) A) (hfr : A.frames = some outer) (h : GMade P w k outer H sc ex Q E0 (.ref a) s)
    (hQ : ∀ (s' : Shared) (acc : Array Value) (H' : Hp) (ys : List V), s.heap.objs.size ≤ s'.heap.objs.size → Vals ys acc.toList → ys.length ≤ sizeLine → s'.os = sc.os → AllBare s'.gens → Un (frs outer) ex H H' sc.heap s'.heap → HOk P w H' s'.heap → Q ys H' →
      Q' (.ref s'.heap.objs.size) { s' with heap := s'.heap.push { cls := .type "tuple", data := .seq acc } }) :
    codeAny (model P w) A (.call (.builtin "tuple.__new__") ⟨[.type "tuple", .ref a], []⟩) (wants Q' E) s := by
  refine codeAny_of_tree ?_
  show wpAny _ A.in1 (do checkBuiltinCall "tuple.__new__" ⟨[.type "tuple", .ref a], []⟩; again (.builtin "tuple.__new__" ⟨[.type "tuple", .ref a], []⟩)) _ _ s
  refine wpAny_bind (wpAny_of_eq (F.newCall_tuple_1 _) (wpAny_pure ⟨plainId_quiet F.plain_tuple_new _, codeAny_builtin F.entry_tuple_new ?_⟩))
  rw [Around.under_plainId F.plain_tuple_new _]
  have hsub := sub_tuple_self
  have hinit := init_tuple_lookup
  have hmh := madeHere_tuple
  have hg : ∃ g, s.heap.IsGen a g := by
    obtain ⟨b, g, c, e, _, _, hg, _⟩ := h
    cases e
    exact ⟨g, hg⟩
  obtain ⟨g, hg⟩ := hg
  have hty : s.TypeIs (.ref a) "generator" := Heap.IsGen.typeIs hg
  have hr2 : Room (k + 1) A.in1 := ⟨hr.hd, by have := hr.dp; show A.depth + 3 * (k + 1) + 5 < _; omega, by have := hr.un; show A.units + 1 + 16 * (k + 1) + 200 < _; omega⟩
  wp_walk using wpAny_typeOf hty, collect_made hr2 hfr h
  intro s' acc H' ys q1 q2 q3 q4 q5 q6 q7 q8
  show wpAny _ _ (Builtin.Tuple.tupleExact acc.toList.toArray >>= fun v => ret v) _ _ _
  have e : acc.toList.toArray = acc := by simp
  rw [e]
  have sz : acc.size ≤ sizeLine := by
    have h1 := q2.length
    have h2 : acc.toList.length = acc.size := Array.length_toList
    omega
  exact wpAny_bind (m := Builtin.Tuple.tupleExact acc) (wpAny_newObj_type (wpAny_pure (hQ s' acc H' ys q1 q2 q3 q4 q5 q6 q7 q8)) sz)
theorem call_tuple_made {Q' : Value → Shared → Prop} {E : Value → Shared → Prop}
    (hr : Room (k + 3) A) (hfr : A.frames = some outer) (h : GMade P w k outer H sc ex Q E0 (.ref a) s)
    (hQ : ∀ (s' : Shared) (acc : Array Value) (H' : Hp) (ys : List V), s.heap.objs.size ≤ s'.heap.objs.size → Vals ys acc.toList → ys.length ≤ sizeLine → s'.os = sc.os → AllBare s'.gens → Un (frs outer) ex H H' sc.heap s'.heap → HOk P w H' s'.heap → Q ys H' →
      Q' (.ref s'.heap.objs.size) { s' with heap := s'.heap.push { cls := .type "tuple", data := .seq acc } }) :
    wpAny (model P w) A (call (.type "tuple") [.ref a]) Q' E s := by
  have hr2 : Room (k + 2) A.in1 := ⟨hr.hd, by have := hr.dp; show A.depth + 3 * (k + 2) + 5 < _; omega, by have := hr.un; show A.units + 1 + 16 * (k + 2) + 200 < _; omega⟩
  refine callType_codes (Q₁ := fun o s1 => s1.TypeIs o "tuple" ∧ Q' o s1) F.called_tuple (F.typeCall_tuple_1 _) F.entry_object_init
    (tuple_made hr2 hfr h fun s' acc H' ys q1 q2 q3 q4 q5 q6 q7 q8 => ⟨⟨_, Heap.get?_push_size _ rfl, rfl⟩, hQ s' acc H' ys q1 q2 q3 q4 q5 q6 q7 q8⟩) fun o s1 h1 => ?_
  exact ⟨h1.1, F.args_object_init_2 o _, object_init_meets F.called_tuple.init.lookup F.called_tuple.made (by decide) P w A.in1 _ s1 ⟨h1.1, rfl, h1.2⟩⟩
end
section
variable {X : Cx} {k : Nat} {p pos : Pos}
def tTupG (tg : TGen) : TE := fun σ H Q => tg σ H fun out H2 => ∀ p, H2 p = none → Q (.ref p) (upd H2 p (.tup out))
/-- tuple(g) -/
theorem pe_tupG {e : Expr} {tg : TGen} {nm : Str} (h : PGen X k e tg E0) (hr : Room (k + 3) X.A) (hg : Gl X nm) (hmg : X.mg nm = none) (hv : bootBuiltins nm = some (.type "tuple")) (hnm : nm ≠ "__name__" := by decide) (hdb : (nm == ("__debug__" : Str)) = false := by decide)
    (he : starEach [e] X.env = (false, eval e X.env) :: starEach [] X.env := by rfl) : PE X (.Call (.Name nm p) [e] [] pos) (tTupG tg) := by
  refine ⟨fun pins s σ H Q I hq => ?_⟩
  refine wpAny_Call_Name_kw (ld_blt I hg hmg hv ?_ hnm hdb)
  refine PyProof.Rows.callWith_type1 ?_ he rfl
  rw [he]
  show wpAny _ _ (spliced ((false, eval e X.env) :: backTo pos (starEach [] X.env))) _ _ s
  refine Calls.spliced_cons (thn (h.run pins s σ H _ I hq) fun u s1 ⟨H1, sc, ex, I1, hex, hG⟩ => ?_)
  refine Calls.spliced_nil ?_
  obtain ⟨b, eb⟩ : ∃ b, u = .ref b := let ⟨a, _, _, e, _⟩ := hG; ⟨a, e⟩
  subst eb
  refine call_tuple_made hr I1.ok.frames hG fun s' acc H' ys q1 q2 q3 q4 q5 q6 q7 q8 => ?_
  have I2 : Inv X pins σ H' s' := I1.call' (ch := ex) q4 q6 q7 q5 hex
  have I3 : Inv X pins σ (upd H' s'.heap.objs.size (.tup ys)) { s' with heap := s'.heap.push { cls := .type "tuple", data := .seq acc } } :=
    I2.laid (t' := s'.toks) (fun b o e => Heap.get?_push_of_some _ e) (Nat.le_refl _) (show ObjOk X.prog X.w _ _ _ (.tup ys) from ⟨q3, acc.toList, q2, by
      have z : acc.toList.toArray = acc := by simp
      rw [z]
      exact IsTup.new _ _⟩)
  exact ⟨.ref s'.heap.objs.size, _, I3, rfl, q8 _ (I2.hok.fresh (Nat.le_refl _))⟩
end
end Kg

/-! a generator expression of two loops, as the argument of tuple(..) -/
namespace Kg
open PySem PySem.Spec PyProof.Rows L2 GenW GxR
open Sem (wp)
theorem compTurn_gx2_out (elt t0 i0 t1 i1 : Expr) (scope : Scope) (pos : Pos) (it acc : Value) (env : Env) :
    compTurn (.GeneratorExp elt [⟨t0, i0, [], 0⟩, ⟨t1, i1, [], 0⟩] scope pos) 0 it acc env = (do
      standAt i0.pos
      match ← pyNext it with
      | none => pure (.done .next)
      | some v =>
        letOwnedTupleGo t0 it v
        assign t0 env v
        let mut ok := true
        for q in ([] : List Expr) do
          if ok then ok ← isTrue q env (eval q env)
        if ok then
          let x ← eval i1 env
          standAt i1.pos
          let x ← foldedSetIterable i1 env x
          let _ ← runOwn (.compStart (.GeneratorExp elt [⟨t0, i0, [], 0⟩, ⟨t1, i1, [], 0⟩] scope pos) 1 (← holding [x] (pyIter x)) acc env) env
        again (.compLoop (.GeneratorExp elt [⟨t0, i0, [], 0⟩, ⟨t1, i1, [], 0⟩] scope pos) 0 it acc env)) := by rfl
theorem compTurn_gx2_in (elt t0 i0 t1 i1 : Expr) (scope : Scope) (pos : Pos) (it acc : Value) (env : Env) :
    compTurn (.GeneratorExp elt [⟨t0, i0, [], 0⟩, ⟨t1, i1, [], 0⟩] scope pos) 1 it acc env = (do
      standAt i1.pos
      match ← pyNext it with
      | none => pure (.done .next)
      | some v =>
        letOwnedTupleGo t1 it v
        assign t1 env v
        let mut ok := true
        for q in ([] : List Expr) do
          if ok then ok ← isTrue q env (eval q env)
        if ok then
          (do let v ← eval elt env; standAt elt.pos; let _ ← yieldOut env v)
        again (.compLoop (.GeneratorExp elt [⟨t0, i0, [], 0⟩, ⟨t1, i1, [], 0⟩] scope pos) 1 it acc env)) := by rfl
theorem over2_start {A : Around} {elt t it t1 it1 : Expr} {scope : Scope} {pos : Pos} {iv acc : Value} {env : Env} : A.over (.compStart (.GeneratorExp elt [⟨t, it, [], 0⟩, ⟨t1, it1, [], 0⟩] scope pos) 0 iv acc env) [] = A.deeper env := by
  first
    | rfl
    | (obtain ⟨hd, d, fr, gs, u⟩ := A; simp [Around.over, Around.deeper, marksOver, frameCount, unitsOf, envsOf, guardsOf, pushEnvs, pushGuards, Code.envs, Code.env?, Code.isFrame, Code.guards, Code.isGuard, Code.weight, Code.frames, Code.isCreation, Code.isCaller, Code.cUnits])
theorem over2_loop {A : Around} {elt t it t1 it1 : Expr} {scope : Scope} {pos : Pos} {iv acc : Value} {env : Env} : A.over (.compLoop (.GeneratorExp elt [⟨t, it, [], 0⟩, ⟨t1, it1, [], 0⟩] scope pos) 0 iv acc env) [] = A.deeper env := by
  first
    | rfl
    | (obtain ⟨hd, d, fr, gs, u⟩ := A; simp [Around.over, Around.deeper, marksOver, frameCount, unitsOf, envsOf, guardsOf, pushEnvs, pushGuards, Code.envs, Code.env?, Code.isFrame, Code.guards, Code.isGuard, Code.weight, Code.frames, Code.isCreation, Code.isCaller, Code.cUnits])
theorem over2_in {A : Around} {elt t it t1 it1 : Expr} {scope : Scope} {pos : Pos} {iv acc iv0 acc0 : Value} {env : Env} {k : Result → Sem PySem.Fin} {g : Bool} {l : List Value} {p : Pos} {kp : List Value} :
    A.over (.compLoop (.GeneratorExp elt [⟨t, it, [], 0⟩, ⟨t1, it1, [], 0⟩] scope pos) 1 iv acc env) [.ret k none g l (.compLoop (.GeneratorExp elt [⟨t, it, [], 0⟩, ⟨t1, it1, [], 0⟩] scope pos) 0 iv0 acc0 env) p kp] = A.deeper env := by
  first
    | rfl
    | (obtain ⟨hd, d, fr, gs, u⟩ := A; simp [Around.over, Around.deeper, marksOver, Frame.marks, markOver, Frame.where_, frameCount, unitsOf, envsOf, guardsOf, pushEnvs, pushGuards, Code.envs, Code.env?, Code.isFrame, Code.guards, Code.isGuard, Code.weight, Code.frames, Code.isCreation, Code.isCaller, Code.cUnits])
theorem over2_instart {A : Around} {elt t it t1 it1 : Expr} {scope : Scope} {pos : Pos} {iv acc iv0 acc0 : Value} {env : Env} {k : Result → Sem PySem.Fin} {g : Bool} {l : List Value} {p : Pos} {kp : List Value} :
    A.over (.compStart (.GeneratorExp elt [⟨t, it, [], 0⟩, ⟨t1, it1, [], 0⟩] scope pos) 1 iv acc env) [.ret k none g l (.compLoop (.GeneratorExp elt [⟨t, it, [], 0⟩, ⟨t1, it1, [], 0⟩] scope pos) 0 iv0 acc0 env) p kp] = A.deeper env := by
  first
    | rfl
    | (obtain ⟨hd, d, fr, gs, u⟩ := A; simp [Around.over, Around.deeper, marksOver, Frame.marks, markOver, Frame.where_, frameCount, unitsOf, envsOf, guardsOf, pushEnvs, pushGuards, Code.envs, Code.env?, Code.isFrame, Code.guards, Code.isGuard, Code.weight, Code.frames, Code.isCreation, Code.isCaller, Code.cUnits])
/-- the turns of two loops -/
def TurnsZ (J : It) (σ0 : L2.St) (vs vs1 : List Nat) (g : TG) (wi1 : TI) (g1 : TG) (te : TE) (Q : List V → Hp → Prop) (W : Nat → Nat → List V → Hp → Prop) : Prop :=
  ∀ i m ys H, W i m ys H → (J.stop i H ∧ Q ys H) ∨ (J.go i H ∧ ∃ Nx : List V → Hp → Prop, (∀ ys' H', Nx ys' H' → ∃ m', m' < m ∧ W (i + 1) m' ys' H') ∧ ∀ x H', J.yld i H x H' → g x σ0 H' fun σ2 H2 => wipe σ2 vs = σ0 ∧
    wi1 σ2 H2 fun J1 H4 => ∃ W1 : Nat → Nat → List V → Hp → Prop, (∃ m, W1 0 m ys H4) ∧ TurnsY J1 (wipe σ2 vs1) vs1 g1 te Nx W1)
section
variable {X : Cx} {A : Around} {N : List Str} {s4 : Shared} {H0 : Hp} {cenv : Env} {fp : List Addr} {tg iter tg1 iter1 elt : Expr} {scope : Scope} {pos : Pos} {it a S : Addr} {gi : Nat} {go : Obj} {Q : List V → Hp → Prop} {EX : XK}
/-- the inner loop -/
theorem gz_in {ip : List (Addr × Obj)} {fp1 : List Addr} {it1 : Addr} {J1 : It} {tn1 : Nat → Heap → Prop} {σ1 : L2.St} {vs1 : List Nat} {g1 : TG} {te : TE} {Nx : List V → Hp → Prop} {W1 : Nat → Nat → List V → Hp → Prop}
    {kF : Result → Sem PySem.Fin} {lF : List Value} {pF : Pos} {kpF : List Value}
    (hco : cenv.scope.isCoroutine = false) (T : Turn X.prog X.w X.K tg1 J1 fp1 it1 tn1) (hip : ∀ p ∈ ip, p.1 ≠ S) (haip : (a, go) ∈ ip) (hA : Apart (gcx X A N s4 H0 cenv fp) S) (hgen : ∀ h : Heap, h.get? a = some go → h.IsGen a gi)
    (hSf : S ∉ fp1) (f1 : ∀ b ∈ fp1, ∀ (H : Hp) (pl : List (Addr × Obj)), (∀ p ∈ pl, p ∈ ip ∨ p.1 = S) → H b = none → FpOk (gcx X A N s4 H0 cenv fp) pl H b)
    (pg : PG (gcx X A N s4 H0 cenv fp) tg1 g1) (pe : PE (gcx X A N s4 H0 cenv fp) elt te) (turn : TurnsY J1 σ1 vs1 g1 te Nx W1)
    (back : ∀ (n : Nat) (ys : List V) (H : Hp) (s₀ s : Shared), n + ys.length = sizeLine → GI (gcx X A N s4 H0 cenv fp) S ip ys σ1 H s → Nx ys H →
      Seg (model X.prog X.w) A (REnd X.prog X.w X.stack H0 s4 fp S a gi Q EX) (YItem s4 S a gi) n s₀ (.compLoop (.GeneratorExp elt [⟨tg, iter, [], 0⟩, ⟨tg1, iter1, [], 0⟩] scope pos) 0 (.ref it) .none cenv) (kF (.ok .next)) [] s) :
    ∀ (m n i : Nat) (ys : List V) (H : Hp) (s₀ s : Shared), n + ys.length = sizeLine → W1 i m ys H → GI (gcx X A N s4 H0 cenv fp) S ip ys σ1 H s → tn1 i s.heap → (∀ b ∈ fp1, H b = none) →
      Seg (model X.prog X.w) A (REnd X.prog X.w X.stack H0 s4 fp S a gi Q EX) (YItem s4 S a gi) n s₀ (.compLoop (.GeneratorExp elt [⟨tg, iter, [], 0⟩, ⟨tg1, iter1, [], 0⟩] scope pos) 1 (.ref it1) .none cenv)
        ((model X.prog X.w).den (.compLoop (.GeneratorExp elt [⟨tg, iter, [], 0⟩, ⟨tg1, iter1, [], 0⟩] scope pos) 1 (.ref it1) .none cenv))
        [.ret kF none false lF (.compLoop (.GeneratorExp elt [⟨tg, iter, [], 0⟩, ⟨tg1, iter1, [], 0⟩] scope pos) 0 (.ref it) .none cenv) pF kpF] s := by
  have stat : ∀ {acc : Array Value} {cc : Nat} {H' : Hp}, (∀ b ∈ fp1, H' b = none) → ∀ b ∈ fp1, FpOk (gcx X A N s4 H0 cenv fp) ((S, lstObj acc cc) :: ip) H' b := fun {acc cc H'} hn b hb =>
    f1 b hb H' _ (fun p hp => by
      rcases List.mem_cons.mp hp with hp | hp
      · exact .inr (by rw [hp])
      · exact .inl hp) (hn b hb)
  have hy : ∀ v, yieldOut cenv v = yieldValue v := fun v => by simp only [yieldOut, hco, Bool.false_eq_true, if_false]
  intro m
  induction m using Nat.strongRecOn with
  | ind m ih =>
    intro n i ys H s₀ s hmn hW hI hst hn
    obtain ⟨acc, cc, rys, I⟩ := hI
    show Seg _ A _ _ _ s₀ _ ((compTurn (.GeneratorExp elt [⟨tg, iter, [], 0⟩, ⟨tg1, iter1, [], 0⟩] scope pos) 1 (.ref it1) .none cenv).onRaise (fun x => do noteFrame x cenv; theTreesLotGoes x)) _ s
    rw [compTurn_gx2_in, Sem.onRaise_eq_wrap]
    refine seg_bind_wrap (wpAny_standAt ?_)
    rcases turn i m ys H hW with ⟨stop, qq⟩ | ⟨hgo, hlt, Nx1, hNx, step⟩
    · refine seg_bind_wrap ?_
      rw [over2_in]
      refine thn (T.done (gcx X A N s4 H0 cenv fp) rfl rfl rfl rfl i ((S, lstObj acc cc) :: ip) s _ H _ I (stat hn) hst stop) fun r s6 ⟨hr, I6⟩ => ?_
      subst hr
      exact seg_leaf (.ok .next) (back n ys H s₀ s6 hmn ⟨acc, cc, rys, I6⟩ qq)
    · obtain ⟨n, rfl⟩ : ∃ k, n = k + 1 := ⟨n - 1, by omega⟩
      refine seg_bind_wrap ?_
      rw [over2_in]
      refine thn (T.item (gcx X A N s4 H0 cenv fp) rfl rfl rfl rfl i ((S, lstObj acc cc) :: ip) s _ H _ I (stat hn) hst hgo) fun r s6 ⟨u, hr, h6⟩ => ?_
      subst hr
      refine seg_bind_wrap ?_
      rw [over2_in]
      refine thn h6 fun _ s7 ⟨x, H7, I7, r7, y7, st7, n7⟩ => ?_
      have I7' := I7.pinned (stat n7) (T.obj _ _ st7)
      refine seg_bind_wrap ?_
      rw [over2_in]
      refine wpAny_mono (pg.run _ s7 _ H7 x u _ I7' r7 (step x H7 y7)) (fun _ s8 ⟨σ8, H8, I8, hw8, q8⟩ => ?_) fun _ _ e => e.elim
      have fin : ∀ {s' : Shared} {H' : Hp}, Inv (gcx X A N s4 H0 cenv fp) (((S, lstObj acc cc) :: ip) ++ pinsAt fp1 s7.heap) σ8 H' s' → Inv (gcx X A N s4 H0 cenv fp) ((S, lstObj acc cc) :: ip) σ1 H' s' ∧ tn1 (i + 1) s'.heap ∧ ∀ b ∈ fp1, H' b = none := fun {s' H'} I' => by
        have pin' : ∀ b ∈ fp1, ∀ o, s7.heap.get? b = some o → s'.heap.get? b = some o ∧ H' b = none := fun b hb o e =>
          let z := I'.pin (b, o) (List.mem_append_right _ (List.mem_append_right _ (mem_pinsAt hb e)))
          ⟨z.1, z.2.1⟩
        have hl : σ1.length = σ8.length := by rw [← hw8, wipe_length]
        refine ⟨(I'.unpinned (pins := (S, lstObj acc cc) :: ip)).weak hl (fun j v e => ?_), T.keep _ _ _ st7 fun b hb o e => (pin' b hb o e).1, fun b hb => ?_⟩
        · rw [← hw8] at e
          exact (wipe_some e).1
        · obtain ⟨o, e, _⟩ := T.obj _ _ st7 b hb
          exact (pin' b hb o e).2
      simp only [List.forIn_nil]
      refine seg_bind_wrap (wpAny_pure ?_)
      simp only [if_true]
      simp only [hy]
      rw [Sem.bind_eq_wrap', Sem.bind_eq_wrap', Sem.wrap_wrap, Sem.wrap_wrap]
      refine seg_wrap ?_
      rw [over2_in]
      refine wpAny_mono (pe.run _ s8 σ8 H8 _ I8 q8) (fun v s10 ⟨y, H10, I10, r10, nx⟩ => ?_) fun _ _ e => e.elim
      obtain ⟨m', hm', w'⟩ := hNx y H10 nx
      obtain ⟨K1, K2, K3⟩ := fin I10
      have hga : s10.heap.IsGen a gi := hgen _ (K1.pin (a, go) (List.mem_append_right _ (List.mem_cons_of_mem _ haip))).1
      have hS10 := (K1.pin (S, lstObj acc cc) (List.mem_append_right _ List.mem_cons_self)).1
      have hsz : acc.size = ys.length := by
        have e1 := rys.length
        have e2 : acc.toList.length = acc.size := by simp
        omega
      refine seg_at (seg_yield rfl rfl rfl ⟨K1.os, K1.bare, K1.nolimit, hga, ⟨acc, cc, hS10, by rw [hsz]; exact hmn⟩, fun s'' z => ?_⟩)
      have G1 : GI (gcx X A N s4 H0 cenv fp) S ip ys σ1 H10 s10 := ⟨acc, cc, rys, K1⟩
      have G2 := G1.woken (fun p hp => absurd (show p ∈ ([] : List (Addr × Obj)) from hp) (by simp)) hip hA r10 z
      refine seg_again rfl (ih m' hm' n (i + 1) (ys ++ [y]) H10 s'' s'' (by rw [List.length_append, List.length_singleton]; omega) w' G2 (T.keep _ _ _ K2 fun b hb o e => z.keep b o (fun q => hSf (by rw [← q]; exact hb)) e) K3)
/-- the outer loop -/
theorem gz_loop {J : It} {tn : Nat → Heap → Prop} {σ0 : L2.St} {vs vs1 : List Nat} {g g1 : TG} {wi1 : TI} {te : TE} {W : Nat → Nat → List V → Hp → Prop} (hh : A.handled = none) (hco : cenv.scope.isCoroutine = false) (T : Turn X.prog X.w X.K tg J fp it tn) (haf : a ∉ fp) (hSf : S ∉ fp) (haS : a ≠ S) (hA : Apart (gcx X A N s4 H0 cenv fp) S) (hgen : ∀ h : Heap, h.get? a = some go → h.IsGen a gi)
    (hv : ∀ (σ2 : L2.St), wipe σ2 vs = σ0 → ∀ (j : Nat) v, σ0[j]? = some (some v) → (wipe σ2 vs1)[j]? = some (some v))
    (pg : PG (gcx X A N s4 H0 cenv fp) tg g) (pi1 : PI (gcx X A N s4 H0 cenv fp) tg1 iter1 wi1) (pg1 : PG (gcx X A N s4 H0 cenv fp) tg1 g1) (pe : PE (gcx X A N s4 H0 cenv fp) elt te) (hs1 : ∀ x, foldedSetIterable iter1 cenv x = pure x) (turn : TurnsZ J σ0 vs vs1 g wi1 g1 te Q W) :
    ∀ (m n i : Nat) (ys : List V) (H : Hp) (s₀ s : Shared), n + ys.length = sizeLine → W i m ys H → GI (gcx X A N s4 H0 cenv fp) S [(a, go)] ys σ0 H s → tn i s.heap → (∀ b ∈ fp, H b = none) →
      Seg (model X.prog X.w) A (REnd X.prog X.w X.stack H0 s4 fp S a gi Q EX) (YItem s4 S a gi) n s₀ (.compLoop (.GeneratorExp elt [⟨tg, iter, [], 0⟩, ⟨tg1, iter1, [], 0⟩] scope pos) 0 (.ref it) .none cenv)
        ((model X.prog X.w).den (.compLoop (.GeneratorExp elt [⟨tg, iter, [], 0⟩, ⟨tg1, iter1, [], 0⟩] scope pos) 0 (.ref it) .none cenv)) [] s := by
  have stat : ∀ {acc : Array Value} {cc : Nat} {σ' : L2.St} {H' : Hp} {s' : Shared}, Inv (gcx X A N s4 H0 cenv fp) [(S, lstObj acc cc), (a, go)] σ' H' s' → (∀ b ∈ fp, H' b = none) → ∀ b ∈ fp, FpOk (gcx X A N s4 H0 cenv fp) [(S, lstObj acc cc), (a, go)] H' b := fun {acc cc σ' H' s'} I' hn b hb =>
    ⟨hn b hb, (I'.ok.exf b hb).1, I'.ok.exfs b hb, .inl hb, fun x c e => (I'.ok.exf b hb).2 x c e, fun p hp z => by
      have hp : p ∈ [(S, lstObj acc cc), (a, go)] := hp
      rcases List.mem_cons.mp hp with hp | hp
      · rw [hp] at z
        have z : S = b := z
        exact hSf (by rw [z]; exact hb)
      · rw [List.mem_singleton.mp hp] at z
        have z : a = b := z
        exact haf (by rw [z]; exact hb)⟩
  intro m
  induction m using Nat.strongRecOn with
  | ind m ih =>
    intro n i ys H s₀ s hmn hW hI hst hn
    obtain ⟨acc, cc, rys, I⟩ := hI
    show Seg _ A _ _ _ s₀ _ ((compTurn (.GeneratorExp elt [⟨tg, iter, [], 0⟩, ⟨tg1, iter1, [], 0⟩] scope pos) 0 (.ref it) .none cenv).onRaise (leaving cenv)) [] s
    rw [compTurn_gx2_out, Sem.onRaise_eq_wrap]
    refine seg_bind_wrap (wpAny_standAt ?_)
    rcases turn i m ys H hW with ⟨stop, qq⟩ | ⟨hgo, Nx, hNx, step⟩
    · refine seg_bind_wrap ?_
      rw [over2_loop]
      refine thn (T.done (gcx X A N s4 H0 cenv fp) rfl rfl rfl rfl i [(S, lstObj acc cc), (a, go)] s _ H _ I (stat I hn) hst stop) fun r s6 ⟨hr, I6⟩ => ?_
      subst hr
      have p6 := I6.pin (S, lstObj acc cc) (List.mem_append_right _ List.mem_cons_self)
      exact seg_end (.ok .next) (.inl ⟨.inr rfl, H, ys, acc, cc, I6.os, I6.bare, I6.base, I6.hok, p6.2.1, p6.1, rys, by omega, qq⟩)
    · refine seg_bind_wrap ?_
      rw [over2_loop]
      refine thn (T.item (gcx X A N s4 H0 cenv fp) rfl rfl rfl rfl i [(S, lstObj acc cc), (a, go)] s _ H _ I (stat I hn) hst hgo) fun r s6 ⟨u, hr, h6⟩ => ?_
      subst hr
      refine seg_bind_wrap ?_
      rw [over2_loop]
      refine thn h6 fun _ s7 ⟨x, H7, I7, r7, y7, st7, n7⟩ => ?_
      have I7' := I7.pinned (stat I7 n7) (T.obj _ _ st7)
      refine seg_bind_wrap ?_
      rw [over2_loop]
      refine wpAny_mono (pg.run _ s7 _ H7 x u _ I7' r7 (step x H7 y7)) (fun _ s8 ⟨σ8, H8, I8, hw8, q8⟩ => ?_) fun _ _ e => e.elim
      simp only [List.forIn_nil]
      refine seg_bind_wrap (wpAny_pure ?_)
      simp only [if_true]
      refine seg_bind_wrap ?_
      rw [over2_loop]
      refine wpAny_mono (pi1.run _ s8 σ8 H8 _ I8 q8) (fun xv s9 hx => ?_) fun _ _ e => e.elim
      refine seg_bind_wrap (wpAny_standAt ?_)
      refine seg_bind_wrap (wpAny_of_eq (hs1 xv) ?_)
      refine seg_bind_wrap ?_
      rw [over2_loop]
      refine wpAny_holding (wpAny_mono hx (fun itv s11 h11 => ?_) fun _ _ e => e.elim)
      obtain ⟨it1, fp1, tn1, J1, H11, e1, I11, T1, st11, f11, W1, ⟨m1, w1⟩, turn1⟩ := h11
      subst e1
      refine seg_call fun pF => ?_
      have hl8 : (wipe σ8 vs1).length = σ8.length := wipe_length _ _
      have I12 := I11.weak hl8 (fun j v e => (wipe_some e).1)
      have G0 : GI (gcx X A N s4 H0 cenv fp) S ([(a, go)] ++ pinsAt fp s7.heap) ys (wipe σ8 vs1) H11 s11 := ⟨acc, cc, rys, I12⟩
      have back : ∀ (n : Nat) (ys : List V) (H : Hp) (s₀ s : Shared), n + ys.length = sizeLine → GI (gcx X A N s4 H0 cenv fp) S ([(a, go)] ++ pinsAt fp s7.heap) ys (wipe σ8 vs1) H s → Nx ys H →
          Seg (model X.prog X.w) A (REnd X.prog X.w X.stack H0 s4 fp S a gi Q EX) (YItem s4 S a gi) n s₀ (.compLoop (.GeneratorExp elt [⟨tg, iter, [], 0⟩, ⟨tg1, iter1, [], 0⟩] scope pos) 0 (.ref it) .none cenv) (.pure (.again (.compLoop (.GeneratorExp elt [⟨tg, iter, [], 0⟩, ⟨tg1, iter1, [], 0⟩] scope pos) 0 (.ref it) .none cenv))) [] s := by
        intro n ys' H' s₀ s' hn' ⟨acc', cc', rys', I'⟩ nx
        obtain ⟨m', hm', w'⟩ := hNx ys' H' nx
        have pin' : ∀ b ∈ fp, ∀ o, s7.heap.get? b = some o → s'.heap.get? b = some o ∧ H' b = none := fun b hb o e =>
          let z := I'.pin (b, o) (List.mem_append_right _ (List.mem_cons_of_mem _ (List.mem_append_right _ (mem_pinsAt hb e))))
          ⟨z.1, z.2.1⟩
        have hl : σ0.length = (wipe σ8 vs1).length := by rw [← hw8, wipe_length, wipe_length]
        refine seg_again rfl (ih m' hm' n (i + 1) ys' H' s₀ s' hn' w' ⟨acc', cc', rys', ?_⟩ (T.keep _ _ _ st7 fun b hb o e => (pin' b hb o e).1) fun b hb => ?_)
        · exact (I'.unpinned (pins := [(S, lstObj acc' cc'), (a, go)]) (pl := pinsAt fp s7.heap)).weak hl (hv σ8 hw8)
        · obtain ⟨o, e, _⟩ := T.obj _ _ st7 b hb
          exact (pin' b hb o e).2
      have hip : ∀ p ∈ [(a, go)] ++ pinsAt fp s7.heap, p.1 ≠ S := fun p hp => by
        rcases List.mem_append.mp hp with hp | hp
        · rw [List.mem_singleton.mp hp]
          exact haS
        · exact fun z => hSf (by rw [← z]; exact (of_pinsAt hp).1)
      have f1 : ∀ b ∈ fp1, ∀ (H : Hp) (pl : List (Addr × Obj)), (∀ p ∈ pl, p ∈ [(a, go)] ++ pinsAt fp s7.heap ∨ p.1 = S) → H b = none → FpOk (gcx X A N s4 H0 cenv fp) pl H b := fun b hb H' pl hpl hn' => by
        obtain ⟨_, g1, g2, g3, g4, g5⟩ := f11 b hb
        refine ⟨hn', g1, g2, g3, g4, fun p hp z => ?_⟩
        have hp : p ∈ pl := hp
        rcases hpl p hp with q | q
        · exact g5 p (List.mem_append_right _ (List.mem_cons_of_mem _ q)) z
        · refine g5 (S, lstObj acc cc) (List.mem_append_right _ List.mem_cons_self) ?_
          show S = b
          rw [← q, z]
      have hSf1 : S ∉ fp1 := fun z => by
        obtain ⟨_, _, _, _, _, g5⟩ := f11 S z
        exact g5 (S, lstObj acc cc) (List.mem_append_right _ List.mem_cons_self) rfl
      show Seg _ A _ _ _ s₀ _ ((compStart (.GeneratorExp elt [⟨tg, iter, [], 0⟩, ⟨tg1, iter1, [], 0⟩] scope pos) 1 (.ref it1) .none cenv).onRaise (fun x => do noteFrame x cenv; standAt theWindowsPlace)) _ s11
      unfold compStart
      rw [Sem.onRaise_eq_wrap]
      show Seg _ A _ _ _ s₀ _ ((ask >>= _).wrap _ _ _ _) _ s11
      refine seg_bind_wrap (wpAny_askSetting ?_)
      split
      · exact seg_again rfl (gz_in (X := X) (A := A) (N := N) (s4 := s4) (H0 := H0) (cenv := cenv) (fp := fp) (tg := tg) (iter := iter) (tg1 := tg1) (iter1 := iter1) (Q := Q) (EX := EX) hco T1 hip (List.mem_append_left _ (List.mem_singleton.mpr rfl)) hA hgen hSf1 f1 pg1 pe turn1 back m1 n 0 ys H11 s₀ s11 hmn w1 G0 st11 (fun b hb => (f11 b hb).1))
      · refine seg_bind_wrap (wpAny_rule ?_)
        refine seg_bind_wrap (wpAny_standAt ?_)
        exact seg_bind_wrap (T1.self _ 0 s11 _ _ st11 (seg_again rfl (gz_in (X := X) (A := A) (N := N) (s4 := s4) (H0 := H0) (cenv := cenv) (fp := fp) (tg := tg) (iter := iter) (tg1 := tg1) (iter1 := iter1) (Q := Q) (EX := EX) hco T1 hip (List.mem_append_left _ (List.mem_singleton.mpr rfl)) hA hgen hSf1 f1 pg1 pe turn1 back m1 n 0 ys H11 s₀ s11 hmn w1 G0 st11 (fun b hb => (f11 b hb).1))))
theorem gz_begin {J : It} {tn : Nat → Heap → Prop} {σ0 : L2.St} {vs vs1 : List Nat} {g g1 : TG} {wi1 : TI} {te : TE} {W : Nat → Nat → List V → Hp → Prop} (hh : A.handled = none) (hco : cenv.scope.isCoroutine = false) (T : Turn X.prog X.w X.K tg J fp it tn) (haf : a ∉ fp) (hSf : S ∉ fp) (haS : a ≠ S) (hA : Apart (gcx X A N s4 H0 cenv fp) S) (hgen : ∀ h : Heap, h.get? a = some go → h.IsGen a gi)
    (hv : ∀ (σ2 : L2.St), wipe σ2 vs = σ0 → ∀ (j : Nat) v, σ0[j]? = some (some v) → (wipe σ2 vs1)[j]? = some (some v)) (pg : PG (gcx X A N s4 H0 cenv fp) tg g) (pi1 : PI (gcx X A N s4 H0 cenv fp) tg1 iter1 wi1) (pg1 : PG (gcx X A N s4 H0 cenv fp) tg1 g1) (pe : PE (gcx X A N s4 H0 cenv fp) elt te) (hs1 : ∀ x, foldedSetIterable iter1 cenv x = pure x) (turn : TurnsZ J σ0 vs vs1 g wi1 g1 te Q W) {m : Nat} {H : Hp} {s : Shared} (w0 : W 0 m [] H) (hI : GI (gcx X A N s4 H0 cenv fp) S [(a, go)] [] σ0 H s) (hst : tn 0 s.heap) (hn : ∀ b ∈ fp, H b = none) :
    Seg (model X.prog X.w) A (REnd X.prog X.w X.stack H0 s4 fp S a gi Q EX) (YItem s4 S a gi) sizeLine s (.compStart (.GeneratorExp elt [⟨tg, iter, [], 0⟩, ⟨tg1, iter1, [], 0⟩] scope pos) 0 (.ref it) .none cenv)
      ((model X.prog X.w).den (.compStart (.GeneratorExp elt [⟨tg, iter, [], 0⟩, ⟨tg1, iter1, [], 0⟩] scope pos) 0 (.ref it) .none cenv)) [] s := by
  have loop := gz_loop (iter := iter) (iter1 := iter1) (scope := scope) (pos := pos) (EX := EX) hh hco T haf hSf haS hA hgen hv pg pi1 pg1 pe hs1 turn m sizeLine 0 [] H s s rfl w0 hI hst hn
  show Seg _ A _ _ _ s _ ((compStart (.GeneratorExp elt [⟨tg, iter, [], 0⟩, ⟨tg1, iter1, [], 0⟩] scope pos) 0 (.ref it) .none cenv).onRaise (leaving cenv)) [] s
  unfold compStart
  rw [Sem.onRaise_eq_wrap]
  show Seg _ A _ _ _ s _ ((ask >>= _).wrap _ _ _ _) [] s
  refine seg_bind_wrap (wpAny_askSetting ?_)
  split
  · exact seg_again rfl loop
  · first
      | exact seg_bind_wrap (wpAny_rule (seg_bind_wrap (wpAny_standAt (seg_bind_wrap (T.self _ 0 s _ _ hst (seg_again rfl loop))))))
      | (refine seg_bind_wrap (wpAny_rule ?_); show Seg _ A _ _ _ s _ ((standAt iter.pos >>= _).wrap _ _ _ _) [] s; exact seg_bind_wrap (wpAny_standAt (seg_bind_wrap (T.self _ 0 s _ _ hst (seg_again rfl loop)))))
end
/-- the making of such a generator -/
theorem eval_gx2 (elt t0 i0 t1 i1 : Expr) (sc : Scope) (ps : Pos) (env : Env) (hco : sc.isCoroutine = false) : eval (.GeneratorExp elt [⟨t0, i0, [], 0⟩, ⟨t1, i1, [], 0⟩] sc ps) env =
    (do let u ← eval i0 env; standAt i0.pos; let u ← genFold i0 env u; let j ← holding [u] (pyIter u); enterFrame; let cl ← closureFor sc env; let cd ← genexprCode env ps (env.qual ++ "<genexpr>") sc; let bi ← builtinsFor env.globals env.builtins; let ce ← newFunctionEnv sc env.globals cl [(".0", j)] (env.qual ++ "<genexpr>.") none cd none bi; newGenerator (.compStart (.GeneratorExp elt [⟨t0, i0, [], 0⟩, ⟨t1, i1, [], 0⟩] sc ps) 0 j .none ce) "<genexpr>" (env.qual ++ "<genexpr>")) := by
  rw [arm_eval_GeneratorExp]
  simp only [hco, Bool.false_eq_true, if_false]
  cases i0 <;> rfl
theorem gx2_make {M : Model} {A : Around} {E : Value → Shared → Prop} {s : Shared} {env : Env} {elt t0 i0 t1 i1 : Expr} {sc : Scope} {cl : List (Str × Addr)} {ps : Pos} {Q : Value → Shared → Prop}
    (hco : sc.isCoroutine = false) (hclos : closureFor sc env = pure cl) (hcell : ∀ y ∈ sc.names, y.2 ≠ .cell) (h0 : sc.names.lookup (".0" : Str) = some NameKind.local) (hkind : sc.kind = .function) (hd : A.depth < recursionLimit)
    (h : wpAny M A (eval i0 env) (fun u s₁ => wpAny M A (pyIter u) (fun j s₂ => s₂.heap.NoLimit ∧ wpAny M A (genexprCode env ps (env.qual ++ "<genexpr>") sc) (fun cd s₃ => wpAny M A (builtinsFor env.globals env.builtins) (fun bi s₄ =>
        ∀ hp, hp.Ns s₄.heap.objs.size (fun y => if y = ".0" then some j else none) → Heap.SameBut s₄.heap.objs.size (s₄.heap.push { cls := .type "frame", data := .dict #[] }) hp →
          Q (.ref hp.objs.size) { s₄ with gens := s₄.gens.push (.fresh (.compStart (.GeneratorExp elt [⟨t0, i0, [], 0⟩, ⟨t1, i1, [], 0⟩] sc ps) 0 j .none (genEnv sc cl s₄.heap.objs.size cd bi env))), toks := s₄.toks + 1 + 1 + 1, heap := hp.push { cls := .type "generator", data := .fields #[.int s₄.gens.size 0, .str "<genexpr>" (s₄.toks + 1), .str (env.qual ++ "<genexpr>") (s₄.toks + 1 + 1)] } }) E s₃) E s₂) E s₁) E s)
    (hs : ∀ u, genFold i0 env u = pure u) : wpAny M A (eval (.GeneratorExp elt [⟨t0, i0, [], 0⟩, ⟨t1, i1, [], 0⟩] sc ps) env) Q E s := by
  rw [eval_gx2 _ _ _ _ _ _ _ _ hco, hclos]
  refine wpAny_bind (wpAny_mono h (fun u s₁ q1 => wpAny_bind (wpAny_standAt (wpAny_bind (wpAny_of_eq (hs u) (wpAny_bind (wpAny_holding (wpAny_mono q1 (fun j s₂ q2 => ?_) fun _ _ e => e))))))) fun _ _ e => e)
  refine wpAny_bind (wpAny_enterFrame q2.1 hd (wpAny_bind (wpAny_pure ?_)))
  refine wpAny_bind (wpAny_mono q2.2 (fun cd s₃ q3 => wpAny_bind (wpAny_mono q3 (fun bi s₄ q4 => ?_) fun _ _ e => e)) fun _ _ e => e)
  have bnd : ∀ y ∈ ([((".0" : Str), j)] : List (Str × Value)), sc.names.lookup y.1 = some NameKind.local := fun y hy => by
    rw [List.mem_singleton.mp hy]
    exact h0
  refine wpAny_bind (wpAny_newFunctionEnv hcell bnd (fun hp hn hb => ?_) hkind)
  have e : (fun y : Str => ([((".0" : Str), j)] : List (Str × Value)).reverse.lookup y) = fun y : Str => if y = (".0" : Str) then some j else none := funext fun y => by
    by_cases hy : y = ".0"
    · subst hy
      simp
    · have z : (y == (".0" : Str)) = false := beq_eq_false_iff_ne.mpr hy
      simp [List.lookup, z, hy]
  rw [e] at hn
  simp only [newGenerator, newFields]
  exact wpAny_bind (wpAny_newGen (wpAny_bind (wpAny_mkText (wpAny_bind (wpAny_mkText (wpAny_newObj_type (q4 hp hn hb) (by size_fits)))))))
section
variable {X : Cx}
def tGx2 (P : Addr) (wi : TI) (own : List Str) (caps : List (Str × Nat)) (vs vs1 : List Nat) (g : TG) (wi1 : TI) (g1 : TG) (te : TE) : TGen := fun σ H cont => wi σ H fun J H1 => TabG H1 P ∧ ∀ H2, Tabbed P H1 H2 → ∃ W : Nat → Nat → List V → Hp → Prop, (∃ m, W 0 m [] H2) ∧ TurnsZ J (gxSt own caps σ) vs vs1 g wi1 g1 te cont W
/-- a generator expression -/
theorem pgen_gx2 {c P : Addr} {elt tg iter tg1 iter1 : Expr} {gpos : Pos} {scope : Scope} {own : List Str} {caps : List (Str × Nat)} {vs vs1 : List Nat} {wi wi1 : TI} {g g1 : TG} {te : TE} {k : Nat} {E : XK}
    (hr : Room k X.A) (TB : TabB X.base X.mg c P) (hcode : X.env.code = .ref c) (S : GxS X.N X.env.scope scope own caps) (hi : PI X tg iter wi)
    (pg : ∀ (A : Around) (s : Shared) (H : Hp) (C : Addr) (cd : Value) (fp : List Addr), Room k A → PG (gcx X A (gxN own caps) s H (gxEnv X scope C cd) fp) tg g)
    (pe : ∀ (A : Around) (s : Shared) (H : Hp) (C : Addr) (cd : Value) (fp : List Addr), Room k A → PE (gcx X A (gxN own caps) s H (gxEnv X scope C cd) fp) elt te)
    (pi1 : ∀ (A : Around) (s : Shared) (H : Hp) (C : Addr) (cd : Value) (fp : List Addr), Room k A → PI (gcx X A (gxN own caps) s H (gxEnv X scope C cd) fp) tg1 iter1 wi1)
    (pg1 : ∀ (A : Around) (s : Shared) (H : Hp) (C : Addr) (cd : Value) (fp : List Addr), Room k A → PG (gcx X A (gxN own caps) s H (gxEnv X scope C cd) fp) tg1 g1)
    (hv : ∀ i ∈ vs1, i ∈ vs)
    (hs : ∀ v, genFold iter X.env v = pure v := by intro _; rfl) (hs1 : ∀ env x, foldedSetIterable iter1 env x = pure x := by intro _ _; rfl) :
    PGen X k (.GeneratorExp elt [⟨tg, iter, [], 0⟩, ⟨tg1, iter1, [], 0⟩] scope gpos) (tGx2 P wi own caps vs vs1 g wi1 g1 te) E := by
  refine ⟨fun pins s σ H Q I h => ?_⟩
  have hfree : ∀ y ∈ scope.names, y.2 = .free → ∃ c, X.env.cells.lookup y.1 = some c := fun y hy e => by
    rcases S.free y hy e with k | k
    · exact I.ok.has _ (.inl k)
    · exact I.ok.has _ (.inr k)
  refine gx2_make S.co (closure_ok hfree) S.cell S.dot S.kind (by have := hr.dp; omega) ?_ hs
  refine thn (hi.run pins s σ H _ I h) fun xv s1 hx => thn hx fun itv s2 h2 => ?_
  obtain ⟨it, fp, tn, J, H1, rfl, I2, T, st2, f2, ⟨ps, hP, ht⟩, q⟩ := h2
  refine ⟨I2.nolimit, ?_⟩
  have hPs : s2.heap.get? P = some { cls := .none, data := .fields ps } := I2.hok P _ hP
  have cd : PySem.W.CodeHd s2.heap c P := TB.code.keeps I2.bk
  have sz2 : ∀ b ∈ fp, b < s2.heap.objs.size := fun b hb => by
    obtain ⟨o, e, _⟩ := T.obj _ _ st2 b hb
    exact Heap.lt_size e
  have cont : ∀ (code : Value) (h3 : Heap) (tk : Nat) (ps' more : Array Value), Heap.ExtBut P s2.heap h3 → s2.heap.objs.size ≤ h3.objs.size → h3.get? P = some { cls := .none, data := .fields ps' } → ps' = ps ++ more → TriplesOk ps'.toList →
      wpAny (model X.prog X.w) X.A (builtinsFor X.env.globals X.env.builtins) (fun bi s₄ =>
        ∀ h', h'.Ns s₄.heap.objs.size (fun y => if y = ".0" then some (.ref it) else none) → Heap.SameBut s₄.heap.objs.size (s₄.heap.push { cls := .type "frame", data := .dict #[] }) h' →
          ∃ H1 sc ex, Inv X pins σ H1 sc ∧ ExOk X pins ex ∧ GMade X.prog X.w k X.stack H1 sc ex Q E (.ref h'.objs.size) { s₄ with
            gens := s₄.gens.push (.fresh (.compStart (.GeneratorExp elt [⟨tg, iter, [], 0⟩, ⟨tg1, iter1, [], 0⟩] scope gpos) 0 (.ref it) .none (genEnv scope (cloFrom X.env.cells scope.names []) s₄.heap.objs.size code bi X.env))),
            toks := s₄.toks + 1 + 1 + 1,
            heap := h'.push { cls := .type "generator", data := .fields #[.int s₄.gens.size 0, .str "<genexpr>" (s₄.toks + 1), .str (X.env.qual ++ "<genexpr>") (s₄.toks + 1 + 1)] } }) X.xe { s2 with heap := h3, toks := tk } := by
    intro code h3 tk ps' more hx hsz hP3 hmore ht3
    obtain ⟨bm, ob, e1, e2, e3, e4, e5, e6, e7, e8⟩ := TB.bm
    have keep3 : ∀ b u, b ≠ P → s2.heap.get? b = some u → h3.get? b = some u := fun b u hb e => hx b u hb e
    refine wpAny_builtinsFor (m := X.mg) (by rw [I2.ok.glob]; exact (I2.mod.glob.keeps I2.bk).extBut hx TB.gP) e1 e2 (keep3 _ _ e4 (I2.bk _ _ e5)) e6 e7 e8 ?_
    intro h' hns hsb
    have I3 : Inv X pins σ (upd H1 P (.tbl (ps ++ more))) { s2 with heap := h3, toks := tk } := inv_tab (more := more) (g' := s2.gens) (d' := s2.drawn) (t' := tk) I2 hP keep3 (by rw [← hmore]; exact hP3) I2.bare
    have hT : Tabbed P H1 (upd H1 P (.tbl (ps ++ more))) := ⟨⟨ps ++ more, upd_same, by rw [← hmore]; exact ht3⟩, fun b hb => upd_ne hb⟩
    obtain ⟨W, ⟨m, w0⟩, turn⟩ := q _ hT
    have nP : ∀ b ∈ fp, b ≠ P := fun b hb z => by
      have := (f2 b hb).1
      rw [z, hP] at this
      cases this
    have f3 : ∀ b ∈ fp, FpOk X pins (upd H1 P (.tbl (ps ++ more))) b ∧ b < h3.objs.size := fun b hb => ⟨⟨by rw [upd_ne (nP b hb)]; exact (f2 b hb).1, (f2 b hb).2⟩, Nat.lt_of_lt_of_le (sz2 b hb) hsz⟩
    generalize upd H1 P (.tbl (ps ++ more)) = H3 at I3 w0 f3
    have hsz' : h'.objs.size = h3.objs.size + 1 := by rw [hsb.1, Heap.size_push]
    have keep' : ∀ b o, h3.get? b = some o → h'.get? b = some o := fun b o e => hsb.extBut b o (Nat.ne_of_lt (Heap.lt_size e)) (Heap.get?_push_of_some _ e)
    generalize hgo : ({ cls := .type "generator", data := .fields #[.int s2.gens.size 0, .str "<genexpr>" (tk + 1), .str (X.env.qual ++ "<genexpr>") (tk + 1 + 1)] } : Obj) = go
    have hgen : ∀ hp : Heap, hp.get? h'.objs.size = some go → hp.IsGen h'.objs.size s2.gens.size := fun hp e => ⟨go, _, _, e, by rw [← hgo], by rw [← hgo], by rw [← hgo]⟩
    have hput : (h'.push go).get? h'.objs.size = some go := Heap.get?_push_size _ (by rw [← hgo]; rfl)
    have hgd : ∀ v, go.data ≠ .cell v := fun v z => by rw [← hgo] at z; cases z
    have keep5 : ∀ b o, h3.get? b = some o → (h'.push go).get? b = some o := fun b o e => Heap.get?_push_of_some _ (keep' b o e)
    have hb5 : AllBare (s2.gens.push (.fresh (.compStart (.GeneratorExp elt [⟨tg, iter, [], 0⟩, ⟨tg1, iter1, [], 0⟩] scope gpos) 0 (.ref it) .none (gxEnv X scope h3.objs.size code)))) := I2.bare.push rfl
    refine ⟨H3, { s2 with heap := h3, toks := tk }, fp, I3, fun b hb => ⟨(f3 b hb).1.2.2.2.1, (f3 b hb).1.2.1, (f3 b hb).1.2.2.2.2.1, (f3 b hb).1.2.2.2.2.2⟩, h'.objs.size, s2.gens.size, _, rfl, ?_, ?_, hgen _ hput, Array.getElem?_push_size .., rfl, hb5, I3.nolimit.keeps keep5, keep5, ?_⟩
    · show h3.objs.size ≤ h'.objs.size
      omega
    · show h'.objs.size < (h'.push go).objs.size
      rw [Heap.size_push]
      exact Nat.lt_succ_self _
    intro Aw Sx s6 hrw hfr hSx hk6 hSo hos6 hba6
    have hSx : (h'.push go).objs.size ≤ Sx := hSx
    rw [Heap.size_push] at hSx
    have hk6 : ∀ b o, (h'.push go).get? b = some o → s6.heap.get? b = some o := hk6
    have G0 : Inv (gcx X Aw (gxN own caps) { s2 with heap := h3, toks := tk } H3 (gxEnv X scope h3.objs.size code) fp) [] (gxSt own caps σ) H3 s6 :=
      gx_start (s := { s2 with heap := h3, toks := tk }) I3 S hrw.hd hfr f3 ((hns.push go).at' fun o e => hk6 _ o e) (fun b o e => hk6 b o (keep5 b o e)) hos6 hba6
    have young : ∀ b, h3.objs.size < b → H3 b = none ∧ b ≠ h3.objs.size ∧ b ∉ frs X.stack := fun b hb => by
      refine ⟨I3.hok.fresh (by show h3.objs.size ≤ b; omega), by omega, fun z => ?_⟩
      rcases List.mem_cons.mp (I3.stkSub _ z) with z | z
      · have h1 := I3.lt
        rw [← z] at h1
        have h1 : b < h3.objs.size := h1
        omega
      · exact I3.nofs (show h3.objs.size ≤ b by omega) z
    obtain ⟨cS, heS⟩ := hSo
    have hG : GI (gcx X Aw (gxN own caps) { s2 with heap := h3, toks := tk } H3 (gxEnv X scope h3.objs.size code) fp) Sx [(h'.objs.size, go)] [] (gxSt own caps σ) H3 s6 := by
      refine ⟨#[], cS, .nil, G0.pins_of fun p hp => ?_⟩
      rcases List.mem_cons.mp hp with hp | hp
      · rw [hp]
        obtain ⟨y1, y2, y3⟩ := young Sx (by omega)
        exact ⟨heS, y1, y2, y3, fun v q => by cases q⟩
      · rw [List.mem_singleton.mp hp]
        obtain ⟨y1, y2, y3⟩ := young h'.objs.size (by omega)
        exact ⟨hk6 _ _ hput, y1, y2, y3, hgd⟩
    have st5 : tn 0 s6.heap := T.keep _ _ _ st2 fun b hb o e => hk6 b o (keep5 b o (keep3 b o (nP b hb) e))
    have cm : ∀ {y c}, (y, c) ∈ cloFrom X.env.cells scope.names [] → c < h3.objs.size := fun {y c} hm => by
      rcases cloFrom_mem hm with hm | ⟨h1, rfl⟩
      · cases hm
      · obtain ⟨c, hc⟩ := hfree _ h1 rfl
        rw [hc]
        obtain ⟨w, z⟩ := I3.cell _ _ hc
        exact z.lt
    refine gz_begin (iter1 := iter1) (A := Aw) (N := gxN own caps) (σ0 := gxSt own caps σ) (vs := vs) (vs1 := vs1) (g := g) (g1 := g1) (wi1 := wi1) (te := te) (Q := Q) (EX := E) (W := W) hrw.hd S.co T (fun z => ?_) (fun z => ?_) (Nat.ne_of_lt (by omega)) ⟨?_, ?_, fun x c e z => ?_⟩ hgen (fun σ2 hw j v e => ?_) (pg _ _ _ _ _ _ hrw) (pi1 _ _ _ _ _ _ hrw) (pg1 _ _ _ _ _ _ hrw) (pe _ _ _ _ _ _ hrw) (hs1 _) turn w0 hG st5 (fun b hb => (f3 b hb).1.1)
    · have z2 : h'.objs.size < h3.objs.size := (f3 _ z).2
      omega
    · have z2 : @LT.lt Nat _ Sx h3.objs.size := (f3 _ z).2
      omega
    · show h3.objs.size ≤ Sx
      omega
    · exact Nat.ne_of_gt (show h3.objs.size < Sx by omega)
    · have z2 : @LT.lt Nat _ c h3.objs.size := cm (PySem.mem_of_lookup (show (cloFrom X.env.cells scope.names []).lookup x = some c from e))
      have z3 : @Eq Nat c Sx := z
      omega
    · rw [← hw] at e
      obtain ⟨y1, y2⟩ := wipe_some e
      rw [wipe_out fun z => y2 (hv j z)]
      exact y1
  cases hf : codeAmong gpos ps.toList with
  | none =>
    refine wpAny_genexprCodeX hcode (cd.code hPs ht) (cd.tab hPs) hf fun c' h' tk hx hge hlt hco' _ htab' _ => ?_
    obtain ⟨o1, vs, f1, tf, fl, tg, inF, tx, tt, op, _, _, _, _, _, _, _, _, _, htr, _⟩ := hco'
    exact cont _ h' tk _ _ hx (Nat.le_trans hge (Nat.le_of_lt hlt)) htab'.2 rfl htr
  | some cv =>
    refine wpAny_genexprCode_hit hcode (cd.code hPs ht) hf ?_
    exact cont cv s2.heap s2.toks ps #[] (Heap.ExtBut.refl _ _) (Nat.le_refl _) hPs (by simp) ht
end
end Kg

/-! range(0, 2 * n, 2); generators over a range of any step; tuple(l) with the written part named -/
namespace Kz
open PySem PySem.Spec PyProof.Rows L2 Kg
theorem RgC.two {n : Nat} (h : n ≤ 1000000) : RgC 0 ((2 * n : Nat) : Int) 2 n := by
  have e : Builtin.Range.rangeSize 0 ((2 * n : Nat) : Int) 2 = n := by
    unfold Builtin.Range.rangeSize
    rw [if_pos (by decide)]
    split <;> omega
  refine ⟨by decide, by decide, ?_, e⟩
  have f : ∀ k : Int, -9223372036854775808 ≤ k → k < 9223372036854775808 → Builtin.Range.rangeFitsLong k = true := fun k h1 h2 => by
    unfold Builtin.Range.rangeFitsLong
    rw [decide_eq_true (show -(2 ^ 63) ≤ k from h1), decide_eq_true (show k < 2 ^ 63 from h2)]
    rfl
  unfold Builtin.Range.small
  rw [e]
  rw [f 0 (by decide) (by decide), f ((2 * n : Nat) : Int) (by omega) (by omega), f 2 (by decide) (by decide), f (n : Int) (by omega) (by omega), if_pos (by decide), f (((2 * n : Nat) : Int) + (2 - 1)) (by omega) (by omega), Bool.or_true]
  rfl
theorem turnsY_c {lo c : Int} {n : Nat} {g : TG} {te : TE} {vs : List Nat} {σ0 : L2.St} {H2 : Hp} {Q : List V → Hp → Prop} (Pv : Nat → List V → Hp → Prop) (hn : n ≤ sizeLine) (h0 : Pv 0 [] H2) (hl : ∀ i ys H, Pv i ys H → ys.length = i)
    (hs : ∀ i ys H, i < n → Pv i ys H → g (.int (lo + (i : Nat) * c)) σ0 H fun σ2 H2 => wipe σ2 vs = σ0 ∧ te σ2 H2 fun y H4 => Pv (i + 1) (ys ++ [y]) H4) (hd : ∀ ys H, Pv n ys H → Q ys H) :
    ∃ W : Nat → Nat → List V → Hp → Prop, (∃ m, W 0 m [] H2) ∧ TurnsY (Itc lo c n) σ0 vs g te Q W := by
  refine ⟨fun i m ys H => m = n - i ∧ i ≤ n ∧ Pv i ys H, ⟨_, rfl, Nat.zero_le _, h0⟩, fun i m ys H z => ?_⟩
  obtain ⟨rfl, hi, p⟩ := z
  by_cases lt : i < n
  · have ll := hl i ys H p
    refine .inr ⟨lt, by omega, fun y H' => Pv (i + 1) (ys ++ [y]) H', fun y H' p' => ⟨n - (i + 1), by omega, rfl, lt, p'⟩, fun x H' y => ?_⟩
    obtain ⟨rfl, rfl⟩ := y
    exact hs i ys _ lt p
  · have e : i = n := by omega
    subst e
    exact .inl ⟨Nat.le_refl _, hd ys H p⟩
theorem tupK {X : Cx} (K : PySem.W.Frag) (h : X.K = K) : CallR X (.type "tuple") (fun xs H Q => ∃ p ys, xs = [.ref p] ∧ ((SqL K H p ys ∧ ∀ l, H l = none → Q (.ref l) (upd H l (.tup ys))) ∨ (SqT K H p ys ∧ Q (.ref p) H))) := by
  subst h
  exact call_tuple_of
theorem slLK {X : Cx} (K : PySem.W.Frag) (h : X.K = K) : SlR X (rSlL K) := by
  subst h
  exact sl_list
end Kz

/-! the turns of generators over ranges and tuples -/
namespace Kz
open PySem PySem.Spec PyProof.Rows L2 Kg
theorem turnsY_r {lo : Int} {n : Nat} {g : TG} {te : TE} {vs : List Nat} {σ0 : L2.St} {H2 : Hp} {Q : List V → Hp → Prop} {y0 : List V} (Pv : Nat → List V → Hp → Prop) (h0 : Pv 0 y0 H2) (hl : ∀ i ys H, i < n → Pv i ys H → ys.length < sizeLine)
    (hs : ∀ i ys H, i < n → Pv i ys H → g (.int (lo + (i : Nat))) σ0 H fun σ2 H2 => wipe σ2 vs = σ0 ∧ te σ2 H2 fun y H4 => Pv (i + 1) (ys ++ [y]) H4) (hd : ∀ ys H, Pv n ys H → Q ys H) :
    ∃ W : Nat → Nat → List V → Hp → Prop, (∃ m, W 0 m y0 H2) ∧ TurnsY (Itr lo n) σ0 vs g te Q W := by
  refine ⟨fun i m ys H => m = n - i ∧ i ≤ n ∧ Pv i ys H, ⟨_, rfl, Nat.zero_le _, h0⟩, fun i m ys H z => ?_⟩
  obtain ⟨rfl, hi, p⟩ := z
  by_cases lt : i < n
  · refine .inr ⟨lt, hl i ys H lt p, fun y H' => Pv (i + 1) (ys ++ [y]) H', fun y H' p' => ⟨n - (i + 1), by omega, rfl, lt, p'⟩, fun x H' y => ?_⟩
    obtain ⟨rfl, rfl⟩ := y
    exact hs i ys _ lt p
  · have e : i = n := by omega
    subst e
    exact .inl ⟨Nat.le_refl _, hd ys H p⟩
theorem turnsY_t {K : PySem.W.Frag} {a : Addr} {xs : List V} {g : TG} {te : TE} {vs : List Nat} {σ0 : L2.St} {H2 : Hp} {Q : List V → Hp → Prop} {y0 : List V} (Pv : Nat → List V → Hp → Prop) (h0 : Pv 0 y0 H2) (hl : ∀ i ys H, i < xs.length → Pv i ys H → ys.length < sizeLine)
    (hq : ∀ i ys H, i ≤ xs.length → Pv i ys H → SqT K H a xs)
    (hs : ∀ i x ys H, xs[i]? = some x → Pv i ys H → g x σ0 H fun σ2 H2 => wipe σ2 vs = σ0 ∧ te σ2 H2 fun y H4 => Pv (i + 1) (ys ++ [y]) H4) (hd : ∀ ys H, Pv xs.length ys H → Q ys H) :
    ∃ W : Nat → Nat → List V → Hp → Prop, (∃ m, W 0 m y0 H2) ∧ TurnsY (Itt K a) σ0 vs g te Q W := by
  refine ⟨fun i m ys H => m = xs.length - i ∧ i ≤ xs.length ∧ Pv i ys H, ⟨_, rfl, Nat.zero_le _, h0⟩, fun i m ys H z => ?_⟩
  obtain ⟨rfl, hi, p⟩ := z
  have q := hq i ys H hi p
  by_cases lt : i < xs.length
  · refine .inr ⟨⟨xs, xs[i], q, by simp [lt]⟩, hl i ys H lt p, fun y H' => Pv (i + 1) (ys ++ [y]) H', fun y H' p' => ⟨xs.length - (i + 1), by omega, rfl, lt, p'⟩, fun x H' y => ?_⟩
    obtain ⟨e, y⟩ := y
    subst e
    exact hs i x ys _ (y xs q) p
  · have e : i = xs.length := by omega
    subst e
    exact .inl ⟨⟨xs, q, by simp⟩, hd ys H p⟩
theorem turnsZ_t {K : PySem.W.Frag} {a : Addr} {xs : List V} {g g1 : TG} {wi1 : TI} {te : TE} {vs vs1 : List Nat} {σ0 : L2.St} {H2 : Hp} {Q : List V → Hp → Prop} {y0 : List V} (Pv : Nat → List V → Hp → Prop) (h0 : Pv 0 y0 H2) (hq : ∀ i ys H, i ≤ xs.length → Pv i ys H → SqT K H a xs)
    (hs : ∀ i x ys H, xs[i]? = some x → Pv i ys H → g x σ0 H fun σ2 H2 => wipe σ2 vs = σ0 ∧ wi1 σ2 H2 fun J1 H4 => ∃ W1 : Nat → Nat → List V → Hp → Prop, (∃ m, W1 0 m ys H4) ∧ TurnsY J1 (wipe σ2 vs1) vs1 g1 te (Pv (i + 1)) W1) (hd : ∀ ys H, Pv xs.length ys H → Q ys H) :
    ∃ W : Nat → Nat → List V → Hp → Prop, (∃ m, W 0 m y0 H2) ∧ TurnsZ (Itt K a) σ0 vs vs1 g wi1 g1 te Q W := by
  refine ⟨fun i m ys H => m = xs.length - i ∧ i ≤ xs.length ∧ Pv i ys H, ⟨_, rfl, Nat.zero_le _, h0⟩, fun i m ys H z => ?_⟩
  obtain ⟨rfl, hi, p⟩ := z
  have q := hq i ys H hi p
  by_cases lt : i < xs.length
  · refine .inr ⟨⟨xs, xs[i], q, by simp [lt]⟩, Pv (i + 1), fun ys' H' p' => ⟨xs.length - (i + 1), by omega, rfl, lt, p'⟩, fun x H' y => ?_⟩
    obtain ⟨e, y⟩ := y
    subst e
    exact hs i x ys _ (y xs q) p
  · have e : i = xs.length := by omega
    subst e
    exact .inl ⟨⟨xs, q, by simp⟩, hd ys H p⟩
end Kz

/-! the turns of a generator over a list -/
namespace Kz
open PySem PySem.Spec PyProof.Rows L2 Kg
theorem turnsY_l {K : PySem.W.Frag} {a : Addr} {xs : List V} {g : TG} {te : TE} {vs : List Nat} {σ0 : L2.St} {H2 : Hp} {Q : List V → Hp → Prop} {y0 : List V} (Pv : Nat → List V → Hp → Prop) (h0 : Pv 0 y0 H2) (hl : ∀ i ys H, i < xs.length → Pv i ys H → ys.length < sizeLine)
    (hq : ∀ i ys H, i ≤ xs.length → Pv i ys H → SqL K H a xs)
    (hs : ∀ i x ys H, xs[i]? = some x → Pv i ys H → g x σ0 H fun σ2 H2 => wipe σ2 vs = σ0 ∧ te σ2 H2 fun y H4 => Pv (i + 1) (ys ++ [y]) H4) (hd : ∀ ys H, Pv xs.length ys H → Q ys H) :
    ∃ W : Nat → Nat → List V → Hp → Prop, (∃ m, W 0 m y0 H2) ∧ TurnsY (Itl K a) σ0 vs g te Q W := by
  refine ⟨fun i m ys H => m = xs.length - i ∧ i ≤ xs.length ∧ Pv i ys H, ⟨_, rfl, Nat.zero_le _, h0⟩, fun i m ys H z => ?_⟩
  obtain ⟨rfl, hi, p⟩ := z
  have q := hq i ys H hi p
  by_cases lt : i < xs.length
  · refine .inr ⟨⟨xs, xs[i], q, by simp [lt]⟩, hl i ys H lt p, fun y H' => Pv (i + 1) (ys ++ [y]) H', fun y H' p' => ⟨xs.length - (i + 1), by omega, rfl, lt, p'⟩, fun x H' y => ?_⟩
    obtain ⟨e, y⟩ := y
    subst e
    exact hs i x ys _ (y xs q) p
  · have e : i = xs.length := by omega
    subst e
    exact .inl ⟨⟨xs, q, by simp⟩, hd ys H p⟩
end Kz

/-! tuple(enumerate(list)) -/
namespace Kz
open PySem PySem.Spec PyProof.Rows L2
open AutoSeq1 (wpAny_loadPart')
theorem nolen_enum : typeLookup (.type "enumerate") "__len__" = pure none := by rw [typeLookup_type, builtinLookup_eq_fast]; kernel_rfl
theorem nohint_enum : typeLookup (.type "enumerate") "__length_hint__" = pure none := by rw [typeLookup_type, builtinLookup_eq_fast]; kernel_rfl
/-- the counted ones stand -/
def EnP (G : Hp) (ts : List Addr) (xs : List V) : Prop := ∀ (j : Nat) (t : Addr) (x : V), ts[j]? = some t → xs[j]? = some x → G t = some (.tup [.int (j : Int), x])
/-- the enumerate before a turn -/
def Es (h : Heap) (e it D : Addr) (i : Int) : Prop := (∃ old, IsEnum h e it i old) ∨ ∃ old T f oT, IsEnumHeld h e it i old T f ∧ h.get? T = some oT ∧ T ≠ e ∧ T ≠ it ∧ T ≠ D
section
variable {A : Around} {X : Cx} {pins : List (Addr × Obj)} {σ : L2.St} {e it l D : Addr} {R : Result → Shared → Prop} {res : Value} {xs : List V} {H : Hp} {items : Array Value}
theorem eLoop (hei : e ≠ it) (hle : l ≠ e) (hli : l ≠ it) (lD : l ≠ D) (hh : A.handled = none) (hz : items.size ≤ sizeLine) (rv : Vals xs items.toList) (hD : H D = none)
    (q : ∀ (s' : Shared) (G' : Hp) (ts : List Addr), Inv X pins σ G' s' → Same H G' → G' D = some (.lst (ts.map V.ref)) → ts.length = items.size → EnP G' ts xs → (∀ t ∈ ts, H t = none) → R (.ok (.ret res)) s') :
    ∀ (k i : Nat) (s : Shared) (G : Hp) (ts : List Addr), items.size - i = k → i ≤ items.size → Inv X pins σ G s → (∀ b ∈ [e, it], FpOk X pins G b) → Es s.heap e it D (i : Int) → s.heap.IsListIter it l i → s.heap.IsList l items →
      Same H G → G D = some (.lst (ts.map V.ref)) → ts.length = i → EnP G ts xs → (∀ t ∈ ts, H t = none) →
      codeAny (model X.prog X.w) A (.builtin "list.extend.loop" ⟨[.ref D, .ref e, res], []⟩) R s := by
  intro k
  induction k with
  | zero =>
    intro i s G ts hk hi I hf hes hit hl sm gD lt pr nw
    have ei : i = items.size := by omega
    refine codeAny_builtin F.entry_extend_loop ?_
    rw [Around.under_plainId F.plain_extend_loop _]
    show wpAny _ A.in1 (pyNext (.ref e) >>= _) _ _ s
    have hx : items[i]? = none := Array.getElem?_eq_none (by omega)
    have fin : ∀ h', Heap.ExtBut it s.heap h' → R (.ok (.ret res)) { s with heap := h' } := fun h' kp =>
      q _ G ts (I.turnedL (ch := [e, it]) (t' := s.toks) (fun c o hb u => kp c o (fun w => hb (by simp [w])) u) hf) sm gD (by omega) pr nw
    rcases hes with ⟨old, he⟩ | ⟨old, T, f, oT, he, hT, r1, r2, r3⟩
    · exact wpAny_bind (wpAny_pyNext_enum_end hh he hit hl hx fun h' kp => wpAny_pure (fin h' kp))
    · exact wpAny_bind (wpAny_pyNext_enum_end_held hh he hit hl hx fun h' kp => wpAny_pure (fin h' kp))
  | succ k ih =>
    intro i s G ts hk hi I hf hes hit hl sm gD lt pr nw
    have hlt : i < items.size := by omega
    have el : e < s.heap.objs.size := by
      rcases hes with ⟨_, u⟩ | ⟨_, _, _, _, u, _⟩
      · exact Heap.lt_size u
      · exact Heap.lt_size u
    have itl : it < s.heap.objs.size := let ⟨_, u, _⟩ := hit; Heap.lt_size u
    have live : ∀ b ∈ [e, it], b < s.heap.objs.size := fun b hb => by
      have hb : b = e ∨ b = it := by simpa using hb
      rcases hb with w | w
      · rw [w]; exact el
      · rw [w]; exact itl
    have nDc : ∀ b ∈ [e, it], D ≠ b := fun b hb w => by
      have h0 := (hf b hb).1
      rw [← w, gD] at h0
      cases h0
    have gT : G s.heap.objs.size = none := I.hok.fresh (Nat.le_refl _)
    have DT : D ≠ s.heap.objs.size := ne_of_none gD gT
    have ex : items[i]? = some items[i] := Array.getElem?_eq_getElem hlt
    have ec : ((i + 1 : Nat) : Int) = (i : Int) + 1 := by omega
    obtain ⟨x, hx, rx⟩ := vback rv (i := i) (v := items[i]) (by simpa using ex)
    have next : ∀ (h' : Heap), Es h' e it D ((i : Int) + 1) → h'.IsListIter it l (i + 1) → h'.get? s.heap.objs.size = some { cls := .type "tuple", data := .seq #[.int i s.toks, items[i]] } → h'.objs.size = s.heap.objs.size + 1 →
        (∀ b o, b ≠ e → b ≠ it → s.heap.get? b = some o → h'.get? b = some o) →
        wpAny (model X.prog X.w) A.in1 (updateSeq D (·.push (.ref s.heap.objs.size)) >>= fun _ => again (.builtin "list.extend.loop" ⟨[.ref D, .ref e, res], []⟩)) (fun fin s' => match fin with
          | .done f => R (.ok f) s'
          | .again c' => c'.quiet = true ∧ codeAny (model X.prog X.w) A c' R s') (fun e s' => R (.error e) s') { s with heap := h', toks := s.toks + 1 } := by
      intro h' es' hit' nt sz kp
      have new : ObjOk X.prog X.w (upd G s.heap.objs.size (.tup [.int (i : Int), x])) h' s.heap.objs.size (.tup [.int (i : Int), x]) := ⟨by show 2 ≤ sizeLine; decide, [.int i s.toks, items[i]], .cons ⟨_, rfl⟩ (.cons rx .nil), ⟨_, nt, rfl, _, rfl⟩⟩
      have I1 : Inv X pins σ (upd G s.heap.objs.size (.tup [.int (i : Int), x])) { s with heap := h', toks := s.toks + 1 } :=
        I.turnedNew (ch := [e, it]) (fun c o hb u => kp c o (fun w => hb (by simp [w])) (fun w => hb (by simp [w])) u) hf (Nat.le_refl _) new
      have gD1 : upd G s.heap.objs.size (.tup [.int (i : Int), x]) D = some (.lst (ts.map V.ref)) := by rw [upd_ne DT]; exact gD
      obtain ⟨_, its, c0, rw', _, raw⟩ := I1.lstM gD1
      have ln := rw'.length
      rw [List.length_map] at ln
      refine wpAny_bind ?_
      refine wpAny_updateSeq raw rfl ?_ (by rw [List.size_toArray]; omega) (by rw [Array.size_push, List.size_toArray]; omega)
      have I2 := I1.lset (ys := (ts ++ [s.heap.objs.size]).map V.ref) (its' := its ++ [Value.ref s.heap.objs.size]) (t' := s.toks + 1) gD1 raw (f := (·.push (Value.ref s.heap.objs.size))) (by simp) (by rw [List.map_append]; exact rw'.append (.cons rfl .nil)) (by rw [List.length_map, List.length_append]; simp only [List.length_cons, List.length_nil]; omega)
      have oth : ∀ b o, b ≠ D → h'.get? b = some o → (h'.update D (Obj.mapSeq (·.push (Value.ref s.heap.objs.size)))).get? b = some o := fun b o hb u => (Heap.get?_update_other _ _ (Ne.symm hb)).trans u
      have smT : ∀ t o, G t = some o → t ≠ D → upd (upd G s.heap.objs.size (.tup [.int (i : Int), x])) D (.lst ((ts ++ [s.heap.objs.size]).map V.ref)) t = some o := fun t o u hd => by
        rw [upd_ne hd, upd_ne (ne_of_none u gT)]
        exact u
      refine wpAny_pure ⟨plainId_quiet F.plain_extend_loop _, ih (i + 1) _ _ (ts ++ [s.heap.objs.size]) (by omega) hlt I2 (fun b hb => ?_) ?_ (hit'.at fun o u => oth _ _ (Ne.symm (nDc it (by simp))) u) (hl.at fun o u => oth _ _ lD (kp l o hle hli u))
        ?sm upd_same (by rw [List.length_append]; simp only [List.length_cons, List.length_nil]; omega) ?pr (fun t ht => ?_)⟩
      · refine ⟨?_, (hf b hb).2⟩
        rw [upd_ne (Ne.symm (nDc b hb)), upd_ne (Nat.ne_of_lt (live b hb))]
        exact (hf b hb).1
      · rw [ec]
        rcases es' with ⟨old, u⟩ | ⟨old, T, f, oT, u, hT, r1, r2, r3⟩
        · exact .inl ⟨old, oth _ _ (Ne.symm (nDc e (by simp))) u⟩
        · exact .inr ⟨old, T, f, oT, oth _ _ (Ne.symm (nDc e (by simp))) u, oth _ _ r3 hT, r1, r2, r3⟩
      case sm => exact fun t o u => smT t o (sm t o u) (fun w => by rw [w, hD] at u; cases u)
      case pr =>
        intro j t a e1 e2
        by_cases hj : j < ts.length
        · rw [List.getElem?_append_left hj] at e1
          have g := pr j t a e1 e2
          exact smT t _ g fun w => by rw [w, gD] at g; cases g
        · have hj2 : j < (ts ++ [s.heap.objs.size]).length := (List.getElem?_eq_some_iff.mp e1).1
          rw [List.length_append] at hj2
          simp only [List.length_cons, List.length_nil] at hj2
          have ej : j = i := by omega
          subst ej
          rw [List.getElem?_append_right (by omega), show j - ts.length = 0 by omega] at e1
          cases e1
          rw [hx] at e2
          cases e2
          rw [upd_ne (Ne.symm DT)]
          exact upd_same
      · rcases List.mem_append.mp ht with h | h
        · exact nw t h
        · rw [List.mem_singleton.mp h]
          cases u : H s.heap.objs.size with
          | none => rfl
          | some o => rw [sm _ _ u] at gT; cases gT
    refine codeAny_builtin F.entry_extend_loop ?_
    rw [Around.under_plainId F.plain_extend_loop _]
    show wpAny _ A.in1 (pyNext (.ref e) >>= _) _ _ s
    rcases hes with ⟨old, he⟩ | ⟨old, T, f, oT, he, hT, r1, r2, r3⟩
    · exact wpAny_bind (wpAny_pyNext_enum_item he hit hl ex hei fun h' ho hit' nt sz kp => next h' (.inr ⟨_, s.heap.objs.size, false, _, ho, nt, Nat.ne_of_gt el, Nat.ne_of_gt itl, Ne.symm DT⟩) hit' nt sz kp)
    · exact wpAny_bind (wpAny_pyNext_enum_item_held he hT r1 r2 hit hl ex hei fun h' ho hit' nt sz kp => next h' (.inr ⟨old, T, true, oT, ho, kp _ _ r1 r2 hT, r1, r2, r3⟩) hit' nt sz kp)
/-- listExtendWith of an enumerate -/
theorem eGrow {s : Shared} (he : IsEnum s.heap e it 0 .none) (hne : D ≠ e) (eD : s.heap.get? D = some { cls := .type "list", data := .seq #[] })
    (k : ∀ h', (∀ b o, b ≠ D → s.heap.get? b = some o → h'.get? b = some o) → (∃ c0, h'.get? D = some { cls := .type "list", data := .seq #[] c0 }) → codeAny (model X.prog X.w) A (.builtin "list.extend.loop" ⟨[.ref D, .ref e, res], []⟩) R { s with heap := h' }) :
    wpAny (model X.prog X.w) A.in1 (Builtin.List.listExtendWith (.ref D) (.ref e) res)
      (fun fin s' => match fin with
        | .done f => R (.ok f) s'
        | .again c' => c'.quiet = true ∧ codeAny (model X.prog X.w) A c' R s') (fun e s' => R (.error e) s') s := by
  have T : s.TypeIs (.ref e) "enumerate" := ⟨_, he, rfl⟩
  unfold Builtin.List.listExtendWith
  refine wpAny_bind (wpAny_typeOf T ?_)
  have no : Builtin.List.listSameRef (.ref D) (.ref e) = false := by simp [Builtin.List.listSameRef, hne]
  rw [if_neg (by rw [no]; decide)]
  refine wpAny_bind (wpAny_pyIter_enum he ?_)
  refine wpAny_bind (wpAny_holding ?_)
  unfold Builtin.List.listLengthHint
  refine wpAny_bind (wpAny_specialOf T nolen_enum ?_)
  show wpAny _ A.in1 (specialOf (.ref e) (Str.ofString "__length_hint__") >>= _) _ _ _
  refine wpAny_bind (wpAny_specialOf T nohint_enum ?_)
  refine wpAny_pure ?_
  show wpAny _ A.in1 (rule "list.extend.makes-room" >>= fun _ => Builtin.List.listTouch (.ref D) >>= fun _ => again (.builtin "list.extend.loop" ⟨[.ref D, .ref e, res], []⟩)) _ _ _
  refine wpAny_bind (wpAny_rule (wpAny_bind ?_))
  show wpAny _ A.in1 (updateSeq D (·.push .none) >>= fun _ => updateSeq D (·.pop)) _ _ _
  refine wpAny_bind (wpAny_updateSeq eD rfl ?_)
  have e2 := Heap.get?_update_self (Obj.mapSeq (·.push Value.none)) eD rfl
  refine wpAny_updateSeq e2 rfl ?_
  have e3 := Heap.get?_update_self (Obj.mapSeq (·.pop)) e2 rfl
  exact wpAny_pure ⟨plainId_quiet F.plain_extend_loop _, k _ (fun b o hb e => (Heap.get?_update_other _ _ (Ne.symm hb)).trans ((Heap.get?_update_other _ _ (Ne.symm hb)).trans e)) ⟨_, e3⟩⟩
theorem eIadd {s : Shared} (he : IsEnum s.heap e it 0 .none) (hne : D ≠ e) (eD : s.heap.get? D = some { cls := .type "list", data := .seq #[] })
    (k : ∀ h', (∀ b o, b ≠ D → s.heap.get? b = some o → h'.get? b = some o) → (∃ c0, h'.get? D = some { cls := .type "list", data := .seq #[] c0 }) → codeAny (model X.prog X.w) A (.builtin "list.extend.loop" ⟨[.ref D, .ref e, .ref D], []⟩) R { s with heap := h' }) :
    codeAny (model X.prog X.w) A (.builtin "list.__iadd__" ⟨[.ref D, .ref e], []⟩) R s := by
  refine codeAny_builtin F.entry_list_iadd ?_
  rw [Around.under_plainId F.plain_list_iadd _]
  show wpAny _ A.in1 (Builtin.List.listExtendWith (.ref D) (.ref e) (.ref D)) _ _ _
  exact eGrow he hne eD k
theorem eCollect {s : Shared} {Q : List Value → Shared → Prop} {E : Value → Shared → Prop} (I : Inv X pins σ H s) (hf : ∀ b ∈ [e, it], FpOk X pins H b) (he : IsEnum s.heap e it 0 .none) (hit : s.heap.IsListIter it l 0) (hl : s.heap.IsList l items)
    (hei : e ≠ it) (hle : l ≠ e) (hli : l ≠ it) (hh : A.handled = none) (hz : items.size ≤ sizeLine) (rv : Vals xs items.toList)
    (q : ∀ (s' : Shared) (G' : Hp) (ts : List Addr) (acc : List Value), Inv X pins σ G' s' → Same H G' → ts.length = items.size → EnP G' ts xs → (∀ t ∈ ts, H t = none) → Vals (ts.map V.ref) acc → Q acc s') : wpAny (model X.prog X.w) A (collect (.ref e)) Q E s := by
  have el : e < s.heap.objs.size := Heap.lt_size he
  have itl : it < s.heap.objs.size := let ⟨_, u, _⟩ := hit; Heap.lt_size u
  have ll : l < s.heap.objs.size := let ⟨_, u, _⟩ := hl; Heap.lt_size u
  unfold collect
  refine wpAny_bind (wpAny_runValue (codeAny_builtin F.entry_proto_collect ?_))
  rw [Around.under_plainId F.plain_proto_collect _]
  show wpAny _ A.in1 (newList [] >>= fun l => again (.builtin "list.__iadd__" ⟨[l, .ref e], []⟩)) _ _ s
  refine wpAny_bind (wpAny_newObj_type ?_)
  have k1 : ∀ b o, s.heap.get? b = some o → (s.heap.push { cls := .type "list", data := .seq ([] : List Value).toArray }).get? b = some o := fun b o u => Heap.get?_push_of_some _ u
  have eD : (s.heap.push { cls := .type "list", data := .seq ([] : List Value).toArray }).get? s.heap.objs.size = some { cls := .type "list", data := .seq ([] : List Value).toArray } := Heap.get?_push_size _ rfl
  refine wpAny_pure ⟨plainId_quiet F.plain_list_iadd _, eIadd (X := X) (s := { s with heap := s.heap.push { cls := .type "list", data := .seq ([] : List Value).toArray } }) (k1 _ _ he) (Nat.ne_of_gt el) eD fun g3 k3 e3 => ?_⟩
  obtain ⟨c0, e3⟩ := e3
  have kall : ∀ b o, s.heap.get? b = some o → g3.get? b = some o := fun b o u => k3 b o (Nat.ne_of_lt (Heap.lt_size u)) (k1 b o u)
  have hD : H s.heap.objs.size = none := I.hok.fresh (Nat.le_refl _)
  have I3 : Inv X pins σ (upd H s.heap.objs.size (.lst [])) { s with heap := g3 } := I.laid (t' := s.toks) kall (Nat.le_refl _) (show ObjOk X.prog X.w _ _ _ (.lst []) from ⟨Nat.zero_le _, [], c0, .nil, e3⟩)
  refine eLoop hei hle hli (Nat.ne_of_lt ll) hh hz rv hD (fun s' G' ts I' sm gD lt pr nw => ?_) items.size 0 _ (upd H s.heap.objs.size (.lst [])) [] (by omega) (Nat.zero_le _) I3 (fun b hb => ?_) (.inl ⟨_, kall _ _ he⟩) (hit.at fun o u => kall _ _ u) (hl.at fun o u => kall _ _ u)
    (fun t o u => by rw [upd_ne (ne_of_none u hD)]; exact u) upd_same rfl (fun j t x u => by simp at u) (fun t h => absurd h List.not_mem_nil)
  · obtain ⟨_, its, c1, rw', _, raw⟩ := I'.lstM gD
    show wpAny _ A (load s.heap.objs.size >>= _) _ _ s'
    refine wpAny_bind (wpAny_load raw ?_)
    exact wpAny_pure (q s' G' ts _ I' sm lt pr nw (by simpa using rw'))
  · have hb' : b = e ∨ b = it := by simpa using hb
    refine ⟨?_, (hf b hb).2⟩
    rcases hb' with w | w
    · rw [upd_ne (by rw [w]; exact Nat.ne_of_lt el)]
      exact (hf b hb).1
    · rw [upd_ne (by rw [w]; exact Nat.ne_of_lt itl)]
      exact (hf b hb).1
theorem eTuple {s : Shared} {Q' : Value → Shared → Prop} {E : Value → Shared → Prop} (I : Inv X pins σ H s) (hf : ∀ b ∈ [e, it], FpOk X pins H b) (he : IsEnum s.heap e it 0 .none) (hit : s.heap.IsListIter it l 0) (hl : s.heap.IsList l items)
    (hei : e ≠ it) (hle : l ≠ e) (hli : l ≠ it) (hh : A.handled = none) (hz : items.size ≤ sizeLine) (rv : Vals xs items.toList)
    (q : ∀ (s' : Shared) (G' : Hp) (ts : List Addr) (acc : List Value), Inv X pins σ G' s' → Same H G' → ts.length = items.size → EnP G' ts xs → (∀ t ∈ ts, H t = none) → Vals (ts.map V.ref) acc →
      Q' (.ref s'.heap.objs.size) { s' with heap := s'.heap.push { cls := .type "tuple", data := .seq acc.toArray } }) :
    codeAny (model X.prog X.w) A (.call (.builtin "tuple.__new__") ⟨[.type "tuple", .ref e], []⟩) (wants Q' E) s := by
  refine codeAny_of_tree ?_
  show wpAny _ A.in1 (do checkBuiltinCall "tuple.__new__" ⟨[.type "tuple", .ref e], []⟩; again (.builtin "tuple.__new__" ⟨[.type "tuple", .ref e], []⟩)) _ _ s
  refine wpAny_bind (wpAny_of_eq (F.newCall_tuple_1 _) (wpAny_pure ⟨plainId_quiet F.plain_tuple_new _, codeAny_builtin F.entry_tuple_new ?_⟩))
  rw [Around.under_plainId F.plain_tuple_new _]
  have hsub := sub_tuple_self
  have hinit := init_tuple_lookup
  have hmh := madeHere_tuple
  have hty : s.TypeIs (.ref e) "enumerate" := ⟨_, he, rfl⟩
  have hh1 : A.in1.handled = none := hh
  wp_walk using wpAny_typeOf hty, eCollect I hf he hit hl hei hle hli hh1 hz rv
  intro s' G' ts acc q1 q2 q3 q4 q5 q6
  show wpAny _ _ (Builtin.Tuple.tupleExact acc.toArray >>= fun v => ret v) _ _ _
  have sz : acc.toArray.size ≤ sizeLine := by
    have h1 := q6.length
    rw [List.length_map] at h1
    rw [List.size_toArray]
    omega
  exact wpAny_bind (m := Builtin.Tuple.tupleExact acc.toArray) (wpAny_newObj_type (wpAny_pure (q s' G' ts acc q1 q2 q3 q4 q5 q6)) sz)
theorem eCall {s : Shared} {Q' : Value → Shared → Prop} {E : Value → Shared → Prop} (I : Inv X pins σ H s) (hf : ∀ b ∈ [e, it], FpOk X pins H b) (he : IsEnum s.heap e it 0 .none) (hit : s.heap.IsListIter it l 0) (hl : s.heap.IsList l items)
    (hei : e ≠ it) (hle : l ≠ e) (hli : l ≠ it) (hh : A.handled = none) (hz : items.size ≤ sizeLine) (rv : Vals xs items.toList)
    (q : ∀ (s' : Shared) (G' : Hp) (ts : List Addr) (acc : List Value), Inv X pins σ G' s' → Same H G' → ts.length = items.size → EnP G' ts xs → (∀ t ∈ ts, H t = none) → Vals (ts.map V.ref) acc →
      Q' (.ref s'.heap.objs.size) { s' with heap := s'.heap.push { cls := .type "tuple", data := .seq acc.toArray } }) :
    wpAny (model X.prog X.w) A (call (.type "tuple") [.ref e]) Q' E s := by
  refine callType_codes (Q₁ := fun o s1 => s1.TypeIs o "tuple" ∧ Q' o s1) F.called_tuple (F.typeCall_tuple_1 _) F.entry_object_init
    (eTuple I hf he hit hl hei hle hli hh hz rv fun s' G' ts acc q1 q2 q3 q4 q5 q6 => ⟨⟨_, Heap.get?_push_size _ rfl, rfl⟩, q s' G' ts acc q1 q2 q3 q4 q5 q6⟩) fun o s1 h1 => ?_
  exact ⟨h1.1, F.args_object_init_2 o _, object_init_meets F.called_tuple.init.lookup F.called_tuple.made (by decide) X.prog X.w A.in1 _ s1 ⟨h1.1, rfl, h1.2⟩⟩
end
section
variable {X : Cx}
/-- what tuple(enumerate(l)) asks -/
def tEnumT (K : PySem.W.Frag) (ta : TA) : TE := fun σ H Q => ta σ H fun vs G => ∃ (a : Addr) (xs : List V), vs = [.ref a] ∧ SqL K G a xs ∧
  ∀ (q : Addr) (ts : List Addr) (F : Hp), Same G F → F q = none → ts.length = xs.length → EnP F ts xs → (∀ t ∈ ts, G t = none) → Q (.ref q) (upd F q (.tup (ts.map V.ref)))
theorem pe_tupEnum {e : Expr} {ta : TA} {p p2 pos pos2 : Pos} (hc : X.calm = true) (hg : Gl X "tuple") (hm : X.mg "tuple" = none) (hg2 : Gl X "enumerate") (hm2 : X.mg "enumerate" = none) (ha : PA X [e] ta)
    (hs : starEach [e] X.env = (false, eval e X.env) :: starEach [] X.env := by rfl)
    (hs2 : starEach [.Call (.Name "enumerate" p2) [e] [] pos2] X.env = (false, eval (.Call (.Name "enumerate" p2) [e] [] pos2) X.env) :: starEach [] X.env := by rfl) :
    PE X (.Call (.Name "tuple" p) [.Call (.Name "enumerate" p2) [e] [] pos2] [] pos) (tEnumT X.K ta) := by
  refine ⟨fun pins s σ H Q I h => ?_⟩
  refine Call_ (ld_blt I hg hm PyProof.Rows.boot_tuple (PyProof.Rows.callWith_type1 (args_cons (Call_ (ld_blt I hg2 hm2 PyProof.Rows.boot_enumerate (PyProof.Rows.callWith_type1 (thn (ha.run pos2 pins s σ H _ I h) fun us s1 ⟨vs, G, I1, rr, a, xs, ev, sq, q⟩ => ?_) hs rfl))) hs2) hs2 rfl))
  subst ev
  cases rr with
  | cons ra rr =>
    cases rr
    cases ra
    have hd : X.A.handled = none := I1.ok.hd hc
    obtain ⟨its, rv, p1, z1⟩ := I1.list sq
    have n1 := rv.length
    refine call_enumerate_list p1.isList fun h' he hit hsz kp => ?_
    refine args_nil ?_
    have I2 : Inv X pins σ G { s1 with heap := h' } := I1.kept kp
    have la := p1.lt
    have fp : ∀ b ∈ [s1.heap.objs.size + 1, s1.heap.objs.size], FpOk X pins G b := fun b hb => by
      have hb : b = s1.heap.objs.size + 1 ∨ b = s1.heap.objs.size := by simpa using hb
      have le : s1.heap.objs.size ≤ b := by
        rcases hb with w | w
        · rw [w]; exact Nat.le_succ _
        · rw [w]; exact Nat.le_refl _
      exact I1.fpOk le (I1.hok.fresh le)
    refine eCall I2 fp he hit (p1.isList.at fun o u => kp _ _ u) (Nat.succ_ne_self _) (Nat.ne_of_lt (Nat.lt_succ_of_lt la)) (Nat.ne_of_lt la) hd (by rw [List.size_toArray]; omega) (by simpa using rv) fun s' G' ts acc q1 q2 q3 q4 q5 q6 => ?_
    have fr : G' s'.heap.objs.size = none := q1.hok.fresh (Nat.le_refl _)
    have lt : ts.length = xs.length := by rw [q3, List.size_toArray, n1]
    have new : ObjOk X.prog X.w (upd G' s'.heap.objs.size (.tup (ts.map V.ref))) (s'.heap.push { cls := .type "tuple", data := .seq acc.toArray }) s'.heap.objs.size (.tup (ts.map V.ref)) := ⟨by rw [List.length_map]; omega, acc, q6, ⟨_, Heap.get?_push_size _ rfl, rfl, _, rfl⟩⟩
    exact ⟨.ref _, _, q1.laid (t' := s'.toks) (fun b u e => Heap.get?_push_of_some _ e) (Nat.le_refl _) new, rfl, q _ ts G' q2 fr lt q4 q5⟩
end
end Kz

/-! tuple(zip(a, b)) of two tuples -/
namespace Kz
open PySem PySem.Spec PyProof.Rows L2
section
variable {A : Around} {X : Cx} {pins : List (Addr × Obj)} {σ : L2.St} {z TI TO i1 i2 D : Addr} {fp1 fp2 : List Addr} {n1 n2 n : Nat} {P1 P2 : Nat → Value → Prop} {St1 St2 : Nat → Heap → Prop} {R : Result → Shared → Prop} {res : Value} {xs ys : List V} {H : Hp}
theorem zIadd {s : Shared} (hz : IsZip s.heap z TI TO .none) (hne : D ≠ z) (eD : s.heap.get? D = some { cls := .type "list", data := .seq #[] })
    (k : ∀ h', (∀ b o, b ≠ D → s.heap.get? b = some o → h'.get? b = some o) → (∃ c0, h'.get? D = some { cls := .type "list", data := .seq #[] c0 }) → codeAny (model X.prog X.w) A (.builtin "list.extend.loop" ⟨[.ref D, .ref z, .ref D], []⟩) R { s with heap := h' }) :
    codeAny (model X.prog X.w) A (.builtin "list.__iadd__" ⟨[.ref D, .ref z], []⟩) R s := by
  refine codeAny_builtin F.entry_list_iadd ?_
  rw [Around.under_plainId F.plain_list_iadd _]
  show wpAny _ A.in1 (Builtin.List.listExtendWith (.ref D) (.ref z) (.ref D)) _ _ _
  exact zGrow ⟨_, hz, rfl⟩ hz hne eD k
/-- what a zip stands on -/
structure Zip0 (X : Cx) (pins : List (Addr × Obj)) (H : Hp) (s : Shared) (z TI TO i1 i2 : Addr) (fp1 fp2 : List Addr) (n1 n2 : Nat) (P1 P2 : Nat → Value → Prop) (St1 St2 : Nat → Heap → Prop) (xs ys : List V) : Prop where
  S : ZipSep2 z TI TO i1 i2 fp1 fp2
  D1 : ∀ A' : Around, A'.handled = none → Draws X.prog X.w A' i1 fp1 n1 P1 St1
  D2 : ∀ A' : Around, A'.handled = none → Draws X.prog X.w A' i2 fp2 n2 P2 St2
  sz : min n1 n2 ≤ sizeLine
  r1 : ∀ i v, P1 i v → ∃ x, xs[i]? = some x ∧ RelV x v
  r2 : ∀ i v, P2 i v → ∃ y, ys[i]? = some y ∧ RelV y v
  hf : ∀ b ∈ [z, TI, TO, i1, i2], FpOk X pins H b
  zip : IsZip s.heap z TI TO .none
  hTI : IsTupOf2 s.heap TI (.ref i1) (.ref i2)
  hTO : ∃ a b, IsTupOf2 s.heap TO a b
  b1 : ∀ h', (∀ c o, s.heap.get? c = some o → h'.get? c = some o) → St1 0 h'
  b2 : ∀ h', (∀ c o, s.heap.get? c = some o → h'.get? c = some o) → St2 0 h'
  f1 : s.heap.objs.size ∉ fp1
  f2 : s.heap.objs.size ∉ fp2
theorem zCollect {s : Shared} {Q : List Value → Shared → Prop} {E : Value → Shared → Prop} (Z : Zip0 X pins H s z TI TO i1 i2 fp1 fp2 n1 n2 P1 P2 St1 St2 xs ys) (I : Inv X pins σ H s) (hh : A.handled = none)
    (q : ∀ (s' : Shared) (G' : Hp) (ts : List Addr) (acc : List Value), Inv X pins σ G' s' → Same H G' → ts.length = min n1 n2 → Prs G' ts xs ys → (∀ t ∈ ts, H t = none) → Vals (ts.map V.ref) acc → Q acc s') : wpAny (model X.prog X.w) A (collect (.ref z)) Q E s := by
  have zl : z < s.heap.objs.size := Heap.lt_size Z.zip
  unfold collect
  refine wpAny_bind (wpAny_runValue (codeAny_builtin F.entry_proto_collect ?_))
  rw [Around.under_plainId F.plain_proto_collect _]
  show wpAny _ A.in1 (newList [] >>= fun l => again (.builtin "list.__iadd__" ⟨[l, .ref z], []⟩)) _ _ s
  refine wpAny_bind (wpAny_newObj_type ?_)
  have k1 : ∀ b o, s.heap.get? b = some o → (s.heap.push { cls := .type "list", data := .seq ([] : List Value).toArray }).get? b = some o := fun b o u => Heap.get?_push_of_some _ u
  have eD : (s.heap.push { cls := .type "list", data := .seq ([] : List Value).toArray }).get? s.heap.objs.size = some { cls := .type "list", data := .seq ([] : List Value).toArray } := Heap.get?_push_size _ rfl
  refine wpAny_pure ⟨plainId_quiet F.plain_list_iadd _, zIadd (X := X) (TI := TI) (TO := TO) (s := { s with heap := s.heap.push { cls := .type "list", data := .seq ([] : List Value).toArray } }) (k1 _ _ Z.zip) (Nat.ne_of_gt zl) eD fun g3 k3 e3 => ?_⟩
  obtain ⟨c0, e3⟩ := e3
  have kall : ∀ b o, s.heap.get? b = some o → g3.get? b = some o := fun b o u => k3 b o (Nat.ne_of_lt (Heap.lt_size u)) (k1 b o u)
  have hD : H s.heap.objs.size = none := I.hok.fresh (Nat.le_refl _)
  have I3 : Inv X pins σ (upd H s.heap.objs.size (.lst [])) { s with heap := g3 } := I.laid (t' := s.toks) kall (Nat.le_refl _) (show ObjOk X.prog X.w _ _ _ (.lst []) from ⟨Nat.zero_le _, [], c0, .nil, e3⟩)
  obtain ⟨ta, tb, hTO⟩ := Z.hTO
  have live : ∀ b ∈ [z, TI, TO, i1, i2], b < s.heap.objs.size := fun b hb => by
    have hb : b = z ∨ b = TI ∨ b = TO ∨ b = i1 ∨ b = i2 := by simpa using hb
    rcases hb with e | e | e | e | e
    · rw [e]; exact zl
    · rw [e]; exact Heap.lt_size Z.hTI
    · rw [e]; exact Heap.lt_size hTO
    · rw [e]; obtain ⟨_, e⟩ := (Z.D1 A hh).live _ _ (Z.b1 _ fun _ _ e => e); exact Heap.lt_size e
    · rw [e]; obtain ⟨_, e⟩ := (Z.D2 A hh).live _ _ (Z.b2 _ fun _ _ e => e); exact Heap.lt_size e
  refine zLoop Z.S (Z.D1 _ hh) (Z.D2 _ hh) rfl Z.sz Z.r1 Z.r2 (D := s.heap.objs.size) (xs := xs) (ys := ys) Z.f1 Z.f2 hD (fun s' G' ts I' sm gD lt pr nw => ?_) (min n1 n2) 0 _ (upd H s.heap.objs.size (.lst [])) [] (by omega) (Nat.zero_le _) I3 (fun b hb => ?_) ⟨⟨_, kall _ _ hTO⟩, .inl ⟨kall _ _ Z.zip, _, _, kall _ _ hTO⟩⟩ (kall _ _ Z.hTI) (fun T f oT e1 e2 => ?_) (Z.b1 _ kall) (Z.b2 _ kall)
    (fun t o u => by rw [upd_ne (ne_of_none u hD)]; exact u) upd_same rfl (fun j t x y u => by simp at u) (fun t h => absurd h List.not_mem_nil)
  · obtain ⟨_, its, c1, rw', _, raw⟩ := I'.lstM gD
    show wpAny _ A (load s.heap.objs.size >>= _) _ _ s'
    refine wpAny_bind (wpAny_load raw ?_)
    exact wpAny_pure (q s' G' ts _ I' sm lt pr nw (by simpa using rw'))
  · refine ⟨?_, (Z.hf b hb).2⟩
    rw [upd_ne (Nat.ne_of_lt (live b hb))]
    exact (Z.hf b hb).1
  · have e := (kall _ _ Z.zip).symm.trans e1
    injection e with e
    injection e with _ _ e _
    injection e with e
    have q0 := congrArg (fun (t : Array Value) => t[0]?) e
    have q1 : some Value.none = some (rawInt (T : Int)) := q0
    injection q1 with q1
    cases q1
theorem zTuple {s : Shared} {Q' : Value → Shared → Prop} {E : Value → Shared → Prop} (Z : Zip0 X pins H s z TI TO i1 i2 fp1 fp2 n1 n2 P1 P2 St1 St2 xs ys) (I : Inv X pins σ H s) (hh : A.handled = none)
    (q : ∀ (s' : Shared) (G' : Hp) (ts : List Addr) (acc : List Value), Inv X pins σ G' s' → Same H G' → ts.length = min n1 n2 → Prs G' ts xs ys → (∀ t ∈ ts, H t = none) → Vals (ts.map V.ref) acc →
      Q' (.ref s'.heap.objs.size) { s' with heap := s'.heap.push { cls := .type "tuple", data := .seq acc.toArray } }) :
    codeAny (model X.prog X.w) A (.call (.builtin "tuple.__new__") ⟨[.type "tuple", .ref z], []⟩) (wants Q' E) s := by
  refine codeAny_of_tree ?_
  show wpAny _ A.in1 (do checkBuiltinCall "tuple.__new__" ⟨[.type "tuple", .ref z], []⟩; again (.builtin "tuple.__new__" ⟨[.type "tuple", .ref z], []⟩)) _ _ s
  refine wpAny_bind (wpAny_of_eq (F.newCall_tuple_1 _) (wpAny_pure ⟨plainId_quiet F.plain_tuple_new _, codeAny_builtin F.entry_tuple_new ?_⟩))
  rw [Around.under_plainId F.plain_tuple_new _]
  have hsub := sub_tuple_self
  have hinit := init_tuple_lookup
  have hmh := madeHere_tuple
  have hty : s.TypeIs (.ref z) "zip" := ⟨_, Z.zip, rfl⟩
  have hh1 : A.in1.handled = none := hh
  wp_walk using wpAny_typeOf hty, zCollect Z I hh1
  intro s' G' ts acc q1 q2 q3 q4 q5 q6
  show wpAny _ _ (Builtin.Tuple.tupleExact acc.toArray >>= fun v => ret v) _ _ _
  have sz : acc.toArray.size ≤ sizeLine := by
    have h1 := q6.length
    have h2 := Z.sz
    rw [List.length_map] at h1
    rw [List.size_toArray]
    omega
  exact wpAny_bind (m := Builtin.Tuple.tupleExact acc.toArray) (wpAny_newObj_type (wpAny_pure (q s' G' ts acc q1 q2 q3 q4 q5 q6)) sz)
theorem zCall {s : Shared} {Q' : Value → Shared → Prop} {E : Value → Shared → Prop} (Z : Zip0 X pins H s z TI TO i1 i2 fp1 fp2 n1 n2 P1 P2 St1 St2 xs ys) (I : Inv X pins σ H s) (hh : A.handled = none)
    (q : ∀ (s' : Shared) (G' : Hp) (ts : List Addr) (acc : List Value), Inv X pins σ G' s' → Same H G' → ts.length = min n1 n2 → Prs G' ts xs ys → (∀ t ∈ ts, H t = none) → Vals (ts.map V.ref) acc →
      Q' (.ref s'.heap.objs.size) { s' with heap := s'.heap.push { cls := .type "tuple", data := .seq acc.toArray } }) :
    wpAny (model X.prog X.w) A (call (.type "tuple") [.ref z]) Q' E s := by
  refine callType_codes (Q₁ := fun o s1 => s1.TypeIs o "tuple" ∧ Q' o s1) F.called_tuple (F.typeCall_tuple_1 _) F.entry_object_init
    (zTuple Z I hh fun s' G' ts acc q1 q2 q3 q4 q5 q6 => ⟨⟨_, Heap.get?_push_size _ rfl, rfl⟩, q s' G' ts acc q1 q2 q3 q4 q5 q6⟩) fun o s1 h1 => ?_
  exact ⟨h1.1, F.args_object_init_2 o _, object_init_meets F.called_tuple.init.lookup F.called_tuple.made (by decide) X.prog X.w A.in1 _ s1 ⟨h1.1, rfl, h1.2⟩⟩
end
section
variable {X : Cx}
/-- what tuple(zip(a, b)) asks -/
def tZipT (K : PySem.W.Frag) (ta : TA) : TE := fun σ H Q => ta σ H fun vs G => ∃ (a b : Addr) (xs ys : List V), vs = [.ref a, .ref b] ∧ SqT K G a xs ∧ SqT K G b ys ∧
  ∀ (q : Addr) (ts : List Addr) (F : Hp), Same G F → F q = none → ts.length = min xs.length ys.length → Prs F ts xs ys → (∀ t ∈ ts, G t = none) → Q (.ref q) (upd F q (.tup (ts.map V.ref)))
theorem pe_tupZip {K : PySem.W.Frag} {e e2 : Expr} {ta : TA} {p p2 pos pos2 : Pos} (hK : X.K = K) (hc : X.calm = true) (hg : Gl X "tuple") (hm : X.mg "tuple" = none) (hg2 : Gl X "zip") (hm2 : X.mg "zip" = none) (ha : PA X [e, e2] ta)
    (hs : starEach [e, e2] X.env = (false, eval e X.env) :: starEach [e2] X.env := by rfl) (hpl : (backTo pos2 (starEach [e2] X.env)).any (·.1) = false := by rfl)
    (hs2 : starEach [.Call (.Name "zip" p2) [e, e2] [] pos2] X.env = (false, eval (.Call (.Name "zip" p2) [e, e2] [] pos2) X.env) :: starEach [] X.env := by rfl) :
    PE X (.Call (.Name "tuple" p) [.Call (.Name "zip" p2) [e, e2] [] pos2] [] pos) (tZipT K ta) := by
  subst hK
  refine ⟨fun pins s σ H Q I h => ?_⟩
  refine Call_ (ld_blt I hg hm PyProof.Rows.boot_tuple (PyProof.Rows.callWith_type1 (args_cons (Call_ (ld_blt I hg2 hm2 PyProof.Rows.boot_zip (PyProof.Rows.callWith_type1 (thn (ha.run pos2 pins s σ H _ I h) fun us s1 ⟨vs, G, I1, rr, a, b, xs, ys, ev, sx, sy, q⟩ => ?_) hs hpl))) hs2) hs2 rfl))
  subst ev
  cases rr with
  | cons ra rr =>
    cases rr with
    | cons rb rr =>
      cases rr
      cases ra
      cases rb
      have hd : X.A.handled = none := I1.ok.hd hc
      obtain ⟨its, rv, p1, z1⟩ := I1.tuple sx
      obtain ⟨jts, rw, p2, z2⟩ := I1.tuple sy
      have l1 : a < s1.heap.objs.size := let ⟨_, e, _⟩ := p1; Heap.lt_size e
      have l2 : b < s1.heap.objs.size := let ⟨_, e, _⟩ := p2; Heap.lt_size e
      have p1 : s1.heap.IsTuple a its.toArray := p1
      have p2 : s1.heap.IsTuple b jts.toArray := p2
      have n1 := rv.length
      have n2 := rw.length
      refine zip_begins2 (begins_tuple a its.toArray) (begins_tuple b jts.toArray) p1 p2 fun h' hz0 hTI hTO e1 e2 sz kp => ?_
      refine args_nil ?_
      have I2 : Inv X pins σ G { s1 with heap := h' } := I1.kept kp
      generalize hB : s1.heap.objs.size = B at *
      have hle : B ≤ h'.objs.size := by omega
      have Z : Zip0 X pins G { s1 with heap := h' } (B + 4) (B + 2) (B + 3) B (B + 1) [B, a] [B + 1, b] its.toArray.size jts.toArray.size _ _ _ _ xs ys :=
        ⟨sepN B a b l1 l2, fun A' h => .tuple h _ a (Nat.ne_of_lt l1) its.toArray, fun A' h => .tuple h _ b (Nat.ne_of_lt (Nat.lt_succ_of_lt l2)) jts.toArray, by rw [List.size_toArray]; omega,
          fun i v e => vback rv (by simpa using e), fun i v e => vback rw (by simpa using e), fun c hc => by
            have hc : c = B + 4 ∨ c = B + 2 ∨ c = B + 3 ∨ c = B ∨ c = B + 1 := by simpa using hc
            have l0 := inN B c hc
            rw [← hB] at l0
            exact I1.fpOk l0.1 (I1.hok.fresh l0.1), hz0, hTI, ⟨_, _, hTO⟩, fun h2 k => ⟨⟨_, k _ _ e1, rfl, rfl⟩, p1.at fun o u => k _ _ (kp _ _ u)⟩, fun h2 k => ⟨⟨_, k _ _ e2, rfl, rfl⟩, p2.at fun o u => k _ _ (kp _ _ u)⟩,
          ninN _ _ _ (by show B < h'.objs.size; omega) (Nat.lt_of_lt_of_le l1 hle), ninN _ _ _ (by show B + 1 < h'.objs.size; omega) (Nat.lt_of_lt_of_le l2 hle)⟩
      refine zCall Z I2 hd fun s' G' ts acc q1 q2 q3 q4 q5 q6 => ?_
      have fr : G' s'.heap.objs.size = none := q1.hok.fresh (Nat.le_refl _)
      have lt : ts.length = min xs.length ys.length := by rw [q3, List.size_toArray, List.size_toArray, n1, n2]
      have new : ObjOk X.prog X.w (upd G' s'.heap.objs.size (.tup (ts.map V.ref))) (s'.heap.push { cls := .type "tuple", data := .seq acc.toArray }) s'.heap.objs.size (.tup (ts.map V.ref)) := ⟨by rw [List.length_map]; omega, acc, q6, ⟨_, Heap.get?_push_size _ rfl, rfl, _, rfl⟩⟩
      exact ⟨.ref _, _, q1.laid (t' := s'.toks) (fun b u e => Heap.get?_push_of_some _ e) (Nat.le_refl _) new, rfl, q _ ts G' q2 fr lt q4 q5⟩
end
end Kz

/-! listed_tables -/
namespace Kq
open PySem PySem.Spec PyProof.Rows L2 Kf Kg Kv GxR Kk
abbrev tLTabs : Stmt := tp 28
theorem rows_len {xs ys : List Dt} (h : xs.length = ys.length) : (rows xs ys).length = xs.length := by
  unfold rows
  rw [List.length_zipWith]
  omega
section
variable {P : Program} {w : World} {K : PySem.W.Frag} {mg : Str → Option Value} {base : Heap} {T : List Addr}
/-- the rows that a zip lays -/
theorem rows_ddl {H : Hp} : ∀ {ts : List Addr} {xs ys : List V} {ds es : List Dt}, ts.length = min xs.length ys.length → Kz.Prs H ts xs ys → DdL Non H ds xs → DdL Non H es ys → DdL Non H (rows ds es) (ts.map V.ref)
  | [], [], _, _, _, _, _, .nil, _ => .nil
  | [], _ :: _, [], _, _, _, _, .cons _ _, .nil => .nil
  | [], _ :: _, _ :: _, _, _, l, _, _, _ => by simp at l
  | t :: ts, [], _, _, _, l, _, _, _ => by simp at l
  | t :: ts, _ :: _, [], _, _, l, _, _, _ => by simp at l
  | t :: ts, x :: xs, y :: ys, _, _, l, p, .cons dx dxs, .cons dy dys => by
    have ht := p 0 t x y rfl rfl rfl
    have l2 : ts.length = min xs.length ys.length := by
      simp only [List.length_cons] at l
      omega
    exact .cons (.tup ht (.cons dx (.cons dy .nil))) (rows_ddl l2 (fun j t' x' y' e1 e2 e3 => p (j + 1) t' x' y' e1 e2 e3) dxs dys)
abbrev nLT : List Str := ["kind", "sizes", "bound", "asked", "told", "runs", "place"]
theorem scLT : FnScope nLT psMany (defScope tLTabs) := ⟨rfl, rfl, rfl, by decide +kernel, rfl, by decide +kernel, by decide +kernel⟩
def spLT (T : List Addr) (n : Nat) : Sp := fun vs H Q _ => ∃ (vk : V) (p : Addr) (s u : Kd) (sz : List (Str × Int)) (b : Nat), vs = [vk, .ref p, .int (b : Nat)] ∧ s.dp + 1 ≤ n ∧ u.dp + 1 ≤ n ∧ knd (.fn s u) = true ∧ lng sz b (.fn s u) = false ∧ Rp H (.fn s u) vk ∧ Sz H p sz ∧ SzB sz ∧ b ≤ 3 ∧ mny sz b (.fn s u) ≤ 300 ∧ mny sz b (.fn s u) ≠ 0 ∧ TbS T H ∧
  ∀ (a : Addr) (us : List V) (G : Hp), Sm T H G → G a = some (.tup us) → DdL Non G (lw sz b (.fn s u)) us → Q (.ref a) G
theorem okLT {f c tbl fI fN : Addr} {fd fdI fdN : FuncData} {n k : Nat} (F : FunC K "listed_tables" "listed_tables" tLTabs f fd c) (TB : TabB base mg c tbl) (hp : tbl ∈ T)
    (GI : FnOk P w K mg base CX0 (k + 3) fI fdI psMany (spListed T n)) (bI : Binds K fdI psMany []) (gI : mg "listed" = some (.ref fI)) (kI : PySem.W.keepIn K (.ref fI) = true)
    (GN : FnOk P w K mg base CX0 (k + 3) fN fdN ["runs", "worths"] (spLonger K)) (bN : Binds K fdN ["runs", "worths"] []) (gN : mg "longer" = some (.ref fN)) (kN : PySem.W.keepIn K (.ref fN) = true)
    (mr : mg "range" = none) (mt : mg "tuple" = none) (ml : mg "len" = none) (mz : mg "zip" = none) : FnOk P w K mg base CX0 (k + 4) f fd psMany (spLT T n) := by
  refine F.ok scLT (fun vs H Q E h => ?_) (fun A outer s H vs Q E hr h => ?_)
  · obtain ⟨vk, p, s, u, sz, b, rfl, _⟩ := h
    rfl
  obtain ⟨vk, p, s', u', sz, b, rfl, hn1, hn2, hdt, hlg, rk, hz, hB, hb, hm, hpos, tb, q⟩ := h
  refine ⟨_, pss_cons (ps_set (i := 3) scLT.nd rfl (.inr rfl) (pe_call GI hr (by rfl) gI kI bI .nil pass0 (pa_cons (pe_ix ix_tup (pv 0) pe_int (fun _ _ => rfl)) (pa_cons (pv 1) (pa_cons (pv 2) pa_nil)))))
    (pss_cons (ps_if (pt_not (pt_truth (pv 3) (by intro _; rfl))) (pss_one (ps_ret (pe_tup (pa_cons (pe_tup (pa_cons pe_str (pa_cons (pe_tup pa_nil) pa_nil))) pa_nil)))) pss_nil)
    (pss_cons (ps_set (i := 4) scLT.nd rfl (.inl rfl) (pe_call GI hr (by rfl) gI kI bI .nil pass0 (pa_cons (pe_ix ix_tup (pv 0) pe_int (fun _ _ => rfl)) (pa_cons (pv 1) (pa_cons (pv 2) pa_nil)))))
    (pss_cons (ps_set (i := 5) scLT.nd rfl (.inl rfl) (pe_lst (pa_cons (pe_tup pa_nil) pa_nil)))
    (pss_cons (ps_for PassesOwn.never rfl (pi_range1 (by rfl) mr (pa_cons (pe_callB call_len_seq (by rfl) ml PySem.boot_len (pa_cons (pv 3) pa_nil)) pa_nil)) (pg_name (i := 6) scLT.nd rfl (.inl rfl))
      (pss_one (ps_set (i := 5) scLT.nd rfl (.inl rfl) (pe_call GN hr (by rfl) gN kN bN .nil pass0 (pa_cons (pv 5) (pa_cons (pv 4) pa_nil))))))
    (pss_one (ps_ret (pe_tupG (k := k) (pgen_gx (c := c) (P := tbl) (own := ["run"]) (caps := [("asked", 3)]) (vs := [0]) (g := gName 0) (hr.mono (by omega)) TB rfl
      (gxS_by (N := nLT) (sc := defScope tLTabs) (by decide +kernel)) (pi_list (pv 5))
      (fun _ _ _ _ _ _ _ => pg_name (i := 0) (show (["run", "asked"] : List Str).Nodup by decide +kernel) rfl (.inl rfl))
      (fun _ _ _ _ _ _ _ => pe_tup (pa_cons pe_str (pa_cons (Kz.pe_tupZip (K := K) rfl rfl (by rfl) mt (by rfl) mz (pa_cons (pv 1) (pa_cons (pv 0) pa_nil))) pa_nil)))) hr (by rfl) mt PyProof.Rows.boot_tuple))))))), ?_⟩
  obtain ⟨hd1, hd2⟩ := Bool.and_eq_true_iff.mp (show (s'.data && knd u') = true from hdt)
  obtain ⟨ka, kx, ky, rfl, hk, rs, ru⟩ := rk
  have hm : mny sz b u' ^ mny sz b s' ≤ 300 := hm
  have hpos : mny sz b u' ^ mny sz b s' ≠ 0 := hpos
  have hl1 : mny sz b s' ≤ 300 ∧ (mny sz b s' ≠ 0 → lng sz b u' = false) := by
    have h : (decide (mny sz b u' ^ mny sz b s' ≠ 0) && (decide (300 < mny sz b s') || (decide (mny sz b s' ≠ 0) && lng sz b u'))) = false := hlg
    rw [decide_eq_true hpos, Bool.true_and, Bool.or_eq_false_iff] at h
    refine ⟨Nat.le_of_not_lt (of_decide_eq_false h.1), fun z => ?_⟩
    have h2 := h.2
    rw [decide_eq_true z, Bool.true_and] at h2
    exact h2
  refine ⟨_, rfl, ka, _, _, _, rfl, rfl, SqT.of hk, atI_nat (j := 1) rfl, _, rfl, _, rfl, kx, p, s', sz, b, rfl, hn1, knd_data hd1, lng_data hd1, rs, hz, hB, hb, hl1.1, tb, fun a us G sG ga da => ?_⟩
  have lus : us.length = mny sz b s' := by rw [← da.len, lw_len]
  refine ⟨_, rfl, _, .inr (.inl ⟨_, SqT.of ga, rfl⟩), ite2 (fun e => ?_) (fun e => ?_)⟩
  · have e0 : us = [] := by simpa using e
    have m0 : mny sz b s' = 0 := by rw [← lus, e0]; rfl
    have el : lw sz b (.fn s' u') = [.tup [.str "table", .tup []]] := by
      show (runs (lw sz b u') (mny sz b s')).map _ = _
      rw [m0]
      show [Dt.tup [.str "table", .tup (rows (lw sz b s') [])]] = _
      unfold rows
      rw [List.zipWith_nil_right]
    refine ⟨Nat.zero_le _, fun t1 n1 => ⟨(by show 2 ≤ sizeLine; decide), fun t2 n2 => ⟨(by show 1 ≤ sizeLine; decide), fun t3 n3 => ?_⟩⟩⟩
    have s1 := newS (o := .tup []) n1
    have s2 := newS (o := .tup [V.str "table", .ref t1]) n2
    have s3 := newS (o := .tup [V.ref t2]) n3
    refine q t3 _ _ (sG.trans (Sm.of ((s1.trans s2).trans s3) sG.2)) upd_same ?_
    rw [el]
    exact .cons (.tup (s3 _ _ upd_same) (.cons (.str _) (.cons (.tup (s3 _ _ (s2 _ _ upd_same)) .nil) .nil))) .nil
  have mpos : mny sz b s' ≠ 0 := fun z => e (by
    have : us = [] := List.length_eq_zero_iff.mp (lus.trans z)
    rw [this]
    rfl)
  have up : 1 ≤ mny sz b u' := Nat.one_le_iff_ne_zero.mpr fun z => hpos (by rw [z, Nat.zero_pow (Nat.pos_of_ne_zero mpos)])
  have pw : ∀ i, i ≤ mny sz b s' → mny sz b u' ^ i ≤ 300 := fun i hi => Nat.le_trans (Nat.pow_le_pow_right up hi) hm
  have hu : mny sz b u' ≤ 300 := by
    have := pw 1 (Nat.one_le_iff_ne_zero.mpr mpos)
    rwa [Nat.pow_one] at this
  have hkG := sG.at tb hk fun _ z => by cases z
  refine ⟨_, rfl, ka, _, _, _, rfl, rfl, SqT.of hkG, atI_nat (j := 2) rfl, _, rfl, _, rfl, ky, p, u', sz, b, rfl, hn2, hd2, hl1.2 mpos, ru.tk (fun b xs e => sG.at tb e fun _ z => by cases z), hz.sm tb sG, hB, hb, hu, sG.2, fun a2 us2 G2 s2 g2 d2 => ?_⟩
  have gaA := s2.at sG.2 ga fun _ z => by cases z
  have daA := da.kn (s2.kn sG.2)
  have sA := sG.trans s2
  have tb2 := s2.2
  have lus2 : us2.length = mny sz b u' := by rw [← d2.len, lw_len]
  refine ⟨Nat.zero_le _, fun t0 nt0 => ⟨(by show 1 ≤ sizeLine; decide), fun r0 nr0 => ?_⟩⟩
  have st := newS (o := .tup []) nt0
  have sr := newS (o := .lst [V.ref t0]) nr0
  have gt := sr _ _ (show (upd G2 t0 (.tup [])) t0 = some (.tup []) from upd_same)
  have gr0 : (upd (upd G2 t0 (.tup [])) r0 (.lst [V.ref t0])) r0 = some (.lst [V.ref t0]) := upd_same
  have s12 : Same G2 (upd (upd G2 t0 (.tup [])) r0 (.lst [V.ref t0])) := st.trans sr
  have sB := sA.trans (Sm.of s12 sA.2)
  have gaB := s12 _ _ gaA
  have daB := daA.same s12
  have g2B := s12 _ _ g2
  have d2B := d2.same s12
  generalize upd (upd G2 t0 (.tup [])) r0 (.lst [V.ref t0]) = G3 at gt gr0 sB gaB daB g2B d2B
  refine ⟨_, rfl, a, us, rfl, .inr (SqT.of gaB), _, rfl, by omega, by omega, ?_⟩
  rw [show ((us.length : Nat) : Int).toNat = us.length from Int.toNat_natCast _]
  have tag : ∀ r : List Dt, r.length ≤ 300 → True := fun _ _ => trivial
  refine for_range (fun i σ G => ∃ (r : Addr) (y : Option V) (rs : List V), σ = [some (.ref ka), some (.ref p), some (.int (b : Nat)), some (.ref a), some (.ref a2), some (.ref r), y] ∧ i ≤ us.length ∧ Sm T H G ∧ G a = some (.tup us) ∧ DdL Non G (lw sz b s') us ∧ G a2 = some (.tup us2) ∧ DdL Non G (lw sz b u') us2 ∧ G r = some (.lst rs) ∧ DdL Non G ((runs (lw sz b u') i).map Dt.tup) rs)
    ⟨r0, none, [V.ref t0], rfl, Nat.zero_le _, sB, gaB, daB, g2B, d2B, gr0, .cons (.tup gt .nil) .nil⟩ (fun i σ G hi z => ?_) (fun σ G z => ?_)
  · obtain ⟨r, y, rs, rfl, _, sG, ga, da, g2, d2, gr, dR⟩ := z
    have li : (runs (lw sz b u') i).length ≤ 300 := by
      rw [runs_len, lw_len]
      exact pw i (by omega)
    refine ⟨_, rfl, _, rfl, r, a2, runs (lw sz b u') i, lw sz b u', rs, us2, rfl, gr, SqT.of g2, (fun G' s' => SqT.of (s' _ _ g2)), dR, d2, ?_, ?_, fun r2 out2 G3 s3 nr2 gr2 dr2 => ?_⟩
    · rw [lw_len]
      exact Nat.le_trans (Nat.mul_le_mul li hu) (by decide)
    · intro x hx
      have := (runs_each hx).1
      omega
    · exact ⟨r2, _, _, rfl, hi, sG.trans (Sm.of s3 sG.2), s3 _ _ ga, da.same s3, s3 _ _ g2, d2.same s3, gr2, dr2⟩
  obtain ⟨r, y, rs, rfl, _, sG, ga, da, g2, d2, gr, dR⟩ := z
  rw [lus] at dR
  have tbG := sG.2
  have lrs : rs.length = (runs (lw sz b u') (mny sz b s')).length := by rw [← dR.len, List.length_map]
  have lrs2 : rs.length ≤ 300 := by
    rw [lrs, runs_len, lw_len]
    exact hm
  refine ⟨_, rfl, r, rfl, ⟨_, SqL.of gr⟩, tbG tbl hp, fun H2 htab => ?_⟩
  have s3 : Sm T G H2 := Sm.tab hp tbG htab
  have ga3 := s3.at tbG ga fun _ z => by cases z
  have gr3 := s3.at tbG gr fun _ z => by cases z
  have da3 := da.kn (s3.kn tbG)
  have dR3 := dR.kn (s3.kn tbG)
  refine Kz.turnsY_l (xs := rs) (fun i ys G => Sm T H2 G ∧ ys.length = i ∧ DdL Non G (((runs (lw sz b u') (mny sz b s')).take i).map fun r => Dt.tup [.str "table", .tup (rows (lw sz b s') r)]) ys) ⟨Sm.refl s3.2, rfl, .nil⟩ (fun i ys G hi z => by have := z.2.1; exact small6' (by omega)) (fun i ys G _ z => SqL.of (z.1.at s3.2 gr3 fun _ z => by cases z)) (fun i x ys G hx z => ?_) (fun ys G z r hr => ?_)
  · obtain ⟨sF, ly, dl⟩ := z
    obtain ⟨x', hx', dx⟩ := dR3.get hx
    rw [List.getElem?_map] at hx'
    obtain ⟨run, hrun, rfl⟩ := Option.map_eq_some_iff.mp hx'
    obtain ⟨xa, xv, rfl, gx, dxs⟩ := Kv.Dd.tupS dx
    have gaF := sF.at s3.2 ga3 fun _ z => by cases z
    have gxF := sF.at s3.2 gx fun _ z => by cases z
    have kF := sF.kn (N := Non) s3.2
    refine ⟨rfl, _, rfl, _, rfl, a, xa, us, xv, rfl, SqT.of gaF, SqT.of gxF, fun q1 ts F sF2 nq lts prs nts => ?_⟩
    refine ⟨(by show 2 ≤ sizeLine; decide), fun r nr => ?_⟩
    have s4 := newS (o := .tup (ts.map V.ref)) nq
    have s5 := newS (o := .tup [V.str "table", .ref q1]) nr
    have sx := (sF2.trans s4).trans s5
    refine ⟨sF.trans (Sm.of sx sF.2), by rw [List.length_append, ly]; rfl, ?_⟩
    rw [List.take_add_one, hrun, List.map_append]
    have rd := rows_ddl (H := upd (upd F q1 (.tup (ts.map V.ref))) r (.tup [V.str "table", .ref q1])) lts (fun j t x y e1 e2 e3 => s5 _ _ (s4 _ _ (prs j t x y e1 e2 e3))) ((da3.kn kF).same sx) ((dxs.kn kF).same sx)
    exact (dl.same sx).app (.cons (.tup upd_same (.cons (.str _) (.cons (.tup (s5 _ _ upd_same) rd) .nil))) .nil)
  · obtain ⟨sF, _, dl⟩ := z
    have sn := newS (o := .tup ys) hr
    rw [lrs, List.take_length] at dl
    exact q r ys _ (sG.trans (s3.trans (sF.trans (Sm.of sn sF.2)))) upd_same (dl.same sn)
end
end Kq

/-! listed -/
namespace Kq
open PySem PySem.Spec PyProof.Rows L2 Kf Kg Kv GxR Kk
theorem ddl_map {α : Type} {N : Addr → Prop} {H : Hp} {f : α → Dt} {g : α → V} (h : ∀ a, Dd N H (f a) (g a)) : ∀ xs : List α, DdL N H (xs.map f) (xs.map g)
  | [] => .nil
  | x :: xs => .cons (h x) (ddl_map h xs)
theorem rgV_up (b : Nat) : rgV 0 (((b : Nat) : Int) + 1) = (List.range (b + 1)).map fun i => V.int (i : Nat) := by
  unfold rgV
  rw [show (((b : Nat) : Int) + 1 - 0).toNat = b + 1 by omega]
  refine List.map_congr_left fun i _ => ?_
  rw [Int.zero_add]
section
variable {P : Program} {w : World} {K : PySem.W.Frag} {mg : Str → Option Value} {base : Heap} {T : List Addr}
abbrev nListed : List Str := ["kind", "sizes", "bound", "word", "ones", "others", "one", "other"]
theorem scListed : FnScope nListed psMany (defScope tListed) := ⟨rfl, rfl, rfl, by decide +kernel, rfl, by decide +kernel, by decide +kernel⟩
theorem okListed1 {f c tbl fM fT fL fB : Addr} {fd fdM fdT fdL fdB : FuncData} {n k : Nat} (F : FunC K "listed" "listed" tListed f fd c) (TB : TabB base mg c tbl) (hp : tbl ∈ T) (bF : Binds K fd psMany []) (gF : mg "listed" = some (.ref f)) (kF : PySem.W.keepIn K (.ref f) = true)
    (GM : FnOk P w K mg base CX0 (k + 3) fM fdM psMany (spMany (n + 1))) (bM : Binds K fdM psMany []) (gM : mg "many_worths" = some (.ref fM)) (kM : PySem.W.keepIn K (.ref fM) = true)
    (GT : FnOk P w K mg base CX0 (k + 3) fT fdT ["sizes", "name"] spThings) (bT : Binds K fdT ["sizes", "name"] []) (gT : mg "things_of" = some (.ref fT)) (kT : PySem.W.keepIn K (.ref fT) = true)
    (GL : FnOk P w K mg base CX0 (k + 3) fL fdL psMany (spLL T n)) (bL : Binds K fdL psMany []) (gL : mg "listed_lists" = some (.ref fL)) (kL : PySem.W.keepIn K (.ref fL) = true)
    (GB : FnOk P w K mg base CX0 (k + 3) fB fdB psMany (spLT T n)) (bB : Binds K fdB psMany []) (gB : mg "listed_tables" = some (.ref fB)) (kB : PySem.W.keepIn K (.ref fB) = true)
    (GI : FnOk P w K mg base CX0 (k + 3) f fd psMany (spListed T n)) (mr : mg "range" = none) (mt : mg "tuple" = none) : FnOk P w K mg base CX0 (k + 4) f fd psMany (spListed T (n + 1)) := by
  refine F.ok scListed (fun vs H Q E h => ?_) (fun A outer s H vs Q E hr h => ?_)
  · obtain ⟨vk, p, t, sz, b, rfl, _⟩ := h
    rfl
  obtain ⟨vk, p, t, sz, b, rfl, hn, hdt, hlg, rk, hz, hB, hb, hm, tb, q⟩ := h
  refine ⟨_, pss_cons (ps_if (pt_cmpR op_eq (pe_call GM hr (by rfl) gM kM bM .nil pass0 (pa_cons (pv 0) (pa_cons (pv 1) (pa_cons (pv 2) pa_nil)))) pe_int (nomark _)) (pss_one (ps_ret (pe_tup pa_nil))) pss_nil)
    (pss_cons (ps_set (i := 3) scListed.nd rfl (.inl rfl) (pe_ix ix_tup (pv 0) pe_int (fun _ _ => rfl)))
    (pss_cons (ps_if (pt_cmpR op_eq (pv 3) pe_str (nomark _)) (pss_one (ps_ret (pe_tupG (k := k) (pgen_gx (c := c) (P := tbl) (own := ["number"]) (caps := [("kind", 0)]) (vs := [0]) (g := gName 0) (hr.mono (by omega)) TB rfl
      (gxS_by (N := nListed) (sc := defScope tListed) (by decide +kernel)) (pi_range1 (by rfl) mr (pa_cons (pe_call GT hr (by rfl) gT kT bT .nil pass0 (pa_cons (pv 1) (pa_cons (pe_ix ix_tup (pv 0) pe_int (fun _ _ => rfl)) pa_nil))) pa_nil))
      (fun _ _ _ _ _ _ _ => pg_name (i := 0) (show (["number", "kind"] : List Str).Nodup by decide +kernel) rfl (.inl rfl))
      (fun _ _ _ _ _ _ _ => pe_tup (pa_cons pe_str (pa_cons (pe_ix (ixTK K rfl) (pv 1) pe_int (fun _ _ => rfl)) (pa_cons (pv 0) pa_nil))))) hr (by rfl) mt PyProof.Rows.boot_tuple))) pss_nil)
    (pss_cons (ps_if (pt_cmpR op_eq (pv 3) pe_str (nomark _)) (pss_one (ps_ret (pe_tupRg (by rfl) (by rfl) mt (prg_1 (by rfl) mr (pe_op op_add (pv 2) pe_int))))) pss_nil)
    (pss_cons (ps_if (pt_cmpR op_eq (pv 3) pe_str (nomark _)) (pss_one (ps_ret (pe_tup (pa_cons pe_bl (pa_cons pe_bl pa_nil))))) pss_nil)
    (pss_cons (ps_if (pt_cmpR op_eq (pv 3) pe_str (nomark _)) (pss_one (ps_ret (pe_call GL hr (by rfl) gL kL bL .nil pass0 (pa_cons (pv 0) (pa_cons (pv 1) (pa_cons (pv 2) pa_nil)))))) pss_nil)
    (pss_cons (ps_if (pt_cmpR op_eq (pv 3) pe_str (nomark _)) (pss_one (ps_ret (pe_call GB hr (by rfl) gB kB bB .nil pass0 (pa_cons (pv 0) (pa_cons (pv 1) (pa_cons (pv 2) pa_nil)))))) pss_nil)
    (pss_cons (ps_set (i := 4) scListed.nd rfl (.inl rfl) (pe_call GI hr (by rfl) gF kF bF .nil pass0 (pa_cons (pe_ix ix_tup (pv 0) pe_int (fun _ _ => rfl)) (pa_cons (pv 1) (pa_cons (pv 2) pa_nil)))))
    (pss_cons (ps_set (i := 5) scListed.nd rfl (.inr rfl) (pe_call GI hr (by rfl) gF kF bF .nil pass0 (pa_cons (pe_ix ix_tup (pv 0) pe_int (fun _ _ => rfl)) (pa_cons (pv 1) (pa_cons (pv 2) pa_nil)))))
    (pss_cons (ps_if (pt_cmpR op_eq (pv 3) pe_str (nomark _)) (pss_one (ps_ret (pe_callTy call_tuple_of (by rfl) mt PyProof.Rows.boot_tuple (pa_cons (pe_op op_cat
      (pe_lc (own := [("one", 6)]) (g := gName 6) (tt := tYes) rfl scListed.nd (pi_tup (pv 4)) (blkOk_by (own := [("one", 6)]) (N := nListed) (sc := defScope tListed) (by decide +kernel)) (fun _ _ _ _ _ => pg_name (i := 6) scListed.nd rfl (.inl rfl)) (fun _ _ _ _ _ => pts_nil) (fun _ _ _ _ _ => pe_tup (pa_cons pe_str (pa_cons (pv 6) pa_nil))))
      (pe_lc (own := [("other", 7)]) (g := gName 7) (tt := tYes) rfl scListed.nd (pi_tup (pv 5)) (blkOk_by (own := [("other", 7)]) (N := nListed) (sc := defScope tListed) (by decide +kernel)) (fun _ _ _ _ _ => pg_name (i := 7) scListed.nd rfl (.inl rfl)) (fun _ _ _ _ _ => pts_nil) (fun _ _ _ _ _ => pe_tup (pa_cons pe_str (pa_cons (pv 7) pa_nil))))) pa_nil)))) pss_nil)
    (pss_one (ps_ret (pe_tupG (k := k) (pgen_gx2 (c := c) (P := tbl) (own := ["one", "other"]) (caps := [("others", 5)]) (vs := [0, 1]) (vs1 := [1]) (g := gName 0) (g1 := gName 1) (hr.mono (by omega)) TB rfl
      (gxS_by (N := nListed) (sc := defScope tListed) (by decide +kernel)) (pi_tup (pv 4))
      (fun _ _ _ _ _ _ _ => pg_name (i := 0) (show (["one", "other", "others"] : List Str).Nodup by decide +kernel) rfl (.inl rfl))
      (fun _ _ _ _ _ _ _ => pe_tup (pa_cons pe_str (pa_cons (pv 0) (pa_cons (pv 1) pa_nil))))
      (fun _ _ _ _ _ _ _ => Kz.pi_tupK K rfl (pv 2))
      (fun _ _ _ _ _ _ _ => pg_name (i := 1) (show (["one", "other", "others"] : List Str).Nodup by decide +kernel) rfl (.inl rfl)) (by decide)) hr (by rfl) mt PyProof.Rows.boot_tuple)))))))))))), ?_⟩
  refine ⟨_, rfl, _, rfl, _, rfl, vk, p, t, sz, b, rfl, hn, hdt, rk, hz, hB, hb, fun G0 s0 => ⟨rfl, _, rfl, ite2 (fun e => ?_) (fun e => ?_)⟩⟩
  · have e : ((cutN (mny sz b t) : Nat) : Int) = 0 := V.int.inj (of_decide_eq_true e)
    have e0 : lw sz b t = [] := by
      refine List.length_eq_zero_iff.mp ?_
      rw [lw_len]
      unfold cutN at e
      omega
    refine ⟨Nat.zero_le _, fun a na => q a [] _ (Sm.of (s0.trans (newS na)) tb) upd_same ?_⟩
    rw [e0]
    exact .nil
  have hpos : mny sz b t ≠ 0 := fun z => e (by rw [z]; rfl)
  have rk0 := rk.tk (Tk.of s0)
  have hz0 := hz.same s0
  have tb0 := tb.same s0
  have q0 : ∀ (a : Addr) (us : List V) (G : Hp), Sm T G0 G → G a = some (.tup us) → DdL Non G (lw sz b t) us → Q (.ref a) G := fun a us G sG => q a us G ((Sm.of s0 tb).trans sG)
  clear s0 rk hz tb q
  obtain ⟨ka, us, rfl, hk, hks⟩ := rk0.see
  refine ⟨_, rfl, ka, _, _, _, rfl, rfl, SqT.of hk, atI_nat (j := 0) rfl, ?_⟩
  cases t with
  | fn s u =>
    refine ⟨_, rfl, rfl, _, rfl, ite2 (fun e => absurd e (wne (by simp only [Kd.word]; decide +kernel))) (fun _ => ⟨_, rfl, rfl, _, rfl, ite2 (fun e => absurd e (wne (by simp only [Kd.word]; decide +kernel))) (fun _ => ⟨_, rfl, rfl, _, rfl, ite2 (fun e => absurd e (wne (by simp only [Kd.word]; decide +kernel))) (fun _ => ⟨_, rfl, rfl, _, rfl, ite2 (fun e => absurd e (wne (by simp only [Kd.word]; decide +kernel))) (fun _ => ⟨_, rfl, rfl, _, rfl, ite2 (fun _ => ?_) (fun e => absurd (decide_eq_true rfl) e)⟩)⟩)⟩)⟩)⟩
    have hn2 : max s.dp u.dp + 1 + 1 ≤ n + 1 := hn
    exact ⟨_, rfl, _, rfl, _, rfl, _, p, s, u, sz, b, rfl, by omega, by omega, hdt, hlg, rk0, hz0, hB, hb, hm, hpos, tb0, q0⟩
  | opn y =>
    obtain ⟨ka', ek, hk4⟩ := rk0
    obtain rfl : ka = ka' := V.ref.inj ek
    have hl := (hB.look y).1
    have hm : (look sz y).toNat ≤ 300 := hm
    refine ⟨_, rfl, rfl, _, rfl, ite2 (fun _ => ?_) (fun e => absurd (decide_eq_true rfl) e)⟩
    refine ⟨_, rfl, _, rfl, ka, _, _, _, rfl, rfl, SqT.of hk4, atI_nat (j := 1) rfl, p, sz, y, rfl, hz0, _, rfl, by omega, by omega, tb0 tbl hp, fun H2 htab => ?_⟩
    have s2 : Sm T G0 H2 := Sm.tab hp tb0 htab
    have hk2 := s2.at tb0 hk4 fun _ z => by cases z
    refine Kz.turnsY_r (fun i ys G => Sm T H2 G ∧ i ≤ (look sz y).toNat ∧ ys.length = i ∧ DdL Non G ((List.range i).map fun i => Dt.tup [.str "thing", .str y, .int (i : Nat)]) ys) ⟨Sm.refl s2.2, Nat.zero_le _, rfl, .nil⟩ (fun i ys G _ z => by have := z.2.2.1; exact small6' (by omega)) (fun i ys G hi z => ?_) (fun ys G z r hr => ?_)
    · obtain ⟨sG, _, ly, dl⟩ := z
      have hkG := sG.at s2.2 hk2 fun _ z => by cases z
      refine ⟨rfl, _, rfl, ka, _, _, _, rfl, rfl, SqT.of hkG, atI_nat (j := 1) rfl, _, rfl, (by show 3 ≤ sizeLine; decide), fun r nr => ?_⟩
      have sn := newS (o := .tup [V.str "thing", .str y, .int (0 + (i : Nat))]) nr
      refine ⟨sG.trans (Sm.of sn sG.2), hi, by rw [List.length_append, ly]; rfl, ?_⟩
      rw [List.range_succ, List.map_append]
      have e0 : (0 : Int) + (i : Nat) = (i : Nat) := Int.zero_add _
      rw [e0] at sn ⊢
      exact (dl.same sn).app (.cons (.tup upd_same (.cons (.str _) (.cons (.str _) (.cons (.int _) .nil)))) .nil)
    · obtain ⟨sG, _, ly, dl⟩ := z
      have sn := newS (o := .tup ys) hr
      exact q0 r ys _ ((s2.trans sG).trans (Sm.of sn sG.2)) upd_same (dl.same sn)
  | num =>
    refine ⟨_, rfl, rfl, _, rfl, ite2 (fun e => absurd e (wne (by simp only [Kd.word]; decide +kernel))) (fun _ => ⟨_, rfl, rfl, _, rfl, ite2 (fun _ => ?_) (fun e => absurd (decide_eq_true rfl) e)⟩)⟩
    refine ⟨_, rfl, _, _, rfl, rfl, _, rfl, RgOk.of_le (by omega) (by omega) (by omega) (by omega), fun a na => q0 a _ _ (Sm.of (newS na) tb0) upd_same ?_⟩
    rw [rgV_up]
    exact ddl_map (fun i => .int _) _
  | tru =>
    refine ⟨_, rfl, rfl, _, rfl, ite2 (fun e => absurd e (wne (by simp only [Kd.word]; decide +kernel))) (fun _ => ⟨_, rfl, rfl, _, rfl, ite2 (fun e => absurd e (wne (by simp only [Kd.word]; decide +kernel))) (fun _ => ⟨_, rfl, rfl, _, rfl, ite2 (fun _ => ?_) (fun e => absurd (decide_eq_true rfl) e)⟩)⟩)⟩
    exact ⟨(by show 2 ≤ sizeLine; decide), fun a na => q0 a _ _ (Sm.of (newS na) tb0) upd_same (.cons (.bl _) (.cons (.bl _) .nil))⟩
  | lst s =>
    refine ⟨_, rfl, rfl, _, rfl, ite2 (fun e => absurd e (wne (by simp only [Kd.word]; decide +kernel))) (fun _ => ⟨_, rfl, rfl, _, rfl, ite2 (fun e => absurd e (wne (by simp only [Kd.word]; decide +kernel))) (fun _ => ⟨_, rfl, rfl, _, rfl, ite2 (fun e => absurd e (wne (by simp only [Kd.word]; decide +kernel))) (fun _ => ⟨_, rfl, rfl, _, rfl, ite2 (fun _ => ?_) (fun e => absurd (decide_eq_true rfl) e)⟩)⟩)⟩)⟩
    have hn2 : s.dp + 1 + 1 ≤ n + 1 := hn
    exact ⟨_, rfl, _, rfl, _, rfl, _, p, s, sz, b, rfl, by omega, hdt, rk0, hz0, hB, hb, hm, tb0, q0⟩
  | pair s u =>
    obtain ⟨ka', kx, ky, ek, hk4, rs, ru⟩ := rk0
    obtain rfl : ka = ka' := V.ref.inj ek
    obtain ⟨hd1, hd2⟩ := Bool.and_eq_true_iff.mp (show (s.data && u.data) = true from hdt)
    have hn2 : max s.dp u.dp + 1 + 1 ≤ n + 1 := hn
    have opn : (∀ x ∈ s.opens, x ∈ (Kd.pair s u).opens) ∧ ∀ x ∈ u.opens, x ∈ (Kd.pair s u).opens := ⟨fun x hx => List.mem_append_left _ hx, fun x hx => List.mem_append_right _ hx⟩
    have hm : mny sz b s * mny sz b u ≤ 300 := hm
    have hpos : mny sz b s * mny sz b u ≠ 0 := hpos
    have p1 : 1 ≤ mny sz b s := Nat.one_le_iff_ne_zero.mpr fun z => hpos (by rw [z, Nat.zero_mul])
    have p2 : 1 ≤ mny sz b u := Nat.one_le_iff_ne_zero.mpr fun z => hpos (by rw [z, Nat.mul_zero])
    have hm1 : mny sz b s ≤ 300 := Nat.le_trans (Nat.le_mul_of_pos_right _ p2) hm
    have hm2 : mny sz b u ≤ 300 := Nat.le_trans (Nat.le_mul_of_pos_left _ p1) hm
    refine ⟨_, rfl, rfl, _, rfl, ite2 (fun e => absurd e (wne (by simp only [Kd.word]; decide +kernel))) (fun _ => ⟨_, rfl, rfl, _, rfl, ite2 (fun e => absurd e (wne (by simp only [Kd.word]; decide +kernel))) (fun _ => ⟨_, rfl, rfl, _, rfl, ite2 (fun e => absurd e (wne (by simp only [Kd.word]; decide +kernel))) (fun _ => ⟨_, rfl, rfl, _, rfl, ite2 (fun e => absurd e (wne (by simp only [Kd.word]; decide +kernel))) (fun _ => ⟨_, rfl, rfl, _, rfl, ite2 (fun e => absurd e (wne (by simp only [Kd.word]; decide +kernel))) (fun _ => ?_)⟩)⟩)⟩)⟩)⟩
    refine ⟨_, rfl, ka, _, _, _, rfl, rfl, SqT.of hk4, atI_nat (j := 1) rfl, _, rfl, _, rfl, kx, p, s, sz, b, rfl, by omega, knd_data hd1, lng_data hd1, rs, hz0, hB, hb, hm1, tb0, fun a1 us1 G1 s1 g1 d1 => ?_⟩
    have hk5 := s1.at tb0 hk4 fun _ z => by cases z
    have tb1 := s1.2
    refine ⟨_, rfl, ka, _, _, _, rfl, rfl, SqT.of hk5, atI_nat (j := 2) rfl, _, rfl, _, rfl, ky, p, u, sz, b, rfl, by omega, knd_data hd2, lng_data hd2, ru.tk (fun b xs e => s1.at tb0 e fun _ z => by cases z), hz0.sm tb0 s1, hB, hb, hm2, tb1, fun a2 us2 G2 s2 g2 d2 => ?_⟩
    have s12 := s1.trans s2
    have g12 := s2.at tb1 g1 fun _ z => by cases z
    have d12 := d1.kn (s2.kn tb1)
    have tb2 := s2.2
    have l1 : us1.length = mny sz b s := by rw [← d1.len, lw_len]
    have l2 : us2.length = mny sz b u := by rw [← d2.len, lw_len]
    refine ⟨_, rfl, rfl, _, rfl, ite2 (fun e => absurd e (wne (by simp only [Kd.word]; decide +kernel))) (fun _ => ?_)⟩
    refine ⟨_, rfl, a1, rfl, ⟨_, SqT.of g12⟩, tb2 tbl hp, fun H2 htab => ?_⟩
    have s3 : Sm T G2 H2 := Sm.tab hp tb2 htab
    have g13 := s3.at tb2 g12 fun _ z => by cases z
    have g23 := s3.at tb2 g2 fun _ z => by cases z
    have d13 := d12.kn (s3.kn tb2)
    have d23 := d2.kn (s3.kn tb2)
    refine Kz.turnsZ_t (xs := us1) (fun i ys G => Sm T H2 G ∧ ys.length = i * us2.length ∧ DdL Non G (((lw sz b s).take i).flatMap fun x => (lw sz b u).map fun y => Dt.tup [.str "pair", x, y]) ys) ⟨Sm.refl s3.2, by simp, .nil⟩ (fun i ys G _ z => SqT.of (z.1.at s3.2 g13 fun _ z => by cases z)) (fun i x ys G hx z => ?_) (fun ys G z r hr => ?_)
    · obtain ⟨sG, ly, dl⟩ := z
      obtain ⟨x', hx', dx⟩ := d13.get hx
      have hi := (List.getElem?_eq_some_iff.mp hx).1
      have g2G := sG.at s3.2 g23 fun _ z => by cases z
      have bnd : (i + 1) * us2.length ≤ 300 := by
        rw [l2]
        exact Nat.le_trans (Nat.mul_le_mul_right _ (by omega)) hm
      rw [Nat.add_mul, Nat.one_mul] at bnd
      refine ⟨rfl, _, rfl, a2, rfl, ⟨_, SqT.of g2G⟩, ?_⟩
      refine Kz.turnsY_t (xs := us2) (fun j ys G => Sm T H2 G ∧ j ≤ us2.length ∧ ys.length = i * us2.length + j ∧ DdL Non G (((lw sz b s).take i).flatMap (fun x => (lw sz b u).map fun y => Dt.tup [.str "pair", x, y]) ++ ((lw sz b u).take j).map fun y => Dt.tup [.str "pair", x', y]) ys) ⟨sG, Nat.zero_le _, ly, by simpa using dl⟩ (fun j ys G hj z => by have := z.2.2.1; exact small6' (by omega)) (fun j ys G _ z => SqT.of (z.1.at s3.2 g23 fun _ z => by cases z)) (fun j y ys G hy z => ?_) (fun ys G z => ?_)
      · obtain ⟨sF, _, ly2, dl2⟩ := z
        obtain ⟨y', hy', dy⟩ := d23.get hy
        have hj := (List.getElem?_eq_some_iff.mp hy).1
        refine ⟨rfl, _, rfl, _, rfl, (by show 3 ≤ sizeLine; decide), fun r nr => ?_⟩
        have sn := newS (o := .tup [V.str "pair", x, y]) nr
        refine ⟨sF.trans (Sm.of sn sF.2), hj, by rw [List.length_append, ly2, List.length_singleton, Nat.add_assoc], ?_⟩
        rw [List.take_add_one, hy', List.map_append, ← List.append_assoc]
        have kF := sF.kn (N := Non) s3.2
        exact (dl2.same sn).app (.cons (.tup upd_same (.cons (.str _) (.cons ((dx.kn kF).same sn) (.cons ((dy.kn kF).same sn) .nil)))) .nil)
      · obtain ⟨sF, _, ly2, dl2⟩ := z
        refine ⟨sF, by rw [ly2, Nat.add_mul, Nat.one_mul], ?_⟩
        rw [show us2.length = (lw sz b u).length from d2.len.symm, List.take_length] at dl2
        rw [take_flat hx']
        exact dl2
    · obtain ⟨sG, ly, dl⟩ := z
      have sn := newS (o := .tup ys) hr
      rw [show us1.length = (lw sz b s).length from d1.len.symm, List.take_length] at dl
      exact q0 r ys _ (s12.trans (s3.trans (sG.trans (Sm.of sn sG.2)))) upd_same (dl.same sn)
  | eith s u =>
    obtain ⟨ka', kx, ky, ek, hk4, rs, ru⟩ := rk0
    obtain rfl : ka = ka' := V.ref.inj ek
    obtain ⟨hd1, hd2⟩ := Bool.and_eq_true_iff.mp (show (s.data && u.data) = true from hdt)
    have hn2 : max s.dp u.dp + 1 + 1 ≤ n + 1 := hn
    have opn : (∀ x ∈ s.opens, x ∈ (Kd.eith s u).opens) ∧ ∀ x ∈ u.opens, x ∈ (Kd.eith s u).opens := ⟨fun x hx => List.mem_append_left _ hx, fun x hx => List.mem_append_right _ hx⟩
    have hm : mny sz b s + mny sz b u ≤ 300 := hm
    have hm1 : mny sz b s ≤ 300 := by omega
    have hm2 : mny sz b u ≤ 300 := by omega
    refine ⟨_, rfl, rfl, _, rfl, ite2 (fun e => absurd e (wne (by simp only [Kd.word]; decide +kernel))) (fun _ => ⟨_, rfl, rfl, _, rfl, ite2 (fun e => absurd e (wne (by simp only [Kd.word]; decide +kernel))) (fun _ => ⟨_, rfl, rfl, _, rfl, ite2 (fun e => absurd e (wne (by simp only [Kd.word]; decide +kernel))) (fun _ => ⟨_, rfl, rfl, _, rfl, ite2 (fun e => absurd e (wne (by simp only [Kd.word]; decide +kernel))) (fun _ => ⟨_, rfl, rfl, _, rfl, ite2 (fun e => absurd e (wne (by simp only [Kd.word]; decide +kernel))) (fun _ => ?_)⟩)⟩)⟩)⟩)⟩
    refine ⟨_, rfl, ka, _, _, _, rfl, rfl, SqT.of hk4, atI_nat (j := 1) rfl, _, rfl, _, rfl, kx, p, s, sz, b, rfl, by omega, knd_data hd1, lng_data hd1, rs, hz0, hB, hb, hm1, tb0, fun a1 us1 G1 s1 g1 d1 => ?_⟩
    have hk5 := s1.at tb0 hk4 fun _ z => by cases z
    have tb1 := s1.2
    refine ⟨_, rfl, ka, _, _, _, rfl, rfl, SqT.of hk5, atI_nat (j := 2) rfl, _, rfl, _, rfl, ky, p, u, sz, b, rfl, by omega, knd_data hd2, lng_data hd2, ru.tk (fun b xs e => s1.at tb0 e fun _ z => by cases z), hz0.sm tb0 s1, hB, hb, hm2, tb1, fun a2 us2 G2 s2 g2 d2 => ?_⟩
    have s12 := s1.trans s2
    have g12 := s2.at tb1 g1 fun _ z => by cases z
    have d12 := d1.kn (s2.kn tb1)
    have tb2 := s2.2
    have l1 : us1.length = mny sz b s := by rw [← d1.len, lw_len]
    have l2 : us2.length = mny sz b u := by rw [← d2.len, lw_len]
    refine ⟨_, rfl, rfl, _, rfl, ite2 (fun _ => ?_) (fun e => absurd (decide_eq_true rfl) e)⟩
    refine ⟨_, rfl, a1, rfl, ⟨_, SqT.of g12⟩, fun D nD => ?_⟩
    have step : ∀ (F : Hp) (D : Addr) (out : List V) (ds : List Dt) (wd : Str) (x : V) (x' : Dt), F D = some (.lst out) → DdL Non F ds out → Dd Non F x' x → out.length ≤ 300 → ∀ t, F t = none → ∃ acc, (upd F t (.tup [V.str wd, x])) D = some (.lst acc) ∧ acc.length < sizeLine ∧ Same F (upd F t (.tup [V.str wd, x])) ∧
        (upd (upd F t (.tup [V.str wd, x])) D (.lst (acc ++ [.ref t]))) D = some (.lst (acc ++ [.ref t])) ∧ DdL Non (upd (upd F t (.tup [V.str wd, x])) D (.lst (acc ++ [.ref t]))) (ds ++ [Dt.tup [.str wd, x']]) (acc ++ [.ref t]) := fun F D out ds wd x x' gD dd dx lo t nt => by
      have stt := newS (o := .tup [V.str wd, x]) nt
      have gD2 := stt _ _ gD
      have nt2 : ∀ xs, (upd F t (.tup [V.str wd, x])) D ≠ some (.tup xs) := fun xs e => by
        rw [gD2] at e
        cases e
      have kt : Kn Non F (upd (upd F t (.tup [V.str wd, x])) D (.lst (out ++ [.ref t]))) := (Kn.of stt).trans (Kn.rfl.put (fun z => z) nt2)
      have td : (upd (upd F t (.tup [V.str wd, x])) D (.lst (out ++ [.ref t]))) t = some (.tup [V.str wd, x]) := by
        rw [upd_ne (fun z => by rw [z, gD] at nt; cases nt)]
        exact upd_same
      exact ⟨out, gD2, small6' (by omega), stt, upd_same, (dd.kn kt).app (.cons (.tup td (.cons (.str _) (.cons (dx.kn kt) .nil))) .nil)⟩
    refine lc_tup (xs := us1) (fun j F => Same G2 F ∧ ∃ out, F D = some (.lst out) ∧ DdL Non F (((lw sz b s).take j).map fun x => Dt.tup [.str "left", x]) out) ⟨newS nD, [], upd_same, .nil⟩ (fun j F _ z => SqT.of (z.1 _ _ g12)) (fun j x F hx z => ?_) (fun F z => ?_)
    · obtain ⟨sF, out, gD, dd⟩ := z
      obtain ⟨x', hx', dx⟩ := d12.get hx
      have lj := (List.getElem?_eq_some_iff.mp hx).1
      have lo := dd.len
      rw [List.length_map, List.length_take] at lo
      refine ⟨rfl, _, rfl, (by show 2 ≤ sizeLine; decide), fun t nt => ?_⟩
      obtain ⟨acc, e1, e2, e3, e4, e5⟩ := step F D out _ "left" x x' gD dd (dx.same sF) (by omega) t nt
      refine ⟨acc, e1, e2, smk (sF.trans e3) nD, _, e4, ?_⟩
      rw [List.take_add_one, hx', List.map_append]
      exact e5
    · obtain ⟨sF, out, gD, dd⟩ := z
      rw [show us1.length = (lw sz b s).length from d1.len.symm, List.take_length] at dd
      have lo := dd.len
      rw [List.length_map, lw_len] at lo
      refine ⟨_, rfl, a2, rfl, ⟨_, SqT.of (sF _ _ g2)⟩, fun D2 nD2 => ?_⟩
      have d2F := d2.same sF
      have g2F := sF _ _ g2
      refine lc_tup (xs := us2) (fun j F' => Same F F' ∧ ∃ out2, F' D2 = some (.lst out2) ∧ DdL Non F' (((lw sz b u).take j).map fun x => Dt.tup [.str "right", x]) out2) ⟨newS nD2, [], upd_same, .nil⟩ (fun j F' _ z => SqT.of (z.1 _ _ g2F)) (fun j x F' hx z => ?_) (fun F' z => ?_)
      · obtain ⟨sF', out2, gD2, dd2⟩ := z
        obtain ⟨x', hx', dx⟩ := d2F.get hx
        have lj := (List.getElem?_eq_some_iff.mp hx).1
        have lo2 := dd2.len
        rw [List.length_map, List.length_take] at lo2
        refine ⟨rfl, _, rfl, (by show 2 ≤ sizeLine; decide), fun t nt => ?_⟩
        obtain ⟨acc, e1, e2, e3, e4, e5⟩ := step F' D2 out2 _ "right" x x' gD2 dd2 (dx.same sF') (by omega) t nt
        refine ⟨acc, e1, e2, smk (sF'.trans e3) nD2, _, e4, ?_⟩
        rw [List.take_add_one, hx', List.map_append]
        exact e5
      · obtain ⟨sF', out2, gD2, dd2⟩ := z
        rw [show us2.length = (lw sz b u).length from d2.len.symm, List.take_length] at dd2
        have lo2 := dd2.len
        rw [List.length_map, lw_len] at lo2
        refine ⟨D, D2, out, out2, rfl, rfl, sF' _ _ gD, gD2, small6 (by omega), fun r nr => ?_⟩
        have sr := newS (o := .lst (out ++ out2)) nr
        refine ⟨r, _, rfl, .inl ⟨SqL.of upd_same, fun l nl => ?_⟩⟩
        have sl := newS (o := .tup (out ++ out2)) nl
        exact q0 l _ _ (s12.trans (Sm.of (((sF.trans sF').trans sr).trans sl) tb2)) upd_same ((((dd.same sF').same sr).same sl).app ((dd2.same sr).same sl))
end
end Kq

/-! leads, has_long_table, worths_of -/
namespace Kq
open PySem PySem.Spec PyProof.Rows L2 Kf Kg Kv GxR Kk
abbrev tWorths : Stmt := tp 20
/-- the class TooMany, as the written part has it -/
structure TM (K : PySem.W.Frag) (mg : Str → Option Value) (cN : Addr) : Prop where
  gP : mg "TooMany" = some (.ref cN)
  xP : PySem.W.excIn K cN [.type "ValueError", .type "Exception", .type "BaseException", .type "object"] "ValueError.__new__" = true
  kP : PySem.W.keepIn K (.ref cN) = true
  bP : PySem.W.subIn K (.ref cN) (.type "BaseException") = some true
  tP : PySem.W.typeIn K (.ref cN) = some (.type "type")
section
variable {P : Program} {w : World} {K : PySem.W.Frag} {mg : Str → Option Value} {base : Heap} {T : List Addr} {uM : Value} {cN : Addr}
theorem scLeads : FnScope ["kind"] ["kind"] (defScope tLeads) := ⟨rfl, rfl, rfl, by decide +kernel, rfl, by decide +kernel, by decide +kernel⟩
def spLeads : Sp := fun vs H Q _ => ∃ (vk : V) (t : Kd), vs = [vk] ∧ Rp H t vk ∧ Q (.bl t.isFn) H
theorem okLeads {f : Addr} {fd : FuncData} {k : Nat} (F : Fun K "leads" "leads" tLeads f fd) : FnOk P w K mg base CX0 (k + 1) f fd ["kind"] spLeads := by
  refine F.ok scLeads (fun vs H Q E h => ?_) (fun cdv A outer s H vs Q E hr h => ?_)
  · obtain ⟨vk, t, rfl, _⟩ := h
    rfl
  obtain ⟨vk, t, rfl, rk, q⟩ := h
  refine ⟨_, pss_one (ps_ret (pe_cmpR op_eq (pe_ix ix_tup (pv 0) pe_int (fun _ _ => rfl)) pe_str (nomark _))), ?_⟩
  obtain ⟨ka, us, rfl, hk, hks⟩ := rk.see
  refine ⟨_, rfl, ka, _, _, _, rfl, rfl, SqT.of hk, atI_nat (j := 0) rfl, rfl, ?_⟩
  have e : decide (V.str t.word = V.str "fun") = t.isFn := by
    rw [Kd.isFn_word]
  show Q (.bl (decide (V.str t.word = V.str "fun"))) H
  rw [e]
  exact q
abbrev nLong : List Str := ["kind", "sizes", "bound", "rest", "rows"]
theorem scLong : FnScope nLong psMany (defScope tLong) := ⟨rfl, rfl, rfl, by decide +kernel, rfl, by decide +kernel, by decide +kernel⟩
def spLong (n : Nat) : Sp := fun vs H Q _ => ∃ (vk : V) (p : Addr) (t : Kd) (sz : List (Str × Int)) (b : Nat), vs = [vk, .ref p, .int (b : Nat)] ∧ t.dp + 1 ≤ n ∧ knd t = true ∧ Rp H t vk ∧ Sz H p sz ∧ SzB sz ∧ b ≤ 3 ∧ ∀ G : Hp, Same H G → Q (.bl (lng sz b t)) G
theorem okLong {f fL fM : Addr} {fd fdL fdM : FuncData} {n k : Nat} (F : Fun K "has_long_table" "has_long_table" tLong f fd) (GL : FnOk P w K mg base CX0 k fL fdL ["kind"] spLeads) (bL : Binds K fdL ["kind"] []) (gL : mg "leads" = some (.ref fL)) (kL : PySem.W.keepIn K (.ref fL) = true)
    (GM : FnOk P w K mg base CX0 k fM fdM psMany (spMany n)) (bM : Binds K fdM psMany []) (gM : mg "many_worths" = some (.ref fM)) (kM : PySem.W.keepIn K (.ref fM) = true)
    (gO : mg "MOST" = some uM) (rM : RelV (.int 300) uM) : FnOk P w K mg base CX0 (k + 1) f fd psMany (spLong n) := by
  refine F.ok scLong (fun vs H Q E h => ?_) (fun cdv A outer s H vs Q E hr h => ?_)
  · obtain ⟨vk, p, t, sz, b, rfl, _⟩ := h
    rfl
  obtain ⟨vk, p, t, sz, b, rfl, hn, hd, rk, hz, hB, hb, q⟩ := h
  refine ⟨_, pss_cons (ps_set (i := 3) scLong.nd rfl (.inl rfl) (pv 0))
    (pss_cons (ps_while PassesOwn.never (PW.pt (pw_and (pt_val (pe_call GL hr (by rfl) gL kL bL .nil pass0 (pa_cons (pv 3) pa_nil))) (pw_and1 (pt_cmpR op_gt (pe_call GM hr (by rfl) gM kM bM .nil pass0 (pa_cons (pv 3) (pa_cons (pv 1) (pa_cons (pv 2) pa_nil)))) pe_int (nomark _)))))
      (pss_cons (ps_set (i := 4) scLong.nd rfl (.inl rfl) (pe_call GM hr (by rfl) gM kM bM .nil pass0 (pa_cons (pe_ix ix_tup (pv 3) pe_int (fun _ _ => rfl)) (pa_cons (pv 1) (pa_cons (pv 2) pa_nil)))))
      (pss_cons (ps_if (pt_cmpR op_gt (pv 4) (pe_glob (v := .int 300) (by rfl) gO rM) (nomark _)) (pss_one (ps_ret pe_bl)) pss_nil)
      (pss_cons (ps_if (pt_cmpR op_eq (pv 4) pe_int (nomark _)) (pss_one (ps_ret pe_bl)) pss_nil)
      (pss_one (ps_set (i := 3) scLong.nd rfl (.inl rfl) (pe_ix ix_tup (pv 3) pe_int (fun _ _ => rfl))))))))
    (pss_one (ps_ret pe_bl))), ?_⟩
  refine ⟨_, rfl, fun m σ G => ∃ (u : Kd) (vu : V) (y : Option V), m = u.dp ∧ σ = [some vk, some (.ref p), some (.int (b : Nat)), some vu, y] ∧ Same H G ∧ Rp G u vu ∧ knd u = true ∧ u.dp ≤ t.dp ∧ lng sz b u = lng sz b t, ⟨t.dp, t, vk, none, rfl, rfl, Same.refl _, rk, hd, Nat.le_refl _, rfl⟩, fun m σ G z => ?_⟩
  obtain ⟨u, vu, y, rfl, rfl, sG, ru, hu, du, el⟩ := z
  refine ⟨_, rfl, vu, u, rfl, ru, _, rfl, ite2 (fun e => ?_) (fun e => ?_)⟩
  · cases u with
    | opn _ => cases e
    | num => cases e
    | tru => cases e
    | pair _ _ => cases e
    | eith _ _ => cases e
    | lst _ => cases e
    | fn s' v =>
      have hn' : (Kd.fn s' v).dp + 1 ≤ n := by omega
      refine ⟨_, rfl, _, rfl, _, rfl, vu, p, .fn s' v, sz, b, rfl, hn', hu, ru, hz.same sG, hB, hb, fun G1 s1 => ⟨_, _, rfl, rfl, _, rfl, ite2 (fun e2 => ?_) (fun e2 => ?_)⟩⟩
      rotate_left
      · have m0 : mny sz b (.fn s' v) = 0 := by
          have e2 : ¬ (0 : Int) < ((cutN (mny sz b (.fn s' v)) : Nat) : Int) := fun z => e2 (decide_eq_true z)
          unfold cutN at e2
          omega
        have l0 : lng sz b (.fn s' v) = false := by
          show (decide (mny sz b (.fn s' v) ≠ 0) && _) = false
          rw [m0]
          rfl
        have z := q _ (sG.trans s1)
        rw [← el, l0] at z
        exact z
      have m1 : mny sz b (.fn s' v) ≠ 0 := by
        have e2 : (0 : Int) < ((cutN (mny sz b (.fn s' v)) : Nat) : Int) := of_decide_eq_true e2
        unfold cutN at e2
        omega
      have l1 : lng sz b (.fn s' v) = (decide (300 < mny sz b s') || (decide (mny sz b s' ≠ 0) && lng sz b v)) := by
        show (decide (mny sz b (.fn s' v) ≠ 0) && _) = _
        rw [decide_eq_true m1, Bool.true_and]
      obtain ⟨hd1, hd2⟩ := Bool.and_eq_true_iff.mp (show (s'.data && knd v) = true from hu)
      obtain ⟨ka, kx, ky, rfl, hk, rs, rv⟩ := ru
      have dm : max s'.dp v.dp + 1 = (Kd.fn s' v).dp := rfl
      refine ⟨fun σ' G' => ∃ m', m' < (Kd.fn s' v).dp ∧ _, fun σ' G' z => z, ?_⟩
      have hk1 := s1 _ _ hk
      have rs1 := rs.tk (Tk.of s1)
      have sG1 := sG.trans s1
      refine ⟨_, rfl, ka, _, _, _, rfl, rfl, SqT.of hk1, atI_nat (j := 1) rfl, _, rfl, _, rfl, kx, p, s', sz, b, rfl, by omega, knd_data hd1, rs1, hz.same sG1, hB, hb, fun G2 s2 => ?_⟩
      have sG2 := sG1.trans s2
      refine ⟨_, rfl, _, _, rfl, rfl, _, rfl, ite2 (fun e3 => ?_) (fun e3 => ?_)⟩
      · have h3 : 300 < mny sz b s' := by
          have e3 : (300 : Int) < ((cutN (mny sz b s') : Nat) : Int) := of_decide_eq_true e3
          unfold cutN at e3
          omega
        have z := q _ sG2
        rw [← el, l1, decide_eq_true h3, Bool.true_or] at z
        exact z
      have h3 : ¬ 300 < mny sz b s' := fun z => e3 (decide_eq_true (by
        show (300 : Int) < ((cutN (mny sz b s') : Nat) : Int)
        unfold cutN
        omega))
      refine ⟨_, rfl, rfl, _, rfl, ite2 (fun e4 => ?_) (fun e4 => ?_)⟩
      · have h4 : mny sz b s' = 0 := by
          have e4 : ((cutN (mny sz b s') : Nat) : Int) = 0 := V.int.inj (of_decide_eq_true e4)
          unfold cutN at e4
          omega
        have z := q _ sG2
        rw [← el, l1, h4] at z
        exact z
      have h4 : mny sz b s' ≠ 0 := fun z => e4 (by rw [z]; rfl)
      refine ⟨_, rfl, ka, _, _, _, rfl, rfl, SqT.of (s2 _ _ hk1), atI_nat (j := 2) rfl, v.dp, by omega, v, ky, _, rfl, rfl, sG2, rv.tk (Tk.of (s1.trans s2)), hd2, by omega, ?_⟩
      rw [← el, l1, decide_eq_false h3, decide_eq_true h4]
      rfl
  · have l0 : lng sz b u = false := by
      cases u with
      | fn _ _ => exact absurd rfl e
      | opn _ => rfl
      | num => rfl
      | tru => rfl
      | pair _ _ => rfl
      | eith _ _ => rfl
      | lst _ => rfl
    have z := q _ sG
    rw [← el, l0] at z
    exact z
theorem scWorths : FnScope psMany psMany (defScope tWorths) := ⟨rfl, rfl, rfl, by decide +kernel, rfl, by decide +kernel, by decide +kernel⟩
def spWorths (T : List Addr) (cN : Addr) (n : Nat) : Sp := fun vs H Q E => ∃ (vk : V) (p : Addr) (t : Kd) (sz : List (Str × Int)) (b : Nat), vs = [vk, .ref p, .int (b : Nat)] ∧ t.dp + 1 ≤ n ∧ knd t = true ∧ Rp H t vk ∧ Sz H p sz ∧ SzB sz ∧ b ≤ 3 ∧ TbS T H ∧
  (mny sz b t ≤ 300 → lng sz b t = false → ∀ (a : Addr) (us : List V) (G : Hp), Sm T H G → G a = some (.tup us) → DdL Non G (lw sz b t) us → Q (.ref a) G) ∧ (300 < mny sz b t ∨ lng sz b t = true → ∀ G : Hp, Same H G → E (.ref cN) none G)
theorem okWorths {f fM fH fI : Addr} {fd fdM fdH fdI : FuncData} {n k : Nat} (F : Fun K "worths_of" "worths_of" tWorths f fd) (tm : TM K mg cN)
    (GM : FnOk P w K mg base CX0 k fM fdM psMany (spMany n)) (bM : Binds K fdM psMany []) (gM : mg "many_worths" = some (.ref fM)) (kM : PySem.W.keepIn K (.ref fM) = true)
    (GH : FnOk P w K mg base CX0 k fH fdH psMany (spLong n)) (bH : Binds K fdH psMany []) (gH : mg "has_long_table" = some (.ref fH)) (kH : PySem.W.keepIn K (.ref fH) = true)
    (GI : FnOk P w K mg base CX0 k fI fdI psMany (spListed T n)) (bI : Binds K fdI psMany []) (gI : mg "listed" = some (.ref fI)) (kI : PySem.W.keepIn K (.ref fI) = true)
    (gO : mg "MOST" = some uM) (rM : RelV (.int 300) uM) : FnOk P w K mg base (L2.CX P w) (k + 1) f fd psMany (spWorths T cN n) := by
  refine F.okX scWorths (fun vs H Q E h => ?_) (fun cdv A outer s H vs Q E hr h => ?_)
  · obtain ⟨vk, p, t, sz, b, rfl, _⟩ := h
    rfl
  obtain ⟨vk, p, t, sz, b, rfl, hn, hdt, rk, hz, hB, hb, tb, q1, q2⟩ := h
  refine ⟨_, pss_cons (ps_if (pt_cmpR op_gt (pe_call GM hr (by rfl) gM kM bM .nil pass0 (pa_cons (pv 0) (pa_cons (pv 1) (pa_cons (pv 2) pa_nil)))) (pe_glob (v := .int 300) (by rfl) gO rM) (nomark _))
      (pss_one (ps_raise rfl (takes_of rfl rfl rfl rfl) (SkE.pmk_own1 PySem.F.excBase_ValueError tm.xP tm.gP tm.kP (raises_own tm.bP tm.tP) rfl (pe_joined (.cons pe_str (.cons (pe_fmt (pe_glob (v := .int 300) (by rfl) gO rM)) (.cons pe_str .nil))))))) pss_nil)
    (pss_cons (ps_if (pt_val (pe_call GH hr (by rfl) gH kH bH .nil pass0 (pa_cons (pv 0) (pa_cons (pv 1) (pa_cons (pv 2) pa_nil))))) (pss_one (ps_raise rfl (takes_of rfl rfl rfl rfl) (SkE.pmk_own1 PySem.F.excBase_ValueError tm.xP tm.gP tm.kP (raises_own tm.bP tm.tP) rfl (pe_joined (.cons pe_str (.cons (pe_fmt (pe_glob (v := .int 300) (by rfl) gO rM)) (.cons pe_str .nil))))))) pss_nil)
    (pss_one (ps_ret (pe_call GI hr (by rfl) gI kI bI .nil pass0 (pa_cons (pv 0) (pa_cons (pv 1) (pa_cons (pv 2) pa_nil))))))), ?_⟩
  refine ⟨_, rfl, _, rfl, _, rfl, vk, p, t, sz, b, rfl, hn, hdt, rk, hz, hB, hb, fun G sG => ?_⟩
  have cut300 : mny sz b t ≤ 300 → ((cutN (mny sz b t) : Nat) : Int) ≤ 300 := fun h => by
    unfold cutN
    omega
  have hi300 : 300 < mny sz b t → (300 : Int) < ((cutN (mny sz b t) : Nat) : Int) := fun h => by
    unfold cutN
    omega
  refine ⟨_, _, rfl, rfl, _, rfl, ite2 (fun e => ?_) (fun e => ?_)⟩
  · have e : (300 : Int) < ((cutN (mny sz b t) : Nat) : Int) := of_decide_eq_true e
    have h : 300 < mny sz b t := by
      rcases Nat.lt_or_ge 300 (mny sz b t) with h | h
      · exact h
      · have := cut300 h
        omega
    exact ⟨_, rfl, by decide +kernel, .inr ⟨_, rfl, by decide, _, rfl, by decide +kernel, _, rfl, by decide +kernel, q2 (.inl h) _ sG⟩⟩
  · have h : mny sz b t ≤ 300 := by
      rcases Nat.lt_or_ge 300 (mny sz b t) with h | h
      · exact absurd (decide_eq_true (hi300 h)) e
      · exact h
    have sA := Sm.of sG tb
    refine ⟨_, rfl, _, rfl, _, rfl, vk, p, t, sz, b, rfl, hn, hdt, rk.tk (Tk.of sG), hz.same sG, hB, hb, fun G1 s1 => ⟨_, rfl, ite2 (fun e => ?_) (fun e => ?_)⟩⟩
    · exact ⟨_, rfl, by decide +kernel, .inr ⟨_, rfl, by decide, _, rfl, by decide +kernel, _, rfl, by decide +kernel, q2 (.inr e) _ (sG.trans s1)⟩⟩
    have hl : lng sz b t = false := by simpa using e
    have sG1 := sG.trans s1
    have sA := Sm.of sG1 tb
    exact ⟨_, rfl, _, rfl, _, rfl, vk, p, t, sz, b, rfl, hn, hdt, hl, rk.tk (Tk.of sG1), hz.same sG1, hB, hb, h, tb.same sG1, fun a us G2 s2 => q1 h hl a us G2 (sA.trans s2)⟩
theorem okListed {f c tbl fM fT fL fN fB cB tblB : Addr} {fd fdM fdT fdL fdN fdB : FuncData} (F : FunC K "listed" "listed" tListed f fd c) (TB : TabB base mg c tbl) (hp : tbl ∈ T) (bF : Binds K fd psMany []) (gF : mg "listed" = some (.ref f)) (kF : PySem.W.keepIn K (.ref f) = true)
    (GM : ∀ n, FnOk P w K mg base CX0 (n + 2) fM fdM psMany (spMany n)) (bM : Binds K fdM psMany []) (gM : mg "many_worths" = some (.ref fM)) (kM : PySem.W.keepIn K (.ref fM) = true)
    (GT : ∀ k, FnOk P w K mg base CX0 (k + 1) fT fdT ["sizes", "name"] spThings) (bT : Binds K fdT ["sizes", "name"] []) (gT : mg "things_of" = some (.ref fT)) (kT : PySem.W.keepIn K (.ref fT) = true)
    (FL : Fun K "listed_lists" "listed_lists" tLLists fL fdL) (bL : Binds K fdL psMany []) (gL : mg "listed_lists" = some (.ref fL))
    (GN : ∀ k, FnOk P w K mg base CX0 (k + 1) fN fdN ["runs", "worths"] (spLonger K)) (bN : Binds K fdN ["runs", "worths"] []) (gN : mg "longer" = some (.ref fN)) (kN : PySem.W.keepIn K (.ref fN) = true)
    (FB : FunC K "listed_tables" "listed_tables" tLTabs fB fdB cB) (TBB : TabB base mg cB tblB) (hpB : tblB ∈ T) (bB : Binds K fdB psMany []) (gB : mg "listed_tables" = some (.ref fB)) (kB : PySem.W.keepIn K (.ref fB) = true)
    (mr : mg "range" = none) (mt : mg "tuple" = none) (ml : mg "len" = none) (mz : mg "zip" = none) : ∀ n, FnOk P w K mg base CX0 (8 * n + 4) f fd psMany (spListed T n)
  | 0 => noFn fun vs H Q E h => by
    obtain ⟨vk, p, t, sz, b, _, hn, _⟩ := h
    omega
  | n + 1 => by
    have I := okListed F TB hp bF gF kF GM bM gM kM GT bT gT kT FL bL gL GN bN gN kN FB TBB hpB bB gB kB mr mt ml mz n
    have L := okLL (k := 8 * n + 4) FL I bF gF kF (GN (8 * n + 3)) bN gN kN mr mt
    have B := okLT (k := 8 * n + 1) FB TBB hpB I bF gF kF (GN (8 * n + 3)) bN gN kN mr mt ml mz
    exact okListed1 (k := 8 * n + 8) F TB hp bF gF kF ((GM (n + 1)).mono (by omega)) bM gM kM (GT _) bT gT kT (L.mono (by omega)) bL gL FL.kp (B.mono (by omega)) bB gB kB (I.mono (by omega)) mr mt
end
end Kq

/-! the law's own powers -/
namespace Kq
open PySem PySem.Spec PyProof.Rows L2 Kf Kg Kv GxR Kk
abbrev tLPow : Stmt := tp 42
def cm (n : Nat) : Nat := min n 1000000
theorem cm_le (n : Nat) : cm n ≤ 1000000 := Nat.min_le_right _ _
theorem cm_lo {n : Nat} (h : n ≤ 1000000) : cm n = n := Nat.min_eq_left h
theorem e106 : ((10 : Int) ^ (6 : Int).toNat) = 1000000 := by decide
theorem cm_a {n : Nat} {i : Int} (h : i = (n : Int)) : (if ((10 : Int) ^ (6 : Int).toNat) < i then ((10 : Int) ^ (6 : Int).toNat) else i) = ((cm n : Nat) : Int) := by
  subst h
  rw [e106]
  unfold cm
  split <;> omega
theorem cm_b {n : Nat} {i : Int} (h : i = (n : Int)) : (if i < ((10 : Int) ^ (6 : Int).toNat) then i else ((10 : Int) ^ (6 : Int).toNat)) = ((cm n : Nat) : Int) := by
  subst h
  rw [e106]
  unfold cm
  split <;> omega
theorem cm_mul (a b : Nat) : cm (cm a * cm b) = cm (a * b) := cap_mul (by decide) a b
theorem cm_add (a b : Nat) : cm (cm a + cm b) = cm (a + b) := by
  unfold cm
  omega
theorem cm_pow (m n : Nat) : cm (cm m ^ cm n) = cm (m ^ n) := cap_pow (by decide) m n
theorem cm_step (m i : Nat) : cm (cm (m ^ i) * m) = cm (m ^ (i + 1)) := cap_step (by decide) m i
theorem cnt_hi {m : Nat} (h : 1 < m) (n : Nat) : cm (m ^ min n 20) = cm (m ^ n) := by
  by_cases h20 : n ≤ 20
  · rw [Nat.min_eq_left h20]
  rw [Nat.min_eq_right (by omega)]
  have a1 : 2 ^ 20 ≤ m ^ 20 := Nat.pow_le_pow_left h 20
  have a2 : m ^ 20 ≤ m ^ n := Nat.pow_le_pow_right (by omega) (by omega)
  have a3 : (2 : Nat) ^ 20 = 1048576 := by decide
  unfold cm
  omega
theorem cnt_lo {m : Nat} (h : ¬ 1 < m) (n : Nat) : m ^ min n 1 = m ^ n := by
  by_cases hn : n ≤ 1
  · rw [Nat.min_eq_left hn]
  rw [Nat.min_eq_right (by omega)]
  have : m = 0 ∨ m = 1 := by omega
  rcases this with rfl | rfl
  · rw [Nat.zero_pow (by omega), Nat.zero_pow (by omega)]
  · rw [Nat.one_pow, Nat.one_pow]
theorem mn_int (n c : Nat) : (if ((c : Nat) : Int) < ((n : Nat) : Int) then ((c : Nat) : Int) else ((n : Nat) : Int)) = ((min n c : Nat) : Int) := by
  split <;> omega
section
variable {P : Program} {w : World} {K : PySem.W.Frag} {mg : Str → Option Value} {base : Heap}
abbrev psPow : List Str := ["_law_base", "_law_many_here"]
theorem scLPow : FnScope ["_law_base", "_law_many_here", "_law_found", "_law_turn"] psPow (defScope tLPow) := ⟨rfl, rfl, rfl, by decide +kernel, rfl, by decide +kernel, by decide +kernel⟩
def spLPow : Sp := fun vs H Q _ => ∃ (m n : Nat) (i j : Int), vs = [.int i, .int j] ∧ i = (m : Int) ∧ j = (n : Int) ∧ m ≤ 1000000 ∧ Q (.int (cm (m ^ n) : Nat)) H
theorem okLPow {f : Addr} {fd : FuncData} {k : Nat} (F : Fun K "_law_power" "_law_power" tLPow f fd) (mr : mg "range" = none) (mm : mg "min" = none) : FnOk P w K mg base CX0 (k + 1) f fd psPow spLPow := by
  refine F.ok scLPow (fun vs H Q E h => ?_) (fun cdv A outer s H vs Q E hr h => ?_)
  · obtain ⟨m, n, i, j, rfl, _⟩ := h
    rfl
  obtain ⟨m, n, i, j, rfl, rfl, rfl, hm, q⟩ := h
  refine ⟨_, pss_cons (ps_set (i := 2) scLPow.nd rfl (.inl rfl) pe_int)
    (pss_cons (ps_for PassesOwn.never rfl (pi_range1 (by rfl) mr (pa_cons (pe_ifExp (pt_cmpR op_gt (pv 0) pe_int (nomark _)) (pe_callB (call_min2 rfl) (by rfl) mm (by decide +kernel) (pa_cons (pv 1) (pa_cons pe_int pa_nil))) (pe_callB (call_min2 rfl) (by rfl) mm (by decide +kernel) (pa_cons (pv 1) (pa_cons pe_int pa_nil)))) pa_nil)) (pg_name (i := 3) scLPow.nd rfl (.inl rfl))
      (pss_one (ps_set (i := 2) scLPow.nd rfl (.inl rfl) (pe_callB (call_min2 rfl) (by rfl) mm (by decide +kernel) (pa_cons (pe_op op_mul (pv 2) (pv 0)) (pa_cons (pe_op op_pow pe_int pe_int) pa_nil))))))
    (pss_one (ps_ret (pv 2)))), ?_⟩
  have cap : ∀ i, CMul ((cm (m ^ i) : Nat) : Int) ((m : Nat) : Int) := fun i => .inr ⟨by omega, by omega⟩
  refine ⟨_, rfl, _, _, rfl, rfl, _, rfl, ite2 (fun e => ?_) (fun e => ?_)⟩
  · have e : 1 < m := by
      have e : (1 : Int) < ((m : Nat) : Int) := of_decide_eq_true e
      omega
    obtain ⟨c, hc, hc2, hc3⟩ : ∃ c : Nat, (if (20 : Int) < ((n : Nat) : Int) then (20 : Int) else ((n : Nat) : Int)) = ((c : Nat) : Int) ∧ cm (m ^ c) = cm (m ^ n) ∧ c ≤ 20 := ⟨min n 20, mn_int n 20, cnt_hi e n, by omega⟩
    refine ⟨_, rfl, _, _, rfl, ?_⟩
    rw [hc]
    refine ⟨_, rfl, by omega, by omega, ?_⟩
    rw [show ((c : Nat) : Int).toNat = c from Int.toNat_natCast c]
    refine for_range (fun i σ G => G = H ∧ i ≤ c ∧ ∃ y, σ = [some (.int (m : Nat)), some (.int (n : Nat)), some (.int ((cm (m ^ i) : Nat) : Int)), y]) ⟨rfl, Nat.zero_le _, none, rfl⟩ (fun i σ G hi z => ?_) (fun σ G z => ?_)
    rotate_left
    · obtain ⟨rfl, _, y, rfl⟩ := z
      rw [hc2]
      exact ⟨_, rfl, q⟩
    obtain ⟨rfl, _, y, rfl⟩ := z
    refine ⟨_, rfl, _, rfl, _, _, rfl, rfl, cap i, _, _, rfl, rfl, ⟨by decide, by decide, by decide⟩, _, _, rfl, ?_⟩
    rw [cm_a (n := cm (m ^ i) * m) (by push_cast; rfl), cm_step]
    exact ⟨rfl, hi, _, rfl⟩
  · have e : ¬ 1 < m := fun z => e (decide_eq_true (by
      show (1 : Int) < ((m : Nat) : Int)
      omega))
    obtain ⟨c, hc, hc2, hc3⟩ : ∃ c : Nat, (if (1 : Int) < ((n : Nat) : Int) then (1 : Int) else ((n : Nat) : Int)) = ((c : Nat) : Int) ∧ cm (m ^ c) = cm (m ^ n) ∧ c ≤ 20 := ⟨min n 1, mn_int n 1, by rw [cnt_lo e n], by omega⟩
    refine ⟨_, rfl, _, _, rfl, ?_⟩
    rw [hc]
    refine ⟨_, rfl, by omega, by omega, ?_⟩
    rw [show ((c : Nat) : Int).toNat = c from Int.toNat_natCast c]
    refine for_range (fun i σ G => G = H ∧ i ≤ c ∧ ∃ y, σ = [some (.int (m : Nat)), some (.int (n : Nat)), some (.int ((cm (m ^ i) : Nat) : Int)), y]) ⟨rfl, Nat.zero_le _, none, rfl⟩ (fun i σ G hi z => ?_) (fun σ G z => ?_)
    rotate_left
    · obtain ⟨rfl, _, y, rfl⟩ := z
      rw [hc2]
      exact ⟨_, rfl, q⟩
    obtain ⟨rfl, _, y, rfl⟩ := z
    refine ⟨_, rfl, _, rfl, _, _, rfl, rfl, cap i, _, _, rfl, rfl, ⟨by decide, by decide, by decide⟩, _, _, rfl, ?_⟩
    rw [cm_a (n := cm (m ^ i) * m) (by push_cast; rfl), cm_step]
    exact ⟨rfl, hi, _, rfl⟩
end
end Kq

/-! the law's own counting -/
namespace Kq
open PySem PySem.Spec PyProof.Rows L2 Kf Kg Kv GxR Kk
abbrev tLMany : Stmt := tp 43
/-- sums of powers -/
theorem sum_cm (m : Nat) : ∀ j, cm (((List.range j).map fun l => cm (m ^ l)).sum) = cm (gm m j)
  | 0 => rfl
  | j + 1 => by
    rw [List.range_succ, List.map_append, List.sum_append, gm_next]
    have h := sum_cm m j
    simp only [List.map_cons, List.map_nil, List.sum_cons, List.sum_nil, Nat.add_zero]
    rw [← cm_add (((List.range j).map fun l => cm (m ^ l)).sum), h]
    unfold cm
    omega
theorem gm_cap (m b : Nat) : cm (gm (cm m) (b + 1)) = cm (gm m (b + 1)) := by
  by_cases h : m ≤ 1000000
  · rw [cm_lo h]
  have e : cm m = 1000000 := Nat.min_eq_right (by omega)
  rw [e]
  cases b with
  | zero => simp [gm]
  | succ b =>
    have k : ∀ n, 1000000 ≤ n → cm (gm n (b + 1 + 1)) = 1000000 := fun n hn => by
      have h1 := gm_mono n (i := 2) (j := b + 1 + 1) (by omega)
      have h2 : gm n 2 = n + 1 := by simp [gm]
      exact Nat.min_eq_right (by omega)
    rw [k 1000000 (Nat.le_refl _), k m (by omega)]
theorem sum_int (f : Nat → Nat) : ∀ j, (((List.range j).map fun l => ((f l : Nat) : Int)).sum) = ((((List.range j).map f).sum : Nat) : Int)
  | 0 => rfl
  | j + 1 => by
    rw [List.range_succ, List.map_append, List.sum_append, List.map_append, List.sum_append, sum_int f j]
    simp
section
variable {P : Program} {w : World} {K : PySem.W.Frag} {mg : Str → Option Value} {base : Heap}
abbrev psLMany : List Str := ["_law_kind", "_law_sizes_here", "_law_bound"]
abbrev nLMany : List Str := ["_law_kind", "_law_sizes_here", "_law_bound", "_law_one", "_law_long", "_law_other"]
theorem scLMany : FnScope nLMany psLMany (defScope tLMany) := ⟨rfl, rfl, rfl, by decide +kernel, rfl, by decide +kernel, by decide +kernel⟩
def spLMany (n : Nat) : Sp := fun vs H Q _ => ∃ (vk : V) (p : Addr) (t : Kd) (sz : List (Str × Int)) (b : Nat), vs = [vk, .ref p, .int (b : Nat)] ∧ t.dp + 1 ≤ n ∧ knd t = true ∧ Rp H t vk ∧ Sz H p sz ∧ SzB sz ∧ b ≤ 3 ∧ ∀ G : Hp, Same H G → Q (.int (cm (mny sz b t) : Nat)) G
theorem okLMany1 {f : Addr} {fd : FuncData} {n : Nat} (F : Fun K "_law_many" "_law_many" tLMany f fd) (bF : Binds K fd psLMany []) (gF : mg "_law_many" = some (.ref f)) {fP : Addr} {fdP : FuncData} (GP : FnOk P w K mg base CX0 (n + 1) fP fdP psPow spLPow) (bP : Binds K fdP psPow []) (gP : mg "_law_power" = some (.ref fP)) (kP : PySem.W.keepIn K (.ref fP) = true) (md : mg "dict" = none) (mr : mg "range" = none) (mm : mg "min" = none) (mS : mg "sum" = none)
    (GI : FnOk P w K mg base CX0 (n + 1) f fd psLMany (spLMany n)) : FnOk P w K mg base CX0 (n + 2) f fd psLMany (spLMany (n + 1)) := by
  refine F.ok scLMany (fun vs H Q E h => ?_) (fun cdv A outer s H vs Q E hr h => ?_)
  · obtain ⟨vk, p, t, sz, b, rfl, _⟩ := h
    rfl
  obtain ⟨vk, p, t, sz, b, rfl, hn, hdt, rk, hz, hB, hb, q⟩ := h
  have hu1 : (cxOf CX0 P w K mg base nLMany "_law_many" (defScope tLMany) f cdv A outer s H E).nox.A.units + 1 < cLine := hu_of hr
  refine ⟨_, pss_cons (ps_if (pt_cmpR op_eq (pe_ix ix_tup (pv 0) pe_int (fun _ _ => rfl)) pe_str (nomark _)) (pss_one (ps_ret (pe_dget2 hu1 (pe_callTy (Kt.call_dictF rfl) (by rfl) md PyProof.Rows.boot_dict (pa_cons (pv 1) pa_nil)) (pe_ix ix_tup (pv 0) pe_int (fun _ _ => rfl)) pe_int ⟨by rfl, by rfl, by rfl, by rfl⟩))) pss_nil)
    (pss_cons (ps_if (pt_cmpR op_eq (pe_ix ix_tup (pv 0) pe_int (fun _ _ => rfl)) pe_str (nomark _)) (pss_one (ps_ret (pe_op op_add (pv 2) pe_int))) pss_nil)
    (pss_cons (ps_if (pt_cmpR op_eq (pe_ix ix_tup (pv 0) pe_int (fun _ _ => rfl)) pe_str (nomark _)) (pss_one (ps_ret pe_int)) pss_nil)
    (pss_cons (ps_set (i := 3) scLMany.nd rfl (.inr rfl) (pe_call GI hr (by rfl) gF F.kp bF .nil pass0 (pa_cons (pe_ix ix_tup (pv 0) pe_int (fun _ _ => rfl)) (pa_cons (pv 1) (pa_cons (pv 2) pa_nil)))))
    (pss_cons (ps_if (pt_cmpR op_eq (pe_ix ix_tup (pv 0) pe_int (fun _ _ => rfl)) pe_str (nomark _))
      (pss_one (ps_ret (pe_callB (call_min2 rfl) (by rfl) mm (by decide +kernel) (pa_cons (pe_op op_pow pe_int pe_int) (pa_cons (pe_callB (cr_sum rfl) (by rfl) mS PyProof.Rows.boot_sum (pa_cons
        (pe_lc (own := [("_law_long", 4)]) (g := gName 4) (tt := tYes) (by rfl) scLMany.nd (pi_range1 (by rfl) mr (pa_cons (pe_op op_add (pv 2) pe_int) pa_nil)) (blkOk_by (own := [("_law_long", 4)]) (N := nLMany) (sc := defScope tLMany) (by decide +kernel))
          (fun _ _ _ _ _ => pg_name (i := 4) scLMany.nd rfl (.inl rfl)) (fun _ _ _ _ _ => pts_nil) (fun _ _ _ _ _ => pe_call GP hr (by rfl) gP kP bP .nil pass0 (pa_cons (pv 3) (pa_cons (pv 4) pa_nil)))) pa_nil)) pa_nil))))) pss_nil)
    (pss_cons (ps_set (i := 5) scLMany.nd rfl (.inl rfl) (pe_call GI hr (by rfl) gF F.kp bF .nil pass0 (pa_cons (pe_ix ix_tup (pv 0) pe_int (fun _ _ => rfl)) (pa_cons (pv 1) (pa_cons (pv 2) pa_nil)))))
    (pss_cons (ps_if (pt_cmpR op_eq (pe_ix ix_tup (pv 0) pe_int (fun _ _ => rfl)) pe_str (nomark _)) (pss_one (ps_ret (pe_call GP hr (by rfl) gP kP bP .nil pass0 (pa_cons (pv 5) (pa_cons (pv 3) pa_nil))))) pss_nil)
    (pss_one (ps_ret (pe_callB (call_min2 rfl) (by rfl) mm (by decide +kernel) (pa_cons (pe_op op_pow pe_int pe_int) (pa_cons (pe_ifExp (pt_cmpR op_eq (pe_ix ix_tup (pv 0) pe_int (fun _ _ => rfl)) pe_str (nomark _)) (pe_op op_mul (pv 3) (pv 5)) (pe_op op_add (pv 3) (pv 5))) pa_nil))))))))))), ?_⟩
  obtain ⟨ka, us, rfl, hk, hks⟩ := rk.see
  cases t with
  | opn y =>
    obtain ⟨ka', ek, hk4⟩ := rk
    obtain rfl : ka = ka' := V.ref.inj ek
    refine ⟨_, rfl, ka, _, _, _, rfl, rfl, SqT.of hk, atI_nat (j := 0) rfl, rfl, _, rfl, ite2 (fun _ => ?_) (fun e => absurd (decide_eq_true rfl) e)⟩
    obtain ⟨o, ps, hp, od, oc, pr⟩ := hz
    refine ⟨_, rfl, p, o, ps, szK sz, rfl, hp, od, oc, szK_pairs pr, fun dA ndA => ?_⟩
    have s4 := newS (o := .dK (mergeK [] (szK sz))) ndA
    refine ⟨dA, rfl, .inl ⟨_, .inl upd_same⟩, _, rfl, ka, _, _, _, rfl, rfl, SqT.of (s4 _ _ hk4), atI_nat (j := 1) rfl, _, DGet.k (k := .inr y) upd_same, ?_⟩
    have z := q _ s4
    have e : ((cm (mny sz b (.opn y)) : Nat) : Int) = look sz y := by
      have hl := hB.look y
      show ((cm (look sz y).toNat : Nat) : Int) = look sz y
      rw [cm_lo (by omega)]
      exact Int.toNat_of_nonneg hl.1
    rw [e] at z
    rw [szK_get hB.nd y]
    exact z
  | num =>
    refine ⟨_, rfl, ka, _, _, _, rfl, rfl, SqT.of hk, atI_nat (j := 0) rfl, rfl, _, rfl, ite2 (fun e => absurd e (wne (by simp only [Kd.word]; decide +kernel))) (fun _ => ⟨_, rfl, ka, _, _, _, rfl, rfl, SqT.of hk, atI_nat (j := 0) rfl, rfl, _, rfl, ite2 (fun _ => ?_) (fun e => absurd (decide_eq_true rfl) e)⟩)⟩
    refine ⟨_, rfl, _, _, rfl, rfl, ?_⟩
    have z := q _ (Same.refl _)
    rw [show cm (mny sz b .num) = b + 1 from cm_lo (by show b + 1 ≤ _; omega)] at z
    exact z
  | tru =>
    refine ⟨_, rfl, ka, _, _, _, rfl, rfl, SqT.of hk, atI_nat (j := 0) rfl, rfl, _, rfl, ite2 (fun e => absurd e (wne (by simp only [Kd.word]; decide +kernel))) (fun _ => ⟨_, rfl, ka, _, _, _, rfl, rfl, SqT.of hk, atI_nat (j := 0) rfl, rfl, _, rfl, ite2 (fun e => absurd e (wne (by simp only [Kd.word]; decide +kernel))) (fun _ => ⟨_, rfl, ka, _, _, _, rfl, rfl, SqT.of hk, atI_nat (j := 0) rfl, rfl, _, rfl, ite2 (fun _ => ?_) (fun e => absurd (decide_eq_true rfl) e)⟩)⟩)⟩
    exact q _ (Same.refl _)
  | lst s =>
    obtain ⟨ka', kx, ek, hk4, rs⟩ := rk
    obtain rfl : ka = ka' := V.ref.inj ek
    have hn2 : s.dp + 1 + 1 ≤ n + 1 := hn
    refine ⟨_, rfl, ka, _, _, _, rfl, rfl, SqT.of hk, atI_nat (j := 0) rfl, rfl, _, rfl, ite2 (fun e => absurd e (wne (by simp only [Kd.word]; decide +kernel))) (fun _ => ⟨_, rfl, ka, _, _, _, rfl, rfl, SqT.of hk, atI_nat (j := 0) rfl, rfl, _, rfl, ite2 (fun e => absurd e (wne (by simp only [Kd.word]; decide +kernel))) (fun _ => ⟨_, rfl, ka, _, _, _, rfl, rfl, SqT.of hk, atI_nat (j := 0) rfl, rfl, _, rfl, ite2 (fun e => absurd e (wne (by simp only [Kd.word]; decide +kernel))) (fun _ => ?_)⟩)⟩)⟩
    refine ⟨_, rfl, ka, _, _, _, rfl, rfl, SqT.of hk4, atI_nat (j := 1) rfl, _, rfl, _, rfl, kx, p, s, sz, b, rfl, by omega, knd_data hdt, rs, hz, hB, hb, fun G1 s1 => ?_⟩
    have hk5 := s1 _ _ hk4
    refine ⟨_, rfl, ka, _, _, _, rfl, rfl, SqT.of hk5, atI_nat (j := 0) rfl, rfl, _, rfl, ite2 (fun _ => ?_) (fun e => absurd (decide_eq_true rfl) e)⟩
    refine ⟨_, _, rfl, rfl, ⟨by decide, by decide, by decide⟩, ?_⟩
    refine ⟨_, rfl, _, _, rfl, rfl, _, rfl, by omega, by omega, fun D nD => ?_⟩
    rw [show (((b : Nat) : Int) + 1).toNat = b + 1 by omega]
    have cle := cm_le (mny sz b s)
    refine lc_range (lo := 0) (n := b + 1) (fun i G => Same G1 G ∧ i ≤ b + 1 ∧ G D = some (.lst (((List.range i).map fun l => ((cm (cm (mny sz b s) ^ l) : Nat) : Int)).map V.int))) ⟨newS nD, Nat.zero_le _, upd_same⟩ (fun i G hi z => ?_) (fun G z => ?_)
    · obtain ⟨sG, _, gD⟩ := z
      refine ⟨rfl, _, rfl, _, rfl, cm (mny sz b s), i, _, _, rfl, rfl, Int.zero_add _, cle, ?_⟩
      refine ⟨_, gD, small1000 (by rw [List.length_map, List.length_map, List.length_range]; omega), smk sG nD, hi, ?_⟩
      rw [upd_same, List.range_succ, List.map_append, List.map_append]
      rfl
    · obtain ⟨sG, _, gD⟩ := z
      refine ⟨D, _, rfl, SqL.of gD, _, _, rfl, ?_⟩
      rw [cm_b (n := ((List.range (b + 1)).map fun l => cm (cm (mny sz b s) ^ l)).sum) (sum_int _ _), sum_cm]
      have e : cm (gm (cm (mny sz b s)) (b + 1)) = cm (mny sz b (.lst s)) := gm_cap (mny sz b s) b
      rw [e]
      exact q _ (s1.trans sG)
  | pair s u =>
    obtain ⟨ka', kx, ky, ek, hk4, rs, ru⟩ := rk
    obtain rfl : ka = ka' := V.ref.inj ek
    obtain ⟨hd1, hd2⟩ := Bool.and_eq_true_iff.mp (show (s.data && u.data) = true from hdt)
    have hn2 : max s.dp u.dp + 1 + 1 ≤ n + 1 := hn
    refine ⟨_, rfl, ka, _, _, _, rfl, rfl, SqT.of hk, atI_nat (j := 0) rfl, rfl, _, rfl, ite2 (fun e => absurd e (wne (by simp only [Kd.word]; decide +kernel))) (fun _ => ⟨_, rfl, ka, _, _, _, rfl, rfl, SqT.of hk, atI_nat (j := 0) rfl, rfl, _, rfl, ite2 (fun e => absurd e (wne (by simp only [Kd.word]; decide +kernel))) (fun _ => ⟨_, rfl, ka, _, _, _, rfl, rfl, SqT.of hk, atI_nat (j := 0) rfl, rfl, _, rfl, ite2 (fun e => absurd e (wne (by simp only [Kd.word]; decide +kernel))) (fun _ => ?_)⟩)⟩)⟩
    refine ⟨_, rfl, ka, _, _, _, rfl, rfl, SqT.of hk4, atI_nat (j := 1) rfl, _, rfl, _, rfl, kx, p, s, sz, b, rfl, by omega, knd_data hd1, rs, hz, hB, hb, fun G1 s1 => ?_⟩
    have hk5 := s1 _ _ hk4
    have c1 := cm_le (mny sz b s)
    have c2 := cm_le (mny sz b u)
    refine ⟨_, rfl, ka, _, _, _, rfl, rfl, SqT.of hk5, atI_nat (j := 0) rfl, rfl, _, rfl, ite2 (fun e => absurd e (wne (by decide +kernel))) (fun _ => ?_)⟩
    refine ⟨_, rfl, ka, _, _, _, rfl, rfl, SqT.of hk5, atI_nat (j := 2) rfl, _, rfl, _, rfl, ky, p, u, sz, b, rfl, by omega, knd_data hd2, ru.tk (Tk.of s1), hz.same s1, hB, hb, fun G2 s2 => ?_⟩
    have hk6 := s2 _ _ hk5
    have z := q _ (s1.trans s2)
    refine ⟨_, rfl, ka, _, _, _, rfl, rfl, SqT.of hk6, atI_nat (j := 0) rfl, rfl, _, rfl, ite2 (fun e => absurd e (wne (by decide +kernel))) (fun _ => ?_)⟩
    refine ⟨_, _, rfl, rfl, ⟨by decide, by decide, by decide⟩, ?_⟩
    refine ⟨_, rfl, ka, _, _, _, rfl, rfl, SqT.of hk6, atI_nat (j := 0) rfl, rfl, _, rfl, ite2 (fun _ => ?_) (fun e => absurd (decide_eq_true rfl) e)⟩
    refine ⟨_, rfl, _, rfl, _, _, rfl, rfl, .inl ⟨by omega, by omega⟩, _, _, rfl, ?_⟩
    rw [cm_b (n := cm (mny sz b s) * cm (mny sz b u)) (by push_cast; rfl), cm_mul]
    exact z
  | eith s u =>
    obtain ⟨ka', kx, ky, ek, hk4, rs, ru⟩ := rk
    obtain rfl : ka = ka' := V.ref.inj ek
    obtain ⟨hd1, hd2⟩ := Bool.and_eq_true_iff.mp (show (s.data && u.data) = true from hdt)
    have hn2 : max s.dp u.dp + 1 + 1 ≤ n + 1 := hn
    refine ⟨_, rfl, ka, _, _, _, rfl, rfl, SqT.of hk, atI_nat (j := 0) rfl, rfl, _, rfl, ite2 (fun e => absurd e (wne (by simp only [Kd.word]; decide +kernel))) (fun _ => ⟨_, rfl, ka, _, _, _, rfl, rfl, SqT.of hk, atI_nat (j := 0) rfl, rfl, _, rfl, ite2 (fun e => absurd e (wne (by simp only [Kd.word]; decide +kernel))) (fun _ => ⟨_, rfl, ka, _, _, _, rfl, rfl, SqT.of hk, atI_nat (j := 0) rfl, rfl, _, rfl, ite2 (fun e => absurd e (wne (by simp only [Kd.word]; decide +kernel))) (fun _ => ?_)⟩)⟩)⟩
    refine ⟨_, rfl, ka, _, _, _, rfl, rfl, SqT.of hk4, atI_nat (j := 1) rfl, _, rfl, _, rfl, kx, p, s, sz, b, rfl, by omega, knd_data hd1, rs, hz, hB, hb, fun G1 s1 => ?_⟩
    have hk5 := s1 _ _ hk4
    have c1 := cm_le (mny sz b s)
    have c2 := cm_le (mny sz b u)
    refine ⟨_, rfl, ka, _, _, _, rfl, rfl, SqT.of hk5, atI_nat (j := 0) rfl, rfl, _, rfl, ite2 (fun e => absurd e (wne (by decide +kernel))) (fun _ => ?_)⟩
    refine ⟨_, rfl, ka, _, _, _, rfl, rfl, SqT.of hk5, atI_nat (j := 2) rfl, _, rfl, _, rfl, ky, p, u, sz, b, rfl, by omega, knd_data hd2, ru.tk (Tk.of s1), hz.same s1, hB, hb, fun G2 s2 => ?_⟩
    have hk6 := s2 _ _ hk5
    have z := q _ (s1.trans s2)
    refine ⟨_, rfl, ka, _, _, _, rfl, rfl, SqT.of hk6, atI_nat (j := 0) rfl, rfl, _, rfl, ite2 (fun e => absurd e (wne (by decide +kernel))) (fun _ => ?_)⟩
    refine ⟨_, _, rfl, rfl, ⟨by decide, by decide, by decide⟩, ?_⟩
    refine ⟨_, rfl, ka, _, _, _, rfl, rfl, SqT.of hk6, atI_nat (j := 0) rfl, rfl, _, rfl, ite2 (fun e => absurd e (wne (by decide +kernel))) (fun _ => ?_)⟩
    refine ⟨_, rfl, _, rfl, _, _, rfl, rfl, _, _, rfl, ?_⟩
    rw [cm_b (n := cm (mny sz b s) + cm (mny sz b u)) (by push_cast; rfl), cm_add]
    exact z
  | fn s u =>
    obtain ⟨ka', kx, ky, ek, hk4, rs, ru⟩ := rk
    obtain rfl : ka = ka' := V.ref.inj ek
    obtain ⟨hd1, hd2⟩ := Bool.and_eq_true_iff.mp (show (s.data && knd u) = true from hdt)
    have hn2 : max s.dp u.dp + 1 + 1 ≤ n + 1 := hn
    refine ⟨_, rfl, ka, _, _, _, rfl, rfl, SqT.of hk, atI_nat (j := 0) rfl, rfl, _, rfl, ite2 (fun e => absurd e (wne (by simp only [Kd.word]; decide +kernel))) (fun _ => ⟨_, rfl, ka, _, _, _, rfl, rfl, SqT.of hk, atI_nat (j := 0) rfl, rfl, _, rfl, ite2 (fun e => absurd e (wne (by simp only [Kd.word]; decide +kernel))) (fun _ => ⟨_, rfl, ka, _, _, _, rfl, rfl, SqT.of hk, atI_nat (j := 0) rfl, rfl, _, rfl, ite2 (fun e => absurd e (wne (by simp only [Kd.word]; decide +kernel))) (fun _ => ?_)⟩)⟩)⟩
    refine ⟨_, rfl, ka, _, _, _, rfl, rfl, SqT.of hk4, atI_nat (j := 1) rfl, _, rfl, _, rfl, kx, p, s, sz, b, rfl, by omega, knd_data hd1, rs, hz, hB, hb, fun G1 s1 => ?_⟩
    have hk5 := s1 _ _ hk4
    have c1 := cm_le (mny sz b s)
    have c2 := cm_le (mny sz b u)
    refine ⟨_, rfl, ka, _, _, _, rfl, rfl, SqT.of hk5, atI_nat (j := 0) rfl, rfl, _, rfl, ite2 (fun e => absurd e (wne (by decide +kernel))) (fun _ => ?_)⟩
    refine ⟨_, rfl, ka, _, _, _, rfl, rfl, SqT.of hk5, atI_nat (j := 2) rfl, _, rfl, _, rfl, ky, p, u, sz, b, rfl, by omega, hd2, ru.tk (Tk.of s1), hz.same s1, hB, hb, fun G2 s2 => ?_⟩
    have hk6 := s2 _ _ hk5
    have z := q _ (s1.trans s2)
    refine ⟨_, rfl, ka, _, _, _, rfl, rfl, SqT.of hk6, atI_nat (j := 0) rfl, rfl, _, rfl, ite2 (fun _ => ?_) (fun e => absurd (decide_eq_true rfl) e)⟩
    refine ⟨_, rfl, _, rfl, cm (mny sz b u), cm (mny sz b s), _, _, rfl, rfl, rfl, c2, ?_⟩
    rw [cm_pow]
    exact z
theorem okLMany {f fP : Addr} {fd fdP : FuncData} (F : Fun K "_law_many" "_law_many" tLMany f fd) (bF : Binds K fd psLMany []) (gF : mg "_law_many" = some (.ref f)) (GP : ∀ k, FnOk P w K mg base CX0 (k + 1) fP fdP psPow spLPow) (bP : Binds K fdP psPow []) (gP : mg "_law_power" = some (.ref fP)) (kP : PySem.W.keepIn K (.ref fP) = true) (md : mg "dict" = none) (mr : mg "range" = none) (mm : mg "min" = none) (mS : mg "sum" = none) : ∀ n, FnOk P w K mg base CX0 (n + 1) f fd psLMany (spLMany n)
  | 0 => noFn fun vs H Q E h => by
    obtain ⟨vk, p, t, sz, b, _, hn, _⟩ := h
    omega
  | n + 1 => okLMany1 F bF gF (GP n) bP gP kP md mr mm mS (okLMany F bF gF GP bP gP kP md mr mm mS n)
end
end Kq

/-! isinstance(e, T) and isinstance(e, (A, B, ..)) of an exception that is pinned -/
namespace Ke
open PySem PySem.Spec PyProof.Rows L2
theorem clsV_eq {c : V} {u v : Value} (h : ClsV c u) (r : RelV c v) : v = u := by
  cases h <;> exact r
theorem paired_eq : ∀ {cs : List V} {us its : List Value}, PySem.Paired ClsV cs us → Vals cs its → its = us
  | [], _, _, .nil, h => by cases h; rfl
  | _ :: _, _, _, .cons p ps, h => by
    cases h with
    | cons q qs => rw [clsV_eq p q, paired_eq ps qs]
def rIsET (K : PySem.W.Frag) (D a : Addr) : List V → Hp → VK → Prop := fun xs H Q => ∃ (tp : Addr) (cs : List V) (us : List Value) (b : Bool), xs = [.ref a, .ref tp] ∧ H tp = some (.tup cs) ∧ PySem.Paired ClsV cs us ∧ PySem.W.kitAny K (.ref D) us = some b ∧ Q (.bl b) H
theorem call_isET {X : Cx} {a D : Addr} {oe : Obj} (C : ExcC X.K D) (hm : (a, oe) ∈ X.pn) (hz : Zc (.ref D) none oe) (hf : ∃ vs, oe.data = .fields vs) : CallR X (.builtin "isinstance") (rIsET X.K D a) := by
  intro pins s σ H xs us Q hI hv hr
  obtain ⟨tp, cs, cu, b, rfl, ht, hp, hk, hQ⟩ := hr
  obtain ⟨vs, hf⟩ := hf
  have hg : s.heap.get? a = some oe := (hI.pin _ (List.mem_append_left _ hm)).1
  cases hv with
  | cons h1 h2 =>
    cases h2 with
    | cons h3 h4 =>
      cases h4
      cases h1
      cases h3
      obtain ⟨its, hvs, ⟨⟨cc, dd, dt, sl⟩, hT, rfl, n, rfl⟩, -⟩ := hI.tuple (show SqT X.K H tp cs from .inl (.inl ht))
      have := paired_eq hp hvs
      subst this
      refine PySem.W.kia_tup (PySem.W.handS_kitx_exc (ox := oe) C.hg C.hk C.hs C.hd C.ha C.hn C.ht C.hm) hI.kIn ?_ hT hk (fun h => by cases h) fun tk => ⟨.bl b, _, hI.tok tk, rfl, hQ⟩
      exact ⟨hg, hz.1, by unfold PySem.W.notCls; rw [hf], by rw [hz.2]; trivial⟩
def rIsE1 (K : PySem.W.Frag) (D a : Addr) : List V → Hp → VK → Prop := fun xs H Q => ∃ (c : V) (cv : Value) (b : Bool), xs = [.ref a, c] ∧ (∀ u, RelV c u → u = cv) ∧ PySem.W.kitOne K (.ref D) cv = some b ∧ Q (.bl b) H
theorem call_isE1 {X : Cx} {a D : Addr} {oe : Obj} (C : ExcC X.K D) (hm : (a, oe) ∈ X.pn) (hz : Zc (.ref D) none oe) (hf : ∃ vs, oe.data = .fields vs) : CallR X (.builtin "isinstance") (rIsE1 X.K D a) := by
  intro pins s σ H xs us Q hI hv hr
  obtain ⟨c, cv, b, rfl, ht, hk, hQ⟩ := hr
  obtain ⟨vs, hf⟩ := hf
  have hg : s.heap.get? a = some oe := (hI.pin _ (List.mem_append_left _ hm)).1
  cases hv with
  | cons h1 h2 =>
    cases h2 with
    | cons h3 h4 =>
      cases h4
      cases h1
      have := ht _ h3
      subst this
      refine PySem.W.kia_one (PySem.W.handS_kitx_exc (ox := oe) C.hg C.hk C.hs C.hd C.ha C.hn C.ht C.hm) hI.kIn ?_ hk (fun h => by cases h) fun tk => ⟨.bl b, _, hI.tok tk, rfl, hQ⟩
      exact ⟨hg, hz.1, by unfold PySem.W.notCls; rw [hf], by rw [hz.2]; trivial⟩
end Ke

/-! the same, the class told by the reading, the written part named -/
namespace Ke
open PySem PySem.Spec PyProof.Rows L2
theorem call_isETK {X : Cx} {a D : Addr} {oe : Obj} {cls : Value} {d : Option Addr} (K : PySem.W.Frag) (h : X.K = K) (C : ExcC K D) (hm : (a, oe) ∈ X.pn) (hz : Zc cls d oe) (hf : ∃ vs, oe.data = .fields vs) :
    CallR X (.builtin "isinstance") (fun xs H Q => cls = .ref D ∧ d = none ∧ rIsET K D a xs H Q) := by
  subst h
  intro pins s σ H xs us Q hI hv hr
  obtain ⟨rfl, rfl, hr⟩ := hr
  exact call_isET C hm hz hf pins s σ H xs us Q hI hv hr
theorem call_isE1K {X : Cx} {a D : Addr} {oe : Obj} {cls : Value} {d : Option Addr} (K : PySem.W.Frag) (h : X.K = K) (C : ExcC K D) (hm : (a, oe) ∈ X.pn) (hz : Zc cls d oe) (hf : ∃ vs, oe.data = .fields vs) :
    CallR X (.builtin "isinstance") (fun xs H Q => cls = .ref D ∧ d = none ∧ rIsE1 K D a xs H Q) := by
  subst h
  intro pins s σ H xs us Q hI hv hr
  obtain ⟨rfl, rfl, hr⟩ := hr
  exact call_isE1 C hm hz hf pins s σ H xs us Q hI hv hr
end Ke

/-! _law_told -/
namespace Kq
open PySem PySem.Spec PyProof.Rows L2 Kf Kg Kv GxR Kk
abbrev tLTold : Stmt := tp 46
/-- the classes that a refusal is held against -/
structure TMI (K : PySem.W.Frag) (mg : Str → Option Value) (cN cK : Addr) : Prop where
  ec : ExcC K cN
  gK : mg "KindError" = some (.ref cK)
  eP : PySem.W.exmOne K (.ref cN) (.ref cK) = some true
  nn : PySem.W.kitOne K (.ref cN) (.ref cN) = some true
  nv : PySem.W.kitOne K (.ref cN) (.type "ValueError") = some true
  g1 : ∃ c1 c2 c3 c4 c5 c6 c7 c8 c9 : Addr, mg "Broken" = some (.ref c1) ∧ mg "NoBack" = some (.ref c2) ∧ mg "NoKind" = some (.ref c3) ∧ mg "NoLead" = some (.ref c4) ∧ mg "NoName" = some (.ref c5) ∧ mg "NoRow" = some (.ref c6) ∧ mg "NoText" = some (.ref c7) ∧ mg "Ring" = some (.ref c8) ∧ mg "Taken" = some (.ref c9) ∧
    PySem.W.kitAny K (.ref cN) [.ref c1, .ref c2, .ref c3, .ref c4, .ref c5, .ref c6, .ref c7, .ref c8, .ref c9] = some false
  g2 : ∃ c1 c2 c3 : Addr, mg "TooMuch" = some (.ref c1) ∧ mg "Unbounded" = some (.ref c2) ∧ mg "Used" = some (.ref c3) ∧ PySem.W.kitAny K (.ref cN) [.ref c1, .ref c2, .ref c3] = some false
section
variable {P : Program} {w : World} {K : PySem.W.Frag} {mg : Str → Option Value} {base : Heap} {T : List Addr} {cN cK : Addr}
abbrev psLTold : List Str := ["_law_kind", "_law_sizes_here", "_law_bound"]
abbrev nLTold : List Str := ["_law_kind", "_law_sizes_here", "_law_bound", "_law_found", "e", "_law_others"]
theorem scLTold : FnScope nLTold psLTold (defScope tLTold) := ⟨rfl, rfl, rfl, by decide +kernel, rfl, by decide +kernel, by decide +kernel⟩
def spLTold (T : List Addr) (n : Nat) : Sp := fun vs H Q _ => ∃ (vk : V) (p : Addr) (t : Kd) (sz : List (Str × Int)) (b : Nat), vs = [vk, .ref p, .int (b : Nat)] ∧ t.dp + 1 ≤ n ∧ knd t = true ∧ Rp H t vk ∧ Sz H p sz ∧ SzB sz ∧ b ≤ 3 ∧ TbS T H ∧
  (mny sz b t ≤ 300 → lng sz b t = false → ∀ (a : Addr) (us : List V) (G : Hp), Sm T H G → G a = some (.tup us) → DdL Non G (lw sz b t) us → Q (.ref a) G) ∧ (300 < mny sz b t ∨ lng sz b t = true → ∀ G : Hp, Same H G → Q (.bl true) G)
theorem okLTold {f fW : Addr} {fd fdW : FuncData} {n k : Nat} (F : Fun K "_law_told" "_law_told" tLTold f fd) (tm : TM K mg cN) (ni : TMI K mg cN cK)
    (GW : FnOk P w K mg base (L2.CX P w) k fW fdW psMany (spWorths T cN n)) (bW : Binds K fdW psMany []) (gW : mg "worths_of" = some (.ref fW)) (kW : PySem.W.keepIn K (.ref fW) = true)
    (mi : mg "isinstance" = none) (mv : mg "ValueError" = none) : FnOk P w K mg base CX0 (k + 1) f fd psLTold (spLTold T n) := by
  refine F.ok scLTold (fun vs H Q E h => ?_) (fun cdv A outer s H vs Q E hr h => ?_)
  · obtain ⟨vk, p, t, sz, b, rfl, _⟩ := h
    rfl
  obtain ⟨vk, p, t, sz, b, rfl, hn, hdt, rk, hz0, hB, hb, tb, q1, q2⟩ := h
  obtain ⟨c1, c2, c3, c4, c5, c6, c7, c8, c9, m1, m2, m3, m4, m5, m6, m7, m8, m9, hk9⟩ := ni.g1
  obtain ⟨d1, d2, d3, n1, n2, n3, hk3⟩ := ni.g2
  refine ⟨_, pss_cons (ps_set (i := 3) scLTold.nd rfl (.inl rfl) pe_non)
    (pss_cons (ps_try_as (i := 4) (c := .ref cK) rfl rfl scLTold.nd rfl rfl ⟨rfl, by decide, .inl ni.gK⟩ takes0
      (fun W pn xe tk _ => pss_one (ps_set (i := 3) scLTold.nd rfl (.inl rfl) (pe_callS GW hr (by rfl) gW kW bW (fun σ => passAt tk σ) (pa_cons (pv 0) (pa_cons (pv 1) (pa_cons (pv 2) pa_nil))))))
      (fun a oe cls d pn hz hf => pss_cons (ps_set (i := 3) scLTold.nd rfl (.inl rfl) (pe_and (pe_callB (Ke.call_isE1K K rfl ni.ec List.mem_cons_self hz hf) (by rfl) mi PyProof.Rows.boot_isinstance (pa_cons (pv 4) (pa_cons (pe_glob (v := .ref cN) (by rfl) tm.gP rfl) pa_nil)))
          (pe_one (pe_callB (Ke.call_isE1K K rfl ni.ec List.mem_cons_self hz hf) (by rfl) mi PyProof.Rows.boot_isinstance (pa_cons (pv 4) (pa_cons (pe_bltn (v := .ty "ValueError") (by rfl) mv (by decide +kernel) rfl) pa_nil))))))
        (pss_cons (ps_set (i := 5) scLTold.nd rfl (.inl rfl) (pe_callB (Ke.call_isETK K rfl ni.ec List.mem_cons_self hz hf) (by rfl) mi PyProof.Rows.boot_isinstance (pa_cons (pv 4) (pa_cons (pe_tup (pa_cons (pe_glob (v := .ref c1) (by rfl) m1 rfl) (pa_cons (pe_glob (v := .ref c2) (by rfl) m2 rfl) (pa_cons (pe_glob (v := .ref c3) (by rfl) m3 rfl) (pa_cons (pe_glob (v := .ref c4) (by rfl) m4 rfl) (pa_cons (pe_glob (v := .ref c5) (by rfl) m5 rfl) (pa_cons (pe_glob (v := .ref c6) (by rfl) m6 rfl) (pa_cons (pe_glob (v := .ref c7) (by rfl) m7 rfl) (pa_cons (pe_glob (v := .ref c8) (by rfl) m8 rfl) (pa_cons (pe_glob (v := .ref c9) (by rfl) m9 rfl) pa_nil)))))))))) pa_nil))))
        (pss_one (ps_if (PW.pt (pw_or (pt_val (pv 5)) (pw_or1 (pt_val (pe_callB (Ke.call_isETK K rfl ni.ec List.mem_cons_self hz hf) (by rfl) mi PyProof.Rows.boot_isinstance (pa_cons (pv 4) (pa_cons (pe_tup (pa_cons (pe_glob (v := .ref d1) (by rfl) n1 rfl) (pa_cons (pe_glob (v := .ref d2) (by rfl) n2 rfl) (pa_cons (pe_glob (v := .ref d3) (by rfl) n3 rfl) pa_nil)))) pa_nil)))))))
          (pss_one (ps_set (i := 3) scLTold.nd rfl (.inl rfl) pe_bl)) pss_nil)))))
    (pss_one (ps_ret (pv 3)))), ?_⟩
  refine ⟨_, rfl, _, rfl, _, rfl, vk, p, t, sz, b, rfl, hn, hdt, rk, hz0, hB, hb, tb, (fun hm hl a us G sG ga da => ⟨_, rfl, q1 hm hl a us G sG ga da⟩), (fun hm G sG => ⟨true, ni.eP, fun _ a ha => ?_, fun q => nomatch q⟩)⟩
  refine ⟨_, rfl, rfl, rfl, _, _, true, rfl, (fun u h => h), ni.nn, _, rfl, iteT ⟨_, rfl, rfl, rfl, _, _, true, rfl, (fun u h => h), ni.nv, ?_⟩⟩
  refine ⟨_, rfl, (by show 9 ≤ sizeLine; decide), fun t1 nt1 => ?_⟩
  have s1 := newS (o := .tup [V.ref c1, .ref c2, .ref c3, .ref c4, .ref c5, .ref c6, .ref c7, .ref c8, .ref c9]) nt1
  refine ⟨rfl, rfl, t1, _, _, false, rfl, upd_same, .cons (.own _) (.cons (.own _) (.cons (.own _) (.cons (.own _) (.cons (.own _) (.cons (.own _) (.cons (.own _) (.cons (.own _) (.cons (.own _) .nil)))))))), hk9, ?_⟩
  refine ⟨_, rfl, _, rfl, iteF ⟨_, rfl, (by show 3 ≤ sizeLine; decide), fun t2 nt2 => ?_⟩⟩
  have s2 := newS (o := .tup [V.ref d1, .ref d2, .ref d3]) nt2
  refine ⟨rfl, rfl, t2, _, _, false, rfl, upd_same, .cons (.own _) (.cons (.own _) (.cons (.own _) .nil)), hk3, _, rfl, iteF ?_⟩
  exact ⟨_, rfl, q2 hm _ (sG.trans (s1.trans s2))⟩
end
end Kq

/-! the law's small worths -/
namespace Kq
open PySem PySem.Spec PyProof.Rows L2 Kf Kg Kv GxR Kk
abbrev tLSw : Stmt := tp 41
theorem tagStep {F : Hp} {D t : Addr} {out vs : List V} {ds xs : List Dt} (gD : F D = some (.lst out)) (dd : DdL Non F ds out) (dx : DdL Non F xs vs) (lo : out.length ≤ 1000) (nt : F t = none) : ∃ acc, (upd F t (.tup vs)) D = some (.lst acc) ∧ acc.length < sizeLine ∧ Same F (upd F t (.tup vs)) ∧
    (upd (upd F t (.tup vs)) D (.lst (acc ++ [.ref t]))) D = some (.lst (acc ++ [.ref t])) ∧ DdL Non (upd (upd F t (.tup vs)) D (.lst (acc ++ [.ref t]))) (ds ++ [Dt.tup xs]) (acc ++ [.ref t]) := by
  have stt := newS (o := .tup vs) nt
  have gD2 := stt _ _ gD
  have nt2 : ∀ xs, (upd F t (.tup vs)) D ≠ some (.tup xs) := fun xs e => by
    rw [gD2] at e
    cases e
  have kt : Kn Non F (upd (upd F t (.tup vs)) D (.lst (out ++ [.ref t]))) := (Kn.of stt).trans (Kn.rfl.put (fun z => z) nt2)
  have td : (upd (upd F t (.tup vs)) D (.lst (out ++ [.ref t]))) t = some (.tup vs) := by
    rw [upd_ne (fun z => by rw [z, gD] at nt; cases nt)]
    exact upd_same
  exact ⟨out, gD2, small6' (by omega), stt, upd_same, (dd.kn kt).app (.cons (.tup td (dx.kn kt)) .nil)⟩
/-- small kinds -/
def sml (sz : List (Str × Int)) : Kd → Bool
  | .opn _ => true
  | .tru => true
  | .pair s t => sml sz s && sml sz t && decide (mny sz 0 s * mny sz 0 t ≤ 300)
  | .eith s t => sml sz s && sml sz t && decide (mny sz 0 s + mny sz 0 t ≤ 300)
  | _ => false
section
variable {sz : List (Str × Int)}
theorem sml_data : ∀ {t : Kd}, sml sz t = true → t.data = true
  | .opn _, _ => rfl
  | .tru, _ => rfl
  | .pair s t, h => by
    obtain ⟨h, _⟩ := Bool.and_eq_true_iff.mp (show (sml sz s && sml sz t && decide _) = true from h)
    obtain ⟨h1, h2⟩ := Bool.and_eq_true_iff.mp h
    exact Bool.and_eq_true_iff.mpr ⟨sml_data h1, sml_data h2⟩
  | .eith s t, h => by
    obtain ⟨h, _⟩ := Bool.and_eq_true_iff.mp (show (sml sz s && sml sz t && decide _) = true from h)
    obtain ⟨h1, h2⟩ := Bool.and_eq_true_iff.mp h
    exact Bool.and_eq_true_iff.mpr ⟨sml_data h1, sml_data h2⟩
theorem sml_mny {b : Nat} : ∀ {t : Kd}, sml sz t = true → mny sz b t = mny sz 0 t
  | .opn _, _ => rfl
  | .tru, _ => rfl
  | .pair s t, h => by
    obtain ⟨h, _⟩ := Bool.and_eq_true_iff.mp (show (sml sz s && sml sz t && decide _) = true from h)
    obtain ⟨h1, h2⟩ := Bool.and_eq_true_iff.mp h
    show mny sz b s * mny sz b t = mny sz 0 s * mny sz 0 t
    rw [sml_mny h1, sml_mny h2]
  | .eith s t, h => by
    obtain ⟨h, _⟩ := Bool.and_eq_true_iff.mp (show (sml sz s && sml sz t && decide _) = true from h)
    obtain ⟨h1, h2⟩ := Bool.and_eq_true_iff.mp h
    show mny sz b s + mny sz b t = mny sz 0 s + mny sz 0 t
    rw [sml_mny h1, sml_mny h2]
theorem sml_lw {b : Nat} : ∀ {t : Kd}, sml sz t = true → lw sz b t = lw sz 0 t
  | .opn _, _ => rfl
  | .tru, _ => rfl
  | .pair s t, h => by
    obtain ⟨h, _⟩ := Bool.and_eq_true_iff.mp (show (sml sz s && sml sz t && decide _) = true from h)
    obtain ⟨h1, h2⟩ := Bool.and_eq_true_iff.mp h
    show (lw sz b s).flatMap (fun x => (lw sz b t).map fun y => Dt.tup [.str "pair", x, y]) = _
    rw [sml_lw h1, sml_lw h2]
    rfl
  | .eith s t, h => by
    obtain ⟨h, _⟩ := Bool.and_eq_true_iff.mp (show (sml sz s && sml sz t && decide _) = true from h)
    obtain ⟨h1, h2⟩ := Bool.and_eq_true_iff.mp h
    show (lw sz b s).map (fun x => Dt.tup [.str "left", x]) ++ (lw sz b t).map (fun x => Dt.tup [.str "right", x]) = _
    rw [sml_lw h1, sml_lw h2]
    rfl
theorem sml_le (hB : SzB sz) : ∀ {t : Kd}, sml sz t = true → mny sz 0 t ≤ 300
  | .opn n, _ => by
    have := hB.look n
    show (look sz n).toNat ≤ 300
    omega
  | .tru, _ => by
    show 2 ≤ 300
    decide
  | .pair s t, h => of_decide_eq_true (Bool.and_eq_true_iff.mp (show (sml sz s && sml sz t && decide _) = true from h)).2
  | .eith s t, h => of_decide_eq_true (Bool.and_eq_true_iff.mp (show (sml sz s && sml sz t && decide _) = true from h)).2
end
section
variable {P : Program} {w : World} {K : PySem.W.Frag} {mg : Str → Option Value} {base : Heap}
abbrev psSw : List Str := ["_law_kind", "_law_sizes_here"]
abbrev nSw : List Str := ["_law_kind", "_law_sizes_here", "_law_one", "_law_other", "_law_found", "_law_here", "_law_number", "_law_there"]
theorem scSw : FnScope nSw psSw (defScope tLSw) := ⟨rfl, rfl, rfl, by decide +kernel, rfl, by decide +kernel, by decide +kernel⟩
def spSw (n : Nat) : Sp := fun vs H Q _ => ∃ (vk : V) (p : Addr) (t : Kd) (sz : List (Str × Int)), vs = [vk, .ref p] ∧ t.dp + 1 ≤ n ∧ sml sz t = true ∧ Rp H t vk ∧ Sz H p sz ∧ SzB sz ∧
  ∀ (L : Addr) (us : List V) (G : Hp), Same H G → G L = some (.lst us) → DdL Non G (lw sz 0 t) us → Q (.ref L) G
theorem okSw1 {f : Addr} {fd : FuncData} {n : Nat} (F : Fun K "_law_small_worths" "_law_small_worths" tLSw f fd) (bF : Binds K fd psSw []) (gF : mg "_law_small_worths" = some (.ref f)) (md : mg "dict" = none) (mr : mg "range" = none)
    (GI : FnOk P w K mg base CX0 (n + 1) f fd psSw (spSw n)) : FnOk P w K mg base CX0 (n + 2) f fd psSw (spSw (n + 1)) := by
  refine F.ok scSw (fun vs H Q E h => ?_) (fun cdv A outer s H vs Q E hr h => ?_)
  · obtain ⟨vk, p, t, sz, rfl, _⟩ := h
    rfl
  obtain ⟨vk, p, t, sz, rfl, hn, hsm, rk, hz, hB, q⟩ := h
  have hu1 : (cxOf CX0 P w K mg base nSw "_law_small_worths" (defScope tLSw) f cdv A outer s H E).nox.A.units + 1 < cLine := hu_of hr
  refine ⟨_, pss_cons (ps_if (pt_cmpR op_eq (pe_ix ix_tup (pv 0) pe_int (fun _ _ => rfl)) pe_str (nomark _)) (pss_one (ps_ret (pe_lst (pa_cons pe_bl (pa_cons pe_bl pa_nil))))) pss_nil)
    (pss_cons (ps_if (pt_cmpR op_eq (pe_ix ix_tup (pv 0) pe_int (fun _ _ => rfl)) pe_str (nomark _)) (pss_one (ps_ret (pe_lc (own := [("_law_number", 6)]) (g := gName 6) (tt := tYes) (by rfl) scSw.nd (pi_range1 (by rfl) mr (pa_cons (pe_dget2 hu1 (pe_callTy (Kt.call_dictF rfl) (by rfl) md PyProof.Rows.boot_dict (pa_cons (pv 1) pa_nil)) (pe_ix ix_tup (pv 0) pe_int (fun _ _ => rfl)) pe_int ⟨by rfl, by rfl, by rfl, by rfl⟩) pa_nil)) (blkOk_by (own := [("_law_number", 6)]) (N := nSw) (sc := defScope tLSw) (by decide +kernel))
        (fun _ _ _ _ _ => pg_name (i := 6) scSw.nd rfl (.inl rfl)) (fun _ _ _ _ _ => pts_nil) (fun _ _ _ _ _ => pe_tup (pa_cons pe_str (pa_cons (pe_ix (ixTK K rfl) (pv 0) pe_int (fun _ _ => rfl)) (pa_cons (pv 6) pa_nil))))))) pss_nil)
    (pss_cons (ps_set (i := 2) scSw.nd rfl (.inl rfl) (pe_call GI hr (by rfl) gF F.kp bF .nil pass0 (pa_cons (pe_ix ix_tup (pv 0) pe_int (fun _ _ => rfl)) (pa_cons (pv 1) pa_nil))))
    (pss_cons (ps_set (i := 3) scSw.nd rfl (.inl rfl) (pe_call GI hr (by rfl) gF F.kp bF .nil pass0 (pa_cons (pe_ix ix_tup (pv 0) pe_int (fun _ _ => rfl)) (pa_cons (pv 1) pa_nil))))
    (pss_cons (ps_if (pt_cmpR op_eq (pe_ix ix_tup (pv 0) pe_int (fun _ _ => rfl)) pe_str (nomark _)) (pss_one (ps_ret (pe_op op_cat
      (pe_lc (own := [("_law_here", 5)]) (g := gName 5) (tt := tYes) (by rfl) scSw.nd (pi_list (pv 2)) (blkOk_by (own := [("_law_here", 5)]) (N := nSw) (sc := defScope tLSw) (by decide +kernel)) (fun _ _ _ _ _ => pg_name (i := 5) scSw.nd rfl (.inl rfl)) (fun _ _ _ _ _ => pts_nil) (fun _ _ _ _ _ => pe_tup (pa_cons pe_str (pa_cons (pv 5) pa_nil))))
      (pe_lc (own := [("_law_there", 7)]) (g := gName 7) (tt := tYes) (by rfl) scSw.nd (pi_list (pv 3)) (blkOk_by (own := [("_law_there", 7)]) (N := nSw) (sc := defScope tLSw) (by decide +kernel)) (fun _ _ _ _ _ => pg_name (i := 7) scSw.nd rfl (.inl rfl)) (fun _ _ _ _ _ => pts_nil) (fun _ _ _ _ _ => pe_tup (pa_cons pe_str (pa_cons (pv 7) pa_nil))))))) pss_nil)
    (pss_cons (ps_set (i := 4) scSw.nd rfl (.inl rfl) (pe_lst pa_nil))
    (pss_cons (ps_for PassesOwn.never rfl (pi_list (pv 2)) (pg_name (i := 5) scSw.nd rfl (.inr rfl))
      (pss_one (ps_set (i := 4) scSw.nd rfl (.inl rfl) (pe_op op_cat (pv 4)
        (pe_lc (own := [("_law_there", 7)]) (g := gName 7) (tt := tYes) (by rfl) scSw.nd (pi_list (pv 3)) (blkOk_by (own := [("_law_there", 7)]) (N := nSw) (sc := defScope tLSw) (by decide +kernel)) (fun _ _ _ _ _ => pg_name (i := 7) scSw.nd rfl (.inl rfl)) (fun _ _ _ _ _ => pts_nil) (fun _ _ _ _ _ => pe_tup (pa_cons pe_str (pa_cons (pv 5) (pa_cons (pv 7) pa_nil)))))))))
    (pss_one (ps_ret (pv 4))))))))), ?_⟩
  obtain ⟨ka, us, rfl, hk, hks⟩ := rk.see
  cases t with
  | num => cases hsm
  | lst _ => cases hsm
  | fn _ _ => cases hsm
  | tru =>
    refine ⟨_, rfl, ka, _, _, _, rfl, rfl, SqT.of hk, atI_nat (j := 0) rfl, rfl, _, rfl, ite2 (fun _ => ?_) (fun e => absurd (decide_eq_true rfl) e)⟩
    exact ⟨(by show 2 ≤ sizeLine; decide), fun l nl => q l _ _ (newS nl) upd_same (.cons (.bl _) (.cons (.bl _) .nil))⟩
  | opn y =>
    obtain ⟨ka', ek, hk4⟩ := rk
    obtain rfl : ka = ka' := V.ref.inj ek
    refine ⟨_, rfl, ka, _, _, _, rfl, rfl, SqT.of hk, atI_nat (j := 0) rfl, rfl, _, rfl, ite2 (fun e => absurd e (wne (by simp only [Kd.word]; decide +kernel))) (fun _ => ⟨_, rfl, ka, _, _, _, rfl, rfl, SqT.of hk, atI_nat (j := 0) rfl, rfl, _, rfl, ite2 (fun _ => ?_) (fun e => absurd (decide_eq_true rfl) e)⟩)⟩
    obtain ⟨o, ps, hp, od, oc, pr⟩ := hz
    refine ⟨_, rfl, p, o, ps, szK sz, rfl, hp, od, oc, szK_pairs pr, fun dA ndA => ?_⟩
    have s4 := newS (o := .dK (mergeK [] (szK sz))) ndA
    refine ⟨dA, rfl, .inl ⟨_, .inl upd_same⟩, _, rfl, ka, _, _, _, rfl, rfl, SqT.of (s4 _ _ hk4), atI_nat (j := 1) rfl, _, DGet.k (k := .inr y) upd_same, ?_⟩
    have hl := hB.look y
    rw [szK_get hB.nd y]
    refine ⟨_, rfl, by omega, by omega, fun D nD => ?_⟩
    have hk5 := s4 _ _ hk4
    generalize upd H dA _ = G1 at s4 hk5 nD
    refine lc_range (lo := 0) (n := (look sz y).toNat) (fun i G => Same G1 G ∧ ∃ out, G D = some (.lst out) ∧ DdL Non G ((List.range i).map fun i => Dt.tup [.str "thing", .str y, .int (i : Nat)]) out) ⟨newS nD, [], upd_same, .nil⟩ (fun i G hi z => ?_) (fun G z => ?_)
    · obtain ⟨sG, out, gD, dd⟩ := z
      have lo := dd.len
      rw [List.length_map, List.length_range] at lo
      refine ⟨rfl, _, rfl, ka, _, _, _, rfl, rfl, SqT.of (sG _ _ hk5), atI_nat (j := 1) rfl, _, rfl, (by show 3 ≤ sizeLine; decide), fun t nt => ?_⟩
      obtain ⟨acc, e1, e2, e3, e4, e5⟩ := tagStep (vs := [V.str "thing", .str y, .int (0 + (i : Nat))]) (xs := [.str "thing", .str y, .int (0 + (i : Nat))]) gD dd (.cons (.str _) (.cons (.str _) (.cons (.int _) .nil))) (by omega) nt
      refine ⟨acc, e1, e2, smk (sG.trans e3) nD, _, e4, ?_⟩
      rw [List.range_succ, List.map_append]
      have e0 : (0 : Int) + (i : Nat) = (i : Nat) := Int.zero_add _
      rw [e0] at e5 ⊢
      exact e5
    · obtain ⟨sG, out, gD, dd⟩ := z
      exact q D _ _ (s4.trans sG) gD dd
  | eith s u =>
    obtain ⟨ka', kx, ky, ek, hk4, rs, ru⟩ := rk
    obtain rfl : ka = ka' := V.ref.inj ek
    obtain ⟨h12, h3⟩ := Bool.and_eq_true_iff.mp (show (sml sz s && sml sz u && decide _) = true from hsm)
    obtain ⟨h1, h2⟩ := Bool.and_eq_true_iff.mp h12
    have hn2 : max s.dp u.dp + 1 + 1 ≤ n + 1 := hn
    have m1 := sml_le hB h1
    have m2 := sml_le hB h2
    refine ⟨_, rfl, ka, _, _, _, rfl, rfl, SqT.of hk, atI_nat (j := 0) rfl, rfl, _, rfl, ite2 (fun e => absurd e (wne (by simp only [Kd.word]; decide +kernel))) (fun _ => ⟨_, rfl, ka, _, _, _, rfl, rfl, SqT.of hk, atI_nat (j := 0) rfl, rfl, _, rfl, ite2 (fun e => absurd e (wne (by simp only [Kd.word]; decide +kernel))) (fun _ => ?_)⟩)⟩
    refine ⟨_, rfl, ka, _, _, _, rfl, rfl, SqT.of hk4, atI_nat (j := 1) rfl, _, rfl, kx, p, s, sz, rfl, by omega, h1, rs, hz, hB, fun a1 us1 G1 s1 g1 d1 => ?_⟩
    have hk5 := s1 _ _ hk4
    refine ⟨_, rfl, ka, _, _, _, rfl, rfl, SqT.of hk5, atI_nat (j := 2) rfl, _, rfl, ky, p, u, sz, rfl, by omega, h2, ru.tk (Tk.of s1), hz.same s1, hB, fun a2 us2 G2 s2 g2 d2 => ?_⟩
    have hk6 := s2 _ _ hk5
    have s12 := s1.trans s2
    have g12 := s2 _ _ g1
    have d12 := d1.same s2
    have l1 : us1.length = mny sz 0 s := by rw [← d1.len, lw_len]
    have l2 : us2.length = mny sz 0 u := by rw [← d2.len, lw_len]
    refine ⟨_, rfl, ka, _, _, _, rfl, rfl, SqT.of hk6, atI_nat (j := 0) rfl, rfl, _, rfl, ite2 (fun _ => ?_) (fun e => absurd (decide_eq_true rfl) e)⟩
    refine ⟨_, rfl, a1, rfl, ⟨_, SqL.of g12⟩, fun D nD => ?_⟩
    refine lc_list (xs := us1) (fun j F => Same G2 F ∧ ∃ out, F D = some (.lst out) ∧ DdL Non F (((lw sz 0 s).take j).map fun x => Dt.tup [.str "left", x]) out) ⟨newS nD, [], upd_same, .nil⟩ (fun j F _ z => SqL.of (z.1 _ _ g12)) (fun j x F hx z => ?_) (fun F z => ?_)
    · obtain ⟨sF, out, gD, dd⟩ := z
      obtain ⟨x', hx', dx⟩ := d12.get hx
      have lj := (List.getElem?_eq_some_iff.mp hx).1
      have lo := dd.len
      rw [List.length_map, List.length_take] at lo
      refine ⟨rfl, _, rfl, (by show 2 ≤ sizeLine; decide), fun t nt => ?_⟩
      obtain ⟨acc, e1, e2, e3, e4, e5⟩ := tagStep (vs := [V.str "left", x]) gD dd (.cons (.str _) (.cons (dx.same sF) .nil)) (by omega) nt
      refine ⟨acc, e1, e2, smk (sF.trans e3) nD, _, e4, ?_⟩
      rw [List.take_add_one, hx', List.map_append]
      exact e5
    · obtain ⟨sF, out, gD, dd⟩ := z
      rw [show us1.length = (lw sz 0 s).length from d1.len.symm, List.take_length] at dd
      have lo := dd.len
      rw [List.length_map, lw_len] at lo
      refine ⟨_, rfl, a2, rfl, ⟨_, SqL.of (sF _ _ g2)⟩, fun D2 nD2 => ?_⟩
      have d2F := d2.same sF
      have g2F := sF _ _ g2
      refine lc_list (xs := us2) (fun j F' => Same F F' ∧ ∃ out2, F' D2 = some (.lst out2) ∧ DdL Non F' (((lw sz 0 u).take j).map fun x => Dt.tup [.str "right", x]) out2) ⟨newS nD2, [], upd_same, .nil⟩ (fun j F' _ z => SqL.of (z.1 _ _ g2F)) (fun j x F' hx z => ?_) (fun F' z => ?_)
      · obtain ⟨sF', out2, gD2, dd2⟩ := z
        obtain ⟨x', hx', dx⟩ := d2F.get hx
        have lj := (List.getElem?_eq_some_iff.mp hx).1
        have lo2 := dd2.len
        rw [List.length_map, List.length_take] at lo2
        refine ⟨rfl, _, rfl, (by show 2 ≤ sizeLine; decide), fun t nt => ?_⟩
        obtain ⟨acc, e1, e2, e3, e4, e5⟩ := tagStep (vs := [V.str "right", x]) gD2 dd2 (.cons (.str _) (.cons (dx.same sF') .nil)) (by omega) nt
        refine ⟨acc, e1, e2, smk (sF'.trans e3) nD2, _, e4, ?_⟩
        rw [List.take_add_one, hx', List.map_append]
        exact e5
      · obtain ⟨sF', out2, gD2, dd2⟩ := z
        rw [show us2.length = (lw sz 0 u).length from d2.len.symm, List.take_length] at dd2
        have lo2 := dd2.len
        rw [List.length_map, lw_len] at lo2
        refine ⟨D, D2, out, out2, rfl, rfl, sF' _ _ gD, gD2, small6 (by omega), fun r nr => ?_⟩
        have sr := newS (o := .lst (out ++ out2)) nr
        exact q r _ _ (s12.trans ((sF.trans sF').trans sr)) upd_same (((dd.same sF').same sr).app (dd2.same sr))
  | pair s u =>
    obtain ⟨ka', kx, ky, ek, hk4, rs, ru⟩ := rk
    obtain rfl : ka = ka' := V.ref.inj ek
    obtain ⟨h12, h3⟩ := Bool.and_eq_true_iff.mp (show (sml sz s && sml sz u && decide _) = true from hsm)
    obtain ⟨h1, h2⟩ := Bool.and_eq_true_iff.mp h12
    have hn2 : max s.dp u.dp + 1 + 1 ≤ n + 1 := hn
    have m1 := sml_le hB h1
    have m2 := sml_le hB h2
    refine ⟨_, rfl, ka, _, _, _, rfl, rfl, SqT.of hk, atI_nat (j := 0) rfl, rfl, _, rfl, ite2 (fun e => absurd e (wne (by simp only [Kd.word]; decide +kernel))) (fun _ => ⟨_, rfl, ka, _, _, _, rfl, rfl, SqT.of hk, atI_nat (j := 0) rfl, rfl, _, rfl, ite2 (fun e => absurd e (wne (by simp only [Kd.word]; decide +kernel))) (fun _ => ?_)⟩)⟩
    refine ⟨_, rfl, ka, _, _, _, rfl, rfl, SqT.of hk4, atI_nat (j := 1) rfl, _, rfl, kx, p, s, sz, rfl, by omega, h1, rs, hz, hB, fun a1 us1 G1 s1 g1 d1 => ?_⟩
    have hk5 := s1 _ _ hk4
    refine ⟨_, rfl, ka, _, _, _, rfl, rfl, SqT.of hk5, atI_nat (j := 2) rfl, _, rfl, ky, p, u, sz, rfl, by omega, h2, ru.tk (Tk.of s1), hz.same s1, hB, fun a2 us2 G2 s2 g2 d2 => ?_⟩
    have hk6 := s2 _ _ hk5
    have s12 := s1.trans s2
    have g12 := s2 _ _ g1
    have d12 := d1.same s2
    have l1 : us1.length = mny sz 0 s := by rw [← d1.len, lw_len]
    have l2 : us2.length = mny sz 0 u := by rw [← d2.len, lw_len]
    have h3 : mny sz 0 s * mny sz 0 u ≤ 300 := of_decide_eq_true h3
    refine ⟨_, rfl, ka, _, _, _, rfl, rfl, SqT.of hk6, atI_nat (j := 0) rfl, rfl, _, rfl, ite2 (fun e => absurd e (wne (by decide +kernel))) (fun _ => ?_)⟩
    refine ⟨Nat.zero_le _, fun L0 nL0 => ?_⟩
    have sL := newS (o := .lst []) nL0
    refine ⟨_, rfl, a1, rfl, ⟨_, SqL.of (sL _ _ g12)⟩, ?_⟩
    refine for_list (xs := us1) (fun i σ G => ∃ (L : Addr) (ls : List V) (y : Option V), σ = [some (.ref ka), some (.ref p), some (.ref a1), some (.ref a2), some (.ref L), y, none, none] ∧ Same G2 G ∧ G L = some (.lst ls) ∧ DdL Non G (((lw sz 0 s).take i).flatMap fun x => (lw sz 0 u).map fun y => Dt.tup [.str "pair", x, y]) ls)
      ⟨L0, [], none, rfl, sL, upd_same, .nil⟩ (fun i σ G _ z => ?_) (fun i x σ G hx z => ?_) (fun σ G z => ?_)
    · obtain ⟨L, ls, y, _, sG, _⟩ := z
      exact SqL.of (sG _ _ g12)
    · obtain ⟨L, ls, y, rfl, sG, gL, dL⟩ := z
      obtain ⟨x', hx', dx⟩ := d12.get hx
      have li := (List.getElem?_eq_some_iff.mp hx).1
      have g2G := sG _ _ g2
      have d2G := d2.same sG
      have dxG := dx.same sG
      have ll := dL.len
      rw [flat_len (n := mny sz 0 u) (fun x => by rw [List.length_map, lw_len]), List.length_take, lw_len] at ll
      have hle : min i (mny sz 0 s) * mny sz 0 u + mny sz 0 u ≤ 300 := by
        rw [Nat.min_eq_left (by omega)]
        calc i * mny sz 0 u + mny sz 0 u = (i + 1) * mny sz 0 u := by rw [Nat.add_mul, Nat.one_mul]
          _ ≤ mny sz 0 s * mny sz 0 u := Nat.mul_le_mul_right _ (by omega)
          _ ≤ 300 := h3
      refine ⟨_, rfl, _, rfl, a2, rfl, ⟨_, SqL.of g2G⟩, fun D nD => ?_⟩
      refine lc_list (xs := us2) (fun j F => Same G F ∧ ∃ out, F D = some (.lst out) ∧ DdL Non F (((lw sz 0 u).take j).map fun y => Dt.tup [.str "pair", x', y]) out) ⟨newS nD, [], upd_same, .nil⟩ (fun j F _ z => SqL.of (z.1 _ _ g2G)) (fun j v F hv z => ?_) (fun F z => ?_)
      · obtain ⟨sF, out, gD, dd⟩ := z
        obtain ⟨v', hv', dv⟩ := d2G.get hv
        have lj := (List.getElem?_eq_some_iff.mp hv).1
        have lo := dd.len
        rw [List.length_map, List.length_take] at lo
        refine ⟨rfl, _, rfl, _, rfl, (by show 3 ≤ sizeLine; decide), fun t nt => ?_⟩
        obtain ⟨acc, e1, e2, e3, e4, e5⟩ := tagStep (vs := [V.str "pair", x, v]) gD dd (.cons (.str _) (.cons (dxG.same sF) (.cons (dv.same sF) .nil))) (by omega) nt
        refine ⟨acc, e1, e2, smk (sF.trans e3) nD, _, e4, ?_⟩
        rw [List.take_add_one, hv', List.map_append]
        exact e5
      · obtain ⟨sF, out, gD, dd⟩ := z
        rw [show us2.length = (lw sz 0 u).length from d2.len.symm, List.take_length] at dd
        have lo := dd.len
        rw [List.length_map, lw_len] at lo
        refine ⟨L, D, ls, out, rfl, rfl, sF _ _ gL, gD, small6 (by omega), fun r nr => ?_⟩
        have sr := newS (o := .lst (ls ++ out)) nr
        refine ⟨r, _, _, rfl, (sG.trans sF).trans sr, upd_same, ?_⟩
        rw [take_flat hx']
        exact ((dL.same sF).same sr).app (dd.same sr)
    · obtain ⟨L, ls, y, rfl, sG, gL, dL⟩ := z
      rw [show us1.length = (lw sz 0 s).length from d1.len.symm, List.take_length] at dL
      exact ⟨_, rfl, q L _ _ (s12.trans sG) gL dL⟩
theorem okSw {f : Addr} {fd : FuncData} (F : Fun K "_law_small_worths" "_law_small_worths" tLSw f fd) (bF : Binds K fd psSw []) (gF : mg "_law_small_worths" = some (.ref f)) (md : mg "dict" = none) (mr : mg "range" = none) : ∀ n, FnOk P w K mg base CX0 (n + 1) f fd psSw (spSw n)
  | 0 => noFn fun vs H Q E h => by
    obtain ⟨vk, p, t, sz, _, hn, _⟩ := h
    omega
  | n + 1 => okSw1 F bF gF md mr (okSw F bF gF md mr n)
end
end Kq

/-! small worths, shown; kinds of tables -/
namespace Kq
open PySem PySem.Spec PyProof.Rows L2 Kf Kg Kv GxR Kk
abbrev BM : Nat := 10 ^ 45
theorem fines_of {B : Nat} : ∀ {xs : List Dt}, (∀ x ∈ xs, x.fine B) → Dt.fines B xs
  | [], _ => by simp only [Dt.fines]
  | x :: xs, h => by
    simp only [Dt.fines]
    exact ⟨h x List.mem_cons_self, fines_of fun y hy => h y (List.mem_cons_of_mem _ hy)⟩
theorem dps_of {m : Nat} : ∀ {xs : List Dt}, (∀ x ∈ xs, x.dp ≤ m) → Dt.dps xs ≤ m
  | [], _ => by simp only [Dt.dps]; omega
  | x :: xs, h => by
    have h1 := h x List.mem_cons_self
    have h2 := dps_of fun y hy => h y (List.mem_cons_of_mem _ hy)
    simp only [Dt.dps]
    omega
theorem strF (x : Str) (h : ∀ c ∈ x.cps.toList, c < 16 ^ 8) : (Dt.str x).fine BM := by
  simp only [Dt.fine]
  exact h
theorem nmF {x : Str} (h : Nm x) : (Dt.str x).fine BM := strF x fun c hc => by
  have := (h.low c hc).2
  omega
/-- how heavy small worths are -/
def wS : Nat → Nat
  | 0 => 200
  | n + 1 => 2 * wS n + 70
theorem wS_pos : ∀ n, 200 ≤ wS n
  | 0 => Nat.le_refl _
  | n + 1 => by
    have := wS_pos n
    show 200 ≤ 2 * wS n + 70
    omega
theorem wS_mono {i : Nat} : ∀ {j}, i ≤ j → wS i ≤ wS j
  | 0, h => by rw [Nat.le_zero.mp h]; exact Nat.le_refl _
  | j + 1, h => by
    rcases Nat.lt_or_eq_of_le h with h | rfl
    · have := wS_mono (i := i) (j := j) (by omega)
      show _ ≤ 2 * wS j + 70
      omega
    · exact Nat.le_refl _
theorem sml_fine {sz : List (Str × Int)} (hB : SzB sz) : ∀ {t : Kd} {x : Dt}, sml sz t = true → (∀ n ∈ t.opens, Nm n) → x ∈ lw sz 0 t → x.fine BM ∧ x.dp ≤ t.dp + 1 ∧ x.wt ≤ wS t.dp
  | .opn n, x, _, hn, h => by
    obtain ⟨i, hi, rfl⟩ := List.mem_map.mp h
    have hi := List.mem_range.mp hi
    have hl := hB.look n
    have hm : Nm n := hn n (List.mem_singleton.mpr rfl)
    have l : n.length ≤ 8 := hm.few
    have e : ("thing" : Str).length = 5 := by decide +kernel
    refine ⟨?_, by simp only [Dt.dp, Dt.dps]; omega, ?_⟩
    · simp only [Dt.fine, Dt.fines]
      refine ⟨by decide +kernel, ?_, ?_, trivial⟩
      · have := nmF hm
        simpa only [Dt.fine] using this
      · rw [Int.natAbs_natCast]
        exact Nat.lt_of_lt_of_le (by omega : i < 4) (by decide)
    · simp only [Dt.wt, Dt.wts, e]
      show _ ≤ 200
      omega
  | .tru, x, _, _, h => by
    have h : x = .bl false ∨ x = .bl true := by simpa [lw] using h
    rcases h with rfl | rfl <;> exact ⟨by simp only [Dt.fine], by simp only [Dt.dp]; omega, by show 5 ≤ 200; decide⟩
  | .pair s t, x, hs, hn, h => by
    obtain ⟨h12, _⟩ := Bool.and_eq_true_iff.mp (show (sml sz s && sml sz t && decide _) = true from hs)
    obtain ⟨h1, h2⟩ := Bool.and_eq_true_iff.mp h12
    obtain ⟨a, ha, hx⟩ := List.mem_flatMap.mp h
    obtain ⟨c, hc, rfl⟩ := List.mem_map.mp hx
    obtain ⟨f1, d1, w1⟩ := sml_fine hB h1 (fun n hn' => hn n (List.mem_append_left _ hn')) ha
    obtain ⟨f2, d2, w2⟩ := sml_fine hB h2 (fun n hn' => hn n (List.mem_append_right _ hn')) hc
    have m1 := wS_mono (Nat.le_max_left s.dp t.dp)
    have m2 := wS_mono (Nat.le_max_right s.dp t.dp)
    have e : ("pair" : Str).length = 4 := by decide +kernel
    have ed : (Kd.pair s t).dp = max s.dp t.dp + 1 := rfl
    refine ⟨?_, by simp only [Dt.dp, Dt.dps]; omega, ?_⟩
    · simp only [Dt.fine, Dt.fines]
      exact ⟨by decide +kernel, f1, f2, trivial⟩
    · simp only [Dt.wt, Dt.wts, e]
      show _ ≤ 2 * wS (max s.dp t.dp) + 70
      omega
  | .eith s t, x, hs, hn, h => by
    obtain ⟨h12, _⟩ := Bool.and_eq_true_iff.mp (show (sml sz s && sml sz t && decide _) = true from hs)
    obtain ⟨h1, h2⟩ := Bool.and_eq_true_iff.mp h12
    have m1 := wS_mono (Nat.le_max_left s.dp t.dp)
    have m2 := wS_mono (Nat.le_max_right s.dp t.dp)
    have p := wS_pos (max s.dp t.dp)
    have e : ("left" : Str).length = 4 := by decide +kernel
    have e2 : ("right" : Str).length = 5 := by decide +kernel
    have ed : (Kd.eith s t).dp = max s.dp t.dp + 1 := rfl
    rcases List.mem_append.mp h with h | h
    · obtain ⟨a, ha, rfl⟩ := List.mem_map.mp h
      obtain ⟨f1, d1, w1⟩ := sml_fine hB h1 (fun n hn' => hn n (List.mem_append_left _ hn')) ha
      refine ⟨?_, by simp only [Dt.dp, Dt.dps]; omega, ?_⟩
      · simp only [Dt.fine, Dt.fines]
        exact ⟨by decide +kernel, f1, trivial⟩
      · simp only [Dt.wt, Dt.wts, e]
        show _ ≤ 2 * wS (max s.dp t.dp) + 70
        omega
    · obtain ⟨a, ha, rfl⟩ := List.mem_map.mp h
      obtain ⟨f1, d1, w1⟩ := sml_fine hB h2 (fun n hn' => hn n (List.mem_append_right _ hn')) ha
      refine ⟨?_, by simp only [Dt.dp, Dt.dps]; omega, ?_⟩
      · simp only [Dt.fine, Dt.fines]
        exact ⟨by decide +kernel, f1, trivial⟩
      · simp only [Dt.wt, Dt.wts, e2]
        show _ ≤ 2 * wS (max s.dp t.dp) + 70
        omega
theorem due_shw {sz : List (Str × Int)} (hB : SzB sz) {t : Kd} (hs : sml sz t = true) (hn : ∀ n ∈ t.opens, Nm n) (hd : t.dp ≤ 6) : Shw 70 (.lst (lw sz 0 t)) := by
  have h := fun x hx => sml_fine hB (x := x) hs hn hx
  have l : (lw sz 0 t).length ≤ 300 := by
    rw [lw_len]
    exact sml_le hB hs
  have w1 := wts_all (W := wS 6) fun x hx => Nat.le_trans (h x hx).2.2 (wS_mono hd)
  have e6 : wS 6 = 17210 := by decide
  have w2 : (lw sz 0 t).length * (wS 6 + 2) ≤ 300 * (wS 6 + 2) := Nat.mul_le_mul_right _ l
  refine (show Fine BM 70 16777214 (.lst (lw sz 0 t)) from ⟨?_, ?_, ?_⟩).shw (Nat.le_refl _) (show 16777214 ≤ sizeLine by decide)
  · simp only [Dt.fine]
    exact fines_of fun x hx => (h x hx).1
  · have := dps_of (m := 7) fun x hx => Nat.le_trans (h x hx).2.1 (by omega)
    simp only [Dt.dp]
    omega
  · simp only [Dt.wt]
    omega
/-- small kinds, as they are drawn -/
def smS : Kd → Bool
  | .opn _ => true
  | .tru => true
  | .pair a b => smS a && smS b
  | .eith a b => smS a && smS b
  | _ => false
theorem smS_data : ∀ {t : Kd}, smS t = true → t.data = true
  | .opn _, _ => rfl
  | .tru, _ => rfl
  | .pair a b, h => by
    obtain ⟨h1, h2⟩ := Bool.and_eq_true_iff.mp (show (smS a && smS b) = true from h)
    exact Bool.and_eq_true_iff.mpr ⟨smS_data h1, smS_data h2⟩
  | .eith a b, h => by
    obtain ⟨h1, h2⟩ := Bool.and_eq_true_iff.mp (show (smS a && smS b) = true from h)
    exact Bool.and_eq_true_iff.mpr ⟨smS_data h1, smS_data h2⟩
theorem smS_mny {sz : List (Str × Int)} {b : Nat} : ∀ {t : Kd}, smS t = true → mny sz b t = mny sz 0 t
  | .opn _, _ => rfl
  | .tru, _ => rfl
  | .pair s t, h => by
    obtain ⟨h1, h2⟩ := Bool.and_eq_true_iff.mp (show (smS s && smS t) = true from h)
    show mny sz b s * mny sz b t = mny sz 0 s * mny sz 0 t
    rw [smS_mny h1, smS_mny h2]
  | .eith s t, h => by
    obtain ⟨h1, h2⟩ := Bool.and_eq_true_iff.mp (show (smS s && smS t) = true from h)
    show mny sz b s + mny sz b t = mny sz 0 s + mny sz 0 t
    rw [smS_mny h1, smS_mny h2]
/-- kinds of tables, within the bounds of this law -/
def tbk (sz : List (Str × Int)) : Kd → Bool
  | .fn a c => smS a && decide (a.dp ≤ 6) && (sml sz a || decide (300 < mny sz 0 a)) && tbk sz c
  | t => t.data && decide (t.dp ≤ 5)
theorem tbk_see {sz : List (Str × Int)} {a c : Kd} (h : tbk sz (.fn a c) = true) : smS a = true ∧ a.dp ≤ 6 ∧ (mny sz 0 a ≤ 300 → sml sz a = true) ∧ tbk sz c = true := by
  obtain ⟨h1, h2⟩ := Bool.and_eq_true_iff.mp (show (smS a && decide (a.dp ≤ 6) && (sml sz a || decide (300 < mny sz 0 a)) && tbk sz c) = true from h)
  obtain ⟨h3, h4⟩ := Bool.and_eq_true_iff.mp h1
  obtain ⟨h5, h6⟩ := Bool.and_eq_true_iff.mp h3
  refine ⟨h5, of_decide_eq_true h6, fun z => ?_, h2⟩
  rcases Bool.or_eq_true_iff.mp h4 with e | e
  · exact e
  · have e := of_decide_eq_true e
    omega
theorem tbk_knd {sz : List (Str × Int)} : ∀ {t : Kd}, tbk sz t = true → knd t = true
  | .fn a c, h => Bool.and_eq_true_iff.mpr ⟨smS_data (tbk_see h).1, tbk_knd (tbk_see h).2.2.2⟩
  | .opn _, h => (Bool.and_eq_true_iff.mp (show ((Kd.opn _).data && decide _) = true from h)).1
  | .num, h => rfl
  | .tru, h => rfl
  | .pair _ _, h => (Bool.and_eq_true_iff.mp (show ((Kd.pair _ _).data && decide _) = true from h)).1
  | .eith _ _, h => (Bool.and_eq_true_iff.mp (show ((Kd.eith _ _).data && decide _) = true from h)).1
  | .lst _, h => (Bool.and_eq_true_iff.mp (show ((Kd.lst _).data && decide _) = true from h)).1
end Kq

namespace Kq
open PySem PySem.Spec PyProof.Rows L2 Kf Kg Kv GxR Kk
theorem isS_see {x : Dt} {z : Str} (h : x.isS z = true) : x = .str z := by
  cases x with
  | str y => exact congrArg Dt.str (of_decide_eq_true h)
  | _ => cases h
theorem tag1 {x : Dt} {z : Str} (h : tagD x z 1 = true) : ∃ a, x = .tup [.str z, a] := by
  unfold tagD at h
  split at h
  · rename_i y ys
    obtain ⟨h1, h2⟩ := Bool.and_eq_true_iff.mp h
    obtain rfl := isS_see h2
    match ys, of_decide_eq_true h1 with
    | [a], _ => exact ⟨a, rfl⟩
  · cases h
theorem tag2 {x : Dt} {z : Str} (h : tagD x z 2 = true) : ∃ a c, x = .tup [.str z, a, c] := by
  unfold tagD at h
  split at h
  · rename_i y ys
    obtain ⟨h1, h2⟩ := Bool.and_eq_true_iff.mp h
    obtain rfl := isS_see h2
    match ys, of_decide_eq_true h1 with
    | [a, c], _ => exact ⟨a, c, rfl⟩
  · cases h
theorem dd_t2 {N : Addr → Prop} {H : Hp} {p q : Dt} {v : V} (h : Dd N H (.tup [p, q]) v) : ∃ a u1 u2, v = .ref a ∧ H a = some (.tup [u1, u2]) ∧ Dd N H p u1 ∧ Dd N H q u2 := by
  cases h with
  | tup h t =>
    cases t with
    | cons t1 t =>
      cases t with
      | cons t2 t =>
        cases t
        exact ⟨_, _, _, rfl, h, t1, t2⟩
theorem dd_t3 {N : Addr → Prop} {H : Hp} {p q r : Dt} {v : V} (h : Dd N H (.tup [p, q, r]) v) : ∃ a u1 u2 u3, v = .ref a ∧ H a = some (.tup [u1, u2, u3]) ∧ Dd N H p u1 ∧ Dd N H q u2 ∧ Dd N H r u3 := by
  cases h with
  | tup h t =>
    cases t with
    | cons t1 t =>
      cases t with
      | cons t2 t =>
        cases t with
        | cons t3 t =>
          cases t
          exact ⟨_, _, _, _, rfl, h, t1, t2, t3⟩
end Kq

/-! places -/
namespace Kq
open PySem PySem.Spec PyProof.Rows L2 Kf Kg Kv GxR Kk
theorem flat_get {α β : Type} {n : Nat} {f : α → List β} (hf : ∀ a, (f a).length = n) {z : β} : ∀ {xs : List α} {i : Nat}, (xs.flatMap f)[i]? = some z → ∃ j k a, xs[j]? = some a ∧ (f a)[k]? = some z ∧ i = j * n + k
  | [], i, h => by simp at h
  | x :: xs, i, h => by
    rw [List.flatMap_cons] at h
    by_cases c : i < (f x).length
    · rw [List.getElem?_append_left c] at h
      exact ⟨0, i, x, rfl, h, by omega⟩
    · rw [List.getElem?_append_right (by omega), hf] at h
      obtain ⟨j, k, a, h1, h2, h3⟩ := flat_get hf h
      rw [hf] at c
      refine ⟨j + 1, k, a, h1, h2, ?_⟩
      rw [Nat.add_mul, Nat.one_mul]
      omega
/-- digits -/
def dig (n : Nat) (ds : List Nat) : Nat := ds.foldl (fun a d => a * n + d) 0
theorem dig_app (n : Nat) (ds : List Nat) (d : Nat) : dig n (ds ++ [d]) = dig n ds * n + d := by
  unfold dig
  rw [List.foldl_append]
  rfl
theorem runs_get {W : List Dt} : ∀ {l q : Nat} {r : List Dt}, (runs W l)[q]? = some r → ∃ ds : List Nat, ds.length = l ∧ q = dig W.length ds ∧ r.length = l ∧ ∀ (k : Nat) (x : Dt), r[k]? = some x → ∃ d : Nat, ds[k]? = some d ∧ W[d]? = some x
  | 0, q, r, h => by
    have h : ([[]] : List (List Dt))[q]? = some r := h
    cases q with
    | zero =>
      obtain rfl : [] = r := Option.some.inj h
      exact ⟨[], rfl, rfl, rfl, fun k x h => by simp at h⟩
    | succ q => simp at h
  | l + 1, q, r, h => by
    obtain ⟨j, k, a, h1, h2, h3⟩ := flat_get (n := W.length) (fun a => List.length_map _) (show ((runs W l).flatMap fun r => W.map fun y => r ++ [y])[q]? = some r from h)
    obtain ⟨ds, e1, e2, e3, e4⟩ := runs_get h1
    rw [List.getElem?_map] at h2
    obtain ⟨y, hy, rfl⟩ := Option.map_eq_some_iff.mp h2
    refine ⟨ds ++ [k], by rw [List.length_append, e1]; rfl, by rw [dig_app, h3, e2], by rw [List.length_append, e3]; rfl, fun i x hx => ?_⟩
    by_cases c : i < a.length
    · rw [List.getElem?_append_left c] at hx
      obtain ⟨d, f1, f2⟩ := e4 i x hx
      exact ⟨d, by rw [List.getElem?_append_left (by omega)]; exact f1, f2⟩
    · rw [List.getElem?_append_right (by omega)] at hx
      have c2 : i = a.length := by
        have := (List.getElem?_eq_some_iff.mp hx).1
        simp at this
        omega
      subst c2
      rw [Nat.sub_self] at hx
      obtain rfl : y = x := Option.some.inj hx
      refine ⟨k, ?_, hy⟩
      rw [List.getElem?_append_right (by omega), e1, e3, Nat.sub_self]
      rfl
theorem lists_get {W : List Dt} {z : Dt} : ∀ {j i : Nat}, (llw W j)[i]? = some z → ∃ l q r, l < j ∧ (runs W l)[q]? = some r ∧ z = .tup [.str "list", .tup r] ∧ i = gm W.length l + q
  | 0, i, h => by
    have h : ([] : List Dt)[i]? = some z := h
    simp at h
  | j + 1, i, h => by
    rw [llw_next] at h
    by_cases c : i < (llw W j).length
    · rw [List.getElem?_append_left c] at h
      obtain ⟨l, q, r, h1, h2⟩ := lists_get h
      exact ⟨l, q, r, by omega, h2⟩
    · rw [List.getElem?_append_right (by omega), List.getElem?_map] at h
      obtain ⟨r, hr, rfl⟩ := Option.map_eq_some_iff.mp h
      exact ⟨j, _, r, Nat.lt_succ_self j, hr, rfl, by rw [llw_len] at c ⊢; omega⟩
theorem rows_get {xs ys : List Dt} {i : Nat} {z : Dt} (h : (rows xs ys)[i]? = some z) : ∃ x y, xs[i]? = some x ∧ ys[i]? = some y ∧ z = .tup [x, y] := by
  unfold rows at h
  rw [List.getElem?_zipWith] at h
  cases hx : xs[i]? with
  | none => rw [hx] at h; cases h
  | some x =>
    cases hy : ys[i]? with
    | none => rw [hx, hy] at h; cases h
    | some y =>
      rw [hx, hy] at h
      exact ⟨x, y, rfl, rfl, (Option.some.inj h).symm⟩
end Kq

/-! _law_is_table -/
namespace Kq
open PySem PySem.Spec PyProof.Rows L2 Kf Kg Kv GxR Kk
abbrev tLTab : Stmt := tp 44
theorem call_len_seqK {X : Cx} (K : PySem.W.Frag) (h : X.K = K) : CallR X (.builtin "len") (fun xs H Q => ∃ p ys, xs = [.ref p] ∧ (SqL K H p ys ∨ SqT K H p ys) ∧ Q (.int ys.length) H) := by
  subst h
  exact call_len_seq
theorem tbk_leaf {sz : List (Str × Int)} {t : Kd} (h : tbk sz t = true) (hf : t.isFn = false) : t.data = true ∧ t.dp ≤ 5 := by
  cases t with
  | fn _ _ => cases hf
  | opn x =>
    obtain ⟨h1, h2⟩ := Bool.and_eq_true_iff.mp (show ((Kd.opn x).data && decide ((Kd.opn x).dp ≤ 5)) = true from h)
    exact ⟨h1, of_decide_eq_true h2⟩
  | num => exact ⟨rfl, by decide⟩
  | tru => exact ⟨rfl, by decide⟩
  | pair a b =>
    obtain ⟨h1, h2⟩ := Bool.and_eq_true_iff.mp (show ((Kd.pair a b).data && decide ((Kd.pair a b).dp ≤ 5)) = true from h)
    exact ⟨h1, of_decide_eq_true h2⟩
  | eith a b =>
    obtain ⟨h1, h2⟩ := Bool.and_eq_true_iff.mp (show ((Kd.eith a b).data && decide ((Kd.eith a b).dp ≤ 5)) = true from h)
    exact ⟨h1, of_decide_eq_true h2⟩
  | lst a =>
    obtain ⟨h1, h2⟩ := Bool.and_eq_true_iff.mp (show ((Kd.lst a).data && decide ((Kd.lst a).dp ≤ 5)) = true from h)
    exact ⟨h1, of_decide_eq_true h2⟩
section
variable {P : Program} {w : World} {K : PySem.W.Frag} {mg : Str → Option Value} {base : Heap}
abbrev psTab : List Str := ["_law_kind", "_law_sizes_here", "_law_bound", "_law_thing"]
abbrev nTab : List Str := ["_law_kind", "_law_sizes_here", "_law_bound", "_law_thing", "_law_due", "_law_row"]
theorem scTab : FnScope nTab psTab (defScope tLTab) := ⟨rfl, rfl, rfl, by decide +kernel, rfl, by decide +kernel, by decide +kernel⟩
def spTab (n : Nat) : Sp := fun vs H Q _ => ∃ (vk : V) (p : Addr) (vx : V) (t : Kd) (sz : List (Str × Int)) (b : Nat) (x : Dt), vs = [vk, .ref p, .int (b : Nat), vx] ∧ t.dp + 1 ≤ n ∧ tbk sz t = true ∧ (∀ n ∈ t.opens, Nm n) ∧ Rp H t vk ∧ Sz H p sz ∧ SzB sz ∧ b ≤ 3 ∧ lng sz b t = false ∧ x ∈ lw sz b t ∧ Dd Non H x vx ∧ ∀ G : Hp, Same H G → Q (.bl true) G
theorem okTab1 {f fW fS : Addr} {fd fdW fdS : FuncData} {n k : Nat} (F : Fun K "_law_is_table" "_law_is_table" tLTab f fd) (bF : Binds K fd psTab []) (gF : mg "_law_is_table" = some (.ref f))
    (GW : FnOk P w K mg base CX0 (k + 72) fW fdW psLW (spLW 6)) (bW : Binds K fdW psLW []) (gW : mg "_law_is_worth" = some (.ref fW)) (kW : PySem.W.keepIn K (.ref fW) = true)
    (GS : FnOk P w K mg base CX0 (k + 72) fS fdS psSw (spSw n)) (bS : Binds K fdS psSw []) (gS : mg "_law_small_worths" = some (.ref fS)) (kS : PySem.W.keepIn K (.ref fS) = true)
    (mi : mg "isinstance" = none) (mt : mg "tuple" = none) (ml : mg "len" = none) (mp : mg "repr" = none)
    (GI : FnG P w K mg base CX0 (k + 72) f fd psTab (spTab n)) : FnG P w K mg base CX0 (k + 73) f fd psTab (spTab (n + 1)) := by
  refine okG F scTab (fun vs H Q E h => ?_) (fun cdv A outer s H vs Q E still hr h => ?_)
  · obtain ⟨vk, p, vx, t, sz, b, x, rfl, _⟩ := h
    rfl
  obtain ⟨vk, p, vx, t, sz, b, x, rfl, hn, htb, hop, rk, hz, hB, hb, hlg, hx, dx, q⟩ := h
  have hu : (cxOf CX0 P w K mg base nTab "_law_is_table" (defScope tLTab) f cdv A outer s H E).nox.A.units + (70 + 1) < cLine := by
    have := hr.un
    show (A.deeper _).units + 71 < cLine
    omega
  refine ⟨_, pss_cons (ps_if (pt_cmpR op_ne (pe_ix ix_tup (pv 0) pe_int (fun _ _ => rfl)) pe_str (nomark _)) (pss_one (ps_ret (pe_call GW hr (by rfl) gW kW bW .nil pass0 (pa_cons (pv 0) (pa_cons (pv 1) (pa_cons (pv 3) pa_nil)))))) pss_nil)
    (pss_cons (ps_if (PW.pt (pw_or (pt_not (pt_val (pe_callB (isiK K rfl) (by rfl) mi PyProof.Rows.boot_isinstance (pa_cons (pv 3) (pa_cons (pe_bltn (v := .ty "tuple") (by rfl) mt PyProof.Rows.boot_tuple rfl) pa_nil)))))
        (pw_or (pt_cmpR op_ne (pe_callB call_len_seq (by rfl) ml PySem.boot_len (pa_cons (pv 3) pa_nil)) pe_int (nomark _))
        (pw_or (pt_cmpR op_ne (pe_ix ix_tup (pv 3) pe_int (fun _ _ => rfl)) pe_str (nomark _))
        (pw_or1 (pt_not (pt_val (pe_callB (isiK K rfl) (by rfl) mi PyProof.Rows.boot_isinstance (pa_cons (pe_ix ix_tup (pv 3) pe_int (fun _ _ => rfl)) (pa_cons (pe_bltn (v := .ty "tuple") (by rfl) mt PyProof.Rows.boot_tuple rfl) pa_nil))))))))))
      (pss_one (ps_ret pe_bl)) pss_nil)
    (pss_cons (ps_set (i := 4) scTab.nd rfl (.inl rfl) (pe_call GS hr (by rfl) gS kS bS .nil pass0 (pa_cons (pe_ix ix_tup (pv 0) pe_int (fun _ _ => rfl)) (pa_cons (pv 1) pa_nil))))
    (pss_cons (ps_if (pt_cmpR (op_neD hr.units) (pe_lc (own := [("_law_row", 5)]) (g := gName 5) (by rfl) scTab.nd (pi_tup (pe_ix ix_tup (pv 3) pe_int (fun _ _ => rfl))) (blkOk_by (own := [("_law_row", 5)]) (N := nTab) (sc := defScope tLTab) (by decide +kernel))
        (fun _ _ _ _ _ => pg_name (i := 5) scTab.nd rfl (.inl rfl)) (fun _ _ _ _ _ => pts_one (PW.pt (pw_or (pt_not (pt_val (pe_callB (isiK K rfl) (by rfl) mi PyProof.Rows.boot_isinstance (pa_cons (pv 5) (pa_cons (pe_bltn (v := .ty "tuple") (by rfl) mt PyProof.Rows.boot_tuple rfl) pa_nil)))))
          (pw_or1 (pt_cmpR op_ne (pe_callB (call_len_seqK K rfl) (by rfl) ml PySem.boot_len (pa_cons (pv 5) pa_nil)) pe_int (nomark _)))))) (fun _ _ _ _ _ => pv 5)) (pe_lst pa_nil) (nomark _)) (pss_one (ps_ret pe_bl)) pss_nil)
    (pss_cons (ps_if (pt_cmpR op_ne (pe_callB (call_showU (n := 70) still hu) (by rfl) mp PyProof.Rows.boot_repr (pa_cons (pe_lc (own := [("_law_row", 5)]) (g := gName 5) (tt := tYes) (by rfl) scTab.nd (pi_tup (pe_ix ix_tup (pv 3) pe_int (fun _ _ => rfl))) (blkOk_by (own := [("_law_row", 5)]) (N := nTab) (sc := defScope tLTab) (by decide +kernel))
        (fun _ _ _ _ _ => pg_name (i := 5) scTab.nd rfl (.inl rfl)) (fun _ _ _ _ _ => pts_nil) (fun _ _ _ _ _ => pe_ix (ixTK K rfl) (pv 5) pe_int (fun _ _ => rfl))) pa_nil)) (pe_callB (call_showU (n := 70) still hu) (by rfl) mp PyProof.Rows.boot_repr (pa_cons (pv 4) pa_nil)) (nomark _)) (pss_one (ps_ret pe_bl)) pss_nil)
    (pss_one (ps_ret (pe_cmpR (op_eqL0 hr.units) (pe_lc (own := [("_law_row", 5)]) (g := gName 5) (by rfl) scTab.nd (pi_tup (pe_ix ix_tup (pv 3) pe_int (fun _ _ => rfl))) (blkOk_by (own := [("_law_row", 5)]) (N := nTab) (sc := defScope tLTab) (by decide +kernel))
        (fun _ _ _ _ _ => pg_name (i := 5) scTab.nd rfl (.inl rfl)) (fun _ _ _ _ _ => pts_one (pt_not (pt_val (pe_callG GI still hr (by rfl) gF F.kp bF .nil pass0 (pa_cons (pe_ix (ixTK K rfl) (pv 0) pe_int (fun _ _ => rfl)) (pa_cons (pv 1) (pa_cons (pv 2) (pa_cons (pe_ix (ixTK K rfl) (pv 5) pe_int (fun _ _ => rfl)) pa_nil)))))))) (fun _ _ _ _ _ => pv 5)) (pe_lst pa_nil) (nomark _)))))))), ?_⟩
  obtain ⟨ka, us, rfl, hk, hks⟩ := rk.see
  have ew : decide (V.str t.word = V.str "fun") = t.isFn := by
    rw [Kd.isFn_word]
  refine ⟨_, rfl, ka, _, _, _, rfl, rfl, SqT.of hk, atI_nat (j := 0) rfl, rfl, _, rfl, ite2 (fun e => ?_) (fun e => ?_)⟩
  · have e : (!decide (V.str t.word = V.str "fun")) = true := e
    rw [ew] at e
    obtain ⟨d1, d2⟩ := tbk_leaf htb (by simpa using e)
    have hw := lw_wth d1 hx
    have hwt := lw_wt hb d1 hop hx
    have hwm := wB_mono d2
    have hw3 : wB 5 = 72800 := by decide
    refine ⟨_, rfl, _, rfl, _, rfl, _, p, vx, t, sz, x, rfl, by omega, d1, rk, hz, hB.nd, dx.any, small6 (by omega), fun G sG => ?_⟩
    rw [hw]
    exact q G sG
  have e : ¬ (!decide (V.str t.word = V.str "fun")) = true := e
  rw [ew] at e
  cases t with
  | opn _ => exact absurd rfl e
  | num => exact absurd rfl e
  | tru => exact absurd rfl e
  | pair _ _ => exact absurd rfl e
  | eith _ _ => exact absurd rfl e
  | lst _ => exact absurd rfl e
  | fn a c =>
  obtain ⟨hsm, hd, hsl, hc⟩ := tbk_see htb
  have mne : mny sz b (.fn a c) ≠ 0 := fun z => by
    rw [← lw_len] at z
    rw [List.length_eq_zero_iff.mp z] at hx
    exact nomatch hx
  have hl2 : (decide (300 < mny sz b a) || (decide (mny sz b a ≠ 0) && lng sz b c)) = false := by
    have h : (decide (mny sz b (.fn a c) ≠ 0) && (decide (300 < mny sz b a) || (decide (mny sz b a ≠ 0) && lng sz b c))) = false := hlg
    rw [decide_eq_true mne, Bool.true_and] at h
    exact h
  rw [Bool.or_eq_false_iff] at hl2
  have m300 : mny sz b a ≤ 300 := Nat.le_of_not_lt (of_decide_eq_false hl2.1)
  have ha : sml sz a = true := hsl (by rw [← smS_mny (b := b) hsm]; exact m300)
  have hopa : ∀ n ∈ a.opens, Nm n := fun n h => hop n (List.mem_append_left _ h)
  have hopc : ∀ n ∈ c.opens, Nm n := fun n h => hop n (List.mem_append_right _ h)
  have hn2 : max a.dp c.dp + 1 + 1 ≤ n + 1 := hn
  obtain ⟨ka', kx, ky, ek, hk4, ra, rc⟩ := rk
  obtain rfl : ka = ka' := V.ref.inj ek
  obtain ⟨r, hr', rfl⟩ := List.mem_map.mp (show x ∈ (runs (lw sz b c) (mny sz b a)).map fun r => Dt.tup [.str "table", .tup (rows (lw sz b a) r)] from hx)
  obtain ⟨lr, hr2⟩ := runs_each hr'
  obtain ⟨xa, u1, u2, rfl, gx, dx1, dx2⟩ := dd_t2 dx
  obtain ⟨ta, ts, rfl, gt, dts⟩ := Kv.Dd.tupS dx2
  cases dx1
  have lts : ts.length = mny sz b a := by
    rw [← dts.len, rows_len (by rw [lw_len, lr]), lw_len]
  refine ⟨_, rfl, _, _, _, _, _, rfl, .ty "tuple", dx.ty, kTup K _, _, rfl, iteF ?_⟩
  refine ⟨_, rfl, xa, _, rfl, .inr (SqT.of gx), rfl, _, rfl, ite2 (fun e => absurd rfl (neI_t e)) (fun _ => ?_)⟩
  refine ⟨_, rfl, xa, _, _, _, rfl, rfl, SqT.of gx, atI_nat (j := 0) rfl, rfl, _, rfl, ite2 (fun e => absurd rfl (neS_t e)) (fun _ => ?_)⟩
  refine ⟨_, rfl, xa, _, _, _, rfl, rfl, SqT.of gx, atI_nat (j := 1) rfl, _, _, _, _, _, rfl, .ty "tuple", dx2.ty, kTup K _, _, rfl, iteF ?_⟩
  refine ⟨_, rfl, ka, _, _, _, rfl, rfl, SqT.of hk4, atI_nat (j := 1) rfl, _, rfl, kx, p, a, sz, rfl, by omega, ha, ra, hz, hB, fun L dus G1 s1 gL dL => ?_⟩
  have gx1 := s1 _ _ gx
  have gt1 := s1 _ _ gt
  have dt1 := dts.same s1
  have eq0 : lw sz b a = lw sz 0 a := sml_lw ha
  have m0 := sml_le hB ha
  have mb : mny sz b a ≤ 300 := by rw [sml_mny ha]; exact m0
  have lrow : (rows (lw sz b a) r).length = mny sz b a := by rw [rows_len (by rw [lw_len, lr]), lw_len]
  refine ⟨_, rfl, xa, _, _, _, rfl, rfl, SqT.of gx1, atI_nat (j := 1) rfl, ta, rfl, ⟨_, SqT.of gt1⟩, fun D nD => ?_⟩
  refine lc_tup (xs := ts) (fun i F => Same G1 F ∧ F D = some (.lst [])) ⟨newS nD, upd_same⟩ (fun i F _ z => SqT.of (z.1 _ _ gt1)) (fun i v F hv z => ?_) (fun F z => ?_)
  · obtain ⟨sF, gD⟩ := z
    obtain ⟨x', hx', dv⟩ := dt1.get hv
    obtain ⟨x1, y1, e1, e2, rfl⟩ := rows_get hx'
    obtain ⟨va, w1, w2, rfl, gv, dw1, dw2⟩ := dd_t2 dv
    refine ⟨rfl, _, rfl, _, _, _, _, _, rfl, .ty "tuple", (dv.same sF).ty, kTup K _, _, rfl, iteF ?_⟩
    refine ⟨_, rfl, va, _, rfl, .inr (SqT.of (sF _ _ gv)), rfl, _, rfl, ite2 (fun e => absurd rfl (neI_t e)) (fun _ => ⟨sF, gD⟩)⟩
  obtain ⟨sF, gD⟩ := z
  refine ⟨Nat.zero_le _, fun e0 ne0 => ⟨.list [], .list [], .lst (SqL.of (newS ne0 _ _ gD)) .nil, .lst (SqL.of upd_same) .nil, shStrs (xs := []) (fun _ h => nomatch h), rfl, _, rfl, ite2 (fun e => ?_) (fun _ => ?_)⟩⟩
  · exfalso
    simp [PyData.eqv, PyData.eqvAll] at e
  have s2 := sF.trans (newS (o := .lst []) ne0)
  have gx2 := s2 _ _ gx1
  have gt2 := s2 _ _ gt1
  have gL2 := s2 _ _ gL
  have dt2 := dt1.same s2
  have dL2 := dL.same s2
  have hk6 := s2 _ _ (s1 _ _ hk4)
  have s12 := s1.trans s2
  generalize upd F e0 (.lst []) = F0 at s2 gx2 gt2 gL2 dt2 dL2 hk6 s12
  clear nD gD ne0 sF
  refine ⟨_, rfl, xa, _, _, _, rfl, rfl, SqT.of gx2, atI_nat (j := 1) rfl, ta, rfl, ⟨_, SqT.of gt2⟩, fun D2 nD2 => ?_⟩
  refine lc_tup (xs := ts) (fun i F => Same F0 F ∧ ∃ out, F D2 = some (.lst out) ∧ DdL Non F ((lw sz 0 a).take i) out) ⟨newS nD2, [], upd_same, .nil⟩ (fun i F _ z => SqT.of (z.1 _ _ gt2)) (fun i v F hv z => ?_) (fun F z => ?_)
  · obtain ⟨sF, out, gD, dd⟩ := z
    obtain ⟨x', hx', dv⟩ := dt2.get hv
    obtain ⟨x1, y1, e1, e2, rfl⟩ := rows_get hx'
    obtain ⟨va, w1, w2, rfl, gv, dw1, dw2⟩ := dd_t2 dv
    rw [eq0] at e1
    have lo := dd.len
    rw [List.length_take] at lo
    have li := (List.getElem?_eq_some_iff.mp hv).1
    have nt2 : ∀ xs, F D2 ≠ some (.tup xs) := fun xs e => by
      rw [gD] at e
      cases e
    have kt : Kn Non F (upd F D2 (.lst (out ++ [w1]))) := Kn.rfl.put (fun z => z) nt2
    refine ⟨rfl, _, rfl, va, _, _, _, rfl, rfl, SqT.of (sF _ _ gv), atI_nat (j := 0) rfl, out, gD, small6' (by omega), smk sF nD2, _, upd_same, ?_⟩
    rw [List.take_add_one, e1]
    exact (dd.kn kt).app (.cons ((dw1.same sF).kn kt) .nil)
  obtain ⟨sF, out, gD, dd⟩ := z
  have shw := due_shw hB ha hopa hd
  rw [show ts.length = (lw sz 0 a).length by rw [lts, lw_len, sml_mny ha], List.take_length] at dd
  refine ⟨_, .lst (lw sz 0 a), rfl, .lst trivial gD dd.any, shw, _, rfl, _, .lst (lw sz 0 a), rfl, .lst trivial (sF _ _ gL2) (dL2.same sF).any, shw, rfl, _, rfl, ite2 (fun e => absurd rfl (neS_t e)) (fun _ => ?_)⟩
  have gx3 := sF _ _ gx2
  have gt3 := sF _ _ gt2
  have dt3 := dt2.same sF
  have hk7 := sF _ _ hk6
  have s3 := s12.trans sF
  refine ⟨_, rfl, xa, _, _, _, rfl, rfl, SqT.of gx3, atI_nat (j := 1) rfl, ta, rfl, ⟨_, SqT.of gt3⟩, fun D3 nD3 => ?_⟩
  refine lc_tup (xs := ts) (fun i E => Same F E ∧ E D3 = some (.lst [])) ⟨newS nD3, upd_same⟩ (fun i E _ z => SqT.of (z.1 _ _ gt3)) (fun i v E hv z => ?_) (fun E z => ?_)
  · obtain ⟨sE, gD3⟩ := z
    obtain ⟨x', hx', dv⟩ := dt3.get hv
    obtain ⟨x1, y1, e1, e2, rfl⟩ := rows_get hx'
    obtain ⟨va, w1, w2, rfl, gv, dw1, dw2⟩ := dd_t2 dv
    have my := hr2 _ (List.mem_of_getElem? e2)
    have lc : lng sz b c = false := by
      have l := (List.getElem?_eq_some_iff.mp hv).1
      have h2 := hl2.2
      rw [decide_eq_true (show mny sz b a ≠ 0 by omega), Bool.true_and] at h2
      exact h2
    have sA := s3.trans sE
    refine ⟨rfl, _, rfl, ka, _, _, _, rfl, rfl, SqT.of (sE _ _ hk7), atI_nat (j := 2) rfl, _, rfl, _, rfl, _, rfl, va, _, _, _, rfl, rfl, SqT.of (sE _ _ gv), atI_nat (j := 1) rfl, ky, p, w2, c, sz, b, y1, rfl, by omega, hc, hopc, rc.tk (Tk.of sA), hz.same sA, hB, hb, lc, my, dw2.same sE, fun E2 s2 => ⟨_, rfl, iteF ⟨sE.trans s2, s2 _ _ gD3⟩⟩⟩
  obtain ⟨sE, gD3⟩ := z
  refine ⟨Nat.zero_le _, fun e1 ne1 => ⟨D3, e1, [], rfl, rfl, SqL.of (newS ne1 _ _ gD3), SqL.of upd_same, ?_⟩⟩
  exact q _ ((s3.trans sE).trans (newS (o := .lst []) ne1))
theorem okTab {f fW fS : Addr} {fd fdW fdS : FuncData} {k : Nat} (F : Fun K "_law_is_table" "_law_is_table" tLTab f fd) (bF : Binds K fd psTab []) (gF : mg "_law_is_table" = some (.ref f))
    (GW : FnOk P w K mg base CX0 (k + 72) fW fdW psLW (spLW 6)) (bW : Binds K fdW psLW []) (gW : mg "_law_is_worth" = some (.ref fW)) (kW : PySem.W.keepIn K (.ref fW) = true)
    (GS : ∀ n, FnOk P w K mg base CX0 (n + 1) fS fdS psSw (spSw n)) (bS : Binds K fdS psSw []) (gS : mg "_law_small_worths" = some (.ref fS)) (kS : PySem.W.keepIn K (.ref fS) = true)
    (mi : mg "isinstance" = none) (mt : mg "tuple" = none) (ml : mg "len" = none) (mp : mg "repr" = none) : ∀ n, FnG P w K mg base CX0 (k + n + 72) f fd psTab (spTab n)
  | 0 => ⟨fun vs H Q E h => by
      obtain ⟨vk, p, vx, t, sz, b, x, _, hn, _⟩ := h
      omega, fun A o s H r us vs Q E _ _ _ _ _ h => by
      obtain ⟨vk, p, vx, t, sz, b, x, _, hn, _⟩ := h
      omega⟩
  | n + 1 => okTab1 (k := k + n) F bF gF (GW.mono (by omega)) bW gW kW ((GS n).mono (by omega)) bS gS kS mi mt ml mp (okTab F bF gF GW bW gW kW GS bS gS kS mi mt ml mp n)
end
end Kq

/-! _law_place -/
namespace Kq
open PySem PySem.Spec PyProof.Rows L2 Kf Kg Kv GxR Kk
abbrev tLPlc : Stmt := tp 45
section
variable {P : Program} {w : World} {K : PySem.W.Frag} {mg : Str → Option Value} {base : Heap}
abbrev psPlc : List Str := ["_law_kind", "_law_sizes_here", "_law_bound", "_law_worth"]
abbrev nPlc : List Str := ["_law_kind", "_law_sizes_here", "_law_bound", "_law_worth", "_law_word", "_law_more", "_law_each", "_law_inner", "_law_found", "_law_less", "_law_item"]
theorem scPlc : FnScope nPlc psPlc (defScope tLPlc) := ⟨rfl, rfl, rfl, by decide +kernel, rfl, by decide +kernel, by decide +kernel⟩
def spPlc (n : Nat) : Sp := fun vs H Q _ => ∃ (vk : V) (p : Addr) (vx : V) (t : Kd) (sz : List (Str × Int)) (b : Nat) (x : Dt) (i : Nat), vs = [vk, .ref p, .int (b : Nat), vx] ∧ t.dp + 1 ≤ n ∧ knd t = true ∧ Rp H t vk ∧ Sz H p sz ∧ SzB sz ∧ b ≤ 3 ∧ mny sz b t ≤ 300 ∧ (lw sz b t)[i]? = some x ∧ Dd Non H x vx ∧ ∀ G : Hp, Same H G → Q (.int (i : Nat)) G
theorem okPlc1 {f fM : Addr} {fd fdM : FuncData} {n : Nat} (F : Fun K "_law_place" "_law_place" tLPlc f fd) (bF : Binds K fd psPlc []) (gF : mg "_law_place" = some (.ref f))
    (GM : FnOk P w K mg base CX0 (n + 1) fM fdM psLMany (spLMany n)) (bM : Binds K fdM psLMany []) (gM : mg "_law_many" = some (.ref fM)) (kM : PySem.W.keepIn K (.ref fM) = true) (mn : mg "int" = none)
    (GI : FnOk P w K mg base CX0 (n + 1) f fd psPlc (spPlc n)) : FnOk P w K mg base CX0 (n + 2) f fd psPlc (spPlc (n + 1)) := by
  refine F.ok scPlc (fun vs H Q E h => ?_) (fun cdv A outer s H vs Q E hr h => ?_)
  · obtain ⟨vk, p, vx, t, sz, b, x, i, rfl, _⟩ := h
    rfl
  obtain ⟨vk, p, vx, t, sz, b, x, i, rfl, hn, hk, rk, hz, hB, hb, hm, hi, dx, q⟩ := h
  refine ⟨_, pss_cons (ps_set (i := 4) scPlc.nd rfl (.inl rfl) (pe_ix ix_tup (pv 0) pe_int (fun _ _ => rfl)))
    (pss_cons (ps_if (pt_cmpR op_eq (pv 4) pe_str (nomark _)) (pss_one (ps_ret (pe_ix ix_tup (pv 3) pe_int (fun _ _ => rfl)))) pss_nil)
    (pss_cons (ps_if (pt_cmpR op_in_seq (pv 4) (pe_tup (pa_cons pe_str (pa_cons pe_str pa_nil))) rfl) (pss_one (ps_ret (pe_callTy call_int1 (by rfl) mn (by decide +kernel) (pa_cons (pv 3) pa_nil)))) pss_nil)
    (pss_cons (ps_if (pt_cmpR op_eq (pv 4) pe_str (nomark _))
      (pss_cons (ps_set (i := 5) scPlc.nd rfl (.inl rfl) (pe_op op_mul (pe_call GM hr (by rfl) gM kM bM .nil pass0 (pa_cons (pe_ix ix_tup (pv 0) pe_int (fun _ _ => rfl)) (pa_cons (pv 1) (pa_cons (pv 2) pa_nil)))) (pe_callTy call_int1 (by rfl) mn (by decide +kernel) (pa_cons (pe_cmpR op_eq (pe_ix ix_tup (pv 3) pe_int (fun _ _ => rfl)) pe_str (nomark _)) pa_nil))))
      (pss_one (ps_ret (pe_op op_add (pv 5) (pe_call GI hr (by rfl) gF F.kp bF .nil pass0 (pa_cons (pe_ix ix_tup (pv 0) (pe_op op_add pe_int (pe_callTy call_int1 (by rfl) mn (by decide +kernel) (pa_cons (pe_cmpR op_eq (pe_ix ix_tup (pv 3) pe_int (fun _ _ => rfl)) pe_str (nomark _)) pa_nil))) (fun _ _ => rfl)) (pa_cons (pv 1) (pa_cons (pv 2) (pa_cons (pe_ix ix_tup (pv 3) pe_int (fun _ _ => rfl)) pa_nil))))))))) pss_nil)
    (pss_cons (ps_if (pt_cmpR op_eq (pv 4) pe_str (nomark _))
      (pss_cons (ps_set (i := 6) scPlc.nd rfl (.inl rfl) (pe_call GM hr (by rfl) gM kM bM .nil pass0 (pa_cons (pe_ix ix_tup (pv 0) pe_int (fun _ _ => rfl)) (pa_cons (pv 1) (pa_cons (pv 2) pa_nil)))))
      (pss_one (ps_ret (pe_op op_add (pe_op op_mul (pe_call GI hr (by rfl) gF F.kp bF .nil pass0 (pa_cons (pe_ix ix_tup (pv 0) pe_int (fun _ _ => rfl)) (pa_cons (pv 1) (pa_cons (pv 2) (pa_cons (pe_ix ix_tup (pv 3) pe_int (fun _ _ => rfl)) pa_nil))))) (pv 6)) (pe_call GI hr (by rfl) gF F.kp bF .nil pass0 (pa_cons (pe_ix ix_tup (pv 0) pe_int (fun _ _ => rfl)) (pa_cons (pv 1) (pa_cons (pv 2) (pa_cons (pe_ix ix_tup (pv 3) pe_int (fun _ _ => rfl)) pa_nil))))))))) pss_nil)
    (pss_cons (ps_set (i := 7) scPlc.nd rfl (.inl rfl) (pe_ifExp (pt_cmpR op_eq (pv 4) pe_str (nomark _)) (pe_ix ix_tup (pv 0) pe_int (fun _ _ => rfl)) (pe_ix ix_tup (pv 0) pe_int (fun _ _ => rfl))))
    (pss_cons (ps_set (i := 6) scPlc.nd rfl (.inl rfl) (pe_call GM hr (by rfl) gM kM bM .nil pass0 (pa_cons (pv 7) (pa_cons (pv 1) (pa_cons (pv 2) pa_nil)))))
    (pss_cons (ps_set (i := 8) scPlc.nd rfl (.inl rfl) pe_int)
    (pss_cons (ps_set (i := 9) scPlc.nd rfl (.inl rfl) pe_int)
    (pss_cons (ps_for PassesOwn.never rfl (pi_tup (pe_ix ix_tup (pv 3) pe_int (fun _ _ => rfl))) (pg_name (i := 10) scPlc.nd rfl (.inl rfl))
      (pss_cons (ps_set (i := 9) scPlc.nd rfl (.inl rfl) (pe_op op_add (pe_op op_mul (pv 9) (pv 6)) pe_int))
      (pss_one (ps_set (i := 8) scPlc.nd rfl (.inl rfl) (pe_op op_add (pe_op op_mul (pv 8) (pv 6)) (pe_call GI hr (by rfl) gF F.kp bF .nil pass0 (pa_cons (pv 7) (pa_cons (pv 1) (pa_cons (pv 2) (pa_cons (pe_ifExp (pt_cmpR op_eq (pv 4) pe_str (nomark _)) (pv 10) (pe_ix ix_tup (pv 10) pe_int (fun _ _ => rfl))) pa_nil))))))))))
    (pss_one (ps_ret (pe_op op_add (pv 8) (pe_op op_mul (pv 9) (pe_callTy call_int1 (by rfl) mn (by decide +kernel) (pa_cons (pe_cmpR op_eq (pv 4) pe_str (nomark _)) pa_nil))))))))))))))), ?_⟩
  obtain ⟨ka, us, rfl, hka, hks⟩ := rk.see
  refine ⟨_, rfl, ka, _, _, _, rfl, rfl, SqT.of hka, atI_nat (j := 0) rfl, ?_⟩
  have rng : ∀ {m j : Nat}, (List.range m)[i]? = some j → j = i := fun {m j} h => by
    obtain ⟨h1, h2⟩ := List.getElem?_eq_some_iff.mp h
    rw [List.getElem_range] at h2
    exact h2.symm
  cases t with
  | opn y =>
    have hi : ((List.range (look sz y).toNat).map fun i => Dt.tup [.str "thing", .str y, .int (i : Nat)])[i]? = some x := hi
    rw [List.getElem?_map] at hi
    obtain ⟨j, hj, rfl⟩ := Option.map_eq_some_iff.mp hi
    obtain rfl := rng hj
    obtain ⟨xa, u1, u2, u3, rfl, gx, _, _, e3⟩ := dd_t3 dx
    cases e3
    refine ⟨_, rfl, rfl, _, rfl, ite2 (fun _ => ?_) (fun e => absurd (decide_eq_true rfl) e)⟩
    exact ⟨_, rfl, xa, _, _, _, rfl, rfl, SqT.of gx, atI_nat (j := 2) rfl, q _ (Same.refl _)⟩
  | num =>
    have hi : ((List.range (b + 1)).map fun i => Dt.int (i : Nat))[i]? = some x := hi
    rw [List.getElem?_map] at hi
    obtain ⟨j, hj, rfl⟩ := Option.map_eq_some_iff.mp hi
    obtain rfl := rng hj
    cases dx
    refine ⟨_, rfl, rfl, _, rfl, ite2 (fun e => absurd e (wne (by simp only [Kd.word]; decide +kernel))) (fun _ => ?_)⟩
    refine ⟨_, rfl, (by show 2 ≤ sizeLine; decide), fun p3 np3 => ⟨p3, _, rfl, .inr (SqT.of upd_same), rfl, rfl, _, rfl, iteT ?_⟩⟩
    exact ⟨_, rfl, .inl ⟨_, rfl, q _ (newS np3)⟩⟩
  | tru =>
    have hi : ([.bl false, .bl true] : List Dt)[i]? = some x := hi
    refine ⟨_, rfl, rfl, _, rfl, ite2 (fun e => absurd e (wne (by simp only [Kd.word]; decide +kernel))) (fun _ => ?_)⟩
    refine ⟨_, rfl, (by show 2 ≤ sizeLine; decide), fun p3 np3 => ⟨p3, _, rfl, .inr (SqT.of upd_same), rfl, rfl, _, rfl, iteT ?_⟩⟩
    match i, hi with
    | 0, hi =>
      obtain rfl : Dt.bl false = x := Option.some.inj hi
      cases dx
      exact ⟨_, rfl, .inr ⟨false, rfl, q _ (newS np3)⟩⟩
    | 1, hi =>
      obtain rfl : Dt.bl true = x := Option.some.inj hi
      cases dx
      exact ⟨_, rfl, .inr ⟨true, rfl, q _ (newS np3)⟩⟩
    | k + 2, hi => simp at hi
  | eith s u =>
    obtain ⟨hd1, hd2⟩ := Bool.and_eq_true_iff.mp (show (s.data && u.data) = true from hk)
    obtain ⟨ka', kx, ky, ek, hk4, rs, ru⟩ := rk
    obtain rfl : ka = ka' := V.ref.inj ek
    have hn2 : max s.dp u.dp + 1 + 1 ≤ n + 1 := hn
    refine ⟨_, rfl, rfl, _, rfl, ite2 (fun e => absurd e (wne (by simp only [Kd.word]; decide +kernel))) (fun _ => ?_)⟩
    refine ⟨_, rfl, (by show 2 ≤ sizeLine; decide), fun p3 np3 => ⟨p3, _, rfl, .inr (SqT.of upd_same), rfl, rfl, _, rfl, iteF ?_⟩⟩
    have s3 := newS (o := .tup [V.str "num", .str "truth"]) np3
    have hk4 := s3 _ _ hk4
    have hz := hz.same s3
    have dx := dx.same s3
    have rs := rs.tk (Tk.of s3)
    have ru := ru.tk (Tk.of s3)
    generalize upd H p3 (.tup [V.str "num", .str "truth"]) = H3 at s3 hk4 hz dx rs ru
    have hm : mny sz b s + mny sz b u ≤ 300 := hm
    have cs : cm (mny sz b s) = mny sz b s := cm_lo (by omega)
    refine ⟨_, rfl, rfl, _, rfl, ite2 (fun _ => ?_) (fun e => absurd (decide_eq_true rfl) e)⟩
    have hi : ((lw sz b s).map (fun x => Dt.tup [.str "left", x]) ++ (lw sz b u).map fun x => Dt.tup [.str "right", x])[i]? = some x := hi
    refine ⟨_, rfl, ka, _, _, _, rfl, rfl, SqT.of hk4, atI_nat (j := 1) rfl, _, rfl, _, rfl, kx, p, s, sz, b, rfl, by omega, knd_data hd1, rs, hz, hB, hb, fun G1 s1 => ?_⟩
    have hk5 := s1 _ _ hk4
    have dx1 := dx.same s1
    have s31 := s3.trans s1
    by_cases c : i < ((lw sz b s).map (fun x => Dt.tup [.str "left", x])).length
    · rw [List.getElem?_append_left c, List.getElem?_map] at hi
      obtain ⟨y, hy, rfl⟩ := Option.map_eq_some_iff.mp hi
      obtain ⟨xa, u1, u2, rfl, gx, e1, e2⟩ := dd_t2 dx1
      cases e1
      refine ⟨_, rfl, xa, _, _, _, rfl, rfl, SqT.of gx, atI_nat (j := 0) rfl, rfl, .inr ⟨_, rfl, _, _, rfl, rfl, .inr ⟨by decide, by decide⟩, ?_⟩⟩
      refine ⟨_, rfl, _, rfl, _, rfl, xa, _, _, _, rfl, rfl, SqT.of gx, atI_nat (j := 0) rfl, rfl, .inr ⟨_, rfl, _, _, rfl, rfl, ka, _, _, kx, rfl, rfl, SqT.of hk5, rfl, _, rfl, _, rfl, _, rfl, xa, _, _, _, rfl, rfl, SqT.of gx, atI_nat (j := 1) rfl, kx, p, u2, s, sz, b, y, i, rfl, by omega, knd_data hd1, rs.tk (Tk.of s1), hz.same s1, hB, hb, by omega, hy, e2, fun G sG => ?_⟩⟩
      refine ⟨_, _, rfl, rfl, ?_⟩
      have z := q _ (s31.trans sG)
      have e : ((cm (mny sz b s) : Nat) : Int) * 0 + ((i : Nat) : Int) = ((i : Nat) : Int) := by omega
      rw [← e] at z
      exact z
    · rw [List.getElem?_append_right (by omega), List.getElem?_map] at hi
      obtain ⟨y, hy, rfl⟩ := Option.map_eq_some_iff.mp hi
      rw [List.length_map, lw_len] at hy c
      obtain ⟨xa, u1, u2, rfl, gx, e1, e2⟩ := dd_t2 dx1
      cases e1
      refine ⟨_, rfl, xa, _, _, _, rfl, rfl, SqT.of gx, atI_nat (j := 0) rfl, rfl, .inr ⟨_, rfl, _, _, rfl, rfl, .inr ⟨by decide, by decide⟩, ?_⟩⟩
      refine ⟨_, rfl, _, rfl, _, rfl, xa, _, _, _, rfl, rfl, SqT.of gx, atI_nat (j := 0) rfl, rfl, .inr ⟨_, rfl, _, _, rfl, rfl, ka, _, _, ky, rfl, rfl, SqT.of hk5, rfl, _, rfl, _, rfl, _, rfl, xa, _, _, _, rfl, rfl, SqT.of gx, atI_nat (j := 1) rfl, ky, p, u2, u, sz, b, y, i - mny sz b s, rfl, by omega, knd_data hd2, ru.tk (Tk.of s1), hz.same s1, hB, hb, by omega, hy, e2, fun G sG => ?_⟩⟩
      refine ⟨_, _, rfl, rfl, ?_⟩
      have z := q _ (s31.trans sG)
      have e : ((cm (mny sz b s) : Nat) : Int) * 1 + ((i - mny sz b s : Nat) : Int) = ((i : Nat) : Int) := by
        rw [cs]
        omega
      rw [← e] at z
      exact z
  | pair s u =>
    obtain ⟨hd1, hd2⟩ := Bool.and_eq_true_iff.mp (show (s.data && u.data) = true from hk)
    obtain ⟨ka', kx, ky, ek, hk4, rs, ru⟩ := rk
    obtain rfl : ka = ka' := V.ref.inj ek
    have hn2 : max s.dp u.dp + 1 + 1 ≤ n + 1 := hn
    refine ⟨_, rfl, rfl, _, rfl, ite2 (fun e => absurd e (wne (by simp only [Kd.word]; decide +kernel))) (fun _ => ?_)⟩
    refine ⟨_, rfl, (by show 2 ≤ sizeLine; decide), fun p3 np3 => ⟨p3, _, rfl, .inr (SqT.of upd_same), rfl, rfl, _, rfl, iteF ?_⟩⟩
    have s3 := newS (o := .tup [V.str "num", .str "truth"]) np3
    have hk4 := s3 _ _ hk4
    have hz := hz.same s3
    have dx := dx.same s3
    have rs := rs.tk (Tk.of s3)
    have ru := ru.tk (Tk.of s3)
    generalize upd H p3 (.tup [V.str "num", .str "truth"]) = H3 at s3 hk4 hz dx rs ru
    have hm : mny sz b s * mny sz b u ≤ 300 := hm
    obtain ⟨j, k, a, h1, h2, h3⟩ := flat_get (n := mny sz b u) (fun a => by rw [List.length_map, lw_len]) (show ((lw sz b s).flatMap fun x => (lw sz b u).map fun y => Dt.tup [.str "pair", x, y])[i]? = some x from hi)
    rw [List.getElem?_map] at h2
    obtain ⟨c, hc, rfl⟩ := Option.map_eq_some_iff.mp h2
    have lj := (List.getElem?_eq_some_iff.mp h1).1
    have lk := (List.getElem?_eq_some_iff.mp hc).1
    rw [lw_len] at lj lk
    have m1 : mny sz b s ≤ 300 := Nat.le_trans (Nat.le_mul_of_pos_right _ (by omega)) hm
    have m2 : mny sz b u ≤ 300 := Nat.le_trans (Nat.le_mul_of_pos_left _ (by omega)) hm
    have cu : cm (mny sz b u) = mny sz b u := cm_lo (by omega)
    refine ⟨_, rfl, rfl, _, rfl, ite2 (fun e => absurd e (wne (by simp only [Kd.word]; decide +kernel))) (fun _ => ?_)⟩
    refine ⟨_, rfl, rfl, _, rfl, ite2 (fun _ => ?_) (fun e => absurd (decide_eq_true rfl) e)⟩
    refine ⟨_, rfl, ka, _, _, _, rfl, rfl, SqT.of hk4, atI_nat (j := 2) rfl, _, rfl, _, rfl, ky, p, u, sz, b, rfl, by omega, knd_data hd2, ru, hz, hB, hb, fun G1 s1 => ?_⟩
    have hk5 := s1 _ _ hk4
    obtain ⟨xa, u1, u2, u3, rfl, gx, e1, e2, e3⟩ := dd_t3 (dx.same s1)
    cases e1
    have s31 := s3.trans s1
    refine ⟨_, rfl, ka, _, _, _, rfl, rfl, SqT.of hk5, atI_nat (j := 1) rfl, _, rfl, _, rfl, _, rfl, xa, _, _, _, rfl, rfl, SqT.of gx, atI_nat (j := 1) rfl, kx, p, u2, s, sz, b, a, j, rfl, by omega, knd_data hd1, rs.tk (Tk.of s1), hz.same s1, hB, hb, m1, h1, e2, fun G2 s2 => ?_⟩
    have s32 := s31.trans s2
    refine ⟨_, rfl, _, _, rfl, rfl, .inr ⟨by rw [cu]; omega, by rw [cu]; omega⟩, ?_⟩
    refine ⟨_, rfl, ka, _, _, _, rfl, rfl, SqT.of (s2 _ _ hk5), atI_nat (j := 2) rfl, _, rfl, _, rfl, _, rfl, xa, _, _, _, rfl, rfl, SqT.of (s2 _ _ gx), atI_nat (j := 2) rfl, ky, p, u3, u, sz, b, c, k, rfl, by omega, knd_data hd2, (ru.tk (Tk.of s1)).tk (Tk.of s2), (hz.same s1).same s2, hB, hb, m2, hc, e3.same s2, fun G3 s3' => ?_⟩
    refine ⟨_, _, rfl, rfl, ?_⟩
    have z := q _ (s32.trans s3')
    have e : ((j : Nat) : Int) * ((cm (mny sz b u) : Nat) : Int) + ((k : Nat) : Int) = ((i : Nat) : Int) := by
      rw [cu, h3]
      push_cast
      rfl
    rw [← e] at z
    exact z
  | lst s =>
    obtain ⟨ka', kx, ek, hk4, rs⟩ := rk
    obtain rfl : ka = ka' := V.ref.inj ek
    have hn2 : s.dp + 1 + 1 ≤ n + 1 := hn
    have hm : gm (mny sz b s) (b + 1) ≤ 300 := hm
    obtain ⟨l, q0, r, hl, hr1, rfl, hi2⟩ := lists_get (show (llw (lw sz b s) (b + 1))[i]? = some x from hi)
    obtain ⟨ds, lds, hq, lr, hd⟩ := runs_get hr1
    rw [lw_len] at hq hi2
    have hs : l ≠ 0 → mny sz b s ≤ 300 := fun h0 => by
      have h1 := gm_mono (mny sz b s) (i := 2) (j := b + 1) (by omega)
      have h2 : gm (mny sz b s) 2 = mny sz b s + 1 := by simp [gm]
      omega
    refine ⟨_, rfl, rfl, _, rfl, ite2 (fun e => absurd e (wne (by simp only [Kd.word]; decide +kernel))) (fun _ => ?_)⟩
    refine ⟨_, rfl, (by show 2 ≤ sizeLine; decide), fun p3 np3 => ⟨p3, _, rfl, .inr (SqT.of upd_same), rfl, rfl, _, rfl, iteF ?_⟩⟩
    have s3 := newS (o := .tup [V.str "num", .str "truth"]) np3
    have hk4 := s3 _ _ hk4
    have hz := hz.same s3
    have dx := dx.same s3
    have rs := rs.tk (Tk.of s3)
    generalize upd H p3 (.tup [V.str "num", .str "truth"]) = H3 at s3 hk4 hz dx rs
    refine ⟨_, rfl, rfl, _, rfl, ite2 (fun e => absurd e (wne (by simp only [Kd.word]; decide +kernel))) (fun _ => ?_)⟩
    refine ⟨_, rfl, rfl, _, rfl, ite2 (fun e => absurd e (wne (by simp only [Kd.word]; decide +kernel))) (fun _ => ?_)⟩
    refine ⟨_, rfl, rfl, _, rfl, ite2 (fun _ => ?_) (fun e => absurd (decide_eq_true rfl) e)⟩
    refine ⟨_, rfl, ka, _, _, _, rfl, rfl, SqT.of hk4, atI_nat (j := 1) rfl, ?_⟩
    refine ⟨_, rfl, _, rfl, _, rfl, kx, p, s, sz, b, rfl, by omega, knd_data hk, rs, hz, hB, hb, fun G1 s1 => ?_⟩
    obtain ⟨xa, u1, u2, rfl, gx, e1, e2⟩ := dd_t2 (dx.same s1)
    obtain ⟨ra, rv, rfl, gr, dr⟩ := Kv.Dd.tupS e2
    cases e1
    have lrv : rv.length = l := by rw [← dr.len, lr]
    refine ⟨_, rfl, xa, _, _, _, rfl, rfl, SqT.of gx, atI_nat (j := 1) rfl, ra, rfl, ⟨_, SqT.of gr⟩, ?_⟩
    refine for_tup (xs := rv) (fun k σ G => Same G1 G ∧ k ≤ rv.length ∧ ∃ y, σ = [some (.ref ka), some (.ref p), some (.int (b : Nat)), some (.ref xa), some (.str "list"), none, some (.int ((cm (mny sz b s) : Nat) : Int)), some kx, some (.int ((dig (mny sz b s) (ds.take k) : Nat) : Int)), some (.int ((gm (mny sz b s) k : Nat) : Int)), y]) ⟨Same.refl _, Nat.zero_le _, none, rfl⟩ (fun k σ G _ z => SqT.of (z.1 _ _ gr)) (fun k v σ G hv z => ?_) (fun σ G z => ?_)
    · obtain ⟨sG, _, y, rfl⟩ := z
      obtain ⟨x', hx', dv⟩ := dr.get hv
      have lk := (List.getElem?_eq_some_iff.mp hv).1
      obtain ⟨d, f1, f2⟩ := hd k x' hx'
      have lW := (List.getElem?_eq_some_iff.mp f2).1
      rw [lw_len] at lW
      have ci : cm (mny sz b s) = mny sz b s := cm_lo (by have := hs (by omega); omega)
      refine ⟨_, rfl, _, rfl, _, _, rfl, rfl, .inr ⟨by rw [ci]; have := hs (by omega); omega, by rw [ci]; have := hs (by omega); omega⟩, _, _, rfl, rfl, ?_⟩
      refine ⟨_, rfl, _, rfl, _, _, rfl, rfl, .inr ⟨by rw [ci]; have := hs (by omega); omega, by rw [ci]; have := hs (by omega); omega⟩, ?_⟩
      refine ⟨_, rfl, _, rfl, _, rfl, _, rfl, rfl, _, rfl, ite2 (fun _ => ⟨_, rfl, ?_⟩) (fun e => absurd (decide_eq_true rfl) e)⟩
      refine ⟨kx, p, v, s, sz, b, x', d, rfl, by omega, knd_data hk, rs.tk (Tk.of (s1.trans sG)), hz.same (s1.trans sG), hB, hb, hs (by omega), f2, dv.same sG, fun G2 s2 => ?_⟩
      refine ⟨_, _, rfl, rfl, sG.trans s2, lk, some v, ?_⟩
      have e1 : ((gm (mny sz b s) k : Nat) : Int) * ((cm (mny sz b s) : Nat) : Int) + 1 = ((gm (mny sz b s) (k + 1) : Nat) : Int) := by
        rw [ci]
        show _ = ((gm (mny sz b s) k * mny sz b s + 1 : Nat) : Int)
        push_cast
        rfl
      have e2 : ((dig (mny sz b s) (ds.take k) : Nat) : Int) * ((cm (mny sz b s) : Nat) : Int) + ((d : Nat) : Int) = ((dig (mny sz b s) (ds.take (k + 1)) : Nat) : Int) := by
        rw [ci, List.take_add_one, f1]
        show _ = ((dig (mny sz b s) (ds.take k ++ [d]) : Nat) : Int)
        rw [dig_app]
        push_cast
        rfl
      rw [← e1, ← e2]
      rfl
    · obtain ⟨sG, _, y, rfl⟩ := z
      rw [show rv.length = ds.length by omega, List.take_length]
      have z := q _ ((s3.trans s1).trans sG)
      refine ⟨_, rfl, _, rfl, _, rfl, rfl, .inr ⟨_, rfl, _, _, rfl, rfl, .inr ⟨by decide, by decide⟩, _, _, rfl, rfl, ?_⟩⟩
      have e : ((dig (mny sz b s) ds : Nat) : Int) + ((gm (mny sz b s) ds.length : Nat) : Int) * 1 = ((i : Nat) : Int) := by
        rw [← hq, lds]
        omega
      rw [← e] at z
      exact z
  | fn s u =>
    obtain ⟨hd1, hd2⟩ := Bool.and_eq_true_iff.mp (show (s.data && knd u) = true from hk)
    obtain ⟨ka', kx, ky, ek, hk4, rs, ru⟩ := rk
    obtain rfl : ka = ka' := V.ref.inj ek
    have hn2 : max s.dp u.dp + 1 + 1 ≤ n + 1 := hn
    have hm : mny sz b u ^ mny sz b s ≤ 300 := hm
    have hi : ((runs (lw sz b u) (mny sz b s)).map fun r => Dt.tup [.str "table", .tup (rows (lw sz b s) r)])[i]? = some x := hi
    rw [List.getElem?_map] at hi
    obtain ⟨r, hr1, rfl⟩ := Option.map_eq_some_iff.mp hi
    obtain ⟨ds, lds, hq, lr, hd⟩ := runs_get hr1
    rw [lw_len] at hq
    have hs0 : ∀ d x, mny sz b s ≠ 0 → (lw sz b u)[d]? = some x → mny sz b u ≤ 300 := fun d x h0 h => by
      have l := (List.getElem?_eq_some_iff.mp h).1
      rw [lw_len] at l
      have a1 : mny sz b u ^ 1 ≤ mny sz b u ^ mny sz b s := Nat.pow_le_pow_right (by omega) (by omega)
      rw [Nat.pow_one] at a1
      omega
    refine ⟨_, rfl, rfl, _, rfl, ite2 (fun e => absurd e (wne (by simp only [Kd.word]; decide +kernel))) (fun _ => ?_)⟩
    refine ⟨_, rfl, (by show 2 ≤ sizeLine; decide), fun p3 np3 => ⟨p3, _, rfl, .inr (SqT.of upd_same), rfl, rfl, _, rfl, iteF ?_⟩⟩
    have s3 := newS (o := .tup [V.str "num", .str "truth"]) np3
    have hk4 := s3 _ _ hk4
    have hz := hz.same s3
    have dx := dx.same s3
    have rs := rs.tk (Tk.of s3)
    have ru := ru.tk (Tk.of s3)
    generalize upd H p3 (.tup [V.str "num", .str "truth"]) = H3 at s3 hk4 hz dx rs ru
    refine ⟨_, rfl, rfl, _, rfl, ite2 (fun e => absurd e (wne (by simp only [Kd.word]; decide +kernel))) (fun _ => ?_)⟩
    refine ⟨_, rfl, rfl, _, rfl, ite2 (fun e => absurd e (wne (by simp only [Kd.word]; decide +kernel))) (fun _ => ?_)⟩
    refine ⟨_, rfl, rfl, _, rfl, ite2 (fun e => absurd e (wne (by simp only [Kd.word]; decide +kernel))) (fun _ => ?_)⟩
    refine ⟨_, rfl, ka, _, _, _, rfl, rfl, SqT.of hk4, atI_nat (j := 2) rfl, ?_⟩
    refine ⟨_, rfl, _, rfl, _, rfl, ky, p, u, sz, b, rfl, by omega, hd2, ru, hz, hB, hb, fun G1 s1 => ?_⟩
    obtain ⟨xa, u1, u2, rfl, gx, e1, e2⟩ := dd_t2 (dx.same s1)
    obtain ⟨ra, rv, rfl, gr, dr⟩ := Kv.Dd.tupS e2
    cases e1
    have lrv : rv.length = mny sz b s := by rw [← dr.len, rows_len (by rw [lw_len, lr]), lw_len]
    refine ⟨_, rfl, xa, _, _, _, rfl, rfl, SqT.of gx, atI_nat (j := 1) rfl, ra, rfl, ⟨_, SqT.of gr⟩, ?_⟩
    refine for_tup (xs := rv) (fun k σ G => Same G1 G ∧ k ≤ rv.length ∧ ∃ y, σ = [some (.ref ka), some (.ref p), some (.int (b : Nat)), some (.ref xa), some (.str "fun"), none, some (.int ((cm (mny sz b u) : Nat) : Int)), some ky, some (.int ((dig (mny sz b u) (ds.take k) : Nat) : Int)), some (.int ((gm (mny sz b u) k : Nat) : Int)), y]) ⟨Same.refl _, Nat.zero_le _, none, rfl⟩ (fun k σ G _ z => SqT.of (z.1 _ _ gr)) (fun k v σ G hv z => ?_) (fun σ G z => ?_)
    · obtain ⟨sG, _, y, rfl⟩ := z
      obtain ⟨x', hx', dv⟩ := dr.get hv
      have lk := (List.getElem?_eq_some_iff.mp hv).1
      obtain ⟨x1, y1, g1, g2, rfl⟩ := rows_get hx'
      obtain ⟨va, w1, w2, rfl, gv, dw1, dw2⟩ := dd_t2 dv
      obtain ⟨d, f1, f2⟩ := hd k y1 g2
      have hs : mny sz b s ≠ 0 → mny sz b u ≤ 300 := fun h => hs0 d y1 h f2
      have lW := (List.getElem?_eq_some_iff.mp f2).1
      rw [lw_len] at lW
      have ci : cm (mny sz b u) = mny sz b u := cm_lo (by have := hs (by omega); omega)
      refine ⟨_, rfl, _, rfl, _, _, rfl, rfl, .inr ⟨by rw [ci]; have := hs (by omega); omega, by rw [ci]; have := hs (by omega); omega⟩, _, _, rfl, rfl, ?_⟩
      refine ⟨_, rfl, _, rfl, _, _, rfl, rfl, .inr ⟨by rw [ci]; have := hs (by omega); omega, by rw [ci]; have := hs (by omega); omega⟩, ?_⟩
      refine ⟨_, rfl, _, rfl, _, rfl, _, rfl, rfl, _, rfl, ite2 (fun e => absurd e (wne (by decide +kernel))) (fun _ => ⟨_, rfl, va, _, _, _, rfl, rfl, SqT.of (sG _ _ gv), atI_nat (j := 1) rfl, ?_⟩)⟩
      refine ⟨ky, p, w2, u, sz, b, y1, d, rfl, by omega, hd2, ru.tk (Tk.of (s1.trans sG)), hz.same (s1.trans sG), hB, hb, hs (by omega), f2, dw2.same sG, fun G2 s2 => ?_⟩
      refine ⟨_, _, rfl, rfl, sG.trans s2, lk, some (.ref va), ?_⟩
      have e1 : ((gm (mny sz b u) k : Nat) : Int) * ((cm (mny sz b u) : Nat) : Int) + 1 = ((gm (mny sz b u) (k + 1) : Nat) : Int) := by
        rw [ci]
        show _ = ((gm (mny sz b u) k * mny sz b u + 1 : Nat) : Int)
        push_cast
        rfl
      have e2 : ((dig (mny sz b u) (ds.take k) : Nat) : Int) * ((cm (mny sz b u) : Nat) : Int) + ((d : Nat) : Int) = ((dig (mny sz b u) (ds.take (k + 1)) : Nat) : Int) := by
        rw [ci, List.take_add_one, f1]
        show _ = ((dig (mny sz b u) (ds.take k ++ [d]) : Nat) : Int)
        rw [dig_app]
        push_cast
        rfl
      rw [← e1, ← e2]
      rfl
    · obtain ⟨sG, _, y, rfl⟩ := z
      rw [show rv.length = ds.length by omega, List.take_length]
      have z := q _ ((s3.trans s1).trans sG)
      refine ⟨_, rfl, _, rfl, _, rfl, rfl, .inr ⟨_, rfl, _, _, rfl, rfl, .inr ⟨by decide, by decide⟩, _, _, rfl, rfl, ?_⟩⟩
      have e : ((dig (mny sz b u) ds : Nat) : Int) + ((gm (mny sz b u) ds.length : Nat) : Int) * 0 = ((i : Nat) : Int) := by
        rw [← hq]
        omega
      rw [← e] at z
      exact z
end
end Kq

/-! tuples put together and cut, wherever the answer stands -/
namespace Kv
open PySem PySem.Spec PyProof.Rows L2 Kf
theorem new_same {H : Hp} {p : Addr} {o : HO} (h : H p = none) : Same H (upd H p o) := fun b u e => by
  rw [upd_ne (ne_of_none e h)]
  exact e
def rCatU : R2 := fun x y H Q => ∃ (a b : Addr) (xs ys : List V), x = .ref a ∧ y = .ref b ∧ H a = some (.tup xs) ∧ H b = some (.tup ys) ∧ xs.length + ys.length ≤ sizeLine ∧ ∀ (p : Addr) (G : Hp), Same H G → G p = some (.tup (xs ++ ys)) → Q (.ref p) G
theorem op_catU {X : Cx} : OpR X (binaryOp .Add) rCatU := by
  intro pins s σ H x y v u Q I rx ry h
  obtain ⟨a, b, xs, ys, rfl, rfl, ha, hb, hz, q⟩ := h
  refine op_catA pins s σ H _ _ v u Q I rx ry ⟨a, b, xs, ys, rfl, rfl, SqT.of ha, SqT.of hb, hz, fun e => ?_, fun _ e => ?_, fun _ _ p np => q p _ (new_same np) upd_same⟩
  · subst e
    exact q b H (Same.refl H) hb
  · subst e
    exact q a H (Same.refl H) (by rw [List.append_nil]; exact ha)
def rSlU : V → Option Int → Option Int → Hp → VK → Prop := fun x lo hi H Q => ∃ (a : Addr) (xs : List V), x = .ref a ∧ H a = some (.tup xs) ∧ ∀ (p : Addr) (G : Hp), Same H G → G p = some (.tup (cutV xs lo hi)) → Q (.ref p) G
theorem sl_tupU {X : Cx} : SlR X rSlU := by
  intro pins s σ H x v vl vu lo hi sl Q I rx hs pl pu h
  obtain ⟨a, xs, rfl, ha, q⟩ := h
  refine sl_tupA pins s σ H _ v vl vu lo hi sl Q I rx hs pl pu ⟨a, xs, rfl, SqT.of ha, fun e => q a H (Same.refl H) ?_, fun _ p np => q p _ (new_same np) upd_same⟩
  rw [ha]
  unfold cutV
  rw [e.1, e.2, List.drop_zero, Nat.sub_zero, List.take_length]
theorem cut_take (xs : List V) (n : Nat) : cutV xs none (some (n : Int)) = xs.take n := by
  unfold cutV
  rw [HT.sIx_none, HT.sIx_nat, List.drop_zero, Nat.sub_zero]
  by_cases h : n ≤ xs.length
  · rw [Nat.min_eq_left h]
  · rw [Nat.min_eq_right (by omega), List.take_length, List.take_of_length_le (by omega)]
theorem cut_drop (xs : List V) (n : Nat) : cutV xs (some (n : Int)) none = xs.drop n := by
  unfold cutV
  rw [HT.sIx_none, HT.sIx_nat]
  by_cases h : n ≤ xs.length
  · rw [Nat.min_eq_left h, ← List.length_drop, List.take_length]
  · rw [Nat.min_eq_right (by omega), List.drop_length, List.drop_of_length_le (by omega)]
    simp
theorem cut_mid (xs : List V) (n m : Nat) : cutV xs (some (n : Int)) (some (m : Int)) = (xs.drop n).take (m - n) := by
  unfold cutV
  rw [HT.sIx_nat, HT.sIx_nat]
  by_cases h : n ≤ xs.length
  · rw [Nat.min_eq_left h]
    by_cases h2 : m ≤ xs.length
    · rw [Nat.min_eq_left h2]
    · rw [Nat.min_eq_right (by omega), ← List.length_drop, List.take_length, List.take_of_length_le (by rw [List.length_drop]; omega)]
  · have e1 : xs.drop n = [] := List.drop_of_length_le (by omega)
    have e2 : xs.drop (min n xs.length) = [] := List.drop_of_length_le (by omega)
    rw [e1, e2]
    simp
/-! places in things -/
def Dt.at? : Dt → List Nat → Option Dt
  | x, [] => some x
  | .tup xs, i :: p => match xs[i]? with
    | some y => y.at? p
    | none => none
  | _, _ :: _ => none
end Kv

/-! _law_right -/
namespace Kq
open PySem PySem.Spec PyProof.Rows L2 Kf Kg Kv GxR Kk
abbrev tLRight : Stmt := tp 47
theorem eqv_ints : ∀ ns : List Int, PyData.eqvAll (ns.map PyData.int) (ns.map PyData.int) = true
  | [] => by simp [PyData.eqvAll]
  | n :: ns => by
    rw [List.map_cons, PyData.eqvAll, eqv_ints ns]
    simp [PyData.eqv]
theorem eqv_intsL (ns : List Int) : PyData.eqv (.list (ns.map PyData.int)) (.list (ns.map PyData.int)) = true := by
  rw [PyData.eqv]
  exact eqv_ints ns
section
variable {P : Program} {w : World} {K : PySem.W.Frag} {mg : Str → Option Value} {base : Heap} {T : List Addr}
abbrev psRight : List Str := ["_law_kind", "_law_sizes_here", "_law_bound", "_law_great"]
abbrev nRight : List Str := ["_law_kind", "_law_sizes_here", "_law_bound", "_law_great", "_law_turn", "_law_found", "_law_one"]
theorem scRight : FnScope nRight psRight (defScope tLRight) := ⟨rfl, rfl, rfl, by decide +kernel, rfl, by decide +kernel, by decide +kernel⟩
def spRight (T : List Addr) : Sp := fun vs H Q _ => ∃ (vk : V) (p : Addr) (t : Kd) (sz : List (Str × Int)) (b : Nat) (g : Bool), vs = [vk, .ref p, .int (b : Nat), .bl g] ∧ t.dp ≤ 8 ∧ tbk sz t = true ∧ (∀ x ∈ t.opens, Nm x) ∧ Rp H t vk ∧ Sz H p sz ∧ SzB sz ∧ b ≤ 3 ∧ g = (decide (300 < mny sz b t) || lng sz b t) ∧ TbS T H ∧ ∀ G : Hp, Sm T H G → Q (.bl true) G
theorem okRight {f fM fT fW fA : Addr} {fd fdM fdT fdW fdA : FuncData} {k : Nat} (F : Fun K "_law_right" "_law_right" tLRight f fd)
    (GM : FnOk P w K mg base CX0 k fM fdM psLMany (spLMany 9)) (bM : Binds K fdM psLMany []) (gM : mg "_law_many" = some (.ref fM)) (kM : PySem.W.keepIn K (.ref fM) = true)
    (GT : FnOk P w K mg base CX0 k fT fdT psLTold (spLTold T 9)) (bT : Binds K fdT psLTold []) (gT : mg "_law_told" = some (.ref fT)) (kT : PySem.W.keepIn K (.ref fT) = true)
    (GW : FnG P w K mg base CX0 k fW fdW psTab (spTab 9)) (bW : Binds K fdW psTab []) (gW : mg "_law_is_table" = some (.ref fW)) (kW : PySem.W.keepIn K (.ref fW) = true)
    (GA : FnOk P w K mg base CX0 k fA fdA psPlc (spPlc 9)) (bA : Binds K fdA psPlc []) (gA : mg "_law_place" = some (.ref fA)) (kA : PySem.W.keepIn K (.ref fA) = true)
    (mr : mg "range" = none) (mi : mg "isinstance" = none) (mt : mg "tuple" = none) (ml : mg "len" = none) (mL : mg "list" = none) : FnG P w K mg base CX0 (k + 1) f fd psRight (spRight T) := by
  refine okG F scRight (fun vs H Q E h => ?_) (fun cdv A outer s H vs Q E still hr h => ?_)
  · obtain ⟨vk, p, t, sz, b, g, rfl, _⟩ := h
    rfl
  obtain ⟨vk, p, t, sz, b, g, rfl, hd3, htb, hop, rk, hz, hB, hb, hg, tb, q⟩ := h
  refine ⟨_, pss_cons (ps_for PassesOwn.never rfl (pi_range1 (by rfl) mr (pa_cons pe_int pa_nil)) (pg_name (i := 4) scRight.nd rfl (.inl rfl))
      (pss_cons (ps_set (i := 5) scRight.nd rfl (.inl rfl) (pe_call GT hr (by rfl) gT kT bT .nil pass0 (pa_cons (pv 0) (pa_cons (pv 1) (pa_cons (pv 2) pa_nil)))))
      (pss_one (ps_if (pt_val (pv 3))
        (pss_one (ps_if (pt_cmpR op_isnot_bl (pv 5) pe_bl (nomark _)) (pss_one (ps_ret pe_bl)) pss_nil))
        (pss_one (ps_if (PW.pt (pw_or (pt_not (pt_val (pe_callB (isiK K rfl) (by rfl) mi PyProof.Rows.boot_isinstance (pa_cons (pv 5) (pa_cons (pe_bltn (v := .ty "tuple") (by rfl) mt PyProof.Rows.boot_tuple rfl) pa_nil)))))
            (pw_or1 (pt_cmpR op_ne (pe_callB call_len_seq (by rfl) ml PySem.boot_len (pa_cons (pv 5) pa_nil)) (pe_call GM hr (by rfl) gM kM bM .nil pass0 (pa_cons (pv 0) (pa_cons (pv 1) (pa_cons (pv 2) pa_nil)))) (nomark _)))))
          (pss_one (ps_ret pe_bl))
          (pss_cons (ps_if (pt_cmpR (op_neD hr.units) (pe_lc (own := [("_law_one", 6)]) (g := gName 6) (by rfl) scRight.nd (pi_tup (pv 5)) (blkOk_by (own := [("_law_one", 6)]) (N := nRight) (sc := defScope tLRight) (by decide +kernel))
              (fun _ _ _ _ _ => pg_name (i := 6) scRight.nd rfl (.inl rfl)) (fun _ _ _ _ _ => pts_one (pt_not (pt_val (pe_callG GW still hr (by rfl) gW kW bW .nil pass0 (pa_cons (pv 0) (pa_cons (pv 1) (pa_cons (pv 2) (pa_cons (pv 6) pa_nil)))))))) (fun _ _ _ _ _ => pv 6)) (pe_lst pa_nil) (nomark _)) (pss_one (ps_ret pe_bl)) pss_nil)
          (pss_one (ps_if (pt_cmpR (op_neD hr.units) (pe_lc (own := [("_law_one", 6)]) (g := gName 6) (tt := tYes) (by rfl) scRight.nd (pi_tup (pv 5)) (blkOk_by (own := [("_law_one", 6)]) (N := nRight) (sc := defScope tLRight) (by decide +kernel))
              (fun _ _ _ _ _ => pg_name (i := 6) scRight.nd rfl (.inl rfl)) (fun _ _ _ _ _ => pts_nil) (fun _ _ _ _ _ => pe_call GA hr (by rfl) gA kA bA .nil pass0 (pa_cons (pv 0) (pa_cons (pv 1) (pa_cons (pv 2) (pa_cons (pv 6) pa_nil)))))) (pe_listRg rfl (by rfl) mL (prg_1 (by rfl) mr (pe_callB call_len_seq (by rfl) ml PySem.boot_len (pa_cons (pv 5) pa_nil)))) (nomark _)) (pss_one (ps_ret pe_bl)) pss_nil)))))))))
    (pss_one (ps_ret pe_bl)), ?_⟩
  have kt : ∀ {A B : Hp}, TbS T A → Sm T A B → Tk A B := fun ta sa b xs e => sa.at ta e fun _ z => by cases z
  have hk := tbk_knd htb
  refine ⟨2, rfl, by decide, by decide, for_range (n := 2) (fun i σ G => Sm T H G ∧ ∃ y4 y5, σ = [some vk, some (.ref p), some (.int (b : Nat)), some (.bl g), y4, y5, none]) ⟨Sm.refl tb, none, none, rfl⟩ (fun i σ G hi z => ?_) (fun σ G z => ?_)⟩
  rotate_left
  · exact q _ z.1
  obtain ⟨sG, y4, y5, rfl⟩ := z
  have tbG := sG.2
  refine ⟨_, rfl, _, rfl, _, rfl, vk, p, t, sz, b, rfl, by omega, hk, rk.tk (kt tb sG), hz.sm tb sG, hB, hb, tbG, (fun hm hl a us G1 s1 ga da => ?_), (fun hm G1 s1 => ?_)⟩
  rotate_left
  · have hg1 : g = true := by
      rw [hg]
      rcases hm with hm | hm
      · rw [decide_eq_true hm]
        rfl
      · rw [hm, Bool.or_true]
    subst hg1
    refine ⟨_, rfl, _, rfl, iteT ?_⟩
    exact ⟨_, rfl, _, _, rfl, rfl, _, rfl, iteF ⟨sG.trans (Sm.of s1 tbG), _, _, rfl⟩⟩
  have hg0 : g = false := by
    rw [hg, hl, decide_eq_false (by omega)]
    rfl
  have sH := sG.trans s1
  have tb1 := s1.2
  have rk1 := rk.tk (kt tb sH)
  have hz1 := hz.sm tb sH
  have lu : us.length = mny sz b t := by rw [← da.len, lw_len]
  have dT : Dd Any G1 (.tup (lw sz b t)) (.ref a) := .tup ga da.any
  rw [hg0]
  refine ⟨_, rfl, _, rfl, iteF ?_⟩
  refine ⟨_, rfl, _, _, _, _, (Dt.tup (lw sz b t)).isTup, rfl, .ty "tuple", dT.ty, kTup K _, ?_⟩
  refine ⟨_, rfl, iteF ⟨_, rfl, a, us, rfl, .inr (SqT.of ga), ?_⟩⟩
  have c1 : cm (mny sz b t) = mny sz b t := cm_lo (by omega)
  refine ⟨_, rfl, _, rfl, _, rfl, vk, p, t, sz, b, rfl, by omega, hk, rk1, hz1, hB, hb, fun G2 s2 => ⟨rfl, _, rfl, ite2 (fun e => ?_) (fun _ => ?_)⟩⟩
  · exfalso
    have e := neI_t e
    rw [c1] at e
    omega
  have sH2 := sH.trans (Sm.of s2 sH.2)
  have ga2 := s2 _ _ ga
  have da2 := da.same s2
  have rk2 := rk1.tk (Tk.of s2)
  have hz2 := hz1.same s2
  refine ⟨_, rfl, a, rfl, ⟨_, SqT.of ga2⟩, fun D nD => ?_⟩
  refine lc_tup (xs := us) (fun i F => Same G2 F ∧ F D = some (.lst [])) ⟨newS nD, upd_same⟩ (fun i F _ z => SqT.of (z.1 _ _ ga2)) (fun i x F hx z => ?_) (fun F z => ?_)
  · obtain ⟨sF, gD⟩ := z
    obtain ⟨x', hx', dx⟩ := da2.get hx
    have mx := List.mem_of_getElem? hx'
    exact ⟨rfl, _, rfl, _, rfl, _, rfl, _, rfl, vk, p, x, t, sz, b, x', rfl, by omega, htb, hop, rk2.tk (Tk.of sF), hz2.same sF, hB, hb, hl, mx, dx.same sF, fun F2 s2 => ⟨_, rfl, iteF ⟨sF.trans s2, s2 _ _ gD⟩⟩⟩
  obtain ⟨sF, gD⟩ := z
  refine ⟨Nat.zero_le _, fun e0 ne0 => ⟨.list [], .list [], .lst (SqL.of (newS ne0 _ _ gD)) .nil, .lst (SqL.of upd_same) .nil, shStrs (xs := []) (fun _ h => nomatch h), rfl, _, rfl, ite2 (fun e => ?_) (fun _ => ?_)⟩⟩
  · exfalso
    simp [PyData.eqv, PyData.eqvAll] at e
  have sE := sF.trans (newS (o := .lst []) ne0)
  have gaE := sE _ _ ga2
  have daE := da2.same sE
  have rkE := rk2.tk (Tk.of sE)
  have hzE := hz2.same sE
  generalize upd F e0 (.lst []) = F0 at sE gaE daE rkE hzE
  clear nD gD ne0 sF
  refine ⟨_, rfl, a, rfl, ⟨_, SqT.of gaE⟩, fun D2 nD2 => ?_⟩
  refine lc_tup (xs := us) (fun i F => Same F0 F ∧ F D2 = some (.lst (((List.range i).map fun i => ((i : Nat) : Int)).map V.int))) ⟨newS nD2, upd_same⟩ (fun i F _ z => SqT.of (z.1 _ _ gaE)) (fun i x F hx z => ?_) (fun F z => ?_)
  · obtain ⟨sF, gD⟩ := z
    obtain ⟨x', hx', dx⟩ := daE.get hx
    have li := (List.getElem?_eq_some_iff.mp hx).1
    refine ⟨rfl, _, rfl, _, rfl, _, rfl, _, rfl, vk, p, x, t, sz, b, x', i, rfl, by omega, hk, rkE.tk (Tk.of sF), hzE.same sF, hB, hb, hm, hx', dx.same sF, fun F2 s2 => ?_⟩
    refine ⟨_, s2 _ _ gD, small1000 (by rw [List.length_map, List.length_map, List.length_range]; omega), smk (sF.trans s2) nD2, ?_⟩
    rw [upd_same, List.range_succ, List.map_append, List.map_append]
    rfl
  obtain ⟨sF, gD⟩ := z
  refine ⟨_, rfl, a, us, rfl, .inr (SqT.of (sF _ _ gaE)), _, rfl, RgOk.of_le (by omega) (by omega) (by omega) (by omega), fun l nl => ?_⟩
  have gDl := newS (o := .lst (rgV 0 ((us.length : Nat) : Int))) nl _ _ gD
  have er : rgV 0 ((us.length : Nat) : Int) = ((List.range us.length).map fun i => ((i : Nat) : Int)).map V.int := by
    unfold rgV
    rw [List.map_map, show (((us.length : Nat) : Int) - 0).toNat = us.length by omega]
    refine List.map_congr_left fun i _ => ?_
    rw [Int.zero_add]
    rfl
  have sl := newS (o := .lst (rgV 0 ((us.length : Nat) : Int))) nl
  have gl : (upd F l (.lst (rgV 0 ((us.length : Nat) : Int)))) l = some (.lst (((List.range us.length).map fun i => ((i : Nat) : Int)).map V.int)) := by
    rw [upd_same, er]
  refine ⟨_, _, .lst (SqL.of gDl) (dpInts K _ _), .lst (SqL.of gl) (dpInts K _ _), PySem.W.ke_shaped_ints _, PySem.W.ke_shaped_ints _, _, rfl, ite2 (fun e => ?_) (fun _ => ?_)⟩
  · exfalso
    rw [eqv_intsL] at e
    cases e
  exact ⟨sH2.trans (Sm.of ((sE.trans sF).trans sl) sH2.2), _, _, rfl⟩
end
end Kq

/-! _law_small, _law_led_to -/
namespace Kq
open PySem PySem.Spec PyProof.Rows L2 Kf Kg Kv GxR Kk
abbrev tSmall : Stmt := tp 36
abbrev tLed : Stmt := tp 37
structure Sml (g : Nat) (t : Kd) : Prop where
  s : smS t = true
  dp : t.dp ≤ g
  nm : ∀ x ∈ t.opens, Nm x
theorem leaf_mny {sz : List (Str × Int)} (hB : SzB sz) {t : Kd} (h : smS t = true) (h0 : t.dp = 0) : mny sz 0 t ≤ 3 ∧ sml sz t = true := by
  cases t with
  | opn n =>
    have := hB.look n
    exact ⟨by show (look sz n).toNat ≤ 3; omega, rfl⟩
  | tru => exact ⟨by show 2 ≤ 3; decide, rfl⟩
  | pair a b => cases h0
  | eith a b => cases h0
  | num => cases h
  | lst _ => cases h
  | fn _ _ => cases h
theorem smS_sml {sz : List (Str × Int)} (hB : SzB sz) {t : Kd} (h : smS t = true) (h1 : t.dp ≤ 1) : sml sz t = true ∧ mny sz 0 t ≤ 9 := by
  cases t with
  | opn n =>
    have := leaf_mny hB (t := .opn n) h rfl
    exact ⟨this.2, by omega⟩
  | tru =>
    have := leaf_mny hB (t := .tru) h rfl
    exact ⟨this.2, by omega⟩
  | pair a b =>
    obtain ⟨ha, hb⟩ := Bool.and_eq_true_iff.mp (show (smS a && smS b) = true from h)
    have hd : max a.dp b.dp + 1 ≤ 1 := h1
    obtain ⟨ma, sa⟩ := leaf_mny hB ha (by omega)
    obtain ⟨mb, sb⟩ := leaf_mny hB hb (by omega)
    have m : mny sz 0 a * mny sz 0 b ≤ 3 * 3 := Nat.mul_le_mul ma mb
    refine ⟨?_, by show mny sz 0 a * mny sz 0 b ≤ 9; omega⟩
    show (sml sz a && sml sz b && decide (mny sz 0 a * mny sz 0 b ≤ 300)) = true
    rw [sa, sb, decide_eq_true (by omega)]
    rfl
  | eith a b =>
    obtain ⟨ha, hb⟩ := Bool.and_eq_true_iff.mp (show (smS a && smS b) = true from h)
    have hd : max a.dp b.dp + 1 ≤ 1 := h1
    obtain ⟨ma, sa⟩ := leaf_mny hB ha (by omega)
    obtain ⟨mb, sb⟩ := leaf_mny hB hb (by omega)
    refine ⟨?_, by show mny sz 0 a + mny sz 0 b ≤ 9; omega⟩
    show (sml sz a && sml sz b && decide (mny sz 0 a + mny sz 0 b ≤ 300)) = true
    rw [sa, sb, decide_eq_true (by omega)]
    rfl
  | num => cases h
  | lst _ => cases h
  | fn _ _ => cases h
section
variable {P : Program} {w : World} {K : PySem.W.Frag} {mg : Str → Option Value} {base : Heap}
theorem scLed : FnScope ["_law_arguments", "_law_result", "_law_one"] ["_law_arguments", "_law_result"] (defScope tLed) := ⟨rfl, rfl, rfl, by decide +kernel, rfl, by decide +kernel, by decide +kernel⟩
def spLed : Sp := fun vs H Q _ => ∃ (a : Addr) (ts : List Kd) (us : List V) (t : Kd) (v : V), vs = [.ref a, v] ∧ (H a = some (.lst us) ∨ H a = some (.tup us)) ∧ RpL H ts us ∧ Rp H t v ∧ ∀ (u : V) (G : Hp), Same H G → Rp G (Kd.ledTo ts t) u → Q u G
theorem okLed {f : Addr} {fd : FuncData} {k : Nat} (F : Fun K "_law_led_to" "_law_led_to" tLed f fd) (mr : mg "reversed" = none) : FnOk P w K mg base CX0 (k + 1) f fd ["_law_arguments", "_law_result"] spLed := by
  refine F.ok scLed (fun vs H Q E h => ?_) (fun cdv A outer s H vs Q E hr h => ?_)
  · obtain ⟨a, ts, us, t, v, rfl, _⟩ := h
    rfl
  obtain ⟨a, ts, us, t, v, rfl, ha, rt, r, q⟩ := h
  refine ⟨_, pss_cons (ps_for PassesOwn.never rfl (RT.pi_revA (by rfl) mr (pv 0)) (pg_name (i := 2) scLed.nd rfl (.inl rfl))
      (pss_one (ps_set (i := 1) scLed.nd rfl (.inl rfl) (pe_tup (pa_cons pe_str (pa_cons (pv 2) (pa_cons (pv 1) pa_nil)))))))
    (pss_one (ps_ret (pv 1))), ?_⟩
  have l1 := rt.len
  let Pv : Nat → L2.St → Hp → Prop := fun i σ G => ∃ rv y, σ = [some (.ref a), some rv, y] ∧ Same H G ∧ i ≤ us.length ∧ Rp G (Kd.ledTo (ts.drop (us.length - i)) t) rv
  have p0 : Pv 0 [some (.ref a), some v, none] H := ⟨v, none, rfl, Same.refl H, Nat.zero_le _, by rw [Nat.sub_zero, ← l1, List.drop_length]; exact r⟩
  have turn : ∀ (i : Nat) (x : V) (G : Hp) (rv : V), i < us.length → us[us.length - 1 - i]? = some x → Same H G → Rp G (Kd.ledTo (ts.drop (us.length - i)) t) rv → ∀ p, G p = none → Same H (upd G p (.tup [.str "fun", x, rv])) ∧ Rp (upd G p (.tup [.str "fun", x, rv])) (Kd.ledTo (ts.drop (us.length - (i + 1))) t) (.ref p) := fun i x G rv hi hx sG rr p np => by
    obtain ⟨c, hc, rc⟩ := rt.get hx
    have s2 : Same G (upd G p (.tup [.str "fun", x, rv])) := newS np
    have lj : us.length - 1 - i < ts.length := by omega
    have e1 : ts[us.length - 1 - i] = c := Option.some.inj ((List.getElem?_eq_getElem lj).symm.trans hc)
    have e2 : ts.drop (us.length - (i + 1)) = c :: ts.drop (us.length - i) := by
      have z := List.drop_eq_getElem_cons lj
      rw [e1, show us.length - 1 - i + 1 = us.length - i by omega, show us.length - 1 - i = us.length - (i + 1) by omega] at z
      exact z
    refine ⟨sG.trans s2, ?_⟩
    rw [e2]
    exact ⟨p, x, rv, rfl, upd_same, rc.tk ((Tk.of sG).trans (Tk.of s2)), rr.tk (Tk.of s2)⟩
  rcases ha with ha | ha
  · refine ⟨_, rfl, a, us, rfl, .inl ⟨SqL.of ha, RT.for_Itv (xs := us) Pv p0 (fun i σ G z => ?_) (fun i x σ G hi hx z => ?_) (fun σ G z => ?_)⟩⟩
    · obtain ⟨rv, y, _, sG, _⟩ := z
      exact SqL.of (sG _ _ ha)
    · obtain ⟨rv, y, rfl, sG, _, rr⟩ := z
      refine ⟨_, rfl, _, rfl, (by show 3 ≤ sizeLine; decide), fun p np => ?_⟩
      obtain ⟨u1, u2⟩ := turn i x G rv hi hx sG rr p np
      exact ⟨_, _, rfl, u1, hi, u2⟩
    · obtain ⟨rv, y, rfl, sG, _, rr⟩ := z
      rw [Nat.sub_self, List.drop_zero] at rr
      exact ⟨_, rfl, q rv G sG rr⟩
  · refine ⟨_, rfl, a, us, rfl, .inr ⟨SqT.of ha, RT.for_ItvT (xs := us) Pv p0 (fun i σ G z => ?_) (fun i x σ G hi hx z => ?_) (fun σ G z => ?_)⟩⟩
    · obtain ⟨rv, y, _, sG, _⟩ := z
      exact SqT.of (sG _ _ ha)
    · obtain ⟨rv, y, rfl, sG, _, rr⟩ := z
      refine ⟨_, rfl, _, rfl, (by show 3 ≤ sizeLine; decide), fun p np => ?_⟩
      obtain ⟨u1, u2⟩ := turn i x G rv hi hx sG rr p np
      exact ⟨_, _, rfl, u1, hi, u2⟩
    · obtain ⟨rv, y, rfl, sG, _, rr⟩ := z
      rw [Nat.sub_self, List.drop_zero] at rr
      exact ⟨_, rfl, q rv G sG rr⟩
/-! _law_small -/
abbrev nSmall : List Str := ["_law_deck_here", "_law_opens", "_law_deep", "_law_way", "_law_word"]
theorem scSmall : FnScope nSmall psData (defScope tSmall) := ⟨rfl, rfl, rfl, by decide +kernel, rfl, by decide +kernel, by decide +kernel⟩
def spSmall (n : Nat) : Sp := fun vs H Q _ => ∃ (d c o : Addr) (xs : List Str) (g : Nat), vs = [.ref d, .ref o, .int (g : Int)] ∧ g + 1 ≤ n ∧ Dk H d c ∧ H o = some (.lst (xs.map V.str)) ∧ o ≠ d ∧ o ≠ c ∧ xs.length ≤ 26 ∧ (∀ x ∈ xs, Nm x) ∧
  ∀ (v : V) (t : Kd) (G : Hp), Kp d c H G → Dk G d c → Rp G t v → Sml g t → Q v G
theorem okSmall1 {f fD : Addr} {fd fdD : FuncData} {n : Nat} (F : Fun K "_law_small" "_law_small" tSmall f fd) (bF : Binds K fd psData []) (gF : mg "_law_small" = some (.ref f))
    (GD : FnOk P w K mg base CX0 (n + 2) fD fdD ["_law_deck_here", "_law_most"] spDraw) (bD : Binds K fdD ["_law_deck_here", "_law_most"] []) (gD : mg "_law_draw" = some (.ref fD)) (kD : PySem.W.keepIn K (.ref fD) = true) (ml : mg "len" = none)
    (GI : FnOk P w K mg base CX0 (n + 2) f fd psData (spSmall n)) : FnOk P w K mg base CX0 (n + 3) f fd psData (spSmall (n + 1)) := by
  refine F.ok scSmall (fun vs H Q E h => ?_) (fun cdv A outer s H vs Q E hr h => ?_)
  · obtain ⟨d, c, o, xs, g, rfl, _⟩ := h
    rfl
  obtain ⟨d, c, o, xs, g, rfl, hg, dk, ho, od, oc, lx, hx, q⟩ := h
  refine ⟨_, pss_cons (ps_set (i := 3) scSmall.nd rfl (.inl rfl) (pe_call GD hr (by rfl) gD kD bD .nil pass0 (pa_cons (pv 0) (pa_cons pe_int pa_nil))))
    (C8.pss_cut (ps_if (PW.pt (pw_and (pt_cmpR op_lt (pv 3) pe_int (nomark _)) (pw_and1 (pt_cmpR (op_neD hr.units) (pv 1) (pe_lst pa_nil) (nomark _)))))
      (pss_one (ps_ret (pe_tup (pa_cons pe_str (pa_cons (pe_ix ix_list (pv 1) (pe_call GD hr (by rfl) gD kD bD .nil pass0 (pa_cons (pv 0) (pa_cons (pe_callB call_len_seq (by rfl) ml PySem.boot_len (pa_cons (pv 1) pa_nil)) pa_nil))) (fun _ _ => rfl)) pa_nil))))) pss_nil)
    (pss_cons (ps_if (PW.pt (pw_or (pt_cmpR op_eq (pv 2) pe_int (nomark _)) (pw_or1 (pt_cmpR op_lt (pv 3) pe_int (nomark _)))))
      (pss_one (ps_ret (pe_tup (pa_cons pe_str pa_nil)))) pss_nil)
    (pss_cons (ps_set (i := 4) scSmall.nd rfl (.inl rfl) (pe_ix ix_list (pe_lst (pa_cons pe_str (pa_cons pe_str pa_nil))) (pe_op op_mod (pv 3) pe_int) (fun _ _ => rfl)))
    (pss_one (ps_ret (pe_tup (pa_cons (pv 4) (pa_cons (pe_call GI hr (by rfl) gF F.kp bF .nil pass0 (pa_cons (pv 0) (pa_cons (pv 1) (pa_cons (pe_op op_sub (pv 2) pe_int) pa_nil)))) (pa_cons (pe_call GI hr (by rfl) gF F.kp bF .nil pass0 (pa_cons (pv 0) (pa_cons (pv 1) (pa_cons (pe_op op_sub (pv 2) pe_int) pa_nil)))) pa_nil))))))))), ?_⟩
  refine ⟨_, rfl, d, c, 8, rfl, dk, by decide, by decide, fun way G1 w0 w1 kp1 dk1 => ?_⟩
  have ho1 := kp1 o _ od oc ho
  refine ⟨fun σ G => σ = [some (.ref d), some (.ref o), some (.int g), some (.int way), none] ∧ Kp d c H G ∧ Dk G d c ∧ G o = some (.lst (xs.map V.str)), ?_, ?b2⟩
  refine ⟨_, rfl, _, _, rfl, rfl, _, rfl, ?_⟩
  refine ite2 (fun _ => ⟨_, rfl, Nat.zero_le _, fun e ne => ⟨.list (xs.map PyData.str), .list [], .lst (SqL.of (newS ne _ _ ho1)) (dpStrs K _ xs), .lst (SqL.of upd_same) .nil, shStrs hx, rfl, _, rfl, ite2 (fun c1 => ?b1) (fun _ => ⟨rfl, kp1.trans (Kp.of (newS ne)), dk1.same (newS ne), newS ne _ _ ho1⟩)⟩⟩) (fun _ => iteF ⟨rfl, kp1, dk1, ho1⟩)
  case b1 =>
    have ho2 := newS (o := .lst []) ne _ _ ho1
    have dk2 := dk1.same (newS (o := .lst []) ne)
    have kp2 : Kp d c H (upd G1 e (.lst [])) := kp1.trans (Kp.of (newS ne))
    rw [eqvNil] at c1
    have l0 : 0 < xs.length := by
      cases xs with
      | nil => cases c1
      | cons x r => exact Nat.succ_pos _
    refine ⟨_, rfl, _, rfl, _, rfl, o, _, rfl, .inl (SqL.of ho2), d, c, _, rfl, dk2, ?_, ?_, fun r G3 r0 r1 kp3 dk3 => ?_⟩
    · rw [List.length_map]
      omega
    · rw [List.length_map]
      omega
    rw [List.length_map] at r1
    have lr : r.toNat < xs.length := by omega
    have er : r = ((r.toNat : Nat) : Int) := by omega
    have gat : atI (xs.map V.str) r = some (.str xs[r.toNat]) := by
      have z := atI_nat (xs := xs.map V.str) (j := r.toNat) (v := .str xs[r.toNat]) (by rw [List.getElem?_map, List.getElem?_eq_getElem lr]; rfl)
      rw [← er] at z
      exact z
    refine ⟨o, _, _, _, rfl, rfl, SqL.of (kp3 o _ od oc ho2), gat, (by show 2 ≤ sizeLine; decide), fun p np => ?_⟩
    refine q (.ref p) (.opn xs[r.toNat]) _ ((kp2.trans kp3).trans (Kp.of (newS np))) (dk3.same (newS np)) ⟨p, rfl, upd_same⟩ ⟨rfl, Nat.zero_le _, fun x hx' => ?_⟩
    rw [List.mem_singleton.mp hx']
    exact hx _ (List.getElem_mem lr)
  case b2 =>
    rintro σ G ⟨rfl, kp, dkG, hoG⟩
    have leaf : ∀ p, G p = none → Q (.ref p) (upd G p (.tup [.str "truth"])) := fun p np => q (.ref p) .tru _ (kp.trans (Kp.of (newS np))) (dkG.same (newS np)) ⟨p, rfl, upd_same⟩ ⟨rfl, Nat.zero_le _, fun x z => (nomatch z)⟩
    refine ⟨_, rfl, rfl, _, rfl, ite2 (fun _ => iteT ⟨(by show 1 ≤ sizeLine; decide), leaf⟩) (fun hdeep => ⟨_, rfl, _, _, rfl, rfl, _, rfl, ite2 (fun _ => ⟨(by show 1 ≤ sizeLine; decide), leaf⟩) (fun _ => ?deep)⟩)⟩
    case deep =>
      obtain ⟨j, rfl⟩ : ∃ j, g = j + 1 := by
        cases g with
        | zero => exact absurd (decide_eq_true rfl) hdeep
        | succ j => exact ⟨j, rfl⟩
      have ej : ((j + 1 : Nat) : Int) - 1 = ((j : Nat) : Int) := by omega
      have eL : [V.ref d, V.ref o, V.int (((j + 1 : Nat) : Int) - 1)] = [V.ref d, V.ref o, V.int ((j : Nat) : Int)] := by rw [ej]
      refine ⟨(by show 2 ≤ sizeLine; decide), fun l nl => ?_⟩
      have sl := newS (o := .lst [V.str "pair", .str "either"]) nl
      have kpl := kp.trans (Kp.of sl)
      have dkl := dkG.same sl
      have hol := sl _ _ hoG
      have gl : (upd G l (.lst [V.str "pair", .str "either"])) l = some (.lst [V.str "pair", .str "either"]) := upd_same
      generalize upd G l (.lst [V.str "pair", .str "either"]) = G2 at kpl dkl hol gl
      refine ⟨_, rfl, _, _, rfl, rfl, (by show (0 : Int) < 2; decide), ?_⟩
      have m2 : way % 2 = 0 ∨ way % 2 = 1 := by omega
      have both : ∀ (wd : Str) (mk : Kd → Kd → Kd), (∀ F x y pp a b, F pp = some (.tup [.str wd, x, y]) → Rp F a x → Rp F b y → Rp F (mk a b) (.ref pp)) → (∀ a b, smS (mk a b) = (smS a && smS b)) → (∀ a b, (mk a b).dp = max a.dp b.dp + 1) → (∀ a b, (mk a b).opens = a.opens ++ b.opens) →
          ∀ (a b : Kd) (va vb : V) (G2 : Hp) (p : Addr), Kp d c H G2 → Dk G2 d c → Rp G2 a va → Rp G2 b vb → Sml j a → Sml j b → G2 p = none → Q (.ref p) (upd G2 p (.tup [.str wd, va, vb])) := fun wd mk hmk m1 m2 m3 a b va vb G2 p kp2 dk2 ra rb da db np => by
        have s := newS (o := .tup [.str wd, va, vb]) np
        refine q _ (mk a b) _ (kp2.trans (Kp.of s)) (dk2.same s) (hmk _ _ _ p _ _ upd_same (ra.tk (Tk.of s)) (rb.tk (Tk.of s))) ⟨by rw [m1, da.s, db.s]; rfl, ?_, fun x hx' => ?_⟩
        · have := da.dp
          have := db.dp
          rw [m2]
          omega
        · rw [m3] at hx'
          rcases List.mem_append.mp hx' with z | z
          · exact da.nm x z
          · exact db.nm x z
      rcases m2 with e | e
      · refine ⟨l, _, way % 2, .str "pair", rfl, rfl, SqL.of gl, (by rw [e]; rfl), ?_⟩
        refine ⟨_, rfl, _, rfl, _, rfl, _, rfl, _, _, rfl, rfl, d, c, o, xs, j, eL, by omega, dkl, hol, od, oc, lx, hx, fun va a G3 kp3 dk3 ra da => ?_⟩
        refine ⟨_, rfl, _, rfl, _, rfl, _, _, rfl, rfl, d, c, o, xs, j, eL, by omega, dk3, kp3 o _ od oc hol, od, oc, lx, hx, fun vb b G4 kp4 dk4 rb db => ?_⟩
        exact ⟨(by show 3 ≤ sizeLine; decide), fun p np => both "pair" .pair (fun F x y pp a b h1 h2 h3 => ⟨pp, x, y, rfl, h1, h2, h3⟩) (fun _ _ => rfl) (fun _ _ => rfl) (fun _ _ => rfl) a b va vb G4 p ((kpl.trans kp3).trans kp4) dk4 (ra.tk (Tk.kp kp4 dk3)) rb da db np⟩
      · refine ⟨l, _, way % 2, .str "either", rfl, rfl, SqL.of gl, (by rw [e]; rfl), ?_⟩
        refine ⟨_, rfl, _, rfl, _, rfl, _, rfl, _, _, rfl, rfl, d, c, o, xs, j, eL, by omega, dkl, hol, od, oc, lx, hx, fun va a G3 kp3 dk3 ra da => ?_⟩
        refine ⟨_, rfl, _, rfl, _, rfl, _, _, rfl, rfl, d, c, o, xs, j, eL, by omega, dk3, kp3 o _ od oc hol, od, oc, lx, hx, fun vb b G4 kp4 dk4 rb db => ?_⟩
        exact ⟨(by show 3 ≤ sizeLine; decide), fun p np => both "either" .eith (fun F x y pp a b h1 h2 h3 => ⟨pp, x, y, rfl, h1, h2, h3⟩) (fun _ _ => rfl) (fun _ _ => rfl) (fun _ _ => rfl) a b va vb G4 p ((kpl.trans kp3).trans kp4) dk4 (ra.tk (Tk.kp kp4 dk3)) rb da db np⟩
theorem okSmall {f fD fM : Addr} {fd fdD fdM : FuncData} (F : Fun K "_law_small" "_law_small" tSmall f fd) (bF : Binds K fd psData []) (gF : mg "_law_small" = some (.ref f))
    (FD : Fun K "_law_draw" "_law_draw" tDraw fD fdD) (bD : Binds K fdD ["_law_deck_here", "_law_most"] []) (gD : mg "_law_draw" = some (.ref fD)) (FM : Fun K "_law_mixed" "_law_mixed" tMixed fM fdM) (bM : Binds K fdM ["_law_cell", "_law_k"] []) (gM : mg "_law_mixed" = some (.ref fM)) (ml : mg "len" = none) :
    ∀ n, FnOk P w K mg base CX0 (n + 2) f fd psData (spSmall n)
  | 0 => noFn fun vs H Q E h => by
    obtain ⟨d, c, o, xs, g, _, hg, _⟩ := h
    omega
  | n + 1 => okSmall1 F bF gF (okDraw FD FM bM gM) bD gD FD.kp ml (okSmall F bF gF FD bD gD FM bM gM ml n)
end
end Kq

/-! sorted of a list of pairs of a text and a number -/
namespace Kz
open PySem PySem.Spec PyProof.Rows Srt
/-- u: a tuple of a text and a number -/
def TxI (g : Heap) (u : Value) (z : Str) (m : Int) : Prop := ∃ c ob k1 k2 e, u = .ref c ∧ g.get? c = some ob ∧ ob.cls = .type "tuple" ∧ ob.data = .seq #[.str z k1, .int m k2] e
theorem TxI.kept {g g' : Heap} {u : Value} {z : Str} {m : Int} (p : TxI g u z m) (k : ∀ b ob, g.get? b = some ob → ob.cls = .type "tuple" → g'.get? b = some ob) : TxI g' u z m := by
  obtain ⟨c, ob, k1, k2, e, q1, q2, q3, q4⟩ := p
  exact ⟨c, ob, k1, k2, e, q1, k c ob q2 q3, q3, q4⟩
section
variable {pr : Program} {wo : World} {B : Around} {E : Value → Shared → Prop} {s : Shared}
theorem txi_tot {us : List Value} (hp : ∀ u ∈ us, ∃ z m, TxI s.heap u z m) : Tot pr wo B s (tuples' true) (fun p => p.1 ∈ us) := by
  intro p q m1 m2
  obtain ⟨z, i, c, ob, k1, k2, e, q1, q2, _, q4⟩ := hp _ m1
  obtain ⟨y, j, d, od, l1, l2, f, r1, r2, _, r4⟩ := hp _ m2
  rw [q1, r1]
  refine ⟨if (z == y) = true then (if (i == j) = true then false else decide (i < j)) else decide (z.cps.toList < y.cps.toList), ?_⟩
  refine PySem.W.kat_lt q2 q4 r2 r4 ?_
  show PySem.W.KatLex pr wo B true (decide (2 < 2)) _ [(.str z k1, .str y l1), (.int i k2, .int j l2)] 0 s
  refine PySem.W.kat_cons (SeqAt.EqAt.str_str z k1 y l1 pr wo _ _ ?_)
  refine PySem.W.kat_go (fun e1 => ?_) (fun e1 => ?_)
  · refine PySem.W.kat_yes (PySem.W.kat_cons (SeqAt.EqAt.int_int i k2 j l2 pr wo _ _ ?_))
    refine PySem.W.kat_go (fun e2 => ?_) (fun e2 => ?_)
    · refine PySem.W.kat_yes (PySem.W.kat_nil ⟨rfl, ?_⟩)
      rw [if_pos e1, if_pos e2]
      rfl
    · refine PySem.W.kat_no (PyProof.Rows.oneLt_any_int ⟨rfl, ?_⟩)
      rw [if_pos e1, if_neg (by rw [e2]; decide)]
  · refine PySem.W.kat_no (PyProof.Rows.oneLt_any_str ⟨rfl, ?_⟩)
    rw [if_neg (by rw [e1]; decide)]
theorem txi_firsts {g : Heap} : ∀ {us : List Value}, (∀ u ∈ us, ∃ z m, TxI g u z m) → ∃ fs : List Value, PySem.W.KatTups g us fs ∧ fs.length = us.length ∧ ∀ f ∈ fs, ∃ z k, f = Value.str z k
  | [], _ => ⟨[], .nil, rfl, fun _ h => nomatch h⟩
  | u :: us, hp => by
    obtain ⟨z, m, c, ob, k1, k2, e, q1, q2, q3, q4⟩ := hp u List.mem_cons_self
    obtain ⟨fs, a1, a2, a3⟩ := txi_firsts (us := us) fun v hv => hp v (List.mem_cons_of_mem _ hv)
    rw [q1]
    refine ⟨.str z k1 :: fs, .cons q2 q3 q4 rfl a1, by simp [a2], fun f hf => ?_⟩
    rcases List.mem_cons.mp hf with h | h
    · exact ⟨z, k1, h⟩
    · exact a3 f h
theorem txi_sortable {a : Addr} {us : List Value} (h0 : 0 < us.length) (hp : ∀ u ∈ us, ∃ z m, TxI s.heap u z m) (ha : ∀ ob, s.heap.get? a = some ob → ob.cls ≠ .type "tuple") : Sortable pr wo B s a us := by
  intro g' keep
  have hp2 : ∀ u ∈ us, ∃ z m, TxI g' u z m := fun u hu => by
    obtain ⟨z, m, p⟩ := hp u hu
    exact ⟨z, m, p.kept fun b ob e c => keep b ob (fun w => by rw [w] at e; exact ha ob e c) e⟩
  obtain ⟨fs, a1, a2, a3⟩ := txi_firsts hp2
  refine ⟨tuples' true, fun Q E2 hq => PySem.W.kat_kind (T := .type "str") a1 (by omega) (fun f hf => ?_) (by rfl) ?_, txi_tot hp2⟩
  · obtain ⟨z, k, rfl⟩ := a3 f hf
    exact PySem.W.Looks.now
  · rw [show (Value.type "str" != Value.type "tuple") = true by first | decide +kernel | rfl]
    exact hq
theorem txi_sorted {l : Addr} {us : List Value} {Q : Value → Shared → Prop} (hl : s.heap.IsList l us.toArray) (hz : us.length ≤ sizeLine) (hp : ∀ u ∈ us, ∃ z m, TxI s.heap u z m)
    (h : ∀ (g : Heap) (d : Addr) (out : List Value), out.Perm us → (∀ b ob, s.heap.get? b = some ob → g.get? b = some ob) → s.heap.objs.size ≤ d → (∃ n, g.get? d = some (seqObj "list" out.toArray n)) → Q (.ref d) { s with heap := g }) :
    wpAny (model pr wo) B (call (.builtin "sorted") [.ref l]) Q E s :=
  sorted_any hl hz (fun h2 g a ga k => txi_sortable (s := { s with heap := g }) (by omega) (fun u hu => by
      obtain ⟨z, m, p⟩ := hp u hu
      exact ⟨z, m, p.kept fun b ob e _ => (k b ob e).2⟩) fun ob e c => by
      have e2 := (show some ob = some (seqObj "list" us.toArray 0) from e.symm.trans ga)
      cases e2
      exact absurd (Value.type.inj c) (by decide))
    fun out ho => h _ _ out ho (fun b ob e => sortedAll_old e) (Nat.le_succ _) (sortedAll_at s.heap us out.toArray)
end
end Kz
namespace Kz
open PySem PySem.Spec PyProof.Rows L2
section
variable {X : Cx}
/-- sorted(xs), of pairs of a text and a number: a new list of the same pairs -/
def rSortedSI (K : PySem.W.Frag) : List V → Hp → VK → Prop := fun vs H Q => ∃ a xs, vs = [V.ref a] ∧ SqL K H a xs ∧ (∀ x ∈ xs, ∃ t z m, x = V.ref t ∧ H t = some (.tup [.str z, .int m])) ∧
  ∀ ys p, ys.Perm xs → H p = none → Q (.ref p) (upd H p (.lst ys))
theorem cr_sortedSI : CallR X (.builtin "sorted") (rSortedSI X.K) := by
  intro pins s σ H vs us Q I r h
  obtain ⟨a, xs, rfl, hs, hx, q⟩ := h
  obtain ⟨its, rv, hl, hz⟩ := I.list hs
  obtain ⟨u, rfl, ru⟩ := vals1 r
  obtain rfl : u = Value.ref a := ru
  obtain ⟨e1, e2⟩ := refs_back rv fun x m => (by
    obtain ⟨t, _, _, e, _⟩ := hx x m
    exact ⟨t, e⟩)
  refine txi_sorted hl.isList (by rw [← rv.length]; exact hz) (fun v hv => ?_) fun g d out hp k hd hn => ?_
  · obtain ⟨t, rfl⟩ := e2 v hv
    obtain ⟨t', z, m, e, ht⟩ := hx (V.ref t) (by rw [e1]; exact List.mem_map.mpr ⟨_, hv, rfl⟩)
    cases e
    obtain ⟨_, its2, r2, ob, ho, hc, n, hd⟩ := I.hok _ _ ht
    obtain ⟨u1, u2, rfl, ⟨k1, rfl⟩, ⟨k2, rfl⟩⟩ := vals2 r2
    exact ⟨z, m, t, ob, k1, k2, n, rfl, ho, hc, hd⟩
  · obtain ⟨n, hn⟩ := hn
    have back := vals_back (us := out) fun u hu => e2 u (hp.mem_iff.mp hu)
    exact ⟨.ref d, upd H d (.lst (out.map backV)), I.laid (t' := s.toks) k hd ⟨by rw [List.length_map, hp.length_eq, ← rv.length]; exact hz, out, n, back, hn⟩, rfl, q _ d (by rw [e1]; exact hp.map backV) (I.hok.fresh hd)⟩
end
end Kz

set_option exponentiation.threshold 1000
/-! _law_edges -/
namespace Kq
open PySem PySem.Spec PyProof.Rows L2 Kf Kg Kv GxR Kk
abbrev tEdges : Stmt := tp 48
theorem ixLK {X : Cx} (K : PySem.W.Frag) (h : X.K = K) : IxR X (rIxL K) := by
  subst h
  exact ix_list
abbrev eX (m : Str) : Kd := .opn m
abbrev e4 : Kd := .pair .tru .tru
abbrev eSo (n0 : Str) : Kd := .eith (.pair e4 e4) (.pair (eX n0) (eX n0))
abbrev eWo (n0 : Str) : Kd := .pair (.pair .num (eX n0)) (eSo n0)
abbrev eRo (n0 : Str) : Kd := .pair e4 (.pair (eX n0) (eSo n0))
abbrev eBi (n0 n1 : Str) : Kd := .eith (eRo n0) (eX n1)
def edges (n0 n1 n2 : Str) : List (Kd × Bool) :=
  [(eWo n0, false), (.eith (eWo n0) (eX n1), true), (.fn (eRo n0) (eX n1), false), (.fn (eBi n0 n1) (eX n1), true), (.fn .tru (.fn (eBi n0 n1) (eX n1)), true), (.fn (eX n1) (.fn (eRo n0) (eX n1)), false),
    (.fn (.pair (eX n0) (eX n0)) .tru, true), (.fn (.eith e4 e4) .tru, false), (.fn (eX n2) (.fn (eBi n0 n1) (eX n1)), false), (.fn .tru (eX n2), false), (.fn (eRo n0) (eX n2), false), (.fn (eBi n0 n1) (eX n2), false)]
theorem edge_ok {sz : List (Str × Int)} {n0 n1 n2 : Str} (h0 : look sz n0 = 3) (h1 : look sz n1 = 1) (h2 : look sz n2 = 0) : ∀ e ∈ edges n0 n1 n2, e.1.dp ≤ 8 ∧ tbk sz e.1 = true ∧ e.2 = (decide (300 < mny sz 3 e.1) || lng sz 3 e.1) := by
  intro e he
  simp only [edges, List.mem_cons, List.not_mem_nil, or_false] at he
  rcases he with rfl | rfl | rfl | rfl | rfl | rfl | rfl | rfl | rfl | rfl | rfl | rfl <;>
    (refine ⟨Nat.le_of_ble_eq_true rfl, ?_, ?_⟩ <;> (simp only [tbk, smS, sml, lng, mny, Kd.data, Kd.dp, h0, h1, h2]; rfl))
theorem oT : ∀ x ∈ Kd.tru.opens, Nm x := fun _ h => nomatch h
theorem oM : ∀ x ∈ Kd.num.opens, Nm x := fun _ h => nomatch h
theorem o1 {n : Str} (h : Nm n) : ∀ x ∈ (Kd.opn n).opens, Nm x := fun x hx => by
  rw [List.mem_singleton.mp hx]
  exact h
theorem oP {a b : Kd} (ha : ∀ x ∈ a.opens, Nm x) (hb : ∀ x ∈ b.opens, Nm x) : ∀ x ∈ (Kd.pair a b).opens, Nm x := fun x hx => (List.mem_append.mp hx).elim (ha x) (hb x)
theorem oE {a b : Kd} (ha : ∀ x ∈ a.opens, Nm x) (hb : ∀ x ∈ b.opens, Nm x) : ∀ x ∈ (Kd.eith a b).opens, Nm x := fun x hx => (List.mem_append.mp hx).elim (ha x) (hb x)
theorem oF {a b : Kd} (ha : ∀ x ∈ a.opens, Nm x) (hb : ∀ x ∈ b.opens, Nm x) : ∀ x ∈ (Kd.fn a b).opens, Nm x := fun x hx => (List.mem_append.mp hx).elim (ha x) (hb x)
theorem edge_opens {n0 n1 n2 : Str} (g0 : Nm n0) (g1 : Nm n1) (g2 : Nm n2) : ∀ e ∈ edges n0 n1 n2, ∀ x ∈ e.1.opens, Nm x := by
  intro e he
  simp only [edges, List.mem_cons, List.not_mem_nil, or_false] at he
  rcases he with rfl | rfl | rfl | rfl | rfl | rfl | rfl | rfl | rfl | rfl | rfl | rfl <;>
    repeat' (first | exact oT | exact oM | exact o1 g0 | exact o1 g1 | exact o1 g2 | refine oP ?_ ?_ | refine oE ?_ ?_ | refine oF ?_ ?_)
/-- the edges as they stand -/
def Ed (G : Hp) (es : List (Kd × Bool)) (us : List V) : Prop := Paired (fun (e : Kd × Bool) u => ∃ (a : Addr) (vk : V), u = V.ref a ∧ G a = some (.tup [vk, .bl e.2]) ∧ Rp G e.1 vk) es us
theorem Ed.tk {G F : Hp} (k : Tk G F) {es : List (Kd × Bool)} {us : List V} (h : Ed G es us) : Ed F es us := Paired.mono (fun _ _ ⟨a, vk, e, h1, h2⟩ => ⟨a, vk, e, k _ _ h1, h2.tk k⟩) h
theorem Ed.app {G : Hp} {es : List (Kd × Bool)} {us : List V} {fs : List (Kd × Bool)} {vs : List V} (h : Ed G es us) (g : Ed G fs vs) : Ed G (es ++ fs) (us ++ vs) := by
  induction h with
  | nil => exact g
  | cons r t ih => exact .cons r ih
section
variable {P : Program} {w : World} {K : PySem.W.Frag} {mg : Str → Option Value} {base : Heap}
abbrev nEdges : List Str := ["_law_opens", "_law_x", "_law_y", "_law_two", "_law_four", "_law_some", "_law_worths", "_law_rows", "_law_kinds", "_law_one"]
theorem scEdges : FnScope nEdges ["_law_opens"] (defScope tEdges) := ⟨rfl, rfl, rfl, by decide +kernel, rfl, by decide +kernel, by decide +kernel⟩
def spEdges : Sp := fun vs H Q _ => ∃ (o : Addr) (n0 n1 n2 n3 : Str), vs = [.ref o] ∧ H o = some (.lst [.str n0, .str n1, .str n2, .str n3]) ∧ ∀ (L : Addr) (us : List V) (G : Hp), Same H G → G L = some (.lst us) → Ed G (edges n0 n1 n2) us → Q (.ref L) G
theorem okEdges {f : Addr} {fd : FuncData} {k : Nat} (F : Fun K "_law_edges" "_law_edges" tEdges f fd) : FnOk P w K mg base CX0 (k + 1) f fd ["_law_opens"] spEdges := by
  refine F.ok scEdges (fun vs H Q E h => ?_) (fun cdv A outer s H vs Q E hr h => ?_)
  · obtain ⟨o, n0, n1, n2, n3, rfl, _⟩ := h
    rfl
  obtain ⟨o, n0, n1, n2, n3, rfl, ho, q⟩ := h
  refine ⟨_, (pss_cons (ps_par (i := 1) (j := 2) (by rfl) scEdges.nd rfl rfl (by decide) rfl rfl (pa_cons (pe_tup (pa_cons pe_str (pa_cons (pe_ix ix_list (pv 0) pe_int (fun _ _ => rfl)) pa_nil))) (pa_cons (pe_tup (pa_cons pe_str (pa_cons (pe_ix ix_list (pv 0) pe_int (fun _ _ => rfl)) pa_nil))) pa_nil)) (by rfl))
    (pss_cons (ps_set (i := 3) scEdges.nd rfl (.inl rfl) (pe_tup (pa_cons pe_str pa_nil)))
    (pss_cons (ps_set (i := 4) scEdges.nd rfl (.inl rfl) (pe_tup (pa_cons pe_str (pa_cons (pv 3) (pa_cons (pv 3) pa_nil)))))
    (pss_cons (ps_set (i := 5) scEdges.nd rfl (.inl rfl) (pe_tup (pa_cons pe_str (pa_cons (pe_tup (pa_cons pe_str (pa_cons (pv 4) (pa_cons (pv 4) pa_nil)))) (pa_cons (pe_tup (pa_cons pe_str (pa_cons (pv 1) (pa_cons (pv 1) pa_nil)))) pa_nil)))))
    (pss_cons (ps_set (i := 6) scEdges.nd rfl (.inl rfl) (pe_tup (pa_cons pe_str (pa_cons (pe_tup (pa_cons pe_str (pa_cons (pe_tup (pa_cons pe_str pa_nil)) (pa_cons (pv 1) pa_nil)))) (pa_cons (pv 5) pa_nil)))))
    (pss_cons (ps_set (i := 7) scEdges.nd rfl (.inl rfl) (pe_tup (pa_cons pe_str (pa_cons (pv 4) (pa_cons (pe_tup (pa_cons pe_str (pa_cons (pv 1) (pa_cons (pv 5) pa_nil)))) pa_nil)))))
    (pss_cons (ps_set (i := 8) scEdges.nd rfl (.inl rfl) (pe_lst (pa_cons (pe_tup (pa_cons (pv 6) (pa_cons pe_bl pa_nil))) (pa_cons (pe_tup (pa_cons (pe_tup (pa_cons pe_str (pa_cons (pv 6) (pa_cons (pv 2) pa_nil)))) (pa_cons pe_bl pa_nil))) (pa_cons (pe_tup (pa_cons (pe_tup (pa_cons pe_str (pa_cons (pv 7) (pa_cons (pv 2) pa_nil)))) (pa_cons pe_bl pa_nil))) pa_nil)))))
    (pss_cons (ps_expr (pe_bm PySem.F.plainAttrs_list PySem.F.slot_list_append PySem.F.type_list_append mt_append (pv 8) (pa_cons (pe_tup (pa_cons (pe_tup (pa_cons pe_str (pa_cons (pe_tup (pa_cons pe_str (pa_cons (pv 7) (pa_cons (pv 2) pa_nil)))) (pa_cons (pv 2) pa_nil)))) (pa_cons pe_bl pa_nil))) pa_nil)))
    (pss_cons (ps_set (i := 8) scEdges.nd rfl (.inl rfl) (pe_op op_cat (pv 8) (pe_lst (pa_cons (pe_tup (pa_cons (pe_tup (pa_cons pe_str (pa_cons (pv 3) (pa_cons (pe_tup (pa_cons pe_str (pa_cons (pe_tup (pa_cons pe_str (pa_cons (pv 7) (pa_cons (pv 2) pa_nil)))) (pa_cons (pv 2) pa_nil)))) pa_nil)))) (pa_cons pe_bl pa_nil))) (pa_cons (pe_tup (pa_cons (pe_tup (pa_cons pe_str (pa_cons (pv 2) (pa_cons (pe_tup (pa_cons pe_str (pa_cons (pv 7) (pa_cons (pv 2) pa_nil)))) pa_nil)))) (pa_cons pe_bl pa_nil))) pa_nil)))))
    (pss_cons (ps_set (i := 8) scEdges.nd rfl (.inl rfl) (pe_op op_cat (pv 8) (pe_lst (pa_cons (pe_tup (pa_cons (pe_tup (pa_cons pe_str (pa_cons (pe_tup (pa_cons pe_str (pa_cons (pv 1) (pa_cons (pv 1) pa_nil)))) (pa_cons (pv 3) pa_nil)))) (pa_cons pe_bl pa_nil))) (pa_cons (pe_tup (pa_cons (pe_tup (pa_cons pe_str (pa_cons (pe_tup (pa_cons pe_str (pa_cons (pv 4) (pa_cons (pv 4) pa_nil)))) (pa_cons (pv 3) pa_nil)))) (pa_cons pe_bl pa_nil))) pa_nil)))))
    (pss_cons (ps_expr (pe_bm PySem.F.plainAttrs_list PySem.F.slot_list_append PySem.F.type_list_append mt_append (pv 8) (pa_cons (pe_tup (pa_cons (pe_tup (pa_cons pe_str (pa_cons (pe_tup (pa_cons pe_str (pa_cons (pe_ix ix_list (pv 0) pe_int (fun _ _ => rfl)) pa_nil))) (pa_cons (pe_tup (pa_cons pe_str (pa_cons (pe_tup (pa_cons pe_str (pa_cons (pv 7) (pa_cons (pv 2) pa_nil)))) (pa_cons (pv 2) pa_nil)))) pa_nil)))) (pa_cons pe_bl pa_nil))) pa_nil)))
    (pss_one (ps_ret (pe_op op_cat (pv 8) (pe_lc (own := [("_law_one", 9)]) (g := gName 9) (tt := tYes) (by rfl) scEdges.nd (pi_tup (pe_tup (pa_cons (pv 3) (pa_cons (pv 7) (pa_cons (pe_tup (pa_cons pe_str (pa_cons (pv 7) (pa_cons (pv 2) pa_nil)))) pa_nil))))) (blkOk_by (own := [("_law_one", 9)]) (N := nEdges) (sc := defScope tEdges) (by decide +kernel)) (fun _ _ _ _ _ => pg_name (i := 9) scEdges.nd rfl (.inl rfl)) (fun _ _ _ _ _ => pts_nil) (fun _ _ _ _ _ => (pe_tup (pa_cons (pe_tup (pa_cons pe_str (pa_cons (pv 9) (pa_cons (pe_tup (pa_cons pe_str (pa_cons (pe_ix (ixLK K rfl) (pv 0) pe_int (fun _ _ => rfl)) pa_nil))) pa_nil)))) (pa_cons pe_bl pa_nil))))))))))))))))))), ?_⟩
  have ho0 := ho
  have sH : Same H H := Same.refl _
  refine ⟨_, rfl, o, _, _, _, rfl, rfl, SqL.of ho, rfl, (by show 2 ≤ sizeLine; decide), fun p1 fr1 => ?_⟩
  have s1 := newS (o := .tup [.str "open", .str n0]) fr1
  have ho := s1 _ _ ho
  have sH := sH.trans s1
  have g1 : (upd H p1 (.tup [.str "open", .str n0])) p1 = some (.tup [.str "open", .str n0]) := upd_same
  generalize upd H p1 (.tup [.str "open", .str n0]) = G1 at sH g1 ho ⊢
  clear s1
  have r1 : Rp G1 (.opn n0) (.ref p1) := ⟨p1, rfl, g1⟩
  refine ⟨_, rfl, o, _, _, _, rfl, rfl, SqL.of ho, rfl, (by show 2 ≤ sizeLine; decide), fun p2 fr2 => ?_⟩
  have s2 := newS (o := .tup [.str "open", .str n1]) fr2
  have r1 := r1.tk (Tk.of s2)
  have ho := s2 _ _ ho
  have sH := sH.trans s2
  have g2 : (upd G1 p2 (.tup [.str "open", .str n1])) p2 = some (.tup [.str "open", .str n1]) := upd_same
  generalize upd G1 p2 (.tup [.str "open", .str n1]) = G2 at sH g2 r1 ho ⊢
  clear s2
  have r2 : Rp G2 (.opn n1) (.ref p2) := ⟨p2, rfl, g2⟩
  refine ⟨_, _, rfl, ?_⟩
  refine ⟨(by show 1 ≤ sizeLine; decide), fun p3 fr3 => ?_⟩
  have s3 := newS (o := .tup [.str "truth"]) fr3
  have r1 := r1.tk (Tk.of s3)
  have r2 := r2.tk (Tk.of s3)
  have ho := s3 _ _ ho
  have sH := sH.trans s3
  have g3 : (upd G2 p3 (.tup [.str "truth"])) p3 = some (.tup [.str "truth"]) := upd_same
  generalize upd G2 p3 (.tup [.str "truth"]) = G3 at sH g3 r1 r2 ho ⊢
  clear s3
  have r3 : Rp G3 .tru (.ref p3) := ⟨p3, rfl, g3⟩
  refine ⟨_, rfl, _, rfl, (by show 3 ≤ sizeLine; decide), fun p4 fr4 => ?_⟩
  have s4 := newS (o := .tup [.str "pair", .ref p3, .ref p3]) fr4
  have r1 := r1.tk (Tk.of s4)
  have r2 := r2.tk (Tk.of s4)
  have r3 := r3.tk (Tk.of s4)
  have ho := s4 _ _ ho
  have sH := sH.trans s4
  have g4 : (upd G3 p4 (.tup [.str "pair", .ref p3, .ref p3])) p4 = some (.tup [.str "pair", .ref p3, .ref p3]) := upd_same
  generalize upd G3 p4 (.tup [.str "pair", .ref p3, .ref p3]) = G4 at sH g4 r1 r2 r3 ho ⊢
  clear s4
  have r4 : Rp G4 (.pair .tru .tru) (.ref p4) := ⟨p4, _, _, rfl, g4, r3, r3⟩
  refine ⟨_, rfl, _, rfl, (by show 3 ≤ sizeLine; decide), fun p5 fr5 => ?_⟩
  have s5 := newS (o := .tup [.str "pair", .ref p4, .ref p4]) fr5
  have r1 := r1.tk (Tk.of s5)
  have r2 := r2.tk (Tk.of s5)
  have r3 := r3.tk (Tk.of s5)
  have r4 := r4.tk (Tk.of s5)
  have ho := s5 _ _ ho
  have sH := sH.trans s5
  have g5 : (upd G4 p5 (.tup [.str "pair", .ref p4, .ref p4])) p5 = some (.tup [.str "pair", .ref p4, .ref p4]) := upd_same
  generalize upd G4 p5 (.tup [.str "pair", .ref p4, .ref p4]) = G5 at sH g5 r1 r2 r3 r4 ho ⊢
  clear s5
  have r5 : Rp G5 (.pair (.pair .tru .tru) (.pair .tru .tru)) (.ref p5) := ⟨p5, _, _, rfl, g5, r4, r4⟩
  refine ⟨_, rfl, _, rfl, (by show 3 ≤ sizeLine; decide), fun p6 fr6 => ?_⟩
  have s6 := newS (o := .tup [.str "pair", .ref p1, .ref p1]) fr6
  have r1 := r1.tk (Tk.of s6)
  have r2 := r2.tk (Tk.of s6)
  have r3 := r3.tk (Tk.of s6)
  have r4 := r4.tk (Tk.of s6)
  have r5 := r5.tk (Tk.of s6)
  have ho := s6 _ _ ho
  have sH := sH.trans s6
  have g6 : (upd G5 p6 (.tup [.str "pair", .ref p1, .ref p1])) p6 = some (.tup [.str "pair", .ref p1, .ref p1]) := upd_same
  generalize upd G5 p6 (.tup [.str "pair", .ref p1, .ref p1]) = G6 at sH g6 r1 r2 r3 r4 r5 ho ⊢
  clear s6
  have r6 : Rp G6 (.pair (.opn n0) (.opn n0)) (.ref p6) := ⟨p6, _, _, rfl, g6, r1, r1⟩
  refine ⟨(by show 3 ≤ sizeLine; decide), fun p7 fr7 => ?_⟩
  have s7 := newS (o := .tup [.str "either", .ref p5, .ref p6]) fr7
  have r1 := r1.tk (Tk.of s7)
  have r2 := r2.tk (Tk.of s7)
  have r3 := r3.tk (Tk.of s7)
  have r4 := r4.tk (Tk.of s7)
  have r5 := r5.tk (Tk.of s7)
  have r6 := r6.tk (Tk.of s7)
  have ho := s7 _ _ ho
  have sH := sH.trans s7
  have g7 : (upd G6 p7 (.tup [.str "either", .ref p5, .ref p6])) p7 = some (.tup [.str "either", .ref p5, .ref p6]) := upd_same
  generalize upd G6 p7 (.tup [.str "either", .ref p5, .ref p6]) = G7 at sH g7 r1 r2 r3 r4 r5 r6 ho ⊢
  clear s7
  have r7 : Rp G7 (.eith (.pair (.pair .tru .tru) (.pair .tru .tru)) (.pair (.opn n0) (.opn n0))) (.ref p7) := ⟨p7, _, _, rfl, g7, r5, r6⟩
  refine ⟨(by show 1 ≤ sizeLine; decide), fun p8 fr8 => ?_⟩
  have s8 := newS (o := .tup [.str "num"]) fr8
  have r1 := r1.tk (Tk.of s8)
  have r2 := r2.tk (Tk.of s8)
  have r3 := r3.tk (Tk.of s8)
  have r4 := r4.tk (Tk.of s8)
  have r7 := r7.tk (Tk.of s8)
  have ho := s8 _ _ ho
  have sH := sH.trans s8
  have g8 : (upd G7 p8 (.tup [.str "num"])) p8 = some (.tup [.str "num"]) := upd_same
  generalize upd G7 p8 (.tup [.str "num"]) = G8 at sH g8 r1 r2 r3 r4 r7 ho ⊢
  clear s8
  have r8 : Rp G8 .num (.ref p8) := ⟨p8, rfl, g8⟩
  refine ⟨_, rfl, (by show 3 ≤ sizeLine; decide), fun p9 fr9 => ?_⟩
  have s9 := newS (o := .tup [.str "pair", .ref p8, .ref p1]) fr9
  have r1 := r1.tk (Tk.of s9)
  have r2 := r2.tk (Tk.of s9)
  have r3 := r3.tk (Tk.of s9)
  have r4 := r4.tk (Tk.of s9)
  have r7 := r7.tk (Tk.of s9)
  have r8 := r8.tk (Tk.of s9)
  have ho := s9 _ _ ho
  have sH := sH.trans s9
  have g9 : (upd G8 p9 (.tup [.str "pair", .ref p8, .ref p1])) p9 = some (.tup [.str "pair", .ref p8, .ref p1]) := upd_same
  generalize upd G8 p9 (.tup [.str "pair", .ref p8, .ref p1]) = G9 at sH g9 r1 r2 r3 r4 r7 r8 ho ⊢
  clear s9
  have r9 : Rp G9 (.pair .num (.opn n0)) (.ref p9) := ⟨p9, _, _, rfl, g9, r8, r1⟩
  refine ⟨_, rfl, (by show 3 ≤ sizeLine; decide), fun p10 fr10 => ?_⟩
  have s10 := newS (o := .tup [.str "pair", .ref p9, .ref p7]) fr10
  have r1 := r1.tk (Tk.of s10)
  have r2 := r2.tk (Tk.of s10)
  have r3 := r3.tk (Tk.of s10)
  have r4 := r4.tk (Tk.of s10)
  have r7 := r7.tk (Tk.of s10)
  have r8 := r8.tk (Tk.of s10)
  have r9 := r9.tk (Tk.of s10)
  have ho := s10 _ _ ho
  have sH := sH.trans s10
  have g10 : (upd G9 p10 (.tup [.str "pair", .ref p9, .ref p7])) p10 = some (.tup [.str "pair", .ref p9, .ref p7]) := upd_same
  generalize upd G9 p10 (.tup [.str "pair", .ref p9, .ref p7]) = G10 at sH g10 r1 r2 r3 r4 r7 r8 r9 ho ⊢
  clear s10
  have r10 : Rp G10 (.pair (.pair .num (.opn n0)) (.eith (.pair (.pair .tru .tru) (.pair .tru .tru)) (.pair (.opn n0) (.opn n0)))) (.ref p10) := ⟨p10, _, _, rfl, g10, r9, r7⟩
  refine ⟨_, rfl, _, rfl, _, rfl, (by show 3 ≤ sizeLine; decide), fun p11 fr11 => ?_⟩
  have s11 := newS (o := .tup [.str "pair", .ref p1, .ref p7]) fr11
  have r1 := r1.tk (Tk.of s11)
  have r2 := r2.tk (Tk.of s11)
  have r3 := r3.tk (Tk.of s11)
  have r4 := r4.tk (Tk.of s11)
  have r7 := r7.tk (Tk.of s11)
  have r10 := r10.tk (Tk.of s11)
  have ho := s11 _ _ ho
  have sH := sH.trans s11
  have g11 : (upd G10 p11 (.tup [.str "pair", .ref p1, .ref p7])) p11 = some (.tup [.str "pair", .ref p1, .ref p7]) := upd_same
  generalize upd G10 p11 (.tup [.str "pair", .ref p1, .ref p7]) = G11 at sH g11 r1 r2 r3 r4 r7 r10 ho ⊢
  clear s11
  have r11 : Rp G11 (.pair (.opn n0) (.eith (.pair (.pair .tru .tru) (.pair .tru .tru)) (.pair (.opn n0) (.opn n0)))) (.ref p11) := ⟨p11, _, _, rfl, g11, r1, r7⟩
  refine ⟨(by show 3 ≤ sizeLine; decide), fun p12 fr12 => ?_⟩
  have s12 := newS (o := .tup [.str "pair", .ref p4, .ref p11]) fr12
  have r1 := r1.tk (Tk.of s12)
  have r2 := r2.tk (Tk.of s12)
  have r3 := r3.tk (Tk.of s12)
  have r4 := r4.tk (Tk.of s12)
  have r7 := r7.tk (Tk.of s12)
  have r10 := r10.tk (Tk.of s12)
  have r11 := r11.tk (Tk.of s12)
  have ho := s12 _ _ ho
  have sH := sH.trans s12
  have g12 : (upd G11 p12 (.tup [.str "pair", .ref p4, .ref p11])) p12 = some (.tup [.str "pair", .ref p4, .ref p11]) := upd_same
  generalize upd G11 p12 (.tup [.str "pair", .ref p4, .ref p11]) = G12 at sH g12 r1 r2 r3 r4 r7 r10 r11 ho ⊢
  clear s12
  have r12 : Rp G12 (.pair (.pair .tru .tru) (.pair (.opn n0) (.eith (.pair (.pair .tru .tru) (.pair .tru .tru)) (.pair (.opn n0) (.opn n0))))) (.ref p12) := ⟨p12, _, _, rfl, g12, r4, r11⟩
  refine ⟨_, rfl, (by show 2 ≤ sizeLine; decide), fun p13 fr13 => ?_⟩
  have s13 := newS (o := .tup [.ref p10, .bl false]) fr13
  have r1 := r1.tk (Tk.of s13)
  have r2 := r2.tk (Tk.of s13)
  have r3 := r3.tk (Tk.of s13)
  have r4 := r4.tk (Tk.of s13)
  have r7 := r7.tk (Tk.of s13)
  have r10 := r10.tk (Tk.of s13)
  have r12 := r12.tk (Tk.of s13)
  have ho := s13 _ _ ho
  have sH := sH.trans s13
  have g13 : (upd G12 p13 (.tup [.ref p10, .bl false])) p13 = some (.tup [.ref p10, .bl false]) := upd_same
  generalize upd G12 p13 (.tup [.ref p10, .bl false]) = G13 at sH g13 r1 r2 r3 r4 r7 r10 r12 ho ⊢
  clear s13
  refine ⟨_, rfl, _, rfl, (by show 3 ≤ sizeLine; decide), fun p14 fr14 => ?_⟩
  have s14 := newS (o := .tup [.str "either", .ref p10, .ref p2]) fr14
  have r1 := r1.tk (Tk.of s14)
  have r2 := r2.tk (Tk.of s14)
  have r3 := r3.tk (Tk.of s14)
  have r4 := r4.tk (Tk.of s14)
  have r7 := r7.tk (Tk.of s14)
  have r10 := r10.tk (Tk.of s14)
  have r12 := r12.tk (Tk.of s14)
  have g13 := s14 _ _ g13
  have ho := s14 _ _ ho
  have sH := sH.trans s14
  have g14 : (upd G13 p14 (.tup [.str "either", .ref p10, .ref p2])) p14 = some (.tup [.str "either", .ref p10, .ref p2]) := upd_same
  generalize upd G13 p14 (.tup [.str "either", .ref p10, .ref p2]) = G14 at sH g14 r1 r2 r3 r4 r7 r10 r12 g13 ho ⊢
  clear s14
  have r14 : Rp G14 (.eith (.pair (.pair .num (.opn n0)) (.eith (.pair (.pair .tru .tru) (.pair .tru .tru)) (.pair (.opn n0) (.opn n0)))) (.opn n1)) (.ref p14) := ⟨p14, _, _, rfl, g14, r10, r2⟩
  refine ⟨(by show 2 ≤ sizeLine; decide), fun p15 fr15 => ?_⟩
  have s15 := newS (o := .tup [.ref p14, .bl true]) fr15
  have r1 := r1.tk (Tk.of s15)
  have r2 := r2.tk (Tk.of s15)
  have r3 := r3.tk (Tk.of s15)
  have r4 := r4.tk (Tk.of s15)
  have r7 := r7.tk (Tk.of s15)
  have r10 := r10.tk (Tk.of s15)
  have r12 := r12.tk (Tk.of s15)
  have r14 := r14.tk (Tk.of s15)
  have g13 := s15 _ _ g13
  have ho := s15 _ _ ho
  have sH := sH.trans s15
  have g15 : (upd G14 p15 (.tup [.ref p14, .bl true])) p15 = some (.tup [.ref p14, .bl true]) := upd_same
  generalize upd G14 p15 (.tup [.ref p14, .bl true]) = G15 at sH g15 r1 r2 r3 r4 r7 r10 r12 r14 g13 ho ⊢
  clear s15
  refine ⟨_, rfl, _, rfl, (by show 3 ≤ sizeLine; decide), fun p16 fr16 => ?_⟩
  have s16 := newS (o := .tup [.str "fun", .ref p12, .ref p2]) fr16
  have r1 := r1.tk (Tk.of s16)
  have r2 := r2.tk (Tk.of s16)
  have r3 := r3.tk (Tk.of s16)
  have r4 := r4.tk (Tk.of s16)
  have r7 := r7.tk (Tk.of s16)
  have r10 := r10.tk (Tk.of s16)
  have r12 := r12.tk (Tk.of s16)
  have r14 := r14.tk (Tk.of s16)
  have g13 := s16 _ _ g13
  have g15 := s16 _ _ g15
  have ho := s16 _ _ ho
  have sH := sH.trans s16
  have g16 : (upd G15 p16 (.tup [.str "fun", .ref p12, .ref p2])) p16 = some (.tup [.str "fun", .ref p12, .ref p2]) := upd_same
  generalize upd G15 p16 (.tup [.str "fun", .ref p12, .ref p2]) = G16 at sH g16 r1 r2 r3 r4 r7 r10 r12 r14 g13 g15 ho ⊢
  clear s16
  have r16 : Rp G16 (.fn (.pair (.pair .tru .tru) (.pair (.opn n0) (.eith (.pair (.pair .tru .tru) (.pair .tru .tru)) (.pair (.opn n0) (.opn n0))))) (.opn n1)) (.ref p16) := ⟨p16, _, _, rfl, g16, r12, r2⟩
  refine ⟨(by show 2 ≤ sizeLine; decide), fun p17 fr17 => ?_⟩
  have s17 := newS (o := .tup [.ref p16, .bl false]) fr17
  have r1 := r1.tk (Tk.of s17)
  have r2 := r2.tk (Tk.of s17)
  have r3 := r3.tk (Tk.of s17)
  have r4 := r4.tk (Tk.of s17)
  have r7 := r7.tk (Tk.of s17)
  have r10 := r10.tk (Tk.of s17)
  have r12 := r12.tk (Tk.of s17)
  have r14 := r14.tk (Tk.of s17)
  have r16 := r16.tk (Tk.of s17)
  have g13 := s17 _ _ g13
  have g15 := s17 _ _ g15
  have ho := s17 _ _ ho
  have sH := sH.trans s17
  have g17 : (upd G16 p17 (.tup [.ref p16, .bl false])) p17 = some (.tup [.ref p16, .bl false]) := upd_same
  generalize upd G16 p17 (.tup [.ref p16, .bl false]) = G17 at sH g17 r1 r2 r3 r4 r7 r10 r12 r14 r16 g13 g15 ho ⊢
  clear s17
  refine ⟨(by show 3 ≤ sizeLine; decide), fun p18 fr18 => ?_⟩
  have s18 := newS (o := .lst [.ref p13, .ref p15, .ref p17]) fr18
  have z18 : H p18 = none := sH.free fr18
  have r1 := r1.tk (Tk.of s18)
  have r2 := r2.tk (Tk.of s18)
  have r3 := r3.tk (Tk.of s18)
  have r4 := r4.tk (Tk.of s18)
  have r7 := r7.tk (Tk.of s18)
  have r10 := r10.tk (Tk.of s18)
  have r12 := r12.tk (Tk.of s18)
  have r14 := r14.tk (Tk.of s18)
  have r16 := r16.tk (Tk.of s18)
  have g13 := s18 _ _ g13
  have g15 := s18 _ _ g15
  have g17 := s18 _ _ g17
  have ho := s18 _ _ ho
  have sH := sH.trans s18
  have g18 : (upd G17 p18 (.lst [.ref p13, .ref p15, .ref p17])) p18 = some (.lst [.ref p13, .ref p15, .ref p17]) := upd_same
  generalize upd G17 p18 (.lst [.ref p13, .ref p15, .ref p17]) = G18 at sH g18 r1 r2 r3 r4 r7 r10 r12 r14 r16 g13 g15 g17 ho ⊢
  clear s18
  have e18 : Ed G18 [((.pair (.pair .num (.opn n0)) (.eith (.pair (.pair .tru .tru) (.pair .tru .tru)) (.pair (.opn n0) (.opn n0)))), false), ((.eith (.pair (.pair .num (.opn n0)) (.eith (.pair (.pair .tru .tru) (.pair .tru .tru)) (.pair (.opn n0) (.opn n0)))) (.opn n1)), true), ((.fn (.pair (.pair .tru .tru) (.pair (.opn n0) (.eith (.pair (.pair .tru .tru) (.pair .tru .tru)) (.pair (.opn n0) (.opn n0))))) (.opn n1)), false)] [.ref p13, .ref p15, .ref p17] := (.cons ⟨_, _, rfl, g13, r10⟩ (.cons ⟨_, _, rfl, g15, r14⟩ (.cons ⟨_, _, rfl, g17, r16⟩ .nil)))
  refine ⟨_, rfl, .inl ⟨rfl, _, SqL.of g18⟩, _, rfl, _, rfl, (by show 3 ≤ sizeLine; decide), fun p19 fr19 => ?_⟩
  have s19 := newS (o := .tup [.str "either", .ref p12, .ref p2]) fr19
  have r1 := r1.tk (Tk.of s19)
  have r2 := r2.tk (Tk.of s19)
  have r3 := r3.tk (Tk.of s19)
  have r4 := r4.tk (Tk.of s19)
  have r7 := r7.tk (Tk.of s19)
  have r10 := r10.tk (Tk.of s19)
  have r12 := r12.tk (Tk.of s19)
  have ho := s19 _ _ ho
  have g18 := s19 _ _ g18
  have e18 := e18.tk (Tk.of s19)
  have sH := sH.trans s19
  have g19 : (upd G18 p19 (.tup [.str "either", .ref p12, .ref p2])) p19 = some (.tup [.str "either", .ref p12, .ref p2]) := upd_same
  generalize upd G18 p19 (.tup [.str "either", .ref p12, .ref p2]) = G19 at sH g19 r1 r2 r3 r4 r7 r10 r12 ho g18 e18 ⊢
  clear s19
  have r19 : Rp G19 (.eith (.pair (.pair .tru .tru) (.pair (.opn n0) (.eith (.pair (.pair .tru .tru) (.pair .tru .tru)) (.pair (.opn n0) (.opn n0))))) (.opn n1)) (.ref p19) := ⟨p19, _, _, rfl, g19, r12, r2⟩
  refine ⟨_, rfl, (by show 3 ≤ sizeLine; decide), fun p20 fr20 => ?_⟩
  have s20 := newS (o := .tup [.str "fun", .ref p19, .ref p2]) fr20
  have r1 := r1.tk (Tk.of s20)
  have r2 := r2.tk (Tk.of s20)
  have r3 := r3.tk (Tk.of s20)
  have r4 := r4.tk (Tk.of s20)
  have r7 := r7.tk (Tk.of s20)
  have r10 := r10.tk (Tk.of s20)
  have r12 := r12.tk (Tk.of s20)
  have r19 := r19.tk (Tk.of s20)
  have ho := s20 _ _ ho
  have g18 := s20 _ _ g18
  have e18 := e18.tk (Tk.of s20)
  have sH := sH.trans s20
  have g20 : (upd G19 p20 (.tup [.str "fun", .ref p19, .ref p2])) p20 = some (.tup [.str "fun", .ref p19, .ref p2]) := upd_same
  generalize upd G19 p20 (.tup [.str "fun", .ref p19, .ref p2]) = G20 at sH g20 r1 r2 r3 r4 r7 r10 r12 r19 ho g18 e18 ⊢
  clear s20
  have r20 : Rp G20 (.fn (.eith (.pair (.pair .tru .tru) (.pair (.opn n0) (.eith (.pair (.pair .tru .tru) (.pair .tru .tru)) (.pair (.opn n0) (.opn n0))))) (.opn n1)) (.opn n1)) (.ref p20) := ⟨p20, _, _, rfl, g20, r19, r2⟩
  refine ⟨(by show 2 ≤ sizeLine; decide), fun p21 fr21 => ?_⟩
  have s21 := newS (o := .tup [.ref p20, .bl true]) fr21
  have r1 := r1.tk (Tk.of s21)
  have r2 := r2.tk (Tk.of s21)
  have r3 := r3.tk (Tk.of s21)
  have r4 := r4.tk (Tk.of s21)
  have r7 := r7.tk (Tk.of s21)
  have r10 := r10.tk (Tk.of s21)
  have r12 := r12.tk (Tk.of s21)
  have r19 := r19.tk (Tk.of s21)
  have r20 := r20.tk (Tk.of s21)
  have ho := s21 _ _ ho
  have g18 := s21 _ _ g18
  have e18 := e18.tk (Tk.of s21)
  have sH := sH.trans s21
  have g21 : (upd G20 p21 (.tup [.ref p20, .bl true])) p21 = some (.tup [.ref p20, .bl true]) := upd_same
  generalize upd G20 p21 (.tup [.ref p20, .bl true]) = G21 at sH g21 r1 r2 r3 r4 r7 r10 r12 r19 r20 ho g18 e18 ⊢
  clear s21
  refine ⟨p18, _, _, rfl, rfl, g18, (small6' (Nat.lt_of_lt_of_le (Nat.lt_succ_self _) (Nat.le_of_ble_eq_true rfl))), ?_⟩
  have d22 : Ed G21 ([((.pair (.pair .num (.opn n0)) (.eith (.pair (.pair .tru .tru) (.pair .tru .tru)) (.pair (.opn n0) (.opn n0)))), false), ((.eith (.pair (.pair .num (.opn n0)) (.eith (.pair (.pair .tru .tru) (.pair .tru .tru)) (.pair (.opn n0) (.opn n0)))) (.opn n1)), true), ((.fn (.pair (.pair .tru .tru) (.pair (.opn n0) (.eith (.pair (.pair .tru .tru) (.pair .tru .tru)) (.pair (.opn n0) (.opn n0))))) (.opn n1)), false)] ++ [((.fn (.eith (.pair (.pair .tru .tru) (.pair (.opn n0) (.eith (.pair (.pair .tru .tru) (.pair .tru .tru)) (.pair (.opn n0) (.opn n0))))) (.opn n1)) (.opn n1)), true)]) ([.ref p13, .ref p15, .ref p17] ++ [.ref p21]) := e18.app (.cons ⟨_, _, rfl, g21, r20⟩ .nil)
  have t22 : Tk G21 (upd G21 p18 (.lst ([.ref p13, .ref p15, .ref p17] ++ [.ref p21]))) := Tk.rfl.put (fun _ z => by rw [g18] at z; cases z)
  have r1 := r1.tk t22
  have r2 := r2.tk t22
  have r3 := r3.tk t22
  have r4 := r4.tk t22
  have r7 := r7.tk t22
  have r10 := r10.tk t22
  have r12 := r12.tk t22
  have d22 := d22.tk t22
  have ho := (show (upd G21 p18 (.lst ([.ref p13, .ref p15, .ref p17] ++ [.ref p21]))) o = some (.lst [.str n0, .str n1, .str n2, .str n3]) from by rw [upd_ne (fun z => by rw [← z, ho0] at z18; cases z18)]; exact ho)
  have sH := smk (o := .lst ([.ref p13, .ref p15, .ref p17] ++ [.ref p21])) sH z18
  have h22 : (upd G21 p18 (.lst ([.ref p13, .ref p15, .ref p17] ++ [.ref p21]))) p18 = some (.lst ([.ref p13, .ref p15, .ref p17] ++ [.ref p21])) := upd_same
  generalize upd G21 p18 (.lst ([.ref p13, .ref p15, .ref p17] ++ [.ref p21])) = G22 at sH h22 d22 ho r1 r2 r3 r4 r7 r10 r12 ⊢
  refine ⟨_, rfl, _, rfl, _, rfl, _, rfl, (by show 3 ≤ sizeLine; decide), fun p23 fr23 => ?_⟩
  have s23 := newS (o := .tup [.str "either", .ref p12, .ref p2]) fr23
  have r1 := r1.tk (Tk.of s23)
  have r2 := r2.tk (Tk.of s23)
  have r3 := r3.tk (Tk.of s23)
  have r4 := r4.tk (Tk.of s23)
  have r7 := r7.tk (Tk.of s23)
  have r10 := r10.tk (Tk.of s23)
  have r12 := r12.tk (Tk.of s23)
  have ho := s23 _ _ ho
  have h22 := s23 _ _ h22
  have d22 := d22.tk (Tk.of s23)
  have sH := sH.trans s23
  have g23 : (upd G22 p23 (.tup [.str "either", .ref p12, .ref p2])) p23 = some (.tup [.str "either", .ref p12, .ref p2]) := upd_same
  generalize upd G22 p23 (.tup [.str "either", .ref p12, .ref p2]) = G23 at sH g23 r1 r2 r3 r4 r7 r10 r12 ho h22 d22 ⊢
  clear s23
  have r23 : Rp G23 (.eith (.pair (.pair .tru .tru) (.pair (.opn n0) (.eith (.pair (.pair .tru .tru) (.pair .tru .tru)) (.pair (.opn n0) (.opn n0))))) (.opn n1)) (.ref p23) := ⟨p23, _, _, rfl, g23, r12, r2⟩
  refine ⟨_, rfl, (by show 3 ≤ sizeLine; decide), fun p24 fr24 => ?_⟩
  have s24 := newS (o := .tup [.str "fun", .ref p23, .ref p2]) fr24
  have r1 := r1.tk (Tk.of s24)
  have r2 := r2.tk (Tk.of s24)
  have r3 := r3.tk (Tk.of s24)
  have r4 := r4.tk (Tk.of s24)
  have r7 := r7.tk (Tk.of s24)
  have r10 := r10.tk (Tk.of s24)
  have r12 := r12.tk (Tk.of s24)
  have r23 := r23.tk (Tk.of s24)
  have ho := s24 _ _ ho
  have h22 := s24 _ _ h22
  have d22 := d22.tk (Tk.of s24)
  have sH := sH.trans s24
  have g24 : (upd G23 p24 (.tup [.str "fun", .ref p23, .ref p2])) p24 = some (.tup [.str "fun", .ref p23, .ref p2]) := upd_same
  generalize upd G23 p24 (.tup [.str "fun", .ref p23, .ref p2]) = G24 at sH g24 r1 r2 r3 r4 r7 r10 r12 r23 ho h22 d22 ⊢
  clear s24
  have r24 : Rp G24 (.fn (.eith (.pair (.pair .tru .tru) (.pair (.opn n0) (.eith (.pair (.pair .tru .tru) (.pair .tru .tru)) (.pair (.opn n0) (.opn n0))))) (.opn n1)) (.opn n1)) (.ref p24) := ⟨p24, _, _, rfl, g24, r23, r2⟩
  refine ⟨(by show 3 ≤ sizeLine; decide), fun p25 fr25 => ?_⟩
  have s25 := newS (o := .tup [.str "fun", .ref p3, .ref p24]) fr25
  have r1 := r1.tk (Tk.of s25)
  have r2 := r2.tk (Tk.of s25)
  have r3 := r3.tk (Tk.of s25)
  have r4 := r4.tk (Tk.of s25)
  have r7 := r7.tk (Tk.of s25)
  have r10 := r10.tk (Tk.of s25)
  have r12 := r12.tk (Tk.of s25)
  have r23 := r23.tk (Tk.of s25)
  have r24 := r24.tk (Tk.of s25)
  have ho := s25 _ _ ho
  have h22 := s25 _ _ h22
  have d22 := d22.tk (Tk.of s25)
  have sH := sH.trans s25
  have g25 : (upd G24 p25 (.tup [.str "fun", .ref p3, .ref p24])) p25 = some (.tup [.str "fun", .ref p3, .ref p24]) := upd_same
  generalize upd G24 p25 (.tup [.str "fun", .ref p3, .ref p24]) = G25 at sH g25 r1 r2 r3 r4 r7 r10 r12 r23 r24 ho h22 d22 ⊢
  clear s25
  have r25 : Rp G25 (.fn .tru (.fn (.eith (.pair (.pair .tru .tru) (.pair (.opn n0) (.eith (.pair (.pair .tru .tru) (.pair .tru .tru)) (.pair (.opn n0) (.opn n0))))) (.opn n1)) (.opn n1))) (.ref p25) := ⟨p25, _, _, rfl, g25, r3, r24⟩
  refine ⟨(by show 2 ≤ sizeLine; decide), fun p26 fr26 => ?_⟩
  have s26 := newS (o := .tup [.ref p25, .bl true]) fr26
  have r1 := r1.tk (Tk.of s26)
  have r2 := r2.tk (Tk.of s26)
  have r3 := r3.tk (Tk.of s26)
  have r4 := r4.tk (Tk.of s26)
  have r7 := r7.tk (Tk.of s26)
  have r10 := r10.tk (Tk.of s26)
  have r12 := r12.tk (Tk.of s26)
  have r23 := r23.tk (Tk.of s26)
  have r24 := r24.tk (Tk.of s26)
  have r25 := r25.tk (Tk.of s26)
  have ho := s26 _ _ ho
  have h22 := s26 _ _ h22
  have d22 := d22.tk (Tk.of s26)
  have sH := sH.trans s26
  have g26 : (upd G25 p26 (.tup [.ref p25, .bl true])) p26 = some (.tup [.ref p25, .bl true]) := upd_same
  generalize upd G25 p26 (.tup [.ref p25, .bl true]) = G26 at sH g26 r1 r2 r3 r4 r7 r10 r12 r23 r24 r25 ho h22 d22 ⊢
  clear s26
  refine ⟨_, rfl, _, rfl, _, rfl, (by show 3 ≤ sizeLine; decide), fun p27 fr27 => ?_⟩
  have s27 := newS (o := .tup [.str "fun", .ref p12, .ref p2]) fr27
  have r1 := r1.tk (Tk.of s27)
  have r2 := r2.tk (Tk.of s27)
  have r3 := r3.tk (Tk.of s27)
  have r4 := r4.tk (Tk.of s27)
  have r7 := r7.tk (Tk.of s27)
  have r10 := r10.tk (Tk.of s27)
  have r12 := r12.tk (Tk.of s27)
  have r23 := r23.tk (Tk.of s27)
  have r24 := r24.tk (Tk.of s27)
  have r25 := r25.tk (Tk.of s27)
  have g26 := s27 _ _ g26
  have ho := s27 _ _ ho
  have h22 := s27 _ _ h22
  have d22 := d22.tk (Tk.of s27)
  have sH := sH.trans s27
  have g27 : (upd G26 p27 (.tup [.str "fun", .ref p12, .ref p2])) p27 = some (.tup [.str "fun", .ref p12, .ref p2]) := upd_same
  generalize upd G26 p27 (.tup [.str "fun", .ref p12, .ref p2]) = G27 at sH g27 r1 r2 r3 r4 r7 r10 r12 r23 r24 r25 g26 ho h22 d22 ⊢
  clear s27
  have r27 : Rp G27 (.fn (.pair (.pair .tru .tru) (.pair (.opn n0) (.eith (.pair (.pair .tru .tru) (.pair .tru .tru)) (.pair (.opn n0) (.opn n0))))) (.opn n1)) (.ref p27) := ⟨p27, _, _, rfl, g27, r12, r2⟩
  refine ⟨(by show 3 ≤ sizeLine; decide), fun p28 fr28 => ?_⟩
  have s28 := newS (o := .tup [.str "fun", .ref p2, .ref p27]) fr28
  have r1 := r1.tk (Tk.of s28)
  have r2 := r2.tk (Tk.of s28)
  have r3 := r3.tk (Tk.of s28)
  have r4 := r4.tk (Tk.of s28)
  have r7 := r7.tk (Tk.of s28)
  have r10 := r10.tk (Tk.of s28)
  have r12 := r12.tk (Tk.of s28)
  have r23 := r23.tk (Tk.of s28)
  have r24 := r24.tk (Tk.of s28)
  have r25 := r25.tk (Tk.of s28)
  have r27 := r27.tk (Tk.of s28)
  have g26 := s28 _ _ g26
  have ho := s28 _ _ ho
  have h22 := s28 _ _ h22
  have d22 := d22.tk (Tk.of s28)
  have sH := sH.trans s28
  have g28 : (upd G27 p28 (.tup [.str "fun", .ref p2, .ref p27])) p28 = some (.tup [.str "fun", .ref p2, .ref p27]) := upd_same
  generalize upd G27 p28 (.tup [.str "fun", .ref p2, .ref p27]) = G28 at sH g28 r1 r2 r3 r4 r7 r10 r12 r23 r24 r25 r27 g26 ho h22 d22 ⊢
  clear s28
  have r28 : Rp G28 (.fn (.opn n1) (.fn (.pair (.pair .tru .tru) (.pair (.opn n0) (.eith (.pair (.pair .tru .tru) (.pair .tru .tru)) (.pair (.opn n0) (.opn n0))))) (.opn n1))) (.ref p28) := ⟨p28, _, _, rfl, g28, r2, r27⟩
  refine ⟨(by show 2 ≤ sizeLine; decide), fun p29 fr29 => ?_⟩
  have s29 := newS (o := .tup [.ref p28, .bl false]) fr29
  have r1 := r1.tk (Tk.of s29)
  have r2 := r2.tk (Tk.of s29)
  have r3 := r3.tk (Tk.of s29)
  have r4 := r4.tk (Tk.of s29)
  have r7 := r7.tk (Tk.of s29)
  have r10 := r10.tk (Tk.of s29)
  have r12 := r12.tk (Tk.of s29)
  have r23 := r23.tk (Tk.of s29)
  have r24 := r24.tk (Tk.of s29)
  have r25 := r25.tk (Tk.of s29)
  have r27 := r27.tk (Tk.of s29)
  have r28 := r28.tk (Tk.of s29)
  have g26 := s29 _ _ g26
  have ho := s29 _ _ ho
  have h22 := s29 _ _ h22
  have d22 := d22.tk (Tk.of s29)
  have sH := sH.trans s29
  have g29 : (upd G28 p29 (.tup [.ref p28, .bl false])) p29 = some (.tup [.ref p28, .bl false]) := upd_same
  generalize upd G28 p29 (.tup [.ref p28, .bl false]) = G29 at sH g29 r1 r2 r3 r4 r7 r10 r12 r23 r24 r25 r27 r28 g26 ho h22 d22 ⊢
  clear s29
  refine ⟨(by show 2 ≤ sizeLine; decide), fun p30 fr30 => ?_⟩
  have s30 := newS (o := .lst [.ref p26, .ref p29]) fr30
  have z30 : H p30 = none := sH.free fr30
  have r1 := r1.tk (Tk.of s30)
  have r2 := r2.tk (Tk.of s30)
  have r3 := r3.tk (Tk.of s30)
  have r4 := r4.tk (Tk.of s30)
  have r7 := r7.tk (Tk.of s30)
  have r10 := r10.tk (Tk.of s30)
  have r12 := r12.tk (Tk.of s30)
  have r23 := r23.tk (Tk.of s30)
  have r24 := r24.tk (Tk.of s30)
  have r25 := r25.tk (Tk.of s30)
  have r27 := r27.tk (Tk.of s30)
  have r28 := r28.tk (Tk.of s30)
  have g26 := s30 _ _ g26
  have g29 := s30 _ _ g29
  have ho := s30 _ _ ho
  have h22 := s30 _ _ h22
  have d22 := d22.tk (Tk.of s30)
  have sH := sH.trans s30
  have g30 : (upd G29 p30 (.lst [.ref p26, .ref p29])) p30 = some (.lst [.ref p26, .ref p29]) := upd_same
  generalize upd G29 p30 (.lst [.ref p26, .ref p29]) = G30 at sH g30 r1 r2 r3 r4 r7 r10 r12 r23 r24 r25 r27 r28 g26 g29 ho h22 d22 ⊢
  clear s30
  have d31 : Ed G30 (([((.pair (.pair .num (.opn n0)) (.eith (.pair (.pair .tru .tru) (.pair .tru .tru)) (.pair (.opn n0) (.opn n0)))), false), ((.eith (.pair (.pair .num (.opn n0)) (.eith (.pair (.pair .tru .tru) (.pair .tru .tru)) (.pair (.opn n0) (.opn n0)))) (.opn n1)), true), ((.fn (.pair (.pair .tru .tru) (.pair (.opn n0) (.eith (.pair (.pair .tru .tru) (.pair .tru .tru)) (.pair (.opn n0) (.opn n0))))) (.opn n1)), false)] ++ [((.fn (.eith (.pair (.pair .tru .tru) (.pair (.opn n0) (.eith (.pair (.pair .tru .tru) (.pair .tru .tru)) (.pair (.opn n0) (.opn n0))))) (.opn n1)) (.opn n1)), true)]) ++ [((.fn .tru (.fn (.eith (.pair (.pair .tru .tru) (.pair (.opn n0) (.eith (.pair (.pair .tru .tru) (.pair .tru .tru)) (.pair (.opn n0) (.opn n0))))) (.opn n1)) (.opn n1))), true), ((.fn (.opn n1) (.fn (.pair (.pair .tru .tru) (.pair (.opn n0) (.eith (.pair (.pair .tru .tru) (.pair .tru .tru)) (.pair (.opn n0) (.opn n0))))) (.opn n1))), false)]) (([.ref p13, .ref p15, .ref p17] ++ [.ref p21]) ++ [.ref p26, .ref p29]) := d22.app (.cons ⟨_, _, rfl, g26, r25⟩ (.cons ⟨_, _, rfl, g29, r28⟩ .nil))
  refine ⟨p18, p30, _, _, rfl, rfl, h22, g30, (small6 (Nat.le_of_ble_eq_true rfl)), fun p31 fr31 => ?_⟩
  have z31 : H p31 = none := sH.free fr31
  have s31 := newS (o := .lst (([.ref p13, .ref p15, .ref p17] ++ [.ref p21]) ++ [.ref p26, .ref p29])) fr31
  have r1 := r1.tk (Tk.of s31)
  have r2 := r2.tk (Tk.of s31)
  have r3 := r3.tk (Tk.of s31)
  have r4 := r4.tk (Tk.of s31)
  have r7 := r7.tk (Tk.of s31)
  have r10 := r10.tk (Tk.of s31)
  have r12 := r12.tk (Tk.of s31)
  have ho := s31 _ _ ho
  have d31 := d31.tk (Tk.of s31)
  have sH := sH.trans s31
  have h31 : (upd G30 p31 (.lst (([.ref p13, .ref p15, .ref p17] ++ [.ref p21]) ++ [.ref p26, .ref p29]))) p31 = some (.lst (([.ref p13, .ref p15, .ref p17] ++ [.ref p21]) ++ [.ref p26, .ref p29])) := upd_same
  generalize upd G30 p31 (.lst (([.ref p13, .ref p15, .ref p17] ++ [.ref p21]) ++ [.ref p26, .ref p29])) = G31 at sH h31 d31 ho r1 r2 r3 r4 r7 r10 r12 ⊢
  refine ⟨_, rfl, _, rfl, _, rfl, (by show 3 ≤ sizeLine; decide), fun p32 fr32 => ?_⟩
  have s32 := newS (o := .tup [.str "pair", .ref p1, .ref p1]) fr32
  have r1 := r1.tk (Tk.of s32)
  have r2 := r2.tk (Tk.of s32)
  have r3 := r3.tk (Tk.of s32)
  have r4 := r4.tk (Tk.of s32)
  have r7 := r7.tk (Tk.of s32)
  have r10 := r10.tk (Tk.of s32)
  have r12 := r12.tk (Tk.of s32)
  have ho := s32 _ _ ho
  have h31 := s32 _ _ h31
  have d31 := d31.tk (Tk.of s32)
  have sH := sH.trans s32
  have g32 : (upd G31 p32 (.tup [.str "pair", .ref p1, .ref p1])) p32 = some (.tup [.str "pair", .ref p1, .ref p1]) := upd_same
  generalize upd G31 p32 (.tup [.str "pair", .ref p1, .ref p1]) = G32 at sH g32 r1 r2 r3 r4 r7 r10 r12 ho h31 d31 ⊢
  clear s32
  have r32 : Rp G32 (.pair (.opn n0) (.opn n0)) (.ref p32) := ⟨p32, _, _, rfl, g32, r1, r1⟩
  refine ⟨_, rfl, (by show 3 ≤ sizeLine; decide), fun p33 fr33 => ?_⟩
  have s33 := newS (o := .tup [.str "fun", .ref p32, .ref p3]) fr33
  have r1 := r1.tk (Tk.of s33)
  have r2 := r2.tk (Tk.of s33)
  have r3 := r3.tk (Tk.of s33)
  have r4 := r4.tk (Tk.of s33)
  have r7 := r7.tk (Tk.of s33)
  have r10 := r10.tk (Tk.of s33)
  have r12 := r12.tk (Tk.of s33)
  have r32 := r32.tk (Tk.of s33)
  have ho := s33 _ _ ho
  have h31 := s33 _ _ h31
  have d31 := d31.tk (Tk.of s33)
  have sH := sH.trans s33
  have g33 : (upd G32 p33 (.tup [.str "fun", .ref p32, .ref p3])) p33 = some (.tup [.str "fun", .ref p32, .ref p3]) := upd_same
  generalize upd G32 p33 (.tup [.str "fun", .ref p32, .ref p3]) = G33 at sH g33 r1 r2 r3 r4 r7 r10 r12 r32 ho h31 d31 ⊢
  clear s33
  have r33 : Rp G33 (.fn (.pair (.opn n0) (.opn n0)) .tru) (.ref p33) := ⟨p33, _, _, rfl, g33, r32, r3⟩
  refine ⟨(by show 2 ≤ sizeLine; decide), fun p34 fr34 => ?_⟩
  have s34 := newS (o := .tup [.ref p33, .bl true]) fr34
  have r1 := r1.tk (Tk.of s34)
  have r2 := r2.tk (Tk.of s34)
  have r3 := r3.tk (Tk.of s34)
  have r4 := r4.tk (Tk.of s34)
  have r7 := r7.tk (Tk.of s34)
  have r10 := r10.tk (Tk.of s34)
  have r12 := r12.tk (Tk.of s34)
  have r32 := r32.tk (Tk.of s34)
  have r33 := r33.tk (Tk.of s34)
  have ho := s34 _ _ ho
  have h31 := s34 _ _ h31
  have d31 := d31.tk (Tk.of s34)
  have sH := sH.trans s34
  have g34 : (upd G33 p34 (.tup [.ref p33, .bl true])) p34 = some (.tup [.ref p33, .bl true]) := upd_same
  generalize upd G33 p34 (.tup [.ref p33, .bl true]) = G34 at sH g34 r1 r2 r3 r4 r7 r10 r12 r32 r33 ho h31 d31 ⊢
  clear s34
  refine ⟨_, rfl, _, rfl, (by show 3 ≤ sizeLine; decide), fun p35 fr35 => ?_⟩
  have s35 := newS (o := .tup [.str "either", .ref p4, .ref p4]) fr35
  have r1 := r1.tk (Tk.of s35)
  have r2 := r2.tk (Tk.of s35)
  have r3 := r3.tk (Tk.of s35)
  have r4 := r4.tk (Tk.of s35)
  have r7 := r7.tk (Tk.of s35)
  have r10 := r10.tk (Tk.of s35)
  have r12 := r12.tk (Tk.of s35)
  have r32 := r32.tk (Tk.of s35)
  have r33 := r33.tk (Tk.of s35)
  have g34 := s35 _ _ g34
  have ho := s35 _ _ ho
  have h31 := s35 _ _ h31
  have d31 := d31.tk (Tk.of s35)
  have sH := sH.trans s35
  have g35 : (upd G34 p35 (.tup [.str "either", .ref p4, .ref p4])) p35 = some (.tup [.str "either", .ref p4, .ref p4]) := upd_same
  generalize upd G34 p35 (.tup [.str "either", .ref p4, .ref p4]) = G35 at sH g35 r1 r2 r3 r4 r7 r10 r12 r32 r33 g34 ho h31 d31 ⊢
  clear s35
  have r35 : Rp G35 (.eith (.pair .tru .tru) (.pair .tru .tru)) (.ref p35) := ⟨p35, _, _, rfl, g35, r4, r4⟩
  refine ⟨_, rfl, (by show 3 ≤ sizeLine; decide), fun p36 fr36 => ?_⟩
  have s36 := newS (o := .tup [.str "fun", .ref p35, .ref p3]) fr36
  have r1 := r1.tk (Tk.of s36)
  have r2 := r2.tk (Tk.of s36)
  have r3 := r3.tk (Tk.of s36)
  have r4 := r4.tk (Tk.of s36)
  have r7 := r7.tk (Tk.of s36)
  have r10 := r10.tk (Tk.of s36)
  have r12 := r12.tk (Tk.of s36)
  have r32 := r32.tk (Tk.of s36)
  have r33 := r33.tk (Tk.of s36)
  have r35 := r35.tk (Tk.of s36)
  have g34 := s36 _ _ g34
  have ho := s36 _ _ ho
  have h31 := s36 _ _ h31
  have d31 := d31.tk (Tk.of s36)
  have sH := sH.trans s36
  have g36 : (upd G35 p36 (.tup [.str "fun", .ref p35, .ref p3])) p36 = some (.tup [.str "fun", .ref p35, .ref p3]) := upd_same
  generalize upd G35 p36 (.tup [.str "fun", .ref p35, .ref p3]) = G36 at sH g36 r1 r2 r3 r4 r7 r10 r12 r32 r33 r35 g34 ho h31 d31 ⊢
  clear s36
  have r36 : Rp G36 (.fn (.eith (.pair .tru .tru) (.pair .tru .tru)) .tru) (.ref p36) := ⟨p36, _, _, rfl, g36, r35, r3⟩
  refine ⟨(by show 2 ≤ sizeLine; decide), fun p37 fr37 => ?_⟩
  have s37 := newS (o := .tup [.ref p36, .bl false]) fr37
  have r1 := r1.tk (Tk.of s37)
  have r2 := r2.tk (Tk.of s37)
  have r3 := r3.tk (Tk.of s37)
  have r4 := r4.tk (Tk.of s37)
  have r7 := r7.tk (Tk.of s37)
  have r10 := r10.tk (Tk.of s37)
  have r12 := r12.tk (Tk.of s37)
  have r32 := r32.tk (Tk.of s37)
  have r33 := r33.tk (Tk.of s37)
  have r35 := r35.tk (Tk.of s37)
  have r36 := r36.tk (Tk.of s37)
  have g34 := s37 _ _ g34
  have ho := s37 _ _ ho
  have h31 := s37 _ _ h31
  have d31 := d31.tk (Tk.of s37)
  have sH := sH.trans s37
  have g37 : (upd G36 p37 (.tup [.ref p36, .bl false])) p37 = some (.tup [.ref p36, .bl false]) := upd_same
  generalize upd G36 p37 (.tup [.ref p36, .bl false]) = G37 at sH g37 r1 r2 r3 r4 r7 r10 r12 r32 r33 r35 r36 g34 ho h31 d31 ⊢
  clear s37
  refine ⟨(by show 2 ≤ sizeLine; decide), fun p38 fr38 => ?_⟩
  have s38 := newS (o := .lst [.ref p34, .ref p37]) fr38
  have z38 : H p38 = none := sH.free fr38
  have r1 := r1.tk (Tk.of s38)
  have r2 := r2.tk (Tk.of s38)
  have r3 := r3.tk (Tk.of s38)
  have r4 := r4.tk (Tk.of s38)
  have r7 := r7.tk (Tk.of s38)
  have r10 := r10.tk (Tk.of s38)
  have r12 := r12.tk (Tk.of s38)
  have r32 := r32.tk (Tk.of s38)
  have r33 := r33.tk (Tk.of s38)
  have r35 := r35.tk (Tk.of s38)
  have r36 := r36.tk (Tk.of s38)
  have g34 := s38 _ _ g34
  have g37 := s38 _ _ g37
  have ho := s38 _ _ ho
  have h31 := s38 _ _ h31
  have d31 := d31.tk (Tk.of s38)
  have sH := sH.trans s38
  have g38 : (upd G37 p38 (.lst [.ref p34, .ref p37])) p38 = some (.lst [.ref p34, .ref p37]) := upd_same
  generalize upd G37 p38 (.lst [.ref p34, .ref p37]) = G38 at sH g38 r1 r2 r3 r4 r7 r10 r12 r32 r33 r35 r36 g34 g37 ho h31 d31 ⊢
  clear s38
  have d39 : Ed G38 ((([((.pair (.pair .num (.opn n0)) (.eith (.pair (.pair .tru .tru) (.pair .tru .tru)) (.pair (.opn n0) (.opn n0)))), false), ((.eith (.pair (.pair .num (.opn n0)) (.eith (.pair (.pair .tru .tru) (.pair .tru .tru)) (.pair (.opn n0) (.opn n0)))) (.opn n1)), true), ((.fn (.pair (.pair .tru .tru) (.pair (.opn n0) (.eith (.pair (.pair .tru .tru) (.pair .tru .tru)) (.pair (.opn n0) (.opn n0))))) (.opn n1)), false)] ++ [((.fn (.eith (.pair (.pair .tru .tru) (.pair (.opn n0) (.eith (.pair (.pair .tru .tru) (.pair .tru .tru)) (.pair (.opn n0) (.opn n0))))) (.opn n1)) (.opn n1)), true)]) ++ [((.fn .tru (.fn (.eith (.pair (.pair .tru .tru) (.pair (.opn n0) (.eith (.pair (.pair .tru .tru) (.pair .tru .tru)) (.pair (.opn n0) (.opn n0))))) (.opn n1)) (.opn n1))), true), ((.fn (.opn n1) (.fn (.pair (.pair .tru .tru) (.pair (.opn n0) (.eith (.pair (.pair .tru .tru) (.pair .tru .tru)) (.pair (.opn n0) (.opn n0))))) (.opn n1))), false)]) ++ [((.fn (.pair (.opn n0) (.opn n0)) .tru), true), ((.fn (.eith (.pair .tru .tru) (.pair .tru .tru)) .tru), false)]) ((([.ref p13, .ref p15, .ref p17] ++ [.ref p21]) ++ [.ref p26, .ref p29]) ++ [.ref p34, .ref p37]) := d31.app (.cons ⟨_, _, rfl, g34, r33⟩ (.cons ⟨_, _, rfl, g37, r36⟩ .nil))
  refine ⟨p31, p38, _, _, rfl, rfl, h31, g38, (small6 (Nat.le_of_ble_eq_true rfl)), fun p39 fr39 => ?_⟩
  have z39 : H p39 = none := sH.free fr39
  have s39 := newS (o := .lst ((([.ref p13, .ref p15, .ref p17] ++ [.ref p21]) ++ [.ref p26, .ref p29]) ++ [.ref p34, .ref p37])) fr39
  have r1 := r1.tk (Tk.of s39)
  have r2 := r2.tk (Tk.of s39)
  have r3 := r3.tk (Tk.of s39)
  have r4 := r4.tk (Tk.of s39)
  have r7 := r7.tk (Tk.of s39)
  have r10 := r10.tk (Tk.of s39)
  have r12 := r12.tk (Tk.of s39)
  have ho := s39 _ _ ho
  have d39 := d39.tk (Tk.of s39)
  have sH := sH.trans s39
  have h39 : (upd G38 p39 (.lst ((([.ref p13, .ref p15, .ref p17] ++ [.ref p21]) ++ [.ref p26, .ref p29]) ++ [.ref p34, .ref p37]))) p39 = some (.lst ((([.ref p13, .ref p15, .ref p17] ++ [.ref p21]) ++ [.ref p26, .ref p29]) ++ [.ref p34, .ref p37])) := upd_same
  generalize upd G38 p39 (.lst ((([.ref p13, .ref p15, .ref p17] ++ [.ref p21]) ++ [.ref p26, .ref p29]) ++ [.ref p34, .ref p37])) = G39 at sH h39 d39 ho r1 r2 r3 r4 r7 r10 r12 ⊢
  refine ⟨_, rfl, .inl ⟨rfl, _, SqL.of h39⟩, _, rfl, o, _, _, _, rfl, rfl, SqL.of ho, rfl, (by show 2 ≤ sizeLine; decide), fun p40 fr40 => ?_⟩
  have s40 := newS (o := .tup [.str "open", .str n2]) fr40
  have r1 := r1.tk (Tk.of s40)
  have r2 := r2.tk (Tk.of s40)
  have r3 := r3.tk (Tk.of s40)
  have r4 := r4.tk (Tk.of s40)
  have r7 := r7.tk (Tk.of s40)
  have r10 := r10.tk (Tk.of s40)
  have r12 := r12.tk (Tk.of s40)
  have ho := s40 _ _ ho
  have h39 := s40 _ _ h39
  have d39 := d39.tk (Tk.of s40)
  have sH := sH.trans s40
  have g40 : (upd G39 p40 (.tup [.str "open", .str n2])) p40 = some (.tup [.str "open", .str n2]) := upd_same
  generalize upd G39 p40 (.tup [.str "open", .str n2]) = G40 at sH g40 r1 r2 r3 r4 r7 r10 r12 ho h39 d39 ⊢
  clear s40
  have r40 : Rp G40 (.opn n2) (.ref p40) := ⟨p40, rfl, g40⟩
  refine ⟨_, rfl, _, rfl, (by show 3 ≤ sizeLine; decide), fun p41 fr41 => ?_⟩
  have s41 := newS (o := .tup [.str "either", .ref p12, .ref p2]) fr41
  have r1 := r1.tk (Tk.of s41)
  have r2 := r2.tk (Tk.of s41)
  have r3 := r3.tk (Tk.of s41)
  have r4 := r4.tk (Tk.of s41)
  have r7 := r7.tk (Tk.of s41)
  have r10 := r10.tk (Tk.of s41)
  have r12 := r12.tk (Tk.of s41)
  have r40 := r40.tk (Tk.of s41)
  have ho := s41 _ _ ho
  have h39 := s41 _ _ h39
  have d39 := d39.tk (Tk.of s41)
  have sH := sH.trans s41
  have g41 : (upd G40 p41 (.tup [.str "either", .ref p12, .ref p2])) p41 = some (.tup [.str "either", .ref p12, .ref p2]) := upd_same
  generalize upd G40 p41 (.tup [.str "either", .ref p12, .ref p2]) = G41 at sH g41 r1 r2 r3 r4 r7 r10 r12 r40 ho h39 d39 ⊢
  clear s41
  have r41 : Rp G41 (.eith (.pair (.pair .tru .tru) (.pair (.opn n0) (.eith (.pair (.pair .tru .tru) (.pair .tru .tru)) (.pair (.opn n0) (.opn n0))))) (.opn n1)) (.ref p41) := ⟨p41, _, _, rfl, g41, r12, r2⟩
  refine ⟨_, rfl, (by show 3 ≤ sizeLine; decide), fun p42 fr42 => ?_⟩
  have s42 := newS (o := .tup [.str "fun", .ref p41, .ref p2]) fr42
  have r1 := r1.tk (Tk.of s42)
  have r2 := r2.tk (Tk.of s42)
  have r3 := r3.tk (Tk.of s42)
  have r4 := r4.tk (Tk.of s42)
  have r7 := r7.tk (Tk.of s42)
  have r10 := r10.tk (Tk.of s42)
  have r12 := r12.tk (Tk.of s42)
  have r40 := r40.tk (Tk.of s42)
  have r41 := r41.tk (Tk.of s42)
  have ho := s42 _ _ ho
  have h39 := s42 _ _ h39
  have d39 := d39.tk (Tk.of s42)
  have sH := sH.trans s42
  have g42 : (upd G41 p42 (.tup [.str "fun", .ref p41, .ref p2])) p42 = some (.tup [.str "fun", .ref p41, .ref p2]) := upd_same
  generalize upd G41 p42 (.tup [.str "fun", .ref p41, .ref p2]) = G42 at sH g42 r1 r2 r3 r4 r7 r10 r12 r40 r41 ho h39 d39 ⊢
  clear s42
  have r42 : Rp G42 (.fn (.eith (.pair (.pair .tru .tru) (.pair (.opn n0) (.eith (.pair (.pair .tru .tru) (.pair .tru .tru)) (.pair (.opn n0) (.opn n0))))) (.opn n1)) (.opn n1)) (.ref p42) := ⟨p42, _, _, rfl, g42, r41, r2⟩
  refine ⟨(by show 3 ≤ sizeLine; decide), fun p43 fr43 => ?_⟩
  have s43 := newS (o := .tup [.str "fun", .ref p40, .ref p42]) fr43
  have r1 := r1.tk (Tk.of s43)
  have r2 := r2.tk (Tk.of s43)
  have r3 := r3.tk (Tk.of s43)
  have r4 := r4.tk (Tk.of s43)
  have r7 := r7.tk (Tk.of s43)
  have r10 := r10.tk (Tk.of s43)
  have r12 := r12.tk (Tk.of s43)
  have r40 := r40.tk (Tk.of s43)
  have r41 := r41.tk (Tk.of s43)
  have r42 := r42.tk (Tk.of s43)
  have ho := s43 _ _ ho
  have h39 := s43 _ _ h39
  have d39 := d39.tk (Tk.of s43)
  have sH := sH.trans s43
  have g43 : (upd G42 p43 (.tup [.str "fun", .ref p40, .ref p42])) p43 = some (.tup [.str "fun", .ref p40, .ref p42]) := upd_same
  generalize upd G42 p43 (.tup [.str "fun", .ref p40, .ref p42]) = G43 at sH g43 r1 r2 r3 r4 r7 r10 r12 r40 r41 r42 ho h39 d39 ⊢
  clear s43
  have r43 : Rp G43 (.fn (.opn n2) (.fn (.eith (.pair (.pair .tru .tru) (.pair (.opn n0) (.eith (.pair (.pair .tru .tru) (.pair .tru .tru)) (.pair (.opn n0) (.opn n0))))) (.opn n1)) (.opn n1))) (.ref p43) := ⟨p43, _, _, rfl, g43, r40, r42⟩
  refine ⟨(by show 2 ≤ sizeLine; decide), fun p44 fr44 => ?_⟩
  have s44 := newS (o := .tup [.ref p43, .bl false]) fr44
  have r1 := r1.tk (Tk.of s44)
  have r2 := r2.tk (Tk.of s44)
  have r3 := r3.tk (Tk.of s44)
  have r4 := r4.tk (Tk.of s44)
  have r7 := r7.tk (Tk.of s44)
  have r10 := r10.tk (Tk.of s44)
  have r12 := r12.tk (Tk.of s44)
  have r40 := r40.tk (Tk.of s44)
  have r41 := r41.tk (Tk.of s44)
  have r42 := r42.tk (Tk.of s44)
  have r43 := r43.tk (Tk.of s44)
  have ho := s44 _ _ ho
  have h39 := s44 _ _ h39
  have d39 := d39.tk (Tk.of s44)
  have sH := sH.trans s44
  have g44 : (upd G43 p44 (.tup [.ref p43, .bl false])) p44 = some (.tup [.ref p43, .bl false]) := upd_same
  generalize upd G43 p44 (.tup [.ref p43, .bl false]) = G44 at sH g44 r1 r2 r3 r4 r7 r10 r12 r40 r41 r42 r43 ho h39 d39 ⊢
  clear s44
  refine ⟨p39, _, _, rfl, rfl, h39, (small6' (Nat.lt_of_lt_of_le (Nat.lt_succ_self _) (Nat.le_of_ble_eq_true rfl))), ?_⟩
  have d45 : Ed G44 (((([((.pair (.pair .num (.opn n0)) (.eith (.pair (.pair .tru .tru) (.pair .tru .tru)) (.pair (.opn n0) (.opn n0)))), false), ((.eith (.pair (.pair .num (.opn n0)) (.eith (.pair (.pair .tru .tru) (.pair .tru .tru)) (.pair (.opn n0) (.opn n0)))) (.opn n1)), true), ((.fn (.pair (.pair .tru .tru) (.pair (.opn n0) (.eith (.pair (.pair .tru .tru) (.pair .tru .tru)) (.pair (.opn n0) (.opn n0))))) (.opn n1)), false)] ++ [((.fn (.eith (.pair (.pair .tru .tru) (.pair (.opn n0) (.eith (.pair (.pair .tru .tru) (.pair .tru .tru)) (.pair (.opn n0) (.opn n0))))) (.opn n1)) (.opn n1)), true)]) ++ [((.fn .tru (.fn (.eith (.pair (.pair .tru .tru) (.pair (.opn n0) (.eith (.pair (.pair .tru .tru) (.pair .tru .tru)) (.pair (.opn n0) (.opn n0))))) (.opn n1)) (.opn n1))), true), ((.fn (.opn n1) (.fn (.pair (.pair .tru .tru) (.pair (.opn n0) (.eith (.pair (.pair .tru .tru) (.pair .tru .tru)) (.pair (.opn n0) (.opn n0))))) (.opn n1))), false)]) ++ [((.fn (.pair (.opn n0) (.opn n0)) .tru), true), ((.fn (.eith (.pair .tru .tru) (.pair .tru .tru)) .tru), false)]) ++ [((.fn (.opn n2) (.fn (.eith (.pair (.pair .tru .tru) (.pair (.opn n0) (.eith (.pair (.pair .tru .tru) (.pair .tru .tru)) (.pair (.opn n0) (.opn n0))))) (.opn n1)) (.opn n1))), false)]) (((([.ref p13, .ref p15, .ref p17] ++ [.ref p21]) ++ [.ref p26, .ref p29]) ++ [.ref p34, .ref p37]) ++ [.ref p44]) := d39.app (.cons ⟨_, _, rfl, g44, r43⟩ .nil)
  have t45 : Tk G44 (upd G44 p39 (.lst (((([.ref p13, .ref p15, .ref p17] ++ [.ref p21]) ++ [.ref p26, .ref p29]) ++ [.ref p34, .ref p37]) ++ [.ref p44]))) := Tk.rfl.put (fun _ z => by rw [h39] at z; cases z)
  have r1 := r1.tk t45
  have r2 := r2.tk t45
  have r3 := r3.tk t45
  have r4 := r4.tk t45
  have r7 := r7.tk t45
  have r10 := r10.tk t45
  have r12 := r12.tk t45
  have d45 := d45.tk t45
  have ho := (show (upd G44 p39 (.lst (((([.ref p13, .ref p15, .ref p17] ++ [.ref p21]) ++ [.ref p26, .ref p29]) ++ [.ref p34, .ref p37]) ++ [.ref p44]))) o = some (.lst [.str n0, .str n1, .str n2, .str n3]) from by rw [upd_ne (fun z => by rw [← z, ho0] at z39; cases z39)]; exact ho)
  have sH := smk (o := .lst (((([.ref p13, .ref p15, .ref p17] ++ [.ref p21]) ++ [.ref p26, .ref p29]) ++ [.ref p34, .ref p37]) ++ [.ref p44])) sH z39
  have h45 : (upd G44 p39 (.lst (((([.ref p13, .ref p15, .ref p17] ++ [.ref p21]) ++ [.ref p26, .ref p29]) ++ [.ref p34, .ref p37]) ++ [.ref p44]))) p39 = some (.lst (((([.ref p13, .ref p15, .ref p17] ++ [.ref p21]) ++ [.ref p26, .ref p29]) ++ [.ref p34, .ref p37]) ++ [.ref p44])) := upd_same
  generalize upd G44 p39 (.lst (((([.ref p13, .ref p15, .ref p17] ++ [.ref p21]) ++ [.ref p26, .ref p29]) ++ [.ref p34, .ref p37]) ++ [.ref p44])) = G45 at sH h45 d45 ho r1 r2 r3 r4 r7 r10 r12 ⊢
  refine ⟨_, rfl, _, rfl, _, rfl, _, rfl, _, rfl, (by show 3 ≤ sizeLine; decide), fun p46 fr46 => ?_⟩
  have s46 := newS (o := .tup [.str "either", .ref p12, .ref p2]) fr46
  have r1 := r1.tk (Tk.of s46)
  have r2 := r2.tk (Tk.of s46)
  have r3 := r3.tk (Tk.of s46)
  have r4 := r4.tk (Tk.of s46)
  have r7 := r7.tk (Tk.of s46)
  have r10 := r10.tk (Tk.of s46)
  have r12 := r12.tk (Tk.of s46)
  have ho := s46 _ _ ho
  have h45 := s46 _ _ h45
  have d45 := d45.tk (Tk.of s46)
  have sH := sH.trans s46
  have g46 : (upd G45 p46 (.tup [.str "either", .ref p12, .ref p2])) p46 = some (.tup [.str "either", .ref p12, .ref p2]) := upd_same
  generalize upd G45 p46 (.tup [.str "either", .ref p12, .ref p2]) = G46 at sH g46 r1 r2 r3 r4 r7 r10 r12 ho h45 d45 ⊢
  clear s46
  have r46 : Rp G46 (.eith (.pair (.pair .tru .tru) (.pair (.opn n0) (.eith (.pair (.pair .tru .tru) (.pair .tru .tru)) (.pair (.opn n0) (.opn n0))))) (.opn n1)) (.ref p46) := ⟨p46, _, _, rfl, g46, r12, r2⟩
  refine ⟨(by show 3 ≤ sizeLine; decide), fun p47 fr47 => ?_⟩
  have s47 := newS (o := .tup [.ref p3, .ref p12, .ref p46]) fr47
  have r1 := r1.tk (Tk.of s47)
  have r2 := r2.tk (Tk.of s47)
  have r3 := r3.tk (Tk.of s47)
  have r4 := r4.tk (Tk.of s47)
  have r7 := r7.tk (Tk.of s47)
  have r10 := r10.tk (Tk.of s47)
  have r12 := r12.tk (Tk.of s47)
  have r46 := r46.tk (Tk.of s47)
  have ho := s47 _ _ ho
  have h45 := s47 _ _ h45
  have d45 := d45.tk (Tk.of s47)
  have sH := sH.trans s47
  have g47 : (upd G46 p47 (.tup [.ref p3, .ref p12, .ref p46])) p47 = some (.tup [.ref p3, .ref p12, .ref p46]) := upd_same
  generalize upd G46 p47 (.tup [.ref p3, .ref p12, .ref p46]) = G47 at sH g47 r1 r2 r3 r4 r7 r10 r12 r46 ho h45 d45 ⊢
  clear s47
  have pr : ∀ (i : Nat) (x : V), ([.ref p3, .ref p12, .ref p46] : List V)[i]? = some x → ∃ kd, ([.tru, (.pair (.pair .tru .tru) (.pair (.opn n0) (.eith (.pair (.pair .tru .tru) (.pair .tru .tru)) (.pair (.opn n0) (.opn n0))))), (.eith (.pair (.pair .tru .tru) (.pair (.opn n0) (.eith (.pair (.pair .tru .tru) (.pair .tru .tru)) (.pair (.opn n0) (.opn n0))))) (.opn n1))] : List Kd)[i]? = some kd ∧ Rp G47 kd x := fun i x e => by
    match i, e with
    | 0, e => cases e; exact ⟨_, rfl, r3⟩
    | 1, e => cases e; exact ⟨_, rfl, r12⟩
    | 2, e => cases e; exact ⟨_, rfl, r46⟩
    | i + 3, e => simp at e
  refine ⟨p47, rfl, ⟨_, SqT.of g47⟩, fun D nD => ?_⟩
  have nDH : H D = none := sH.free nD
  refine lc_tup (xs := [.ref p3, .ref p12, .ref p46]) (fun i F => Same G47 F ∧ ∃ out, F D = some (.lst out) ∧ out.length = i ∧ Ed F ((([.tru, (.pair (.pair .tru .tru) (.pair (.opn n0) (.eith (.pair (.pair .tru .tru) (.pair .tru .tru)) (.pair (.opn n0) (.opn n0))))), (.eith (.pair (.pair .tru .tru) (.pair (.opn n0) (.eith (.pair (.pair .tru .tru) (.pair .tru .tru)) (.pair (.opn n0) (.opn n0))))) (.opn n1))] : List Kd).take i).map fun kd => (Kd.fn kd (.opn n2), false)) out) ⟨newS nD, [], upd_same, rfl, .nil⟩ (fun i F _ z => SqT.of (z.1 _ _ g47)) (fun i x F hx z => ?_) (fun F z => ?_)
  · obtain ⟨sF, out, gD, lo, ed⟩ := z
    obtain ⟨kd, hkd, rk⟩ := pr i x hx
    have li := (List.getElem?_eq_some_iff.mp hx).1
    have li : i < 3 := li
    refine ⟨rfl, _, rfl, _, rfl, o, _, _, _, rfl, rfl, SqL.of (sF _ _ ho), rfl, (by show 2 ≤ sizeLine; decide), fun q1 m1 => ⟨(by show 3 ≤ sizeLine; decide), fun q2 m2 => ⟨(by show 2 ≤ sizeLine; decide), fun q3 m3 => ?_⟩⟩⟩
    have s1 := newS (o := .tup [V.str "open", .str n2]) m1
    have s2 := newS (o := .tup [V.str "fun", x, .ref q1]) m2
    have s3 := newS (o := .tup [V.ref q2, .bl false]) m3
    have sx := (s1.trans s2).trans s3
    have gD2 := sx _ _ gD
    have c1 := s3 _ _ (s2 _ _ (show (upd F q1 (.tup [V.str "open", .str n2])) q1 = some (.tup [V.str "open", .str n2]) from upd_same))
    have c2 := s3 _ _ (show (upd (upd F q1 (.tup [V.str "open", .str n2])) q2 (.tup [V.str "fun", x, .ref q1])) q2 = some (.tup [V.str "fun", x, .ref q1]) from upd_same)
    have c3 : (upd (upd (upd F q1 (.tup [V.str "open", .str n2])) q2 (.tup [V.str "fun", x, .ref q1])) q3 (.tup [V.ref q2, .bl false])) q3 = some (.tup [V.ref q2, .bl false]) := upd_same
    have rk := rk.tk (Tk.of (sF.trans sx))
    have ed := ed.tk (Tk.of sx)
    have sG := sF.trans sx
    generalize upd (upd (upd F q1 (.tup [V.str "open", .str n2])) q2 (.tup [V.str "fun", x, .ref q1])) q3 (.tup [V.ref q2, .bl false]) = F2 at gD2 c1 c2 c3 rk ed sG ⊢
    have ed2 : Ed F2 (((([.tru, (.pair (.pair .tru .tru) (.pair (.opn n0) (.eith (.pair (.pair .tru .tru) (.pair .tru .tru)) (.pair (.opn n0) (.opn n0))))), (.eith (.pair (.pair .tru .tru) (.pair (.opn n0) (.eith (.pair (.pair .tru .tru) (.pair .tru .tru)) (.pair (.opn n0) (.opn n0))))) (.opn n1))] : List Kd).take (i + 1)).map fun kd => (Kd.fn kd (.opn n2), false))) (out ++ [.ref q3]) := by
      rw [List.take_add_one, hkd, List.map_append]
      exact ed.app (.cons ⟨q3, .ref q2, rfl, c3, ⟨q2, _, _, rfl, c2, rk, ⟨q1, rfl, c1⟩⟩⟩ .nil)
    refine ⟨out, gD2, small6' (by omega), smk sG nD, _, upd_same, by rw [List.length_append, lo]; rfl, ed2.tk (Tk.rfl.put (fun _ z => by rw [gD2] at z; cases z))⟩
  obtain ⟨sF, out, gD, lo, ed⟩ := z
  have lo : out.length = 3 := lo
  refine ⟨p39, D, _, out, rfl, rfl, sF _ _ h45, gD, small6 (by rw [lo]; exact Nat.le_of_ble_eq_true rfl), fun r nr => ?_⟩
  have sr := newS (o := .lst ((((([.ref p13, .ref p15, .ref p17] ++ [.ref p21]) ++ [.ref p26, .ref p29]) ++ [.ref p34, .ref p37]) ++ [.ref p44]) ++ out)) nr
  exact q r _ _ ((sH.trans sF).trans sr) upd_same ((d45.tk (Tk.of sF)).app ed |>.tk (Tk.of sr))
end
end Kq

/-! law -/
namespace Kq
open PySem PySem.Spec PyProof.Rows L2 Kf Kg Kv GxR Kk
abbrev tLaw : Stmt := tp 49
abbrev nLaw : List Str := ["_law_script", "_law_deck_here", "_law_edge", "_law_turn", "_law_bound", "_law_many_here", "_law_opens", "_law_some", "_law_kind", "_law_sizes_here", "_law_great", "_law_k"]
theorem TbS.kp {T : List Addr} {H G : Hp} {d c : Addr} (t : TbS T H) (k : Kp d c H G) (x : Dk H d c) : TbS T G := fun p hp => by
  obtain ⟨ps, h1, h2⟩ := t p hp
  obtain ⟨_, ⟨_, _, hd⟩, ⟨_, hc, _⟩⟩ := x
  exact ⟨ps, k p _ (fun z => by rw [z, hd] at h1; cases h1) (fun z => by rw [z, hc] at h1; cases h1) h1, h2⟩
theorem Dk.sm {T : List Addr} {H G : Hp} {d c : Addr} (x : Dk H d c) (t : TbS T H) (s : Sm T H G) : Dk G d c := by
  obtain ⟨n, ⟨a, b, e⟩, ⟨ns, f, l⟩⟩ := x
  exact ⟨n, ⟨a, b, s.at t e (fun _ z => by cases z)⟩, ⟨ns, s.at t f (fun _ z => by cases z), l⟩⟩
/-- what is led to -/
theorem led_ok {sz : List (Str × Int)} {b : Nat} (hB : SzB sz) {t : Kd} (ht : Dta 1 t) : ∀ {ks : List Kd}, (∀ k ∈ ks, Sml 1 k) → (Kd.ledTo ks t).dp ≤ ks.length + 1 ∧ tbk sz (Kd.ledTo ks t) = true ∧ lng sz b (Kd.ledTo ks t) = false ∧ ∀ x ∈ (Kd.ledTo ks t).opens, Nm x
  | [], _ => by
    refine ⟨ht.dp, ?_, lng_data ht.nf, ht.nm⟩
    have h1 := ht.nf
    have h2 := ht.dp
    show tbk sz t = true
    cases t with
    | fn _ _ => cases h1
    | num => rfl
    | tru => rfl
    | opn x => exact Bool.and_eq_true_iff.mpr ⟨h1, decide_eq_true (by omega)⟩
    | pair x y => exact Bool.and_eq_true_iff.mpr ⟨h1, decide_eq_true (by omega)⟩
    | eith x y => exact Bool.and_eq_true_iff.mpr ⟨h1, decide_eq_true (by omega)⟩
    | lst x => exact Bool.and_eq_true_iff.mpr ⟨h1, decide_eq_true (by omega)⟩
  | k :: ks, h => by
    obtain ⟨i1, i2, i3, i4⟩ := led_ok hB ht (ks := ks) fun x hx => h x (List.mem_cons_of_mem _ hx)
    have hk := h k List.mem_cons_self
    obtain ⟨s1, s2⟩ := smS_sml hB hk.s hk.dp
    have d := hk.dp
    refine ⟨?_, ?_, ?_, fun x hx => ?_⟩
    · show max k.dp (Kd.ledTo ks t).dp + 1 ≤ ks.length + 1 + 1
      omega
    · show (smS k && decide (k.dp ≤ 6) && (sml sz k || decide (300 < mny sz 0 k)) && tbk sz (Kd.ledTo ks t)) = true
      rw [hk.s, decide_eq_true (by omega), s1, i2]
      rfl
    · show (decide (mny sz b (.fn k (Kd.ledTo ks t)) ≠ 0) && (decide (300 < mny sz b k) || (decide (mny sz b k ≠ 0) && lng sz b (Kd.ledTo ks t)))) = false
      rw [i3, Bool.and_false, Bool.or_false, decide_eq_false (p := 300 < mny sz b k) (by rw [smS_mny hk.s]; omega), Bool.and_false]
    · rcases List.mem_append.mp (show x ∈ k.opens ++ (Kd.ledTo ks t).opens from hx) with z | z
      · exact hk.nm x z
      · exact i4 x z
theorem TbS.putL {T : List Addr} {F : Hp} {D : Addr} {us : List V} {o : HO} (t : TbS T F) (h : F D = some (.lst us)) : TbS T (upd F D o) := fun p hp => by
  obtain ⟨ps, h1, h2⟩ := t p hp
  exact ⟨ps, by rw [upd_ne (fun z => by rw [z, h] at h1; cases h1)]; exact h1, h2⟩
theorem perm2 {ys : List V} {x y : V} (h : ys.Perm [x, y]) : ys = [x, y] ∨ ys = [y, x] := by
  have l := h.length_eq
  match ys, l with
  | [u, v], _ =>
    have m : u ∈ [x, y] := h.mem_iff.mp List.mem_cons_self
    rcases List.mem_cons.mp m with rfl | m
    · have := (List.perm_cons u).mp h
      exact .inl (by rw [(List.singleton_perm_singleton.mp this)])
    · obtain rfl := List.mem_singleton.mp m
      have := (List.perm_cons u).mp (h.trans (List.Perm.swap u x []))
      exact .inr (by rw [(List.singleton_perm_singleton.mp this)])
section
variable {P : Program} {w : World} {K : PySem.W.Frag} {mg : Str → Option Value} {base : Heap}
theorem scLaw : FnScope nLaw ["_law_script"] (defScope tLaw) := ⟨rfl, rfl, rfl, by decide +kernel, rfl, by decide +kernel, by decide +kernel⟩
def spLaw (K : PySem.W.Frag) (T : List Addr) : Sp := fun vs H Q _ => ∃ (a : Addr) (ns : List Int), vs = [.ref a] ∧ SqL K H a (ns.map V.int) ∧ ns.length ≤ 63 ∧ TbS T H ∧ ∀ G : Hp, Q (.bl true) G
theorem okLaw {f f1 f3 f4 f5 f6 f7 f8 f9 fA fB : Addr} {fd fd1 fd3 fd4 fd5 fd6 fd7 fd8 fd9 fdA fdB : FuncData} {k : Nat} {T : List Addr} (F : Fun K "law" "law" tLaw f fd)
    (G1 : FnOk P w K mg base CX0 (k + 1) f1 fd1 ["_law_script"] (spDeck K)) (b1 : Binds K fd1 ["_law_script"] []) (g1 : mg "_law_deck" = some (.ref f1)) (k1 : PySem.W.keepIn K (.ref f1) = true)
    (G3 : FnOk P w K mg base CX0 (k + 1) f3 fd3 ["_law_deck_here", "_law_most"] spDraw) (b3 : Binds K fd3 ["_law_deck_here", "_law_most"] []) (g3 : mg "_law_draw" = some (.ref f3)) (k3 : PySem.W.keepIn K (.ref f3) = true)
    (G4 : FnOk P w K mg base CX0 (k + 1) f4 fd4 ["_law_deck_here", "_law_many_here"] spNames) (b4 : Binds K fd4 ["_law_deck_here", "_law_many_here"] []) (g4 : mg "_law_names" = some (.ref f4)) (k4 : PySem.W.keepIn K (.ref f4) = true)
    (G5 : FnOk P w K mg base CX0 (k + 1) f5 fd5 psData (spSmall 2)) (b5 : Binds K fd5 psData []) (g5 : mg "_law_small" = some (.ref f5)) (k5 : PySem.W.keepIn K (.ref f5) = true)
    (G6 : FnG P w K mg base CX0 (k + 1) f6 fd6 psRight (spRight T)) (b6 : Binds K fd6 psRight []) (g6 : mg "_law_right" = some (.ref f6)) (k6 : PySem.W.keepIn K (.ref f6) = true)
    (G7 : FnOk P w K mg base CX0 (k + 1) f7 fd7 psData (spData 2)) (b7 : Binds K fd7 psData []) (g7 : mg "_law_data" = some (.ref f7)) (k7 : PySem.W.keepIn K (.ref f7) = true)
    (G8 : FnOk P w K mg base CX0 (k + 1) f8 fd8 psSizes spSizes) (b8 : Binds K fd8 psSizes []) (g8 : mg "_law_sizes" = some (.ref f8)) (k8 : PySem.W.keepIn K (.ref f8) = true)
    (G9 : FnOk P w K mg base CX0 (k + 1) f9 fd9 ["_law_arguments", "_law_result"] spLed) (b9 : Binds K fd9 ["_law_arguments", "_law_result"] []) (g9 : mg "_law_led_to" = some (.ref f9)) (k9 : PySem.W.keepIn K (.ref f9) = true)
    (GA : FnOk P w K mg base CX0 (k + 1) fA fdA psLMany (spLMany 9)) (bA : Binds K fdA psLMany []) (gA : mg "_law_many" = some (.ref fA)) (kA : PySem.W.keepIn K (.ref fA) = true)
    (GB : FnOk P w K mg base CX0 (k + 1) fB fdB ["_law_opens"] spEdges) (bB : Binds K fdB ["_law_opens"] []) (gB : mg "_law_edges" = some (.ref fB)) (kB : PySem.W.keepIn K (.ref fB) = true)
    (mr : mg "range" = none) (mn : mg "int" = none) (mt : mg "tuple" = none) (ms : mg "sorted" = none) : FnG P w K mg base CX0 (k + 2) f fd ["_law_script"] (spLaw K T) := by
  refine okG F scLaw (fun vs H Q E h => ?_) (fun cdv A outer s H vs Q E still hr h => ?_)
  · obtain ⟨a, ns, rfl, _⟩ := h
    rfl
  obtain ⟨a, ns, rfl, hS, hl, tb, q⟩ := h
  refine ⟨_, pss_cons (ps_set (i := 1) scLaw.nd rfl (.inr rfl) (pe_call G1 hr (by rfl) g1 k1 b1 .nil pass0 (pa_cons (pv 0) pa_nil)))
    (pss_cons (ps_set (i := 2) scLaw.nd rfl (.inl rfl) (pe_call G3 hr (by rfl) g3 k3 b3 .nil pass0 (pa_cons (pv 1) (pa_cons pe_int pa_nil))))
    (pss_cons (ps_for PassesOwn.never rfl (pi_range1 (by rfl) mr (pa_cons pe_int pa_nil)) (pg_name (i := 3) scLaw.nd rfl (.inl rfl))
      (pss_cons (ps_set (i := 4) scLaw.nd rfl (.inl rfl) (pe_call G3 hr (by rfl) g3 k3 b3 .nil pass0 (pa_cons (pv 1) (pa_cons pe_int pa_nil))))
      (pss_cons (ps_set (i := 5) scLaw.nd rfl (.inr rfl) (pe_ix ix_list (pe_lst (pa_cons pe_int (pa_cons pe_int (pa_cons pe_int (pa_cons pe_int pa_nil))))) (pe_call G3 hr (by rfl) g3 k3 b3 .nil pass0 (pa_cons (pv 1) (pa_cons pe_int pa_nil))) (fun _ _ => rfl)))
      (pss_cons (ps_set (i := 6) scLaw.nd rfl (.inr rfl) (pe_call G4 hr (by rfl) g4 k4 b4 .nil pass0 (pa_cons (pv 1) (pa_cons pe_int pa_nil))))
      (pss_cons (ps_setLc (i := 7) (own := [("_law_k", 11)]) (g := gName 11) (tt := tYes) (by rfl) scLaw.nd rfl rfl (sw_true rfl rfl rfl (by decide +kernel)) (pi_range1 (by rfl) mr (pa_cons (pv 5) pa_nil)) (blkOk_by (own := [("_law_k", 11)]) (N := nLaw) (sc := defScope tLaw) (by decide +kernel))
        (fun _ _ _ _ _ => pg_name (i := 11) scLaw.nd rfl (.inl rfl)) (fun _ _ _ _ _ => pts_nil)
        (fun _ _ _ _ _ => pe_call G5 hr (by rfl) g5 k5 b5 .nil pass0 (pa_cons (pv 1) (pa_cons (pv 6) (pa_cons (pe_op op_mul (pe_callTy call_int1 (by rfl) mn (by decide +kernel) (pa_cons (pe_cmpR op_lt (pv 5) pe_int (nomark _)) pa_nil)) (pe_call G3 hr (by rfl) g3 k3 b3 .nil pass0 (pa_cons (pv 1) (pa_cons pe_int pa_nil)))) pa_nil)))))
      (pss_cons (ps_set (i := 8) scLaw.nd rfl (.inl rfl) (pe_call G9 hr (by rfl) g9 k9 b9 .nil pass0 (pa_cons (pv 7) (pa_cons (pe_call G7 hr (by rfl) g7 k7 b7 .nil pass0 (pa_cons (pv 1) (pa_cons (pv 6) (pa_cons pe_int pa_nil)))) pa_nil))))
      (pss_cons (ps_set (i := 9) scLaw.nd rfl (.inl rfl) (pe_call G8 hr (by rfl) g8 k8 b8 .nil pass0 (pa_cons (pv 1) (pa_cons (pv 6) (pa_cons pe_int pa_nil)))))
      (pss_cons (ps_set (i := 10) scLaw.nd rfl (.inl rfl) (pe_cmpR op_gt (pe_call GA hr (by rfl) gA kA bA .nil pass0 (pa_cons (pv 8) (pa_cons (pv 9) (pa_cons (pv 4) pa_nil)))) pe_int (nomark _)))
      (pss_one (ps_if (pt_not (pt_val (pe_callG G6 still hr (by rfl) g6 k6 b6 .nil pass0 (pa_cons (pv 8) (pa_cons (pv 9) (pa_cons (pv 4) (pa_cons (pv 10) pa_nil))))))) (pss_one (ps_ret pe_bl)) pss_nil))))))))))
    (pss_cons (ps_set (i := 9) scLaw.nd rfl (.inl rfl) (pe_callTy Kt.call_tupleF (by rfl) mt PyProof.Rows.boot_tuple (pa_cons (pe_callB Kz.cr_sortedSI (by rfl) ms PyProof.Rows.boot_sorted (pa_cons (pe_lst (pa_cons (pe_tup (pa_cons (pe_ix ix_list (pv 6) pe_int (fun _ _ => rfl)) (pa_cons pe_int pa_nil))) (pa_cons (pe_tup (pa_cons (pe_ix ix_list (pv 6) pe_int (fun _ _ => rfl)) (pa_cons pe_int pa_nil))) pa_nil))) pa_nil)) pa_nil)))
    (pss_cons (ps_asg (pe_ix ix_list (pe_call GB hr (by rfl) gB kB bB .nil pass0 (pa_cons (pv 6) pa_nil)) (pv 2) (fun _ _ => rfl)) (pg_tup rfl (pgs_cons (pg_name (i := 8) scLaw.nd rfl (.inl rfl)) (pgs_cons (pg_name (i := 10) scLaw.nd rfl (.inl rfl)) pgs_nil))))
    (pss_one (ps_ret (pe_callG G6 still hr (by rfl) g6 k6 b6 .nil pass0 (pa_cons (pv 8) (pa_cons (pv 9) (pa_cons pe_int (pa_cons (pv 10) pa_nil))))))))))), ?_⟩
  refine ⟨_, rfl, a, ns, rfl, hS, hl, fun d c Ga sa dka => ?_⟩
  have tba := tb.same sa
  refine ⟨_, rfl, d, c, 12, rfl, dka, by decide, by decide, fun ed Gb e0 e1 kpb dkb => ?_⟩
  have tbb : TbS T Gb := TbS.kp tba kpb dka
  obtain ⟨en, rfl⟩ := Int.eq_ofNat_of_zero_le e0
  refine ⟨6, rfl, by decide, by decide, for_range (lo := 0) (n := 6) (fun i σ G => ∃ y3 y4 y5 y6 y7 y8 y9 y10, σ = [some (.ref a), some (.ref d), some (.int ((en : Nat) : Int)), y3, y4, y5, y6, y7, y8, y9, y10, none] ∧ Dk G d c ∧ TbS T G ∧ (i = 0 ∨ ∃ (o : Addr) (n0 n1 n2 n3 : Str), y6 = some (.ref o) ∧ G o = some (.lst [.str n0, .str n1, .str n2, .str n3]) ∧ Nm n0 ∧ Nm n1 ∧ Nm n2 ∧ n0 ≠ n1 ∧ n0 ≠ n2 ∧ n1 ≠ n2)) ⟨_, _, _, _, _, _, _, _, rfl, dkb, tbb, .inl rfl⟩ (fun i σ G hi z => ?_) (fun σ G z => ?_)⟩
  · obtain ⟨y3, y4, y5, y6, y7, y8, y9, y10, rfl, dk1, tb1, _⟩ := z
    refine ⟨_, rfl, d, c, 4, rfl, dk1, by decide, by decide, fun r0 A0 a0 a1 kA0 dA0 => ?_⟩
    have tA0 : TbS T A0 := TbS.kp tb1 kA0 dk1
    obtain ⟨b, rfl⟩ := Int.eq_ofNat_of_zero_le a0
    refine ⟨(by show 4 ≤ sizeLine; decide), fun l1 nl1 => ?_⟩
    have sl1 := newS (o := .lst [.int 1, .int 1, .int 2, .int 3]) nl1
    have offl1 := dA0.off nl1
    refine ⟨_, rfl, d, c, 4, rfl, dA0.same sl1, by decide, by decide, fun r1 A1 b0 b1' kA1 dA1 => ?_⟩
    have tA1 : TbS T A1 := TbS.kp (tA0.same sl1) kA1 (dA0.same sl1)
    obtain ⟨mh, hmh, mh3⟩ : ∃ mh : Nat, atI [V.int 1, V.int 1, V.int 2, V.int 3] r1 = some (.int (mh : Nat)) ∧ mh ≤ 3 := by
      have er : r1 = 0 ∨ r1 = 1 ∨ r1 = 2 ∨ r1 = 3 := by omega
      rcases er with rfl | rfl | rfl | rfl
      · exact ⟨1, rfl, by decide⟩
      · exact ⟨1, rfl, by decide⟩
      · exact ⟨2, rfl, by decide⟩
      · exact ⟨3, rfl, by decide⟩
    refine ⟨l1, _, _, _, rfl, rfl, SqL.of (kA1 l1 _ offl1.1 offl1.2 upd_same), hmh, ?_⟩
    refine ⟨_, rfl, d, c, 4, rfl, dA1, by decide, by decide, fun o xs A3 kA3 dA3 no go lxs hxs ndx => ?_⟩
    have tA3 : TbS T A3 := TbS.kp tA1 kA3 dA1
    have offo := dA1.off no
    have lx4 : xs.length = 4 := lxs
    refine ⟨_, rfl, _, rfl, by omega, by omega, fun D nD => ?_⟩
    have offD := dA3.off nD
    have oD : o ≠ D := ne_of_none go nD
    rw [show ((mh : Nat) : Int).toNat = mh from Int.toNat_natCast mh]
    refine lc_range (lo := 0) (n := mh) (fun i F => Kp d c A3 F ∧ Dk F d c ∧ TbS T F ∧ i ≤ mh ∧ ∃ ks us, ks.length = i ∧ F D = some (.lst us) ∧ RpL F ks us ∧ ∀ k ∈ ks, Sml 1 k) ?_ (fun i F hi z => ?_) (fun F z => ?_)
    · exact ⟨(Kp.rfl).mk nD, dA3.put offD.1 offD.2, tA3.same (newS nD), Nat.zero_le _, [], [], rfl, upd_same, True.intro, fun y z => (nomatch z)⟩
    · obtain ⟨kpF, dkF, tF, _, ks, us, lk, gD, rl, hs⟩ := z
      have goF := kpF o _ offo.1 offo.2 go
      have lu : us.length = i := by rw [← rl.len, lk]
      refine ⟨rfl, _, rfl, _, rfl, _, rfl, _, _, rfl, rfl, .inr ⟨_, rfl, _, rfl, d, c, 2, rfl, dkF, by decide, by decide, fun r F2 r0 r1 kp2 dk2 => ?_⟩⟩
      have eg : ∃ g : Nat, g ≤ 1 ∧ (if decide (((mh : Nat) : Int) < 3) = true then (1 : Int) else 0) * r = ((g : Nat) : Int) := by
        by_cases h3 : ((mh : Nat) : Int) < 3
        · rw [decide_eq_true h3, if_pos rfl]
          exact ⟨r.toNat, by omega, by omega⟩
        · rw [decide_eq_false h3, if_neg (by decide)]
          exact ⟨0, by omega, by omega⟩
      obtain ⟨g, hg, eg⟩ := eg
      refine ⟨_, _, rfl, rfl, .inr ⟨by omega, by omega⟩, d, c, o, xs, g, congrArg (fun z => [V.ref d, V.ref o, V.int z]) eg, by omega, dk2, kp2 o _ offo.1 offo.2 goF, offo.1, offo.2, by omega, hxs, fun v t F3 kp3 dk3 rt st => ?_⟩
      have kp23 := kp2.trans kp3
      have gD3 := kp23 D _ offD.1 offD.2 gD
      have tF3 := TbS.kp (TbS.kp tF kp2 dkF) kp3 dk2
      have tk3 : Tk F F3 := (Tk.kp kp2 dkF).trans (Tk.kp kp3 dk2)
      have tkD : Tk F3 (upd F3 D (.lst (us ++ [v]))) := Tk.rfl.put (fun _ z => by rw [gD3] at z; cases z)
      refine ⟨us, gD3, small1000 (by omega), (kpF.trans kp23).mk nD, dk3.put offD.1 offD.2, TbS.putL tF3 gD3, hi, ks ++ [t], _, by rw [List.length_append, lk]; rfl, upd_same, ((rl.tk tk3).app (show RpL F3 [t] [v] from ⟨rt, True.intro⟩)).tk tkD, fun k hk => ?_⟩
      rcases List.mem_append.mp hk with h | h
      · exact hs k h
      · rw [List.mem_singleton.mp h]
        exact ⟨st.s, Nat.le_trans st.dp hg, st.nm⟩
    · obtain ⟨kpF, dkF, tF, _, ks, us, lk, gD, rl, hs⟩ := z
      have goF := kpF o _ offo.1 offo.2 go
      refine ⟨_, rfl, _, rfl, _, rfl, d, c, o, xs, 1, rfl, by decide, dkF, goF, offo.1, offo.2, by omega, hxs, fun vt t F2 kp2 dk2 rt dt => ?_⟩
      have gD2 := kp2 D _ offD.1 offD.2 gD
      have go2 := kp2 o _ offo.1 offo.2 goF
      have tF2 := TbS.kp tF kp2 dkF
      refine ⟨D, ks, us, t, vt, rfl, .inl gD2, rl.tk (Tk.kp kp2 dkF), rt, fun u F3 s3 ru => ?_⟩
      have go3 := s3 _ _ go2
      have dk3 := dk2.same s3
      have tF3 := tF2.same s3
      refine ⟨_, rfl, _, rfl, d, c, o, xs, 2, rfl, dk3, go3, offo.1, offo.2, by omega, ndx, by decide, by decide, fun p sz F4 kp4 dk4 hz hB => ?_⟩
      have go4 := kp4 o _ offo.1 offo.2 go3
      have tF4 := TbS.kp tF3 kp4 dk3
      have ru4 := ru.tk (Tk.kp kp4 dk3)
      obtain ⟨l1, l2, l3, l4⟩ := led_ok (sz := sz) (b := b) hB dt hs
      have hb3 : b ≤ 3 := by omega
      refine ⟨_, rfl, _, rfl, _, rfl, u, p, Kd.ledTo ks t, sz, b, rfl, by omega, tbk_knd l2, ru4, hz, hB, hb3, fun F5 s5 => ?_⟩
      refine ⟨_, _, rfl, rfl, ?_⟩
      have go5 := s5 _ _ go4
      have ge : decide ((300 : Int) < ((cm (mny sz b (Kd.ledTo ks t)) : Nat) : Int)) = (decide (300 < mny sz b (Kd.ledTo ks t)) || lng sz b (Kd.ledTo ks t)) := by
        rw [l3, Bool.or_false]
        refine decide_eq_decide.mpr ?_
        unfold cm
        omega
      refine ⟨_, rfl, _, rfl, _, rfl, _, rfl, u, p, Kd.ledTo ks t, sz, b, _, rfl, by omega, l2, l4, ru4.tk (Tk.of s5), hz.same s5, hB, hb3, ge, tF4.same s5, fun F6 s6 => ⟨_, rfl, iteF ?_⟩⟩
      have go6 := s6.at (tF4.same s5) go5 fun _ z => by cases z
      refine ⟨_, _, _, some (.ref o), _, _, _, _, rfl, (dk4.same s5).sm (tF4.same s5) s6, s6.2, .inr ?_⟩
      obtain ⟨n0, n1, n2, n3, rfl⟩ : ∃ n0 n1 n2 n3, xs = [n0, n1, n2, n3] := by
        match xs, lx4 with
        | [n0, n1, n2, n3], _ => exact ⟨n0, n1, n2, n3, rfl⟩
      have nd : (n0 ≠ n1 ∧ n0 ≠ n2) ∧ n1 ≠ n2 := by
        simp only [List.nodup_cons, List.mem_cons, List.not_mem_nil, or_false, not_or] at ndx
        exact ⟨⟨ndx.1.1, ndx.1.2.1⟩, ndx.2.1.1⟩
      exact ⟨o, n0, n1, n2, n3, rfl, go6, hxs n0 (by simp), hxs n1 (by simp), hxs n2 (by simp), nd.1.1, nd.1.2, nd.2⟩
  · obtain ⟨y3, y4, y5, y6, y7, y8, y9, y10, rfl, dkG, tbG, h⟩ := z
    rcases h with h | ⟨o, n0, n1, n2, n3, rfl, go, m0, m1, m2, q01, q02, q12⟩
    · exact absurd h (by decide)
    refine ⟨_, rfl, o, _, _, _, rfl, rfl, SqL.of go, rfl, (by show 2 ≤ sizeLine; decide), fun t1 nt1 => ?_⟩
    have s1 := newS (o := .tup [V.str n0, .int 3]) nt1
    have c1 : (upd G t1 (.tup [V.str n0, .int 3])) t1 = some (.tup [V.str n0, .int 3]) := upd_same
    have go1 := s1 _ _ go
    generalize upd G t1 (.tup [V.str n0, .int 3]) = F1 at s1 c1 go1 ⊢
    refine ⟨_, rfl, o, _, _, _, rfl, rfl, SqL.of go1, rfl, (by show 2 ≤ sizeLine; decide), fun t2 nt2 => ⟨(by show 2 ≤ sizeLine; decide), fun l nl => ?_⟩⟩
    have s2 := newS (o := .tup [V.str n1, .int 1]) nt2
    have s3 := newS (o := .lst [V.ref t1, .ref t2]) nl
    have c2 := s3 _ _ (show (upd F1 t2 (.tup [V.str n1, .int 1])) t2 = some (.tup [V.str n1, .int 1]) from upd_same)
    have c1 := s3 _ _ (s2 _ _ c1)
    have go2 := s3 _ _ (s2 _ _ go1)
    have gl : (upd (upd F1 t2 (.tup [V.str n1, .int 1])) l (.lst [V.ref t1, .ref t2])) l = some (.lst [V.ref t1, .ref t2]) := upd_same
    have sA := (s1.trans s2).trans s3
    generalize upd (upd F1 t2 (.tup [V.str n1, .int 1])) l (.lst [V.ref t1, .ref t2]) = F2 at sA c1 c2 go2 gl ⊢
    refine ⟨l, [V.ref t1, .ref t2], rfl, SqL.of gl, (fun x hx => ?_), fun ys S pm nS => ⟨S, ys, rfl, SqL.of upd_same, fun p ob np od oc => ?_⟩⟩
    · rcases List.mem_cons.mp hx with rfl | hx
      · exact ⟨t1, n0, 3, rfl, c1⟩
      · rw [List.mem_singleton.mp hx]
        exact ⟨t2, n1, 1, rfl, c2⟩
    have s4 := newS (o := .lst ys) nS
    have s5 := newS (o := .frz ob (.tup ys)) np
    have c1 := s5 _ _ (s4 _ _ c1)
    have c2 := s5 _ _ (s4 _ _ c2)
    have go3 := s5 _ _ (s4 _ _ go2)
    have gp : (upd (upd F2 S (.lst ys)) p (.frz ob (.tup ys))) p = some (.frz ob (.tup ys)) := upd_same
    have sB := (sA.trans s4).trans s5
    generalize upd (upd F2 S (.lst ys)) p (.frz ob (.tup ys)) = F3 at sB c1 c2 go3 gp ⊢
    obtain ⟨sz, hz, hB, l0, l1, l2⟩ : ∃ sz, Sz F3 p sz ∧ SzB sz ∧ look sz n0 = 3 ∧ look sz n1 = 1 ∧ look sz n2 = 0 := by
      have q10 := Ne.symm q01
      rcases perm2 pm with rfl | rfl
      · refine ⟨[(n0, 3), (n1, 1)], ⟨ob, [t1, t2], gp, od, oc, .cons c1 (.cons c2 .nil)⟩, ⟨?_, ?_, ?_⟩, ?_, ?_, ?_⟩
        · simp [q01]
        · intro kv h
          simp at h
          rcases h with rfl | rfl <;> simp
        · intro kv h
          simp at h
          rcases h with rfl | rfl <;> simp
        · simp [look]
        · simp [look, q01]
        · simp [look, q02, q12]
      · refine ⟨[(n1, 1), (n0, 3)], ⟨ob, [t2, t1], gp, od, oc, .cons c2 (.cons c1 .nil)⟩, ⟨?_, ?_, ?_⟩, ?_, ?_, ?_⟩
        · simp [q10]
        · intro kv h
          simp at h
          rcases h with rfl | rfl <;> simp
        · intro kv h
          simp at h
          rcases h with rfl | rfl <;> simp
        · simp [look, q10]
        · simp [look]
        · simp [look, q02, q12]
    refine ⟨_, rfl, o, n0, n1, n2, n3, rfl, go3, fun L us F4 s6 gL ed => ?_⟩
    have l12 : us.length = 12 := by rw [← Paired.len ed]; rfl
    have len : en < (edges n0 n1 n2).length := by show en < 12; omega
    obtain ⟨u, hu, ax, vk, rfl, ga, rk⟩ := Paired.at ed (List.getElem?_eq_getElem len)
    have me := List.getElem_mem len
    obtain ⟨k1, k2, k3⟩ := edge_ok l0 l1 l2 _ me
    have k4 := edge_opens m0 m1 m2 _ me
    generalize (edges n0 n1 n2)[en] = ee at ga rk k1 k2 k3 k4
    have tb4 : TbS T F4 := tbG.same (sB.trans s6)
    refine ⟨_, rfl, L, _, _, _, rfl, rfl, SqL.of gL, atI_nat hu, ?_⟩
    refine ⟨ax, _, rfl, SqT.of ga, rfl, _, _, rfl, _, _, rfl, rfl, ?_⟩
    exact ⟨_, rfl, _, rfl, _, rfl, vk, p, ee.1, sz, 3, ee.2, rfl, k1, k2, k4, rk, hz.same s6, hB, Nat.le_refl _, k3, tb4, fun G5 _ => q G5⟩
end
end Kq

/-! the end where some of the defs hold generator expressions -/
namespace Kg
open PySem PySem.Spec PyProof.Rows L2 LamX
/-- the def's code object, its table: empty -/
def TabOf (mg : Str → Option Value) (h : Heap) (x : Str) : Prop := ∃ (a : Addr) (o : Obj) (fd : FuncData) (c p : Addr), mg x = some (.ref a) ∧ h.get? a = some o ∧ o.data = .func fd ∧ fd.code = .ref c ∧ h.IsCode c p #[] ∧ h.TableAt c p #[]
theorem walk_ofNs {l : PySem.W.OpenLaw} {n k : Nat} {q : Program} {loose : List Str} {XP : (Str → Option Value) → Heap → Prop} {YP : World → Heap → Prop} {d : DefRec} {K : Params → PySem.W.Frag} {CX : World → CXT} {x : Str} (names : List Str)
    (hn : l.most = some n) (hn2 : n ≤ sizeLine) (hdf : d.params.defaults = []) (hr : Room k callerA) (hrec : (names.all fun y => (recsOf q).any fun e => e.name == y) = true) (hY : ∀ (w : World) (h : Heap), YP w h → (K w.params).In h)
    (F : ∀ (w : World) (mg : Str → Option Value) (fa : Addr) (h : Heap), YP w h → (K w.params).In h → h.Ns mainGlobals mg → mg d.name = some (.ref fa) → (∀ y ∈ names, TabOf mg h y) → LawAtS l w (K w.params) (CX w) k n x mg fa h)
    (hCX : ∀ (w : World) (H : Hp) (s : Shared) (e : Value) (s' : Shared), CX w [] H s (fun _ _ _ => False) e s' → False) :
    PySem.W.WalkO q loose XP YP l.row.toRowW d [] (fun f vs => PySem.call f vs) := by
  refine Att.attach_callB hn hdf fun w s₀ s₁ mg mb fa o pm cd doc a vs ns G Y ho hd hcd hmg hobj hints hlen hbits hg => ?_
  have KX := hY w _ Y
  have own : ∀ y ∈ names, TabOf mg s₁.heap y := fun y hy => by
    obtain ⟨dL, hm, hn1⟩ := List.any_eq_true.mp (List.all_eq_true.mp hrec y hy)
    have hn2 : dL.name = y := beq_iff_eq.mp hn1
    obtain ⟨a', o', fd', c', P', h1, h2, h3, h4, h5, h6⟩ := G.T.tab dL hm
    exact ⟨a', o', fd', c', P', by rw [← hn2]; exact h1, h2, h3, h4, h5, h6⟩
  obtain ⟨fd, cs, sp, hT, nT, C, hb, hsp, hF⟩ := F w mg fa _ Y KX G.T.g hmg own
  exact law_callTs KX G.T.g G.T.b G.T.builtins G.T.nolimit hg hT nT C G.T.bmain hobj hints (Nat.le_trans hlen hn2) hr hF hb (fun H hH hS => hsp H a ns hlen hbits hH hS) fun H e s' => hCX w H s₁ e s'
/-- such a def by what is written of it -/
theorem tabOf_at {K : PySem.W.Frag} {mg : Str → Option Value} {h : Heap} {x name qual : Str} {f c p : Addr} {params : Arguments} {body : List Stmt} {scope : Scope} {oc dV kV doc pm ct e : Value} {od an dd : Option Addr} {sl sl' : Array (Option Value)} {vs : Array Value} (X : K.In h) (T : TabOf mg h x) (g : mg x = some (.ref f))
    (l : K.lookup f = some ⟨oc, od, .func (PySem.W.fnOf name qual params body scope dV kV doc pm an (.ref c) ct), sl⟩) (t : K.lookup c = some ⟨e, dd, .fields vs, sl'⟩) (v : vs[11]? = some (.ref p)) :
    h.get? p = some { cls := .none, data := .fields #[] } ∧ PySem.W.CodeHd h c p := by
  obtain ⟨a', o', fd', c', P', h1, h2, h3, h4, h5, h6⟩ := T
  rw [g] at h1
  cases h1
  rw [X _ _ l] at h2
  cases h2
  cases h3
  cases h4
  obtain ⟨⟨oc', vc, e1, e2, e3, e4⟩, hP⟩ := id h6
  rw [X _ _ t] at e1
  cases e1
  cases e3
  rw [v] at e4
  cases e4
  exact ⟨hP, .of h5 h6⟩
end Kg

/-! classes held against one another, by what is written of them -/
namespace Kq
open PySem PySem.Spec PyProof.Rows L2 Kf Kg Kv GxR Kk
section
variable {K : PySem.W.Frag} {t : Value} {n C : Addr} {b : Bool}
theorem kit_self : PySem.W.kitOne K (.ref n) (.ref n) = some true := by
  unfold PySem.W.kitOne
  rw [if_pos (by simp)]
theorem kit_cl (iC : PySem.W.isClsIn K C = true) (tC : PySem.W.typeIn K (.ref C) = some (.type "type")) (s : PySem.W.subIn K t (.ref C) = some b) : PySem.W.kitCls K t (.ref C) = some b := by
  unfold PySem.W.isClsIn at iC
  show (if ((PySem.W.clsIn K C).isSome && PySem.W.typeIn K (.ref C) == some (.type "type")) = true then PySem.W.subIn K t (.ref C) else none) = _
  rw [if_pos (by rw [iC, tC]; simp)]
  exact s
theorem kit_no (ne : (Value.ref n == Value.ref C) = false) (iC : PySem.W.isClsIn K C = true) (tC : PySem.W.typeIn K (.ref C) = some (.type "type")) (s : PySem.W.subIn K (.ref n) (.ref C) = some false) : PySem.W.kitOne K (.ref n) (.ref C) = some false := by
  unfold PySem.W.kitOne
  rw [if_neg (by rw [ne]; exact Bool.false_ne_true)]
  exact kit_cl iC tC s
theorem kit_tyV (s : PySem.W.subIn K (.ref n) (.type "ValueError") = some true) : PySem.W.kitOne K (.ref n) (.type "ValueError") = some true := by
  unfold PySem.W.kitOne
  rw [if_neg (show ¬ (Value.ref n == Value.type "ValueError") = true from Bool.false_ne_true)]
  show (if PySem.W.kitMeta "ValueError" = true then PySem.W.subIn K (.ref n) (.type "ValueError") else none) = _
  rw [if_pos (by decide +kernel)]
  exact s
theorem any_no {c : Value} {r : List Value} (h : PySem.W.kitOne K t c = some false) (k : PySem.W.kitAny K t r = some false) : PySem.W.kitAny K t (c :: r) = some false := by
  unfold PySem.W.kitAny
  rw [h]
  exact k
theorem exm_yes {c : Value} (sB : PySem.W.subIn K (.ref C) (.type "BaseException") = some true) (iC : PySem.W.isClsIn K C = true) (tC : PySem.W.typeIn K (.ref C) = some (.type "type")) (s : PySem.W.subIn K c (.ref C) = some true) : PySem.W.exmOne K c (.ref C) = some true := by
  unfold PySem.W.exmOne
  rw [if_pos (by rw [sB]; simp)]
  exact kit_cl iC tC s
end
section
variable {P : Program} {w : World} {K : PySem.W.Frag} {mg : Str → Option Value} {base : Heap}
theorem okPlc {f fM : Addr} {fd fdM : FuncData} (F : Fun K "_law_place" "_law_place" tLPlc f fd) (bF : Binds K fd psPlc []) (gF : mg "_law_place" = some (.ref f))
    (GM : ∀ n, FnOk P w K mg base CX0 (n + 1) fM fdM psLMany (spLMany n)) (bM : Binds K fdM psLMany []) (gM : mg "_law_many" = some (.ref fM)) (kM : PySem.W.keepIn K (.ref fM) = true) (mn : mg "int" = none) : ∀ n, FnOk P w K mg base CX0 (n + 1) f fd psPlc (spPlc n)
  | 0 => noFn fun vs H Q E h => by
    obtain ⟨vk, p, vx, t, sz, b, x, i, _, hn, _⟩ := h
    omega
  | n + 1 => okPlc1 F bF gF (GM n) bM gM kM mn (okPlc F bF gF GM bM gM kM mn n)
end
end Kq

namespace Kq
open PySem PySem.Spec PyProof.Rows L2 Kf Kg Kv GxR Kk
theorem upOk {P : Program} {w : World} {K : PySem.W.Frag} {mg : Str → Option Value} {base : Heap} {CX : CXT} {j k : Nat} {f : Addr} {fd : FuncData} {ps : List Str} {sp : Sp} (F : FnOk P w K mg base CX j f fd ps sp) (h : j ≤ k) : FnOk P w K mg base CX k f fd ps sp :=
  ⟨F.len, fun A outer s H args us vs Q E hr => F.run A outer s H args us vs Q E (hr.mono h)⟩
theorem tt_of {x : Str} {q : Program} {mg : Str → Option Value} {h : Heap} (hrec : ((recsOf q).any fun e => e.name == x) = true)
    (tabs : ∀ e ∈ recsOf q, ∃ (a : Addr) (o : Obj) (fd : FuncData) (c p : Addr), mg e.name = some (.ref a) ∧ h.get? a = some o ∧ o.data = .func fd ∧ fd.code = .ref c ∧ h.IsCode c p #[] ∧ h.TableAt c p #[]) : Kg.TabOf mg h x := by
  obtain ⟨dL, hm, hn1⟩ := List.any_eq_true.mp hrec
  obtain ⟨a', o', fd', c', P', h1, h2, h3, h4, h5, h6⟩ := tabs dL hm
  exact ⟨a', o', fd', c', P', by rw [← (beq_iff_eq.mp hn1)]; exact h1, h2, h3, h4, h5, h6⟩
theorem tabX {base : Heap} {mg : Str → Option Value} {c p : Addr} (t : LamX.TabB base mg c p) : GxR.TabB base mg c p := ⟨t.code, t.bm, t.gP⟩
theorem all_mk {l : PySem.W.OpenLaw} {w : World} {K : PySem.W.Frag} {h : Heap} {mg : Str → Option Value} {fa cN cK x1 x2 x3 x4 x5 x6 x7 x8 x9 x10 x11 x12 f1 f2 f3 f4 f5 f6 f7 f8 f9 f10 f11 f12 f13 f14 f15 f16 f17 f18 f19 f20 f21 f22 f23 f24 f25 f26 f27 f28 f29 f30 f31 c9 p9 c11 p11 : Addr} (X : K.In h) (G : h.Ns mainGlobals mg) (hfa : mg "law" = some (.ref fa))
    (TT9 : Kg.TabOf mg h "listed")
    (TT11 : Kg.TabOf mg h "listed_tables")
    {od1 an1 od2 an2 od3 an3 od4 an4 od5 an5 od6 an6 od7 an7 od8 an8 od9 an9 od10 an10 od11 an11 od12 an12 od13 an13 od14 an14 od15 an15 od16 an16 od17 an17 od18 an18 od19 an19 od20 an20 od21 an21 od22 an22 od23 an23 od24 an24 od25 an25 od26 an26 od27 an27 od28 an28 od29 an29 od30 an30 od31 an31 dd9 dd11 : Option Addr} {sl1 sl2 sl3 sl4 sl5 sl6 sl7 sl8 sl9 sl10 sl11 sl12 sl13 sl14 sl15 sl16 sl17 sl18 sl19 sl20 sl21 sl22 sl23 sl24 sl25 sl26 sl27 sl28 sl29 sl30 sl31 sm9 sm11 : Array (Option Value)} {oc1 kV1 dc1 pm1 ct1 oc2 kV2 dc2 pm2 ct2 oc3 kV3 dc3 pm3 ct3 oc4 kV4 dc4 pm4 ct4 oc5 kV5 dc5 pm5 ct5 oc6 kV6 dc6 pm6 ct6 oc7 kV7 dc7 pm7 ct7 oc8 kV8 dc8 pm8 ct8 oc9 kV9 dc9 pm9 ct9 oc10 kV10 dc10 pm10 ct10 oc11 kV11 dc11 pm11 ct11 oc12 kV12 dc12 pm12 ct12 oc13 kV13 dc13 pm13 ct13 oc14 kV14 dc14 pm14 ct14 oc15 kV15 dc15 pm15 ct15 oc16 kV16 dc16 pm16 ct16 oc17 kV17 dc17 pm17 ct17 oc18 kV18 dc18 pm18 ct18 oc19 kV19 dc19 pm19 ct19 oc20 kV20 dc20 pm20 ct20 oc21 kV21 dc21 pm21 ct21 oc22 kV22 dc22 pm22 ct22 oc23 kV23 dc23 pm23 ct23 oc24 kV24 dc24 pm24 ct24 oc25 kV25 dc25 pm25 ct25 oc26 kV26 dc26 pm26 ct26 oc27 kV27 dc27 pm27 ct27 oc28 kV28 dc28 pm28 ct28 oc29 kV29 dc29 pm29 ct29 oc30 kV30 dc30 pm30 ct30 oc31 kV31 dc31 pm31 ct31 cd1 cd2 cd3 cd4 cd5 cd6 cd7 cd8 cd10 cd12 cd13 cd14 cd15 cd16 cd17 cd18 cd19 cd20 cd21 cd22 cd23 cd24 cd25 cd26 cd27 cd28 cd29 cd30 cd31 e9 e11 uM : Value} {vs9 vs11 : Array Value}
    (a1 : PySem.W.nsIn K mainGlobals "leads" = some (some (.ref f1))) (l1 : K.lookup f1 = some ⟨oc1, od1, .func (PySem.W.fnOf "leads" "leads" (defArgs tLeads) (defBody tLeads) (defScope tLeads) .none kV1 dc1 pm1 an1 cd1 ct1), sl1⟩)
      (q1 : PySem.W.codeIn K cd1 "leads" = true) (k1 : PySem.W.keepIn K (.ref f1) = true)
    (a2 : PySem.W.nsIn K mainGlobals "things_of" = some (some (.ref f2))) (l2 : K.lookup f2 = some ⟨oc2, od2, .func (PySem.W.fnOf "things_of" "things_of" (defArgs tThings) (defBody tThings) (defScope tThings) .none kV2 dc2 pm2 an2 cd2 ct2), sl2⟩)
      (q2 : PySem.W.codeIn K cd2 "things_of" = true) (k2 : PySem.W.keepIn K (.ref f2) = true)
    (a3 : PySem.W.nsIn K mainGlobals "worths_of" = some (some (.ref f3))) (l3 : K.lookup f3 = some ⟨oc3, od3, .func (PySem.W.fnOf "worths_of" "worths_of" (defArgs tWorths) (defBody tWorths) (defScope tWorths) .none kV3 dc3 pm3 an3 cd3 ct3), sl3⟩)
      (q3 : PySem.W.codeIn K cd3 "worths_of" = true) (k3 : PySem.W.keepIn K (.ref f3) = true)
    (a4 : PySem.W.nsIn K mainGlobals "cut" = some (some (.ref f4))) (l4 : K.lookup f4 = some ⟨oc4, od4, .func (PySem.W.fnOf "cut" "cut" (defArgs tCut) (defBody tCut) (defScope tCut) .none kV4 dc4 pm4 an4 cd4 ct4), sl4⟩)
      (q4 : PySem.W.codeIn K cd4 "cut" = true) (k4 : PySem.W.keepIn K (.ref f4) = true)
    (a5 : PySem.W.nsIn K mainGlobals "many_worths" = some (some (.ref f5))) (l5 : K.lookup f5 = some ⟨oc5, od5, .func (PySem.W.fnOf "many_worths" "many_worths" (defArgs tMany) (defBody tMany) (defScope tMany) .none kV5 dc5 pm5 an5 cd5 ct5), sl5⟩)
      (q5 : PySem.W.codeIn K cd5 "many_worths" = true) (k5 : PySem.W.keepIn K (.ref f5) = true)
    (a6 : PySem.W.nsIn K mainGlobals "many_lists" = some (some (.ref f6))) (l6 : K.lookup f6 = some ⟨oc6, od6, .func (PySem.W.fnOf "many_lists" "many_lists" (defArgs tManyL) (defBody tManyL) (defScope tManyL) .none kV6 dc6 pm6 an6 cd6 ct6), sl6⟩)
      (q6 : PySem.W.codeIn K cd6 "many_lists" = true) (k6 : PySem.W.keepIn K (.ref f6) = true)
    (a7 : PySem.W.nsIn K mainGlobals "many_runs" = some (some (.ref f7))) (l7 : K.lookup f7 = some ⟨oc7, od7, .func (PySem.W.fnOf "many_runs" "many_runs" (defArgs tRuns) (defBody tRuns) (defScope tRuns) .none kV7 dc7 pm7 an7 cd7 ct7), sl7⟩)
      (q7 : PySem.W.codeIn K cd7 "many_runs" = true) (k7 : PySem.W.keepIn K (.ref f7) = true)
    (a8 : PySem.W.nsIn K mainGlobals "has_long_table" = some (some (.ref f8))) (l8 : K.lookup f8 = some ⟨oc8, od8, .func (PySem.W.fnOf "has_long_table" "has_long_table" (defArgs tLong) (defBody tLong) (defScope tLong) .none kV8 dc8 pm8 an8 cd8 ct8), sl8⟩)
      (q8 : PySem.W.codeIn K cd8 "has_long_table" = true) (k8 : PySem.W.keepIn K (.ref f8) = true)
    (a9 : PySem.W.nsIn K mainGlobals "listed" = some (some (.ref f9))) (l9 : K.lookup f9 = some ⟨oc9, od9, .func (PySem.W.fnOf "listed" "listed" (defArgs tListed) (defBody tListed) (defScope tListed) .none kV9 dc9 pm9 an9 (.ref c9) ct9), sl9⟩)
      (q9 : PySem.W.codeIn K (.ref c9) "listed" = true) (k9 : PySem.W.keepIn K (.ref f9) = true)
    (a10 : PySem.W.nsIn K mainGlobals "listed_lists" = some (some (.ref f10))) (l10 : K.lookup f10 = some ⟨oc10, od10, .func (PySem.W.fnOf "listed_lists" "listed_lists" (defArgs tLLists) (defBody tLLists) (defScope tLLists) .none kV10 dc10 pm10 an10 cd10 ct10), sl10⟩)
      (q10 : PySem.W.codeIn K cd10 "listed_lists" = true) (k10 : PySem.W.keepIn K (.ref f10) = true)
    (a11 : PySem.W.nsIn K mainGlobals "listed_tables" = some (some (.ref f11))) (l11 : K.lookup f11 = some ⟨oc11, od11, .func (PySem.W.fnOf "listed_tables" "listed_tables" (defArgs tLTabs) (defBody tLTabs) (defScope tLTabs) .none kV11 dc11 pm11 an11 (.ref c11) ct11), sl11⟩)
      (q11 : PySem.W.codeIn K (.ref c11) "listed_tables" = true) (k11 : PySem.W.keepIn K (.ref f11) = true)
    (a12 : PySem.W.nsIn K mainGlobals "longer" = some (some (.ref f12))) (l12 : K.lookup f12 = some ⟨oc12, od12, .func (PySem.W.fnOf "longer" "longer" (defArgs tLonger) (defBody tLonger) (defScope tLonger) .none kV12 dc12 pm12 an12 cd12 ct12), sl12⟩)
      (q12 : PySem.W.codeIn K cd12 "longer" = true) (k12 : PySem.W.keepIn K (.ref f12) = true)
    (a13 : PySem.W.nsIn K mainGlobals "_law_deck" = some (some (.ref f13))) (l13 : K.lookup f13 = some ⟨oc13, od13, .func (PySem.W.fnOf "_law_deck" "_law_deck" (defArgs tDeck) (defBody tDeck) (defScope tDeck) .none kV13 dc13 pm13 an13 cd13 ct13), sl13⟩)
      (q13 : PySem.W.codeIn K cd13 "_law_deck" = true) (k13 : PySem.W.keepIn K (.ref f13) = true)
    (a14 : PySem.W.nsIn K mainGlobals "_law_mixed" = some (some (.ref f14))) (l14 : K.lookup f14 = some ⟨oc14, od14, .func (PySem.W.fnOf "_law_mixed" "_law_mixed" (defArgs tMixed) (defBody tMixed) (defScope tMixed) .none kV14 dc14 pm14 an14 cd14 ct14), sl14⟩)
      (q14 : PySem.W.codeIn K cd14 "_law_mixed" = true) (k14 : PySem.W.keepIn K (.ref f14) = true)
    (a15 : PySem.W.nsIn K mainGlobals "_law_draw" = some (some (.ref f15))) (l15 : K.lookup f15 = some ⟨oc15, od15, .func (PySem.W.fnOf "_law_draw" "_law_draw" (defArgs tDraw) (defBody tDraw) (defScope tDraw) .none kV15 dc15 pm15 an15 cd15 ct15), sl15⟩)
      (q15 : PySem.W.codeIn K cd15 "_law_draw" = true) (k15 : PySem.W.keepIn K (.ref f15) = true)
    (a16 : PySem.W.nsIn K mainGlobals "_law_names" = some (some (.ref f16))) (l16 : K.lookup f16 = some ⟨oc16, od16, .func (PySem.W.fnOf "_law_names" "_law_names" (defArgs tNames) (defBody tNames) (defScope tNames) .none kV16 dc16 pm16 an16 cd16 ct16), sl16⟩)
      (q16 : PySem.W.codeIn K cd16 "_law_names" = true) (k16 : PySem.W.keepIn K (.ref f16) = true)
    (a17 : PySem.W.nsIn K mainGlobals "_law_data" = some (some (.ref f17))) (l17 : K.lookup f17 = some ⟨oc17, od17, .func (PySem.W.fnOf "_law_data" "_law_data" (defArgs tData) (defBody tData) (defScope tData) .none kV17 dc17 pm17 an17 cd17 ct17), sl17⟩)
      (q17 : PySem.W.codeIn K cd17 "_law_data" = true) (k17 : PySem.W.keepIn K (.ref f17) = true)
    (a18 : PySem.W.nsIn K mainGlobals "_law_small" = some (some (.ref f18))) (l18 : K.lookup f18 = some ⟨oc18, od18, .func (PySem.W.fnOf "_law_small" "_law_small" (defArgs tSmall) (defBody tSmall) (defScope tSmall) .none kV18 dc18 pm18 an18 cd18 ct18), sl18⟩)
      (q18 : PySem.W.codeIn K cd18 "_law_small" = true) (k18 : PySem.W.keepIn K (.ref f18) = true)
    (a19 : PySem.W.nsIn K mainGlobals "_law_led_to" = some (some (.ref f19))) (l19 : K.lookup f19 = some ⟨oc19, od19, .func (PySem.W.fnOf "_law_led_to" "_law_led_to" (defArgs tLed) (defBody tLed) (defScope tLed) .none kV19 dc19 pm19 an19 cd19 ct19), sl19⟩)
      (q19 : PySem.W.codeIn K cd19 "_law_led_to" = true) (k19 : PySem.W.keepIn K (.ref f19) = true)
    (a20 : PySem.W.nsIn K mainGlobals "_law_sizes" = some (some (.ref f20))) (l20 : K.lookup f20 = some ⟨oc20, od20, .func (PySem.W.fnOf "_law_sizes" "_law_sizes" (defArgs tSizes) (defBody tSizes) (defScope tSizes) .none kV20 dc20 pm20 an20 cd20 ct20), sl20⟩)
      (q20 : PySem.W.codeIn K cd20 "_law_sizes" = true) (k20 : PySem.W.keepIn K (.ref f20) = true)
    (a21 : PySem.W.nsIn K mainGlobals "_law_is_number" = some (some (.ref f21))) (l21 : K.lookup f21 = some ⟨oc21, od21, .func (PySem.W.fnOf "_law_is_number" "_law_is_number" (defArgs tLNumber) (defBody tLNumber) (defScope tLNumber) .none kV21 dc21 pm21 an21 cd21 ct21), sl21⟩)
      (q21 : PySem.W.codeIn K cd21 "_law_is_number" = true) (k21 : PySem.W.keepIn K (.ref f21) = true)
    (a22 : PySem.W.nsIn K mainGlobals "_law_is_worth" = some (some (.ref f22))) (l22 : K.lookup f22 = some ⟨oc22, od22, .func (PySem.W.fnOf "_law_is_worth" "_law_is_worth" (defArgs tLWorth) (defBody tLWorth) (defScope tLWorth) .none kV22 dc22 pm22 an22 cd22 ct22), sl22⟩)
      (q22 : PySem.W.codeIn K cd22 "_law_is_worth" = true) (k22 : PySem.W.keepIn K (.ref f22) = true)
    (a23 : PySem.W.nsIn K mainGlobals "_law_small_worths" = some (some (.ref f23))) (l23 : K.lookup f23 = some ⟨oc23, od23, .func (PySem.W.fnOf "_law_small_worths" "_law_small_worths" (defArgs tLSw) (defBody tLSw) (defScope tLSw) .none kV23 dc23 pm23 an23 cd23 ct23), sl23⟩)
      (q23 : PySem.W.codeIn K cd23 "_law_small_worths" = true) (k23 : PySem.W.keepIn K (.ref f23) = true)
    (a24 : PySem.W.nsIn K mainGlobals "_law_power" = some (some (.ref f24))) (l24 : K.lookup f24 = some ⟨oc24, od24, .func (PySem.W.fnOf "_law_power" "_law_power" (defArgs tLPow) (defBody tLPow) (defScope tLPow) .none kV24 dc24 pm24 an24 cd24 ct24), sl24⟩)
      (q24 : PySem.W.codeIn K cd24 "_law_power" = true) (k24 : PySem.W.keepIn K (.ref f24) = true)
    (a25 : PySem.W.nsIn K mainGlobals "_law_many" = some (some (.ref f25))) (l25 : K.lookup f25 = some ⟨oc25, od25, .func (PySem.W.fnOf "_law_many" "_law_many" (defArgs tLMany) (defBody tLMany) (defScope tLMany) .none kV25 dc25 pm25 an25 cd25 ct25), sl25⟩)
      (q25 : PySem.W.codeIn K cd25 "_law_many" = true) (k25 : PySem.W.keepIn K (.ref f25) = true)
    (a26 : PySem.W.nsIn K mainGlobals "_law_is_table" = some (some (.ref f26))) (l26 : K.lookup f26 = some ⟨oc26, od26, .func (PySem.W.fnOf "_law_is_table" "_law_is_table" (defArgs tLTab) (defBody tLTab) (defScope tLTab) .none kV26 dc26 pm26 an26 cd26 ct26), sl26⟩)
      (q26 : PySem.W.codeIn K cd26 "_law_is_table" = true) (k26 : PySem.W.keepIn K (.ref f26) = true)
    (a27 : PySem.W.nsIn K mainGlobals "_law_place" = some (some (.ref f27))) (l27 : K.lookup f27 = some ⟨oc27, od27, .func (PySem.W.fnOf "_law_place" "_law_place" (defArgs tLPlc) (defBody tLPlc) (defScope tLPlc) .none kV27 dc27 pm27 an27 cd27 ct27), sl27⟩)
      (q27 : PySem.W.codeIn K cd27 "_law_place" = true) (k27 : PySem.W.keepIn K (.ref f27) = true)
    (a28 : PySem.W.nsIn K mainGlobals "_law_told" = some (some (.ref f28))) (l28 : K.lookup f28 = some ⟨oc28, od28, .func (PySem.W.fnOf "_law_told" "_law_told" (defArgs tLTold) (defBody tLTold) (defScope tLTold) .none kV28 dc28 pm28 an28 cd28 ct28), sl28⟩)
      (q28 : PySem.W.codeIn K cd28 "_law_told" = true) (k28 : PySem.W.keepIn K (.ref f28) = true)
    (a29 : PySem.W.nsIn K mainGlobals "_law_right" = some (some (.ref f29))) (l29 : K.lookup f29 = some ⟨oc29, od29, .func (PySem.W.fnOf "_law_right" "_law_right" (defArgs tLRight) (defBody tLRight) (defScope tLRight) .none kV29 dc29 pm29 an29 cd29 ct29), sl29⟩)
      (q29 : PySem.W.codeIn K cd29 "_law_right" = true) (k29 : PySem.W.keepIn K (.ref f29) = true)
    (a30 : PySem.W.nsIn K mainGlobals "_law_edges" = some (some (.ref f30))) (l30 : K.lookup f30 = some ⟨oc30, od30, .func (PySem.W.fnOf "_law_edges" "_law_edges" (defArgs tEdges) (defBody tEdges) (defScope tEdges) .none kV30 dc30 pm30 an30 cd30 ct30), sl30⟩)
      (q30 : PySem.W.codeIn K cd30 "_law_edges" = true) (k30 : PySem.W.keepIn K (.ref f30) = true)
    (a31 : PySem.W.nsIn K mainGlobals "law" = some (some (.ref f31))) (l31 : K.lookup f31 = some ⟨oc31, od31, .func (PySem.W.fnOf "law" "law" (defArgs tLaw) (defBody tLaw) (defScope tLaw) .none kV31 dc31 pm31 an31 cd31 ct31), sl31⟩)
      (q31 : PySem.W.codeIn K cd31 "law" = true) (k31 : PySem.W.keepIn K (.ref f31) = true)
    (t9 : K.lookup c9 = some ⟨e9, dd9, .fields vs9, sm9⟩) (v9 : vs9[11]? = some (.ref p9)) (n9 : K.lookup p9 = none)
    (t11 : K.lookup c11 = some ⟨e11, dd11, .fields vs11, sm11⟩) (v11 : vs11[11]? = some (.ref p11)) (n11 : K.lookup p11 = none)
    (aM : PySem.W.nsIn K mainGlobals "MOST" = some (some uM)) (rM : RelV (.int 300) uM)
    (aX : PySem.W.nsIn K mainGlobals "TooMany" = some (some (.ref cN))) (xP : PySem.W.excIn K cN [.type "ValueError", .type "Exception", .type "BaseException", .type "object"] "ValueError.__new__" = true) (kX : PySem.W.keepIn K (.ref cN) = true) (bX : PySem.W.subIn K (.ref cN) (.type "BaseException") = some true) (tX : PySem.W.typeIn K (.ref cN) = some (.type "type")) (vX : PySem.W.subIn K (.ref cN) (.type "ValueError") = some true)
    (gX : PySem.W.findIn K (.ref cN) "__getattribute__" = some (some (.builtin "BaseException.__getattribute__"))) (hX : PySem.W.findIn K (.ref cN) "__getattr__" = some none) (dX : PySem.W.hasDictIn K cN = true) (cX : PySem.W.findIn K (.ref cN) "__class__" = some (some (.builtin "object.__class__"))) (sX : PySem.W.specialIn K (.builtin "object.__class__") "__get__" = some (some (.builtin "getset_descriptor.__get__"))) (uX : PySem.W.takesIn K (.builtin "object.__class__") = some true) (mX : PySem.W.mroIn K cN (.type "object") = some true)
    (aK : PySem.W.nsIn K mainGlobals "KindError" = some (some (.ref cK))) (bK : PySem.W.subIn K (.ref cK) (.type "BaseException") = some true) (iK : PySem.W.isClsIn K cK = true) (tK : PySem.W.typeIn K (.ref cK) = some (.type "type")) (sK : PySem.W.subIn K (.ref cN) (.ref cK) = some true)
    (xa1 : PySem.W.nsIn K mainGlobals "Broken" = some (some (.ref x1))) (xn1 : (Value.ref cN == Value.ref x1) = false) (xi1 : PySem.W.isClsIn K x1 = true) (xt1 : PySem.W.typeIn K (.ref x1) = some (.type "type")) (xs1 : PySem.W.subIn K (.ref cN) (.ref x1) = some false)
    (xa2 : PySem.W.nsIn K mainGlobals "NoBack" = some (some (.ref x2))) (xn2 : (Value.ref cN == Value.ref x2) = false) (xi2 : PySem.W.isClsIn K x2 = true) (xt2 : PySem.W.typeIn K (.ref x2) = some (.type "type")) (xs2 : PySem.W.subIn K (.ref cN) (.ref x2) = some false)
    (xa3 : PySem.W.nsIn K mainGlobals "NoKind" = some (some (.ref x3))) (xn3 : (Value.ref cN == Value.ref x3) = false) (xi3 : PySem.W.isClsIn K x3 = true) (xt3 : PySem.W.typeIn K (.ref x3) = some (.type "type")) (xs3 : PySem.W.subIn K (.ref cN) (.ref x3) = some false)
    (xa4 : PySem.W.nsIn K mainGlobals "NoLead" = some (some (.ref x4))) (xn4 : (Value.ref cN == Value.ref x4) = false) (xi4 : PySem.W.isClsIn K x4 = true) (xt4 : PySem.W.typeIn K (.ref x4) = some (.type "type")) (xs4 : PySem.W.subIn K (.ref cN) (.ref x4) = some false)
    (xa5 : PySem.W.nsIn K mainGlobals "NoName" = some (some (.ref x5))) (xn5 : (Value.ref cN == Value.ref x5) = false) (xi5 : PySem.W.isClsIn K x5 = true) (xt5 : PySem.W.typeIn K (.ref x5) = some (.type "type")) (xs5 : PySem.W.subIn K (.ref cN) (.ref x5) = some false)
    (xa6 : PySem.W.nsIn K mainGlobals "NoRow" = some (some (.ref x6))) (xn6 : (Value.ref cN == Value.ref x6) = false) (xi6 : PySem.W.isClsIn K x6 = true) (xt6 : PySem.W.typeIn K (.ref x6) = some (.type "type")) (xs6 : PySem.W.subIn K (.ref cN) (.ref x6) = some false)
    (xa7 : PySem.W.nsIn K mainGlobals "NoText" = some (some (.ref x7))) (xn7 : (Value.ref cN == Value.ref x7) = false) (xi7 : PySem.W.isClsIn K x7 = true) (xt7 : PySem.W.typeIn K (.ref x7) = some (.type "type")) (xs7 : PySem.W.subIn K (.ref cN) (.ref x7) = some false)
    (xa8 : PySem.W.nsIn K mainGlobals "Ring" = some (some (.ref x8))) (xn8 : (Value.ref cN == Value.ref x8) = false) (xi8 : PySem.W.isClsIn K x8 = true) (xt8 : PySem.W.typeIn K (.ref x8) = some (.type "type")) (xs8 : PySem.W.subIn K (.ref cN) (.ref x8) = some false)
    (xa9 : PySem.W.nsIn K mainGlobals "Taken" = some (some (.ref x9))) (xn9 : (Value.ref cN == Value.ref x9) = false) (xi9 : PySem.W.isClsIn K x9 = true) (xt9 : PySem.W.typeIn K (.ref x9) = some (.type "type")) (xs9 : PySem.W.subIn K (.ref cN) (.ref x9) = some false)
    (xa10 : PySem.W.nsIn K mainGlobals "TooMuch" = some (some (.ref x10))) (xn10 : (Value.ref cN == Value.ref x10) = false) (xi10 : PySem.W.isClsIn K x10 = true) (xt10 : PySem.W.typeIn K (.ref x10) = some (.type "type")) (xs10 : PySem.W.subIn K (.ref cN) (.ref x10) = some false)
    (xa11 : PySem.W.nsIn K mainGlobals "Unbounded" = some (some (.ref x11))) (xn11 : (Value.ref cN == Value.ref x11) = false) (xi11 : PySem.W.isClsIn K x11 = true) (xt11 : PySem.W.typeIn K (.ref x11) = some (.type "type")) (xs11 : PySem.W.subIn K (.ref cN) (.ref x11) = some false)
    (xa12 : PySem.W.nsIn K mainGlobals "Used" = some (some (.ref x12))) (xn12 : (Value.ref cN == Value.ref x12) = false) (xi12 : PySem.W.isClsIn K x12 = true) (xt12 : PySem.W.typeIn K (.ref x12) = some (.type "type")) (xs12 : PySem.W.subIn K (.ref cN) (.ref x12) = some false)
    (z1 : PySem.W.nsIn K mainGlobals "range" = some none) (z2 : PySem.W.nsIn K mainGlobals "len" = some none) (z3 : PySem.W.nsIn K mainGlobals "list" = some none) (z4 : PySem.W.nsIn K mainGlobals "reversed" = some none) (z5 : PySem.W.nsIn K mainGlobals "tuple" = some none) (z6 : PySem.W.nsIn K mainGlobals "isinstance" = some none) (z7 : PySem.W.nsIn K mainGlobals "bool" = some none) (z8 : PySem.W.nsIn K mainGlobals "str" = some none) (z9 : PySem.W.nsIn K mainGlobals "int" = some none) (z10 : PySem.W.nsIn K mainGlobals "sorted" = some none) (z11 : PySem.W.nsIn K mainGlobals "dict" = some none) (z12 : PySem.W.nsIn K mainGlobals "min" = some none) (z13 : PySem.W.nsIn K mainGlobals "zip" = some none) (z14 : PySem.W.nsIn K mainGlobals "ValueError" = some none) (z15 : PySem.W.nsIn K mainGlobals "sum" = some none) (z16 : PySem.W.nsIn K mainGlobals "repr" = some none) :
    LawG l w K CX0 90 63 "_law_script" mg fa h := by
  have e := hfa.symm.trans (PySem.W.mg_of X G a31)
  cases e
  have F1 := fun_mk (st := tLeads) l1 q1 k1
  have b1 := F1.binds (ps := ["kind"]) fun _ _ _ _ _ _ us hl => match us, hl with | [_], _ => rfl
  have g1 := PySem.W.mg_of X G a1
  have F2 := fun_mk (st := tThings) l2 q2 k2
  have b2 := F2.binds (ps := ["sizes", "name"]) fun _ _ _ _ _ _ us hl => match us, hl with | [_, _], _ => rfl
  have g2 := PySem.W.mg_of X G a2
  have F3 := fun_mk (st := tWorths) l3 q3 k3
  have b3 := F3.binds (ps := psMany) fun _ _ _ _ _ _ us hl => match us, hl with | [_, _, _], _ => rfl
  have g3 := PySem.W.mg_of X G a3
  have F4 := fun_mk (st := tCut) l4 q4 k4
  have b4 := F4.binds (ps := ["many"]) fun _ _ _ _ _ _ us hl => match us, hl with | [_], _ => rfl
  have g4 := PySem.W.mg_of X G a4
  have F5 := fun_mk (st := tMany) l5 q5 k5
  have b5 := F5.binds (ps := psMany) fun _ _ _ _ _ _ us hl => match us, hl with | [_, _, _], _ => rfl
  have g5 := PySem.W.mg_of X G a5
  have F6 := fun_mk (st := tManyL) l6 q6 k6
  have b6 := F6.binds (ps := ["many", "bound"]) fun _ _ _ _ _ _ us hl => match us, hl with | [_, _], _ => rfl
  have g6 := PySem.W.mg_of X G a6
  have F7 := fun_mk (st := tRuns) l7 q7 k7
  have b7 := F7.binds (ps := ["many", "length"]) fun _ _ _ _ _ _ us hl => match us, hl with | [_, _], _ => rfl
  have g7 := PySem.W.mg_of X G a7
  have F8 := fun_mk (st := tLong) l8 q8 k8
  have b8 := F8.binds (ps := psMany) fun _ _ _ _ _ _ us hl => match us, hl with | [_, _, _], _ => rfl
  have g8 := PySem.W.mg_of X G a8
  have F9 := fun_mk (st := tListed) l9 q9 k9
  have b9 := F9.binds (ps := psMany) fun _ _ _ _ _ _ us hl => match us, hl with | [_, _, _], _ => rfl
  have g9 := PySem.W.mg_of X G a9
  have F10 := fun_mk (st := tLLists) l10 q10 k10
  have b10 := F10.binds (ps := psMany) fun _ _ _ _ _ _ us hl => match us, hl with | [_, _, _], _ => rfl
  have g10 := PySem.W.mg_of X G a10
  have F11 := fun_mk (st := tLTabs) l11 q11 k11
  have b11 := F11.binds (ps := psMany) fun _ _ _ _ _ _ us hl => match us, hl with | [_, _, _], _ => rfl
  have g11 := PySem.W.mg_of X G a11
  have F12 := fun_mk (st := tLonger) l12 q12 k12
  have b12 := F12.binds (ps := ["runs", "worths"]) fun _ _ _ _ _ _ us hl => match us, hl with | [_, _], _ => rfl
  have g12 := PySem.W.mg_of X G a12
  have F13 := fun_mk (st := tDeck) l13 q13 k13
  have b13 := F13.binds (ps := ["_law_script"]) fun _ _ _ _ _ _ us hl => match us, hl with | [_], _ => rfl
  have g13 := PySem.W.mg_of X G a13
  have F14 := fun_mk (st := tMixed) l14 q14 k14
  have b14 := F14.binds (ps := ["_law_cell", "_law_k"]) fun _ _ _ _ _ _ us hl => match us, hl with | [_, _], _ => rfl
  have g14 := PySem.W.mg_of X G a14
  have F15 := fun_mk (st := tDraw) l15 q15 k15
  have b15 := F15.binds (ps := ["_law_deck_here", "_law_most"]) fun _ _ _ _ _ _ us hl => match us, hl with | [_, _], _ => rfl
  have g15 := PySem.W.mg_of X G a15
  have F16 := fun_mk (st := tNames) l16 q16 k16
  have b16 := F16.binds (ps := ["_law_deck_here", "_law_many_here"]) fun _ _ _ _ _ _ us hl => match us, hl with | [_, _], _ => rfl
  have g16 := PySem.W.mg_of X G a16
  have F17 := fun_mk (st := tData) l17 q17 k17
  have b17 := F17.binds (ps := psData) fun _ _ _ _ _ _ us hl => match us, hl with | [_, _, _], _ => rfl
  have g17 := PySem.W.mg_of X G a17
  have F18 := fun_mk (st := tSmall) l18 q18 k18
  have b18 := F18.binds (ps := psData) fun _ _ _ _ _ _ us hl => match us, hl with | [_, _, _], _ => rfl
  have g18 := PySem.W.mg_of X G a18
  have F19 := fun_mk (st := tLed) l19 q19 k19
  have b19 := F19.binds (ps := ["_law_arguments", "_law_result"]) fun _ _ _ _ _ _ us hl => match us, hl with | [_, _], _ => rfl
  have g19 := PySem.W.mg_of X G a19
  have F20 := fun_mk (st := tSizes) l20 q20 k20
  have b20 := F20.binds (ps := psSizes) fun _ _ _ _ _ _ us hl => match us, hl with | [_, _, _], _ => rfl
  have g20 := PySem.W.mg_of X G a20
  have F21 := fun_mk (st := tLNumber) l21 q21 k21
  have b21 := F21.binds (ps := ["_law_thing"]) fun _ _ _ _ _ _ us hl => match us, hl with | [_], _ => rfl
  have g21 := PySem.W.mg_of X G a21
  have F22 := fun_mk (st := tLWorth) l22 q22 k22
  have b22 := F22.binds (ps := psLW) fun _ _ _ _ _ _ us hl => match us, hl with | [_, _, _], _ => rfl
  have g22 := PySem.W.mg_of X G a22
  have F23 := fun_mk (st := tLSw) l23 q23 k23
  have b23 := F23.binds (ps := psSw) fun _ _ _ _ _ _ us hl => match us, hl with | [_, _], _ => rfl
  have g23 := PySem.W.mg_of X G a23
  have F24 := fun_mk (st := tLPow) l24 q24 k24
  have b24 := F24.binds (ps := psPow) fun _ _ _ _ _ _ us hl => match us, hl with | [_, _], _ => rfl
  have g24 := PySem.W.mg_of X G a24
  have F25 := fun_mk (st := tLMany) l25 q25 k25
  have b25 := F25.binds (ps := psLMany) fun _ _ _ _ _ _ us hl => match us, hl with | [_, _, _], _ => rfl
  have g25 := PySem.W.mg_of X G a25
  have F26 := fun_mk (st := tLTab) l26 q26 k26
  have b26 := F26.binds (ps := psTab) fun _ _ _ _ _ _ us hl => match us, hl with | [_, _, _, _], _ => rfl
  have g26 := PySem.W.mg_of X G a26
  have F27 := fun_mk (st := tLPlc) l27 q27 k27
  have b27 := F27.binds (ps := psPlc) fun _ _ _ _ _ _ us hl => match us, hl with | [_, _, _, _], _ => rfl
  have g27 := PySem.W.mg_of X G a27
  have F28 := fun_mk (st := tLTold) l28 q28 k28
  have b28 := F28.binds (ps := psLTold) fun _ _ _ _ _ _ us hl => match us, hl with | [_, _, _], _ => rfl
  have g28 := PySem.W.mg_of X G a28
  have F29 := fun_mk (st := tLRight) l29 q29 k29
  have b29 := F29.binds (ps := psRight) fun _ _ _ _ _ _ us hl => match us, hl with | [_, _, _, _], _ => rfl
  have g29 := PySem.W.mg_of X G a29
  have F30 := fun_mk (st := tEdges) l30 q30 k30
  have b30 := F30.binds (ps := ["_law_opens"]) fun _ _ _ _ _ _ us hl => match us, hl with | [_], _ => rfl
  have g30 := PySem.W.mg_of X G a30
  have F31 := fun_mk (st := tLaw) l31 q31 k31
  have m_range := PySem.W.mg_none_of X G z1
  have m_len := PySem.W.mg_none_of X G z2
  have m_list := PySem.W.mg_none_of X G z3
  have m_reversed := PySem.W.mg_none_of X G z4
  have m_tuple := PySem.W.mg_none_of X G z5
  have m_isinstance := PySem.W.mg_none_of X G z6
  have m_bool := PySem.W.mg_none_of X G z7
  have m_str := PySem.W.mg_none_of X G z8
  have m_int := PySem.W.mg_none_of X G z9
  have m_sorted := PySem.W.mg_none_of X G z10
  have m_dict := PySem.W.mg_none_of X G z11
  have m_min := PySem.W.mg_none_of X G z12
  have m_zip := PySem.W.mg_none_of X G z13
  have m_ValueError := PySem.W.mg_none_of X G z14
  have m_sum := PySem.W.mg_none_of X G z15
  have m_repr := PySem.W.mg_none_of X G z16
  have C9 := Kg.funC_mk (st := tListed) l9 q9
  obtain ⟨h9, hc9⟩ := Kg.tabOf_at X TT9 g9 l9 t9 v9
  have C11 := Kg.funC_mk (st := tLTabs) l11 q11
  obtain ⟨h11, hc11⟩ := Kg.tabOf_at X TT11 g11 l11 t11 v11
  have gM := PySem.W.mg_of X G aM
  have tm : TM K mg cN := ⟨PySem.W.mg_of X G aX, xP, kX, bX, tX⟩
  have ni : TMI K mg cN cK := ⟨⟨gX, hX, bX, dX, cX, sX, uX, mX⟩, PySem.W.mg_of X G aK, exm_yes bK iK tK sK, kit_self, kit_tyV vX,
    ⟨x1, x2, x3, x4, x5, x6, x7, x8, x9, PySem.W.mg_of X G xa1, PySem.W.mg_of X G xa2, PySem.W.mg_of X G xa3, PySem.W.mg_of X G xa4, PySem.W.mg_of X G xa5, PySem.W.mg_of X G xa6, PySem.W.mg_of X G xa7, PySem.W.mg_of X G xa8, PySem.W.mg_of X G xa9, (any_no (kit_no xn1 xi1 xt1 xs1) (any_no (kit_no xn2 xi2 xt2 xs2) (any_no (kit_no xn3 xi3 xt3 xs3) (any_no (kit_no xn4 xi4 xt4 xs4) (any_no (kit_no xn5 xi5 xt5 xs5) (any_no (kit_no xn6 xi6 xt6 xs6) (any_no (kit_no xn7 xi7 xt7 xs7) (any_no (kit_no xn8 xi8 xt8 xs8) (any_no (kit_no xn9 xi9 xt9 xs9) rfl)))))))))⟩,
    ⟨x10, x11, x12, PySem.W.mg_of X G xa10, PySem.W.mg_of X G xa11, PySem.W.mg_of X G xa12, (any_no (kit_no xn10 xi10 xt10 xs10) (any_no (kit_no xn11 xi11 xt11 xs11) (any_no (kit_no xn12 xi12 xt12 xs12) rfl)))⟩⟩
  refine ⟨PySem.W.fnOf "law" "law" (defArgs tLaw) (defBody tLaw) (defScope tLaw) .none kV31 dc31 pm31 an31 cd31 ct31, [(c9, p9), (c11, p11)], spLaw K [p9, p11], ?T, fun s v => .of_eq rfl, fun H a ns hl _ hH hS => ⟨a, ns, rfl, hS, hl, ?S, fun _ => rfl⟩, fun base _ _ TB => ?_⟩
  case T =>
    intro p hp
    rcases List.mem_cons.mp hp with e | hp
    · rw [e]; exact ⟨h9, n9, hc9⟩
    rw [List.mem_singleton.mp hp]; exact ⟨h11, n11, hc11⟩
  case S =>
    intro p hp
    rcases List.mem_cons.mp hp with e | hp
    · rw [e]; exact ⟨#[], hH (c9, p9) (by simp), True.intro⟩
    rw [List.mem_singleton.mp hp]; exact ⟨#[], hH (c11, p11) (by simp), True.intro⟩
  have T9 := tabX (TB (c9, p9) (by simp))
  have M9 : p9 ∈ [p9, p11] := by simp
  have T11 := tabX (TB (c11, p11) (by simp))
  have M11 : p11 ∈ [p9, p11] := by simp
  have D0 : ∀ k, FnOk l.prog w K mg base CX0 (k + 2) f15 _ ["_law_deck_here", "_law_most"] spDraw := fun k => okDraw F15 F14 b14 g14
  have CU : ∀ k, FnOk l.prog w K mg base CX0 (k + 1) f4 _ ["many"] spCut := fun k => okCut F4 gM rM m_min
  have TH : ∀ k, FnOk l.prog w K mg base CX0 (k + 1) f2 _ ["sizes", "name"] spThings := fun k => okThings F2
  have ML : ∀ k, FnOk l.prog w K mg base CX0 (k + 2) f6 _ ["many", "bound"] spManyL := fun k => okManyL F6 (CU k) b4 g4 k4 gM rM m_range
  have MR : ∀ k, FnOk l.prog w K mg base CX0 (k + 2) f7 _ ["many", "length"] spRuns := fun k => okRuns F7 (CU k) b4 g4 k4 m_range
  have MA := okMany (P := l.prog) (w := w) (base := base) F5 b5 g5 CU b4 g4 k4 TH b2 g2 k2 ML b6 g6 k6 MR b7 g7 k7
  have LG := okLong (P := l.prog) (w := w) (base := base) (n := 9) (k := 20) F8 (okLeads (k := 19) F1) b1 g1 k1 (upOk (MA 9) (by decide)) b5 g5 k5 gM rM
  have LN : ∀ k, FnOk l.prog w K mg base CX0 (k + 1) f12 _ ["runs", "worths"] (spLonger K) := fun k => okLonger F12
  have LI := okListed (P := l.prog) (w := w) (base := base) (T := [p9, p11]) C9 T9 M9 b9 g9 k9 MA b5 g5 k5 TH b2 g2 k2 F10 b10 g10 LN b12 g12 k12 C11 T11 M11 b11 g11 k11 m_range m_tuple m_len m_zip 9
  have WO := okWorths (P := l.prog) (w := w) (base := base) (T := [p9, p11]) (n := 9) (k := 76) F3 tm (upOk (MA 9) (by decide)) b5 g5 k5 (upOk LG (by decide)) b8 g8 k8 LI b9 g9 k9 gM rM
  have TO := okLTold (P := l.prog) (w := w) (base := base) (T := [p9, p11]) (n := 9) (k := 77) F28 tm ni WO b3 g3 k3 m_isinstance m_ValueError
  have PW : ∀ k, FnOk l.prog w K mg base CX0 (k + 1) f24 _ psPow spLPow := fun k => okLPow F24 m_range m_min
  have LM := okLMany (P := l.prog) (w := w) (base := base) F25 b25 g25 PW b24 g24 k24 m_dict m_range m_min m_sum
  have LW := okLWorth (P := l.prog) (w := w) (base := base) F22 b22 g22 F21 b21 g21 m_isinstance m_bool m_tuple m_str m_len m_int m_dict 6
  have SW := okSw (P := l.prog) (w := w) (base := base) F23 b23 g23 m_dict m_range
  have TA := okTab (P := l.prog) (w := w) (base := base) (k := 0) F26 b26 g26 (upOk LW (by decide)) b22 g22 k22 SW b23 g23 k23 m_isinstance m_tuple m_len m_repr 9
  have PL := okPlc (P := l.prog) (w := w) (base := base) F27 b27 g27 LM b25 g25 k25 m_int 9
  have RI := okRight (P := l.prog) (w := w) (base := base) (T := [p9, p11]) (k := 81) F29 (upOk (LM 9) (by decide)) b25 g25 k25 (upOk TO (by decide)) b28 g28 k28 (TA.up (by decide)) b26 g26 k26 (upOk PL (by decide)) b27 g27 k27 m_range m_isinstance m_tuple m_len m_list
  have DA := okData (P := l.prog) (w := w) (base := base) F17 b17 g17 F15 b15 g15 F14 b14 g14 m_len 2
  have SM := okSmall (P := l.prog) (w := w) (base := base) F18 b18 g18 F15 b15 g15 F14 b14 g14 m_len 2
  have NM := okNames (P := l.prog) (w := w) (base := base) (k := 0) F16 (D0 0) b15 g15 k15 m_list m_range
  have SZ := okSizes (P := l.prog) (w := w) (base := base) (k := 0) F20 (D0 0) b15 g15 k15 m_sorted m_tuple m_int
  exact (okLaw (k := 81) F31 (okDeck (k := 81) F13 m_list m_reversed) b13 g13 k13 (D0 80) b15 g15 k15 (upOk NM (by decide)) b16 g16 k16 (upOk SM (by decide)) b18 g18 k18 RI b29 g29 k29 (upOk DA (by decide)) b17 g17 k17 (upOk SZ (by decide)) b20 g20 k20 (okLed (k := 81) F19 m_reversed) b19 g19 k19 (upOk (LM 9) (by decide)) b25 g25 k25 (okEdges (k := 81) F30) b30 g30 k30 m_range m_int m_tuple m_sorted).up (by decide)
end Kq
open PySem PySem.W PyProof.Rows
set_option maxRecDepth 100000 in
set_option maxHeartbeats 0 in
theorem PySem.Challenge.cw_kindalone_k07_tables_in_order_holds : PySem.Challenge.rw_kindalone_k07_tables_in_order.Holds := by
  w_on; o_law; k_head; (case hw => w_witness2)
  k_fill
  refine Kf.walk_ofG (l := PySem.Challenge.rw_kindalone_k07_tables_in_order) (n := 63) (k := 90) (x := "_law_script") (CX := fun _ => L2.CX0) rfl (by decide) rfl ⟨rfl, by decide, by decide⟩ (fun w h Y => PySem.W.kIn_of Y) ?F (fun _ _ _ _ _ h => h)
  case F =>
    intro w mg fa h Y KX G hmg tabs
    have TT9 : Kg.TabOf mg h "listed" := by
      refine Kq.tt_of ?_ tabs
      decide +kernel
    have TT11 : Kg.TabOf mg h "listed_tables" := by
      refine Kq.tt_of ?_ tabs
      decide +kernel
    refine' Kq.all_mk KX G hmg TT9 TT11 ?a1 ?l1 ?q1 ?k1 ?a2 ?l2 ?q2 ?k2 ?a3 ?l3 ?q3 ?k3 ?a4 ?l4 ?q4 ?k4 ?a5 ?l5 ?q5 ?k5 ?a6 ?l6 ?q6 ?k6 ?a7 ?l7 ?q7 ?k7 ?a8 ?l8 ?q8 ?k8 ?a9 ?l9 ?q9 ?k9 ?a10 ?l10 ?q10 ?k10 ?a11 ?l11 ?q11 ?k11 ?a12 ?l12 ?q12 ?k12 ?a13 ?l13 ?q13 ?k13 ?a14 ?l14 ?q14 ?k14 ?a15 ?l15 ?q15 ?k15 ?a16 ?l16 ?q16 ?k16 ?a17 ?l17 ?q17 ?k17 ?a18 ?l18 ?q18 ?k18 ?a19 ?l19 ?q19 ?k19 ?a20 ?l20 ?q20 ?k20 ?a21 ?l21 ?q21 ?k21 ?a22 ?l22 ?q22 ?k22 ?a23 ?l23 ?q23 ?k23 ?a24 ?l24 ?q24 ?k24 ?a25 ?l25 ?q25 ?k25 ?a26 ?l26 ?q26 ?k26 ?a27 ?l27 ?q27 ?k27 ?a28 ?l28 ?q28 ?k28 ?a29 ?l29 ?q29 ?k29 ?a30 ?l30 ?q30 ?k30 ?a31 ?l31 ?q31 ?k31 ?t9 ?v9 ?n9 ?t11 ?v11 ?n11 ?aM ?rM ?aX ?xP ?kX ?bX ?tX ?vX ?gX ?hX ?dX ?cX ?sX ?uX ?mX ?aK ?bK ?iK ?tK ?sK ?xa1 ?xn1 ?xi1 ?xt1 ?xs1 ?xa2 ?xn2 ?xi2 ?xt2 ?xs2 ?xa3 ?xn3 ?xi3 ?xt3 ?xs3 ?xa4 ?xn4 ?xi4 ?xt4 ?xs4 ?xa5 ?xn5 ?xi5 ?xt5 ?xs5 ?xa6 ?xn6 ?xi6 ?xt6 ?xs6 ?xa7 ?xn7 ?xi7 ?xt7 ?xs7 ?xa8 ?xn8 ?xi8 ?xt8 ?xs8 ?xa9 ?xn9 ?xi9 ?xt9 ?xs9 ?xa10 ?xn10 ?xi10 ?xt10 ?xs10 ?xa11 ?xn11 ?xi11 ?xt11 ?xs11 ?xa12 ?xn12 ?xi12 ?xt12 ?xs12 ?z1 ?z2 ?z3 ?z4 ?z5 ?z6 ?z7 ?z8 ?z9 ?z10 ?z11 ?z12 ?z13 ?z14 ?z15 ?z16
    (case a1 => k_is); (case l1 => k_is); (case q1 => k_is); (case k1 => k_is)
    (case a2 => k_is); (case l2 => k_is); (case q2 => k_is); (case k2 => k_is)
    (case a3 => k_is); (case l3 => k_is); (case q3 => k_is); (case k3 => k_is)
    (case a4 => k_is); (case l4 => k_is); (case q4 => k_is); (case k4 => k_is)
    (case a5 => k_is); (case l5 => k_is); (case q5 => k_is); (case k5 => k_is)
    (case a6 => k_is); (case l6 => k_is); (case q6 => k_is); (case k6 => k_is)
    (case a7 => k_is); (case l7 => k_is); (case q7 => k_is); (case k7 => k_is)
    (case a8 => k_is); (case l8 => k_is); (case q8 => k_is); (case k8 => k_is)
    (case a9 => k_is); (case l9 => k_is); (case q9 => k_is); (case k9 => k_is)
    (case a10 => k_is); (case l10 => k_is); (case q10 => k_is); (case k10 => k_is)
    (case a11 => k_is); (case l11 => k_is); (case q11 => k_is); (case k11 => k_is)
    (case a12 => k_is); (case l12 => k_is); (case q12 => k_is); (case k12 => k_is)
    (case a13 => k_is); (case l13 => k_is); (case q13 => k_is); (case k13 => k_is)
    (case a14 => k_is); (case l14 => k_is); (case q14 => k_is); (case k14 => k_is)
    (case a15 => k_is); (case l15 => k_is); (case q15 => k_is); (case k15 => k_is)
    (case a16 => k_is); (case l16 => k_is); (case q16 => k_is); (case k16 => k_is)
    (case a17 => k_is); (case l17 => k_is); (case q17 => k_is); (case k17 => k_is)
    (case a18 => k_is); (case l18 => k_is); (case q18 => k_is); (case k18 => k_is)
    (case a19 => k_is); (case l19 => k_is); (case q19 => k_is); (case k19 => k_is)
    (case a20 => k_is); (case l20 => k_is); (case q20 => k_is); (case k20 => k_is)
    (case a21 => k_is); (case l21 => k_is); (case q21 => k_is); (case k21 => k_is)
    (case a22 => k_is); (case l22 => k_is); (case q22 => k_is); (case k22 => k_is)
    (case a23 => k_is); (case l23 => k_is); (case q23 => k_is); (case k23 => k_is)
    (case a24 => k_is); (case l24 => k_is); (case q24 => k_is); (case k24 => k_is)
    (case a25 => k_is); (case l25 => k_is); (case q25 => k_is); (case k25 => k_is)
    (case a26 => k_is); (case l26 => k_is); (case q26 => k_is); (case k26 => k_is)
    (case a27 => k_is); (case l27 => k_is); (case q27 => k_is); (case k27 => k_is)
    (case a28 => k_is); (case l28 => k_is); (case q28 => k_is); (case k28 => k_is)
    (case a29 => k_is); (case l29 => k_is); (case q29 => k_is); (case k29 => k_is)
    (case a30 => k_is); (case l30 => k_is); (case q30 => k_is); (case k30 => k_is)
    (case a31 => k_is); (case l31 => k_is); (case q31 => k_is); (case k31 => k_is)
    (case t9 => k_is); (case v9 => rfl); (case n9 => rfl)
    (case t11 => k_is); (case v11 => rfl); (case n11 => rfl)
    (case aM => k_is); (case rM => exact ⟨_, rfl⟩)
    (case aX => k_is); (case xP => k_exc); (case kX => k_is); (case bX => k_is); (case tX => k_is); (case vX => k_is); (case gX => k_is); (case hX => k_is); (case dX => k_is); (case cX => k_is); (case sX => k_is); (case uX => k_is); (case mX => k_is); (case aK => k_is); (case bK => k_is); (case iK => k_is); (case tK => k_is); (case sK => k_is)
    (case xa1 => k_is); (case xn1 => rfl); (case xi1 => k_is); (case xt1 => k_is); (case xs1 => k_is)
    (case xa2 => k_is); (case xn2 => rfl); (case xi2 => k_is); (case xt2 => k_is); (case xs2 => k_is)
    (case xa3 => k_is); (case xn3 => rfl); (case xi3 => k_is); (case xt3 => k_is); (case xs3 => k_is)
    (case xa4 => k_is); (case xn4 => rfl); (case xi4 => k_is); (case xt4 => k_is); (case xs4 => k_is)
    (case xa5 => k_is); (case xn5 => rfl); (case xi5 => k_is); (case xt5 => k_is); (case xs5 => k_is)
    (case xa6 => k_is); (case xn6 => rfl); (case xi6 => k_is); (case xt6 => k_is); (case xs6 => k_is)
    (case xa7 => k_is); (case xn7 => rfl); (case xi7 => k_is); (case xt7 => k_is); (case xs7 => k_is)
    (case xa8 => k_is); (case xn8 => rfl); (case xi8 => k_is); (case xt8 => k_is); (case xs8 => k_is)
    (case xa9 => k_is); (case xn9 => rfl); (case xi9 => k_is); (case xt9 => k_is); (case xs9 => k_is)
    (case xa10 => k_is); (case xn10 => rfl); (case xi10 => k_is); (case xt10 => k_is); (case xs10 => k_is)
    (case xa11 => k_is); (case xn11 => rfl); (case xi11 => k_is); (case xt11 => k_is); (case xs11 => k_is)
    (case xa12 => k_is); (case xn12 => rfl); (case xi12 => k_is); (case xt12 => k_is); (case xs12 => k_is)
    (case z1 => k_is); (case z2 => k_is); (case z3 => k_is); (case z4 => k_is); (case z5 => k_is); (case z6 => k_is); (case z7 => k_is); (case z8 => k_is); (case z9 => k_is); (case z10 => k_is); (case z11 => k_is); (case z12 => k_is); (case z13 => k_is); (case z14 => k_is); (case z15 => k_is); (case z16 => k_is)
