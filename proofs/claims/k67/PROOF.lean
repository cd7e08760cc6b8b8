import PyProof.Rows.All
import Wide.All
import OpenK.AllK
import Wide.FinOn
import HandS.Base
import HandS.Call
import HandS.List
import HandS.Comp
import HandS.Ends
import HandS.Dict
import HandS.Iter
import HandS.Text
import HandS.Words
import KE.KIsAll
import KE.KTryMore
import HandS.More
import HandS.Exc
import HandS.ExcInit
import HandS.ClsMeth
import HandS.Walk
import HandS.ExcIs
import HandS.ExcField
import KE.KExcIs
import HandS.IsInst
import HandS.FStr
import HandS.TryOnly
import HandS.WordsExc
import HandS.Property
import HandS.OwnEq
import HandS.Conv
import HandS.Set
import HandS.Strs
import HandS.SetBool
import KE.GoesEnum
import HandS.Star
import HandS.TupAny
import PyProof.EqAt
import PyProof.EqKinds
import PyProof.TupleCall
import HandS.Head0
import HandS.Head1
import HandS.Head2
import HandS.HeadEnd
import HandS.HeadHook1
import HandS.HeadHook2
import HandS.HeadHook3
import HandS.HeadHook4
import HandS.HeadWalk
import HandS.HeadNt
import HandS.Head3
import HandS.Lambda
import HandS.WordsList
import KE.GoesZip
import KE.GoesMore
import KE.KDictZip
import HandS.Rev
import HandS.ListEq
import PyProof.DictUpdate
import PyProof.DictDisplay
import HandS.DictComp
import HandS.DictTup
import KE.KDictCopyH
import KE.KDictKeyed
import KE.KeyNested
import HandS.TupMul
import KE.KDictWalk
import HandS.GenYield
import HandS.GenList
import HandS.Sort
import PyProof.Rows.SortShellAny
import PyProof.Rows.SortStr
import HandS.Wide
import PySem.Challenge.RW_loginstacks_k67_whole_covers_counted
set_option Elab.async false
set_option linter.all false
set_option maxRecDepth 100000
set_option maxHeartbeats 4000000
namespace LS
open PySem L2
abbrev rwL : PySem.W.OpenLaw := PySem.Challenge.rw_loginstacks_k67_whole_covers_counted
def top (i : Nat) : Stmt := PySem.Challenge.pw_loginstacks_k67_whole_covers_counted.main.body.getD i (.Pass ⟨0, 0, 0, 0⟩)
abbrev i__wall : Nat := 0
abbrev i_is_number : Nat := 2
abbrev i_StackError : Nat := 4
abbrev i_InvalidRule : Nat := 5
abbrev i_InvalidStack : Nat := 6
abbrev i_TooMany : Nat := 7
abbrev i_Rule : Nat := 15
abbrev i_is_word : Nat := 16
abbrev i_is_action : Nat := 17
abbrev i_actions_of : Nat := 18
abbrev i_Stack : Nat := 24
abbrev i_rules_of : Nat := 25
abbrev i_depth_of : Nat := 26
abbrev i_first_misfit : Nat := 27
abbrev i_Teller : Nat := 29
abbrev i_Run : Nat := 30
abbrev i_run_of : Nat := 31
abbrev i_whole_run : Nat := 32
abbrev i_word_of : Nat := 33
abbrev i_leads : Nat := 34
abbrev i_answers_with : Nat := 36
abbrev i_words_of : Nat := 37
abbrev i_with_result : Nat := 38
abbrev i_answer_count : Nat := 39
abbrev i_in_count : Nat := 40
abbrev i_answers_in : Nat := 41
abbrev i_Questions : Nat := 43
abbrev i_all_orders : Nat := 45
abbrev i_cover : Nat := 48
abbrev i_cover_text : Nat := 49
abbrev i_shortest_cover : Nat := 50
abbrev i_places_of : Nat := 51
abbrev i_settling_rows : Nat := 52
abbrev i_rows_behind : Nat := 53
abbrev i_results_told : Nat := 54
abbrev i_results_text : Nat := 55
abbrev i__law_taken : Nat := 57
abbrev i__law_control : Nat := 58
abbrev i__law_stack : Nat := 59
abbrev i__law_names : Nat := 60
abbrev i_law : Nat := 61
def loose : List PySem.Str := (["_wall", "is_number", "StackError", "InvalidRule", "InvalidStack", "TooMany", "LETTERS", "LONGEST_WORD", "RESULTS", "ACTIONS", "LONGEST_JUMP", "CONTROLS", "Rule", "is_word", "is_action", "actions_of", "MOST_ENTRIES", "MOST_RULES", "MOST_MODULES", "MOST_DEPTH"] : List PySem.Str) ++ (["Stack", "rules_of", "depth_of", "first_misfit", "Teller", "Run", "run_of", "whole_run", "word_of", "leads", "answers_with", "words_of", "with_result", "answer_count", "in_count", "answers_in", "Questions", "all_orders", "MOST_ORDERED", "cover"] : List PySem.Str) ++ (["cover_text", "shortest_cover", "places_of", "settling_rows", "rows_behind", "results_told", "results_text", "_law_taken", "_law_control", "_law_stack", "_law_names"] : List PySem.Str)
abbrev n__wall : List PySem.Str := ["k"]
abbrev n_is_number : List PySem.Str := ["value", "least", "most"]
abbrev n_InvalidRule___init__ : List PySem.Str := ["self", "part"]
abbrev j_InvalidRule___init__ : Nat := 0
abbrev n_InvalidStack___init__ : List PySem.Str := ["self", "index"]
abbrev j_InvalidStack___init__ : Nat := 0
abbrev n_Rule___init__ : List PySem.Str := ["self", "module", "control", "actions"]
abbrev j_Rule___init__ : Nat := 0
abbrev n_Rule_module : List PySem.Str := ["self"]
abbrev j_Rule_module : Nat := 1
abbrev n_Rule_control : List PySem.Str := ["self"]
abbrev j_Rule_control : Nat := 2
abbrev n_Rule_kind : List PySem.Str := ["self", "word"]
abbrev j_Rule_kind : Nat := 3
abbrev n_Rule___eq__ : List PySem.Str := ["self", "other"]
abbrev j_Rule___eq__ : Nat := 4
abbrev n_is_word : List PySem.Str := ["value", "letter"]
abbrev n_is_action : List PySem.Str := ["value"]
abbrev n_actions_of : List PySem.Str := ["control", "action"]
abbrev n_Stack___init__ : List PySem.Str := ["self", "entries", "misfit", "entry", "rule"]
abbrev j_Stack___init__ : Nat := 0
abbrev n_Stack_entries : List PySem.Str := ["self"]
abbrev j_Stack_entries : Nat := 1
abbrev n_Stack_rules : List PySem.Str := ["self"]
abbrev j_Stack_rules : Nat := 2
abbrev n_Stack_modules : List PySem.Str := ["self"]
abbrev j_Stack_modules : Nat := 3
abbrev n_Stack___len__ : List PySem.Str := ["self"]
abbrev j_Stack___len__ : Nat := 4
abbrev n_Stack___getitem__ : List PySem.Str := ["self", "at"]
abbrev j_Stack___getitem__ : Nat := 5
abbrev n_Stack___iter__ : List PySem.Str := ["self"]
abbrev j_Stack___iter__ : Nat := 6
abbrev n_Stack___add__ : List PySem.Str := ["self", "other", "entries"]
abbrev j_Stack___add__ : Nat := 7
abbrev n_Stack___eq__ : List PySem.Str := ["self", "other"]
abbrev j_Stack___eq__ : Nat := 8
abbrev n_Stack_without : List PySem.Str := ["self", "numbers"]
abbrev j_Stack_without : Nat := 9
abbrev n_Stack_spliced : List PySem.Str := ["self", "index", "count", "entries"]
abbrev j_Stack_spliced : Nat := 10
abbrev n_rules_of : List PySem.Str := ["entry"]
abbrev n_depth_of : List PySem.Str := ["entry", "inner"]
abbrev n_first_misfit : List PySem.Str := ["entries", "rules", "index", "entry", "rule"]
abbrev n_Teller___init__ : List PySem.Str := ["self", "answers"]
abbrev j_Teller___init__ : Nat := 0
abbrev n_Teller_tell : List PySem.Str := ["self", "module"]
abbrev j_Teller_tell : Nat := 1
abbrev n_Run___init__ : List PySem.Str := ["self", "teller"]
abbrev j_Run___init__ : Nat := 0
abbrev n_Run_go_through : List PySem.Str := ["self", "stack", "first", "began", "number", "left_out", "entry", "action"]
abbrev j_Run_go_through : Nat := 1
abbrev n_Run_ask : List PySem.Str := ["self", "rule", "number"]
abbrev j_Run_ask : Nat := 2
abbrev n_Run_change_mark : List PySem.Str := ["self", "action", "number", "began"]
abbrev j_Run_change_mark : Nat := 3
abbrev n_Run_is_end : List PySem.Str := ["self", "action"]
abbrev j_Run_is_end : Nat := 4
abbrev n_run_of : List PySem.Str := ["stack", "teller", "run"]
abbrev n_whole_run : List PySem.Str := ["stack", "answers"]
abbrev n_word_of : List PySem.Str := ["run"]
abbrev n_leads : List PySem.Str := ["stack", "answers"]
abbrev n_answers_with : List PySem.Str := ["modules", "known", "rows", "module", "results", "row", "result"]
abbrev n_words_of : List PySem.Str := ["stack", "answers"]
abbrev n_with_result : List PySem.Str := ["results", "place", "result"]
abbrev n_answer_count : List PySem.Str := ["stack", "count", "_"]
abbrev n_in_count : List PySem.Str := ["stack"]
abbrev n_answers_in : List PySem.Str := ["stack", "answers"]
abbrev n_Questions___init__ : List PySem.Str := ["self", "stack"]
abbrev j_Questions___init__ : Nat := 0
abbrev n_Questions_settled_word : List PySem.Str := ["self", "told", "place", "words", "result"]
abbrev j_Questions_settled_word : Nat := 1
abbrev n_Questions_fewest : List PySem.Str := ["self", "told"]
abbrev j_Questions_fewest : Nat := 2
abbrev n_Questions_fewest_from : List PySem.Str := ["self", "told", "place"]
abbrev j_Questions_fewest_from : Nat := 3
abbrev n_all_orders : List PySem.Str := ["items", "found", "_", "row", "item"]
abbrev n_cover : List PySem.Str := ["stack", "questions", "rows", "told"]
abbrev n_cover_text : List PySem.Str := ["stack", "results", "word"]
abbrev n_shortest_cover : List PySem.Str := ["stack", "questions", "best", "order", "number", "place"]
abbrev n_places_of : List PySem.Str := ["stack"]
abbrev n_settling_rows : List PySem.Str := ["questions", "places", "rows", "place", "told", "row"]
abbrev n_rows_behind : List PySem.Str := ["questions", "told", "place", "result"]
abbrev n_results_told : List PySem.Str := ["told", "result"]
abbrev n_results_text : List PySem.Str := ["results"]
abbrev n__law_taken : List PySem.Str := ["_law_row", "_law_many", "_law_found", "_law_cell"]
abbrev n__law_control : List PySem.Str := ["_law_row", "_law_way", "_law_some", "_law_result"]
abbrev n__law_stack : List PySem.Str := ["_law_row", "_law_names_here", "_law_left", "_law_depth", "_law_found", "_law_k"]
abbrev n__law_names : List PySem.Str := ["_law_row", "_law_most", "_law_some", "_law_begin"]
abbrev n_law : List PySem.Str := ["_law_script", "_law_row", "_law_turn", "_law_stack_here", "_law_told", "_law_many", "_law_counts", "_law_results", "_law_word", "_law_number", "_law_order", "_law_quiet", "_law_shut"]
abbrev sTaken : Stmt := top i__law_taken
end LS
namespace LS
open PySem L2 PySem.Spec PyProof.Rows
/-! ### x in a tuple of data -/
def rInT (K : PySem.W.Frag) : R2 := fun x y H Q => ∃ d ds, Dp K H x d ∧ Dp K H y (.tuple ds) ∧ SeqAt.shaped d = true ∧ SeqAt.shaped (.tuple ds) = true ∧ Q (.bl (ds.any fun z => PyData.eqv z d)) H
theorem canLay_tup {ds : List PyData} (h : SeqAt.shaped (.tuple ds) = true) : PyData.canLayAll0 ds = true := SeqAt.canLay_of_shaped h
theorem room_tup {X : Cx} {d : PyData} {n : Nat} (sd : SeqAt.shaped d = true) (hu : X.A.units + 65 < cLine) : X.A.units + 1 + min n d.depth < cLine := by
  have h : d.depth ≤ 64 := by
    unfold SeqAt.shaped at sd
    rw [Bool.and_eq_true] at sd
    exact of_decide_eq_true sd.2
  have h2 : min n d.depth ≤ d.depth := Nat.min_le_right _ _
  omega
theorem op_inT {X : Cx} (hu : X.A.units + 65 < cLine) : OpR X (compareOp .In) (rInT X.K) := by
  intro pins s σ H x y v u Q I rx ry h
  obtain ⟨d, ds, hd, he, sd, se, q⟩ := h
  obtain ⟨as, r1⟩ := Dp.reads I d x v hd rx
  obtain ⟨bs, r2⟩ := Dp.reads I (.tuple ds) y u he ry
  exact SeqAt.in_tuple_reads r2 r1 (canLay_tup se) (SeqAt.canLay_of_shaped sd) (room_tup sd hu) ⟨.bl _, H, I, rfl, q⟩
/-! ### D.get(s), D a dict of the module with text keys -/
def KGet (K : PySem.W.Frag) (w : World) (a : Addr) (z : Str) (v : V) : Prop :=
  ∃ es n r, K.lookup a = some ⟨.type "dict", none, .dict es n, #[]⟩ ∧ PySem.W.KeysLit w.params es.toList ∧ (a == sysModules) = false ∧ PySem.W.nsIn K a z = some r ∧ (∀ u, r = some u → RelV v u) ∧ (r = none → v = .non)
def KIsD (K : PySem.W.Frag) (w : World) (a : Addr) : Prop := ∃ es n, K.lookup a = some ⟨.type "dict", none, .dict es n, #[]⟩ ∧ PySem.W.KeysLit w.params es.toList
def tKGet (K : PySem.W.Frag) (w : World) (td ty : TE) : TE := fun σ H Q => td σ H fun x H1 => ∃ a, x = .ref a ∧ KIsD K w a ∧ ty σ H1 fun y H2 => ∃ z v, y = .str z ∧ KGet K w a z v ∧ Q v H2
theorem pe_kdget {X : Cx} {o e : Expr} {apos cpos : Pos} {td ty : TE} (ho : PE X o td) (he : PE X e ty) (m : M1 X o "get" apos e cpos) : PE X (.Call (.Attribute o "get" apos) [e] [] cpos) (tKGet X.K X.w td ty) := by
  refine ⟨fun pins s σ H Q I h => ?_⟩
  refine wpAny_Call_method m.base m.few m.line PySem.F.plainAttrs_dict PySem.F.slot_dict_get PySem.F.type_dict_get (thn (ho.run pins s σ H _ I h) fun u s1 ⟨x, H1, I1, rx, a, ex, ⟨es, n, hl, hk⟩, q1⟩ => ?_)
  subst ex
  obtain rfl : u = Value.ref a := rx
  have hm := PySem.W.mapOf_K (prog := X.prog) (w := X.w) I1.kIn hl hk
  refine ⟨hm.typeIs, fun b q => ?_, ?_⟩
  · cases q
    exact ⟨_, I1.kIn _ _ hl, rfl⟩
  rw [m.trees]
  refine Calls.callWith_builtin rfl (Calls.evalArgs_plain (Calls.spliced_cons (thn (he.run pins s1 σ H1 _ I1 q1) fun iv s2 ⟨y, H2, I2, ry, z, v, ey, ⟨es', n', r, hl', hk', hsm, hns, h1, h2⟩, q2⟩ => Calls.spliced_nil ?_)))
  subst ey
  obtain ⟨t, rfl⟩ := ry
  have hm' := PySem.W.mapOf_K (prog := X.prog) (w := X.w) I2.kIn hl' hk'
  refine call_meetsIn PySem.F.slot_dict_get hm'.typeIs PySem.F.entry_dict_get (PySem.F.args_dict_get_2 _ _) (meets_dict_get (strKind X.prog X.w) a (strKind_is X.prog X.w z t) hsm) ⟨_, hm', ?_⟩
  have e := PySem.W.find_K hl' hns
  rw [e]
  cases r with
  | none =>
    have hv : v = V.non := h2 rfl
    subst hv
    exact ⟨.non, H2, I2.tok _, rfl, q2⟩
  | some u => exact ⟨v, H2, I2.tok _, h1 u rfl, q2⟩
/-! ### for x in D, D a dict of the module with text keys -/
def Itkk (zs : List Str) : It := ⟨fun i _ => i < zs.length, fun i H x H' => H' = H ∧ ∃ z, zs[i]? = some z ∧ x = .str z, fun i _ => zs.length ≤ i⟩
def KKeys (K : PySem.W.Frag) (d : Addr) (zs : List Str) : Prop :=
  ∃ es n, K.lookup d = some ⟨.type "dict", none, .dict es n, #[]⟩ ∧ (d == sysModules) = false ∧ es.size = zs.length ∧ ∀ (i : Nat) (z : Str), zs[i]? = some z → ∃ (en : DictEntry) (t : Tok), es[i]? = some en ∧ en.key = .str z t
section
variable {P : Program} {w : World} {K : PySem.W.Frag} {tg : Expr} {d : Addr} {es : Array DictEntry} {n : Nat} {zs : List Str}
theorem turn_kkeys (it : Addr) (hl : K.lookup d = some ⟨.type "dict", none, .dict es n, #[]⟩) (hsz : es.size = zs.length) (hz : ∀ (i : Nat) (z : Str), zs[i]? = some z → ∃ (en : DictEntry) (t : Tok), es[i]? = some en ∧ en.key = .str z t) :
    Turn P w K tg (Itkk zs) [it] it (fun i h => h.IsKeyIter it d i zs.length n) where
  mem := by simp
  obj := fun i h st b hb => by
    have e : b = it := by simpa using hb
    subst e
    obtain ⟨oi, e, c, dd⟩ := st
    exact ⟨oi, e, fun v z => by rw [dd] at z; cases z⟩
  keep := fun i h h' st k => st.at fun oi e => k it (by simp) oi e
  item := by
    intro X hP hw hK hc i pins s σ H E I hf st hg
    subst hP hw hK
    have hi : i < zs.length := hg
    obtain ⟨f0, f1, f2, f3, f4, f5⟩ := hf it (by simp)
    have hgd := I.kIn d _ hl
    have hkv : zs[i]? = some zs[i] := List.getElem?_eq_getElem hi
    obtain ⟨en, t, hen, hkey⟩ := hz i _ hkv
    refine next_key_item st hgd rfl hsz hen fun h' st' sb => ?_
    have I1 : Inv X pins σ H { s with heap := h' } := I.turned (t' := s.toks) (fun b ob hb e => (sb.2 b hb).trans e) f0 f1 f3 f4 f5
    obtain ⟨oi, e, c, dd⟩ := id st'
    exact ⟨en.key, rfl, go_of (s := { s with heap := h' }) e c dd (by decide) ⟨.str zs[i], H, I1, ⟨t, hkey⟩, ⟨rfl, zs[i], hkv, rfl⟩, st', fun b hb => (hf b hb).1⟩⟩
  done := by
    intro X hP hw hK hc i pins s σ H E I hf st hg
    subst hP hw hK
    have hi : zs.length ≤ i := hg
    obtain ⟨f0, f1, f2, f3, f4, f5⟩ := hf it (by simp)
    have hgd := I.kIn d _ hl
    exact next_key_end (I.ok.hd hc) st hgd rfl hsz hi fun h' eb => ⟨rfl, I.turned (t' := s.toks) (fun b ob hb e => eb b ob hb e) f0 f1 f3 f4 f5⟩
  self := fun A i s Q E st h => by
    refine wpAny_pyIter_slot st.typeIs F.slot_dict_keyiterator_iter (wpAny_call_entry F.slot_dict_keyiterator_iter st.typeIs F.entry_dict_keyiterator_iter ?_ (F.args_dict_keyiterator_iter_1 _))
    show wpAny _ _ (ret (.ref it)) _ _ s
    exact wpAny_pure ⟨_, rfl, "dict_keyiterator", _, st.typeIs, F.slot_dict_keyiterator_next.lookup, h⟩
end
def iKK (K : PySem.W.Frag) (te : TE) : TI := fun σ H R => te σ H fun x H1 => ∃ d zs, x = .ref d ∧ KKeys K d zs ∧ R (Itkk zs) H1
theorem pi_kkeys {X : Cx} {tg e : Expr} {te : TE} (he : PE X e te) : PI X tg e (iKK X.K te) := by
  refine ⟨fun pins s σ H R I h => ?_⟩
  refine thn (he.run pins s σ H _ I h) fun u s1 ⟨x, H1, I1, rx, d, zs, ex, ⟨es, n, hl, hs, hsz, hz⟩, q⟩ => ?_
  subst ex
  obtain rfl : u = Value.ref d := rx
  refine iter_keys hs (I1.kIn d _ hl) ⟨rfl, rfl, rfl⟩ rfl (pi_one (tk := s1.toks) I1 _ (turn_kkeys _ hl hsz hz) ⟨_, Heap.get?_push_size _ rfl, rfl, ?_⟩ q)
  rw [hsz] <;> rfl
theorem walk_kk {zs : List Str} : Walk (Itkk zs) zs.length (fun _ => True) (fun i H x H' => H' = H ∧ ∃ z, zs[i]? = some z ∧ x = .str z) :=
  ⟨fun _ _ hi _ => hi, fun _ _ => Nat.le_refl _, fun _ _ _ _ _ _ y => y⟩
/-! ### B.__init__(self, ..), B an own exception class that inherits it -/
theorem pe_seinit {X : Cx} {x : Str} {C0 : Addr} {mc : Value} {e : Expr} {es : List Expr} {ta : TA} {p1 p2 pos : Pos} {pl : Sem Bool} (hg : Gl X x) (hm : X.mg x = some (.ref C0)) (r : ClX.CRead X.K C0 mc)
    (vV : PySem.W.findCls X.K (.ref C0) mc "__init__" = some (.val (.builtin "ValueError.__init__"))) (ha : PA X (e :: es) ta) (hdb : (x == ("__debug__" : Str)) = false := by decide)
    (hc : eval (.Call (.Attribute (.Name x p1) "__init__" p2) (e :: es) [] pos) X.env = (do
      let ov ← eval (.Name x p1) X.env
      standAt p2.atName
      let (f, first) ← holding [ov] (getMethod ov "__init__" pl)
      callWith pos f first (backTo pos (starEach (e :: es) X.env)) (backToKw pos (keywordEach [] X.env))) := by rfl)
    (he : starEach (e :: es) X.env = (false, eval e X.env) :: starEach es X.env := by rfl) (hpl : (backTo pos (starEach es X.env)).any (·.1) = false := by rfl) :
    PE X (.Call (.Attribute (.Name x p1) "__init__" p2) (e :: es) [] pos) (tVeI X.K ta) := by
  refine ⟨fun pins s σ H Q I h => ?_⟩
  refine PySem.W.methodCall_KW (ld_glob I hg hm ?_ hdb) hc
  refine PySem.W.method_cls I.kIn r.ga ?_
  refine PySem.W.cls_value I.kIn r.rd vV (by rfl) ?_
  show wpAny _ _ (callWith pos (Value.builtin "ValueError.__init__") [] (backTo pos (starEach (e :: es) X.env)) []) _ _ _
  refine PyProof.Rows.callWith_method1 (thn (ha.run pos pins _ σ H _ (I.tok _) h) fun us s1 ⟨vs, H1, I1, r1, a, C, ws, ev, hl, T, ea, q⟩ => ?_) he hpl
  subst ev
  cases r1 with
  | @cons _ u0 _ ur ra rw' =>
    obtain rfl : u0 = Value.ref a := ra
    have hlen : ur.length ≤ sizeLine := by
      rw [← Paired.length rw', sizeLine_eq]
      omega
    exact oinit_ok T I1 ea hlen fun s' J => ⟨.non, H1, J, rfl, q⟩
end LS
namespace LS
open PySem L2 PySem.Spec PyProof.Rows
theorem isC {K : PySem.W.Frag} {D : Addr} (h : PySem.W.hasDictIn K D = true) : (PySem.W.clsIn K D).isSome = true := by
  obtain ⟨cd, e, _⟩ := PySem.W.any_some h
  rw [e]
  rfl
/-- isinstance(e, c), e the exception that the suite holds, which has a dict of its own -/
def rIsD (K : PySem.W.Frag) (a : Addr) (cls : Value) (d : Option Addr) : List V → Hp → VK → Prop := fun xs H Q => ∃ (D : Addr) (c : V) (cv : Value) (b : Bool) (dd : Addr) (fs : List (Str × V)), cls = .ref D ∧ ExcC K D ∧ d = some dd ∧ H dd = some (.xd fs) ∧ xs = [.ref a, c] ∧
  (∀ u, RelV c u → u = cv) ∧ PySem.W.kitOne K (.ref D) cv = some b ∧ Q (.bl b) H
theorem call_isD {X : Cx} {a : Addr} {cls : Value} {d : Option Addr} {oe : Obj} {pn : List (Addr × Obj)} (hz : Zc cls d oe) (hf : ∃ vs, oe.data = .fields vs) : CallR (X.suite a ((a, oe) :: pn)) (.builtin "isinstance") (rIsD X.K a cls d) := by
  intro pins s σ H xs us Q I r h
  obtain ⟨D, c, cv, b, dd, fs, rfl, C, rfl, hdd, rfl, hcv, e, q⟩ := h
  cases r with
  | cons rx rr =>
    cases rr with
    | cons rt rr =>
      cases rr
      cases rx
      have ec := hcv _ rt
      subst ec
      obtain ⟨hget, _⟩ := I.pin (a, oe) (List.mem_append.mpr (.inl List.mem_cons_self))
      obtain ⟨vs, hv⟩ := hf
      have hx : ObjOk X.prog X.w H s.heap dd (.xd fs) := I.hok dd _ hdd
      obtain ⟨mA, hns, hr⟩ := hx
      obtain ⟨od, ho, hl⟩ := lookIn_ns hns
      have J : PySem.W.InstAt s.heap a oe D (some od) := ⟨hget, hz.1, by unfold PySem.W.notCls; rw [hv] <;> rfl, by rw [hz.2]; exact ho⟩
      exact PySem.W.kia_one (PySem.W.kitx_exc (isC C.hd) C.hg C.hk C.hs C.ha C.hn C.ht C.hm) I.kIn J e (fun z => nomatch z) fun tk => ⟨.bl b, H, I.kept (t' := tk) fun _ _ z => z, rfl, q⟩
/-! ### xs.count(x) of flat items -/
theorem count_eqU {x : V} : ∀ {xs : List V} {us : List Value}, Vals xs us → xs.all flatV = true → us.countP (eqU x) = xs.countP (fun y => eqV y x)
  | _, _, .nil, _ => rfl
  | y :: xs, u :: us, .cons r t, f => by
    rw [List.all_cons, Bool.and_eq_true] at f
    rw [List.countP_cons, List.countP_cons, eqU_of r f.1, count_eqU t f.2]
def rCntF (K : PySem.W.Frag) : V → List V → Hp → VK → Prop := fun x vs H Q => ∃ (p : Addr) (xs : List V) (k : V), x = .ref p ∧ vs = [k] ∧ SqL K H p xs ∧ flatV k = true ∧ xs.all flatV = true ∧ Q (.int ((xs.countP (fun y => eqV y k) : Nat) : Int)) H
theorem mt_countF {X : Cx} : MtR X "list.count" (rCntF X.K) := by
  intro pins s σ H x xs v us Q I rx rxs h
  obtain ⟨p, ns, k, rfl, rfl, hs, fk, fx, q⟩ := h
  cases rx
  obtain ⟨u, rfl, ru⟩ := rxs.one
  obtain ⟨its, rv, ⟨⟨cls, dd, data, sl⟩, n, ho, hc, hdn, hd⟩, hlen⟩ := I.list hs
  simp only at hc hd
  subst hc hd
  refine call_meets PySem.F.slot_list_count ⟨_, ho, rfl⟩ PySem.F.entry_list_count (PySem.F.args_list_count_2 _ _)
    (SeqAt.list_countAt p its.toArray n dd sl u (eqU k)) ⟨ho, fun y hy => mem_eqAt ru fk rv fx y (by simpa using hy), ?_⟩
  have ec : its.toArray.toList.countP (eqU k) = ns.countP (fun y => eqV y k) := count_eqU rv fx
  exact ⟨.int ((ns.countP (fun y => eqV y k) : Nat) : Int), H, I.tok _, ⟨s.toks, congrArg (fun m : Nat => Value.int (m : Int) s.toks) ec⟩, q⟩
end LS
namespace LS
open PySem L2
/-- none, a truth value, an int, a text, a tuple -/
def NoList : PyData → Prop
  | .list _ => False
  | .dict _ => False
  | _ => True
def tyN : PyData → String
  | .none => "NoneType"
  | .bool _ => "bool"
  | .int _ => "int"
  | .str _ => "str"
  | .list _ => "list"
  | .tuple _ => "tuple"
  | .dict _ => "dict"
theorem ty_of {K : PySem.W.Frag} {H : Hp} {v : V} {d : PyData} (h : Dp K H v d) (n : NoList d) : TyX K H v (.type (tyN d)) := by
  cases h with
  | non => exact .base .non
  | bl b => exact .base (.bl b)
  | int i => exact .base (.int i)
  | str x => exact .base (.str x)
  | lst a b => exact n.elim
  | tup a b =>
    rcases a with (q | ⟨o, q⟩) | ⟨o, its, m, hk, hc, _⟩
    · exact .base (.tup q)
    · exact .fTuple q
    · exact .kTuple hk hc
def isStr : PyData → Bool
  | .str _ => true
  | _ => false
def isInt : PyData → Bool
  | .int _ => true
  | .bool _ => true
  | _ => false
def isBool : PyData → Bool
  | .bool _ => true
  | _ => false
def isTup : PyData → Bool
  | .tuple _ => true
  | _ => false
theorem kit_of7 {t : String} {g : PyData → Bool} (h0 : kitB "NoneType" t = some (g .none)) (h1 : ∀ b, kitB "bool" t = some (g (.bool b))) (h2 : ∀ i, kitB "int" t = some (g (.int i))) (h3 : ∀ z, kitB "str" t = some (g (.str z)))
    (h4 : ∀ z, kitB "list" t = some (g (.list z))) (h5 : ∀ z, kitB "tuple" t = some (g (.tuple z))) (h6 : ∀ z, kitB "dict" t = some (g (.dict z))) (d : PyData) : kitB (tyN d) t = some (g d) := by
  cases d with
  | none => exact h0
  | bool b => exact h1 b
  | int i => exact h2 i
  | str z => exact h3 z
  | list z => exact h4 z
  | tuple z => exact h5 z
  | dict z => exact h6 z
theorem kit_str (d : PyData) : kitB (tyN d) "str" = some (isStr d) := kit_of7 (by decide +kernel) (fun _ => (by decide +kernel : kitB "bool" "str" = some false)) (fun _ => (by decide +kernel : kitB "int" "str" = some false)) (fun _ => (by decide +kernel : kitB "str" "str" = some true))
  (fun _ => (by decide +kernel : kitB "list" "str" = some false)) (fun _ => (by decide +kernel : kitB "tuple" "str" = some false)) (fun _ => (by decide +kernel : kitB "dict" "str" = some false)) d
theorem kit_int (d : PyData) : kitB (tyN d) "int" = some (isInt d) := kit_of7 (by decide +kernel) (fun _ => (by decide +kernel : kitB "bool" "int" = some true)) (fun _ => (by decide +kernel : kitB "int" "int" = some true)) (fun _ => (by decide +kernel : kitB "str" "int" = some false))
  (fun _ => (by decide +kernel : kitB "list" "int" = some false)) (fun _ => (by decide +kernel : kitB "tuple" "int" = some false)) (fun _ => (by decide +kernel : kitB "dict" "int" = some false)) d
theorem kit_bool (d : PyData) : kitB (tyN d) "bool" = some (isBool d) := kit_of7 (by decide +kernel) (fun _ => (by decide +kernel : kitB "bool" "bool" = some true)) (fun _ => (by decide +kernel : kitB "int" "bool" = some false)) (fun _ => (by decide +kernel : kitB "str" "bool" = some false))
  (fun _ => (by decide +kernel : kitB "list" "bool" = some false)) (fun _ => (by decide +kernel : kitB "tuple" "bool" = some false)) (fun _ => (by decide +kernel : kitB "dict" "bool" = some false)) d
theorem kit_tup (d : PyData) : kitB (tyN d) "tuple" = some (isTup d) := kit_of7 (by decide +kernel) (fun _ => (by decide +kernel : kitB "bool" "tuple" = some false)) (fun _ => (by decide +kernel : kitB "int" "tuple" = some false)) (fun _ => (by decide +kernel : kitB "str" "tuple" = some false))
  (fun _ => (by decide +kernel : kitB "list" "tuple" = some false)) (fun _ => (by decide +kernel : kitB "tuple" "tuple" = some true)) (fun _ => (by decide +kernel : kitB "dict" "tuple" = some false)) d
/-- all but p stands -/
def SameBut (p : Addr) (H H' : Hp) : Prop := ∀ b o, b ≠ p → H b = some o → H' b = some o
mutual
/-- no list, no dict at any depth -/
def noLs : PyData → Bool
  | .list _ => false
  | .dict _ => false
  | .tuple ds => noLss ds
  | _ => true
def noLss : List PyData → Bool
  | [] => true
  | d :: ds => noLs d && noLss ds
end
theorem noList_of {d : PyData} (h : noLs d = true) : NoList d := by
  cases d with
  | list _ => cases h
  | dict _ => cases h
  | _ => exact True.intro
theorem pss_false {X : Cx} {l : List Stmt} : PSs X l (fun _ _ _ => False) := ⟨fun _ _ _ _ _ _ h => h.elim⟩
theorem same_upd {H H1 : Hp} {D : Addr} {o : HO} (hD : H D = none) (S : Same H H1) : Same H (upd H1 D o) := fun b u e => by
  rw [upd_ne (ne_of_none e hD)]
  exact S b u e
end LS
namespace LS
open PySem L2
abbrev sWord : Stmt := top i_is_word
abbrev sAction : Stmt := top i_is_action
abbrev sActs : Stmt := top i_actions_of
abbrev letters : Str := "abcdefghijklmnopqrstuvwxyz"
abbrev actWords : List Str := ["ok", "bad", "die", "done", "ignore", "reset"]
abbrev resWords : List Str := ["yes", "no", "skip", "gone"]
def isWordS (z : Str) : Bool := decide (1 ≤ z.length) && decide (z.length ≤ 8) && z.cps.toList.all fun c => decide (c ∈ letters.cps.toList)
def isWord : PyData → Bool
  | .str z => isWordS z
  | _ => false
def isAction : PyData → Bool
  | .int i => decide (1 ≤ i) && decide (i ≤ 9)
  | d => (actWords.map PyData.str).any fun z => PyData.eqv z d
/-- what the top has written of rules.py -/
structure RulesK (K : PySem.W.Frag) (w : World) (mg : Str → Option Value) : Prop where
  letters : ∃ t, mg "LETTERS" = some (.str letters t)
  longest : ∃ t, mg "LONGEST_WORD" = some (.int 8 t)
  jump : ∃ t, mg "LONGEST_JUMP" = some (.int 9 t)
  acts : ∃ a, mg "ACTIONS" = some (.ref a) ∧ ∀ H, SqT K H a (actWords.map V.str)
  ress : ∃ a, mg "RESULTS" = some (.ref a) ∧ ∀ H, SqT K H a (resWords.map V.str)
  isi : mg "isinstance" = none
  str : mg "str" = none
  int : mg "int" = none
  bool : mg "bool" = none
  tuple : mg "tuple" = none
  len : mg "len" = none
  all : mg "all" = none
def spWord (K : PySem.W.Frag) : Sp := fun vs H Q _ => ∃ (v : V) (d : PyData), vs = [v] ∧ Dp K H v d ∧ NoList d ∧ (∀ z, d = .str z → z.length ≤ 1000) ∧ ∀ H', Same H H' → Q (.bl (isWord d)) H'
section
variable {P : Program} {w : World} {K : PySem.W.Frag} {mg : Str → Option Value} {base : Heap}
theorem scWord : FnScope ["value", "letter"] ["value"] (defScope sWord) := ⟨rfl, rfl, rfl, by decide +kernel, rfl, by decide +kernel, by decide +kernel⟩
theorem pick_upto {α β : Type} {f : α → β} {l : List α} {i : Nat} {c : α} (h : l[i]? = some c) : (l.take i).map f ++ [f c] = (l.take (i + 1)).map f := by
  rw [List.take_add_one, h, List.map_append]
  rfl
theorem yes_of {σ : St} {H : Hp} {A B : Bool → Hp → Prop} (h : A true H) : tYes σ H fun b H3 => if b = true then A b H3 else B b H3 := by
  show (if true = true then A true H else B true H)
  rw [if_pos rfl]
  exact h
theorem ok_word {f : Addr} {fd : FuncData} (F : Fun K "is_word" "is_word" sWord f fd) (T : RulesK K w mg) : FnOk P w K mg base CX0 1 f fd ["value"] (spWord K) := by
  obtain ⟨tl, gl⟩ := T.letters
  obtain ⟨tw, gw⟩ := T.longest
  refine F.ok scWord (fun vs H Q E h => ?_) (fun cdv A outer s H vs Q E hr h => ?_)
  · obtain ⟨v, d, rfl, _⟩ := h
    rfl
  · obtain ⟨v, d, rfl, hd, hn, hlen, k⟩ := h
    refine ⟨_, pss_cons (ps_if (PW.pt (pw_or (pt_not (pt_val (pe_callB call_isi (by rfl) T.isi (by decide +kernel) (pa_cons (pv 0) (pa_cons (pe_bltn (by rfl) T.str (by decide +kernel) (v := .ty "str") rfl) pa_nil)))))
          (pw_or1 (pt_not (pt_chain op_le op_le pe_int (pe_callB call_len_str (by rfl) T.len PySem.boot_len (pa_cons (pv 0) pa_nil)) (pe_glob (v := .int 8) (by rfl) gw ⟨tw, rfl⟩)))))) (pss_one (ps_ret pe_bl)) pss_nil)
      (pss_one (ps_ret (pe_callB (cr_all rfl) (by rfl) T.all (by decide +kernel) (pa_cons
        (pe_lc (own := [("letter", 1)]) (g := gName 1) (by rfl) scWord.nd (pi_str (pv 0)) (blkOk_by (own := [("letter", 1)]) (N := ["value", "letter"]) (sc := defScope sWord) (by decide +kernel))
          (fun _ _ _ _ _ => pg_name (i := 1) scWord.nd rfl (Or.inl rfl)) (fun _ _ _ _ _ => pts_nil) (fun _ _ _ _ _ => pe_cmpR op_in_sign (pv 1) (pe_glob (v := .str letters) (by rfl) gl ⟨tl, rfl⟩) (by rfl))) pa_nil)))), ?_⟩
    have hS : ∀ z : Str, d = .str z ∨ ¬ d = .str z := fun z => Classical.em _
    by_cases hstr : ∃ z, d = .str z
    · obtain ⟨z, rfl⟩ := hstr
      cases hd
      have hz1 : z.length ≤ 1000 := hlen z rfl
      have hz2 : z.length ≤ sizeLine := Nat.le_of_lt (small1000 hz1)
      refine ⟨_, rfl, .str z, .ty "str", .type "str", .type "str", true, rfl, .ty _, .base (.str z), kit_ty (by decide +kernel), _, rfl, ?_⟩
      refine iteF ?_
      refine ⟨_, rfl, z, rfl, hz2, _, _, rfl, rfl, _, rfl, ?_⟩
      refine ite2 (fun h1 => ?_) (fun h1 => ?_)
      · refine ⟨_, _, rfl, rfl, _, rfl, ?_⟩
        by_cases h2 : ((z.length : Nat) : Int) ≤ 8
        · rw [decide_eq_true h2]
          refine iteF ?_
          refine ⟨_, rfl, z, rfl, fun D hD => ?_⟩
          have hsz : z.cps.size = z.length := by simp [Str.length]
          refine lc_it walk_str (fun i H' => Same H (fun b => if b = D then none else H' b) ∧ H' D = some (.lst ((z.cps.toList.take i).map fun c => .bl (decide (c ∈ letters.cps.toList))))) ⟨?_, upd_same⟩ (fun _ _ _ _ => True.intro) ?_ ?_
          · intro b o e
            have hb : b ≠ D := ne_of_none e hD
            show (if b = D then none else upd H D (.lst []) b) = some o
            rw [if_neg hb, upd_ne hb]
            exact e
          · rintro i x H1 H2 hi ⟨hS1, hL⟩ ⟨rfl, c, hc, rfl⟩
            refine ⟨rfl, ?_⟩
            refine yes_of ?_
            refine ⟨_, rfl, c, letters, rfl, rfl, _, hL, ?_, ?_, ?_⟩
            · rw [List.length_map, List.length_take]
              have hs2 := sizeLine_eq
              omega
            · intro b o e
              have hb : b ≠ D := ne_of_none e hD
              have q := hS1 b o e
              have q : (if b = D then none else H2 b) = some o := q
              rw [if_neg hb] at q
              show (if b = D then none else upd H2 D _ b) = some o
              rw [if_neg hb, upd_ne hb]
              exact q
            · rw [upd_same]
              refine congrArg (fun l => some (HO.lst l)) ?_
              exact pick_upto (f := fun c => V.bl (decide (c ∈ letters.cps.toList))) (by rw [Array.getElem?_toList]; exact hc)
          · rintro H1 ⟨hS1, hL⟩
            refine ⟨D, z.cps.toList.map fun c => decide (c ∈ letters.cps.toList), rfl, .inl (.inl ?_), ?_⟩
            · rw [hL, List.map_map, ← Array.length_toList, List.take_length]
              rfl
            · have e : isWord (.str z) = (z.cps.toList.map fun c => decide (c ∈ letters.cps.toList)).all id := by
                show isWordS z = _
                unfold isWordS
                rw [decide_eq_true (show 1 ≤ z.length by have := of_decide_eq_true h1; omega), decide_eq_true (show z.length ≤ 8 by omega), List.all_map]
                rfl
              rw [← e]
              refine k _ fun b o e => ?_
              have q := hS1 b o e
              have q : (if b = D then none else H1 b) = some o := q
              rw [if_neg (ne_of_none e hD)] at q
              exact q
        · rw [decide_eq_false h2]
          refine iteT ?_
          have e : isWord (.str z) = false := by
            show isWordS z = _
            unfold isWordS
            rw [decide_eq_false (show ¬ z.length ≤ 8 by omega), Bool.and_false, Bool.false_and]
          have q := k H (Same.refl H)
          rw [e] at q
          exact q
      · have h1' : ¬ 1 ≤ z.length := fun h => h1 (decide_eq_true (by omega))
        refine ⟨_, rfl, ?_⟩
        refine iteT ?_
        have e : isWord (.str z) = false := by
          show isWordS z = _
          unfold isWordS
          rw [decide_eq_false h1', Bool.false_and, Bool.false_and]
        have q := k H (Same.refl H)
        rw [e] at q
        exact q
    · have hk : PySem.W.kitOne K (.type (tyN d)) (.type "str") = some false := by
        refine kit_ty ?_
        rw [kit_str]
        cases d with
        | str z => exact (hstr ⟨z, rfl⟩).elim
        | _ => rfl
      have e : isWord d = false := by
        cases d with
        | str z => exact (hstr ⟨z, rfl⟩).elim
        | _ => rfl
      refine ⟨_, rfl, v, .ty "str", _, _, false, rfl, .ty _, ty_of hd hn, hk, _, rfl, ?_⟩
      refine iteT ?_
      have q := k H (Same.refl H)
      rw [e] at q
      exact q
end
end LS
namespace LS
open PySem L2
abbrev sNum : Stmt := top i_is_number
/-- an int, no truth value, between two others -/
def isNum (a b : Int) : PyData → Bool
  | .int i => decide (a ≤ i) && decide (i ≤ b)
  | _ => false
def spNum (K : PySem.W.Frag) : Sp := fun vs H Q _ => ∃ (v : V) (d : PyData) (a b : Int), vs = [v, .int a, .int b] ∧ Dp K H v d ∧ NoList d ∧ Q (.bl (isNum a b d)) H
structure NumK (mg : Str → Option Value) : Prop where
  isi : mg "isinstance" = none
  int : mg "int" = none
  bool : mg "bool" = none
/-- a def of the module, with its promise -/
structure DefK (P : Program) (w : World) (K : PySem.W.Frag) (mg : Str → Option Value) (base : Heap) (CX : CXT) (k : Nat) (x : Str) (ps : List Str) (sp : Sp) where
  {a : Addr}
  {fd : FuncData}
  G : FnOk P w K mg base CX k a fd ps sp
  g : mg x = some (.ref a)
  kp : PySem.W.keepIn K (.ref a) = true
  b : Binds K fd ps []
section
variable {P : Program} {w : World} {K : PySem.W.Frag} {mg : Str → Option Value} {base : Heap}
theorem scNum : FnScope ["value", "least", "most"] ["value", "least", "most"] (defScope sNum) := ⟨rfl, rfl, rfl, by decide +kernel, rfl, by decide +kernel, by decide +kernel⟩
theorem ok_num {f : Addr} {fd : FuncData} (F : Fun K "is_number" "is_number" sNum f fd) (T : NumK mg) : FnOk P w K mg base CX0 1 f fd ["value", "least", "most"] (spNum K) := by
  refine F.ok scNum (fun vs H Q E h => ?_) (fun cdv A outer s H vs Q E hr h => ?_)
  · obtain ⟨v, d, a, b, rfl, _⟩ := h
    rfl
  · obtain ⟨v, d, a, b, rfl, hd, hn, k⟩ := h
    refine ⟨_, pss_one (ps_ret (pe_and (pe_callB call_isi (by rfl) T.isi (by decide +kernel) (pa_cons (pv 0) (pa_cons (pe_bltn (by rfl) T.int (by decide +kernel) (v := .ty "int") rfl) pa_nil)))
      (pe_and (pe_not (pe_callB call_isi (by rfl) T.isi (by decide +kernel) (pa_cons (pv 0) (pa_cons (pe_bltn (by rfl) T.bool (by decide +kernel) (v := .ty "bool") rfl) pa_nil))))
      (pe_one (pe_chain op_le op_le (pv 1) (pv 0) (pv 2)))))), ?_⟩
    refine ⟨_, rfl, v, .ty "int", _, _, isInt d, rfl, .ty _, ty_of hd hn, kit_ty (kit_int d), _, rfl, ?_⟩
    refine ite2 (fun h1 => ?_) (fun h1 => ?_)
    · refine ⟨_, rfl, v, .ty "bool", _, _, isBool d, rfl, .ty _, ty_of hd hn, kit_ty (kit_bool d), _, rfl, _, rfl, ?_⟩
      refine ite2 (fun h2 => ?_) (fun h2 => ?_)
      · obtain ⟨i, rfl⟩ : ∃ i, d = .int i := by
          cases d with
          | int i => exact ⟨i, rfl⟩
          | bool b => cases h2
          | _ => cases h1
        cases hd
        refine ⟨_, rfl, _, rfl, _, _, rfl, rfl, _, rfl, ?_⟩
        have e : isNum a b (.int i) = (decide (a ≤ i) && decide (i ≤ b)) := rfl
        rw [e] at k
        refine ite2 (fun h3 => ?_) (fun h3 => ?_)
        · refine ⟨_, rfl, _, _, rfl, rfl, ?_⟩
          rw [h3, Bool.true_and] at k
          exact k
        · rw [Bool.eq_false_iff.mpr h3, Bool.false_and] at k
          exact k
      · have e : isNum a b d = false := by
          cases d with
          | int i => exact (h2 rfl).elim
          | _ => rfl
        rw [e] at k
        exact k
    · have e : isNum a b d = false := by
        cases d with
        | int i => exact (h1 rfl).elim
        | _ => rfl
      rw [e] at k
      exact k
end
end LS
namespace LS
open PySem L2
theorem same_tup {K : PySem.W.Frag} {H H' : Hp} {a : Addr} {xs : List V} (e : Same H H') (h : SqT K H a xs) : SqT K H' a xs := by
  rcases h with (h | ⟨o, h⟩) | h
  · exact .inl (.inl (e _ _ h))
  · exact .inl (.inr ⟨o, e _ _ h⟩)
  · exact .inr h
mutual
theorem same_dp {K : PySem.W.Frag} {H H' : Hp} (e : Same H H') : ∀ (d : PyData) (v : V), Dp K H v d → Dp K H' v d
  | .none, _, h => by cases h; exact .non
  | .bool _, _, h => by cases h; exact .bl _
  | .int _, _, h => by cases h; exact .int _
  | .str _, _, h => by cases h; exact .str _
  | .list ds, _, h => by
    cases h with
    | lst hs ha => exact .lst (e.seq hs) (same_dps e ds _ ha)
  | .tuple ds, _, h => by
    cases h with
    | tup hs ha => exact .tup (same_tup e hs) (same_dps e ds _ ha)
  | .dict _, _, h => by cases h
theorem same_dps {K : PySem.W.Frag} {H H' : Hp} (e : Same H H') : ∀ (ds : List PyData) (vs : List V), DpAll K H vs ds → DpAll K H' vs ds
  | [], _, h => by cases h; exact .nil
  | d :: ds, _, h => by
    cases h with
    | cons h1 h2 => exact .cons (same_dp e d _ h1) (same_dps e ds _ h2)
end
theorem dps_len {K : PySem.W.Frag} {H : Hp} : ∀ {vs : List V} {ds : List PyData}, DpAll K H vs ds → vs.length = ds.length
  | _, _, .nil => rfl
  | _, _, .cons _ t => congrArg (· + 1) (dps_len t)
theorem dps_get {K : PySem.W.Frag} {H : Hp} : ∀ {vs : List V} {ds : List PyData} {i : Nat} {v : V}, DpAll K H vs ds → vs[i]? = some v → ∃ d, ds[i]? = some d ∧ Dp K H v d
  | _, _, _, _, .nil, e => by simp at e
  | _, _, 0, _, .cons r _, e => by simp at e; subst e; exact ⟨_, rfl, r⟩
  | _, _, i + 1, _, .cons _ t, e => by
    obtain ⟨d, h1, h2⟩ := dps_get (i := i) t (by simpa using e)
    exact ⟨d, by simpa using h1, h2⟩
/-- few, flat or nearly so -/
def Mild (d : PyData) : Prop := NoList d ∧ SeqAt.shaped d = true ∧ ∀ z, d = .str z → z.length ≤ 1000
theorem words_dp {K : PySem.W.Frag} {H : Hp} : ∀ zs : List Str, DpAll K H (zs.map V.str) (zs.map PyData.str)
  | [] => .nil
  | z :: zs => .cons (.str z) (words_dp zs)
def spAction (K : PySem.W.Frag) : Sp := fun vs H Q _ => ∃ (v : V) (d : PyData), vs = [v] ∧ Dp K H v d ∧ Mild d ∧ Q (.bl (isAction d)) H
section
variable {P : Program} {w : World} {K : PySem.W.Frag} {mg : Str → Option Value} {base : Heap}
theorem scAction : FnScope ["value"] ["value"] (defScope sAction) := ⟨rfl, rfl, rfl, by decide +kernel, rfl, by decide +kernel, by decide +kernel⟩
theorem isAction_eq (d : PyData) : isAction d = (isNum 1 9 d || (actWords.map PyData.str).any fun z => PyData.eqv z d) := by
  cases d with
  | int i =>
    have e : ((actWords.map PyData.str).any fun z => PyData.eqv z (.int i)) = false := by
      refine Bool.eq_false_iff.mpr fun h => ?_
      obtain ⟨z, hz, e⟩ := List.any_eq_true.mp h
      obtain ⟨s, _, rfl⟩ := List.mem_map.mp hz
      simp [PyData.eqv] at e
    rw [e, Bool.or_false]
    rfl
  | _ => rfl
theorem ok_action {f : Addr} {fd : FuncData} (F : Fun K "is_action" "is_action" sAction f fd) (T : RulesK K w mg) (N : DefK P w K mg base CX0 1 "is_number" ["value", "least", "most"] (spNum K)) : FnOk P w K mg base CX0 2 f fd ["value"] (spAction K) := by
  obtain ⟨tj, gj⟩ := T.jump
  obtain ⟨aa, ga, ha⟩ := T.acts
  refine F.ok scAction (fun vs H Q E h => ?_) (fun cdv A outer s H vs Q E hr h => ?_)
  · obtain ⟨v, d, rfl, _⟩ := h
    rfl
  · obtain ⟨v, d, rfl, hd, ⟨hn, hsh, hz⟩, k⟩ := h
    have hu : (A.deeper (PyProof.Rows.envOfC "is_action" (defScope sAction) s.heap.objs.size f cdv)).units + 65 < cLine := by have := hr.un; omega
    refine ⟨_, pss_one (ps_ret (pe_or (pe_call N.G hr (by rfl) N.g N.kp N.b .nil pass0 (pa_cons (pv 0) (pa_cons pe_int (pa_cons (pe_glob (v := .int 9) (by rfl) gj ⟨tj, rfl⟩) pa_nil))))
      (pe_one (pe_cmpR (op_inT hu) (pv 0) (pe_glob (v := .ref aa) (by rfl) ga rfl) (by rfl))))), ?_⟩
    rw [isAction_eq] at k
    refine ⟨_, rfl, v, d, 1, 9, rfl, hd, hn, _, rfl, ?_⟩
    refine ite2 (fun h1 => ?_) (fun h1 => ?_)
    · rw [h1, Bool.true_or] at k
      exact k
    · rw [Bool.eq_false_iff.mpr h1, Bool.false_or] at k
      exact ⟨_, rfl, d, actWords.map PyData.str, hd, .tup (ha H) (words_dp _), hsh, by decide +kernel, k⟩
end
end LS
namespace LS
open PySem L2
abbrev tReq : List Str := ["ok", "bad", "ignore", "bad"]
abbrev tRqs : List Str := ["ok", "die", "ignore", "die"]
abbrev tSuf : List Str := ["done", "ignore", "ignore", "ignore"]
abbrev tOpt : List Str := ["ok", "ignore", "ignore", "ignore"]
def ctrlTab : List (Str × List Str) := [("required", tReq), ("requisite", tRqs), ("sufficient", tSuf), ("optional", tOpt)]
def CtrlEs (K : PySem.W.Frag) : List DictEntry → List (Str × List Str) → Prop
  | [], [] => True
  | e :: es, r :: rs => (∃ t a, e.key = .str r.1 t ∧ e.val = .ref a ∧ ∀ H, SqT K H a (r.2.map V.str)) ∧ CtrlEs K es rs
  | _, _ => False
structure CtrlK (K : PySem.W.Frag) (w : World) (mg : Str → Option Value) (dC : Addr) : Prop where
  g : mg "CONTROLS" = some (.ref dC)
  sys : (dC == sysModules) = false
  ex : ∃ es n, K.lookup dC = some ⟨.type "dict", none, .dict es n, #[]⟩ ∧ PySem.W.KeysLit w.params es.toList ∧ CtrlEs K es.toList ctrlTab
def looked (z : Str) (rs : List (Str × List Str)) : Option (List Str) := (rs.find? fun r => decide (r.1 = z)).map (·.2)
theorem ctrl_find {K : PySem.W.Frag} {z : Str} : ∀ {es : List DictEntry} {rs : List (Str × List Str)}, CtrlEs K es rs →
    es.any (·.refKey) = false ∧ ((looked z rs = none ∧ es.find? (·.key.isStr z) = none) ∨ ∃ acts e a, looked z rs = some acts ∧ es.find? (·.key.isStr z) = some e ∧ e.val = .ref a ∧ ∀ H, SqT K H a (acts.map V.str))
  | [], [], _ => ⟨rfl, .inl ⟨rfl, rfl⟩⟩
  | e :: es, r :: rs, ⟨⟨t, a, hk, hv, hs⟩, h⟩ => by
    obtain ⟨h1, h2⟩ := ctrl_find (z := z) h
    have hr : e.refKey = false := by unfold DictEntry.refKey; rw [hk]
    have hi : e.key.isStr z = decide (r.1 = z) := by
      rw [hk]
      show (r.1 == z) = decide (r.1 = z)
      by_cases q : r.1 = z
      · rw [decide_eq_true q]
        exact beq_iff_eq.mpr q
      · rw [decide_eq_false q]
        exact beq_eq_false_iff_ne.mpr q
    refine ⟨by rw [List.any_cons, hr, h1]; rfl, ?_⟩
    unfold looked
    rw [List.find?_cons, List.find?_cons, hi]
    by_cases q : r.1 = z
    · rw [decide_eq_true q]
      exact .inr ⟨r.2, e, a, rfl, rfl, hv, hs⟩
    · rw [decide_eq_false q]
      exact h2
theorem ctrl_ns {K : PySem.W.Frag} {w : World} {mg : Str → Option Value} {dC : Addr} (T : CtrlK K w mg dC) (z : Str) :
    (looked z ctrlTab = none ∧ KGet K w dC z .non) ∨ ∃ acts a, looked z ctrlTab = some acts ∧ KGet K w dC z (.ref a) ∧ ∀ H, SqT K H a (acts.map V.str) := by
  obtain ⟨es, n, hl, hk, hc⟩ := T.ex
  obtain ⟨h1, h2⟩ := ctrl_find (z := z) hc
  rcases h2 with ⟨e1, e2⟩ | ⟨acts, e, a, e1, e2, e3, e4⟩
  · refine .inl ⟨e1, es, n, none, hl, hk, T.sys, ?_, fun u q => (nomatch q), fun _ => rfl⟩
    unfold PySem.W.nsIn
    rw [hl]
    simp [e2, h1]
  · refine .inr ⟨acts, a, e1, ⟨es, n, some (.ref a), hl, hk, T.sys, ?_, fun u q => ?_, fun q => (nomatch q)⟩, e4⟩
    · unfold PySem.W.nsIn
      rw [hl]
      simp [e2, e3]
    · cases q
      rfl
def actsOf : PyData → Option (List PyData)
  | .str z => (looked z ctrlTab).map (·.map PyData.str)
  | .tuple ds => if ds.length = 4 ∧ ds.all isAction = true then some ds else none
  | _ => none
/-- a control: a flat thing, or a tuple of mild things -/
def Ctl (d : PyData) : Prop := NoList d ∧ ∀ ds, d = .tuple ds → ds.length ≤ 1000 ∧ ∀ e ∈ ds, Mild e
def spActs (K : PySem.W.Frag) : Sp := fun vs H Q _ => ∃ (v : V) (d : PyData), vs = [v] ∧ Dp K H v d ∧ Ctl d ∧
  ∀ (c : V) (H' : Hp), Same H H' → (actsOf d = none → c = .non) → (∀ ds, actsOf d = some ds → ∃ a, c = .ref a ∧ Dp K H' c (.tuple ds)) → Q c H'
section
variable {P : Program} {w : World} {K : PySem.W.Frag} {mg : Str → Option Value} {base : Heap}
theorem scActs : FnScope ["control", "action"] ["control"] (defScope sActs) := ⟨rfl, rfl, rfl, by decide +kernel, rfl, by decide +kernel, by decide +kernel⟩
theorem ok_acts {f fA dC : Addr} {fd fdA : FuncData} (F : Fun K "actions_of" "actions_of" sActs f fd) (T : RulesK K w mg) (D : CtrlK K w mg dC) (FA : Fun K "is_action" "is_action" sAction fA fdA) (gA : mg "is_action" = some (.ref fA)) (bA : Binds K fdA ["value"] []) (N : DefK P w K mg base CX0 1 "is_number" ["value", "least", "most"] (spNum K)) :
    FnOk P w K mg base CX0 3 f fd ["control"] (spActs K) := by
  have GA : FnOk P w K mg base CX0 2 fA fdA ["value"] (spAction K) := ok_action FA T N
  obtain ⟨ar, gr, hR⟩ := T.ress
  refine F.ok scActs (fun vs H Q E h => ?_) (fun cdv A outer s H vs Q E hr h => ?_)
  · obtain ⟨v, d, rfl, _⟩ := h
    rfl
  · obtain ⟨v, d, rfl, hd, ⟨hn, hc⟩, k⟩ := h
    refine ⟨_, pss_cons (ps_if (pt_val (pe_callB call_isi (by rfl) T.isi (by decide +kernel) (pa_cons (pv 0) (pa_cons (pe_bltn (by rfl) T.str (by decide +kernel) (v := .ty "str") rfl) pa_nil))))
          (pss_one (ps_ret (pe_kdget (pe_glob (v := .ref dC) (by rfl) D.g rfl) (pv 0) ⟨rfl, rfl, rfl, rfl⟩))) pss_nil)
      (pss_cons (ps_if (PW.pt (pw_or (pt_not (pt_val (pe_callB call_isi (by rfl) T.isi (by decide +kernel) (pa_cons (pv 0) (pa_cons (pe_bltn (by rfl) T.tuple (by decide +kernel) (v := .ty "tuple") rfl) pa_nil)))))
          (pw_or1 (pt_cmpR op_ne (pe_callB call_len_seq (by rfl) T.len PySem.boot_len (pa_cons (pv 0) pa_nil)) (pe_callB call_len_seq (by rfl) T.len PySem.boot_len (pa_cons (pe_glob (v := .ref ar) (by rfl) gr rfl) pa_nil)) (nomark _)))))
          (pss_one (ps_ret pe_non)) pss_nil)
      (pss_cons (ps_if (pt_not (pt_val (pe_callB (cr_all rfl) (by rfl) T.all (by decide +kernel) (pa_cons
            (pe_lc (own := [("action", 1)]) (g := gName 1) (by rfl) scActs.nd (pi_tup (pv 0)) (blkOk_by (own := [("action", 1)]) (N := ["control", "action"]) (sc := defScope sActs) (by decide +kernel))
              (fun _ _ _ _ _ => pg_name (i := 1) scActs.nd rfl (Or.inl rfl)) (fun _ _ _ _ _ => pts_nil) (fun _ _ _ _ _ => pe_call GA hr (by rfl) gA FA.kp bA .nil pass0 (pa_cons (pv 1) pa_nil))) pa_nil))))
          (pss_one (ps_ret pe_non)) pss_nil)
      (pss_one (ps_ret (pv 0))))), ?_⟩
    refine ⟨_, rfl, v, .ty "str", _, _, isStr d, rfl, .ty _, ty_of hd hn, kit_ty (kit_str d), _, rfl, ?_⟩
    refine ite2 (fun h1 => ?_) (fun h1 => ?_)
    · obtain ⟨z, rfl⟩ : ∃ z, d = .str z := by
        cases d with
        | str z => exact ⟨z, rfl⟩
        | _ => cases h1
      cases hd
      obtain ⟨es, n, hl, hk, _⟩ := D.ex
      refine ⟨dC, rfl, ⟨es, n, hl, hk⟩, _, rfl, z, ?_⟩
      rcases ctrl_ns D z with ⟨e1, e2⟩ | ⟨acts, a, e1, e2, e3⟩
      · refine ⟨.non, rfl, e2, k _ _ (Same.refl H) (fun _ => rfl) fun ds q => ?_⟩
        have q : (looked z ctrlTab).map (·.map PyData.str) = some ds := q
        rw [e1] at q
        cases q
      · refine ⟨.ref a, rfl, e2, k _ _ (Same.refl H) (fun q => ?_) fun ds q => ⟨a, rfl, ?_⟩⟩
        · have q : (looked z ctrlTab).map (·.map PyData.str) = none := q
          rw [e1] at q
          cases q
        · have q : (looked z ctrlTab).map (·.map PyData.str) = some ds := q
          rw [e1] at q
          cases q
          exact .tup (e3 H) (words_dp _)
    · refine ⟨_, rfl, v, .ty "tuple", _, _, isTup d, rfl, .ty _, ty_of hd hn, kit_ty (kit_tup d), _, rfl, ?_⟩
      by_cases ht : ∃ ds, d = .tuple ds
      · obtain ⟨ds, rfl⟩ := ht
        obtain ⟨hlen, hm⟩ := hc ds rfl
        refine iteF ?_
        have hd0 := hd
        cases hd with
        | @tup a xs _ hs ha =>
          have hxl : xs.length = ds.length := dps_len ha
          refine ⟨_, rfl, a, xs, rfl, .inr hs, ar, _, rfl, .inr (hR H), rfl, _, rfl, ?_⟩
          show if (!decide (V.int ((xs.length : Nat) : Int) = V.int ((4 : Nat) : Int))) = true then _ else _
          by_cases h4 : ds.length = 4
          · rw [decide_eq_true (by rw [hxl, h4])]
            refine iteF ?_
            refine ⟨_, rfl, a, rfl, ⟨_, hs⟩, fun B hB => ?_⟩
            refine lc_it walk_tup (fun i H' => Same H H' ∧ H' B = some (.lst ((ds.take i).map fun e => .bl (isAction e)))) ⟨same_upd hB (Same.refl H), upd_same⟩ (fun _ _ _ h => same_tup h.1 hs) ?_ ?_
            · rintro i x H1 H2 hi ⟨hS1, hL⟩ ⟨rfl, hx⟩
              obtain ⟨e, he, hxe⟩ := dps_get ha hx
              refine ⟨rfl, yes_of ?_⟩
              refine ⟨_, rfl, x, e, rfl, same_dp hS1 e x hxe, hm e (List.mem_of_getElem? he), _, hL, ?_, same_upd hB hS1, ?_⟩
              · rw [List.length_map, List.length_take]
                have hs2 := sizeLine_eq
                omega
              · rw [upd_same]
                exact congrArg (fun l => some (HO.lst l)) (pick_upto (f := fun e => V.bl (isAction e)) he)
            · rintro H1 ⟨hS1, hL⟩
              refine ⟨B, ds.map isAction, rfl, .inl (.inl ?_), _, rfl, ?_⟩
              · rw [hL, List.map_map, hxl, List.take_length]
                rfl
              · rw [List.all_map]
                have e0 : ds.all (id ∘ isAction) = ds.all isAction := rfl
                rw [e0]
                have e1 : actsOf (.tuple ds) = if ds.all isAction = true then some ds else none := by
                  show (if ds.length = 4 ∧ ds.all isAction = true then some ds else none) = _
                  by_cases q : ds.all isAction = true
                  · rw [if_pos q, if_pos ⟨h4, q⟩]
                  · rw [if_neg q, if_neg (fun z => q z.2)]
                rw [e1] at k
                cases hall : ds.all isAction with
                | true =>
                  rw [hall] at k
                  refine iteF ?_
                  refine ⟨_, rfl, k _ H1 hS1 (fun q => (nomatch q)) fun ds' q => ?_⟩
                  cases q
                  exact ⟨a, rfl, same_dp hS1 _ _ hd0⟩
                | false =>
                  rw [hall] at k
                  refine iteT ?_
                  exact k _ H1 hS1 (fun _ => rfl) fun ds' q => (nomatch q)
          · rw [decide_eq_false (fun q => h4 (by rw [← hxl]; exact Int.ofNat.inj (V.int.inj q)))]
            refine iteT ?_
            have e1 : actsOf (.tuple ds) = none := if_neg fun z => h4 z.1
            rw [e1] at k
            exact k _ H (Same.refl H) (fun _ => rfl) fun ds' q => (nomatch q)
      · have e1 : actsOf d = none := by
          cases d with
          | str z => exact (h1 rfl).elim
          | tuple ds => exact (ht ⟨ds, rfl⟩).elim
          | _ => rfl
        have e2 : isTup d = false := by
          cases d with
          | tuple ds => exact (ht ⟨ds, rfl⟩).elim
          | _ => rfl
        rw [e2]
        rw [e1] at k
        refine iteT ?_
        exact k _ H (Same.refl H) (fun _ => rfl) fun ds' q => (nomatch q)
end
end LS
namespace LS
open PySem L2
/-- StackError: a class over ValueError without an __init__ of its own -/
structure BaseX (K : PySem.W.Frag) (mg : Str → Option Value) (C0 : Addr) : Prop where
  g : mg "StackError" = some (.ref C0)
  rd : ∃ mc, ClX.CRead K C0 mc ∧ PySem.W.findCls K (.ref C0) mc "__init__" = some (.val (.builtin "ValueError.__init__"))
/-- an own exception class at C -/
structure ExK (K : PySem.W.Frag) (mg : Str → Option Value) (x : Str) (C : Addr) : Prop where
  g : mg x = some (.ref C)
  oex : OexC K C
  exc : ExcC K C
  xf : XfC K C
/-- __init__(self, z): the base's, then self.f = z; t: the text ahead of z -/
def spXInit (K : PySem.W.Frag) (f t : Str) : Sp := fun vs H Q _ => ∃ (a C : Addr) (z : Str), vs = [.ref a, .str z] ∧ z.length ≤ sizeLine ∧ (Str.empty ++ t ++ z).length ≤ sizeLine ∧
  OexC K C ∧ PySem.W.findIn K (.ref C) f = some none ∧ H a = some (exo a C none) ∧
  ∀ dx, H dx = none → dx ≠ a → Q .non (upd (upd H dx (exd dx [(f, .str z)])) a (exo a C (some dx)))
abbrev sIRInit : Stmt := inClass (top i_InvalidRule) 0
abbrev tIR : Str := "a rule cannot have this "
section
variable {P : Program} {w : World} {K : PySem.W.Frag} {mg : Str → Option Value} {base : Heap}
theorem scIR : FnScope ["self", "part"] ["self", "part"] (defScope sIRInit) := ⟨rfl, rfl, rfl, by decide +kernel, rfl, by decide +kernel, by decide +kernel⟩
theorem ok_irinit {f C0 : Addr} {fd : FuncData} (F : Fun K "__init__" "InvalidRule.__init__" sIRInit f fd) (B : BaseX K mg C0) : FnOk P w K mg base CX0 1 f fd ["self", "part"] (spXInit K "part" tIR) := by
  obtain ⟨mc, rd, vV⟩ := B.rd
  refine F.ok scIR (fun vs H Q E h => ?_) (fun cdv A outer s H vs Q E hr h => ?_)
  · obtain ⟨a, C, v, rfl, _⟩ := h
    rfl
  · obtain ⟨a, C, z, rfl, hz1, hz2, T, hno, ha, k⟩ := h
    refine ⟨_, pss_cons (ps_expr (pe_seinit (by rfl) B.g rd vV (pa_cons (pv 0) (pa_cons (pe_joined (PJ.cons pe_str (PJ.cons (pe_fmt (pv 1)) PJ.nil))) pa_nil)))) (pss_one (ps_ost (pv 0) (pv 1))), ?_⟩
    refine ⟨_, rfl, _, rfl, by decide, _, rfl, .inl ⟨z, rfl, hz1, z, rfl, hz2, a, C, _, rfl, by show 1 ≤ 1000; decide, T, ha, ?_⟩⟩
    exact ⟨_, rfl, _, rfl, a, C, rfl, T, hno, .inl ⟨ha, k⟩⟩
/-- what raising leaves: the error's own dict, new -/
theorem raise_heap {H : Hp} {a C dx : Addr} {fs : List (Str × V)} (hna : H a = none) (hdx : upd H a (exo a C none) dx = none) : upd (del (upd (upd (upd H a (exo a C none)) dx (exd dx fs)) a (exo a C (some dx))) a) dx (.xd fs) = upd H dx (.xd fs) := by
  have hne : dx ≠ a := fun e => by
    rw [e, upd_same] at hdx
    cases hdx
  funext b
  by_cases h1 : b = dx
  · rw [h1, upd_same, upd_same]
  · rw [upd_ne h1, upd_ne h1]
    by_cases h2 : b = a
    · rw [h2, del_same, hna]
    · rw [del_ne h2, upd_ne h2, upd_ne h1, upd_ne h2]
/-- X(z), X an own error whose __init__ keeps spXInit: behind it the error has a new dict -/
theorem mkX_run {C : Addr} {f t z : Str} {H : Hp} {Q : XK} (hz1 : z.length ≤ sizeLine) (hz2 : (Str.empty ++ t ++ z).length ≤ sizeLine) (T : OexC K C) (hno : PySem.W.findIn K (.ref C) f = some none)
    (k : ∀ d, H d = none → Q (.ref C) (some d) (upd H d (.xd [(f, .str z)]))) {σ : St} : tMkO C (spXInit K f t) [] (tCons (tC (.str z)) tNil) σ H Q := by
  refine ⟨by show 1 ≤ 1000; decide, fun a ha => ⟨a, C, z, rfl, hz1, hz2, T, hno, upd_same, fun dx hdx hne => ⟨rfl, dx, [(f, .str z)], upd_same, ?_, ?_, ?_⟩⟩⟩
  · rw [upd_ne hne, upd_same]
  · rw [upd_ne hne] at hdx
    exact hdx
  · have e := raise_heap (fs := [(f, V.str z)]) (C := C) ha hdx
    rw [e]
    rw [upd_ne hne] at hdx
    exact k dx hdx
end
end LS
namespace LS
open PySem L2
abbrev sRInit : Stmt := inClass (top i_Rule) 0
abbrev sRKind : Stmt := inClass (top i_Rule) 3
abbrev sREq : Stmt := inClass (top i_Rule) 4
def ruleF (z : Str) (a : Addr) : List (Str × V) := [("_module", .str z), ("_control", .ref a)]
/-- at p a rule: module z, actions ds -/
def RuleAt (K : PySem.W.Frag) (C : Addr) (H : Hp) (p : Addr) (z : Str) (ds : List PyData) : Prop := ∃ dx a, H p = some (.ins C dx (ruleF z a)) ∧ Dp K H (.ref a) (.tuple ds)
structure RuleK (K : PySem.W.Frag) (mg : Str → Option Value) (C : Addr) : Prop where
  g : mg "Rule" = some (.ref C)
  cl : Cls K C
  nM : NoAttr K C "_module"
  nC : NoAttr K C "_control"
def spRInit (K : PySem.W.Frag) (C CI : Addr) : Sp := fun vs H Q E => ∃ (p dx : Addr) (m c : V) (dm dc : PyData), vs = [.ref p, m, c] ∧ H p = some (.ins C dx []) ∧ Dp K H m dm ∧ NoList dm ∧ (∀ z, dm = .str z → z.length ≤ 1000) ∧ Dp K H c dc ∧ Ctl dc ∧
  (isWord dm = false → ∀ d H', Same H H' → H d = none → H' d = some (.xd [("part", .str "module")]) → E (.ref CI) (some d) H') ∧
  (isWord dm = true → actsOf dc = none → ∀ d H', Same H H' → H d = none → H' d = some (.xd [("part", .str "control")]) → E (.ref CI) (some d) H') ∧
  (∀ z ds H', dm = .str z → isWord dm = true → actsOf dc = some ds → SameBut p H H' → RuleAt K C H' p z ds → Q .non H')
theorem Same.free' {H H' : Hp} (e : Same H H') {l : Addr} (h : H' l = none) : H l = none := e.free h
section
variable {P : Program} {w : World} {K : PySem.W.Frag} {mg : Str → Option Value} {base : Heap}
theorem scRInit : FnScope ["self", "module", "control", "actions"] ["self", "module", "control"] (defScope sRInit) := ⟨rfl, rfl, rfl, by decide +kernel, rfl, by decide +kernel, by decide +kernel⟩
theorem word_str {d : PyData} (h : isWord d = true) : ∃ z, d = .str z ∧ isWordS z = true := by
  cases d with
  | str z => exact ⟨z, rfl, h⟩
  | _ => cases h
theorem rule_put (m c : V) : putF "_control" c (putF "_module" m []) = ([("_module", m), ("_control", c)] : List (Str × V)) := by
  show (if ("_module" : Str) = "_control" then [(("_control" : Str), c)] else (("_module" : Str), m) :: putF "_control" c []) = _
  rw [if_neg (by decide +kernel)]
  rfl
/-- data does not lean on an instance -/
theorem but_tup {K : PySem.W.Frag} {C dx : Addr} {fs : List (Str × V)} {H H' : Hp} {p a : Addr} {xs : List V} (hp : H p = some (.ins C dx fs)) (e : SameBut p H H') (h : SqT K H a xs) : SqT K H' a xs := by
  have ne : ∀ {o : HO}, H a = some o → (∀ C dx fs, o ≠ .ins C dx fs) → a ≠ p := fun {o} q n z => by
    rw [z, hp] at q
    exact n C dx fs (Option.some.inj q).symm
  rcases h with (h | ⟨o, h⟩) | h
  · exact .inl (.inl (e _ _ (ne h fun _ _ _ z => nomatch z) h))
  · exact .inl (.inr ⟨o, e _ _ (ne h fun _ _ _ z => nomatch z) h⟩)
  · exact .inr h
theorem but_lst {K : PySem.W.Frag} {C dx : Addr} {fs : List (Str × V)} {H H' : Hp} {p a : Addr} {xs : List V} (hp : H p = some (.ins C dx fs)) (e : SameBut p H H') (h : SqL K H a xs) : SqL K H' a xs := by
  have ne : ∀ {o : HO}, H a = some o → (∀ C dx fs, o ≠ .ins C dx fs) → a ≠ p := fun {o} q n z => by
    rw [z, hp] at q
    exact n C dx fs (Option.some.inj q).symm
  rcases h with (h | ⟨o, h⟩) | h
  · exact .inl (.inl (e _ _ (ne h fun _ _ _ z => nomatch z) h))
  · exact .inl (.inr ⟨o, e _ _ (ne h fun _ _ _ z => nomatch z) h⟩)
  · exact .inr h
mutual
theorem same_but {K : PySem.W.Frag} {C dx : Addr} {fs : List (Str × V)} {H H' : Hp} {p : Addr} (hp : H p = some (.ins C dx fs)) (e : SameBut p H H') : ∀ (d : PyData) (v : V), Dp K H v d → Dp K H' v d
  | .none, _, h => by cases h; exact .non
  | .bool _, _, h => by cases h; exact .bl _
  | .int _, _, h => by cases h; exact .int _
  | .str _, _, h => by cases h; exact .str _
  | .list ds, _, h => by
    cases h with
    | lst hs ha => exact .lst (but_lst hp e hs) (same_buts hp e ds _ ha)
  | .tuple ds, _, h => by
    cases h with
    | tup hs ha => exact .tup (but_tup hp e hs) (same_buts hp e ds _ ha)
  | .dict _, _, h => by cases h
theorem same_buts {K : PySem.W.Frag} {C dx : Addr} {fs : List (Str × V)} {H H' : Hp} {p : Addr} (hp : H p = some (.ins C dx fs)) (e : SameBut p H H') : ∀ (ds : List PyData) (vs : List V), DpAll K H vs ds → DpAll K H' vs ds
  | [], _, h => by cases h; exact .nil
  | d :: ds, _, h => by
    cases h with
    | cons h1 h2 => exact .cons (same_but hp e d _ h1) (same_buts hp e ds _ h2)
end
theorem ok_rinit {f fI fW fO dC CI C fA : Addr} {fd fdI fdW fdO fdA : FuncData} {C0 : Addr} (F : Fun K "__init__" "Rule.__init__" sRInit f fd) (R : RuleK K mg C) (T : RulesK K w mg) (D : CtrlK K w mg dC)
    (FW : Fun K "is_word" "is_word" sWord fW fdW) (gW : mg "is_word" = some (.ref fW)) (bW : Binds K fdW ["value"] [])
    (FO : Fun K "actions_of" "actions_of" sActs fO fdO) (gO : mg "actions_of" = some (.ref fO)) (bO : Binds K fdO ["control"] [])
    (FA : Fun K "is_action" "is_action" sAction fA fdA) (gA : mg "is_action" = some (.ref fA)) (bA : Binds K fdA ["value"] [])
    (X : ExK K mg "InvalidRule" CI) (nP : PySem.W.findIn K (.ref CI) "part" = some none) (B : BaseX K mg C0)
    (FI : Fun K "__init__" "InvalidRule.__init__" sIRInit fI fdI) (bI : Binds K fdI ["self", "part"] []) (N : DefK P w K mg base CX0 1 "is_number" ["value", "least", "most"] (spNum K)) (iC : PySem.W.findIn K (.ref CI) "__init__" = some (some (.ref fI))) (tI : PySem.W.typeIn K (.ref fI) = some (.type "function")) :
    FnOk P w K mg base (L2.CX P w) 4 f fd ["self", "module", "control"] (spRInit K C CI) := by
  have GW : FnOk P w K mg base CX0 1 fW fdW ["value"] (spWord K) := ok_word FW T
  have GO : FnOk P w K mg base CX0 3 fO fdO ["control"] (spActs K) := ok_acts FO T D FA gA bA N
  have GI : FnOk P w K mg base CX0 1 fI fdI ["self", "part"] (spXInit K "part" tIR) := ok_irinit FI B
  refine F.okX scRInit (fun vs H Q E h => ?_) (fun cdv A outer s H vs Q E hr h => ?_)
  · obtain ⟨p, dx, m, c, dm, dc, rfl, _⟩ := h
    rfl
  · obtain ⟨p, dx, m, c, dm, dc, rfl, hp, hm, nm, lm, hc, kc, e1, e2, k⟩ := h
    refine ⟨_, pss_cons (ps_if (pt_not (pt_val (pe_call GW (hr.mono (by decide)) (by rfl) gW FW.kp bW .nil pass0 (pa_cons (pv 1) pa_nil))))
          (pss_one (ps_raise rfl (takes_of rfl rfl rfl rfl) (pmk_oex X.oex iC tI GI (hr.mono (by decide)) bI .nil pass0 (by rfl) X.g (pa_cons pe_str pa_nil)))) pss_nil)
      (pss_cons (ps_set (i := 3) scRInit.nd rfl (.inl rfl) (pe_call GO hr (by rfl) gO FO.kp bO .nil pass0 (pa_cons (pv 2) pa_nil)))
      (pss_cons (ps_if (pt_cmpR op_isN (pv 3) pe_non (nomark _))
          (pss_one (ps_raise rfl (takes_of rfl rfl rfl rfl) (pmk_oex X.oex iC tI GI (hr.mono (by decide)) bI .nil pass0 (by rfl) X.g (pa_cons pe_str pa_nil)))) pss_nil)
      (pss_cons (ps_fld (pv 0) (pv 1) rfl) (pss_one (ps_fld (pv 0) (pv 3) rfl))))), ?_⟩
    refine ⟨_, rfl, m, dm, rfl, hm, nm, lm, fun H1 S1 => ⟨_, rfl, ?_⟩⟩
    refine ite2 (fun h1 => ?_) (fun h1 => ?_)
    · have h1' : isWord dm = false := by
        cases q : isWord dm with
        | false => rfl
        | true => rw [q] at h1; cases h1
      refine mkX_run (by decide +kernel) (by decide +kernel) X.oex nP fun d hd => ?_
      exact e1 h1' d _ (same_upd (S1.free hd) S1) (S1.free hd) upd_same
    · have h1' : isWord dm = true := by
        cases q : isWord dm with
        | true => rfl
        | false => rw [q] at h1; exact (h1 rfl).elim
      refine ⟨_, rfl, c, dc, rfl, same_dp S1 dc c hc, kc, fun a H2 S2 k1 k2 => ?_⟩
      have S3 : Same H H2 := S1.trans S2
      cases q : actsOf dc with
      | none =>
        cases k1 q
        refine ⟨_, rfl, rfl, _, rfl, ?_⟩
        refine iteT ?_
        refine mkX_run (by decide +kernel) (by decide +kernel) X.oex nP fun d hd => ?_
        exact e2 h1' q d _ (same_upd (S3.free hd) S3) (S3.free hd) upd_same
      | some ds =>
        obtain ⟨t, rfl, hdt⟩ := k2 ds q
        obtain ⟨z, rfl, _⟩ := word_str h1'
        cases hm
        refine ⟨_, rfl, rfl, _, rfl, ?_⟩
        refine iteF ?_
        have hp2 := S3 _ _ hp
        refine ⟨_, rfl, _, rfl, p, C, dx, _, rfl, hp2, R.cl, R.nM, (by show 0 < 1000; decide), _, rfl, _, rfl, p, C, dx, _, rfl, upd_same, R.cl, R.nC, (by show 1 < 1000; decide), ?_⟩
        refine k z ds _ rfl h1' q (fun b o hb e => ?_) ⟨dx, t, ?_, ?_⟩
        · rw [upd_ne hb, upd_ne hb]
          exact S3 b o e
        · rw [upd_same, rule_put]
          rfl
        · refine same_but hp2 ?_ _ _ hdt
          intro b o hb e
          rw [upd_ne hb, upd_ne hb]
          exact e
end
end LS
namespace LSK
open PySem PySem.Spec PyProof.Rows PySem.SeqAt PySem.W
section
variable {M : Model} {prog : Program} {w : World} {A : Around} {E : Value → Shared → Prop} {s : Shared} {K : Frag} {x y C f : Addr} {ox oy : Obj} {od od' : Option Obj}
theorem boundNe {args : List Value} {Q : Option Value → Shared → Prop} (X : K.In s.heap) (I : InstAt s.heap x ox C od) (hs : findIn K (.ref C) "__ne__" = some (some (.builtin "object.__ne__")))
    (h : wpAny M A (call (.builtin "object.__ne__") (.ref x :: args)) (fun v => Q (some v)) E s) : wpAny M A (callSpecialIfBound? (.ref x) "__ne__" args) Q E s := by
  simp only [callSpecialIfBound?, bindSpecialIfBound?]
  refine wpAny_holding (wpAny_bind (wpAny_bind (wpAny_bind (I.type.here ((looks_findIn X hs).here ?_)))))
  refine wpAny_bind (wpAny_askSetting (wpAny_ite ?_))
  have last : wpAny M A (call (.builtin "object.__ne__") ([.ref x] ++ args) >>= fun v => pure (some v)) Q E s := wpAny_bind (wpAny_mono h (fun v s' q => wpAny_pure q) fun _ _ q => q)
  split
  · exact wpAny_bind (wpAny_of_eq (F.cmp_object.ne.bind _) (wpAny_pure (by exact last)))
  · exact wpAny_tryCatch (wpAny_bind (wpAny_of_eq (F.cmp_object.ne.bind _) (wpAny_pure (by exact last))))
theorem entryNe (X : K.In s.heap) (I : InstAt s.heap x ox C od) (he : findIn K (.ref C) "__eq__" = some (some (.ref f))) (hf : isFn K (.ref f) = true) (hu : A.units < cLine) {Q : Fin → Shared → Prop}
    (hcall : wpAny (model prog w) A (call (.ref f) [.ref x, .ref y]) (fun v s' => ∃ b, v = .bool b ∧ Q (.done (.ret (.bool (!b)))) s') E s) : wpAny (model prog w) A (Builtin.«object.__ne__» ⟨[.ref x, .ref y], []⟩) Q E s := by
  unfold Builtin.«object.__ne__»
  repeat (first
    | with_reducible refine wpAny_cRoomFor hu ?_
    | (refine wpAny_bind (m := callSpecialIfBound? (.ref x) (Str.ofString "__eq__") [.ref y]) (ifBound_K X I he hf (wpAny_mono hcall (fun r s' hr => by
          obtain ⟨b, rfl, hq⟩ := hr
          repeat (first | exact hq | exact wpAny_pure hq | exact wpAny_truthy_bool hq | (refine wpAny_bind (m := truthy (.bool _)) (wpAny_truthy_bool ?_)) | wp_step)) fun _ _ e => e)))
    | wp_step)
theorem tryNe (X : K.In s.heap) (I : InstAt s.heap x ox C od) (hn : findIn K (.ref C) "__ne__" = some (some (.builtin "object.__ne__"))) (he : findIn K (.ref C) "__eq__" = some (some (.ref f))) (hf : isFn K (.ref f) = true)
    (hm : mroIn K C (.type "object") = some true) (hu : A.units + 1 < cLine) {Q : Option Value → Shared → Prop}
    (hcall : wpAny (model prog w) A.in1 (call (.ref f) [.ref x, .ref y]) (fun v s' => ∃ b, v = .bool b ∧ Q (some (.bool (!b))) s') E s) : wpAny (model prog w) A (tryCompare (.ref x) "__ne__" (.ref y)) Q E s := by
  simp only [tryCompare]
  refine wpAny_bind (boundNe X I hn (wpAny_call (codeAny_call_builtin F.cmp_object.ne.plain F.cmpEntry_ne
    (check_slot F.cmpKind_ne F.cmpSplit_ne (I.type.andThen (looks_mroIn X hm)) (F.cmpArgs_ne _ _) (entryNe (A := A.in1) X I he hf hu (wpAny_mono hcall (fun v s' hv => ?_) fun _ _ e => e))))))
  obtain ⟨b, rfl, hq⟩ := hv
  first | exact ⟨b, rfl, wpAny_pure hq⟩ | exact ⟨b, rfl, wpAny_pure (wpAny_pure hq)⟩ | exact ⟨b, rfl, hq⟩
theorem richNe (X : K.In s.heap) (I : InstAt s.heap x ox C od) (J : InstAt s.heap y oy C od') (hn : findIn K (.ref C) "__ne__" = some (some (.builtin "object.__ne__"))) (he : findIn K (.ref C) "__eq__" = some (some (.ref f))) (hf : isFn K (.ref f) = true)
    (hm : mroIn K C (.type "object") = some true) (hu : A.units + 1 < cLine) {Q : Value → Shared → Prop}
    (hcall : wpAny (model prog w) A.in1 (call (.ref f) [.ref x, .ref y]) (fun v s' => ∃ b, v = .bool b ∧ Q (.bool (!b)) s') E s) : wpAny (model prog w) A (richCompare .NotEq (.ref x) (.ref y)) Q E s := by
  unfold richCompare
  simp only [oneThing_ref]
  refine wpAny_holding (wpAny_bind (wpAny_cRoomFor (Nat.lt_of_succ_lt hu) ?_))
  rw [cmpInfo_NotEq]
  dsimp only
  refine wpAny_bind (I.type.here (wpAny_bind (J.type.here ?_)))
  rw [show (Value.ref C != Value.ref C) = false from by simp]
  simp only [Bool.false_eq_true, if_false]
  refine wpAny_bind (wpAny_pure ?_)
  simp only [Bool.false_eq_true, if_false]
  refine wpAny_bind (tryNe X I hn he hf hm hu (wpAny_mono hcall (fun v s' hv => ?_) fun _ _ e => e))
  obtain ⟨b, rfl, hq⟩ := hv
  first | exact ⟨b, rfl, wpAny_pure hq⟩ | exact ⟨b, rfl, wpAny_pure (wpAny_pure hq)⟩
end
end LSK
namespace LS
open PySem L2
/-- two instances of C by the own ==, whose promise is sp -/
def rEqI (C : Addr) (sp : Sp) (neg : Bool) : R2 := fun x y H Q => ∃ a b dx dy fs gs, x = .ref a ∧ y = .ref b ∧ H a = some (.ins C dx fs) ∧ H b = some (.ins C dy gs) ∧ sp [.ref a, .ref b] H (fun v H' => ∃ k, v = .bl k ∧ Q (.bl (if neg then !k else k)) H') E0
section
variable {X : Cx} {n : Nat} {C f : Addr} {fd : FuncData} {ps : List Str} {sp : Sp}
theorem op_eqI (F : FnOk X.prog X.w X.K X.mg X.base CX0 n f fd ps sp) (hr : Room n X.A) (hs : PySem.W.findIn X.K (.ref C) "__eq__" = some (some (.ref f))) (hf : PySem.W.isFn X.K (.ref f) = true) (hb : Binds X.K fd ps []) :
    OpR X (compareOp .Eq) (rEqI C sp false) := by
  intro pins s σ H x y v u Q I rx ry h
  obtain ⟨a, b, dx, dy, fs, gs, rfl, rfl, ha, hb', hsp⟩ := h
  cases rx
  cases ry
  obtain ⟨mA, J, _⟩ := ins_get I.hok ha
  obtain ⟨mB, J', _⟩ := ins_get I.hok hb'
  obtain ⟨od, J, _⟩ := J.look
  obtain ⟨od', J', _⟩ := J'.look
  obtain ⟨m, hF⟩ := I.fr
  show wpAny (model X.prog X.w) X.A (richCompare .Eq (.ref a) (.ref b)) (EP X pins σ Q) X.xe s
  refine PySem.W.cmp_K (op := .Eq) (tb := .ref C) hr.units0 hF I.ok.mod.kin J J'.type (by simp [PySem.W.notFirst]) hs hf ?_
  refine wpAny_mono (run_fn (us := [.ref a, .ref b]) (vs := [.ref a, .ref b]) F hr hb .nil pass0 I (.cons rfl (.cons rfl .nil)) hsp) (fun v s' z => ?_) fun _ _ e => e
  obtain ⟨r, H', I', rv, kk, er, q⟩ := z
  subst er
  cases rv
  rw [if_neg Bool.false_ne_true] at q
  exact ⟨.bl kk, H', I', rfl, q⟩
theorem op_neI (F : FnOk X.prog X.w X.K X.mg X.base CX0 n f fd ps sp) (hr : Room (n + 1) X.A) (hs : PySem.W.findIn X.K (.ref C) "__eq__" = some (some (.ref f))) (hf : PySem.W.isFn X.K (.ref f) = true) (hb : Binds X.K fd ps [])
    (hn : PySem.W.findIn X.K (.ref C) "__ne__" = some (some (.builtin "object.__ne__"))) (hm : PySem.W.mroIn X.K C (.type "object") = some true) : OpR X (compareOp .NotEq) (rEqI C sp true) := by
  intro pins s σ H x y v u Q I rx ry h
  obtain ⟨a, b, dx, dy, fs, gs, rfl, rfl, ha, hb', hsp⟩ := h
  cases rx
  cases ry
  obtain ⟨mA, J, _⟩ := ins_get I.hok ha
  obtain ⟨mB, J', _⟩ := ins_get I.hok hb'
  obtain ⟨od, J, _⟩ := J.look
  obtain ⟨od', J', _⟩ := J'.look
  show wpAny (model X.prog X.w) X.A (richCompare .NotEq (.ref a) (.ref b)) (EP X pins σ Q) X.xe s
  refine LSK.richNe I.kIn J J' hn hs hf hm (by have := hr.un; omega) ?_
  have hl := F.len _ _ _ _ hsp
  refine wpAny_call (codeAny_mono (F.run X.A.in1 X.stack s H ⟨[.ref a, .ref b], []⟩ [.ref a, .ref b] [.ref a, .ref b] _ E0 hr.in1 I.env0.in1 (by
    have q := hb s [.ref a, .ref b] I.kIn (by simpa using hl)
    simpa using q) (.cons rfl (.cons rfl .nil)) hsp) fun r s' hq => ?_)
  cases r with
  | error e => exact (show False from hq).elim
  | ok fl =>
    cases fl with
    | ret w =>
      obtain ⟨z, H', I', rz, kk, ez, q⟩ := I.after hq
      subst ez
      cases rz
      rw [if_pos rfl] at q
      exact ⟨kk, rfl, .bl (!kk), H', I', rfl, q⟩
    | next => exact False.elim hq
    | brk => exact False.elim hq
    | cont => exact False.elim hq
end
def kindV (ds : List PyData) : V := match ctrlTab.find? (fun r => PyData.eqv (.tuple (r.2.map PyData.str)) (.tuple ds)) with
  | some r => .str r.1
  | none => .non
/-- equal rules -/
def eqRule (z z' : Str) (ds ds' : List PyData) : Bool := decide (z = z') && PyData.eqv (.tuple ds) (.tuple ds')
def spREq (K : PySem.W.Frag) (C : Addr) : Sp := fun vs H Q _ => ∃ (p q : Addr) (z z' : Str) (ds ds' : List PyData), vs = [.ref p, .ref q] ∧ RuleAt K C H p z ds ∧ RuleAt K C H q z' ds' ∧ SeqAt.shaped (.tuple ds) = true ∧ SeqAt.shaped (.tuple ds') = true ∧
  Q (.bl (eqRule z z' ds ds')) H
def spKind (K : PySem.W.Frag) (C : Addr) : Sp := fun vs H Q _ => ∃ (p : Addr) (z : Str) (ds : List PyData), vs = [.ref p] ∧ RuleAt K C H p z ds ∧ SeqAt.shaped (.tuple ds) = true ∧ Q (kindV ds) H
structure InstK (K : PySem.W.Frag) (C : Addr) : Prop where
  ha : PySem.W.findIn K (.ref C) "__class__" = some (some (.builtin "object.__class__"))
  hn : PySem.W.specialIn K (.builtin "object.__class__") "__get__" = some (some (.builtin "getset_descriptor.__get__"))
  ht : PySem.W.takesIn K (.builtin "object.__class__") = some true
  hm : PySem.W.mroIn K C (.type "object") = some true
theorem kit_self {K : PySem.W.Frag} {C : Addr} : PySem.W.kitOne K (.ref C) (.ref C) = some true := by
  unfold PySem.W.kitOne
  rw [if_pos (by simp)]
theorem rule_m {z : Str} {a : Addr} : (ruleF z a).lookup ("_module" : Str) = some (.str z) := by
  show ([(("_module" : Str), V.str z), (("_control" : Str), V.ref a)] : List (Str × V)).lookup ("_module" : Str) = some (.str z)
  simp [List.lookup]
theorem rule_c {z : Str} {a : Addr} : (ruleF z a).lookup ("_control" : Str) = some (.ref a) := by
  show ([(("_module" : Str), V.str z), (("_control" : Str), V.ref a)] : List (Str × V)).lookup ("_control" : Str) = some (.ref a)
  have e : (("_control" : Str) == ("_module" : Str)) = false := by decide +kernel
  simp [List.lookup, e]
section
variable {P : Program} {w : World} {K : PySem.W.Frag} {mg : Str → Option Value} {base : Heap}
theorem scREq : FnScope ["self", "other"] ["self", "other"] (defScope sREq) := ⟨rfl, rfl, rfl, by decide +kernel, rfl, by decide +kernel, by decide +kernel⟩
theorem ok_req {f C : Addr} {fd : FuncData} (F : Fun K "__eq__" "Rule.__eq__" sREq f fd) (R : RuleK K mg C) (N : InstK K C) (isi : mg "isinstance" = none) : FnOk P w K mg base CX0 1 f fd ["self", "other"] (spREq K C) := by
  refine F.ok scREq (fun vs H Q E h => ?_) (fun cdv A outer s H vs Q E hr h => ?_)
  · obtain ⟨p, q, z, z', ds, ds', rfl, _⟩ := h
    rfl
  · obtain ⟨p, q, z, z', ds, ds', rfl, ⟨dx, a, hp, hd⟩, ⟨dy, b, hq, hd'⟩, s1, s2, k⟩ := h
    have hu : (A.deeper (PyProof.Rows.envOfC "Rule.__eq__" (defScope sREq) s.heap.objs.size f cdv)).units + 64 < cLine := by have := hr.un; omega
    refine ⟨_, pss_one (ps_ret (pe_and (pe_callB call_isi (by rfl) isi (by decide +kernel) (pa_cons (pv 1) (pa_cons (pe_glob (v := .ref C) (by rfl) R.g rfl) pa_nil)))
      (pe_and (pe_cmpR op_eq (pe_fld (pv 0) rfl) (pe_fld (pv 1) rfl) (nomark _)) (pe_one (pe_cmpR (op_eqD hu) (pe_fld (pv 0) rfl) (pe_fld (pv 1) rfl) (nomark _)))))), ?_⟩
    refine ⟨_, rfl, .ref q, .ref C, .ref C, .ref C, true, rfl, .own C, .base (.ins hq R.cl N.ha N.hn N.ht N.hm), kit_self, _, rfl, ?_⟩
    refine iteT ?_
    refine ⟨_, rfl, p, C, dx, _, _, rfl, hp, R.cl, R.nM, rule_m, _, rfl, q, C, dy, _, _, rfl, hq, R.cl, R.nM, rule_m, rfl, _, rfl, ?_⟩
    have e : decide (V.str z = V.str z') = decide (z = z') := by
      by_cases h : z = z'
      · rw [h]
        simp
      · rw [decide_eq_false h, decide_eq_false (fun q => h (V.str.inj q))]
    rw [e]
    refine ite2 (fun h => ?_) (fun h => ?_)
    · refine ⟨_, rfl, p, C, dx, _, _, rfl, hp, R.cl, R.nC, rule_c, _, rfl, q, C, dy, _, _, rfl, hq, R.cl, R.nC, rule_c, _, _, hd, hd', s1, s2, ?_⟩
      unfold eqRule at k
      rw [h, Bool.true_and] at k
      exact k
    · unfold eqRule at k
      rw [Bool.eq_false_iff.mpr h, Bool.false_and] at k
      exact k
theorem scRKind : FnScope ["self", "word"] ["self"] (defScope sRKind) := ⟨rfl, rfl, rfl, by decide +kernel, rfl, by decide +kernel, by decide +kernel⟩
theorem ctrl_keys {K : PySem.W.Frag} : ∀ {es : List DictEntry} {rs : List (Str × List Str)}, CtrlEs K es rs → es.length = rs.length ∧ ∀ (i : Nat) (z : Str), (rs.map (·.1))[i]? = some z → ∃ (en : DictEntry) (t : Tok), es[i]? = some en ∧ en.key = .str z t
  | [], [], _ => ⟨rfl, fun i z h => by simp at h⟩
  | e :: es, r :: rs, ⟨⟨t, a, hk, hv, hs⟩, h⟩ => by
    obtain ⟨h1, h2⟩ := ctrl_keys h
    refine ⟨congrArg (· + 1) h1, fun i z hz => ?_⟩
    cases i with
    | zero =>
      simp at hz
      subst hz
      exact ⟨e, t, rfl, hk⟩
    | succ i => exact h2 i z (by simpa using hz)
theorem kget_dct {dC : Addr} {z : Str} {a : Addr} (h : KGet K w dC z (.ref a)) : KDct K w dC z (.ref a) := by
  obtain ⟨es, n, r, hl, hk, _, hns, h1, h2⟩ := h
  cases r with
  | none => cases h2 rfl
  | some u => exact ⟨es, n, u, hl, hk, hns, h1 u rfl⟩
theorem looked_at : ∀ (i : Nat) (r : Str × List Str), ctrlTab[i]? = some r → looked r.1 ctrlTab = some r.2
  | 0, r, h => by cases h; decide +kernel
  | 1, r, h => by cases h; decide +kernel
  | 2, r, h => by cases h; decide +kernel
  | 3, r, h => by cases h; decide +kernel
  | i + 4, r, h => by
    have q := (List.getElem?_eq_some_iff.mp h).1
    have e : ctrlTab.length = 4 := rfl
    omega
theorem ok_kind {f C dC : Addr} {fd : FuncData} (F : Fun K "kind" "Rule.kind" sRKind f fd) (R : RuleK K mg C) (D : CtrlK K w mg dC) : FnOk P w K mg base CX0 1 f fd ["self"] (spKind K C) := by
  refine F.ok scRKind (fun vs H Q E h => ?_) (fun cdv A outer s H vs Q E hr h => ?_)
  · obtain ⟨p, z, ds, rfl, _⟩ := h
    rfl
  · obtain ⟨p, z, ds, rfl, ⟨dx, a, hp, hd⟩, s1, k⟩ := h
    have hu : (A.deeper (PyProof.Rows.envOfC "Rule.kind" (defScope sRKind) s.heap.objs.size f cdv)).units + 64 < cLine := by have := hr.un; omega
    refine ⟨_, pss_cons (ps_for PassesOwn.never rfl (pi_kkeys (pe_glob (v := .ref dC) (by rfl) D.g rfl)) (pg_name (i := 1) scRKind.nd rfl (Or.inl rfl))
        (pss_one (ps_if (pt_cmpR (op_eqD hu) (pe_ix ix_kdict (pe_glob (v := .ref dC) (by rfl) D.g rfl) (pv 1) (fun _ _ => rfl)) (pe_fld (pv 0) rfl) (nomark _)) (pss_one (ps_ret (pv 1))) pss_nil)))
      (pss_one (ps_ret pe_non)), ?_⟩
    obtain ⟨es, n, hl, hk, hc⟩ := D.ex
    obtain ⟨c1, c2⟩ := ctrl_keys hc
    refine ⟨dC, ctrlTab.map (·.1), rfl, ⟨es, n, hl, D.sys, by rw [← Array.length_toList, c1, List.length_map], fun i z hz => ?_⟩, ?_⟩
    · obtain ⟨en, t, e1, e2⟩ := c2 i z hz
      exact ⟨en, t, by rw [← Array.getElem?_toList]; exact e1, e2⟩
    refine for_it walk_kk (fun i σ H' => H' = H ∧ (∃ v, σ = [some (.ref p), v]) ∧ (ctrlTab.take i).find? (fun r => PyData.eqv (.tuple (r.2.map PyData.str)) (.tuple ds)) = none) ⟨rfl, ⟨none, rfl⟩, rfl⟩ (fun _ _ _ _ _ => True.intro) ?_ ?_
    · rintro i x σ H1 H2 hi ⟨rfl, ⟨v, rfl⟩, hf⟩ ⟨rfl, zz, hz, rfl⟩
      obtain ⟨r, hr1, rfl⟩ : ∃ r, ctrlTab[i]? = some r ∧ r.1 = zz := by
        rw [List.getElem?_map] at hz
        cases e : ctrlTab[i]? with
        | none => rw [e] at hz; cases hz
        | some r => rw [e] at hz; exact ⟨r, rfl, Option.some.inj hz⟩
      have hlk := looked_at i r hr1
      obtain ⟨acts, ta, e1, e2, e3⟩ : ∃ acts ta, looked r.1 ctrlTab = some acts ∧ KGet K w dC r.1 (.ref ta) ∧ ∀ H, SqT K H ta (acts.map V.str) := by
        rcases ctrl_ns D r.1 with ⟨q, _⟩ | q
        · rw [hlk] at q
          cases q
        · exact q
      rw [hlk] at e1
      cases e1
      have hsh : SeqAt.shaped (.tuple (r.2.map PyData.str)) = true := by
        have all4 : ∀ r ∈ ctrlTab, SeqAt.shaped (.tuple (r.2.map PyData.str)) = true := by decide +kernel
        exact all4 r (List.mem_of_getElem? hr1)
      refine ⟨_, rfl, dC, r.1, .ref ta, rfl, rfl, kget_dct e2, _, rfl, p, C, dx, _, _, rfl, hp, R.cl, R.nC, rule_c, _, _, .tup (e3 H2) (words_dp _), hd, hsh, s1, _, rfl, ?_⟩
      have ft : (ctrlTab.take (i + 1)).find? (fun r => PyData.eqv (.tuple (r.2.map PyData.str)) (.tuple ds)) = if PyData.eqv (.tuple (r.2.map PyData.str)) (.tuple ds) = true then some r else none := by
        rw [List.take_add_one, hr1, List.find?_append, hf]
        rw [Option.none_or, Option.toList_some, List.find?_cons]
        cases PyData.eqv (.tuple (r.2.map PyData.str)) (.tuple ds) <;> rfl
      refine ite2 (fun h => ?_) (fun h => ?_)
      · refine ⟨_, rfl, ?_⟩
        rw [if_pos h] at ft
        have e : ctrlTab.find? (fun r => PyData.eqv (.tuple (r.2.map PyData.str)) (.tuple ds)) = some r := by
          rw [← List.take_append_drop (i + 1) ctrlTab, List.find?_append, ft]
          rfl
        unfold kindV at k
        rw [e] at k
        exact k
      · rw [if_neg h] at ft
        exact ⟨rfl, ⟨_, rfl⟩, ft⟩
    · rintro σ H1 ⟨rfl, ⟨v, rfl⟩, hf⟩
      have e : ctrlTab.find? (fun r => PyData.eqv (.tuple (r.2.map PyData.str)) (.tuple ds)) = none := hf
      unfold kindV at k
      rw [e] at k
      exact k
end
end LS
/-! tuples that are known to have no dict of their own: their methods -/
namespace LS
open PySem PySem.Spec PyProof.Rows L2
def BarT (H : Hp) (a : Addr) (xs : List V) : Prop := ∃ o : Obj, o.dict = none ∧ H a = some (.frz o (.tup xs))
theorem BarT.sqt {K : PySem.W.Frag} {H : Hp} {a : Addr} {xs : List V} (h : BarT H a xs) : SqT K H a xs := by
  obtain ⟨o, _, h⟩ := h
  exact .inl (.inr ⟨o, h⟩)
theorem BarT.same {H H' : Hp} {a : Addr} {xs : List V} (h : BarT H a xs) (S : Same H H') : BarT H' a xs := by
  obtain ⟨o, n, h⟩ := h
  exact ⟨o, n, S _ _ h⟩
section
variable {X : Cx}
/-- tuple(a list): a new one, bare -/
theorem call_tuple_bare : CallR X (.type "tuple") (fun xs H Q => ∃ p ys, xs = [.ref p] ∧ SqL X.K H p ys ∧ ∀ (l : Addr) (o : Obj), o.dict = none → H l = none → Q (.ref l) (upd H l (.frz o (.tup ys)))) := by
  intro pins s σ H xs us Q I r h
  obtain ⟨p, ys, rfl, hq, q⟩ := h
  obtain ⟨u, rfl, rx⟩ := vals1 r
  cases rx
  obtain ⟨its, r', pl, hz⟩ := I.list hq
  have hlen := r'.length
  refine call_tuple_list pl.isList (fun h' kp => ?_) (by simp only [List.size_toArray] <;> omega)
  have I1 : Inv X pins σ H { s with heap := h' } := I.kept (t' := s.toks) kp
  have I2 : Inv X pins σ (upd H h'.objs.size (.frz { cls := .type "tuple", data := .seq its.toArray } (.tup ys))) { s with heap := h'.push { cls := .type "tuple", data := .seq its.toArray } } :=
    I1.laid (t' := s.toks) (fun b o e => Heap.get?_push_of_some _ e) (Nat.le_refl _) (show ObjOk X.prog X.w _ _ _ (.frz _ (.tup ys)) from ⟨Heap.get?_push_size _ rfl, hz, its, r', IsTup.new _ _⟩)
  exact ⟨.ref h'.objs.size, _, I2, rfl, q _ _ rfl (I1.hok.fresh (Nat.le_refl _))⟩
def tBMT (r : V → List V → Hp → VK → Prop) (to : TE) (t : TA) : TE := fun σ H Q => to σ H fun x H1 => (∃ p xs, x = .ref p ∧ BarT H1 p xs) ∧ t σ H1 fun xs H2 => r x xs H2 Q
variable {o e : Expr} {es : List Expr} {to : TE} {t : TA} {name : Str} {apos cpos : Pos} {id : String} {r : V → List V → Hp → VK → Prop}
/-- a method of a bare tuple -/
theorem pe_bmT (slot : Slot "tuple" name id) (hty : typeOf (.builtin id) = pure (.type "method_descriptor")) (hm : MtR X id r) (ho : PE X o to) (ha : PA X (e :: es) t)
    (hbase : attributeBase o name X.env (eval o X.env) = eval o X.env := by rfl)
    (hfew : ((backTo cpos (starEach (e :: es) X.env)).all (fun x => !x.1) && (backToKw cpos (keywordEach [] X.env)).all (fun x => x.1.isSome)
      && decide ((e :: es).length + ([] : List Keyword).length + (if ([] : List Keyword).isEmpty then 0 else 1) < 30)) = true := by rfl)
    (hline : (apos.endLine == cpos.line) = true := by rfl) (hs : starEach (e :: es) X.env = (false, eval e X.env) :: starEach es X.env := by rfl) (hplain : (backTo cpos (starEach es X.env)).any (·.1) = false := by rfl) :
    PE X (.Call (.Attribute o name apos) (e :: es) [] cpos) (tBMT r to t) := by
  refine ⟨fun pins s σ H Q I h => ?_⟩
  refine wpAny_Call_method_late hbase hfew hline rfl (thn (ho.run pins s σ H _ I h) fun v s1 ⟨x, H1, I1, r1, ty, q1⟩ => ?_)
  obtain ⟨p, xs, rfl, ob, hd, hp⟩ := ty
  obtain rfl : v = .ref p := r1
  obtain ⟨g, z, its, hv, ⟨o2, g2, c2, d2⟩⟩ := I1.hok p _ hp
  rw [g] at g2
  cases g2
  refine ⟨"tuple", id, PySem.F.plainAttrs_tuple, slot, hty, ⟨_, g, c2⟩, fun a e => by cases e; exact ⟨_, g, hd⟩, ?_⟩
  have hA := ha.run cpos pins s1 σ H1 _ I1 q1
  rw [hs] at hA ⊢
  refine Calls.callWith_builtin (by show (false || (backTo cpos (starEach es X.env)).any (·.1)) = false; rw [hplain] <;> rfl) (Calls.evalArgs_plain ?_)
  exact thn hA fun us s2 ⟨vs, H2, I2, r2, q2⟩ => hm pins s2 σ H2 (.ref p) vs (.ref p) us Q I2 rfl r2 q2
end
end LS
namespace TxS
open PySem PySem.Spec PyProof.Rows L2 PpSet
/-! sets of texts, their members told as a list without repeats -/
def kT (e : Int × Value) : Str := match e.2 with
  | .str x _ => x
  | _ => Str.empty
def OkT (w : World) (e : Int × Value) : Prop := ∃ x t, e = (hashStr w x, Value.str x t)
/-- what stands at a: the texts of l, each once, in a table that can be walked -/
structure TxD (w : World) (es : Array (Int × Value)) (t : SetTable) (l : List Str) : Prop where
  ok : ∀ e ∈ es.toList, OkT w e
  mem : (es.toList.map kT).Perm l
  nd : l.Nodup
  small : es.size < scanBound
  fits : t.fits es.size = true
  ris : Ris t.place.toList
  led : w.params.followText "set-order" = true ∨ t.led = true
def Tx (w : World) (h : Heap) (a : Addr) (l : List Str) : Prop := ∃ o es ep t, h.get? a = some o ∧ o.ExactSet ∧ o.data = .set es ep t ∧ TxD w es t l
def addT (l : List Str) (x : Str) : List Str := if x ∈ l then l else l ++ [x]
section
variable {P : Program} {w : World} {A : Around} {E : Value → Shared → Prop} {s : Shared} {a : Addr} {l : List Str}
theorem okT_is {e : Int × Value} (g : OkT w e) (x : Str) : (strKind P w).is x e.2 = true ↔ kT e = x := by
  obtain ⟨y, t, rfl⟩ := g
  show ((y == x) = true) ↔ y = x
  exact beq_iff_eq
theorem okT_elems {xs : List (Int × Value)} (g : ∀ e ∈ xs, OkT w e) : ElemsOf (strKind P w) xs := fun e he => by
  obtain ⟨x, t, rfl⟩ := g e he
  exact ⟨⟨x, (okT_is (P := P) ⟨x, t, rfl⟩ x).2 rfl, rfl⟩, rfl⟩
theorem TxD.len {es : Array (Int × Value)} {t : SetTable} (D : TxD w es t l) : es.size = l.length := by
  have h := D.mem.length_eq
  rw [List.length_map, Array.length_toList] at h
  exact h
theorem TxD.has {es : Array (Int × Value)} {t : SetTable} (D : TxD w es t l) (x : Str) : x ∈ l ↔ ∃ e ∈ es.toList, (strKind P w).is x e.2 = true := by
  rw [← D.mem.mem_iff, List.mem_map]
  exact ⟨fun ⟨e, he, q⟩ => ⟨e, he, (okT_is (D.ok e he) x).2 q⟩, fun ⟨e, he, q⟩ => ⟨e, he, (okT_is (D.ok e he) x).1 q⟩⟩
/-- storing the table with one text more, and anew if it is too full -/
theorem tx_store {g : Bool → Sem Unit} (hg : ∀ (b : Bool) (s₁ : Shared) (Q' : Unit → Shared → Prop), Q' () s₁ → wpAny (model P w) A (g b) Q' E s₁) {o : Obj} {es es1 : Array (Int × Value)} {ep : Nat} {t t2 : SetTable} {wasDummy : Bool} {R : Option Bool → Shared → Prop}
    (ho : s.heap.get? a = some o) (hex : o.ExactSet) (hd : o.data = .set es ep t) (D : TxD w es1 t2 l) (hR : ∀ h', Heap.SameBut a s.heap h' → Tx w h' a l → R (some true) { s with heap := h' }) :
    wpAny (model P w) A (do
        storeSet a es1 t2
        if (!wasDummy && t2.tooFull) = true then do
            g (relayAll t2 es1 (SetTable.grown es1.size)).2.2
            storeSet a (relayAll t2 es1 (SetTable.grown es1.size)).1 (relayAll t2 es1 (SetTable.grown es1.size)).2.1
            pure (some true)
          else pure (some true)) R E s := by
  have at1 := store_at (es' := es1) (t' := t2) ho hd
  have same1 := Heap.SameBut.update s.heap a (Obj.putSet es1 t2)
  refine wpAny_bind (wpAny_storeSet_of ho hd ?_ (fits_of_scanBound D.small))
  split
  · have c1 := relayAll_perm t2 es1 (SetTable.grown es1.size)
    have c2 := relayAll_fits t2 es1 (SetTable.grown es1.size)
    have c3 := relayAll_ris t2 es1 (SetTable.grown es1.size)
    have c4 := relayAll_led t2 es1 (SetTable.grown es1.size)
    generalize relayAll t2 es1 (SetTable.grown es1.size) = Y at c1 c2 c3 c4 ⊢
    rcases Y with ⟨ys, ty, _⟩
    dsimp only at c1 c2 c3 c4 ⊢
    have hz : ys.size = es1.size := by
      have q := c1.length_eq
      rw [Array.length_toList, Array.length_toList] at q
      exact q
    have D2 : TxD w ys ty l := ⟨fun e he => D.ok e (c1.mem_iff.mp he), (c1.map kT).trans D.mem, D.nd, by rw [hz]; exact D.small, c2, c3, D.led.imp id fun q => by rw [c4]; exact q⟩
    have at2 := store_at (es' := ys) (t' := ty) at1 rfl
    exact wpAny_bind (hg _ _ _ (wpAny_bind (wpAny_storeSet_of at1 rfl (wpAny_pure (hR _ (same1.trans (Heap.SameBut.update _ a _)) ⟨_, ys, _, ty, at2, hex, rfl, D2⟩)) (fits_of_scanBound D2.small))))
  · exact wpAny_pure (hR _ same1 ⟨_, es1, _, t2, at1, hex, rfl, D⟩)
theorem tx_hashed {x : Str} {tk : Tok} {Q : Bool → Shared → Prop} (R : Tx w s.heap a l) (room : l.length + 1 < scanBound) (hQ : ∀ b h', Heap.SameBut a s.heap h' → Tx w h' a (addT l x) → Q b { s with heap := h' }) :
    wpAny (model P w) A (setAddHashed a (.str x tk) ((strKind P w).hash x)) Q E s := by
  obtain ⟨o, es, ep, t, ho, hex, hd, D⟩ := R
  have self : (strKind P w).is x (.str x tk) = true := (okT_is (P := P) (w := w) (e := (hashStr w x, .str x tk)) ⟨x, tk, rfl⟩ x).2 rfl
  have scn : (Value.str x tk).scannable = true := rfl
  have els : ElemsOf (strKind P w) es.toList := okT_elems D.ok
  unfold setAddHashed setAddHashedIn
  refine wpAny_holding (wpAny_bind (wpAny_setState_of ho hd D.fits ?_))
  dsimp only
  rw [byScan_of scn D.small els]
  simp only [↓reduceIte]
  unfold setAddByScan
  refine wpAny_bind (wpAny_bind (wpAny_rule (wpAny_bind (wpAny_setScan_of self ho hd D.fits els ?_))))
  cases there : List.findIdx? (fun e => (strKind P w).is x e.2) es.toList with
  | some j =>
    obtain ⟨hj, pj, _⟩ := List.findIdx?_eq_some_iff_getElem.mp there
    have hin : x ∈ l := (D.has (P := P) x).2 ⟨_, List.getElem_mem hj, pj⟩
    have e : addT l x = l := if_pos hin
    rw [e] at hQ
    exact wpAny_pure (wpAny_pure (hQ _ _ (Heap.SameBut.refl a s.heap) ⟨o, es, ep, t, ho, hex, hd, D⟩))
  | none =>
    have hout : x ∉ l := fun z => by
      obtain ⟨e, he, q⟩ := (D.has (P := P) x).1 z
      have c := List.findIdx?_eq_none_iff.mp there e he
      rw [q] at c
      cases c
    have e : addT l x = l ++ [x] := if_neg hout
    rw [e] at hQ
    dsimp only
    have gives : ∀ (b : Bool) {s₁ : Shared} {Q' : Unit → Shared → Prop}, Q' () s₁ → wpAny (model P w) A (match b with | true => rule "set.scan.the-table-gave-way" | false => pure ()) Q' E s₁ := fun b s₁ Q' q => by
      cases b
      · exact wpAny_pure q
      · exact wpAny_rule q
    have c1 := layNew_perm t es ((strKind P w).hash x) (.str x tk)
    have c2 := layNew_fits t es ((strKind P w).hash x) (.str x tk)
    have c3 := layNew_ris t es ((strKind P w).hash x) (.str x tk) D.ris
    have c4 := layNew_led t es ((strKind P w).hash x) (.str x tk)
    generalize layNew t es ((strKind P w).hash x) (.str x tk) = Y at c1 c2 c3 c4 ⊢
    rcases Y with ⟨ys, ty, was, _⟩
    dsimp only at c1 c2 c3 c4 ⊢
    rw [Array.toList_push] at c1
    have pk : (ys.toList.map kT).Perm (l ++ [x]) := by
      have q := c1.map kT
      rw [List.map_append] at q
      exact q.trans (List.Perm.append_right _ D.mem)
    have hz : ys.size = l.length + 1 := by
      have q := pk.length_eq
      rw [List.length_map, Array.length_toList, List.length_append] at q
      exact q
    have mk : ∀ tz : SetTable, tz.fits ys.size = true → Ris tz.place.toList → (w.params.followText "set-order" = true ∨ tz.led = true) → TxD w ys tz (l ++ [x]) := fun tz f r d =>
      ⟨fun e he => by
        rcases List.mem_append.mp (c1.mem_iff.mp he) with z | z
        · exact D.ok e z
        · rw [List.mem_singleton.mp z]
          exact ⟨x, tk, rfl⟩, pk, List.nodup_append.mpr ⟨D.nd, (by simp), fun u hu v hv => by rw [List.mem_singleton.mp hv]; exact fun q => hout (q ▸ hu)⟩, by rw [hz]; exact room, f, r, d⟩
    have dl : w.params.followText "set-order" = true ∨ ty.led = true := D.led.imp id fun q => by rw [c4]; exact q
    refine wpAny_bind (gives _ ?_)
    split
    · refine wpAny_bind ?_
      rw [hashByValue_scannable 8 scn]
      refine wpAny_pure (tx_store (fun b s₁ Q' q => ?_) ho hex hd (mk _ ?_ ?_ ?_) fun h' sb r => ?_)
      · cases b
        · exact wpAny_pure q
        · exact wpAny_rule q
      · first | (split <;> first | exact c2 | exact SetTable.fits_plain_off c2) | exact c2
      · first | (split <;> exact c3) | exact c3
      · first | (split <;> exact dl) | exact dl
      · dsimp only
        exact wpAny_pure (hQ _ h' sb r)
    · refine wpAny_bind (wpAny_pure ?_)
      simp only [↓reduceIte]
      refine tx_store (fun b s₁ Q' q => ?_) ho hex hd (mk _ c2 c3 dl) fun h' sb r => ?_
      · cases b
        · exact wpAny_pure q
        · exact wpAny_rule q
      · dsimp only
        exact wpAny_pure (hQ _ h' sb r)
theorem Tx.type_ (R : Tx w s.heap a l) : s.TypeIs (.ref a) "set" := by
  obtain ⟨o, _, _, _, ho, hex, _⟩ := R
  exact ⟨o, ho, hex.1⟩
theorem tx_add {x : Str} {tk : Tok} {Q : Value → Shared → Prop} (R : Tx w s.heap a l) (room : l.length + 1 < scanBound) (hQ : ∀ h', Heap.SameBut a s.heap h' → Tx w h' a (addT l x) → Q .none { s with heap := h', toks := s.toks + 1 }) :
    wpAny (model P w) A (call (.builtin "set.add") [.ref a, .str x tk]) Q E s := by
  have self : (strKind P w).is x (.str x tk) = true := (okT_is (P := P) (w := w) (e := (hashStr w x, .str x tk)) ⟨x, tk, rfl⟩ x).2 rfl
  refine wpAny_call_entry F.slot_set_add R.type_ F.entry_set_add ?_ (F.args_set_add_2 _ _)
  unfold Builtin.«set.add» Builtin.Frozenset.oneOther Builtin.Frozenset.addrOf setAdd
  simp only [List.isEmpty_nil, bind_assoc]
  refine wpAny_bind (wpAny_pure ?_)
  try dsimp only
  refine wpAny_bind (wpAny_pure ?_)
  try dsimp only
  refine wpAny_bind (wpAny_holding (wpAny_bind ((strKind P w).pyHash self ?_)))
  refine tx_hashed (s := { s with toks := s.toks + 1 }) R room fun b h' sb r => ?_
  exact wpAny_pure ⟨_, rfl, hQ h' sb r⟩
theorem tx_fresh {h : Heap} : Tx w (h.push { cls := .type "set", dict := none, data := .set #[] 0 (.fresh 0 0 (!w.params.followText "set-order")) }) h.objs.size [] := by
  refine ⟨_, #[], 0, _, Heap.get?_push_size _ rfl, ⟨rfl, rfl, rfl⟩, rfl, ⟨fun e he => (by simp at he), .nil, .nil, by decide, by rfl, List.Pairwise.nil, ?_⟩⟩
  show _ ∨ (!w.params.followText "set-order") = true
  cases w.params.followText "set-order" with
  | false => exact .inr rfl
  | true => exact .inl rfl
end
/-- the set at a -/
def TxO (w : World) (a : Addr) (l : List Str) : HO := .ext fun h => Tx w h a l
theorem txO_new {w : World} {P : Program} {H : Hp} {h : Heap} {a : Addr} {l : List Str} (R : Tx w h a l) : ObjOk P w H h a (TxO w a l) := by
  obtain ⟨o, es, ep, t, ho, r⟩ := id R
  exact ⟨R, ⟨o, ho⟩, fun h1 h2 p k => let ⟨o, es, ep, t, ho, r⟩ := p; ⟨o, es, ep, t, k o ho, r⟩⟩
section
variable {X : Cx}
theorem txO_get {pins : List (Addr × Obj)} {σ : L2.St} {H : Hp} {s : Shared} {a : Addr} {l : List Str} (I : Inv X pins σ H s) (ha : H a = some (TxO X.w a l)) : Tx X.w s.heap a l := (I.hok a _ ha).1
theorem txO_add {pins : List (Addr × Obj)} {σ : L2.St} {H : Hp} {s : Shared} {E : Value → Shared → Prop} {a : Addr} {l : List Str} {x : Str} {tk : Tok} {Q : Value → Shared → Prop} (I : Inv X pins σ H s) (ha : H a = some (TxO X.w a l)) (room : l.length + 1 < scanBound)
    (h : ∀ s', Inv X pins σ (upd H a (TxO X.w a (addT l x))) s' → Q .none s') : wpAny (model X.prog X.w) X.A (call (.builtin "set.add") [.ref a, .str x tk]) Q E s := by
  refine tx_add (txO_get I ha) room fun h' sb R => h _ (I.write (e := a) (t' := s.toks + 1) (by rw [ha]; trivial) (.inl rfl) (fun b u hb hu => (sb.2 b hb).trans hu) ?_ (txO_new R))
  obtain ⟨o, _, _, _, ho, _⟩ := R
  exact ⟨o, ho⟩
/-- one turn's end: an element that is taken goes into the set at D -/
def turnT (w : World) (D : Addr) (te : TE) (σ : L2.St) (Nx : Hp → Prop) : Bool → Hp → Prop
  | true, H => te σ H fun y H1 => ∃ z l, y = .str z ∧ H1 D = some (TxO w D l) ∧ l.length + 1 < scanBound ∧ Nx (upd H1 D (TxO w D (addT l z)))
  | false, H => Nx H
/-- {elt for target in iter if ..}, elt a text: D the new set -/
def tScT (w : World) (wi : TI) (g : TG) (tt : TT) (te : TE) (vs : List Nat) : TE := fun σ H Q => wi σ H fun J H1 => ∀ D, H1 D = none → ∃ W : Nat → Nat → Hp → Prop, (∃ m, W 0 m (upd H1 D (TxO w D []))) ∧ ∀ i m H2, W i m H2 →
  (J.stop i H2 ∧ Q (.ref D) H2) ∨ (J.go i H2 ∧ ∃ Nx : Hp → Prop, (∀ H3, Nx H3 → ∃ m', m' < m ∧ W (i + 1) m' H3) ∧ ∀ x H3, J.yld i H2 x H3 → g x (wipe σ vs) H3 fun σ4 H4 => wipe σ4 vs = wipe σ vs ∧ tt σ4 H4 fun b H5 => turnT w D te σ4 Nx b H5)
end
end TxS
namespace TxS
open PySem PySem.Spec PyProof.Rows L2 PpSet
section
variable {X : Cx} {elt tg iter : Expr} {ifs : List Expr} {scope : Scope} {own : List (Str × Nat)} {pos : Pos} {wi : TI} {g : TG} {tt : TT} {te : TE}
theorem pe_scT (hc : X.calm = true) (hN : X.N.Nodup) (hi : PI X tg iter wi) (ok : BlkOk X.N X.env.scope scope own)
    (hg : ∀ (s : Shared) (H : Hp) (C : Addr) (cl : List (Str × Addr)) (fp : List Addr), PG (X.blk s H scope (compEnvC scope cl C X.env) fp) tg g)
    (ht : ∀ (s : Shared) (H : Hp) (C : Addr) (cl : List (Str × Addr)) (fp : List Addr), PTs (X.blk s H scope (compEnvC scope cl C X.env) fp) ifs tt)
    (he : ∀ (s : Shared) (H : Hp) (C : Addr) (cl : List (Str × Addr)) (fp : List Addr), PE (X.blk s H scope (compEnvC scope cl C X.env) fp) elt te) (hs : ∀ x, foldedSetIterable iter X.env x = pure x := by intro _; rfl) :
    PE X (.SetComp elt [⟨tg, iter, ifs, 0⟩] scope pos) (tScT X.w wi g tt te (own.map (·.2))) := by
  refine ⟨fun pins s σ H Q I h => ?_⟩
  rw [eval_SetComp]
  have free : ∀ y ∈ scope.names, y.2 = .free → ∃ c, X.env.cells.lookup y.1 = some c := fun y hy e => I.ok.has _ (ok.free y hy e)
  refine wpAny_comprehension_free (use := none) rfl hs (closure_ok free) ok.kind (fun y hy e => by rw [ok.uniq y hy, e]) (thn (hi.run pins s σ H _ I h) fun xv s1 hx => thn hx fun itv s2 h2 => ?_)
  obtain ⟨it, fp, tn, J, H2, rfl, I2, T, st2, f2, q⟩ := h2
  refine newSet_ok (newEnv_comp ?_)
  generalize hD : s2.heap.objs.size = D
  have noD : H2 D = none := I2.hok.fresh (Nat.le_of_eq hD)
  obtain ⟨W, ⟨m0, w0⟩, turn⟩ := q D noD
  -- the new set stands
  generalize hs3 : ({ s2 with heap := s2.heap.push { cls := .type "set", dict := none, data := .set #[] 0 (.fresh 0 0 (!X.w.params.followText "set-order")) } } : Shared) = s3
  have hp3 : s3.heap = s2.heap.push { cls := .type "set", dict := none, data := .set #[] 0 (.fresh 0 0 (!X.w.params.followText "set-order")) } := by rw [← hs3]
  have old3 : ∀ {b : Addr} {o : Obj}, s2.heap.get? b = some o → s3.heap.get? b = some o := fun e => by rw [hp3]; exact Heap.get?_push_of_some _ e
  have J3 : Inv X pins σ (upd H2 D (TxO X.w D [])) s3 := by
    rw [← hs3]
    refine I2.laid (t' := s2.toks) (fun b o e => Heap.get?_push_of_some _ e) (Nat.le_of_eq hD) ?_
    rw [← hD]
    exact txO_new tx_fresh
  have low : ∀ b ∈ fp, b < s2.heap.objs.size := fun b hb => let ⟨o, e, _⟩ := T.obj _ _ st2 b hb; Heap.lt_size e
  generalize hH3 : upd H2 D (TxO X.w D []) = H3 at w0 J3
  have f3 : ∀ b ∈ fp, FpOk X pins H3 b ∧ b < s3.heap.objs.size := fun b hb => by
    have q1 := low b hb
    have q2 : b ≠ D := by rw [← hD]; exact Nat.ne_of_lt q1
    refine ⟨⟨by rw [← hH3, upd_ne q2]; exact (f2 b hb).1, (f2 b hb).2⟩, ?_⟩
    rw [hp3, Heap.size_push]
    exact Nat.lt_succ_of_lt q1
  have st3 : tn 0 s3.heap := T.keep _ _ _ st2 fun b _ o e => old3 e
  have J4 := block_start J3 ok hN f3
  have pg := hg s3 H3 s3.heap.objs.size (cellsFrom (s3.heap.objs.size + 1) scope.names (cloFrom X.env.cells scope.names [])) fp
  have pt := ht s3 H3 s3.heap.objs.size (cellsFrom (s3.heap.objs.size + 1) scope.names (cloFrom X.env.cells scope.names [])) fp
  have pe := he s3 H3 s3.heap.objs.size (cellsFrom (s3.heap.objs.size + 1) scope.names (cloFrom X.env.cells scope.names [])) fp
  show codeAny _ _ (.compStart (.SetComp elt [⟨tg, iter, ifs, 0⟩] scope pos) 0 (.ref it) (.ref D) (compEnvC scope (cellsFrom (s3.heap.objs.size + 1) scope.names (cloFrom X.env.cells scope.names [])) s3.heap.objs.size X.env))
    (compPost (model X.prog X.w) X.A X.xe none (EP X pins σ Q) (.ref D) s3.heap.objs.size) { s3 with heap := pushCells (s3.heap.push { cls := .type "dict", data := .dict #[] }) scope.names }
  generalize hce : compEnvC scope (cellsFrom (s3.heap.objs.size + 1) scope.names (cloFrom X.env.cells scope.names [])) s3.heap.objs.size X.env = ce at J4 pg pt pe ⊢
  have own_ : ce.locals = s3.heap.objs.size := by rw [← hce] <;> rfl
  generalize hs4 : ({ s3 with heap := pushCells (s3.heap.push { cls := .type "dict", data := .dict #[] }) scope.names } : Shared) = s4 at J4 ⊢
  have st4 : tn 0 s4.heap := T.keep _ _ _ st3 fun b _ o e => by rw [← hs4]; exact pushCells_keeps _ _ _ _ (Heap.get?_push_of_some _ e)
  let Y : Cx := X.blk s3 H3 scope ce fp
  have stay : ∀ {τ : L2.St} {G : Hp} {s' : Shared}, Inv Y [] τ G s' → (∀ b ∈ fp, G b = none) → ∀ b ∈ fp, FpOk Y [] G b := fun {τ G s'} K1 hn b hb =>
    ⟨hn b hb, (K1.ok.exf b hb).1, K1.ok.exfs b hb, .inl hb, fun x c e => (K1.ok.exf b hb).2 x c e, fun p hp => by
      have z : p ∈ ([] : List (Addr × Obj)) ++ [] := hp
      simp at z⟩
  let Held : Nat → Shared → Prop := fun n s' => ∃ i G, Inv Y [] (wipe σ (own.map (·.2))) G s' ∧ tn i s'.heap ∧ (∀ b ∈ fp, G b = none) ∧ W i n G
  have loop : codeAny (model X.prog X.w) X.A (.compLoop (.SetComp elt [⟨tg, iter, ifs, 0⟩] scope pos) 0 (.ref it) (.ref D) ce) (compPost (model X.prog X.w) X.A X.xe none (EP X pins σ Q) (.ref D) s3.heap.objs.size) s4 := by
    refine compLoopS_any Held ?_ m0 ⟨0, H3, J4, st4, fun b hb => (f3 b hb).1.1, w0⟩
    rintro n s5 ⟨i, H5, J5, st5, n5, w5⟩
    rcases turn i n H5 w5 with ⟨stop, fin⟩ | ⟨go, Nx, hNx, step⟩
    · refine thnF (T.done Y rfl rfl rfl hc i [] s5 _ H5 (fun _ _ => False) J5 (stay J5 n5) st5 stop) fun r s6 ⟨hr, J6⟩ => ?_
      subst hr
      have J7 : Inv X pins σ H5 s6 := J3.call' (ch := fp) J6.os J6.base J6.hok J6.bare fun b hb => ⟨(f3 b hb).1.2.2.2.1, (f3 b hb).1.2.1, (f3 b hb).1.2.2.2.2.1, (f3 b hb).1.2.2.2.2.2⟩
      have none5 : H5 s3.heap.objs.size = none := by
        rw [← own_]
        exact J6.free
      obtain ⟨m, hn, _⟩ := J6.loc
      obtain ⟨g0, g1, g2, g3, g4, g5⟩ := J3.fpOk (Nat.le_refl _) none5
      have hn' : s6.heap.Ns s3.heap.objs.size m := by
        rw [← own_]
        exact hn
      exact ⟨m, hn', fun h'' sb => ⟨.ref D, H5, J7.turned (t' := s6.toks) (fun b o hb e => (sb.2 b hb).trans e) g0 g1 g3 g4 g5, rfl, fin⟩⟩
    · refine thnF (T.item Y rfl rfl rfl hc i [] s5 _ H5 (fun _ _ => False) J5 (stay J5 n5) st5 go) fun r s6 ⟨u, hr, h6⟩ => ?_
      subst hr
      refine thnF h6 fun _ s7 ⟨x, H7, J7, r7, y7, st7, n7⟩ => ?_
      refine thnF (pg.run _ s7 _ H7 x u _ (J7.pinned (stay J7 n7) (T.obj _ _ st7)) r7 (step x H7 y7)) fun _ s8 ⟨σ8, H8, J8, hw8, q8⟩ => ?_
      refine thnF (pt.run _ s8 σ8 H8 _ J8 q8) fun b s9 ⟨H9, J9, q9⟩ => ?_
      have turned : ∀ {s' : Shared} {G : Hp}, Inv Y ([] ++ pinsAt fp s7.heap) σ8 G s' → Nx G → ∃ m, m < n ∧ Held m s' := fun {s' G} K1 nx => by
        obtain ⟨m', hm, w'⟩ := hNx G nx
        have pin7 : ∀ b ∈ fp, ∀ o, s7.heap.get? b = some o → s'.heap.get? b = some o ∧ G b = none := fun b hb o e => by
          obtain ⟨z1, z2, _⟩ := K1.pin (b, o) (List.mem_append_right _ (List.mem_append_right _ (mem_pinsAt hb e)))
          exact ⟨z1, z2⟩
        have hl : (wipe σ (own.map (·.2))).length = σ8.length := by rw [← hw8, wipe_length]
        refine ⟨m', hm, i + 1, G, (K1.unpinned (pins := [])).weak hl (fun j v e => ?_), T.keep _ _ _ st7 fun b hb o e => (pin7 b hb o e).1, fun b hb => ?_, w'⟩
        · rw [← hw8] at e
          exact (wipe_some e).1
        · obtain ⟨o, e, _⟩ := T.obj _ _ st7 b hb
          exact (pin7 b hb o e).2
      cases b with
      | false => exact turned J9 q9
      | true =>
        refine thnF (pe.run _ s9 σ8 H9 _ J9 q9) fun z s10 ⟨yv, H10, J10, r10, zz, l0, ey, hD10, room, nx⟩ => ?_
        subst ey
        obtain ⟨tk, rfl⟩ := r10
        exact txO_add (X := Y) J10 hD10 room fun s11 J11 => turned J11 nx
  exact codeAny_compStart_set loop (T.self X.A 0 _ _ _ st4 loop)
end
end TxS
namespace TxS
open PySem PySem.Spec PyProof.Rows L2 PpSet
section
variable {P : Program} {w : World} {A : Around} {E : Value → Shared → Prop} {s : Shared} {a : Addr} {l : List Str}
theorem strs_kT : ∀ (vs : List Value), (∀ v ∈ vs, ∃ x t, v = Value.str x t) → StrsAre vs (vs.map fun v => kT (0, v))
  | [], _ => .nil
  | v :: vs, h => by
    obtain ⟨x, t, rfl⟩ := h v List.mem_cons_self
    exact .cons x t (strs_kT vs fun u hu => h u (List.mem_cons_of_mem _ hu))
/-- sorted(set of texts) -/
theorem tx_sorted {Q : Value → Shared → Prop} (R : Tx w s.heap a l) (hh : A.handled = none) (h64 : l.length < 64)
    (hQ : ∀ s' p (out : Array Value) (c : Nat) (ys : List Str), (∀ b o, s.heap.get? b = some o → s'.heap.get? b = some o) → s'.gens = s.gens → s'.os = s.os → s.heap.objs.size ≤ p →
      s'.heap.get? p = some (seqObj "list" out c) → StrsAre out.toList ys → ys.Perm l → sortedS ys = true → Q (.ref p) s') : wpAny (model P w) A (call (.builtin "sorted") [.ref a]) Q E s := by
  obtain ⟨o, es, ep, t, ho, hex, hd, D⟩ := R
  refine Calls.call_function_entry kind_sorted plain_sorted entry_sorted (args_sorted1 _) ?_
  unfold Builtin.«sorted»
  refine wpAny_bind (m := checkCount "sorted" 1 1 _) (wpAny_pure (wpAny_bind (collect_set (A := A.in1) hh ⟨o, ho, hex.1, hd⟩ D.fits D.small D.ris D.led fun s1 vs keep1 size1 gens1 os1 pm => ?_)))
  have texts : StrsAre vs (vs.map fun v => kT (0, v)) := strs_kT vs fun v hv => by
    obtain ⟨e, he, rfl⟩ := List.mem_map.mp (pm.mem_iff.mp hv)
    obtain ⟨x, t, rfl⟩ := D.ok e he
    exact ⟨x, t, rfl⟩
  have many : vs.length < 64 := by
    have q := pm.length_eq
    have z : es.toList.length = l.length := by rw [← D.len]; exact Array.length_toList
    rw [List.length_map, z] at q
    omega
  have perm : (vs.map fun v => kT (0, v)).Perm l := by
    have q := pm.map fun v => kT (0, v)
    rw [List.map_map] at q
    exact q.trans D.mem
  refine wpAny_bind (wpAny_newList ?_ (by rw [sizeLine_eq]; omega))
  have hoL : (s1.heap.push (seqObj "list" vs.toArray 0)).get? s1.heap.objs.size = some (seqObj "list" vs.toArray 0) := Heap.get?_push_size _ rfl
  refine wpAny_bind (wpAny_holding (wpAny_call_entry slot_list_sort ⟨_, hoL, rfl⟩ entry_list_sort (list_sort_treeK strKind_oneLt hoL texts.keysOf (fun v₁ v₂ rest e => keyKind_strs (by rw [← e]; exact texts)) many
    fun st' a1 a2 => ⟨_, rfl, ?_⟩) (args_list_sort _)))
  obtain ⟨ys, b1, b2, b3⟩ := sorted_out_str texts a1 a2
  obtain ⟨c, hc⟩ := sortedHeap_at (vs := vs) (out := (arrOf st').map (·.2)) hoL
  refine wpAny_pure ⟨_, rfl, hQ _ s1.heap.objs.size _ c ys (fun b u e => ?_) gens1 os1 size1 hc b1 (b2.trans perm) b3⟩
  have old := keep1 b u e
  have lt := Heap.lt_size old
  show (sortedHeap (s1.heap.push (seqObj "list" vs.toArray 0)) s1.heap.objs.size vs ((arrOf st').map (·.2))).get? b = some u
  rw [sortedHeap_old (Nat.ne_of_lt lt) (by rw [size_push']; exact Nat.lt_succ_of_lt lt)]
  exact Heap.get?_push_of_some _ old
end
section
variable {X : Cx}
def rSortedTx (w : World) : List V → Hp → VK → Prop := fun vs H Q => ∃ (a : Addr) (l : List Str), vs = [V.ref a] ∧ H a = some (TxO w a l) ∧ l.length < 64 ∧
  ∀ (ys : List Str) (p : Addr), ys.Perm l → sortedS ys = true → H p = none → Q (.ref p) (upd H p (.lst (ys.map V.str)))
theorem cr_sortedTx (hc : X.calm = true) : CallR X (.builtin "sorted") (rSortedTx X.w) := by
  intro pins s σ H vs us Q I r h
  obtain ⟨a, l, rfl, ha, h64, q⟩ := h
  rw [Vals.ref1 r]
  refine tx_sorted (txO_get I ha) (I.ok.hd hc) h64 fun s' p out c ys keep g o hp hg hi pm srt => ?_
  have many : (ys.map V.str).length ≤ sizeLine := by rw [List.length_map, pm.length_eq, sizeLine_eq]; omega
  have new : H p = none := I.hok.fresh hp
  have J : Inv X pins σ (upd H p (.lst (ys.map V.str))) { s with heap := s'.heap, gens := s'.gens, drawn := s'.drawn, toks := s'.toks } :=
    I.call (ch := []) (Un.laid keep hp new) (I.hok.laid keep hp ⟨many, out.toList, c, vals_of_strs hi, hg⟩) (by rw [g]; exact I.bare) (fun _ z => nomatch z)
  have e : s' = { s with heap := s'.heap, gens := s'.gens, drawn := s'.drawn, toks := s'.toks } := by
    rcases s' with ⟨h1, h2, h3, h4, h5⟩
    rcases s with ⟨k1, k2, k3, k4, k5⟩
    cases o
    rfl
  rw [e]
  exact ⟨.ref p, _, J, rfl, q ys p pm srt new⟩
def rLenTx (w : World) : List V → Hp → VK → Prop := fun vs H Q => ∃ (a : Addr) (l : List Str), vs = [V.ref a] ∧ H a = some (TxO w a l) ∧ Q (.int l.length) H
theorem cr_lenTx : CallR X (.builtin "len") (rLenTx X.w) := by
  intro pins s σ H vs us Q I r h
  obtain ⟨a, l, rfl, ha, q⟩ := h
  rw [Vals.ref1 r]
  obtain ⟨o, es, ep, t, ho, hex, hd, D⟩ := txO_get I ha
  have small := fits_of_scanBound D.small
  have hl := line63
  exact call_len_set ho hex hd D.fits (by omega) ⟨.int l.length, H, I.tok _, ⟨_, by rw [D.len]⟩, q⟩
end
/-- a set comprehension over what is walked: Pv by the turn and the heap (the new set at D within) -/
theorem sc_it {J : It} {n : Nat} {G : Hp → Prop} {Y : Nat → Hp → V → Hp → Prop} {w0 : World} (w : Walk J n G Y) {g : TG} {tt : TT} {te : TE} {vs : List Nat} {σ : L2.St} {H1 : Hp} {D : Addr} {Qd : Hp → Prop} (Pv : Nat → Hp → Prop) (h0 : Pv 0 (upd H1 D (TxO w0 D []))) (hG : ∀ i H, i ≤ n → Pv i H → G H)
    (hs : ∀ i x H H', i < n → Pv i H → Y i H x H' → g x (wipe σ vs) H' fun σ2 H2 => wipe σ2 vs = wipe σ vs ∧ tt σ2 H2 fun b H3 => turnT w0 D te σ2 (Pv (i + 1)) b H3) (hd : ∀ H, Pv n H → Qd H) :
    ∃ W : Nat → Nat → Hp → Prop, (∃ m, W 0 m (upd H1 D (TxO w0 D []))) ∧ ∀ i m H, W i m H →
      (J.stop i H ∧ Qd H) ∨ (J.go i H ∧ ∃ Nx : Hp → Prop, (∀ H', Nx H' → ∃ m', m' < m ∧ W (i + 1) m' H') ∧ ∀ x H', J.yld i H x H' → g x (wipe σ vs) H' fun σ2 H2 => wipe σ2 vs = wipe σ vs ∧ tt σ2 H2 fun b H3 => turnT w0 D te σ2 Nx b H3) := by
  refine ⟨fun i m H => m = n - i ∧ i ≤ n ∧ Pv i H, ⟨n, (Nat.sub_zero n).symm, Nat.zero_le n, h0⟩, fun i m H ⟨em, hi, p⟩ => ?_⟩
  have stands := hG i H hi p
  rcases Nat.lt_or_ge i n with lt | ge
  · exact .inr ⟨w.goes i H lt stands, Pv (i + 1), fun H' p' => ⟨n - (i + 1), by omega, rfl, lt, p'⟩, fun x H' y => hs i x H H' lt p (w.yields i H x H' lt stands y)⟩
  · obtain rfl : i = n := Nat.le_antisymm hi ge
    exact .inl ⟨w.stops H stands, hd H p⟩
end TxS
/-! enumerate(tuple), walked -/
namespace PySem
theorem meets_enum1 {v : Value} {o : Obj} {H : Heap → Prop} (B : Begins v o H) :
    Meets (Builtin.«enumerate.__new__» ⟨[.type "enumerate", v], []⟩) (fun _ R s => H s.heap ∧
      R (.ok (.ret (.ref (s.heap.push o).objs.size))) { s with heap := (s.heap.push o).push { cls := .type "enumerate", data := .fields #[.none, .bool false, .ref s.heap.objs.size, rawInt 0, .none, .none] } }) :=
  .of_wp fun prog w A R s h => by
    rcases s with ⟨hp, g, d, tk, os⟩
    rcases h with ⟨h1, h⟩
    have hsub := sub_enumerate
    have begin_ : ∀ {A' : Around} {E : Value → Shared → Prop} {Q : Value → Shared → Prop}, Q (.ref hp.objs.size) ⟨hp.push o, g, d, tk, os⟩ → wpAny (model prog w) A' (pyIter v) Q E ⟨hp, g, d, tk, os⟩ :=
      fun q => B.iter prog w _ _ ⟨hp, g, d, tk, os⟩ _ h1 q
    wp_walk using begin_
    refine wpAny_stack_any fun st => wpAny_pure ?_
    split
    · rename_i c _ _ _ _ _
      cases (c == Value.type "enumerate") <;>
      · wp_walk using begin_
        exact ⟨_, rfl, h⟩
    · wp_walk using begin_
      exact ⟨_, rfl, h⟩
theorem call_enum1 {prog : Program} {w : World} {A : Around} {E : Value → Shared → Prop} {s : Shared} {v : Value} {o : Obj} {H : Heap → Prop} {Q : Value → Shared → Prop} (B : Begins v o H) (h1 : H s.heap)
    (h : ∀ h', IsEnum h' (s.heap.objs.size + 1) s.heap.objs.size 0 .none → h'.get? s.heap.objs.size = some o → (∀ b u, s.heap.get? b = some u → h'.get? b = some u) → Q (.ref (s.heap.objs.size + 1)) { s with heap := h' }) :
    wpAny (model prog w) A (call (.type "enumerate") [v]) Q E s := by
  refine callType_new F.called_enumerate (by decide) (F.typeCall_enumerate_1 _) (F.newCall_enumerate_1 _) (fun obj => F.args_object_init_2 obj _) F.entry_enumerate_new (meets_enum1 B) ⟨h1, ?_⟩
  have size1 : (s.heap.push o).objs.size = s.heap.objs.size + 1 := Heap.size_push ..
  show _ ∧ _
  rw [size1]
  have made : IsEnum ((s.heap.push o).push { cls := .type "enumerate", data := .fields #[.none, .bool false, .ref s.heap.objs.size, rawInt 0, .none, .none] }) (s.heap.objs.size + 1) s.heap.objs.size 0 .none := by
    have q := Heap.get?_push_size (s.heap.push o) (o := { cls := .type "enumerate", data := .fields #[.none, .bool false, .ref s.heap.objs.size, rawInt 0, .none, .none] }) rfl
    rw [size1] at q
    exact q
  exact ⟨⟨_, made, rfl⟩, h _ made (Heap.get?_push_of_some _ (Heap.get?_push_size _ B.free)) fun b u x => Heap.get?_push_of_some _ (Heap.get?_push_of_some _ x)⟩
end PySem
namespace L2
open PySem PySem.Spec PyProof.Rows
/-- the tuple at a, each item in a new pair behind its place -/
def IteT (K : PySem.W.Frag) (a : Addr) : It :=
  ⟨fun i H => ∃ (xs : List V) (x : V), SqT K H a xs ∧ xs[i]? = some x, fun i H v H' => ∃ T x, v = .ref T ∧ H T = none ∧ H' = upd H T (.tup [.int (i : Nat), x]) ∧ ∀ xs, SqT K H a xs → xs[i]? = some x, fun i H => ∃ xs : List V, SqT K H a xs ∧ xs.length = i⟩
theorem turn_enumT {P : Program} {w : World} {K : PySem.W.Frag} {elts : List Expr} {kk : Nat} {tpos : Pos} (a e it : Addr) :
    Turn P w K (.Tuple elts kk tpos) (IteT K a) [e, it] e (fun i h => (∃ old, IsEnum h e it ((i : Nat) : Int) old) ∧ h.IsTupleIter it a i ∧ e ≠ it ∧ a ≠ it ∧ a ≠ e) where
  mem := by simp
  obj := fun i h ⟨⟨old, he⟩, ⟨o, ho, hc, hd⟩, _⟩ b hb => by
    rcases List.mem_cons.mp hb with z | z
    · rw [z]
      exact ⟨_, he, fun v q => nomatch q⟩
    · rw [List.mem_singleton.mp z]
      exact ⟨o, ho, fun v q => by rw [hd] at q; cases q⟩
  keep := fun i h h' ⟨⟨old, he⟩, hi, hne⟩ k => ⟨⟨old, k e (by simp) _ he⟩, hi.at fun o q => k it (by simp) o q, hne⟩
  item := by
    intro X hP hw hK hc i pins s σ H E I hf st hg
    subst hP hw hK
    obtain ⟨⟨old, he⟩, hit, hne, hai, hae⟩ := st
    obtain ⟨xs, x, hq, hx⟩ := hg
    obtain ⟨its, rv, p, hz⟩ := I.tuple hq
    obtain ⟨u, hu, ru⟩ := rv.get hx
    have el : e < s.heap.objs.size := Heap.lt_size he
    have il : it < s.heap.objs.size := let ⟨_, q, _⟩ := hit; Heap.lt_size q
    have inRange : i < its.toArray.size := by
      have q := (List.getElem?_eq_some_iff.mp hu).1
      simpa using q
    have D := Draws.tuple (prog := X.prog) (w := X.w) (A := X.A.in1) (I.ok.hd hc) it a hai its.toArray
    refine wpAny_pyNext_enum_itemD D he ⟨hit, (show s.heap.IsTuple a its.toArray from p)⟩ inRange hne (by simp [hne, Ne.symm hae]) fun y h' tk hy ho hst hT hsz hk => ?_
    have ey : y = u := by
      have q : its.toArray[i]? = some u := by simpa using hu
      rw [hy] at q
      exact Option.some.inj q
    subst ey
    refine ⟨_, rfl, wpAny_letOwnedTupleGo_enum (s := { s with heap := h', toks := tk + 1 }) ho fun h'' he' sb => ?_⟩
    have hT2 : h''.get? s.heap.objs.size = some { cls := .type "tuple", data := .seq #[.int i tk, y] } := (sb.2 _ (Nat.ne_of_gt el)).trans hT
    have new : ObjOk X.prog X.w (upd H s.heap.objs.size (.tup [.int (i : Nat), x])) h'' s.heap.objs.size (.tup [.int (i : Nat), x]) :=
      ⟨by show 2 ≤ sizeLine; decide, [.int i tk, y], .cons ⟨_, rfl⟩ (.cons ru .nil), ⟨_, hT2, rfl, _, rfl⟩⟩
    have I1 : Inv X pins σ (upd H s.heap.objs.size (.tup [.int (i : Nat), x])) { s with heap := h'', toks := tk + 1 } :=
      I.turnedNew (ch := [e, it]) (fun b ob hb q => (sb.2 b (fun z => hb (by simp [z]))).trans (hk b ob (fun z => hb (by simp [z])) (fun z => hb (by simp [z])) q)) hf (Nat.le_refl _) new
    refine ⟨.ref s.heap.objs.size, _, I1, rfl, ⟨_, x, rfl, I.hok.fresh (Nat.le_refl _), rfl, fun ys hy => by rw [I.tuple_inj hy hq]; exact hx⟩, ⟨⟨y, ?_⟩, hst.1.at fun o q => (sb.2 it (Ne.symm hne)).trans q, hne, hai, hae⟩, fun b hb => ?_⟩
    · rw [show ((i + 1 : Nat) : Int) = (i : Int) + 1 by omega]
      exact he'
    · have below : b < s.heap.objs.size := by
        rcases List.mem_cons.mp hb with z | z
        · rw [z]
          exact el
        · rw [List.mem_singleton.mp z]
          exact il
      rw [upd_ne (Nat.ne_of_lt below)]
      exact (hf b hb).1
  done := by
    intro X hP hw hK hc i pins s σ H E I hf st hg
    subst hP hw hK
    obtain ⟨⟨old, he⟩, hit, hne, hai, hae⟩ := st
    obtain ⟨xs, hq, hx⟩ := hg
    obtain ⟨its, rv, p, hz⟩ := I.tuple hq
    obtain ⟨f0, f1, f2, f3, f4, f5⟩ := hf it (by simp)
    have D := Draws.tuple (prog := X.prog) (w := X.w) (A := X.A.in1) (I.ok.hd hc) it a hai its.toArray
    have en : its.toArray.size = i := by
      have q := rv.length
      rw [← hx, q]
      exact List.size_toArray
    refine wpAny_pyNext_enum_endD D he ⟨by rw [en]; exact hit, (show s.heap.IsTuple a its.toArray from p)⟩ fun h' eb => ⟨rfl, I.turned (t' := s.toks) (fun b o hb q => eb b o hb q) f0 f1 f3 f4 f5⟩
  self := fun A i s Q E ⟨⟨_, he⟩, _⟩ h => wpAny_pyIter_enum he h
def iEnumT (K : PySem.W.Frag) (ta : TA) : TI := fun σ H R => ta σ H fun vs H1 => ∃ a xs, vs = [.ref a] ∧ SqT K H1 a xs ∧ R (IteT K a) H1
theorem pi_enumT {X : Cx} {e : Expr} {ta : TA} {p pos tpos : Pos} {elts : List Expr} {kk : Nat} (hg : Gl X "enumerate") (hm : X.mg "enumerate" = none) (ha : PA X [e] ta) (hs : starEach [e] X.env = [(false, eval e X.env)] := by rfl) :
    PI X (.Tuple elts kk tpos) (.Call (.Name "enumerate" p) [e] [] pos) (iEnumT X.K ta) := by
  refine ⟨fun pins s σ H R I h => ?_⟩
  refine Call_ (ld_blt I hg hm boot_enumerate (PyProof.Rows.callWith_type1 (thn (ha.run pos pins s σ H _ I h) fun us s1 ⟨vs, H1, I1, r1, a, xs, ex, hq, q⟩ => ?_) hs rfl))
  subst ex
  rw [Vals.ref1 r1]
  obtain ⟨its, rv, p', hz⟩ := I1.tuple hq
  have hlt : a < s1.heap.objs.size := let ⟨_, q, _⟩ := p'; Heap.lt_size q
  refine call_enum1 (begins_tuple a its.toArray) (show s1.heap.IsTuple a its.toArray from p') fun h' he hit hk => wpAny_pyIter_enum he ?_
  have I2 : Inv X pins σ H1 { s1 with heap := h' } := I1.kept (t' := s1.toks) hk
  refine ⟨s1.heap.objs.size + 1, [s1.heap.objs.size + 1, s1.heap.objs.size], _, _, H1, rfl, I2, turn_enumT a (s1.heap.objs.size + 1) s1.heap.objs.size, ⟨⟨.none, he⟩, ⟨_, hit, rfl, rfl⟩, Nat.succ_ne_self _, Nat.ne_of_lt hlt, Nat.ne_of_lt (Nat.lt_succ_of_lt hlt)⟩, fun b hb => ?_, q⟩
  have above : s1.heap.objs.size ≤ b := by
    rcases List.mem_cons.mp hb with z | z
    · rw [z]
      exact Nat.le_succ _
    · rw [List.mem_singleton.mp z]
      exact Nat.le_refl _
  exact I1.fpOk above (I1.hok.fresh above)
theorem walk_enumT {K : PySem.W.Frag} {a : Addr} {xs : List V} : Walk (IteT K a) xs.length (fun H => SqT K H a xs) (YPair (fun i => some (.int (i : Nat))) (fun i => xs[i]?)) := by
  refine ⟨fun i _ hi q => ⟨xs, xs[i], q, by simp [hi]⟩, fun _ q => ⟨xs, q, rfl⟩, fun i H v H' _ q y => ?_⟩
  obtain ⟨T, x, h1, h2, h3, h4⟩ := y
  exact ⟨T, .int (i : Nat), x, h1, h2, h3, rfl, h4 xs q⟩
end L2
/-! C() and C(*y) by a positional promise of __init__ -/
namespace StX
open PySem PySem.Spec PyProof.Rows L2
section
variable {X : Cx} {CX : CXT} {k : Nat} {f C : Addr} {sp : Sp} {E : XK} {x : Str} {e : Expr} {te : TE} {p sp_ pos : Pos}
theorem pe_makeR0 (M : Mk X.K C f) (F : FnR X.prog X.w X.K X.mg X.base CX k f sp) (hr : Room (k + 1) X.A) (hg : Gl X x) (hm : X.mg x = some (.ref C)) (hx : Passes CX X E) (hdb : (x == ("__debug__" : Str)) = false := by decide) :
    PE X (.Call (.Name x p) [] [] pos) (tMakeR C sp E tNil) :=
  ⟨fun pins s σ H Q I h => wpAny_Call_Name_kw (ld_glob I hg hm (PySem.W.callWith_K0 I.kIn M.kp (run_makeR (us := []) M F hr hx I .nil h)) hdb)⟩
/-- C(*y): the items of y, a tuple or a list -/
def tMakeS (K : PySem.W.Frag) (C : Addr) (sp : Sp) (E : XK) (te : TE) : TE := fun σ H Q => te σ H fun y H1 => ∃ a xs, y = V.ref a ∧ (SqT K H1 a xs ∨ SqL K H1 a xs) ∧ ∀ x dx, H1 x = Option.none → H1 dx = Option.none → dx ≠ x →
  sp (V.ref x :: xs) (upd (upd H1 dx (.own x)) x (.ins C dx [])) (fun v H2 => v = .non ∧ Q (.ref x) H2) E
theorem pe_makeS (M : Mk X.K C f) (F : FnR X.prog X.w X.K X.mg X.base CX k f sp) (hr : Room (k + 1) X.A) (hg : Gl X x) (hm : X.mg x = some (.ref C)) (hx : Passes CX X E) (he : PE X e te) (hdb : (x == ("__debug__" : Str)) = false := by decide)
    (hst : starEach [.Starred e sp_] X.env = [(true, eval e X.env)] := by rfl) : PE X (.Call (.Name x p) [.Starred e sp_] [] pos) (tMakeS X.K C sp E te) := by
  refine ⟨fun pins s σ H Q I h => wpAny_Call_Name_kw (ld_glob I hg hm ?_ hdb)⟩
  refine PySem.W.callWith_S (h₀ := X.base) I.ok.mod.kin M.kp (thn (he.run pins s σ H _ I h) fun v s1 ⟨y, H1, I1, ry, a, xs, ey, hxs, q⟩ => ?_) hst
  subst ey
  obtain rfl : v = Value.ref a := ry
  exact star_any I1 hxs fun us s2 I2 rv => ⟨I2.kIn, run_makeR M F hr hx I2 rv q⟩
end
end StX
namespace LS
open PySem L2
/-! stacks: what stands in the heap -/
/-- an entry: a rule (where it stands, its module, its actions) or a stack of entries -/
inductive Ent where
  | rule (p : Addr) (z : Str) (ds : List PyData)
  | stk (p : Addr) (es : List Ent)
def Ent.at_ : Ent → Addr
  | .rule p _ _ => p
  | .stk p _ => p
abbrev RuleI : Type := Addr × Str × List PyData
mutual
def rulesE : Ent → List RuleI
  | .rule p z ds => [(p, z, ds)]
  | .stk _ es => rulesEs es
def rulesEs : List Ent → List RuleI
  | [] => []
  | e :: es => rulesE e ++ rulesEs es
end
mutual
def depthE : Ent → Nat
  | .rule _ _ _ => 0
  | .stk _ es => 1 + depthEs es
def depthEs : List Ent → Nat
  | [] => 0
  | e :: es => max (depthE e) (depthEs es)
end
def refR (r : RuleI) : V := .ref r.1
def refE (e : Ent) : V := .ref e.at_
/-- the ascending names of the modules -/
def ModsOf (ms : List Str) (rs : List RuleI) : Prop := ms.Nodup ∧ PyProof.Rows.sortedS ms = true ∧ ∀ x, x ∈ ms ↔ x ∈ rs.map fun r => r.2.1
/-- what may be a stack's entries -/
structure Legal (es : List Ent) : Prop where
  few : es.length ≤ 12
  rules : (rulesEs es).length ≤ 12
  deep : depthEs es ≤ 2
def stackF (e r m : Addr) : List (Str × V) := [("_entries", .ref e), ("_rules", .ref r), ("_modules", .ref m)]
/-- shaped data without lists -/
def okD (ds : List PyData) : Bool := SeqAt.shaped (.tuple ds) && noLss ds
theorem okD_sh {ds : List PyData} (h : okD ds = true) : SeqAt.shaped (.tuple ds) = true := (Bool.and_eq_true_iff.mp h).1
theorem okD_nl {ds : List PyData} (h : okD ds = true) : noLss ds = true := (Bool.and_eq_true_iff.mp h).2
mutual
def EntAt (K : PySem.W.Frag) (CR CS : Addr) (H : Hp) : Ent → Prop
  | .rule p z ds => RuleAt K CR H p z ds ∧ okD ds = true
  | .stk p es => (∃ dx e r m ms, H p = some (.ins CS dx (stackF e r m)) ∧ SqT K H e (es.map refE) ∧ SqT K H r ((rulesEs es).map refR) ∧ BarT H m (ms.map V.str) ∧ ModsOf ms (rulesEs es) ∧ Legal es) ∧ EntsAt K CR CS H es
def EntsAt (K : PySem.W.Frag) (CR CS : Addr) (H : Hp) : List Ent → Prop
  | [] => True
  | e :: es => EntAt K CR CS H e ∧ EntsAt K CR CS H es
end
theorem RuleAt.ext {K : PySem.W.Frag} {C : Addr} {H H' : Hp} {p : Addr} {z : Str} {ds : List PyData} (h : RuleAt K C H p z ds) (S : Same H H') : RuleAt K C H' p z ds := by
  obtain ⟨dx, a, hp, hd⟩ := h
  exact ⟨dx, a, S _ _ hp, same_dp S _ _ hd⟩
mutual
theorem ent_same {K : PySem.W.Frag} {CR CS : Addr} {H H' : Hp} (S : Same H H') : ∀ e : Ent, EntAt K CR CS H e → EntAt K CR CS H' e
  | .rule _ _ _, h => ⟨h.1.ext S, h.2⟩
  | .stk _ es, ⟨⟨dx, e, r, m, ms, h1, h2, h3, h4, h5⟩, h6⟩ => ⟨⟨dx, e, r, m, ms, S _ _ h1, same_tup S h2, same_tup S h3, h4.same S, h5⟩, ents_same S es h6⟩
theorem ents_same {K : PySem.W.Frag} {CR CS : Addr} {H H' : Hp} (S : Same H H') : ∀ es : List Ent, EntsAt K CR CS H es → EntsAt K CR CS H' es
  | [], _ => True.intro
  | e :: es, ⟨h1, h2⟩ => ⟨ent_same S e h1, ents_same S es h2⟩
end
theorem ents_get {K : PySem.W.Frag} {CR CS : Addr} {H : Hp} : ∀ {es : List Ent} {i : Nat} {e : Ent}, EntsAt K CR CS H es → es[i]? = some e → EntAt K CR CS H e
  | [], _, _, _, h => by simp at h
  | e :: es, 0, _, ⟨h1, _⟩, h => by simp at h; subst h; exact h1
  | e :: es, i + 1, _, ⟨_, h2⟩, h => ents_get h2 (by simpa using h)
structure StackK (K : PySem.W.Frag) (mg : Str → Option Value) (CR CS : Addr) : Prop where
  R : RuleK K mg CR
  NR : InstK K CR
  g : mg "Stack" = some (.ref CS)
  cl : Cls K CS
  N : InstK K CS
  nE : NoAttr K CS "_entries"
  nR : NoAttr K CS "_rules"
  nM : NoAttr K CS "_modules"
  rs : PySem.W.kitOne K (.ref CR) (.ref CS) = some false
  isi : mg "isinstance" = none
abbrev sRulesOf : Stmt := top i_rules_of
abbrev sDepthOf : Stmt := top i_depth_of
abbrev sSRules : Stmt := inClass (top i_Stack) 2
abbrev sSEntries : Stmt := inClass (top i_Stack) 1
abbrev sSModules : Stmt := inClass (top i_Stack) 3
theorem st_e {e r m : Addr} : (stackF e r m).lookup ("_entries" : Str) = some (.ref e) := by
  show ([(("_entries" : Str), V.ref e), (("_rules" : Str), V.ref r), (("_modules" : Str), V.ref m)] : List (Str × V)).lookup ("_entries" : Str) = some (.ref e)
  simp [List.lookup]
theorem st_r {e r m : Addr} : (stackF e r m).lookup ("_rules" : Str) = some (.ref r) := by
  show ([(("_entries" : Str), V.ref e), (("_rules" : Str), V.ref r), (("_modules" : Str), V.ref m)] : List (Str × V)).lookup ("_rules" : Str) = some (.ref r)
  have h1 : (("_rules" : Str) == ("_entries" : Str)) = false := by decide +kernel
  simp [List.lookup, h1]
theorem st_m {e r m : Addr} : (stackF e r m).lookup ("_modules" : Str) = some (.ref m) := by
  show ([(("_entries" : Str), V.ref e), (("_rules" : Str), V.ref r), (("_modules" : Str), V.ref m)] : List (Str × V)).lookup ("_modules" : Str) = some (.ref m)
  have h1 : (("_modules" : Str) == ("_entries" : Str)) = false := by decide +kernel
  have h2 : (("_modules" : Str) == ("_rules" : Str)) = false := by decide +kernel
  simp [List.lookup, h1, h2]
/-- the getters -/
def spSEntries (K : PySem.W.Frag) (CR CS : Addr) : Sp := fun vs H Q _ => ∃ (p : Addr) (es : List Ent), vs = [.ref p] ∧ EntAt K CR CS H (.stk p es) ∧ ∀ t, SqT K H t (es.map refE) → Q (.ref t) H
def spSRules (K : PySem.W.Frag) (CR CS : Addr) : Sp := fun vs H Q _ => ∃ (p : Addr) (es : List Ent), vs = [.ref p] ∧ EntAt K CR CS H (.stk p es) ∧ ∀ t, SqT K H t ((rulesEs es).map refR) → Q (.ref t) H
def spSModules (K : PySem.W.Frag) (CR CS : Addr) : Sp := fun vs H Q _ => ∃ (p : Addr) (es : List Ent), vs = [.ref p] ∧ EntAt K CR CS H (.stk p es) ∧ ∀ t ms, SqT K H t (ms.map V.str) → ModsOf ms (rulesEs es) → Q (.ref t) H
/-- the same, the tuple being bare -/
def spSModulesB (K : PySem.W.Frag) (CR CS : Addr) : Sp := fun vs H Q _ => ∃ (p : Addr) (es : List Ent), vs = [.ref p] ∧ EntAt K CR CS H (.stk p es) ∧ ∀ t ms, BarT H t (ms.map V.str) → ModsOf ms (rulesEs es) → Q (.ref t) H
def spRulesOf (K : PySem.W.Frag) (CR CS : Addr) : Sp := fun vs H Q _ => ∃ e : Ent, vs = [refE e] ∧ EntAt K CR CS H e ∧ ∀ t H', Same H H' → SqT K H' t ((rulesE e).map refR) → Q (.ref t) H'
section
variable {P : Program} {w : World} {K : PySem.W.Frag} {mg : Str → Option Value} {base : Heap} {CR CS : Addr}
theorem scSE : FnScope ["self"] ["self"] (defScope sSEntries) := ⟨rfl, rfl, rfl, by decide +kernel, rfl, by decide +kernel, by decide +kernel⟩
theorem scSR : FnScope ["self"] ["self"] (defScope sSRules) := ⟨rfl, rfl, rfl, by decide +kernel, rfl, by decide +kernel, by decide +kernel⟩
theorem scSM : FnScope ["self"] ["self"] (defScope sSModules) := ⟨rfl, rfl, rfl, by decide +kernel, rfl, by decide +kernel, by decide +kernel⟩
theorem ok_sentries {f : Addr} {fd : FuncData} (F : Fun K "entries" "Stack.entries" sSEntries f fd) (T : StackK K mg CR CS) : FnOk P w K mg base CX0 1 f fd ["self"] (spSEntries K CR CS) := by
  refine F.ok scSE (fun vs H Q E h => ?_) (fun cdv A outer s H vs Q E hr h => ?_)
  · obtain ⟨p, es, rfl, _⟩ := h
    rfl
  · obtain ⟨p, es, rfl, ⟨⟨dx, e, r, m, ms, h1, h2, h3, h4, h5⟩, h6⟩, k⟩ := h
    exact ⟨_, pss_one (ps_ret (pe_fld (pv 0) rfl)), _, rfl, p, CS, dx, _, _, rfl, h1, T.cl, T.nE, st_e, k e h2⟩
theorem ok_srules {f : Addr} {fd : FuncData} (F : Fun K "rules" "Stack.rules" sSRules f fd) (T : StackK K mg CR CS) : FnOk P w K mg base CX0 1 f fd ["self"] (spSRules K CR CS) := by
  refine F.ok scSR (fun vs H Q E h => ?_) (fun cdv A outer s H vs Q E hr h => ?_)
  · obtain ⟨p, es, rfl, _⟩ := h
    rfl
  · obtain ⟨p, es, rfl, ⟨⟨dx, e, r, m, ms, h1, h2, h3, h4, h5⟩, h6⟩, k⟩ := h
    exact ⟨_, pss_one (ps_ret (pe_fld (pv 0) rfl)), _, rfl, p, CS, dx, _, _, rfl, h1, T.cl, T.nR, st_r, k r h3⟩
theorem ok_smodules {f : Addr} {fd : FuncData} (F : Fun K "modules" "Stack.modules" sSModules f fd) (T : StackK K mg CR CS) : FnOk P w K mg base CX0 1 f fd ["self"] (spSModules K CR CS) := by
  refine F.ok scSM (fun vs H Q E h => ?_) (fun cdv A outer s H vs Q E hr h => ?_)
  · obtain ⟨p, es, rfl, _⟩ := h
    rfl
  · obtain ⟨p, es, rfl, ⟨⟨dx, e, r, m, ms, h1, h2, h3, h4, h5⟩, h6⟩, k⟩ := h
    exact ⟨_, pss_one (ps_ret (pe_fld (pv 0) rfl)), _, rfl, p, CS, dx, _, _, rfl, h1, T.cl, T.nM, st_m, k m ms h4.sqt h5.1⟩
theorem ok_smodulesB {f : Addr} {fd : FuncData} (F : Fun K "modules" "Stack.modules" sSModules f fd) (T : StackK K mg CR CS) : FnOk P w K mg base CX0 1 f fd ["self"] (spSModulesB K CR CS) := by
  refine F.ok scSM (fun vs H Q E h => ?_) (fun cdv A outer s H vs Q E hr h => ?_)
  · obtain ⟨p, es, rfl, _⟩ := h
    rfl
  · obtain ⟨p, es, rfl, ⟨⟨dx, e, r, m, ms, h1, h2, h3, h4, h5⟩, h6⟩, k⟩ := h
    exact ⟨_, pss_one (ps_ret (pe_fld (pv 0) rfl)), _, rfl, p, CS, dx, _, _, rfl, h1, T.cl, T.nM, st_m, k m ms h4 h5.1⟩
theorem scRO : FnScope ["entry"] ["entry"] (defScope sRulesOf) := ⟨rfl, rfl, rfl, by decide +kernel, rfl, by decide +kernel, by decide +kernel⟩
/-- the class of an entry, and whether it is Stack -/
theorem ent_cls {H : Hp} {e : Ent} (T : StackK K mg CR CS) (h : EntAt K CR CS H e) : ∃ t, TyX K H (refE e) t ∧ PySem.W.kitOne K t (.ref CS) = some (match e with | .stk _ _ => true | .rule _ _ _ => false) := by
  cases e with
  | rule p z ds =>
    obtain ⟨⟨dx, a, hp, _⟩, _⟩ := h
    exact ⟨.ref CR, .base (.ins hp T.R.cl T.NR.ha T.NR.hn T.NR.ht T.NR.hm), T.rs⟩
  | stk p es =>
    obtain ⟨⟨dx, e, r, m, ms, h1, _⟩, _⟩ := h
    exact ⟨.ref CS, .base (.ins h1 T.cl T.N.ha T.N.hn T.N.ht T.N.hm), kit_self⟩
theorem ok_rulesof {f fR pR : Addr} {fd fdR : FuncData} (F : Fun K "rules_of" "rules_of" sRulesOf f fd) (T : StackK K mg CR CS) (FR : Fun K "rules" "Stack.rules" sSRules fR fdR) (bR : Binds K fdR ["self"] []) (pR_ : PropOf K CS "rules" pR fR) :
    FnOk P w K mg base CX0 3 f fd ["entry"] (spRulesOf K CR CS) := by
  have GR : FnOk P w K mg base CX0 1 fR fdR ["self"] (spSRules K CR CS) := ok_srules FR T
  refine F.ok scRO (fun vs H Q E h => ?_) (fun cdv A outer s H vs Q E hr h => ?_)
  · obtain ⟨e, rfl, _⟩ := h
    rfl
  · obtain ⟨e, rfl, he, k⟩ := h
    refine ⟨_, pss_cons (ps_if (pt_val (pe_callB call_isi (by rfl) T.isi (by decide +kernel) (pa_cons (pv 0) (pa_cons (pe_glob (v := .ref CS) (by rfl) T.g rfl) pa_nil))))
        (pss_one (ps_ret (pe_prop (pv 0) T.cl pR_ GR hr bR .nil pass0 rfl))) pss_nil)
      (pss_one (ps_ret (pe_tup (pa_cons (pv 0) pa_nil)))), ?_⟩
    obtain ⟨t, ht, hk⟩ := ent_cls T he
    refine ⟨_, rfl, refE e, .ref CS, t, .ref CS, _, rfl, .own CS, ht, hk, _, rfl, ?_⟩
    cases e with
    | stk p es =>
      refine iteT ?_
      obtain ⟨⟨dx, e1, r, m, ms, h1, h2, h3, h4, h5⟩, h6⟩ := id he
      exact ⟨_, rfl, p, dx, _, rfl, h1, p, es, rfl, he, fun q hq => k q H (Same.refl H) hq⟩
    | rule p z ds =>
      refine iteF ?_
      refine ⟨_, rfl, by show 1 ≤ sizeLine; decide, fun q hq => k q _ (same_upd hq (Same.refl H)) (SqT.of upd_same)⟩
end
end LS
namespace LS
open PySem L2
/-- how deep an entry of depth at most n is -/
def spDepth (K : PySem.W.Frag) (CR CS : Addr) (n : Nat) : Sp := fun vs H Q _ => ∃ e : Ent, vs = [refE e] ∧ EntAt K CR CS H e ∧ depthE e ≤ n ∧ ∀ H', Same H H' → Q (.int (depthE e : Nat)) H'
abbrev nDepth : List Str := ["entry", "inner"]
def depths (es : List Ent) : List Int := es.map fun e => ((depthE e : Nat) : Int)
theorem depthEs_max : ∀ es : List Ent, (∀ y ∈ (0 : Int) :: depths es, y ≤ ((depthEs es : Nat) : Int)) ∧ ((depthEs es : Nat) : Int) ∈ (0 : Int) :: depths es
  | [] => ⟨fun y hy => by
      rw [show depths [] = [] from rfl, List.mem_singleton] at hy
      rw [hy]
      exact Int.le_refl _, List.mem_cons_self⟩
  | e :: es => by
    obtain ⟨h1, h2⟩ := depthEs_max es
    have hd : depths (e :: es) = ((depthE e : Nat) : Int) :: depths es := rfl
    have hm : depthEs (e :: es) = max (depthE e) (depthEs es) := rfl
    rw [hd, hm]
    refine ⟨fun y hy => ?_, ?_⟩
    · rcases List.mem_cons.mp hy with z | z
      · rw [z]
        omega
      · rcases List.mem_cons.mp z with z | z
        · rw [z]
          omega
        · have := h1 y (List.mem_cons_of_mem _ z)
          omega
    · rcases Nat.le_total (depthE e) (depthEs es) with q | q
      · rw [Nat.max_eq_right q]
        rcases List.mem_cons.mp h2 with z | z
        · rw [z]
          exact List.mem_cons_self
        · exact List.mem_cons_of_mem _ (List.mem_cons_of_mem _ z)
      · rw [Nat.max_eq_left q]
        exact List.mem_cons_of_mem _ List.mem_cons_self
theorem depthEs_get : ∀ {es : List Ent} {i : Nat} {e : Ent}, es[i]? = some e → depthE e ≤ depthEs es
  | [], _, _, h => by simp at h
  | e :: es, 0, _, h => by simp at h; subst h; exact Nat.le_max_left _ _
  | e :: es, i + 1, _, h => Nat.le_trans (depthEs_get (by simpa using h)) (Nat.le_max_right _ _)
section
variable {P : Program} {w : World} {K : PySem.W.Frag} {mg : Str → Option Value} {base : Heap} {CR CS : Addr}
theorem scDO : FnScope nDepth ["entry"] (defScope sDepthOf) := ⟨rfl, rfl, rfl, by decide +kernel, rfl, by decide +kernel, by decide +kernel⟩
theorem ok_depth {f fE pE : Addr} {fd fdE : FuncData} (F : Fun K "depth_of" "depth_of" sDepthOf f fd) (gD : mg "depth_of" = some (.ref f)) (bD : Binds K fd ["entry"] []) (T : StackK K mg CR CS) (FE : Fun K "entries" "Stack.entries" sSEntries fE fdE) (bE : Binds K fdE ["self"] []) (pE_ : PropOf K CS "entries" pE fE) (mM : mg "max" = none) :
    ∀ n : Nat, FnOk P w K mg base CX0 (n + 3) f fd ["entry"] (spDepth K CR CS n) := by
  have GE : FnOk P w K mg base CX0 1 fE fdE ["self"] (spSEntries K CR CS) := ok_sentries FE T
  intro n
  induction n with
  | zero =>
    refine F.ok scDO (fun vs H Q E h => ?_) (fun cdv A outer s H vs Q E hr h => ?_)
    · obtain ⟨e, rfl, _⟩ := h
      rfl
    · obtain ⟨e, rfl, he, hn, k⟩ := h
      cases e with
      | stk p es =>
        have q : 1 + depthEs es ≤ 0 := hn
        omega
      | rule p z ds =>
        refine ⟨_, pss_cons (ps_if (pt_val (pe_callB call_isi (by rfl) T.isi (by decide +kernel) (pa_cons (pv 0) (pa_cons (pe_glob (v := .ref CS) (by rfl) T.g rfl) pa_nil)))) pss_false pss_nil) (pss_one (ps_ret pe_int)), ?_⟩
        obtain ⟨t, ht, hk⟩ := ent_cls T he
        refine ⟨_, rfl, refE (.rule p z ds), .ref CS, t, .ref CS, _, rfl, .own CS, ht, hk, _, rfl, ?_⟩
        refine iteF ?_
        exact k H (Same.refl H)
  | succ n ih =>
    refine F.ok scDO (fun vs H Q E h => ?_) (fun cdv A outer s H vs Q E hr h => ?_)
    · obtain ⟨e, rfl, _⟩ := h
      rfl
    · obtain ⟨e, rfl, he, hn, k⟩ := h
      refine ⟨_, pss_cons (ps_if (pt_val (pe_callB call_isi (by rfl) T.isi (by decide +kernel) (pa_cons (pv 0) (pa_cons (pe_glob (v := .ref CS) (by rfl) T.g rfl) pa_nil))))
          (pss_one (ps_ret (pe_op op_add pe_int (pe_callB (cr_max (by rfl)) (by rfl) mM PyProof.Rows.boot_max (pa_cons (pe_op op_cat (pe_lst (pa_cons pe_int pa_nil))
            (pe_lc (own := [("inner", 1)]) (g := gName 1) (by rfl) scDO.nd (pi_tup (pe_prop (pv 0) T.cl pE_ GE (hr.mono (by omega)) bE .nil pass0 rfl)) (blkOk_by (own := [("inner", 1)]) (N := nDepth) (sc := defScope sDepthOf) (by decide +kernel))
              (fun _ _ _ _ _ => pg_name (i := 1) scDO.nd rfl (Or.inl rfl)) (fun _ _ _ _ _ => pts_nil) (fun _ _ _ _ _ => pe_call ih hr (by rfl) gD F.kp bD .nil pass0 (pa_cons (pv 1) pa_nil)))) pa_nil))))) pss_nil)
        (pss_one (ps_ret pe_int)), ?_⟩
      obtain ⟨t, ht, hk⟩ := ent_cls T he
      refine ⟨_, rfl, refE e, .ref CS, t, .ref CS, _, rfl, .own CS, ht, hk, _, rfl, ?_⟩
      cases e with
      | rule p z ds =>
        refine iteF ?_
        exact k H (Same.refl H)
      | stk p es =>
        refine iteT ?_
        obtain ⟨⟨dx, e1, r, m, ms, h1, h2, h3, h4, h5, leg⟩, h6⟩ := id he
        refine ⟨by show 1 ≤ sizeLine; decide, fun l0 n0 => ?_⟩
        have S0 : Same H (upd H l0 (.lst [.int 0])) := same_upd n0 (Same.refl H)
        have e0 : upd H l0 (.lst [.int 0]) l0 = some (.lst [.int 0]) := upd_same
        generalize upd H l0 (.lst [.int 0]) = H1 at *
        have he1 := ent_same S0 _ he
        refine ⟨_, rfl, p, dx, _, rfl, S0 _ _ h1, p, es, rfl, he1, fun te hte => ?_⟩
        refine ⟨te, rfl, ⟨_, hte⟩, fun B nB => ?_⟩
        refine lc_it walk_tup (fun i H' => Same H1 H' ∧ H' B = some (.lst ((depths (es.take i)).map V.int))) ⟨same_upd nB (Same.refl H1), upd_same⟩ (fun i H' _ q => same_tup q.1 hte) ?_ ?_
        · rintro i x H2 H3 hi ⟨S2, hB⟩ ⟨rfl, hx⟩
          rw [List.length_map] at hi
          obtain ⟨ei, hei⟩ : ∃ ei, es[i]? = some ei := ⟨_, List.getElem?_eq_getElem hi⟩
          rw [List.getElem?_map, hei] at hx
          cases hx
          have hd : depthE ei ≤ n := by
            have q1 := depthEs_get hei
            have q2 : 1 + depthEs es ≤ n + 1 := hn
            omega
          refine ⟨rfl, _, rfl, ei, rfl, ent_same S2 _ (ents_get he1.2 hei), hd, fun H4 S4 => ?_⟩
          refine ⟨_, S4 _ _ hB, ?_, ?_, ?_⟩
          · have q := leg.few
            have hs2 := sizeLine_eq
            have q3 : (depths (es.take i)).length ≤ es.length := by
              unfold depths
              rw [List.length_map, List.length_take]
              exact Nat.min_le_right _ _
            rw [List.length_map]
            omega
          · exact same_upd nB (S2.trans S4)
          · rw [upd_same, List.take_add_one, hei]
            unfold depths
            rw [List.map_append, List.map_append]
            rfl
        · rintro H2 ⟨S2, hB⟩
          rw [List.length_map, List.take_length] at hB
          have q := leg.few
          have hs2 := sizeLine_eq
          refine ⟨l0, B, _, _, rfl, rfl, S2 _ _ e0, hB, by rw [List.length_map]; unfold depths; rw [List.length_map]; show 1 + es.length ≤ sizeLine; omega, fun l3 n3 => ?_⟩
          obtain ⟨mx1, mx2⟩ := depthEs_max es
          refine ⟨l3, (0 : Int) :: depths es, rfl, SqL.of upd_same, by simp, fun mm hm1 hm2 => ?_⟩
          have em : mm = ((depthEs es : Nat) : Int) := by
            have a1 := mx1 mm hm1
            have a2 := hm2 _ mx2
            omega
          refine ⟨1, mm, rfl, rfl, ?_⟩
          have ed : ((depthE (.stk p es) : Nat) : Int) = 1 + mm := by
            rw [em]
            show ((1 + depthEs es : Nat) : Int) = _
            omega
          have z := k _ (same_upd (o := .lst ([V.int 0] ++ (depths es).map V.int)) (S0.free (S2.free n3)) (S0.trans S2))
          rw [ed] at z
          exact z
end
end LS
/-! xs.extend(a tuple) -/
namespace PySem
open AutoSeq1
theorem extend_tuple (l b : Addr) (items items2 : Array Value) (n n2 : Nat) (dct : Option Addr) (sl : Array (Option Value)) (few : ¬ (!items.isEmpty && Builtin.List.listTooLong (items.size + items2.size)) = true) (z1 : items.size ≤ sizeLine) (z2 : items.size + items2.size ≤ sizeLine + 1) :
    Meets (Builtin.«list.extend» ⟨[.ref l, .ref b], []⟩) (fun _ R s => s.heap.get? l = some { cls := .type "list", dict := none, data := .seq items n, slots := #[] } ∧ s.heap.get? b = some { cls := .type "tuple", dict := dct, data := .seq items2 n2, slots := sl } ∧
      R (.ok (.ret Value.none)) { s with heap := s.heap.update l (Obj.mapSeq fun x => x ++ items2), toks := s.toks }) :=
  .of_wp fun prog w A R s h => by
    rcases s with ⟨hp, g, d, tk, os⟩
    rcases h with ⟨hl, hb, h⟩
    have f1 := idx_int
    have f2 := sub_tuple_tuple
    have f3 := sub_list_list
    have f4 := sub_tuple_list
    have f5 := sub_list_tuple
    have z3 : (items ++ items2).size ≤ sizeLine + 1 := by
      rw [Array.size_append]
      exact z2
    wp_walk using (wpAny_updateSeq hl rfl (hz := z1) (_hz' := z3)), wpAny_loadPart' hl, wpAny_loadPart' hb
    exact ⟨_, rfl, h⟩
end PySem
namespace L2
open PySem PySem.Spec PyProof.Rows
section
variable {X : Cx}
def rExtendT (K : PySem.W.Frag) : V → List V → Hp → VK → Prop := fun x vs H Q => ∃ (l b : Addr) (xs zs : List V), x = .ref l ∧ vs = [.ref b] ∧ H l = some (.lst xs) ∧ SqT K H b zs ∧ xs.length + zs.length ≤ sizeLine ∧ Q .non (upd H l (.lst (xs ++ zs)))
theorem mt_extendT : MtM X "list.extend" (rExtendT X.K) := by
  intro pins s σ H x vs v us Q I rx rv h
  obtain ⟨l, b, xs, zs, rfl, rfl, hH, hB, hz, q⟩ := h
  cases rx
  obtain ⟨u, rfl, ru⟩ := rv.one
  cases ru
  obtain ⟨z, its, n, r, hl, e⟩ := I.lstM hH
  obtain ⟨its2, r2, ⟨⟨oc, od, dt, sl⟩, e2, c2, n2, d2⟩, _⟩ := I.tuple hB
  cases (show oc = Value.type "tuple" from c2)
  cases (show dt = Data.seq its2.toArray n2 from d2)
  have l1 : its.length = xs.length := r.length.symm
  have l2 : its2.length = zs.length := r2.length.symm
  have sum : its.toArray.size + its2.toArray.size ≤ sizeLine := by
    rw [List.size_toArray, List.size_toArray, l1, l2]
    exact hz
  have few : ¬ (!its.toArray.isEmpty && Builtin.List.listTooLong (its.toArray.size + its2.toArray.size)) = true := by
    rw [notLongL sum, Bool.and_false]
    exact Bool.false_ne_true
  refine call_meets F.slot_list_extend ⟨_, e, rfl⟩ F.entry_list_extend (F.args_list_extend_2 _ _) (extend_tuple l b its.toArray its2.toArray n n2 od sl few (by rw [List.size_toArray, l1]; omega) (by omega)) ⟨e, e2, ?_⟩
  exact ⟨.non, _, I.lset (its' := its ++ its2) hH e (by simp) (r.append r2) (by rw [List.length_append]; exact hz), rfl, q⟩
end
end L2
namespace LS
open PySem L2 TxS
abbrev sMisfit : Stmt := top i_first_misfit
abbrev nMisfit : List Str := ["entries", "rules", "index", "entry", "rule"]
/-- the modules' names, each once, as they come -/
def distinct (rs : List RuleI) : List Str := (rs.map fun r => r.2.1).foldl addT []
/-- the i-th entry cannot stand there -/
def badAt (es : List Ent) (i : Nat) (e : Ent) : Bool := decide (12 ≤ i) || decide (3 ≤ depthE e) || (decide (12 < (rulesEs (es.take (i + 1))).length) || decide (6 < (distinct (rulesEs (es.take (i + 1)))).length))
def badI (es : List Ent) (i : Nat) : Bool := match es[i]? with
  | some e => badAt es i e
  | none => false
def misfit (es : List Ent) : Option Nat := (List.range es.length).find? (badI es)
def optV : Option Nat → V
  | none => .non
  | some i => .int (i : Nat)
def spMisfit (K : PySem.W.Frag) (CR CS : Addr) : Sp := fun vs H Q _ => ∃ (t : Addr) (es : List Ent), vs = [.ref t] ∧ SqT K H t (es.map refE) ∧ EntsAt K CR CS H es ∧ ∀ H', Same H H' → Q (optV (misfit es)) H'
structure MisK (mg : Str → Option Value) : Prop where
  mE : ∃ t, mg "MOST_ENTRIES" = some (.int 12 t)
  mR : ∃ t, mg "MOST_RULES" = some (.int 12 t)
  mM : ∃ t, mg "MOST_MODULES" = some (.int 6 t)
  mD : ∃ t, mg "MOST_DEPTH" = some (.int 3 t)
  en : mg "enumerate" = none
  len : mg "len" = none
  max : mg "max" = none
theorem rulesEs_append : ∀ (a b : List Ent), rulesEs (a ++ b) = rulesEs a ++ rulesEs b
  | [], _ => rfl
  | e :: a, b => by
    show rulesE e ++ rulesEs (a ++ b) = (rulesE e ++ rulesEs a) ++ rulesEs b
    rw [rulesEs_append a b, List.append_assoc]
theorem rulesEs_step {es : List Ent} {i : Nat} {e : Ent} (h : es[i]? = some e) : rulesEs (es.take (i + 1)) = rulesEs (es.take i) ++ rulesE e := by
  rw [List.take_add_one, h, rulesEs_append]
  show _ = _
  refine congrArg _ ?_
  show rulesE e ++ [] = _
  rw [List.append_nil]
theorem distinct_snoc (rs : List RuleI) (r : RuleI) : distinct (rs ++ [r]) = addT (distinct rs) r.2.1 := by
  unfold distinct
  rw [List.map_append, List.foldl_append]
  rfl
theorem addT_len (l : List Str) (x : Str) : (addT l x).length ≤ l.length + 1 := by
  unfold addT
  split
  · omega
  · rw [List.length_append]
    exact Nat.le_refl _
theorem distinct_len : ∀ n (rs : List RuleI), rs.length = n → (distinct rs).length ≤ n
  | 0, rs, h => by
    have e : rs = [] := List.length_eq_zero_iff.mp h
    rw [e]
    exact Nat.le_refl _
  | n + 1, rs, h => by
    have hne : rs ≠ [] := fun z => by rw [z] at h; cases h
    have e := (List.dropLast_concat_getLast hne).symm
    rw [e, distinct_snoc]
    have q := distinct_len n rs.dropLast (by rw [List.length_dropLast, h]; rfl)
    have q2 := addT_len (distinct rs.dropLast) (rs.getLast hne).2.1
    omega
/-- the depth and the rules of an entry that stands -/
theorem ent_bounds {K : PySem.W.Frag} {CR CS : Addr} {H : Hp} {e : Ent} (h : EntAt K CR CS H e) : depthE e ≤ 3 ∧ (rulesE e).length ≤ 12 := by
  cases e with
  | rule p z ds => exact ⟨Nat.zero_le _, by show 1 ≤ 12; decide⟩
  | stk p es =>
    obtain ⟨⟨dx, e1, r, m, ms, h1, h2, h3, h4, h5, leg⟩, h6⟩ := h
    exact ⟨by have q := leg.deep; show 1 + depthEs es ≤ 3; omega, leg.rules⟩
mutual
/-- each rule of an entry stands -/
theorem rules_at {K : PySem.W.Frag} {CR CS : Addr} {H : Hp} : ∀ (e : Ent), EntAt K CR CS H e → ∀ r ∈ rulesE e, RuleAt K CR H r.1 r.2.1 r.2.2
  | .rule p z ds, h, r, hr => by
    have e : r = (p, z, ds) := List.mem_singleton.mp hr
    rw [e]
    exact h.1
  | .stk _ es, h, r, hr => rules_ats es h.2 r hr
theorem rules_ats {K : PySem.W.Frag} {CR CS : Addr} {H : Hp} : ∀ (es : List Ent), EntsAt K CR CS H es → ∀ r ∈ rulesEs es, RuleAt K CR H r.1 r.2.1 r.2.2
  | [], _, r, hr => nomatch hr
  | e :: es, h, r, hr => by
    rcases List.mem_append.mp hr with z | z
    · exact rules_at e h.1 r z
    · exact rules_ats es h.2 r z
end
def spMod (K : PySem.W.Frag) (C : Addr) : Sp := fun vs H Q _ => ∃ (p : Addr) (z : Str) (ds : List PyData), vs = [.ref p] ∧ RuleAt K C H p z ds ∧ Q (.str z) H
abbrev sRMod : Stmt := inClass (top i_Rule) 1
theorem scRMod : FnScope ["self"] ["self"] (defScope sRMod) := ⟨rfl, rfl, rfl, by decide +kernel, rfl, by decide +kernel, by decide +kernel⟩
theorem ok_mod {P : Program} {w : World} {K : PySem.W.Frag} {mg : Str → Option Value} {base : Heap} {f C : Addr} {fd : FuncData} (F : Fun K "module" "Rule.module" sRMod f fd) (R : RuleK K mg C) : FnOk P w K mg base CX0 1 f fd ["self"] (spMod K C) := by
  refine F.ok scRMod (fun vs H Q E h => ?_) (fun cdv A outer s H vs Q E hr h => ?_)
  · obtain ⟨p, z, ds, rfl, _⟩ := h
    rfl
  · obtain ⟨p, z, ds, rfl, ⟨dx, a, hp, hd⟩, k⟩ := h
    exact ⟨_, pss_one (ps_ret (pe_fld (pv 0) rfl)), _, rfl, p, C, dx, _, _, rfl, hp, R.cl, R.nM, rule_m, k⟩
end LS
set_option maxHeartbeats 8000000
namespace LS
open PySem L2 TxS
section
variable {P : Program} {w : World} {K : PySem.W.Frag} {mg : Str → Option Value} {base : Heap} {CR CS : Addr}
theorem scMF : FnScope nMisfit ["entries"] (defScope sMisfit) := ⟨rfl, rfl, rfl, by decide +kernel, rfl, by decide +kernel, by decide +kernel⟩
theorem bad_some {es : List Ent} {i : Nat} {e : Ent} (h : es[i]? = some e) : badI es i = badAt es i e := by
  unfold badI
  rw [h]
theorem find_snoc {es : List Ent} {i : Nat} {e : Ent} (h : es[i]? = some e) (hn : (List.range i).find? (badI es) = none) :
    (badAt es i e = true → misfit es = some i) ∧ (badAt es i e = false → (List.range (i + 1)).find? (badI es) = none) := by
  have one : (List.range (i + 1)).find? (badI es) = if badAt es i e = true then some i else none := by
    rw [List.range_succ, List.find?_append, hn, Option.none_or, List.find?_cons, bad_some h]
    cases badAt es i e <;> rfl
  refine ⟨fun hb => ?_, fun hb => ?_⟩
  · have hi := (List.getElem?_eq_some_iff.mp h).1
    unfold misfit
    have e1 : List.range es.length = List.range (i + 1) ++ (List.range (es.length - (i + 1))).map (i + 1 + ·) := by
      rw [← List.range_add]
      congr 1
      omega
    rw [e1, List.find?_append, one, if_pos hb]
    rfl
  · rw [one, hb]
    exact if_neg Bool.false_ne_true
theorem any_rule {H : Hp} {e : Ent} (T : StackK K mg CR CS) (sr : PySem.W.kitOne K (.ref CS) (.ref CR) = some false) (h : EntAt K CR CS H e) : ∃ t, TyX K H (refE e) t ∧ PySem.W.kitAny K t [.ref CR, .ref CS] = some true := by
  cases e with
  | rule p z ds =>
    obtain ⟨⟨dx, a, hp, _⟩, _⟩ := h
    refine ⟨.ref CR, .base (.ins hp T.R.cl T.NR.ha T.NR.hn T.NR.ht T.NR.hm), ?_⟩
    unfold PySem.W.kitAny
    rw [kit_self]
  | stk p es =>
    obtain ⟨⟨dx, e, r, m, ms, h1, _⟩, _⟩ := h
    refine ⟨.ref CS, .base (.ins h1 T.cl T.N.ha T.N.hn T.N.ht T.N.hm), ?_⟩
    unfold PySem.W.kitAny
    rw [sr]
    unfold PySem.W.kitAny
    rw [kit_self]
theorem ok_misfit {f fD fO fE pE fM pM fR pR : Addr} {fd fdD fdO fdE fdM fdR : FuncData} (F : Fun K "first_misfit" "first_misfit" sMisfit f fd) (T : StackK K mg CR CS) (M : MisK mg) (gR : mg "Rule" = some (.ref CR)) (sr : PySem.W.kitOne K (.ref CS) (.ref CR) = some false)
    (FD : Fun K "depth_of" "depth_of" sDepthOf fD fdD) (gD : mg "depth_of" = some (.ref fD)) (bD : Binds K fdD ["entry"] []) (FE : Fun K "entries" "Stack.entries" sSEntries fE fdE) (bE : Binds K fdE ["self"] []) (pE_ : PropOf K CS "entries" pE fE)
    (FO : Fun K "rules_of" "rules_of" sRulesOf fO fdO) (gO : mg "rules_of" = some (.ref fO)) (bO : Binds K fdO ["entry"] []) (FR : Fun K "rules" "Stack.rules" sSRules fR fdR) (bR : Binds K fdR ["self"] []) (pR_ : PropOf K CS "rules" pR fR)
    (FM : Fun K "module" "Rule.module" sRMod fM fdM) (bM : Binds K fdM ["self"] []) (pM_ : PropOf K CR "module" pM fM) : FnOk P w K mg base CX0 7 f fd ["entries"] (spMisfit K CR CS) := by
  have GD : FnOk P w K mg base CX0 6 fD fdD ["entry"] (spDepth K CR CS 3) := ok_depth FD gD bD T FE bE pE_ M.max 3
  have GO : FnOk P w K mg base CX0 3 fO fdO ["entry"] (spRulesOf K CR CS) := ok_rulesof FO T FR bR pR_
  have GM : FnOk P w K mg base CX0 1 fM fdM ["self"] (spMod K CR) := ok_mod FM T.R
  obtain ⟨tE, mE⟩ := M.mE
  obtain ⟨tR, mR⟩ := M.mR
  obtain ⟨tM, mM⟩ := M.mM
  obtain ⟨tD, mD⟩ := M.mD
  refine F.ok scMF (fun vs H Q E h => ?_) (fun cdv A outer s H vs Q E hr h => ?_)
  · obtain ⟨t, es, rfl, _⟩ := h
    rfl
  · obtain ⟨t, es, rfl, ht, hes, k⟩ := h
    refine ⟨_, pss_cons (ps_set (i := 1) scMF.nd rfl (.inl rfl) (pe_lst pa_nil))
      (pss_cons (ps_for PassesOwn.never rfl (pi_enumT (by rfl) M.en (pa_cons (pv 0) pa_nil)) (pg_tup (by rfl) (pgs_cons (pg_name (i := 2) scMF.nd rfl (.inl rfl)) (pgs_cons (pg_name (i := 3) scMF.nd rfl (.inl rfl)) pgs_nil)))
        (pss_cons (ps_if (PW.pt (pw_or (pt_cmpR op_ge (pv 2) (pe_glob (v := .int 12) (by rfl) mE ⟨tE, rfl⟩) (nomark _)) (pw_or (pt_not (pt_val (pe_callB call_isiT (by rfl) T.isi (by decide +kernel) (pa_cons (pv 3) (pa_cons (pe_tup (pa_cons (pe_glob (v := .ref CR) (by rfl) gR rfl) (pa_cons (pe_glob (v := .ref CS) (by rfl) T.g rfl) pa_nil))) pa_nil)))))
              (pw_or1 (pt_cmpR op_ge (pe_call GD hr (by rfl) gD FD.kp bD .nil pass0 (pa_cons (pv 3) pa_nil)) (pe_glob (v := .int 3) (by rfl) mD ⟨tD, rfl⟩) (nomark _)))))) (pss_one (ps_ret (pv 2))) pss_nil)
        (pss_cons (ps_expr (pe_bm PySem.F.plainAttrs_list PySem.F.slot_list_extend PySem.F.type_list_extend mt_extendT (pv 1) (pa_cons (pe_call GO (hr.mono (by decide)) (by rfl) gO FO.kp bO .nil pass0 (pa_cons (pv 3) pa_nil)) pa_nil)))
        (pss_one (ps_if (PW.pt (pw_or (pt_cmpR op_gt (pe_callB call_len (by rfl) M.len PySem.boot_len (pa_cons (pv 1) pa_nil)) (pe_glob (v := .int 12) (by rfl) mR ⟨tR, rfl⟩) (nomark _))
            (pw_or1 (pt_cmpR op_gt (pe_callB cr_lenTx (by rfl) M.len PySem.boot_len (pa_cons (pe_scT (own := [("rule", 4)]) (g := gName 4) (by rfl) scMF.nd (pi_list (pv 1)) (blkOk_by (own := [("rule", 4)]) (N := nMisfit) (sc := defScope sMisfit) (by decide +kernel))
              (fun _ _ _ _ _ => pg_name (i := 4) scMF.nd rfl (Or.inl rfl)) (fun _ _ _ _ _ => pts_nil) (fun _ _ _ _ _ => pe_prop (pv 4) T.R.cl pM_ GM (hr.mono (by decide)) bM .nil pass0 rfl)) pa_nil)) (pe_glob (v := .int 6) (by rfl) mM ⟨tM, rfl⟩) (nomark _))))) (pss_one (ps_ret (pv 2))) pss_nil)))))
      (pss_one (ps_ret pe_non))), ?_⟩
    refine ⟨Nat.zero_le _, fun l nl => ?_⟩
    have S0 : Same H (upd H l (.lst [])) := same_upd nl (Same.refl H)
    have e0 : upd H l (.lst []) l = some (.lst []) := upd_same
    generalize upd H l (.lst []) = H0 at *
    refine ⟨.ref t, rfl, t, _, rfl, same_tup S0 ht, ?_⟩
    refine for_it walk_enumT (fun i σ H' => Same H H' ∧ H' l = some (.lst ((rulesEs (es.take i)).map refR)) ∧ (∃ a b c, σ = [some (.ref t), some (.ref l), a, b, c]) ∧ (List.range i).find? (badI es) = none ∧ (rulesEs (es.take i)).length ≤ 12)
      ⟨S0, e0, ⟨none, none, none, rfl⟩, rfl, Nat.zero_le _⟩ (fun i σ H' _ q => same_tup q.1 ht) ?_ ?_
    · rintro i x σ H1 H2 hi ⟨S1, hl, ⟨a, b, c, rfl⟩, hnone, hfew⟩ ⟨T1, x1, y1, rfl, nT, rfl, ex1, ey1⟩
      cases ex1
      rw [List.length_map] at hi
      obtain ⟨e, he⟩ : ∃ e, es[i]? = some e := ⟨_, List.getElem?_eq_getElem hi⟩
      have ey2 : (es.map refE)[i]? = some y1 := ey1
      rw [List.getElem?_map, he] at ey2
      cases ey2
      have S2 : Same H1 (upd H1 T1 (.tup [.int (i : Nat), refE e])) := same_upd nT (Same.refl H1)
      have hT1 : upd H1 T1 (.tup [.int (i : Nat), refE e]) T1 = some (.tup [.int (i : Nat), refE e]) := upd_same
      generalize upd H1 T1 (.tup [.int (i : Nat), refE e]) = H2 at *
      have S12 := S1.trans S2
      have hen := ents_get (ents_same S12 es hes) he
      obtain ⟨bd, br⟩ := ent_bounds hen
      have st := rulesEs_step he
      obtain ⟨f1, f2⟩ := find_snoc he hnone
      refine ⟨T1, _, rfl, SqT.of hT1, rfl, ?_⟩
      refine ⟨_, _, rfl, _, _, rfl, rfl, ?_⟩
      refine ⟨_, rfl, _, _, rfl, rfl, _, rfl, ?_⟩
      have ret : ∀ G, Same H G → badAt es i e = true → Q (.int (i : Nat)) G := fun G SG hb => by
        have q := k G SG
        rw [f1 hb] at q
        exact q
      refine ite2 (fun h1 => ?_) (fun h1 => ?_)
      · refine ⟨_, rfl, ret _ S12 ?_⟩
        have q : (12 : Int) ≤ ((i : Nat) : Int) := of_decide_eq_true h1
        unfold badAt
        rw [decide_eq_true (show 12 ≤ i by omega)]
        rfl
      have n1 : decide (12 ≤ i) = false := decide_eq_false fun q => h1 (decide_eq_true (by omega))
      refine ⟨_, rfl, by show 2 ≤ sizeLine; decide, fun T2 nT2 => ?_⟩
      have S3 : Same H2 (upd H2 T2 (.tup [.ref CR, .ref CS])) := same_upd nT2 (Same.refl H2)
      have hT2 : upd H2 T2 (.tup [.ref CR, .ref CS]) T2 = some (.tup [.ref CR, .ref CS]) := upd_same
      generalize upd H2 T2 (.tup [.ref CR, .ref CS]) = H3 at *
      have S13 := S12.trans S3
      obtain ⟨tc, htc, hk⟩ := any_rule T sr (ent_same S3 _ hen)
      refine ⟨refE e, T2, _, tc, [.ref CR, .ref CS], true, rfl, hT2, .cons (.own CR) (.cons (.own CS) .nil), htc, hk, _, rfl, ?_⟩
      refine iteF ?_
      refine ⟨_, rfl, e, rfl, ent_same S3 _ hen, bd, fun H4 S4 => ?_⟩
      have S14 := S13.trans S4
      have h3 := ent_same S4 _ (ent_same S3 _ hen)
      refine ⟨_, _, rfl, rfl, _, rfl, ?_⟩
      refine ite2 (fun h2 => ?_) (fun h2 => ?_)
      · refine ⟨_, rfl, ret _ S14 ?_⟩
        have q : (3 : Int) ≤ ((depthE e : Nat) : Int) := of_decide_eq_true h2
        unfold badAt
        rw [n1, decide_eq_true (show 3 ≤ depthE e by omega)]
        rfl
      have n2 : decide (3 ≤ depthE e) = false := decide_eq_false fun q => h2 (decide_eq_true (by omega))
      have hl4 : H4 l = some (.lst ((rulesEs (es.take i)).map refR)) := S4 _ _ (S3 _ _ (S2 _ _ hl))
      refine ⟨_, rfl, .inl ⟨rfl, _, SqL.of hl4⟩, _, rfl, e, rfl, h3, fun q H5 S5 hq => ?_⟩
      have S15 := S14.trans S5
      have hs2 := sizeLine_eq
      refine ⟨l, q, _, _, rfl, rfl, S5 _ _ hl4, hq, by rw [List.length_map, List.length_map]; omega, ?_⟩
      rw [← List.map_append, ← st]
      have nl5 : H l = none := nl
      have S6 : Same H (upd H5 l (.lst ((rulesEs (es.take (i + 1))).map refR))) := same_upd nl5 S15
      have hl6 : upd H5 l (.lst ((rulesEs (es.take (i + 1))).map refR)) l = some (.lst ((rulesEs (es.take (i + 1))).map refR)) := upd_same
      generalize upd H5 l (.lst ((rulesEs (es.take (i + 1))).map refR)) = H6 at *
      have many : (rulesEs (es.take (i + 1))).length ≤ 24 := by
        rw [st, List.length_append]
        omega
      refine ⟨_, rfl, _, _, rfl, .inl ⟨_, SqL.of hl6, rfl⟩, _, _, rfl, rfl, _, rfl, ?_⟩
      refine ite2 (fun h4 => ?_) (fun h4 => ?_)
      · refine ⟨_, rfl, ret _ S6 ?_⟩
        have q : (12 : Int) < (((rulesEs (es.take (i + 1))).map refR).length : Int) := of_decide_eq_true h4
        rw [List.length_map] at q
        unfold badAt
        rw [n1, n2, decide_eq_true (show 12 < (rulesEs (es.take (i + 1))).length by omega)]
        rfl
      have n3 : decide (12 < (rulesEs (es.take (i + 1))).length) = false := decide_eq_false fun q => h4 (decide_eq_true (by rw [List.length_map]; omega))
      refine ⟨_, rfl, l, rfl, ⟨_, SqL.of hl6⟩, fun D nD => ?_⟩
      refine sc_it walk_list (fun j G => Same H6 G ∧ G D = some (TxO w D (distinct ((rulesEs (es.take (i + 1))).take j)))) ⟨same_upd nD (Same.refl H6), upd_same⟩ (fun j G _ z => z.1.seq (SqL.of hl6)) ?_ ?_
      · rintro j x G1 G2 hj ⟨SG, hD⟩ ⟨rfl, hx⟩
        rw [List.length_map] at hj
        obtain ⟨r, hr⟩ : ∃ r, (rulesEs (es.take (i + 1)))[j]? = some r := ⟨_, List.getElem?_eq_getElem hj⟩
        rw [List.getElem?_map, hr] at hx
        cases hx
        have hmem : r ∈ rulesEs es := by
          have q1 := List.mem_of_getElem? hr
          rw [← List.take_append_drop (i + 1) es, rulesEs_append]
          exact List.mem_append_left _ q1
        have ra := (rules_ats es (ents_same (S6.trans SG) es hes) r hmem)
        obtain ⟨dx, ad, hp, hd⟩ := id ra
        refine ⟨rfl, ?_⟩
        refine ⟨_, rfl, r.1, dx, _, rfl, hp, r.1, r.2.1, r.2.2, rfl, ra, r.2.1, _, rfl, hD, ?_, same_upd nD SG, ?_⟩
        · have q1 := distinct_len _ ((rulesEs (es.take (i + 1))).take j) rfl
          rw [List.length_take] at q1
          have q2 : scanBound = 4096 := rfl
          omega
        · have e9 : (rulesEs (es.take (i + 1))).take (j + 1) = (rulesEs (es.take (i + 1))).take j ++ [r] := by
            generalize rulesEs (es.take (i + 1)) = rs at hr
            rw [List.take_add_one, hr]
            rfl
          rw [upd_same, e9, distinct_snoc]
          rfl
      · rintro G1 ⟨SG, hD⟩
        rw [List.length_map, List.take_length] at hD
        refine ⟨D, _, rfl, hD, _, _, rfl, rfl, _, rfl, ?_⟩
        refine ite2 (fun h5 => ?_) (fun h5 => ?_)
        · refine ⟨_, rfl, ret _ (S6.trans SG) ?_⟩
          have q : (6 : Int) < ((distinct (rulesEs (es.take (i + 1)))).length : Int) := of_decide_eq_true h5
          unfold badAt
          rw [n1, n2, n3, decide_eq_true (show 6 < (distinct (rulesEs (es.take (i + 1)))).length by omega)]
          rfl
        · have n4 : decide (6 < (distinct (rulesEs (es.take (i + 1)))).length) = false := decide_eq_false fun q => h5 (decide_eq_true (by omega))
          refine ⟨S6.trans SG, SG _ _ hl6, ⟨_, _, _, rfl⟩, f2 ?_, Nat.le_of_not_lt (of_decide_eq_false n3)⟩
          unfold badAt
          rw [n1, n2, n3, n4]
          rfl
    · rintro σ H1 ⟨S1, hl, ⟨a, b, c, rfl⟩, hnone, hfew⟩
      have q := k H1 S1
      rw [List.length_map] at hnone
      have e : misfit es = none := hnone
      rw [e] at q
      exact q
end
end LS
namespace LS
open PySem L2 TxS
theorem cx_new {P : Program} {w : World} : CXNew (L2.CX P w) := fun outer s H h2 p rest E e s' kp hp hn z => StX.cxUp outer s H { s with heap := h2 } (upd H p (.tup rest)) E e s' (Un.laid kp hp hn) kp rfl z
/-! an own error with a number -/
def spXInitN (K : PySem.W.Frag) (f : Str) : Sp := fun vs H Q _ => ∃ (a C : Addr) (i : Nat), vs = [.ref a, .int (i : Nat)] ∧ i < 64 ∧
  OexC K C ∧ PySem.W.findIn K (.ref C) f = some none ∧ H a = some (exo a C none) ∧
  ∀ dx, H dx = none → dx ≠ a → Q .non (upd (upd H dx (exd dx [(f, .int (i : Nat))])) a (exo a C (some dx)))
abbrev sISInit : Stmt := inClass (top i_InvalidStack) 0
abbrev tIS : Str := "a stack cannot have the entry "
theorem small_text : ∀ i : Fin 64, ((i.val : Nat) : Int).natAbs.log2 < 1920 ∧ (Str.empty ++ tIS ++ (toString ((i.val : Nat) : Int) : Str)).length ≤ 1000 := by decide +kernel
theorem misfit_le {es : List Ent} {i : Nat} (h : misfit es = some i) : i ≤ 12 := by
  unfold misfit at h
  have hm := List.mem_of_find?_eq_some h
  rw [List.mem_range] at hm
  refine Nat.le_of_not_lt fun q => ?_
  have h12 : 12 < es.length := Nat.lt_trans q hm
  have b12 : badI es 12 = true := by
    rw [bad_some (List.getElem?_eq_getElem h12)]
    rfl
  obtain ⟨_, as, bs, e1, e2⟩ := List.find?_eq_some_iff_append.mp h
  have mem : 12 ∈ as := by
    have r1 : (List.range es.length)[12]? = some 12 := by rw [List.getElem?_range h12]
    have la : as.length = i := by
      have r2 : (List.range es.length)[as.length]? = some i := by rw [e1]; simp
      have r3 := (List.getElem?_eq_some_iff.mp r2)
      obtain ⟨q1, q2⟩ := r3
      rw [List.getElem_range] at q2
      exact q2
    rw [e1, List.getElem?_append_left (by omega)] at r1
    exact List.mem_of_getElem? r1
  have z := e2 12 mem
  rw [b12] at z
  cases z
section
variable {P : Program} {w : World} {K : PySem.W.Frag} {mg : Str → Option Value} {base : Heap}
theorem scIS : FnScope ["self", "index"] ["self", "index"] (defScope sISInit) := ⟨rfl, rfl, rfl, by decide +kernel, rfl, by decide +kernel, by decide +kernel⟩
theorem ok_isinit {f C0 : Addr} {fd : FuncData} (F : Fun K "__init__" "InvalidStack.__init__" sISInit f fd) (B : BaseX K mg C0) : FnOk P w K mg base CX0 1 f fd ["self", "index"] (spXInitN K "index") := by
  obtain ⟨mc, rd, vV⟩ := B.rd
  refine F.ok scIS (fun vs H Q E h => ?_) (fun cdv A outer s H vs Q E hr h => ?_)
  · obtain ⟨a, C, v, rfl, _⟩ := h
    rfl
  · obtain ⟨a, C, i, rfl, hi, T, hno, ha, k⟩ := h
    obtain ⟨b1, b2⟩ := small_text ⟨i, hi⟩
    refine ⟨_, pss_cons (ps_expr (pe_seinit (by rfl) B.g rd vV (pa_cons (pv 0) (pa_cons (pe_joined (PJ.cons pe_str (PJ.cons (pe_fmt (pv 1)) PJ.nil))) pa_nil)))) (pss_one (ps_ost (pv 0) (pv 1))), ?_⟩
    have hs2 := sizeLine_eq
    refine ⟨_, rfl, _, rfl, by decide, _, rfl, .inr ⟨((i : Nat) : Int), rfl, b1, _, rfl, by exact Nat.le_trans b2 (by omega), a, C, _, rfl, by show 1 ≤ 1000; decide, T, ha, ?_⟩⟩
    exact ⟨_, rfl, _, rfl, a, C, rfl, T, hno, .inl ⟨ha, k⟩⟩
theorem mkXN_run {C : Addr} {f : Str} {i : Nat} {H : Hp} {Q : XK} (hi : i < 64) (T : OexC K C) (hno : PySem.W.findIn K (.ref C) f = some none)
    (k : ∀ d, H d = none → Q (.ref C) (some d) (upd H d (.xd [(f, .int (i : Nat))]))) {σ : St} {ta : TA} (h : ∀ G : List V → Hp → Prop, G [.int (i : Nat)] H → ta σ H G) : tMkO C (spXInitN K f) [] ta σ H Q := by
  refine h _ ⟨by show 1 ≤ 1000; decide, fun a ha => ⟨a, C, i, rfl, hi, T, hno, upd_same, fun dx hdx hne => ⟨rfl, dx, [(f, .int (i : Nat))], upd_same, ?_, ?_, ?_⟩⟩⟩
  · rw [upd_ne hne, upd_same]
  · rw [upd_ne hne] at hdx
    exact hdx
  · have e := raise_heap (fs := [(f, V.int (i : Nat))]) (C := C) ha hdx
    rw [e]
    rw [upd_ne hne] at hdx
    exact k dx hdx
end
/-! comprehensions of two clauses -/
theorem in_it {J : It} {n : Nat} {G : Hp → Prop} {Y : Nat → Hp → V → Hp → Prop} (w : Walk J n G Y) {g : TG} {te : TE} {vs : List Nat} {σ : St} {H1 : Hp} {D : Addr} {Nx : Hp → Prop} (Pv : Nat → Hp → Prop) (h0 : Pv 0 H1) (hG : ∀ i H, i ≤ n → Pv i H → G H)
    (hs : ∀ i x H H', i < n → Pv i H → Y i H x H' → g x (wipe σ vs) H' fun σ2 H2 => wipe σ2 vs = wipe σ vs ∧ te σ2 H2 fun y H4 => ∃ acc, H4 D = some (.lst acc) ∧ acc.length < sizeLine ∧ Pv (i + 1) (upd H4 D (.lst (acc ++ [y])))) (hd : ∀ H, Pv n H → Nx H) :
    ∃ W : Nat → Nat → Hp → Prop, (∃ m, W 0 m H1) ∧ ∀ i m H, W i m H → (J.stop i H ∧ Nx H) ∨ (J.go i H ∧ ∃ N1 : Hp → Prop, (∀ H', N1 H' → ∃ m', m' < m ∧ W (i + 1) m' H') ∧ ∀ x H', J.yld i H x H' → g x (wipe σ vs) H' fun σ2 H2 => wipe σ2 vs = wipe σ vs ∧
      tYes σ2 H2 fun b H3 => if b = true then te σ2 H3 fun y H4 => ∃ acc, H4 D = some (.lst acc) ∧ acc.length < sizeLine ∧ N1 (upd H4 D (.lst (acc ++ [y]))) else N1 H3) := by
  refine ⟨fun i m H => m = n - i ∧ i ≤ n ∧ Pv i H, ⟨n, (Nat.sub_zero n).symm, Nat.zero_le n, h0⟩, fun i m H ⟨em, hi, p⟩ => ?_⟩
  have stands := hG i H hi p
  rcases Nat.lt_or_ge i n with lt | ge
  · exact .inr ⟨w.goes i H lt stands, Pv (i + 1), fun H' p' => ⟨n - (i + 1), by omega, rfl, lt, p'⟩, fun x H' y => hs i x H H' lt p (w.yields i H x H' lt stands y)⟩
  · obtain rfl : i = n := Nat.le_antisymm hi ge
    exact .inl ⟨w.stops H stands, hd H p⟩
end LS
namespace LS
open PySem L2 TxS
theorem out_it {J : It} {n : Nat} {G : Hp → Prop} {Y : Nat → Hp → V → Hp → Prop} (w : Walk J n G Y) {g : TG} {vs : List Nat} {σ : St} {H1 : Hp} {D : Addr} {Qd : Hp → Prop} {Body : St → Hp → (Hp → Prop) → Prop} (Pv : Nat → Hp → Prop) (h0 : Pv 0 (upd H1 D (.lst []))) (hG : ∀ i H, i ≤ n → Pv i H → G H)
    (hs : ∀ i x H H', i < n → Pv i H → Y i H x H' → g x (wipe σ vs) H' fun σ2 H2 => wipe σ2 vs = wipe σ vs ∧ Body σ2 H2 (Pv (i + 1))) (hd : ∀ H, Pv n H → Qd H) :
    ∃ W : Nat → Nat → Hp → Prop, (∃ m, W 0 m (upd H1 D (.lst []))) ∧ ∀ i m H, W i m H → (J.stop i H ∧ Qd H) ∨ (J.go i H ∧ ∃ Nx : Hp → Prop, (∀ H', Nx H' → ∃ m', m' < m ∧ W (i + 1) m' H') ∧ ∀ x H', J.yld i H x H' → g x (wipe σ vs) H' fun σ2 H2 => wipe σ2 vs = wipe σ vs ∧
      tYes σ2 H2 fun b H3 => if b = true then Body σ2 H3 Nx else Nx H3) := by
  refine ⟨fun i m H => m = n - i ∧ i ≤ n ∧ Pv i H, ⟨n, (Nat.sub_zero n).symm, Nat.zero_le n, h0⟩, fun i m H ⟨em, hi, p⟩ => ?_⟩
  have stands := hG i H hi p
  rcases Nat.lt_or_ge i n with lt | ge
  · exact .inr ⟨w.goes i H lt stands, Pv (i + 1), fun H' p' => ⟨n - (i + 1), by omega, rfl, lt, p'⟩, fun x H' y => hs i x H H' lt p (w.yields i H x H' lt stands y)⟩
  · obtain rfl : i = n := Nat.le_antisymm hi ge
    exact .inl ⟨w.stops H stands, hd H p⟩
theorem addT_mem {l : List Str} {x y : Str} : x ∈ addT l y ↔ x ∈ l ∨ x = y := by
  unfold addT
  split
  · rename_i h
    exact ⟨.inl, fun z => z.elim id fun e => e ▸ h⟩
  · rw [List.mem_append, List.mem_singleton]
theorem addT_nodup {l : List Str} {y : Str} (h : l.Nodup) : (addT l y).Nodup := by
  unfold addT
  split
  · exact h
  · rename_i hn
    refine List.nodup_append.mpr ⟨h, by simp, fun u hu v hv q => ?_⟩
    rw [List.mem_singleton.mp hv] at q
    exact hn (q ▸ hu)
theorem distinct_is : ∀ n (rs : List RuleI), rs.length = n → (distinct rs).Nodup ∧ ∀ x, x ∈ distinct rs ↔ x ∈ rs.map fun r => r.2.1
  | 0, rs, h => by
    have e : rs = [] := List.length_eq_zero_iff.mp h
    rw [e]
    exact ⟨.nil, fun x => Iff.rfl⟩
  | n + 1, rs, h => by
    have hne : rs ≠ [] := fun z => by rw [z] at h; cases h
    obtain ⟨q1, q2⟩ := distinct_is n rs.dropLast (by rw [List.length_dropLast, h]; rfl)
    have e := (List.dropLast_concat_getLast hne).symm
    generalize rs.getLast hne = r at e
    rw [e, distinct_snoc]
    refine ⟨addT_nodup q1, fun x => ?_⟩
    rw [addT_mem, q2 x, List.map_append, List.mem_append]
    exact or_congr_right List.mem_singleton.symm
theorem mods_of {ys : List Str} {rs : List RuleI} (h : ys.Perm (distinct rs)) (hs : PyProof.Rows.sortedS ys = true) : ModsOf ys rs := by
  obtain ⟨q1, q2⟩ := distinct_is _ rs rfl
  exact ⟨h.nodup_iff.mpr q1, hs, fun x => by rw [h.mem_iff, q2 x]⟩
/-- nothing is amiss: they may be a stack's entries -/
theorem legal_of {es : List Ent} (h : misfit es = none) : Legal es := by
  have all : ∀ i e, es[i]? = some e → badAt es i e = false := fun i e he => by
    have hi := (List.getElem?_eq_some_iff.mp he).1
    have q := List.find?_eq_none.mp h i (List.mem_range.mpr hi)
    rw [bad_some he] at q
    cases z : badAt es i e with
    | false => rfl
    | true => exact (q z).elim
  have parts : ∀ i e, es[i]? = some e → i < 12 ∧ depthE e < 3 ∧ (rulesEs (es.take (i + 1))).length ≤ 12 := fun i e he => by
    have q := all i e he
    unfold badAt at q
    simp only [Bool.or_eq_false_iff, decide_eq_false_iff_not] at q
    obtain ⟨⟨q1, q2⟩, q3, q4⟩ := q
    omega
  have deep : ∀ l : List Ent, (∀ e ∈ l, depthE e < 3) → depthEs l ≤ 2 := fun l => by
    induction l with
    | nil => intro _; exact Nat.zero_le _
    | cons e l ih =>
      intro hl
      have q1 := hl e List.mem_cons_self
      have q2 := ih fun x hx => hl x (List.mem_cons_of_mem _ hx)
      show max (depthE e) (depthEs l) ≤ 2
      omega
  refine ⟨?_, ?_, deep es fun e he => ?_⟩
  · refine Nat.le_of_not_lt fun q => ?_
    have := (parts 12 _ (List.getElem?_eq_getElem q)).1
    omega
  · cases hl : es.length with
    | zero =>
      rw [List.length_eq_zero_iff.mp hl]
      exact Nat.zero_le _
    | succ n =>
      have hn : n < es.length := by omega
      have q := (parts n _ (List.getElem?_eq_getElem hn)).2.2
      rw [← hl, List.take_length] at q
      exact q
  · obtain ⟨i, hi⟩ := List.getElem?_of_mem he
    exact (parts i e hi).2.1
end LS
namespace LS
open PySem L2 TxS
abbrev sSInit : Stmt := inClass (top i_Stack) 0
theorem bind_sinit (kV doc pm cdv ct : Value) (an : Option Addr) (u : Value) : ∀ (rest : List Value), bindArgs (PySem.W.fnOf "__init__" "Stack.__init__" (defArgs sSInit) (defBody sSInit) (defScope sSInit) .none kV doc pm an cdv ct) ⟨u :: rest, []⟩ = (newTuple rest >>= fun t => pure [(("self" : Str), u), (("entries" : Str), t)])
  | [] => rfl
  | r :: rs => rfl
theorem bar_but {C p dx : Addr} {H H' : Hp} {a : Addr} {xs : List V} (hp : H p = some (.ins C dx [])) (S : SameBut p H H') (h : BarT H a xs) : BarT H' a xs := by
  obtain ⟨o, n, h⟩ := h
  exact ⟨o, n, S _ _ (fun z => by rw [z, hp] at h; cases h) h⟩
mutual
theorem ent_but {K : PySem.W.Frag} {CR CS C p dx : Addr} {H H' : Hp} (hp : H p = some (.ins C dx [])) (S : SameBut p H H') : ∀ e : Ent, EntAt K CR CS H e → EntAt K CR CS H' e
  | .rule q z ds, h => by
    obtain ⟨⟨d1, a, hq, hd⟩, hs⟩ := h
    have ne : q ≠ p := fun z => by rw [z, hp] at hq; cases hq
    exact ⟨⟨d1, a, S _ _ ne hq, same_but hp S _ _ hd⟩, hs⟩
  | .stk q es, ⟨⟨d1, e, r, m, ms, h1, h2, h3, h4, h5⟩, h6⟩ => by
    have ne : q ≠ p := fun z => by rw [z, hp] at h1; cases h1
    exact ⟨⟨d1, e, r, m, ms, S _ _ ne h1, but_tup hp S h2, but_tup hp S h3, bar_but hp S h4, h5⟩, ents_but hp S es h6⟩
theorem ents_but {K : PySem.W.Frag} {CR CS C p dx : Addr} {H H' : Hp} (hp : H p = some (.ins C dx [])) (S : SameBut p H H') : ∀ es : List Ent, EntsAt K CR CS H es → EntsAt K CR CS H' es
  | [], _ => True.intro
  | e :: es, ⟨h1, h2⟩ => ⟨ent_but hp S e h1, ents_but hp S es h2⟩
end
theorem tup_lst {K : PySem.W.Frag} {H : Hp} {q B : Addr} {xs l l' : List V} (hB : H B = some (.lst l)) (h : SqT K H q xs) : SqT K (upd H B (.lst l')) q xs := by
  have ne : ∀ {o : HO}, H q = some o → (∀ l, o ≠ .lst l) → q ≠ B := fun {o} e n z => by
    rw [z, hB] at e
    exact n _ (Option.some.inj e).symm
  rcases h with (h | ⟨o, h⟩) | h
  · exact .inl (.inl (by rw [upd_ne (ne h fun _ z => nomatch z)]; exact h))
  · exact .inl (.inr ⟨o, by rw [upd_ne (ne h fun _ z => nomatch z)]; exact h⟩)
  · exact .inr h
theorem stack_put (e r m : V) : putF "_modules" m (putF "_rules" r (putF "_entries" e [])) = ([("_entries", e), ("_rules", r), ("_modules", m)] : List (Str × V)) := by
  show (if ("_entries" : Str) = "_modules" then _ else _) = _
  rw [if_neg (by decide +kernel)]
  show _ :: (if ("_rules" : Str) = "_modules" then _ else _) = _
  rw [if_neg (by decide +kernel)]
  rfl
theorem stack_put2 (e r : V) : putF "_rules" r (putF "_entries" e []) = ([("_entries", e), ("_rules", r)] : List (Str × V)) := by
  show (if ("_entries" : Str) = "_rules" then _ else _) = _
  rw [if_neg (by decide +kernel)]
  rfl
end LS
namespace LS
open PySem L2 TxS
abbrev nSInit : List Str := ["self", "entries", "misfit", "entry", "rule"]
/-- Stack.__init__ over the tuple of its entries -/
def spSInit (K : PySem.W.Frag) (CR CS CI : Addr) : Sp := fun vs H Q E => ∃ (p dx t : Addr) (es : List Ent), vs = [.ref p, .ref t] ∧ H p = some (.ins CS dx []) ∧ SqT K H t (es.map refE) ∧ EntsAt K CR CS H es ∧
  (∀ i, misfit es = some i → ∀ d H', Same H H' → H d = none → H' d = some (.xd [("index", .int (i : Nat))]) → E (.ref CI) (some d) H') ∧
  (misfit es = none → ∀ H', SameBut p H H' → EntAt K CR CS H' (.stk p es) → Q .non H')
section
variable {P : Program} {w : World} {K : PySem.W.Frag} {mg : Str → Option Value} {base : Heap} {CR CS : Addr}
theorem scSI : FnScope nSInit ["self", "entries"] (defScope sSInit) := ⟨rfl, rfl, rfl, by decide +kernel, rfl, by decide +kernel, by decide +kernel⟩
theorem ok_sinit {f fX fI fO fM pM CI C0 : Addr} {fd fdX fdI fdO fdM fdR : FuncData} {fR pR : Addr} (F : Fun K "__init__" "Stack.__init__" sSInit f fd) (T : StackK K mg CR CS) (GX : FnOk P w K mg base CX0 7 fX fdX ["entries"] (spMisfit K CR CS)) (gX : mg "first_misfit" = some (.ref fX)) (kX : PySem.W.keepIn K (.ref fX) = true) (bX : Binds K fdX ["entries"] [])
    (XI : ExK K mg "InvalidStack" CI) (nI : PySem.W.findIn K (.ref CI) "index" = some none) (B : BaseX K mg C0) (FI : Fun K "__init__" "InvalidStack.__init__" sISInit fI fdI) (bI : Binds K fdI ["self", "index"] []) (iC : PySem.W.findIn K (.ref CI) "__init__" = some (some (.ref fI))) (tI : PySem.W.typeIn K (.ref fI) = some (.type "function"))
    (FO : Fun K "rules_of" "rules_of" sRulesOf fO fdO) (gO : mg "rules_of" = some (.ref fO)) (bO : Binds K fdO ["entry"] []) (FR : Fun K "rules" "Stack.rules" sSRules fR fdR) (bR : Binds K fdR ["self"] []) (pR_ : PropOf K CS "rules" pR fR)
    (FM : Fun K "module" "Rule.module" sRMod fM fdM) (bM : Binds K fdM ["self"] []) (pM_ : PropOf K CR "module" pM fM) (mT : mg "tuple" = none) (mS : mg "sorted" = none) :
    FnR P w K mg base (L2.CX P w) 8 f (fun vs H Q E => ∃ v rest, vs = v :: rest ∧ rest.length ≤ 1000 ∧ ∀ p, H p = none → spSInit K CR CS CI [v, .ref p] (upd H p (.tup rest)) Q E) := by
  have GO : FnOk P w K mg base CX0 3 fO fdO ["entry"] (spRulesOf K CR CS) := ok_rulesof FO T FR bR pR_
  have GM : FnOk P w K mg base CX0 1 fM fdM ["self"] (spMod K CR) := ok_mod FM T.R
  have GI : FnOk P w K mg base CX0 1 fI fdI ["self", "index"] (spXInitN K "index") := ok_isinit FI B
  obtain ⟨oc, od, kV, doc, pm, an, cdv, ct, osl, rfl, lk, hcd⟩ := F.ex
  have hs2 := sizeLine_eq
  refine fn_ofV lk hcd scSI (nmax := 1000) (by omega) (fun u rest _ => bind_sinit kV doc pm cdv ct an u rest) cx_new fun A outer s H vs Q E hr h => ?_
  obtain ⟨p, dx, t, es, rfl, hp, ht, hes, e1, k⟩ := h
  refine ⟨_, pss_cons (ps_set (i := 2) scSI.nd rfl (.inl rfl) (pe_call GX hr (by rfl) gX kX bX .nil pass0 (pa_cons (pv 1) pa_nil)))
    (pss_cons (ps_if (pt_cmpR op_notN (pv 2) pe_non (nomark _))
        (pss_one (ps_raise rfl (takes_of rfl rfl rfl rfl) (pmk_oex XI.oex iC tI GI (hr.mono (by decide)) bI .nil pass0 (by rfl) XI.g (pa_cons (pv 2) pa_nil)))) pss_nil)
    (pss_cons (ps_fld (pv 0) (pv 1) rfl)
    (pss_cons (ps_fld (pv 0) (pe_callTy call_tuple_of (by rfl) mT (by decide +kernel) (pa_cons (pe_lc2 (wi1 := iTup K (tCall (spRulesOf K CR CS) [] E0 (tCons (tVar 3) tNil))) (own := [("entry", 3), ("rule", 4)]) (vs1 := [4]) (g := gName 3) (g1 := gName 4) (by rfl) scSI.nd (pi_tup (pv 1)) (blkOk_by (own := [("entry", 3), ("rule", 4)]) (N := nSInit) (sc := defScope sSInit) (by decide +kernel)) (by decide)
        (fun _ _ _ _ _ => pg_name (i := 3) scSI.nd rfl (Or.inl rfl)) (fun _ _ _ _ _ => pts_nil) (fun _ _ _ _ _ => pi_tup (pe_call GO (hr.mono (by decide)) (by rfl) gO FO.kp bO .nil pass0 (pa_cons (pv 3) pa_nil))) (fun _ _ _ _ _ => pg_name (i := 4) scSI.nd rfl (Or.inl rfl)) (fun _ _ _ _ _ => pts_nil) (fun _ _ _ _ _ => pv 4)) pa_nil)) rfl)
    (pss_one (ps_fld (pv 0) (pe_callTy call_tuple_bare (by rfl) mT (by decide +kernel) (pa_cons (pe_callB (cr_sortedTx (by rfl)) (by rfl) mS (by decide +kernel) (pa_cons (pe_scT (own := [("rule", 4)]) (g := gName 4) (by rfl) scSI.nd (pi_tup (pe_fld (pv 0) rfl)) (blkOk_by (own := [("rule", 4)]) (N := nSInit) (sc := defScope sSInit) (by decide +kernel))
        (fun _ _ _ _ _ => pg_name (i := 4) scSI.nd rfl (Or.inl rfl)) (fun _ _ _ _ _ => pts_nil) (fun _ _ _ _ _ => pe_prop (pv 4) T.R.cl pM_ GM (hr.mono (by decide)) bM .nil pass0 rfl)) pa_nil)) pa_nil)) rfl))))), ?_⟩
  refine ⟨_, rfl, t, es, rfl, ht, hes, fun H1 S1 => ?_⟩
  refine ⟨_, rfl, rfl, _, rfl, ?_⟩
  cases hm : misfit es with
  | some i =>
    have hi := misfit_le hm
    refine iteT ?_
    refine mkXN_run (by omega) XI.oex nI (fun d hd => ?_) (fun G g => ⟨_, rfl, g⟩)
    exact e1 i hm d _ (same_upd (S1.free hd) S1) (S1.free hd) upd_same
  | none =>
    refine iteF ?_
    have leg := legal_of hm
    have hp1 := S1 _ _ hp
    refine ⟨_, rfl, _, rfl, p, CS, dx, _, rfl, hp1, T.cl, T.nE, (by show 0 < 1000; decide), ?_⟩
    -- the fields, one by one
    have B1 : SameBut p H (upd H1 p (.ins CS dx (putF "_entries" (.ref t) []))) := fun b o hb e => by rw [upd_ne hb]; exact S1 _ _ e
    have hA : upd H1 p (.ins CS dx (putF "_entries" (.ref t) [])) p = some (.ins CS dx (putF "_entries" (.ref t) [])) := upd_same
    generalize upd H1 p (.ins CS dx (putF "_entries" (.ref t) [])) = HA at *
    have htA : SqT K HA t (es.map refE) := but_tup hp B1 ht
    have heA : EntsAt K CR CS HA es := ents_but hp B1 es hes
    refine ⟨_, rfl, t, rfl, ⟨_, htA⟩, fun Bx nB => ?_⟩
    refine out_it walk_tup (fun i G => Same HA G ∧ G Bx = some (.lst ((rulesEs (es.take i)).map refR))) ⟨same_upd nB (Same.refl HA), upd_same⟩ (fun i G _ q => same_tup q.1 htA) ?_ ?_
    · rintro i x G1 G2 hi ⟨SG, hB⟩ ⟨rfl, hx⟩
      rw [List.length_map] at hi
      obtain ⟨e, he⟩ : ∃ e, es[i]? = some e := ⟨_, List.getElem?_eq_getElem hi⟩
      rw [List.getElem?_map, he] at hx
      cases hx
      have st := rulesEs_step he
      have hen := ents_get (ents_same SG es heA) he
      have few := (ent_bounds hen).2
      have fewA : (rulesEs (es.take i)).length ≤ 12 := by
        have q := leg.rules
        rw [← List.take_append_drop i es, rulesEs_append, List.length_append] at q
        omega
      refine ⟨rfl, _, rfl, e, rfl, hen, fun q G3 S3 hq => ?_⟩
      refine ⟨q, rfl, ⟨_, hq⟩, ?_⟩
      refine in_it walk_tup (fun j G => Same HA G ∧ SqT K G q ((rulesE e).map refR) ∧ G Bx = some (.lst ((rulesEs (es.take i) ++ (rulesE e).take j).map refR))) ⟨SG.trans S3, hq, by rw [List.take_zero, List.append_nil]; exact S3 _ _ hB⟩ (fun j G _ z => z.2.1) ?_ ?_
      · rintro j x G4 G5 hj ⟨S4, hq4, hB4⟩ ⟨rfl, hx⟩
        rw [List.length_map] at hj
        obtain ⟨r, hr⟩ : ∃ r, (rulesE e)[j]? = some r := ⟨_, List.getElem?_eq_getElem hj⟩
        rw [List.getElem?_map, hr] at hx
        cases hx
        refine ⟨rfl, _, rfl, _, hB4, ?_, same_upd nB S4, tup_lst hB4 hq4, ?_⟩
        · rw [List.length_map, List.length_append, List.length_take]
          omega
        · rw [upd_same, List.take_add_one, hr, ← List.append_assoc]
          generalize rulesEs (es.take i) ++ (rulesE e).take j = L
          show _ = some (HO.lst ((L ++ [r]).map refR))
          rw [List.map_append]
          rfl
      · rintro G4 ⟨S4, hq4, hB4⟩
        rw [List.length_map, List.take_length, ← st] at hB4
        exact ⟨S4, hB4⟩
    rintro G1 ⟨SG, hB⟩
    rw [List.length_map, List.take_length] at hB
    refine ⟨Bx, _, rfl, .inl ⟨SqL.of hB, fun r nr => ?_⟩⟩
    have S5 : Same HA (upd G1 r (.tup ((rulesEs es).map refR))) := same_upd (SG.free nr) SG
    have hr5 : upd G1 r (.tup ((rulesEs es).map refR)) r = some (.tup ((rulesEs es).map refR)) := upd_same
    generalize upd G1 r (.tup ((rulesEs es).map refR)) = H5 at *
    have hp5 := S5 _ _ hA
    refine ⟨_, rfl, p, CS, dx, _, rfl, hp5, T.cl, T.nR, (by show 1 < 1000; decide), ?_⟩
    have B5 : SameBut p H (upd H5 p (.ins CS dx (putF "_rules" (.ref r) (putF "_entries" (.ref t) [])))) := fun b o hb e => by rw [upd_ne hb]; exact S5 _ _ (B1 b o hb e)
    have rp : r ≠ p := fun z => by rw [z, hp5] at hr5; cases hr5
    have h6p : upd H5 p (.ins CS dx (putF "_rules" (.ref r) (putF "_entries" (.ref t) []))) p = some (.ins CS dx [("_entries", .ref t), ("_rules", .ref r)]) := by rw [upd_same, stack_put2]
    have h6r : upd H5 p (.ins CS dx (putF "_rules" (.ref r) (putF "_entries" (.ref t) []))) r = some (.tup ((rulesEs es).map refR)) := by rw [upd_ne rp]; exact hr5
    have e6 := stack_put2 (.ref t) (.ref r)
    generalize upd H5 p (.ins CS dx (putF "_rules" (.ref r) (putF "_entries" (.ref t) []))) = H6 at *
    have he6 : EntsAt K CR CS H6 es := ents_but hp B5 es hes
    have lr : ([(("_entries" : Str), V.ref t), (("_rules" : Str), V.ref r)] : List (Str × V)).lookup ("_rules" : Str) = some (.ref r) := by
      have h1 : (("_rules" : Str) == ("_entries" : Str)) = false := by decide +kernel
      simp [List.lookup, h1]
    refine ⟨_, rfl, p, CS, dx, _, _, rfl, h6p, T.cl, T.nR, lr, ?_⟩
    refine ⟨r, rfl, ⟨_, SqT.of h6r⟩, fun D nD => ?_⟩
    refine sc_it walk_tup (fun j G => Same H6 G ∧ G D = some (TxO w D (distinct ((rulesEs es).take j)))) ⟨same_upd nD (Same.refl H6), upd_same⟩ (fun j G _ z => same_tup z.1 (SqT.of h6r)) ?_ ?_
    · rintro j x G1 G2 hj ⟨SG, hD⟩ ⟨rfl, hx⟩
      rw [List.length_map] at hj
      obtain ⟨ri, hri⟩ : ∃ ri, (rulesEs es)[j]? = some ri := ⟨_, List.getElem?_eq_getElem hj⟩
      rw [List.getElem?_map, hri] at hx
      cases hx
      have ra := rules_ats es (ents_same SG es he6) ri (List.mem_of_getElem? hri)
      obtain ⟨d1, ad, hpr, hd⟩ := id ra
      refine ⟨rfl, ?_⟩
      refine ⟨_, rfl, ri.1, d1, _, rfl, hpr, ri.1, ri.2.1, ri.2.2, rfl, ra, ri.2.1, _, rfl, hD, ?_, same_upd nD SG, ?_⟩
      · have q1 := distinct_len _ ((rulesEs es).take j) rfl
        rw [List.length_take] at q1
        have q2 : scanBound = 4096 := rfl
        have q3 := leg.rules
        omega
      · rw [upd_same, List.take_add_one, hri]
        show _ = some (TxO w D (distinct ((rulesEs es).take j ++ [ri])))
        rw [distinct_snoc]
        rfl
    rintro G1 ⟨SG, hD⟩
    rw [List.length_map, List.take_length] at hD
    refine ⟨D, _, rfl, hD, ?_, fun ys q perm srt nq => ?_⟩
    · have q1 := distinct_len _ (rulesEs es) rfl
      have q3 := leg.rules
      omega
    have S7 : Same H6 (upd G1 q (.lst (ys.map V.str))) := same_upd (SG.free nq) SG
    have hq7 : upd G1 q (.lst (ys.map V.str)) q = some (.lst (ys.map V.str)) := upd_same
    generalize upd G1 q (.lst (ys.map V.str)) = H7 at *
    refine ⟨q, _, rfl, SqL.of hq7, fun m om dm nm => ?_⟩
    have S8 : Same H6 (upd H7 m (.frz om (.tup (ys.map V.str)))) := same_upd (S7.free nm) S7
    have hm8 : upd H7 m (.frz om (.tup (ys.map V.str))) m = some (.frz om (.tup (ys.map V.str))) := upd_same
    generalize upd H7 m (.frz om (.tup (ys.map V.str))) = H8 at *
    have hp8 := S8 _ _ h6p
    refine ⟨_, rfl, p, CS, dx, _, rfl, hp8, T.cl, T.nM, (by show 2 < 1000; decide), ?_⟩
    have mp : m ≠ p := fun z => by rw [z, hp8] at hm8; cases hm8
    have B9 : SameBut p H (upd H8 p (.ins CS dx (putF "_modules" (.ref m) [("_entries", .ref t), ("_rules", .ref r)]))) := fun b o hb e => by rw [upd_ne hb]; exact S8 _ _ (B5 b o hb e)
    refine k hm _ B9 ⟨⟨dx, t, r, m, ys, ?_, but_tup hp B9 ht, ?_, ?_, mods_of perm srt, leg⟩, ents_but hp B9 es hes⟩
    · rw [upd_same]
      have z := stack_put (.ref t) (.ref r) (.ref m)
      rw [e6] at z
      rw [z]
      rfl
    · exact SqT.of (by rw [upd_ne rp]; exact S8 _ _ h6r)
    · exact ⟨om, dm, by rw [upd_ne mp]; exact hm8⟩
end
end LS
set_option maxHeartbeats 4000000
namespace LS
open PySem L2
/-! len(o), o[i], a + b by own methods -/
section
variable {X : Cx} {CX : CXT} {n : Nat} {C f : Addr} {fd : FuncData} {ps : List Str} {sp : Sp} {E : XK}
/-- an own method called by the machine, one level in -/
theorem call_in1 {pins : List (Addr × Obj)} {σ : St} {H : Hp} {s : Shared} {Q : VK} {us : List Value} {vs : List V} (F : FnOk X.prog X.w X.K X.mg X.base CX0 n f fd ps sp) (hr : Room (n + 1) X.A) (hb : Binds X.K fd ps []) (I : Inv X pins σ H s) (r : Vals vs us) (h : sp vs H Q E0) :
    wpAny (model X.prog X.w) X.A.in1 (call (.ref f) us) (EP X pins σ Q) X.xe s := by
  have hl : us.length = ps.length := by rw [← r.length]; exact F.len _ _ _ _ h
  refine wpAny_call (codeAny_mono (F.run X.A.in1 X.stack s H ⟨us, []⟩ us vs Q E0 hr.in1 I.env0.in1 (by
    have q := hb s us I.kIn (by simpa using hl)
    simpa using q) r h) fun r s' hq => ?_)
  cases r with
  | error e => exact (show False from hq).elim
  | ok fl =>
    cases fl with
    | ret w =>
      obtain ⟨z, H', I', rz, q⟩ := I.after hq
      exact ⟨z, H', I', rz, q⟩
    | next => exact False.elim hq
    | brk => exact False.elim hq
    | cont => exact False.elim hq
def rLenI (C : Addr) (sp : Sp) : List V → Hp → VK → Prop := fun vs H Q => ∃ a dx fs, vs = [.ref a] ∧ H a = some (.ins C dx fs) ∧ sp [.ref a] H (fun v H' => ∃ k : Nat, v = .int (k : Nat) ∧ k ≤ sizeLine ∧ Q v H') E0
theorem cr_lenI (F : FnOk X.prog X.w X.K X.mg X.base CX0 n f fd ps sp) (hr : Room (n + 1) X.A) (hs : PySem.W.findIn X.K (.ref C) "__len__" = some (some (.ref f))) (hf : PySem.W.isFn X.K (.ref f) = true) (hb : Binds X.K fd ps []) : CallR X (.builtin "len") (rLenI C sp) := by
  intro pins s σ H vs us Q I r h
  obtain ⟨a, dx, fs, rfl, ha, hsp⟩ := h
  rw [Vals.ref1 r]
  obtain ⟨mA, J, _⟩ := ins_get I.hok ha
  obtain ⟨od, J, _⟩ := J.look
  obtain ⟨m, hF⟩ := I.fr
  refine PySem.W.len_K hF I.ok.mod.kin J hs hf (wpAny_mono (call_in1 (us := [.ref a]) (vs := [.ref a]) F hr hb I (.cons rfl .nil) hsp) (fun v s' z => ?_) fun _ _ e => e)
  obtain ⟨r1, H', I', rv, k, er, hk, q⟩ := z
  subst er
  obtain ⟨tk, rfl⟩ := rv
  have hl := line63
  exact ⟨by omega, .int (k : Nat), H', I'.tok _, ⟨_, rfl⟩, q⟩
def rGetI (C : Addr) (sp : Sp) : R2 := fun x y H Q => ∃ a dx fs, x = .ref a ∧ H a = some (.ins C dx fs) ∧ sp [.ref a, y] H Q E0
def rAddI (C : Addr) (sp : Sp) (E : XK) : R2 := fun x y H Q => ∃ a b dx dy fs gs, x = .ref a ∧ y = .ref b ∧ H a = some (.ins C dx fs) ∧ H b = some (.ins C dy gs) ∧ sp [.ref a, .ref b] H Q E
theorem cmp_back {v : V} {u : Value} {Q : Value → Shared → Prop} {s : Shared} (r : RelV v u) (q : Q u s) : PySem.W.CmpBack Q u s := by
  cases u with
  | notImplemented => cases v <;> cases r <;> rename_i h <;> cases h
  | _ => exact q
theorem op_addI (F : FnOk X.prog X.w X.K X.mg X.base CX n f fd ps sp) (hr : Room n X.A) (hs : PySem.W.findIn X.K (.ref C) "__add__" = some (some (.ref f))) (hf : PySem.W.isFn X.K (.ref f) = true) (hb : Binds X.K fd ps []) (hc : PySem.W.selfFirst X.K C = true) (hx : Passes CX X E) :
    OpR X (binaryOp .Add) (rAddI C sp E) := by
  intro pins s σ H x y v u Q I rx ry h
  obtain ⟨a, b, dx, dy, fs, gs, rfl, rfl, ha, hb', hsp⟩ := h
  cases rx
  cases ry
  obtain ⟨mA, J, _⟩ := ins_get I.hok ha
  obtain ⟨mB, J', _⟩ := ins_get I.hok hb'
  obtain ⟨od, J, _⟩ := J.look
  obtain ⟨od', J', _⟩ := J'.look
  obtain ⟨m, hF⟩ := I.fr
  refine PySem.W.binop_K hF I.ok.mod.kin J J'.type hc hs hf (wpAny_mono (run_fn (us := [.ref a, .ref b]) (vs := [.ref a, .ref b]) F hr hb .nil hx I (.cons rfl (.cons rfl .nil)) hsp) (fun v s' z => ?_) fun _ _ e => e)
  obtain ⟨r, H', I', rv, q⟩ := z
  exact cmp_back rv ⟨r, H', I', rv, q⟩
theorem pe_getI {o i : Expr} {to ti : TE} {pos : Pos} (F : FnOk X.prog X.w X.K X.mg X.base CX0 n f fd ps sp) (hr : Room (n + 1) X.A) (hs : PySem.W.findIn X.K (.ref C) "__getitem__" = some (some (.ref f))) (hn : PySem.W.fnIn X.K f = true) (hf : PySem.W.isFn X.K (.ref f) = true) (hb : Binds X.K fd ps [])
    (ho : PE X o to) (hi : PE X i ti) (hsl : ∀ (a : Addr) (v : Value), subscripted i true (.ref a) v = runValue (.builtin "lifetime.subscript" ⟨[.ref a, v], []⟩) := by intro _ _; with_unfolding_all rfl) : PE X (.Subscript o i pos) (tOp (rGetI C sp) to ti) := by
  refine ⟨fun pins s σ H Q I h => PyProof.Rows.Subscript_ (binT ho hi I h fun v u s2 x y H2 I2 rx ry q => ?_)⟩
  obtain ⟨a, dx, fs, rfl, ha, hsp⟩ := q
  cases rx
  obtain ⟨mA, J, _⟩ := ins_get I2.hok ha
  obtain ⟨od, J, _⟩ := J.look
  obtain ⟨m, hF⟩ := I2.fr
  exact PySem.W.sub_K hF I2.ok.mod.kin J hs hn hf (call_in1 (us := [.ref a, u]) (vs := [.ref a, y]) F hr hb I2 (.cons rfl (.cons ry .nil)) hsp) (hsl a u)
end
end LS
namespace LS
open PySem L2
abbrev sSLen : Stmt := inClass (top i_Stack) 4
abbrev sSGet : Stmt := inClass (top i_Stack) 5
abbrev sSAdd : Stmt := inClass (top i_Stack) 7
def spSLen (K : PySem.W.Frag) (CR CS : Addr) : Sp := fun vs H Q _ => ∃ (p : Addr) (es : List Ent), vs = [.ref p] ∧ EntAt K CR CS H (.stk p es) ∧ Q (.int (es.length : Nat)) H
def spSGet (K : PySem.W.Frag) (CR CS : Addr) : Sp := fun vs H Q _ => ∃ (p : Addr) (es : List Ent) (i : Int) (e : Ent), vs = [.ref p, .int i] ∧ EntAt K CR CS H (.stk p es) ∧ atI es i = some e ∧ Q (refE e) H
theorem atI_map {α β : Type} {g : α → β} {xs : List α} {i : Int} {x : α} (h : atI xs i = some x) : atI (xs.map g) i = some (g x) := by
  unfold atI at h ⊢
  rw [List.length_map]
  cases q : ixN xs.length i with
  | none => rw [q] at h; cases h
  | some j =>
    rw [q] at h
    have h' : xs[j]? = some x := h
    show (xs.map g)[j]? = some (g x)
    rw [List.getElem?_map, h']
    rfl
section
variable {P : Program} {w : World} {K : PySem.W.Frag} {mg : Str → Option Value} {base : Heap} {CR CS : Addr}
theorem scSL : FnScope ["self"] ["self"] (defScope sSLen) := ⟨rfl, rfl, rfl, by decide +kernel, rfl, by decide +kernel, by decide +kernel⟩
theorem scSG : FnScope ["self", "at"] ["self", "at"] (defScope sSGet) := ⟨rfl, rfl, rfl, by decide +kernel, rfl, by decide +kernel, by decide +kernel⟩
theorem ok_slen {f : Addr} {fd : FuncData} (F : Fun K "__len__" "Stack.__len__" sSLen f fd) (T : StackK K mg CR CS) (mL : mg "len" = none) : FnOk P w K mg base CX0 1 f fd ["self"] (spSLen K CR CS) := by
  refine F.ok scSL (fun vs H Q E h => ?_) (fun cdv A outer s H vs Q E hr h => ?_)
  · obtain ⟨p, es, rfl, _⟩ := h
    rfl
  · obtain ⟨p, es, rfl, ⟨⟨dx, e, r, m, ms, h1, h2, h3, h4, h5⟩, h6⟩, k⟩ := h
    refine ⟨_, pss_one (ps_ret (pe_callB call_len_seq (by rfl) mL PySem.boot_len (pa_cons (pe_fld (pv 0) rfl) pa_nil))), ?_⟩
    refine ⟨_, rfl, p, CS, dx, _, _, rfl, h1, T.cl, T.nE, st_e, e, _, rfl, .inr h2, ?_⟩
    rw [List.length_map]
    exact k
theorem ok_sget {f : Addr} {fd : FuncData} (F : Fun K "__getitem__" "Stack.__getitem__" sSGet f fd) (T : StackK K mg CR CS) : FnOk P w K mg base CX0 1 f fd ["self", "at"] (spSGet K CR CS) := by
  refine F.ok scSG (fun vs H Q E h => ?_) (fun cdv A outer s H vs Q E hr h => ?_)
  · obtain ⟨p, es, i, e, rfl, _⟩ := h
    rfl
  · obtain ⟨p, es, i, en, rfl, ⟨⟨dx, e, r, m, ms, h1, h2, h3, h4, h5⟩, h6⟩, ha, k⟩ := h
    refine ⟨_, pss_one (ps_ret (pe_ix ix_tup (pe_fld (pv 0) rfl) (pv 1) (fun _ _ => rfl))), ?_⟩
    exact ⟨_, rfl, p, CS, dx, _, _, rfl, h1, T.cl, T.nE, st_e, _, rfl, e, _, i, _, rfl, rfl, h2, atI_map ha, k⟩
end
end LS
namespace LS
open PySem L2
theorem entsAt_append {K : PySem.W.Frag} {CR CS : Addr} {H : Hp} : ∀ {a b : List Ent}, EntsAt K CR CS H a → EntsAt K CR CS H b → EntsAt K CR CS H (a ++ b)
  | [], _, _, h => h
  | e :: a, b, ⟨h1, h2⟩, h => ⟨h1, entsAt_append h2 h⟩
/-- Stack(*es), Stack(e, ..): the new stack at x, or the error -/
theorem stack_at {K : PySem.W.Frag} {CR CS CI : Addr} {H : Hp} {G : Hp → Prop} {E : XK} {es : List Ent} {x dx : Addr} (he : EntsAt K CR CS H es) (few : es.length ≤ 1000) (nx : H x = none) (nd : H dx = none) (hne : dx ≠ x)
    (e1 : ∀ i, misfit es = some i → ∀ d H', Same H H' → H d = none → H' d = some (.xd [("index", .int (i : Nat))]) → E (.ref CI) (some d) H') (k : misfit es = none → ∀ H', Same H H' → EntAt K CR CS H' (.stk x es) → G H') :
    ∃ v rest, (V.ref x :: es.map refE) = v :: rest ∧ rest.length ≤ 1000 ∧ ∀ p, (upd (upd H dx (.own x)) x (.ins CS dx [])) p = none → spSInit K CR CS CI [v, .ref p] (upd (upd (upd H dx (.own x)) x (.ins CS dx [])) p (.tup rest)) (fun v H2 => v = .non ∧ G H2) E := by
  have S0 : Same H (upd (upd H dx (.own x)) x (.ins CS dx [])) := same_upd nx (same_upd nd (Same.refl H))
  have hx : upd (upd H dx (.own x)) x (.ins CS dx []) x = some (.ins CS dx []) := upd_same
  refine ⟨_, _, rfl, by rw [List.length_map]; exact few, fun t nt => ?_⟩
  generalize upd (upd H dx (.own x)) x (.ins CS dx []) = H0 at *
  have S1 : Same H0 (upd H0 t (.tup (es.map refE))) := same_upd nt (Same.refl H0)
  have ht : upd H0 t (.tup (es.map refE)) t = some (.tup (es.map refE)) := upd_same
  generalize upd H0 t (.tup (es.map refE)) = H1 at *
  have S01 := S0.trans S1
  refine ⟨x, dx, t, es, rfl, S1 _ _ hx, SqT.of ht, ents_same S01 es he, fun i hi d H' S nd' hd => ?_, fun hm H' B en => ⟨rfl, ?_⟩⟩
  · exact e1 i hi d H' (S01.trans S) (S01.free nd') hd
  · exact k hm H' (fun b o e => B b o (ne_of_none e nx) (S01 _ _ e)) en
theorem rule_run {K : PySem.W.Frag} {C CI : Addr} {H : Hp} {G : Hp → Prop} {E : XK} {c : V} {dc : PyData} {z : Str} {ds : List PyData} {x dx : Addr} (hw : isWordS z = true) (hz : z.length ≤ 1000) (hc : Dp K H c dc) (kc : Ctl dc) (ha : actsOf dc = some ds)
    (nx : H x = none) (nd : H dx = none) (hne : dx ≠ x) (k : ∀ H', Same H H' → RuleAt K C H' x z ds → G H') :
    spRInit K C CI (.ref x :: ([V.str z, c] ++ [])) (upd (upd H dx (.own x)) x (.ins C dx [])) (fun v H2 => v = .non ∧ G H2) E := by
  have S0 : Same H (upd (upd H dx (.own x)) x (.ins C dx [])) := same_upd nx (same_upd nd (Same.refl H))
  refine ⟨x, dx, .str z, c, .str z, dc, rfl, upd_same, .str z, True.intro, fun y q => by cases q; exact hz, same_dp S0 _ _ hc, kc, ?_, ?_, ?_⟩
  · intro h
    rw [show isWord (.str z) = isWordS z from rfl, hw] at h
    cases h
  · intro _ h
    rw [ha] at h
    cases h
  · intro z' ds' H3 e _ ha' SB RA
    cases e
    rw [ha] at ha'
    cases ha'
    exact ⟨rfl, k H3 (fun b o h => SB b o (ne_of_none h nx) (S0 b o h)) RA⟩
def spSAdd (K : PySem.W.Frag) (CR CS CI : Addr) : Sp := fun vs H Q E => ∃ (p q : Addr) (es fs : List Ent), vs = [.ref p, .ref q] ∧ EntAt K CR CS H (.stk p es) ∧ EntAt K CR CS H (.stk q fs) ∧
  (∀ i, misfit (es ++ fs) = some i → ∀ d H', Same H H' → H d = none → H' d = some (.xd [("index", .int (i : Nat))]) → E (.ref CI) (some d) H') ∧
  (misfit (es ++ fs) = none → ∀ x H', Same H H' → EntAt K CR CS H' (.stk x (es ++ fs)) → Q (.ref x) H')
section
variable {P : Program} {w : World} {K : PySem.W.Frag} {mg : Str → Option Value} {base : Heap} {CR CS CI : Addr}
abbrev nSAdd : List Str := ["self", "other", "entries"]
theorem scSA : FnScope nSAdd ["self", "other"] (defScope sSAdd) := ⟨rfl, rfl, rfl, by decide +kernel, rfl, by decide +kernel, by decide +kernel⟩
theorem ok_sadd {f fI : Addr} {fd : FuncData} (F : Fun K "__add__" "Stack.__add__" sSAdd f fd) (T : StackK K mg CR CS) (M : Mk K CS fI)
    (GI : FnR P w K mg base (L2.CX P w) 8 fI (fun vs H Q E => ∃ v rest, vs = v :: rest ∧ rest.length ≤ 1000 ∧ ∀ p, H p = none → spSInit K CR CS CI [v, .ref p] (upd H p (.tup rest)) Q E)) :
    FnOk P w K mg base (L2.CX P w) 10 f fd ["self", "other"] (spSAdd K CR CS CI) := by
  refine F.okX scSA (fun vs H Q E h => ?_) (fun cdv A outer s H vs Q E hr h => ?_)
  · obtain ⟨p, q, es, fs, rfl, _⟩ := h
    rfl
  · obtain ⟨p, q, es, fs, rfl, he, hf, e1, k⟩ := h
    have hs2 := sizeLine_eq
    refine ⟨_, pss_cons (ps_if (pt_not (pt_val (pe_callB call_isi (by rfl) T.isi (by decide +kernel) (pa_cons (pv 1) (pa_cons (pe_glob (v := .ref CS) (by rfl) T.g rfl) pa_nil))))) pss_false pss_nil)
      (pss_cons (ps_set (i := 2) scSA.nd rfl (.inl rfl) (pe_op op_catA (pe_fld (pv 0) rfl) (pe_fld (pv 1) rfl)))
      (pss_one (ps_ret (StX.pe_makeS M GI hr (by rfl) T.g (passes_call (takes_of rfl rfl rfl rfl) (fun _ _ _ _ h => h)) (pv 2))))), ?_⟩
    obtain ⟨t, ht, hk⟩ := ent_cls T hf
    obtain ⟨⟨dx, e, r, m, ms, h1, h2, h3, h4, h5, l1⟩, h6⟩ := id he
    obtain ⟨⟨dx', e', r', m', ms', h1', h2', h3', h4', h5', l2⟩, h6'⟩ := id hf
    have f1 := l1.few
    have f2 := l2.few
    refine ⟨_, rfl, refE (.stk q fs), .ref CS, t, .ref CS, _, rfl, .own CS, ht, hk, _, rfl, ?_⟩
    refine iteF ?_
    refine ⟨_, rfl, p, CS, dx, _, _, rfl, h1, T.cl, T.nE, st_e, _, rfl, q, CS, dx', _, _, rfl, h1', T.cl, T.nE, st_e, ?_⟩
    have fin : ∀ (t : Addr) (H1 : Hp), Same H H1 → SqT K H1 t ((es ++ fs).map refE) → StX.tMakeS K CS (fun vs H Q E => ∃ v rest, vs = v :: rest ∧ rest.length ≤ 1000 ∧ ∀ p, H p = none → spSInit K CR CS CI [v, .ref p] (upd H p (.tup rest)) Q E) E (tVar 2) [some (.ref p), some (.ref q), some (.ref t)] H1 Q := fun t H1 S1 hT => by
      refine ⟨.ref t, rfl, t, _, rfl, .inl hT, fun x dx nx nd hne => ?_⟩
      exact stack_at (G := fun H' => Q (.ref x) H') (entsAt_append (ents_same S1 es h6) (ents_same S1 fs h6')) (by rw [List.length_append]; omega) nx nd hne
        (fun i hi d H' S nd' hd => e1 i hi d H' (S1.trans S) (S1.free nd') hd) (fun hm H' S en => k hm x H' (S1.trans S) en)
    refine ⟨e, e', _, _, rfl, rfl, h2, h2', by rw [List.length_map, List.length_map]; omega, fun z => ?_, fun z z' => ?_, fun z z' p3 n3 => ?_⟩
    · refine fin e' H (Same.refl H) ?_
      rw [List.map_append, z]
      exact h2'
    · refine fin e H (Same.refl H) ?_
      rw [List.map_append, z', List.append_nil]
      exact h2
    · refine fin p3 _ (same_upd n3 (Same.refl H)) ?_
      rw [List.map_append]
      exact SqT.of upd_same
end
end LS
/-! == inside tuples by own methods, true or false -/
namespace GQ
open PySem PySem.SeqAt
open AutoSeq1 (wpAny_loadPart')
open MeetsSeq MeetsSeq2 MeetsSeq3 SeqRoads2
section
variable {prog : Program} {w : World} {A : Around} {R : Result → Shared → Prop}
theorem all_cut {e : Nat → Bool} {m i : Nat} (hi : i < m) (he : e i = false) : (List.range m).all e = false := by
  refine Bool.eq_false_iff.mpr fun h => ?_
  rw [List.all_eq_true] at h
  have q := h i (List.mem_range.mpr hi)
  rw [he] at q
  cases q
theorem all_yes {e : Nat → Bool} {m : Nat} (h : ∀ j, j < m → e j = true) : (List.range m).all e = true := List.all_eq_true.mpr fun j hj => h j (List.mem_range.mp hj)
theorem tuple_eqB (l b : Addr) (items items2 : Array Value) (n n2 : Nat) (dd dd2 : Option Addr) (sl sl2 : Array (Option Value)) (e : Nat → Bool) (I : Shared → Prop)
    (turn : ∀ i (h1 : i < items.size) (h2 : i < items2.size) s, I s → wpAny (model prog w) A.in1 (eqBool items[i] items2[i]) (fun r s' => r = e i ∧ I s') (fun e s' => R (.error e) s') s)
    (fin : ∀ s, I s → R (.ok (.ret (.bool ((List.range (min items.size items2.size)).all e && items.size == items2.size)))) s) {s : Shared} (hl1 : s.heap.get? l = some { cls := .type "tuple", dict := dd, data := .seq items n, slots := sl })
    (hb1 : s.heap.get? b = some { cls := .type "tuple", dict := dd2, data := .seq items2 n2, slots := sl2 }) (h : I s) :
    wpAny (model prog w) A.in1 (Builtin.«tuple.__eq__» ⟨[.ref l, .ref b], []⟩) (FinOf prog w A R) (fun e s' => R (.error e) s') s := by
  have f2 := AutoSeq1.sub_tuple_tuple
  have hZ : (items.toList.zip items2.toList).length = min items.size items2.size := by simp
  have h0 := h
  obtain ⟨hp, g, d, tk, os⟩ := s
  wp_walk using wpAny_loadPart' hl1, wpAny_loadPart' hb1, wpAny_forIn_list _ (fun rest b s' => b.1 = none ∧ ∃ i, rest = (items.toList.zip items2.toList).drop i ∧ i ≤ min items.size items2.size ∧ (∀ j, j < i → e j = true) ∧ I s') _
  case turn =>
    rintro ⟨y, x⟩ rest b s' ⟨hb', i, hz, hi, hE, hI⟩
    have hlt : i < (items.toList.zip items2.toList).length := by
      rcases Nat.lt_or_ge i (items.toList.zip items2.toList).length with h' | h'
      · exact h'
      · rw [List.drop_of_length_le h'] at hz; cases hz
    have hm : i < min items.size items2.size := hZ ▸ hlt
    have h1 : i < items.size := Nat.lt_of_lt_of_le hm (Nat.min_le_left _ _)
    have h2 : i < items2.size := Nat.lt_of_lt_of_le hm (Nat.min_le_right _ _)
    rw [List.drop_eq_getElem_cons hlt] at hz
    injection hz with hyx hrest
    have hy : y = items[i] := by have := congrArg Prod.fst hyx; simpa using this
    have hx : x = items2[i] := by have := congrArg Prod.snd hyx; simpa using this
    subst hy hx
    refine wpAny_bind (wpAny_mono (turn i h1 h2 s' hI) (fun r s2 q2 => ?_) fun _ _ x => x)
    obtain ⟨hr, q2⟩ := q2
    subst hr
    cases hy : e i with
    | true =>
      wp_walk
      exact ⟨rfl, i + 1, hrest, hm, fun j hj => by
        by_cases q : j = i
        · rw [q]; exact hy
        · exact hE j (by omega), q2⟩
    | false =>
      wp_walk
      have hR := fin s2 q2
      rw [all_cut hm hy] at hR
      simpa using hR
  case fin =>
    rintro ⟨b1, b2⟩ s' ⟨hb', i, hz, hi, hE, hI⟩
    simp only at hb'
    subst hb'
    have hge : min items.size items2.size ≤ i := by
      rcases Nat.lt_or_ge i (items.toList.zip items2.toList).length with h' | h'
      · rw [List.drop_eq_getElem_cons h'] at hz; cases hz
      · exact hZ ▸ h'
    have hi' : i = min items.size items2.size := by omega
    have hR := fin s' hI
    rw [all_yes fun j hj => hE j (hi' ▸ hj), Bool.true_and] at hR
    wp_walk
    simpa [Builtin.Tuple.tupleCompareSizes] using hR
  case h =>
    exact ⟨rfl, 0, rfl, Nat.zero_le _, fun j hj => (nomatch hj), h0⟩
end
section
variable {prog : Program} {w : World} {A : Around} {E : Value → Shared → Prop} {s : Shared}
theorem rc_tupB {l b : Addr} {items items2 : Array Value} {Q : Value → Shared → Prop} (hu : A.units < cLine) (e : Nat → Bool) (I : Shared → Prop) (hl : s.heap.IsTuple l items) (hb : s.heap.IsTuple b items2)
    (turn : ∀ i (h1 : i < items.size) (h2 : i < items2.size) s, I s → wpAny (model prog w) A.in1 (eqBool items[i] items2[i]) (fun r s' => r = e i ∧ I s') E s)
    (fin : ∀ s, I s → Q (.bool ((List.range (min items.size items2.size)).all e && items.size == items2.size)) s) (h : I s) : wpAny (model prog w) A (richCompare .Eq (.ref l) (.ref b)) Q E s := by
  obtain ⟨⟨cls, dd, data, sl⟩, ho, hc, n, hd⟩ := id hl
  obtain ⟨⟨cls2, dd2, data2, sl2⟩, ho2, hc2, n2, hd2⟩ := id hb
  simp only at hc hd hc2 hd2
  subst hc hd hc2 hd2
  refine wpAny_richCompare_same_room (op := .Eq) ⟨_, ho, rfl⟩ ⟨_, ho2, rfl⟩ F.slot_tuple_eq (call_here F.slot_tuple_eq ⟨_, ho, rfl⟩ F.entry_tuple_eq (F.args_tuple_eq_2 _ _) ?_) hu
  exact tuple_eqB (R := wants (fun v s' => v ≠ .notImplemented ∧ Q v s') E) l b items items2 n n2 dd dd2 sl sl2 e I turn (fun s' q => ⟨(fun x => nomatch x), fin s' q⟩) ho ho2 h
end
end GQ
namespace L2
open PySem PySem.Spec PyProof.Rows
abbrev Eqb := V → V → Bool → Hp → Prop
def MonB (D : Eqb) : Prop := ∀ x y b H H', Ext H H' → D x y b H → D x y b H'
def EqB (X : Cx) (n : Nat) (D : Eqb) : Prop :=
  ∀ (A : Around) (pins : List (Addr × Obj)) (s : Shared) (σ : St) (H : Hp) (x y : V) (b : Bool) (u v : Value), Sub X n A → Inv X pins σ H s → RelV x u → RelV y v → D x y b H →
    wpAny (model X.prog X.w) A (eqBool u v) (fun r s' => r = b ∧ ∃ H', Inv X pins σ H' s' ∧ Ext H H') X.xe s
def RcB (X : Cx) (n : Nat) (D : Eqb) : Prop :=
  ∀ (A : Around) (pins : List (Addr × Obj)) (s : Shared) (σ : St) (H : Hp) (x y : V) (b : Bool) (u v : Value), Sub X n A → Inv X pins σ H s → RelV x u → RelV y v → D x y b H →
    wpAny (model X.prog X.w) A (richCompare .Eq u v) (fun r s' => r = .bool b ∧ ∃ H', Inv X pins σ H' s' ∧ Ext H H') X.xe s
section
variable {X : Cx} {n m : Nat} {D D' : Eqb}
theorem EqB.mono (h : EqB X n D) (hn : n ≤ m) : EqB X m D := fun A pins s σ H x y b u v sb => h A pins s σ H x y b u v (sb.mono hn)
theorem RcB.mono (h : RcB X n D) (hn : n ≤ m) : RcB X m D := fun A pins s σ H x y b u v sb => h A pins s σ H x y b u v (sb.mono hn)
theorem RcB.imp (h : RcB X n D) (hd : ∀ x y b H, D' x y b H → D x y b H) : RcB X n D' := fun A pins s σ H x y b u v sb I rx ry d => h A pins s σ H x y b u v sb I rx ry (hd x y b H d)
theorem RcB.or (h : RcB X n D) (h' : RcB X n D') : RcB X n (fun x y b H => D x y b H ∨ D' x y b H) := fun A pins s σ H x y b u v sb I rx ry d => by
  rcases d with d | d
  · exact h A pins s σ H x y b u v sb I rx ry d
  · exact h' A pins s σ H x y b u v sb I rx ry d
/-- item by item -/
def PrB (D : Eqb) (xs ys : List V) (e : Nat → Bool) (H : Hp) : Prop := ∀ (i : Nat) x y, xs[i]? = some x → ys[i]? = some y → D x y (e i) H
theorem turnB (hD : MonB D) (h : EqB X n D) {A : Around} (sb : Sub X (n + 1) A) {pins : List (Addr × Obj)} {σ : St} {H : Hp} {xs ys : List V} {e : Nat → Bool} {its its2 : List Value} (p : PrB D xs ys e H) (r : Vals xs its) (r2 : Vals ys its2)
    (i : Nat) (h1 : i < its.toArray.size) (h2 : i < its2.toArray.size) (s' : Shared) (l : LoopI X pins σ H s') :
    wpAny (model X.prog X.w) A.in1 (eqBool its.toArray[i] its2.toArray[i]) (fun r s2 => r = e i ∧ LoopI X pins σ H s2) X.xe s' := by
  obtain ⟨H1, I1, e1⟩ := l
  have g1 : its[i]? = some its.toArray[i] := by
    have h1' : i < its.length := by simpa using h1
    rw [List.getElem?_eq_getElem h1'] <;> simp
  have g2 : its2[i]? = some its2.toArray[i] := by
    have h2' : i < its2.length := by simpa using h2
    rw [List.getElem?_eq_getElem h2'] <;> simp
  have k1 : i < xs.length := by rw [r.length]; simpa using h1
  have k2 : i < ys.length := by rw [r2.length]; simpa using h2
  obtain ⟨u, hu, ru⟩ := r.get (List.getElem?_eq_getElem k1)
  obtain ⟨v, hv, rv⟩ := r2.get (List.getElem?_eq_getElem k2)
  rw [g1] at hu
  rw [g2] at hv
  rw [Option.some.inj hu, Option.some.inj hv]
  refine wpAny_mono (h A.in1 pins s' σ H1 _ _ _ u v sb.in1 I1 ru rv (hD _ _ _ _ _ e1 (p i _ _ (List.getElem?_eq_getElem k1) (List.getElem?_eq_getElem k2)))) (fun r s2 q => ?_) fun _ _ x => x
  obtain ⟨hr, H2, I2, e2⟩ := q
  exact ⟨hr, H2, I2, e1.trans e2⟩
def DTupB (K : PySem.W.Frag) (D : Eqb) : Eqb := fun x y r H => ∃ (a b : Addr) (xs ys : List V) (e : Nat → Bool), x = .ref a ∧ y = .ref b ∧ SqT K H a xs ∧ SqT K H b ys ∧ PrB D xs ys e H ∧ r = ((List.range (min xs.length ys.length)).all e && xs.length == ys.length)
theorem rcB_tup (hD : MonB D) (h : EqB X n D) : RcB X (n + 1) (DTupB X.K D) := by
  intro A pins s σ H x y r0 u v sb I rx ry d
  obtain ⟨a, b, xs, ys, e, rfl, rfl, ha, hb, p, rfl⟩ := d
  cases rx
  cases ry
  obtain ⟨its, r, t1, z⟩ := I.tuple ha
  obtain ⟨its2, r2, t2, z2⟩ := I.tuple hb
  have l1 : its.toArray.size = xs.length := by rw [List.size_toArray, ← r.length]
  have l2 : its2.toArray.size = ys.length := by rw [List.size_toArray, ← r2.length]
  refine GQ.rc_tupB sb.room.units0 e (fun s' => LoopI X pins σ H s') t1 t2 (fun i h1 h2 s' q => turnB hD h sb p r r2 i h1 h2 s' q) (fun s' q => ⟨by rw [l1, l2], q⟩) ⟨H, I, Ext.rfl'⟩
/-- an instance of the class at C, whose text has its own ==, and another instance -/
def DInsB (K : PySem.W.Frag) (C : Addr) (R : Addr → Addr → Bool → Hp → Prop) : Eqb := fun x y r H => ∃ a b C' dx dy fs gs, x = .ref a ∧ y = .ref b ∧ H a = some (.ins C dx fs) ∧ H b = some (.ins C' dy gs) ∧ PySem.W.notFirst K C (.ref C') = true ∧ R a b r H
def spEqB (R : Addr → Addr → Bool → Hp → Prop) : Sp := fun vs H Q _ => ∃ a b r, vs = [.ref a, .ref b] ∧ R a b r H ∧ ∀ H', Ext H H' → Q (.bl r) H'
theorem rcB_ins {CX : CXT} {C f : Addr} {fd : FuncData} {ps : List Str} {R : Addr → Addr → Bool → Hp → Prop} {E : XK} (F : FnOk X.prog X.w X.K X.mg X.base CX n f fd ps (spEqB R))
    (hs : PySem.W.findIn X.K (.ref C) "__eq__" = some (some (.ref f))) (hf : PySem.W.isFn X.K (.ref f) = true) (hb : Binds X.K fd ps []) (hx : Passes CX X E) : RcB X n (DInsB X.K C R) := by
  intro A pins s σ H x y r0 u v sb I rx ry d
  obtain ⟨a, b, C', dx, dy, fs, gs, rfl, rfl, ha, hb', hn, hr⟩ := d
  cases rx
  cases ry
  obtain ⟨mA, J, _⟩ := ins_get I.hok ha
  obtain ⟨mB, J', _⟩ := ins_get I.hok hb'
  obtain ⟨od, J, _⟩ := J.look
  obtain ⟨od', J', _⟩ := J'.look
  obtain ⟨m, hF⟩ := I.fr
  refine PySem.W.cmp_K (op := .Eq) (tb := .ref C') sb.room.units0 hF I.ok.mod.kin J J'.type hn hs hf ?_
  have hsp : spEqB R [.ref a, .ref b] H (fun v H' => v = .bl r0 ∧ Ext H H') E := ⟨a, b, r0, rfl, hr, fun H' e => ⟨rfl, e⟩⟩
  have e0 : Env0 X.prog X.w X.K X.mg X.base A X.stack s H := by
    have e := I.env0
    exact ⟨by rw [sb.fr]; exact e.frames, e.mod, e.bs, e.bsz, e.funs, e.frf, e.hok, e.bare⟩
  have hl := F.len _ _ _ _ hsp
  have r2 : Vals [V.ref a, V.ref b] [Value.ref a, Value.ref b] := .cons rfl (.cons rfl .nil)
  refine wpAny_call (codeAny_mono (F.run A X.stack s H ⟨[.ref a, .ref b], []⟩ [.ref a, .ref b] [.ref a, .ref b] _ E sb.room e0 (by
    have := hb s [.ref a, .ref b] I.kIn (by simpa using hl)
    simpa using this) r2 hsp) fun r s' hq => ?_)
  cases r with
  | error e => exact hx pins σ H s e s' I hq
  | ok fl =>
    cases fl with
    | ret w =>
      obtain ⟨z, H', I', rz, ez, ex⟩ := I.after hq
      subst ez
      cases rz
      exact ⟨rfl, H', I', ex⟩
    | next => exact False.elim hq
    | brk => exact False.elim hq
    | cont => exact False.elim hq
theorem RcB.eqB (h : RcB X n D) (hr : ∀ x y b H, D x y b H → ∃ a b', x = .ref a ∧ y = .ref b') (ht : ∀ a b H, D (.ref a) (.ref a) b H → b = true) : EqB X n D := by
  intro A pins s σ H x y r0 u v sb I rx ry d
  obtain ⟨a, b, rfl, rfl⟩ := hr _ _ _ _ d
  cases rx
  cases ry
  by_cases hab : a = b
  · subst hab
    exact SeqAt.EqAt.same (A := A) (s := s) (.ref a) X.prog X.w X.xe _ ⟨(ht _ _ _ d).symm, H, I, Ext.rfl'⟩
  · refine GQ.eqBool_refG hab (wpAny_mono (h A pins s σ H (.ref a) (.ref b) r0 _ _ sb I rfl rfl d) (fun r s' q => ?_) fun _ _ x => x)
    obtain ⟨hr', q⟩ := q
    exact ⟨r0, hr', rfl, q⟩
/-- x == y as an expression -/
def rEqB (D : Eqb) : R2 := fun x y H Q => ∃ b, D x y b H ∧ ∀ H', Ext H H' → Q (.bl b) H'
theorem op_eqB (h : RcB X n D) (hr : Room n X.A) : OpR X (compareOp .Eq) (rEqB D) := by
  intro pins s σ H x y v u Q I rx ry hq
  obtain ⟨b, d, q⟩ := hq
  show wpAny (model X.prog X.w) X.A (richCompare .Eq v u) (EP X pins σ Q) X.xe s
  refine wpAny_mono (h X.A pins s σ H x y b v u ⟨hr, rfl⟩ I rx ry d) (fun r s' z => ?_) fun _ _ x => x
  obtain ⟨hr', H', I', e⟩ := z
  subst hr'
  exact ⟨.bl b, H', I', rfl, q H' e⟩
end
end L2
namespace LS
open PySem L2
/-! == of stacks and of entries -/
mutual
def eqS : Ent → Ent → Bool
  | .rule _ z ds, .rule _ z' ds' => eqRule z z' ds ds'
  | .stk _ es, .stk _ fs => eqEs es fs
  | _, _ => false
def eqEs : List Ent → List Ent → Bool
  | [], [] => true
  | e :: es, f :: fs => (decide (e.at_ = f.at_) || eqS e f) && eqEs es fs
  | _, _ => false
end
/-- as == inside a tuple sees it: the same object is equal to itself -/
def eqE (e f : Ent) : Bool := decide (e.at_ = f.at_) || eqS e f
def eqAtN (es fs : List Ent) (i : Nat) : Bool := match es[i]?, fs[i]? with
  | some e, some f => eqE e f
  | _, _ => true
theorem eqEs_all : ∀ es fs : List Ent, ((List.range (min es.length fs.length)).all (eqAtN es fs) && es.length == fs.length) = eqEs es fs
  | [], [] => by simp [eqEs]
  | [], f :: fs => by simp [eqEs]
  | e :: es, [] => by simp [eqEs]
  | e :: es, f :: fs => by
    have ih := eqEs_all es fs
    rw [eqEs, ← ih]
    have h1 : min (e :: es).length (f :: fs).length = min es.length fs.length + 1 := by
      show min (es.length + 1) (fs.length + 1) = _
      omega
    have h2 : ((e :: es).length == (f :: fs).length) = (es.length == fs.length) := by simp
    have h3 : (List.map Nat.succ (List.range (min es.length fs.length))).all (eqAtN (e :: es) (f :: fs)) = (List.range (min es.length fs.length)).all (eqAtN es fs) := by
      rw [List.all_map]
      rfl
    rw [h1, h2, List.range_succ_eq_map, List.all_cons, h3, Bool.and_assoc]
    rfl
/-- further facts of the two classes -/
structure EqK (K : PySem.W.Frag) (CR CS : Addr) : Prop where
  sr : PySem.W.kitOne K (.ref CS) (.ref CR) = some false
  n1 : PySem.W.notFirst K CR (.ref CS) = true
  n2 : PySem.W.notFirst K CS (.ref CR) = true
theorem notFirst_self {K : PySem.W.Frag} {C : Addr} : PySem.W.notFirst K C (.ref C) = true := by simp [PySem.W.notFirst]
def DRc (K : PySem.W.Frag) (CR CS : Addr) (d : Nat) : Eqb := fun x y r H => ∃ e1 e2, x = refE e1 ∧ y = refE e2 ∧ EntAt K CR CS H e1 ∧ EntAt K CR CS H e2 ∧ depthE e1 ≤ d ∧ r = eqS e1 e2
def DEnt (K : PySem.W.Frag) (CR CS : Addr) (d : Nat) : Eqb := fun x y r H => ∃ e1 e2, x = refE e1 ∧ y = refE e2 ∧ EntAt K CR CS H e1 ∧ EntAt K CR CS H e2 ∧ depthE e1 ≤ d ∧ r = eqE e1 e2
theorem mon_ent {K : PySem.W.Frag} {CR CS : Addr} {d : Nat} : MonB (DEnt K CR CS d) := fun x y b H H' e h => by
  obtain ⟨e1, e2, h1, h2, h3, h4, h5, h6⟩ := h
  exact ⟨e1, e2, h1, h2, ent_same e _ h3, ent_same e _ h4, h5, h6⟩
theorem eqB_ent {X : Cx} {n : Nat} {CR CS : Addr} {d : Nat} (h : RcB X n (DRc X.K CR CS d)) : EqB X n (DEnt X.K CR CS d) := by
  intro A pins s σ H x y r0 u v sb I rx ry hd
  obtain ⟨e1, e2, rfl, rfl, h1, h2, h3, rfl⟩ := hd
  cases rx
  cases ry
  by_cases hab : e1.at_ = e2.at_
  · have e : eqE e1 e2 = true := by
      unfold eqE
      rw [decide_eq_true hab, Bool.true_or]
    rw [hab]
    exact SeqAt.EqAt.same (A := A) (s := s) (.ref e2.at_) X.prog X.w X.xe _ ⟨e.symm, H, I, Ext.rfl'⟩
  · have e : eqE e1 e2 = eqS e1 e2 := by
      unfold eqE
      rw [decide_eq_false hab, Bool.false_or]
    refine GQ.eqBool_refG hab (PySem.wpAny_mono (h A pins s σ H (refE e1) (refE e2) (eqS e1 e2) _ _ sb I rfl rfl ⟨e1, e2, rfl, rfl, h1, h2, h3, rfl⟩) (fun r s' q => ?_) fun _ _ x => x)
    obtain ⟨hr', q⟩ := q
    exact ⟨eqS e1 e2, hr', e.symm, q⟩
/-- what Rule.__eq__ answers -/
def RR (K : PySem.W.Frag) (CR CS : Addr) : Addr → Addr → Bool → Hp → Prop := fun a b r H => ∃ z ds e2, EntAt K CR CS H (.rule a z ds) ∧ EntAt K CR CS H e2 ∧ e2.at_ = b ∧ r = eqS (.rule a z ds) e2
def RS (K : PySem.W.Frag) (CR CS : Addr) (d : Nat) : Addr → Addr → Bool → Hp → Prop := fun a b r H => ∃ es e2, EntAt K CR CS H (.stk a es) ∧ EntAt K CR CS H e2 ∧ e2.at_ = b ∧ depthEs es ≤ d ∧ r = eqS (.stk a es) e2
abbrev sSEq : Stmt := inClass (top i_Stack) 8
section
variable {P : Program} {w : World} {K : PySem.W.Frag} {mg : Str → Option Value} {base : Heap} {CR CS : Addr}
/-- the class of an entry, and whether it is Rule -/
theorem ent_clsR {H : Hp} {e : Ent} (T : StackK K mg CR CS) (Z : EqK K CR CS) (h : EntAt K CR CS H e) : ∃ t, TyX K H (refE e) t ∧ PySem.W.kitOne K t (.ref CR) = some (match e with | .stk _ _ => false | .rule _ _ _ => true) := by
  cases e with
  | rule p z ds =>
    obtain ⟨⟨dx, a, hp, _⟩, _⟩ := h
    exact ⟨.ref CR, .base (.ins hp T.R.cl T.NR.ha T.NR.hn T.NR.ht T.NR.hm), kit_self⟩
  | stk p es =>
    obtain ⟨⟨dx, e, r, m, ms, h1, _⟩, _⟩ := h
    exact ⟨.ref CS, .base (.ins h1 T.cl T.N.ha T.N.hn T.N.ht T.N.hm), Z.sr⟩
theorem ok_reqB {f : Addr} {fd : FuncData} (F : Fun K "__eq__" "Rule.__eq__" sREq f fd) (T : StackK K mg CR CS) (Z : EqK K CR CS) : FnOk P w K mg base CX0 1 f fd ["self", "other"] (spEqB (RR K CR CS)) := by
  refine F.ok scREq (fun vs H Q E h => ?_) (fun cdv A outer s H vs Q E hr h => ?_)
  · obtain ⟨a, b, r, rfl, _⟩ := h
    rfl
  · obtain ⟨p, q, r, rfl, ⟨z, ds, e2, h1, h2, rfl, rfl⟩, k⟩ := h
    have hu : (A.deeper (PyProof.Rows.envOfC "Rule.__eq__" (defScope sREq) s.heap.objs.size f cdv)).units + 64 < cLine := by have := hr.un; omega
    refine ⟨_, pss_one (ps_ret (pe_and (pe_callB call_isi (by rfl) T.isi (by decide +kernel) (pa_cons (pv 1) (pa_cons (pe_glob (v := .ref CR) (by rfl) T.R.g rfl) pa_nil)))
      (pe_and (pe_cmpR op_eq (pe_fld (pv 0) rfl) (pe_fld (pv 1) rfl) (nomark _)) (pe_one (pe_cmpR (op_eqD hu) (pe_fld (pv 0) rfl) (pe_fld (pv 1) rfl) (nomark _)))))), ?_⟩
    obtain ⟨t, ht, hk⟩ := ent_clsR T Z h2
    refine ⟨_, rfl, refE e2, .ref CR, t, .ref CR, _, rfl, .own CR, ht, hk, _, rfl, ?_⟩
    cases e2 with
    | stk p2 es2 =>
      refine iteF ?_
      exact k H (Same.refl H)
    | rule p2 z' ds' =>
      refine iteT ?_
      obtain ⟨⟨dx, a, hp, hd⟩, s1⟩ := h1
      obtain ⟨⟨dy, b, hq, hd'⟩, s2⟩ := h2
      have k : Q (.bl (eqRule z z' ds ds')) H := k H (Same.refl H)
      refine ⟨_, rfl, p, CR, dx, _, _, rfl, hp, T.R.cl, T.R.nM, rule_m, _, rfl, p2, CR, dy, _, _, rfl, hq, T.R.cl, T.R.nM, rule_m, rfl, _, rfl, ?_⟩
      have e : decide (V.str z = V.str z') = decide (z = z') := by
        by_cases h : z = z'
        · rw [h]
          simp
        · rw [decide_eq_false h, decide_eq_false (fun q => h (V.str.inj q))]
      rw [e]
      refine ite2 (fun h => ?_) (fun h => ?_)
      · refine ⟨_, rfl, p, CR, dx, _, _, rfl, hp, T.R.cl, T.R.nC, rule_c, _, rfl, p2, CR, dy, _, _, rfl, hq, T.R.cl, T.R.nC, rule_c, _, _, hd, hd', okD_sh s1, okD_sh s2, ?_⟩
        unfold eqRule at k
        rw [h, Bool.true_and] at k
        exact k
      · unfold eqRule at k
        rw [Bool.eq_false_iff.mpr h, Bool.false_and] at k
        exact k
/-- the own == of both classes, as attributes -/
structure OwnEqK (P : Program) (w : World) (K : PySem.W.Frag) (mg : Str → Option Value) (base : Heap) (C : Addr) (k : Nat) (sp : Sp) where
  {a : Addr}
  {fd : FuncData}
  G : FnOk P w K mg base CX0 k a fd ["self", "other"] sp
  b : Binds K fd ["self", "other"] []
  eq : PySem.W.findIn K (.ref C) "__eq__" = some (some (.ref a))
  fn : PySem.W.isFn K (.ref a) = true
theorem rc_rule {X : Cx} (T : StackK X.K X.mg CR CS) (Z : EqK X.K CR CS) (GR : OwnEqK X.prog X.w X.K X.mg X.base CR 1 (spEqB (RR X.K CR CS))) (d : Nat) :
    RcB X 1 (fun x y r H => ∃ p z ds e2, x = .ref p ∧ y = refE e2 ∧ EntAt X.K CR CS H (.rule p z ds) ∧ EntAt X.K CR CS H e2 ∧ r = eqS (.rule p z ds) e2) :=
  (rcB_ins (C := CR) GR.G GR.eq GR.fn GR.b pass0).imp fun x y b H h => by
    obtain ⟨p, z, ds, e2, rfl, rfl, h1, h2, rfl⟩ := h
    obtain ⟨⟨dx, a, hp, hd⟩, _⟩ := id h1
    cases e2 with
    | rule p2 z' ds' =>
      obtain ⟨⟨dy, b, hq, _⟩, _⟩ := id h2
      exact ⟨p, p2, CR, dx, dy, _, _, rfl, rfl, hp, hq, notFirst_self, z, ds, _, h1, h2, rfl, rfl⟩
    | stk p2 es =>
      obtain ⟨⟨dy, e, r, m, ms, hq, _⟩, _⟩ := id h2
      exact ⟨p, p2, CS, dx, dy, _, _, rfl, rfl, hp, hq, Z.n1, z, ds, _, h1, h2, rfl, rfl⟩
theorem rc_stk {X : Cx} {n d : Nat} (T : StackK X.K X.mg CR CS) (Z : EqK X.K CR CS) (GS : OwnEqK X.prog X.w X.K X.mg X.base CS n (spEqB (RS X.K CR CS d))) :
    RcB X n (fun x y r H => ∃ p es e2, x = .ref p ∧ y = refE e2 ∧ EntAt X.K CR CS H (.stk p es) ∧ EntAt X.K CR CS H e2 ∧ depthEs es ≤ d ∧ r = eqS (.stk p es) e2) :=
  (rcB_ins (C := CS) GS.G GS.eq GS.fn GS.b pass0).imp fun x y b H h => by
    obtain ⟨p, es, e2, rfl, rfl, h1, h2, h3, rfl⟩ := h
    obtain ⟨⟨dx, e, r, m, ms, hp, _⟩, _⟩ := id h1
    cases e2 with
    | rule p2 z' ds' =>
      obtain ⟨⟨dy, b, hq, _⟩, _⟩ := id h2
      exact ⟨p, p2, CR, dx, dy, _, _, rfl, rfl, hp, hq, Z.n2, es, _, h1, h2, rfl, h3, rfl⟩
    | stk p2 es =>
      obtain ⟨⟨dy, e, r, m, ms, hq, _⟩, _⟩ := id h2
      exact ⟨p, p2, CS, dx, dy, _, _, rfl, rfl, hp, hq, notFirst_self, _, _, h1, h2, rfl, h3, rfl⟩
theorem scSEq : FnScope ["self", "other"] ["self", "other"] (defScope sSEq) := ⟨rfl, rfl, rfl, by decide +kernel, rfl, by decide +kernel, by decide +kernel⟩
theorem depthEs_mem {es : List Ent} {i : Nat} {e : Ent} (h : es[i]? = some e) : depthE e ≤ depthEs es := depthEs_get h
theorem ok_seqB {f : Addr} {fd : FuncData} (F : Fun K "__eq__" "Stack.__eq__" sSEq f fd) (b : Binds K fd ["self", "other"] []) (eq : PySem.W.findIn K (.ref CS) "__eq__" = some (some (.ref f))) (fn : PySem.W.isFn K (.ref f) = true)
    (T : StackK K mg CR CS) (Z : EqK K CR CS) (GR : OwnEqK P w K mg base CR 1 (spEqB (RR K CR CS))) : ∀ d : Nat, FnOk P w K mg base CX0 (2 * d + 3) f fd ["self", "other"] (spEqB (RS K CR CS d)) := by
  intro d
  have step : ∀ (d n : Nat), (∀ X : Cx, X.prog = P → X.w = w → X.K = K → X.mg = mg → X.base = base → RcB X n (DRc X.K CR CS d)) → FnOk P w K mg base CX0 (n + 2) f fd ["self", "other"] (spEqB (RS K CR CS d)) := by
    intro d n hrc
    refine F.ok scSEq (fun vs H Q E h => ?_) (fun cdv A outer s H vs Q E hr h => ?_)
    · obtain ⟨a, b, r, rfl, _⟩ := h
      rfl
    · obtain ⟨p, q, r, rfl, ⟨es, e2, h1, h2, rfl, hd, rfl⟩, k⟩ := h
      refine ⟨_, pss_one (ps_ret (pe_and (pe_callB call_isi (by rfl) T.isi (by decide +kernel) (pa_cons (pv 1) (pa_cons (pe_glob (v := .ref CS) (by rfl) T.g rfl) pa_nil)))
        (pe_one (pe_cmpR (op_eqB (rcB_tup mon_ent (eqB_ent (hrc _ rfl rfl rfl rfl rfl))) hr) (pe_fld (pv 0) rfl) (pe_fld (pv 1) rfl) (nomark _))))), ?_⟩
      obtain ⟨t, ht, hk⟩ := ent_cls T h2
      refine ⟨_, rfl, refE e2, .ref CS, t, .ref CS, _, rfl, .own CS, ht, hk, _, rfl, ?_⟩
      cases e2 with
      | rule p2 z' ds' =>
        refine iteF ?_
        exact k H (Same.refl H)
      | stk p2 fs =>
        refine iteT ?_
        obtain ⟨⟨dx, e, r, m, ms, a1, a2, a3, a4, a5, l1⟩, a6⟩ := id h1
        obtain ⟨⟨dx', e', r', m', ms', b1, b2, b3, b4, b5, l2⟩, b6⟩ := id h2
        refine ⟨_, rfl, p, CS, dx, _, _, rfl, a1, T.cl, T.nE, st_e, _, rfl, p2, CS, dx', _, _, rfl, b1, T.cl, T.nE, st_e, ?_⟩
        refine ⟨_, ⟨e, e', _, _, eqAtN es fs, rfl, rfl, a2, b2, ?_, rfl⟩, fun H' S => ?_⟩
        · intro i x y hx hy
          rw [List.getElem?_map] at hx hy
          cases qx : es[i]? with
          | none => rw [qx] at hx; cases hx
          | some e1 =>
            cases qy : fs[i]? with
            | none => rw [qy] at hy; cases hy
            | some e2 =>
              rw [qx] at hx
              rw [qy] at hy
              cases hx
              cases hy
              refine ⟨e1, e2, rfl, rfl, ents_get a6 qx, ents_get b6 qy, Nat.le_trans (depthEs_mem qx) hd, ?_⟩
              unfold eqAtN
              rw [qx, qy]
        · rw [List.length_map, List.length_map, eqEs_all es fs]
          exact k H' S
  induction d with
  | zero =>
    refine step 0 1 fun X e1 e2 e3 e4 e5 => ?_
    subst e1 e2 e3 e4 e5
    refine (rc_rule T Z GR 0).imp fun x y b H h => ?_
    obtain ⟨e1, e2, rfl, rfl, h1, h2, h3, rfl⟩ := h
    cases e1 with
    | rule p z ds => exact ⟨p, z, ds, e2, rfl, rfl, h1, h2, rfl⟩
    | stk p es =>
      have q : 1 + depthEs es ≤ 0 := h3
      omega
  | succ d ih =>
    refine step (d + 1) (2 * d + 3) fun X e1 e2 e3 e4 e5 => ?_
    subst e1 e2 e3 e4 e5
    refine (((rc_rule T Z GR 0).mono (by omega)).or (rc_stk T Z ⟨ih, b, eq, fn⟩)).imp fun x y b H h => ?_
    obtain ⟨e1, e2, rfl, rfl, h1, h2, h3, rfl⟩ := h
    cases e1 with
    | rule p z ds => exact .inl ⟨p, z, ds, e2, rfl, rfl, h1, h2, rfl⟩
    | stk p es =>
      have q : 1 + depthEs es ≤ d + 1 := h3
      exact .inr ⟨p, es, e2, rfl, rfl, h1, h2, by omega, rfl⟩
end
end LS
set_option maxHeartbeats 8000000
namespace LS
open PySem L2 TxS
/-- a getter and its property -/
structure PropK (P : Program) (w : World) (K : PySem.W.Frag) (mg : Str → Option Value) (base : Heap) (C : Addr) (f : Str) (sp : Sp) where
  {a p : Addr}
  {fd : FuncData}
  G : FnOk P w K mg base CX0 1 a fd ["self"] sp
  b : Binds K fd ["self"] []
  pr : PropOf K C f p a
abbrev initS (K : PySem.W.Frag) (CR CS CI : Addr) : Sp := fun vs H Q E => ∃ v rest, vs = v :: rest ∧ rest.length ≤ 1000 ∧ ∀ p, H p = none → spSInit K CR CS CI [v, .ref p] (upd H p (.tup rest)) Q E
/-- what the top has of rules and stacks, by promises -/
structure StkC (P : Program) (w : World) (K : PySem.W.Frag) (mg : Str → Option Value) (base : Heap) (CR CS CI CX : Addr) where
  T : StackK K mg CR CS
  Z : EqK K CR CS
  {fI : Addr}
  GI : FnR P w K mg base (L2.CX P w) 8 fI (initS K CR CS CI)
  MS : Mk K CS fI
  {fR : Addr}
  {fdR : FuncData}
  GR : FnOk P w K mg base (L2.CX P w) 4 fR fdR ["self", "module", "control"] (spRInit K CR CX)
  MR : Mk K CR fR
  bR : Binds K fdR ["self", "module", "control"] []
  PE : PropK P w K mg base CS "entries" (spSEntries K CR CS)
  PR : PropK P w K mg base CS "rules" (spSRules K CR CS)
  PM : PropK P w K mg base CS "modules" (spSModules K CR CS)
  PB : PropK P w K mg base CS "modules" (spSModulesB K CR CS)
  PN : PropK P w K mg base CR "module" (spMod K CR)
  ER : OwnEqK P w K mg base CR 1 (spEqB (RR K CR CS))
  ES : ∀ d, OwnEqK P w K mg base CS (2 * d + 3) (spEqB (RS K CR CS d))
  neR : PySem.W.findIn K (.ref CR) "__ne__" = some (some (.builtin "object.__ne__"))
  neS : PySem.W.findIn K (.ref CS) "__ne__" = some (some (.builtin "object.__ne__"))
/-- + of stacks -/
structure AddK (P : Program) (w : World) (K : PySem.W.Frag) (mg : Str → Option Value) (base : Heap) (CR CS CI : Addr) where
  {fA : Addr}
  {fdA : FuncData}
  GA : FnOk P w K mg base (L2.CX P w) 10 fA fdA ["self", "other"] (spSAdd K CR CS CI)
  bA : Binds K fdA ["self", "other"] []
  aA : PySem.W.findIn K (.ref CS) "__add__" = some (some (.ref fA))
  nA : PySem.W.isFn K (.ref fA) = true
  sf : PySem.W.selfFirst K CS = true
/-- and of +, len, [] of stacks -/
structure StkT (P : Program) (w : World) (K : PySem.W.Frag) (mg : Str → Option Value) (base : Heap) (CR CS CI CX : Addr) extends StkC P w K mg base CR CS CI CX, AddK P w K mg base CR CS CI where
  {fL : Addr}
  {fdL : FuncData}
  GL : FnOk P w K mg base CX0 1 fL fdL ["self"] (spSLen K CR CS)
  bL : Binds K fdL ["self"] []
  aL : PySem.W.findIn K (.ref CS) "__len__" = some (some (.ref fL))
  nL : PySem.W.isFn K (.ref fL) = true
  {fG : Addr}
  {fdG : FuncData}
  GG : FnOk P w K mg base CX0 1 fG fdG ["self", "at"] (spSGet K CR CS)
  bG : Binds K fdG ["self", "at"] []
  aG : PySem.W.findIn K (.ref CS) "__getitem__" = some (some (.ref fG))
  nG : PySem.W.isFn K (.ref fG) = true
  iG : PySem.W.fnIn K fG = true
end LS
set_option maxHeartbeats 0
namespace LS
open PySem PySem.Spec PyProof.Rows L2
/-! ### a getter of a property, found by the class and the name -/
def gAd (K : PySem.W.Frag) (x m : Str) : Addr := match PySem.W.recIn K (He.ma K (He.ga K x) m) "property" with
  | some (.ref g :: _) => g
  | _ => 0
def fnA (K : PySem.W.Frag) (a : Addr) : He.FnW := match K.lookup a with
  | some ⟨_, _, .func fd, _⟩ => some (fd.name, fd.qualname, fd.params, fd.body, fd.scope, fd.globals, fd.closure, fd.builtins)
  | _ => none
structure GetD where
  cls : Str
  m : Str
  qual : Str
  st : Stmt
def GetD.val (d : GetD) : He.FnW := some (d.m, d.qual, defArgs d.st, .stmts (defBody d.st), defScope d.st, mainGlobals, [], builtinsNs)
def GetD.ok (K : PySem.W.Frag) (d : GetD) : Bool := PySem.W.keepIn K (.ref (gAd K d.cls d.m)) && ((match K.lookup (gAd K d.cls d.m) with
  | some ⟨_, _, .func fd, _⟩ => PySem.W.codeIn K fd.code d.qual && (match fd.defaults with
    | .none => true
    | _ => false)
  | _ => false) && (He.eqO (PySem.W.findIn K (.ref (He.ga K d.cls)) d.m) (some (some (.ref (He.ma K (He.ga K d.cls) d.m)))) && (He.eqO (PySem.W.specialIn K (.ref (He.ma K (He.ga K d.cls) d.m)) "__get__") (some (some (.builtin "property.__get__"))) &&
    (decide (PySem.W.takesIn K (.ref (He.ma K (He.ga K d.cls) d.m)) = some true) && (match PySem.W.recIn K (He.ma K (He.ga K d.cls) d.m) "property" with
      | some (.ref _ :: _) => true
      | _ => false)))))
theorem GetD.fun_ {K : PySem.W.Frag} {d : GetD} (e : fnA K (gAd K d.cls d.m) = d.val) (c : d.ok K = true) : ∃ fd, Fun K d.m d.qual d.st (gAd K d.cls d.m) fd ∧ PropOf K (He.ga K d.cls) d.m (He.ma K (He.ga K d.cls) d.m) (gAd K d.cls d.m) := by
  obtain ⟨kp, c⟩ := He.ba c
  obtain ⟨c2, c⟩ := He.ba c
  obtain ⟨c3, c⟩ := He.ba c
  obtain ⟨c4, c⟩ := He.ba c
  obtain ⟨c5, c6⟩ := He.ba c
  have pr : PropOf K (He.ga K d.cls) d.m (He.ma K (He.ga K d.cls) d.m) (gAd K d.cls d.m) := by
    refine ⟨He.eqO_ok c3, He.eqO_ok c4, of_decide_eq_true c5, ?_⟩
    unfold gAd
    split at c6
    · rename_i g r q
      exact ⟨r, by rw [q]⟩
    · cases c6
  unfold fnA at e
  cases q : K.lookup (gAd K d.cls d.m) with
  | none =>
    rw [q] at c2
    cases c2
  | some o =>
    obtain ⟨oc, od, dt, osl⟩ := o
    rw [q] at c2 e
    cases dt with
    | func fd =>
      obtain ⟨n1, n2, n3, n4, n5, n6, n7, n8, n9, n10, n11, n12, n13, n14, n15⟩ := fd
      have e2 : (some (n1, n2, n3, n4, n5, n6, n7, n15) : He.FnW) = some (d.m, d.qual, defArgs d.st, .stmts (defBody d.st), defScope d.st, mainGlobals, [], builtinsNs) := e
      simp only [Option.some.injEq, Prod.mk.injEq] at e2
      obtain ⟨h1, h2, h3, h4, h5, h6, h7, h8⟩ := e2
      subst h1 h2 h3 h4 h5 h6 h7 h8
      cases n8 with
      | none =>
        have k1 : (PySem.W.codeIn K n13 d.qual && true) = true := c2
        rw [Bool.and_true] at k1
        exact ⟨_, ⟨⟨oc, od, n9, n10, n11, n12, n13, n14, osl, rfl, q, k1⟩, kp⟩, pr⟩
      | _ =>
        have k1 : (PySem.W.codeIn K n13 d.qual && false) = true := c2
        rw [Bool.and_false] at k1
        cases k1
    | _ => cases c2
/-! ### a def without defaults -/
theorem funD_fun {K : PySem.W.Frag} {x qual : Str} {st : Stmt} {f : Addr} {fd : FuncData} (F : FunD K x qual (defArgs st) (defBody st) (defScope st) [] [] f fd) : Fun K x qual st f fd := by
  obtain ⟨oc, od, dV, kV, doc, pm, an, cdv, ct, osl, rfl, lk, hcd, hd, hk⟩ := F.ex
  rcases hd with ⟨_, rfl⟩ | ⟨h, _⟩
  · exact ⟨⟨oc, od, kV, doc, pm, an, cdv, ct, osl, rfl, lk, hcd⟩, F.kp⟩
  · exact (h rfl).elim
/-- what the top's names reach, and the place of the settings -/
def asL (g : Addr → Option Obj) (n : Nat) : List Addr := He.asD g n ++ [cStatics]
def kL (n : Nat) (g : Addr → Option Obj) : PySem.W.Frag := He.frT g (asL g n)
abbrev AlL : Type := (He.AlT × Bool) × List He.FnW
/-- the head's facts: names, defs, tables, a Bool of one's own, empty tables of code, getters -/
structure SaysL (fa : List He.Fa) (fn : List He.DefD) (ts : List He.Tab) (tf : List He.Defn) (ex : PySem.W.Frag → Bool) (gets : List GetD) (w : World) (h : Heap) (K : PySem.W.Frag) : Prop where
  t : He.SaysT fa fn ts w K
  more : ex K = true
  tab : ∀ p ∈ tf, PySem.W.codeHdIn K (He.cT K p).1 (He.cT K p).2 = true ∧ K.lookup (He.cT K p).2 = none ∧ h.get? (He.cT K p).2 = some { cls := .none, data := .fields #[] }
  get : (gets.map fun d => fnA K (gAd K d.cls d.m)) = gets.map GetD.val
section
variable {n : Nat} {fa : List He.Fa} {fn : List He.DefD} {ts : List He.Tab} {tf : List He.Defn} {ex : PySem.W.Frag → Bool} {gets : List GetD} {w : World}
theorem tabs_of {g : Addr → Option Obj} {as : List Addr} (h : He.tabsB g tf (He.frT g as) = true) (p : He.Defn) (hp : p ∈ tf) :
    PySem.W.codeHdIn (He.frT g as) (He.cT (He.frT g as) p).1 (He.cT (He.frT g as) p).2 = true ∧ (He.frT g as).lookup (He.cT (He.frT g as) p).2 = none ∧ g (He.cT (He.frT g as) p).2 = some { cls := .none, data := .fields #[] } := by
  obtain ⟨h1, h2⟩ := He.ba (List.all_eq_true.mp h p hp)
  split at h2
  · rename_i o q
    exact ⟨h1, He.frT_none q h2, by rw [q, He.emptyTab_eq h2]⟩
  · cases h2
def obsG (n : Nat) (fa : List He.Fa) (fn : List He.DefD) (ts : List He.Tab) (tf : List He.Defn) (ex : PySem.W.Frag → Bool) (gets : List GetD) (g : Addr → Option Obj) : AlL :=
  ((He.obsT fa fn ts (kL n g), ex (kL n g) && He.tabsB g tf (kL n g)), gets.map fun d => fnA (kL n g) (gAd (kL n g) d.cls d.m))
def valG (fn : List He.DefD) (ts : List He.Tab) (gets : List GetD) (w : World) : AlL := ((He.valT fn ts w, true), gets.map GetD.val)
theorem saysL_of {h : Heap} (e : obsG n fa fn ts tf ex gets h.get? = valG fn ts gets w) : ∃ K : PySem.W.Frag, K.In h ∧ SaysL fa fn ts tf ex gets w h K := by
  obtain ⟨e1, e2⟩ := Prod.mk.inj e
  obtain ⟨e3, e4⟩ := Prod.mk.inj e1
  obtain ⟨e5, e6⟩ := He.ba e4
  exact ⟨kL n h.get?, He.frT_in, e3, e5, fun p hp => tabs_of e6 p hp, e2⟩
end
def hookG (n : Nat) (fa : List He.Fa) (fn : List He.DefD) (ts : List He.Tab) (tf : List He.Defn) (ex : PySem.W.Frag → Bool) (gets : List GetD) : PySem.W.Hook where
  α := AlL
  obs := fun s => obsG n fa fn ts tf ex gets s.heap.get?
  val := fun w => valG fn ts gets w
  says := fun w h => ∃ K : PySem.W.Frag, K.In h ∧ SaysL fa fn ts tf ex gets w h K
  of := fun _ _ e => saysL_of e
  keeps := fun _ _ _ ⟨K, hK, c⟩ k => ⟨K, PySem.W.Frag.In.keeps hK k, c.t, c.more, fun p hp => ⟨(c.tab p hp).1, (c.tab p hp).2.1, k _ _ (c.tab p hp).2.2⟩, c.get⟩
theorem obsG_eq {n : Nat} {fa : List He.Fa} {fn : List He.DefD} {ts : List He.Tab} {tf : List He.Defn} {ex : PySem.W.Frag → Bool} {gets : List GetD} {g : Addr → Option Obj} {s : Shared} (h : ∀ a, g a = s.heap.get? a) : obsG n fa fn ts tf ex gets g = (hookG n fa fn ts tf ex gets).obs s := by
  have e : g = s.heap.get? := funext h
  rw [e] <;> rfl
def dGl (x : Str) (st : Stmt) : He.DefD := ⟨(x, none), x, x, defArgs st, defBody st, defScope st, [], []⟩
def dMe (c m q : Str) (st : Stmt) : He.DefD := ⟨(c, some m), m, q, defArgs st, defBody st, defScope st, [], []⟩
theorem all_get {l : List Bool} (h : l.all id = true) (i : Nat) {b : Bool} (e : l[i]? = some b) : b = true := List.all_eq_true.mp h b (List.mem_of_getElem? e)
section
variable {w : World} {h : Heap} {K : PySem.W.Frag} {mg : Str → Option Value}
theorem tup_map (xs : List Str) : (xs.map He.Dv.str).map (He.Dv.v K) = xs.map V.str := by
  rw [List.map_map]
  rfl
theorem defF {fa : List He.Fa} {fn : List He.DefD} {x : Str} {st : Stmt} (c : He.SaysD fa fn K) (hm : dGl x st ∈ fn) : ∃ fd, Fun K x x st (He.ga K x) fd := by
  obtain ⟨fd, F⟩ := c.defs hm
  exact ⟨fd, funD_fun F⟩
theorem defM {fa : List He.Fa} {fn : List He.DefD} {x m q : Str} {st : Stmt} (c : He.SaysD fa fn K) (hm : dMe x m q st ∈ fn) : ∃ fd, Fun K m q st (He.ma K (He.ga K x) m) fd := by
  obtain ⟨fd, F⟩ := c.defs hm
  exact ⟨fd, funD_fun F⟩
end
end LS
namespace LS
open PySem PySem.Spec PyProof.Rows L2
/-! ### Bools of an exception class -/
def oexB (K : PySem.W.Frag) (C : Addr) : Bool := (match K.lookup C with
  | some ⟨.type t, _, .cls ⟨_, _, .ref C' :: bm, _, _, hd, _, _, _, _, del⟩, sl⟩ => decide (t = "type") && (decide (C' = C) && (PySem.HandSPX.refsVE bm && (hd && (!del && (decide (sl.size = 6) && eqO1 (sl[4]? ) "ValueError.__new__")))))
  | _ => false) && (He.eqO (PySem.W.findIn K (.ref C) "__setattr__") (some (some (.builtin "object.__setattr__"))) && (decide (PySem.W.subIn K (.ref C) (.type "BaseException") = some true) && (decide (PySem.W.typeIn K (.ref C) = some (.type "type")) && PySem.W.keepIn K (.ref C))))
where eqO1 (o : Option (Option Value)) (id : String) : Bool := match o with
  | some (some (.builtin i)) => decide (i = id)
  | _ => false
theorem oexB_ok {K : PySem.W.Frag} {C : Addr} (h : oexB K C = true) : OexC K C := by
  obtain ⟨h1, h⟩ := He.ba h
  obtain ⟨h2, h⟩ := He.ba h
  obtain ⟨h3, h⟩ := He.ba h
  obtain ⟨h4, h5⟩ := He.ba h
  refine ⟨?_, He.eqO_ok h2, of_decide_eq_true h3, of_decide_eq_true h4, h5⟩
  cases q : K.lookup C with
  | none =>
    rw [q] at h1
    cases h1
  | some o =>
    obtain ⟨oc, od, dt, osl⟩ := o
    rw [q] at h1
    cases oc with
    | type t =>
      cases dt with
      | cls cd =>
        obtain ⟨nm, bs, mro, N, qn, hd, sn, sub, ab, col, del⟩ := cd
        cases mro with
        | nil => cases h1
        | cons v bm =>
          cases v with
          | ref C' =>
            obtain ⟨k1, k⟩ := He.ba (show (decide (t = "type") && (decide (C' = C) && (PySem.HandSPX.refsVE bm && (hd && (!del && (decide (osl.size = 6) && oexB.eqO1 (osl[4]?) "ValueError.__new__")))))) = true from h1)
            obtain ⟨k2, k⟩ := He.ba k
            obtain ⟨k3, k⟩ := He.ba k
            obtain ⟨k4, k⟩ := He.ba k
            obtain ⟨k5, k⟩ := He.ba k
            obtain ⟨k6, k7⟩ := He.ba k
            cases of_decide_eq_true k1
            cases of_decide_eq_true k2
            cases k4
            cases del with
            | true => cases k5
            | false =>
              obtain ⟨l⟩ := osl
              have k6' : l.length = 6 := of_decide_eq_true k6
              obtain ⟨s0, s1, s2, s3, s4, s5, rfl⟩ : ∃ s0 s1 s2 s3 s4 s5, l = [s0, s1, s2, s3, s4, s5] := match l, k6' with
                | [s0, s1, s2, s3, s4, s5], _ => ⟨s0, s1, s2, s3, s4, s5, rfl⟩
              have k7' : oexB.eqO1 (some s4) "ValueError.__new__" = true := k7
              cases s4 with
              | none => cases k7'
              | some u =>
                cases u with
                | builtin i =>
                  cases of_decide_eq_true (show decide (i = "ValueError.__new__") = true from k7')
                  exact ⟨nm, qn, N, bs, bm, sn, sub, ab, col, od, s0, s1, s2, s3, s5, rfl, k3⟩
                | _ => cases k7'
          | _ => cases h1
      | _ => cases h1
    | _ => cases dt <;> cases h1
def excB (K : PySem.W.Frag) (D : Addr) : Bool := He.eqO (PySem.W.findIn K (.ref D) "__getattribute__") (some (some (.builtin "BaseException.__getattribute__"))) && (He.eqO (PySem.W.findIn K (.ref D) "__getattr__") (some none) && (decide (PySem.W.subIn K (.ref D) (.type "BaseException") = some true) && (PySem.W.hasDictIn K D &&
  (He.eqO (PySem.W.findIn K (.ref D) "__class__") (some (some (.builtin "object.__class__"))) && (He.eqO (PySem.W.specialIn K (.builtin "object.__class__") "__get__") (some (some (.builtin "getset_descriptor.__get__"))) && (decide (PySem.W.takesIn K (.builtin "object.__class__") = some true) && decide (PySem.W.mroIn K D (.type "object") = some true)))))))
theorem excB_ok {K : PySem.W.Frag} {D : Addr} (h : excB K D = true) : ExcC K D := by
  obtain ⟨h1, h⟩ := He.ba h
  obtain ⟨h2, h⟩ := He.ba h
  obtain ⟨h3, h⟩ := He.ba h
  obtain ⟨h4, h⟩ := He.ba h
  obtain ⟨h5, h⟩ := He.ba h
  obtain ⟨h6, h⟩ := He.ba h
  obtain ⟨h7, h8⟩ := He.ba h
  exact ⟨He.eqO_ok h1, He.eqO_ok h2, of_decide_eq_true h3, h4, He.eqO_ok h5, He.eqO_ok h6, of_decide_eq_true h7, of_decide_eq_true h8⟩
def kitOB (K : PySem.W.Frag) (C : Addr) (v : Value) (b : Bool) : Bool := decide (PySem.W.kitOne K (.ref C) v = some b)
def baseB (K : PySem.W.Frag) (C : Addr) : Bool := PySem.W.readsIn K C (.type "type") && (He.eqO (PySem.W.specialIn K (.ref C) "__getattribute__") (some (some (.builtin "type.__getattribute__"))) && (match PySem.W.findCls K (.ref C) (.type "type") "__init__" with
  | some (.val (.builtin i)) => decide (i = "ValueError.__init__")
  | _ => false))
theorem baseB_ok {K : PySem.W.Frag} {C : Addr} (h : baseB K C = true) : ∃ mc, ClX.CRead K C mc ∧ PySem.W.findCls K (.ref C) mc "__init__" = some (.val (.builtin "ValueError.__init__")) := by
  obtain ⟨h1, h⟩ := He.ba h
  obtain ⟨h2, h3⟩ := He.ba h
  refine ⟨.type "type", ⟨h1, He.eqO_ok h2⟩, ?_⟩
  split at h3
  · rename_i i q
    rw [q, of_decide_eq_true h3]
  · cases h3
end LS
namespace LS
open PySem PySem.Spec PyProof.Rows L2
/-! ### the controls' table -/
def rowB (K : PySem.W.Frag) : List DictEntry → List (Str × List Str) → Bool
  | [], [] => true
  | e :: es, r :: rs => (match e.key with
    | .str x _ => decide (x = r.1)
    | _ => false) && ((match e.val with
    | .ref a => (match K.lookup a with
      | some ⟨.type c, _, .seq its _, _⟩ => decide (c = "tuple") && (decide (its.size ≤ sizeLine) && He.relAll (r.2.map V.str) its.toList)
      | _ => false)
    | _ => false) && rowB K es rs)
  | _, _ => false
theorem rowB_ok {K : PySem.W.Frag} : ∀ {es : List DictEntry} {rs : List (Str × List Str)}, rowB K es rs = true → CtrlEs K es rs
  | [], [], _ => True.intro
  | [], _ :: _, h => nomatch h
  | _ :: _, [], h => nomatch h
  | e :: es, r :: rs, h => by
    obtain ⟨h1, h⟩ := He.ba (show ((match e.key with
      | .str x _ => decide (x = r.1)
      | _ => false) && ((match e.val with
      | .ref a => (match K.lookup a with
        | some ⟨.type c, _, .seq its _, _⟩ => decide (c = "tuple") && (decide (its.size ≤ sizeLine) && He.relAll (r.2.map V.str) its.toList)
        | _ => false)
      | _ => false) && rowB K es rs)) = true from h)
    obtain ⟨h2, h3⟩ := He.ba h
    refine ⟨?_, rowB_ok h3⟩
    split at h1
    · rename_i x t q1
      cases of_decide_eq_true h1
      split at h2
      · rename_i a q2
        split at h2
        · rename_i c od its n sl q3
          obtain ⟨k1, k⟩ := He.ba h2
          obtain ⟨k2, k3⟩ := He.ba k
          cases of_decide_eq_true k1
          exact ⟨t, a, q1, q2, fun H => .inr ⟨_, its, n, q3, rfl, rfl, of_decide_eq_true k2, He.relAll_ok k3⟩⟩
        · cases h2
      · cases h2
    · cases h1
def ctrlB (K : PySem.W.Frag) (a : Addr) : Bool := match K.lookup a with
  | some ⟨_, _, .dict es _, _⟩ => rowB K es.toList ctrlTab
  | _ => false
theorem ctrlB_ok {K : PySem.W.Frag} {w : World} {mg : Str → Option Value} {a : Addr} (g : mg "CONTROLS" = some (.ref a)) (h : ctrlB K a = true) (d : ∃ es n, KDict K w a es n) : CtrlK K w mg a := by
  obtain ⟨es, n, hd⟩ := d
  refine ⟨g, hd.low, es, n, hd.at_, hd.lit, ?_⟩
  unfold ctrlB at h
  rw [hd.at_] at h
  exact rowB_ok h
end LS
namespace LS
open PySem PySem.Spec PyProof.Rows L2
/-! what every law over stacks takes from the top: rules.py, stacks.py -/
def globsC : List Str := ["Rule", "Stack", "InvalidRule", "InvalidStack", "StackError", "is_number", "is_word", "is_action", "actions_of", "CONTROLS", "ACTIONS", "RESULTS", "rules_of", "depth_of", "first_misfit"]
def freesC : List Str := ["isinstance", "str", "int", "bool", "tuple", "len", "all", "max", "sorted", "enumerate"]
def moresC : List He.Fa := [.str "LETTERS" letters, .int "LONGEST_WORD" 8, .int "LONGEST_JUMP" 9, .int "MOST_ENTRIES" 12, .int "MOST_RULES" 12, .int "MOST_MODULES" 6, .int "MOST_DEPTH" 3, .cls "Rule", .noat "Rule" "_module", .noat "Rule" "_control", .mkr "Rule",
  .cls "Stack", .noat "Stack" "_entries", .noat "Stack" "_rules", .noat "Stack" "_modules", .mkr "Stack", .noat "InvalidRule" "part", .noat "InvalidStack" "index", .meth "Rule" "__eq__", .meth "Stack" "__eq__", .meth "InvalidRule" "__init__", .meth "InvalidStack" "__init__"]
def faC : List He.Fa := globsC.map .glo ++ freesC.map .free ++ moresC
def fnC : List He.DefD := [dGl "is_number" sNum, dGl "is_word" sWord, dGl "is_action" sAction, dGl "actions_of" sActs, dGl "rules_of" sRulesOf, dGl "depth_of" sDepthOf, dGl "first_misfit" sMisfit, dMe "Rule" "__init__" "Rule.__init__" sRInit, dMe "Rule" "__eq__" "Rule.__eq__" sREq,
  dMe "InvalidRule" "__init__" "InvalidRule.__init__" sIRInit, dMe "InvalidStack" "__init__" "InvalidStack.__init__" sISInit, dMe "Stack" "__init__" "Stack.__init__" sSInit, dMe "Stack" "__eq__" "Stack.__eq__" sSEq]
def getsC : List GetD := [⟨"Rule", "module", "Rule.module", sRMod⟩, ⟨"Stack", "entries", "Stack.entries", sSEntries⟩, ⟨"Stack", "rules", "Stack.rules", sSRules⟩, ⟨"Stack", "modules", "Stack.modules", sSModules⟩]
def instB (K : PySem.W.Frag) (C : Addr) : Bool := He.eqO (PySem.W.findIn K (.ref C) "__class__") (some (some (.builtin "object.__class__"))) && (He.eqO (PySem.W.specialIn K (.builtin "object.__class__") "__get__") (some (some (.builtin "getset_descriptor.__get__"))) &&
  (decide (PySem.W.takesIn K (.builtin "object.__class__") = some true) && decide (PySem.W.mroIn K C (.type "object") = some true)))
theorem instB_ok {K : PySem.W.Frag} {C : Addr} (h : instB K C = true) : InstK K C := by
  obtain ⟨h1, h⟩ := He.ba h
  obtain ⟨h2, h⟩ := He.ba h
  obtain ⟨h3, h4⟩ := He.ba h
  exact ⟨He.eqO_ok h1, He.eqO_ok h2, of_decide_eq_true h3, of_decide_eq_true h4⟩
def exOwnB (K : PySem.W.Frag) (x : Str) : Bool := oexB K (He.ga K x) && (excB K (He.ga K x) && xfB K (He.ga K x))
theorem exOwnB_ok {K : PySem.W.Frag} {mg : Str → Option Value} {x : Str} (g : mg x = some (.ref (He.ga K x))) (h : exOwnB K x = true) : ExK K mg x (He.ga K x) := by
  obtain ⟨h1, h⟩ := He.ba h
  obtain ⟨h2, h3⟩ := He.ba h
  exact ⟨g, oexB_ok h1, excB_ok h2, xfB_ok h3⟩
def exC (K : PySem.W.Frag) : List Bool := [He.tupB K "ACTIONS" (actWords.map He.Dv.str), He.tupB K "RESULTS" (resWords.map He.Dv.str), ctrlB K (He.ga K "CONTROLS"), baseB K (He.ga K "StackError"), exOwnB K "InvalidRule", exOwnB K "InvalidStack",
  instB K (He.ga K "Rule"), instB K (He.ga K "Stack"), kitOB K (He.ga K "Rule") (.ref (He.ga K "Stack")) false, kitOB K (He.ga K "Stack") (.ref (He.ga K "Rule")) false, PySem.W.notFirst K (He.ga K "Rule") (.ref (He.ga K "Stack")), PySem.W.notFirst K (He.ga K "Stack") (.ref (He.ga K "Rule")),
  He.eqO (PySem.W.findIn K (.ref (He.ga K "Rule")) "__ne__") (some (some (.builtin "object.__ne__"))), He.eqO (PySem.W.findIn K (.ref (He.ga K "Stack")) "__ne__") (some (some (.builtin "object.__ne__"))),
  decide (PySem.W.typeIn K (.ref (He.ma K (He.ga K "InvalidRule") "__init__")) = some (.type "function")), decide (PySem.W.typeIn K (.ref (He.ma K (He.ga K "InvalidStack") "__init__")) = some (.type "function")), getsC.all (fun d => d.ok K)]
theorem faC_glob {x : Str} (hx : x ∈ globsC) : He.Fa.glo x ∈ faC := List.mem_append_left _ (List.mem_append_left _ (List.mem_map.mpr ⟨x, hx, rfl⟩))
theorem faC_free {x : Str} (hx : x ∈ freesC) : He.Fa.free x ∈ faC := List.mem_append_left _ (List.mem_append_right _ (List.mem_map.mpr ⟨x, hx, rfl⟩))
theorem faC_more {f : He.Fa} (hx : f ∈ moresC) : f ∈ faC := List.mem_append_right _ hx
section
variable {w : World} {h : Heap} {K : PySem.W.Frag} {mg : Str → Option Value} {fa : List He.Fa} {fn : List He.DefD}
theorem bools_mem {l : List Bool} (h : l.all id = true) {b : Bool} (hb : b ∈ l) : b = true := List.all_eq_true.mp h b hb
/-- a getter among those that the hook read -/
theorem get_of {gets : List GetD} (g : (gets.map fun d => fnA K (gAd K d.cls d.m)) = gets.map GetD.val) (e : gets.all (fun d => d.ok K) = true) {d : GetD} (hd : d ∈ gets) :
    ∃ fd, Fun K d.m d.qual d.st (gAd K d.cls d.m) fd ∧ PropOf K (He.ga K d.cls) d.m (He.ma K (He.ga K d.cls) d.m) (gAd K d.cls d.m) := by
  obtain ⟨i, hi⟩ := List.getElem?_of_mem hd
  have z : (gets.map fun d => fnA K (gAd K d.cls d.m))[i]? = (gets.map GetD.val)[i]? := by rw [g]
  rw [List.getElem?_map, List.getElem?_map, hi] at z
  exact GetD.fun_ (Option.some.inj z) (List.all_eq_true.mp e d hd)
abbrev CRn (K : PySem.W.Frag) : Addr := He.ga K "Rule"
abbrev CSn (K : PySem.W.Frag) : Addr := He.ga K "Stack"
abbrev CIn (K : PySem.W.Frag) : Addr := He.ga K "InvalidStack"
abbrev CXn (K : PySem.W.Frag) : Addr := He.ga K "InvalidRule"
abbrev CEn (K : PySem.W.Frag) : Addr := He.ga K "StackError"
theorem core_facts (X : K.In h) (G : h.Ns mainGlobals mg) (cd : He.SaysD fa fn K) (tab : ∃ es n, KDict K w (He.ga K "CONTROLS") es n) (hfa : ∀ f ∈ faC, f ∈ fa) (hfn : ∀ d ∈ fnC, d ∈ fn)
    (gC : ∀ d ∈ getsC, ∃ fd, Fun K d.m d.qual d.st (gAd K d.cls d.m) fd ∧ PropOf K (He.ga K d.cls) d.m (He.ma K (He.ga K d.cls) d.m) (gAd K d.cls d.m)) (ex : ∀ b ∈ exC K, b = true) (P : Program) (base : Heap) :
    Nonempty (StkC P w K mg base (CRn K) (CSn K) (CIn K) (CXn K)) := by
  have gl : ∀ {x : Str}, x ∈ globsC → mg x = some (.ref (He.ga K x)) := fun hx => He.glo_ok X G (cd.facts (hfa _ (faC_glob hx)))
  have fr : ∀ {x : Str}, x ∈ freesC → mg x = none := fun hx => He.free_ok X G (cd.facts (hfa _ (faC_free hx)))
  have mo : ∀ {f : He.Fa}, f ∈ moresC → f ∈ fa := fun hx => hfa _ (faC_more hx)
  have at_ : ∀ (i : Nat) (b : Bool), (exC K)[i]? = some b → b = true := fun i b e => ex b (List.mem_of_getElem? e)
  have RU : RuleK K mg (CRn K) := ⟨gl (by decide +kernel), He.cls_ok (cd.facts (mo (by simp [moresC]))), He.noat_ok (cd.facts (mo (by simp [moresC]))), He.noat_ok (cd.facts (mo (by simp [moresC])))⟩
  have NR := instB_ok (at_ 6 _ rfl)
  have NS := instB_ok (at_ 7 _ rfl)
  have kRS : PySem.W.kitOne K (.ref (CRn K)) (.ref (CSn K)) = some false := of_decide_eq_true (at_ 8 _ rfl)
  have kSR : PySem.W.kitOne K (.ref (CSn K)) (.ref (CRn K)) = some false := of_decide_eq_true (at_ 9 _ rfl)
  have TS : StackK K mg (CRn K) (CSn K) := ⟨RU, NR, gl (by decide +kernel), He.cls_ok (cd.facts (mo (by simp [moresC]))), NS, He.noat_ok (cd.facts (mo (by simp [moresC]))), He.noat_ok (cd.facts (mo (by simp [moresC]))), He.noat_ok (cd.facts (mo (by simp [moresC]))), kRS, fr (by decide +kernel)⟩
  have TZ : EqK K (CRn K) (CSn K) := ⟨kSR, at_ 10 _ rfl, at_ 11 _ rfl⟩
  have TT : RulesK K w mg := ⟨He.str_ok X G (cd.facts (mo (by simp [moresC]))), He.int_ok X G (cd.facts (mo (by simp [moresC]))), He.int_ok X G (cd.facts (mo (by simp [moresC]))), ⟨_, gl (by decide +kernel), fun H => tup_map actWords ▸ He.tupB_ok (at_ 0 _ rfl) H⟩, ⟨_, gl (by decide +kernel), fun H => tup_map resWords ▸ He.tupB_ok (at_ 1 _ rfl) H⟩,
    fr (by decide +kernel), fr (by decide +kernel), fr (by decide +kernel), fr (by decide +kernel), fr (by decide +kernel), fr (by decide +kernel), fr (by decide +kernel)⟩
  have TN : NumK mg := ⟨fr (by decide +kernel), fr (by decide +kernel), fr (by decide +kernel)⟩
  have TM : MisK mg := ⟨He.int_ok X G (cd.facts (mo (by simp [moresC]))), He.int_ok X G (cd.facts (mo (by simp [moresC]))), He.int_ok X G (cd.facts (mo (by simp [moresC]))), He.int_ok X G (cd.facts (mo (by simp [moresC]))), fr (by decide +kernel), fr (by decide +kernel), fr (by decide +kernel)⟩
  have DD : CtrlK K w mg (He.ga K "CONTROLS") := ctrlB_ok (gl (by decide +kernel)) (at_ 2 _ rfl) tab
  have BB : BaseX K mg (CEn K) := ⟨gl (by decide +kernel), baseB_ok (at_ 3 _ rfl)⟩
  have XR : ExK K mg "InvalidRule" (CXn K) := exOwnB_ok (gl (by decide +kernel)) (at_ 4 _ rfl)
  have XS : ExK K mg "InvalidStack" (CIn K) := exOwnB_ok (gl (by decide +kernel)) (at_ 5 _ rfl)
  have nP : PySem.W.findIn K (.ref (CXn K)) "part" = some none := He.noat_ok (cd.facts (mo (by simp [moresC])))
  have nI : PySem.W.findIn K (.ref (CIn K)) "index" = some none := He.noat_ok (cd.facts (mo (by simp [moresC])))
  obtain ⟨fdN, FN⟩ := defF (x := "is_number") (st := sNum) cd (hfn _ (by simp [fnC]))
  obtain ⟨fdW, FW⟩ := defF (x := "is_word") (st := sWord) cd (hfn _ (by simp [fnC]))
  obtain ⟨fdA, FA⟩ := defF (x := "is_action") (st := sAction) cd (hfn _ (by simp [fnC]))
  obtain ⟨fdO, FO⟩ := defF (x := "actions_of") (st := sActs) cd (hfn _ (by simp [fnC]))
  obtain ⟨fdU, FU⟩ := defF (x := "rules_of") (st := sRulesOf) cd (hfn _ (by simp [fnC]))
  obtain ⟨fdD, FD⟩ := defF (x := "depth_of") (st := sDepthOf) cd (hfn _ (by simp [fnC]))
  obtain ⟨fdM, FM⟩ := defF (x := "first_misfit") (st := sMisfit) cd (hfn _ (by simp [fnC]))
  obtain ⟨fdI, FI⟩ := defM (x := "Rule") (m := "__init__") (q := "Rule.__init__") (st := sRInit) cd (hfn _ (by simp [fnC]))
  obtain ⟨fdE, FE⟩ := defM (x := "Rule") (m := "__eq__") (q := "Rule.__eq__") (st := sREq) cd (hfn _ (by simp [fnC]))
  obtain ⟨fdX, FX⟩ := defM (x := "InvalidRule") (m := "__init__") (q := "InvalidRule.__init__") (st := sIRInit) cd (hfn _ (by simp [fnC]))
  obtain ⟨fdY, FY⟩ := defM (x := "InvalidStack") (m := "__init__") (q := "InvalidStack.__init__") (st := sISInit) cd (hfn _ (by simp [fnC]))
  obtain ⟨fdJ, FJ⟩ := defM (x := "Stack") (m := "__init__") (q := "Stack.__init__") (st := sSInit) cd (hfn _ (by simp [fnC]))
  obtain ⟨fdQ, FQ⟩ := defM (x := "Stack") (m := "__eq__") (q := "Stack.__eq__") (st := sSEq) cd (hfn _ (by simp [fnC]))
  obtain ⟨fd1, F1, P1⟩ := gC ⟨"Rule", "module", "Rule.module", sRMod⟩ (by simp [getsC])
  obtain ⟨fd2, F2, P2⟩ := gC ⟨"Stack", "entries", "Stack.entries", sSEntries⟩ (by simp [getsC])
  obtain ⟨fd3, F3, P3⟩ := gC ⟨"Stack", "rules", "Stack.rules", sSRules⟩ (by simp [getsC])
  obtain ⟨fd4, F4, P4⟩ := gC ⟨"Stack", "modules", "Stack.modules", sSModules⟩ (by simp [getsC])
  have bN : Binds K fdN ["value", "least", "most"] [] := FN.binds fun _ _ _ _ _ _ us hl => match us, hl with | [_, _, _], _ => rfl
  have bW : Binds K fdW ["value"] [] := FW.binds fun _ _ _ _ _ _ us hl => match us, hl with | [_], _ => rfl
  have bA : Binds K fdA ["value"] [] := FA.binds fun _ _ _ _ _ _ us hl => match us, hl with | [_], _ => rfl
  have bO : Binds K fdO ["control"] [] := FO.binds fun _ _ _ _ _ _ us hl => match us, hl with | [_], _ => rfl
  have bU : Binds K fdU ["entry"] [] := FU.binds fun _ _ _ _ _ _ us hl => match us, hl with | [_], _ => rfl
  have bD : Binds K fdD ["entry"] [] := FD.binds fun _ _ _ _ _ _ us hl => match us, hl with | [_], _ => rfl
  have bM : Binds K fdM ["entries"] [] := FM.binds fun _ _ _ _ _ _ us hl => match us, hl with | [_], _ => rfl
  have bI : Binds K fdI ["self", "module", "control"] [] := FI.binds fun _ _ _ _ _ _ us hl => match us, hl with | [_, _, _], _ => rfl
  have bE : Binds K fdE ["self", "other"] [] := FE.binds fun _ _ _ _ _ _ us hl => match us, hl with | [_, _], _ => rfl
  have bX : Binds K fdX ["self", "part"] [] := FX.binds fun _ _ _ _ _ _ us hl => match us, hl with | [_, _], _ => rfl
  have bY : Binds K fdY ["self", "index"] [] := FY.binds fun _ _ _ _ _ _ us hl => match us, hl with | [_, _], _ => rfl
  have bQ : Binds K fdQ ["self", "other"] [] := FQ.binds fun _ _ _ _ _ _ us hl => match us, hl with | [_, _], _ => rfl
  have b1 : Binds K fd1 ["self"] [] := F1.binds fun _ _ _ _ _ _ us hl => match us, hl with | [_], _ => rfl
  have b2 : Binds K fd2 ["self"] [] := F2.binds fun _ _ _ _ _ _ us hl => match us, hl with | [_], _ => rfl
  have b3 : Binds K fd3 ["self"] [] := F3.binds fun _ _ _ _ _ _ us hl => match us, hl with | [_], _ => rfl
  have b4 : Binds K fd4 ["self"] [] := F4.binds fun _ _ _ _ _ _ us hl => match us, hl with | [_], _ => rfl
  have mE : Meth K (CRn K) "__eq__" (He.ma K (CRn K) "__eq__") := He.meth_ok (cd.facts (mo (by simp [moresC])))
  have mQ : Meth K (CSn K) "__eq__" (He.ma K (CSn K) "__eq__") := He.meth_ok (cd.facts (mo (by simp [moresC])))
  have mX : Meth K (CXn K) "__init__" (He.ma K (CXn K) "__init__") := He.meth_ok (cd.facts (mo (by simp [moresC])))
  have mY : Meth K (CIn K) "__init__" (He.ma K (CIn K) "__init__") := He.meth_ok (cd.facts (mo (by simp [moresC])))
  have DN : DefK P w K mg base CX0 1 "is_number" ["value", "least", "most"] (spNum K) := ⟨ok_num FN TN, gl (by decide +kernel), FN.kp, bN⟩
  have GX : FnOk P w K mg base CX0 7 (He.ga K "first_misfit") fdM ["entries"] (spMisfit K (CRn K) (CSn K)) := ok_misfit FM TS TM (gl (by decide +kernel)) kSR FD (gl (by decide +kernel)) bD F2 b2 P2 FU (gl (by decide +kernel)) bU F3 b3 P3 F1 b1 P1
  have ER : OwnEqK P w K mg base (CRn K) 1 (spEqB (RR K (CRn K) (CSn K))) := ⟨ok_reqB FE TS TZ, bE, mE.1, mE.2⟩
  exact ⟨{ T := TS, Z := TZ,
           GI := ok_sinit FJ TS GX (gl (by decide +kernel)) FM.kp bM XS nI BB FY bY mY.at_ (of_decide_eq_true (at_ 15 _ rfl)) FU (gl (by decide +kernel)) bU F3 b3 P3 F1 b1 P1 (fr (by decide +kernel)) (fr (by decide +kernel)),
           MS := He.mkr_ok (cd.facts (mo (by simp [moresC]))),
           GR := ok_rinit FI RU TT DD FW (gl (by decide +kernel)) bW FO (gl (by decide +kernel)) bO FA (gl (by decide +kernel)) bA XR nP BB FX bX DN mX.at_ (of_decide_eq_true (at_ 14 _ rfl)),
           MR := He.mkr_ok (cd.facts (mo (by simp [moresC]))), bR := bI,
           PE := ⟨ok_sentries F2 TS, b2, P2⟩, PR := ⟨ok_srules F3 TS, b3, P3⟩, PM := ⟨ok_smodules F4 TS, b4, P4⟩, PB := ⟨ok_smodulesB F4 TS, b4, P4⟩, PN := ⟨ok_mod F1 RU, b1, P1⟩,
           ER := ER, ES := fun d => ⟨ok_seqB FQ bQ mQ.1 mQ.2 TS TZ ER d, bQ, mQ.1, mQ.2⟩, neR := He.eqO_ok (at_ 12 _ rfl), neS := He.eqO_ok (at_ 13 _ rfl) }⟩
end
end LS
set_option maxHeartbeats 4000000
/-! the head's hook over written addresses alone -/
namespace LS
open PySem PySem.Spec PyProof.Rows L2
def kS (as : List Addr) (g : Addr → Option Obj) : PySem.W.Frag := He.frT g as
def obsS (as : List Addr) (fa : List He.Fa) (fn : List He.DefD) (ts : List He.Tab) (tf : List He.Defn) (ex : PySem.W.Frag → Bool) (gets : List GetD) (g : Addr → Option Obj) : AlL :=
  ((He.obsT fa fn ts (kS as g), ex (kS as g) && He.tabsB g tf (kS as g)), gets.map fun d => fnA (kS as g) (gAd (kS as g) d.cls d.m))
theorem saysS_of {as : List Addr} {fa : List He.Fa} {fn : List He.DefD} {ts : List He.Tab} {tf : List He.Defn} {ex : PySem.W.Frag → Bool} {gets : List GetD} {w : World} {h : Heap} (e : obsS as fa fn ts tf ex gets h.get? = valG fn ts gets w) : ∃ K : PySem.W.Frag, K.In h ∧ SaysL fa fn ts tf ex gets w h K := by
  obtain ⟨e1, e2⟩ := Prod.mk.inj e
  obtain ⟨e3, e4⟩ := Prod.mk.inj e1
  obtain ⟨e5, e6⟩ := He.ba e4
  exact ⟨kS as h.get?, He.frT_in, e3, e5, fun p hp => tabs_of e6 p hp, e2⟩
def hookS (as : List Addr) (fa : List He.Fa) (fn : List He.DefD) (ts : List He.Tab) (tf : List He.Defn) (ex : PySem.W.Frag → Bool) (gets : List GetD) : PySem.W.Hook where
  α := AlL
  obs := fun s => obsS as fa fn ts tf ex gets s.heap.get?
  val := fun w => valG fn ts gets w
  says := fun w h => ∃ K : PySem.W.Frag, K.In h ∧ SaysL fa fn ts tf ex gets w h K
  of := fun _ _ e => saysS_of e
  keeps := fun _ _ _ ⟨K, hK, c⟩ k => ⟨K, PySem.W.Frag.In.keeps hK k, c.t, c.more, fun p hp => ⟨(c.tab p hp).1, (c.tab p hp).2.1, k _ _ (c.tab p hp).2.2⟩, c.get⟩
theorem obsS_eq {as : List Addr} {fa : List He.Fa} {fn : List He.DefD} {ts : List He.Tab} {tf : List He.Defn} {ex : PySem.W.Frag → Bool} {gets : List GetD} {g : Addr → Option Obj} {s : Shared} (h : ∀ a, g a = s.heap.get? a) : obsS as fa fn ts tf ex gets g = (hookS as fa fn ts tf ex gets).obs s := by
  have e : g = s.heap.get? := funext h
  rw [e] <;> rfl
end LS
set_option maxHeartbeats 0
namespace LSH
open LS
open PySem PySem.Spec PyProof.Rows L2
abbrev sRCtl : Stmt := inClass (top i_Rule) 2

def globs : List Str := (["Teller", "Run", "run_of", "whole_run", "word_of", "leads", "answers_with", "words_of", "with_result", "Questions", "places_of", "results_told", "rows_behind", "settling_rows", "cover", "all_orders", "shortest_cover", "results_text", "cover_text", "answer_count"] : List Str) ++ (["answers_in", "in_count", "_law_taken", "_law_control", "_law_names", "_law_stack", "law"] : List Str)
def frees : List Str := ["range", "list"]
def mores : List He.Fa := [.cls "Run", .cls "Teller", .noat "Teller" "answers", .noat "Run" "teller", .noat "Run" "mark", .noat "Run" "spoiler", .noat "Run" "numbers", .mkr "Run", .mkr "Teller", .meth "Run" "go_through", .meth "Run" "ask", .meth "Run" "change_mark", .meth "Run" "is_end", .meth "Teller" "tell", .meth "Stack" "__add__", .cls "Questions", .noat "Questions" "start", .noat "Questions" "words", .noat "Questions" "numbers", .mkr "Questions", .meth "Questions" "settled_word", .int "MOST_ORDERED" 4]
def faL : List He.Fa := globs.map .glo ++ frees.map .free ++ mores
def fa : List He.Fa := faC ++ faL
def fnL : List He.DefD := [dMe "Teller" "__init__" "Teller.__init__" (inClass (top i_Teller) 0), dMe "Teller" "tell" "Teller.tell" (inClass (top i_Teller) 1), dMe "Run" "__init__" "Run.__init__" (inClass (top i_Run) 0), dMe "Run" "go_through" "Run.go_through" (inClass (top i_Run) 1), dMe "Run" "ask" "Run.ask" (inClass (top i_Run) 2), dMe "Run" "change_mark" "Run.change_mark" (inClass (top i_Run) 3), dMe "Run" "is_end" "Run.is_end" (inClass (top i_Run) 4), dGl "run_of" (top i_run_of), dGl "whole_run" (top i_whole_run), dGl "word_of" (top i_word_of), dGl "leads" (top i_leads), dMe "Stack" "__add__" "Stack.__add__" (inClass (top i_Stack) 7), dGl "answers_with" (top i_answers_with), dGl "words_of" (top i_words_of), dGl "with_result" (top i_with_result), dMe "Questions" "__init__" "Questions.__init__" (inClass (top i_Questions) 0), dMe "Questions" "settled_word" "Questions.settled_word" (inClass (top i_Questions) 1), dGl "places_of" (top i_places_of), dGl "results_told" (top i_results_told), dGl "rows_behind" (top i_rows_behind), dGl "settling_rows" (top i_settling_rows), dGl "cover" (top i_cover), dGl "all_orders" (top i_all_orders), dGl "shortest_cover" (top i_shortest_cover), dGl "results_text" (top i_results_text), dGl "cover_text" (top i_cover_text), dGl "answer_count" (top i_answer_count), dGl "answers_in" (top i_answers_in), dGl "in_count" (top i_in_count), dGl "_law_taken" sTaken, dGl "_law_control" (top i__law_control), dGl "_law_names" (top i__law_names), dGl "_law_stack" (top i__law_stack), dGl "law" (top i_law)]
def fn : List He.DefD := fnC ++ fnL
def getC : GetD := ⟨"Rule", "control", "Rule.control", sRCtl⟩
def gets : List GetD := getsC ++ [getC]
def ts : List He.Tab := [((fun K => He.ga K "CONTROLS"), ctrlTab.map (·.1))]
def tf : List He.Defn := []
def tupKB (K : PySem.W.Frag) (a : Addr) : Bool := match K.lookup a with
  | some ⟨.type c, none, _, _⟩ => decide (c = "tuple")
  | _ => false
theorem tupKB_ok {K : PySem.W.Frag} {a : Addr} (h : tupKB K a = true) : ∃ o, K.lookup a = some o ∧ o.cls = .type "tuple" ∧ o.dict = none := by
  unfold tupKB at h
  split at h
  · rename_i c d s q
    exact ⟨_, q, by rw [of_decide_eq_true h], rfl⟩
  · cases h
def exLL (K : PySem.W.Frag) : List Bool := [PySem.W.selfFirst K (CSn K), gets.all (fun d => d.ok K), tupKB K (He.ga K "RESULTS")]
def exL (K : PySem.W.Frag) : List Bool := exC K ++ exLL K
def exA (K : PySem.W.Frag) : Bool := (exL K).all id
def asL : List Addr := ([3, 255, 254, 348, 349, 146, 145, 454, 455, 299, 300, 77, 57, 58, 76, 38, 37, 55, 74, 195, 194, 318, 202, 203, 231, 238, 120, 143, 290, 297] : List Addr) ++ ([112, 119, 325, 332, 339, 346, 438, 179, 433, 186, 187, 541, 185, 398, 381, 193, 201, 118, 28, 266, 271, 276, 127, 128, 92, 155, 162, 360, 367, 374] : List Addr) ++ ([386, 391, 479, 405, 412, 419, 167, 94, 464, 469, 474, 508, 486, 491, 496, 501, 520, 515, 527, 534, 96, 359, 265, 366, 111, 373, 270, 380, 95, 385] : List Addr) ++ ([73, 390, 275, 397, 230, 404, 289, 411, 98, 418, 296, 432, 166, 437, 237, 178, 2, 463, 142, 468, 317, 473, 54, 478, 324, 485, 27, 490, 331, 495] : List Addr) ++ ([93, 500, 338, 507, 154, 514, 345, 519, 97, 526, 161, 533, 126, 540] : List Addr)
abbrev hk : PySem.W.Hook := hookS asL fa fn ts tf exA gets
def ob (s : PySem.W.SharedT) : AlL := obsS asL fa fn ts tf exA gets (HandSHeadRun.getT s)
theorem ob_eq (s : PySem.W.SharedT) : ob s = hk.obs s.abs := obsS_eq (HandSHeadRun.getT_eq s)
end LSH
namespace LSH
open LS
open PySem PySem.Spec PyProof.Rows L2
abbrev R : PySem.W.OpenRow := PySem.W.OpenLaw.row rwL
abbrev RunP (w : World) : Prop := HandSHeadRun.RunEq R (PySem.W.view R.prog [LS.i_law]) hk ob 20000 loose w
theorem run_f (w : World) : RunP (w.withFollow "special-get-raises" false) := by
  intro os
  kernel_rfl
theorem run_t (w : World) : RunP (w.withFollow "special-get-raises" true) := by
  intro os
  kernel_rfl
theorem run (w : World) : HandSHeadRun.RunEq R (PySem.W.view R.prog [LS.i_law]) hk ob 20000 loose w :=
  PySem.W.byRow2 "special-get-raises" (P := RunP) run_f run_t w
end LSH
set_option maxHeartbeats 4000000
namespace LS
open PySem L2
/-- a drawing row: the script, how far, two numbers -/
def RowIs (H : Hp) (r sc : Addr) : Prop := ∃ i s b : Int, 0 ≤ i ∧ H r = some (.lst [.ref sc, .int i, .int s, .int b])
/-- a drawn number: some k below many; the row is another one, all else stands -/
def spTaken (K : PySem.W.Frag) : Sp := fun vs H Q _ => ∃ (r sc : Addr) (ns : List Int) (many : Int), vs = [.ref r, .int many] ∧ 0 < many ∧ many < 9223372036854775808 ∧ SqL K H sc (ns.map V.int) ∧ RowIs H r sc ∧
  ∀ (k : Int) (H' : Hp), 0 ≤ k → k < many → RowIs H' r sc → (∀ q, q ≠ r → H' q = H q) → Q (.int k) H'
theorem seq_but {K : PySem.W.Frag} {H H' : Hp} {r sc : Addr} {ns : List Int} (hs : SqL K H sc (ns.map V.int)) (hr : RowIs H r sc) (e : ∀ q, q ≠ r → H' q = H q) : SqL K H' sc (ns.map V.int) := by
  obtain ⟨i, s, b, _, hr⟩ := hr
  by_cases h : sc = r
  · subst h
    rcases hs with (q | ⟨o, q⟩) | q
    · rw [hr] at q
      cases ns with
      | nil => simp at q
      | cons n ns => simp at q
    · rw [hr] at q
      cases q
    · exact .inr q
  · rcases hs with (q | ⟨o, q⟩) | q
    · exact .inl (.inl (by rw [e _ h]; exact q))
    · exact .inl (.inr ⟨o, by rw [e _ h]; exact q⟩)
    · exact .inr q
/-- the drawing row at r, the script at sc -/
def Drw (K : PySem.W.Frag) (H : Hp) (r sc : Addr) (ns : List Int) : Prop := SqL K H sc (ns.map V.int) ∧ RowIs H r sc
theorem row_tup {K : PySem.W.Frag} {H H' : Hp} {r sc a : Addr} {xs : List V} (hr : RowIs H r sc) (e : SameBut r H H') (h : SqT K H a xs) : SqT K H' a xs := by
  obtain ⟨i, s, b, _, hr⟩ := hr
  have ne : ∀ {o : HO}, H a = some o → (∀ l, o ≠ .lst l) → a ≠ r := fun {o} q n z => by
    rw [z, hr] at q
    exact n _ (Option.some.inj q).symm
  rcases h with (h | ⟨o, h⟩) | h
  · exact .inl (.inl (e _ _ (ne h fun _ z => nomatch z) h))
  · exact .inl (.inr ⟨o, e _ _ (ne h fun _ z => nomatch z) h⟩)
  · exact .inr h
mutual
theorem row_dp {K : PySem.W.Frag} {H H' : Hp} {r sc : Addr} (hr : RowIs H r sc) (e : SameBut r H H') : ∀ (d : PyData) (v : V), noLs d = true → Dp K H v d → Dp K H' v d
  | .none, _, _, h => by cases h; exact .non
  | .bool _, _, _, h => by cases h; exact .bl _
  | .int _, _, _, h => by cases h; exact .int _
  | .str _, _, _, h => by cases h; exact .str _
  | .list ds, _, n, h => nomatch n
  | .tuple ds, _, n, h => by
    cases h with
    | tup hs ha => exact .tup (row_tup hr e hs) (row_dps hr e ds _ n ha)
  | .dict _, _, n, h => nomatch n
theorem row_dps {K : PySem.W.Frag} {H H' : Hp} {r sc : Addr} (hr : RowIs H r sc) (e : SameBut r H H') : ∀ (ds : List PyData) (vs : List V), noLss ds = true → DpAll K H vs ds → DpAll K H' vs ds
  | [], _, _, h => by cases h; exact .nil
  | d :: ds, _, n, h => by
    cases h with
    | cons h1 h2 =>
      obtain ⟨n1, n2⟩ := Bool.and_eq_true_iff.mp (show (noLs d && noLss ds) = true from n)
      exact .cons (row_dp hr e d _ n1 h1) (row_dps hr e ds _ n2 h2)
end
theorem row_ne {H : Hp} {r sc q : Addr} {o : HO} (hr : RowIs H r sc) (hq : H q = some o) (n : ∀ a, o ≠ .lst (.ref sc :: a)) : q ≠ r := fun z => by
  obtain ⟨i, s, b, _, hr⟩ := hr
  rw [z, hr] at hq
  exact n _ (Option.some.inj hq).symm
theorem row_new {H : Hp} {r sc q : Addr} {o : HO} (hr : RowIs H r sc) (hq : H q = none) : RowIs (upd H q o) r sc := by
  obtain ⟨i, s, b, h0, hr⟩ := hr
  exact ⟨i, s, b, h0, by rw [upd_ne (ne_of_none hr hq)]; exact hr⟩
theorem seq_new {K : PySem.W.Frag} {H : Hp} {sc q : Addr} {xs : List V} {o : HO} (hs : SqL K H sc xs) (hq : H q = none) : SqL K (upd H q o) sc xs := (same_upd hq (Same.refl H)).seq hs
theorem seq_row {K : PySem.W.Frag} {H H' : Hp} {r sc : Addr} {ns : List Int} (hs : SqL K H sc (ns.map V.int)) (hr : RowIs H r sc) (e : SameBut r H H') : SqL K H' sc (ns.map V.int) := by
  obtain ⟨i, s, b, _, hr⟩ := hr
  have ne : ∀ {o : HO}, H sc = some o → (∀ l, o ≠ .lst (.ref sc :: l)) → sc ≠ r := fun {o} q n z => by
    have q2 := q
    rw [z, hr] at q2
    exact n _ (Option.some.inj q2).symm
  rcases hs with (q | ⟨o, q⟩) | q
  · refine .inl (.inl (e _ _ (ne q fun l z => ?_) q))
    cases ns with
    | nil => simp at z
    | cons n ns => simp at z
  · exact .inl (.inr ⟨o, e _ _ (ne q fun l z => nomatch z) q⟩)
  · exact .inr q
theorem but_of {r : Addr} {H H' : Hp} (e : ∀ q, q ≠ r → H' q = H q) : SameBut r H H' := fun b o hb q => (e b hb).trans q
theorem SameBut.trans {r : Addr} {H H1 H2 : Hp} (a : SameBut r H H1) (b : SameBut r H1 H2) : SameBut r H H2 := fun c o h q => b c o h (a c o h q)
theorem SameBut.of {r : Addr} {H H1 : Hp} (a : Same H H1) : SameBut r H H1 := fun c o _ q => a c o q
theorem SameBut.new {r p : Addr} {H H1 : Hp} {o : HO} (a : SameBut r H H1) (n : H p = none) : SameBut r H (upd H1 p o) := fun c u h q => by
  rw [upd_ne (ne_of_none q n)]
  exact a c u h q
theorem row_same {H H' : Hp} {r sc : Addr} (h : RowIs H r sc) (e : Same H H') : RowIs H' r sc := by
  obtain ⟨i, s, b, h0, h⟩ := h
  exact ⟨i, s, b, h0, e _ _ h⟩
theorem Drw.same {K : PySem.W.Frag} {H H' : Hp} {r sc : Addr} {ns : List Int} (h : Drw K H r sc ns) (e : Same H H') : Drw K H' r sc ns := ⟨e.seq h.1, row_same h.2 e⟩
/-- a new list is not the script -/
def Far (K : PySem.W.Frag) (l sc : Addr) (xs : List V) : Prop := l ≠ sc ∨ ∀ H, SqL K H sc xs
theorem far_of {K : PySem.W.Frag} {H : Hp} {l sc : Addr} {xs : List V} (h : SqL K H sc xs) (n : H l = none) : Far K l sc xs := by
  rcases h with (h | ⟨o, h⟩) | h
  · exact .inl fun e => by rw [e, h] at n; cases n
  · exact .inl fun e => by rw [e, h] at n; cases n
  · exact .inr fun _ => .inr h
theorem far_upd {K : PySem.W.Frag} {H : Hp} {l sc : Addr} {xs : List V} {o : HO} (F : Far K l sc xs) (h : SqL K H sc xs) : SqL K (upd H l o) sc xs := by
  rcases F with ne | F
  · rcases h with (h | ⟨z, h⟩) | h
    · exact .inl (.inl (by rw [upd_ne (Ne.symm ne)]; exact h))
    · exact .inl (.inr ⟨z, by rw [upd_ne (Ne.symm ne)]; exact h⟩)
    · exact .inr h
  · exact F _
theorem ext_tup {K : PySem.W.Frag} {H H' : Hp} {a : Addr} {xs : List V} (e : LamX.ExtN H H') (h : SqT K H a xs) : SqT K H' a xs := by
  rcases h with (h | ⟨o, h⟩) | h
  · exact .inl (.inl (e _ _ h fun _ z => nomatch z))
  · exact .inl (.inr ⟨o, e _ _ h fun _ z => nomatch z⟩)
  · exact .inr h
theorem ext_lst {K : PySem.W.Frag} {H H' : Hp} {a : Addr} {xs : List V} (e : LamX.ExtN H H') (h : SqL K H a xs) : SqL K H' a xs := by
  rcases h with (h | ⟨o, h⟩) | h
  · exact .inl (.inl (e _ _ h fun _ z => nomatch z))
  · exact .inl (.inr ⟨o, e _ _ h fun _ z => nomatch z⟩)
  · exact .inr h
mutual
theorem ext_dp {K : PySem.W.Frag} {H H' : Hp} (e : LamX.ExtN H H') : ∀ (d : PyData) (v : V), Dp K H v d → Dp K H' v d
  | .none, _, h => by cases h; exact .non
  | .bool _, _, h => by cases h; exact .bl _
  | .int _, _, h => by cases h; exact .int _
  | .str _, _, h => by cases h; exact .str _
  | .list ds, _, h => by
    cases h with
    | lst hs ha => exact .lst (ext_lst e hs) (ext_dps e ds _ ha)
  | .tuple ds, _, h => by
    cases h with
    | tup hs ha => exact .tup (ext_tup e hs) (ext_dps e ds _ ha)
  | .dict _, _, h => by cases h
theorem ext_dps {K : PySem.W.Frag} {H H' : Hp} (e : LamX.ExtN H H') : ∀ (ds : List PyData) (vs : List V), DpAll K H vs ds → DpAll K H' vs ds
  | [], _, h => by cases h; exact .nil
  | d :: ds, _, h => by
    cases h with
    | cons h1 h2 => exact .cons (ext_dp e d _ h1) (ext_dps e ds _ h2)
end
/-- tables of code stay when the row changes -/
theorem tabs_row {T : List (Addr × Str)} {H H' : Hp} {r sc : Addr} (t : LamX.Tabs T H) (R : RowIs H r sc) (B : ∀ q, q ≠ r → H' q = H q) : LamX.Tabs T H' := fun p hp => by
  obtain ⟨ps, h1, h2, h3⟩ := t p hp
  refine ⟨ps, by rw [B _ (row_ne R h1 fun _ z => nomatch z)]; exact h1, h2, fun pos cv hc => ?_⟩
  obtain ⟨c, e1, e2⟩ := h3 pos cv hc
  exact ⟨c, e1, by rw [B _ (row_ne R e2 fun _ z => nomatch z)]; exact e2⟩
end LS
namespace LS
open PySem L2
/-! plain stacks: lists of pairs (name, table) and of lists -/
inductive Pl where
  | rule (z : Str) (ds : List PyData)
  | stk (ps : List Pl)
mutual
def PlAt (K : PySem.W.Frag) (H : Hp) : Pl → V → Prop
  | .rule z ds, v => (∃ p t, v = .ref p ∧ SqT K H p [.str z, .ref t] ∧ Dp K H (.ref t) (.tuple ds)) ∧ noLss ds = true
  | .stk ps, v => ∃ p xs, v = .ref p ∧ H p = some (.lst xs) ∧ PlsAt K H ps xs
def PlsAt (K : PySem.W.Frag) (H : Hp) : List Pl → List V → Prop
  | [], xs => xs = []
  | p :: ps, xs => ∃ x r, xs = x :: r ∧ PlAt K H p x ∧ PlsAt K H ps r
end
mutual
def rulesP : Pl → List (Str × List PyData)
  | .rule z ds => [(z, ds)]
  | .stk ps => rulesPs ps
def rulesPs : List Pl → List (Str × List PyData)
  | [] => []
  | p :: ps => rulesP p ++ rulesPs ps
end
mutual
def depthP : Pl → Nat
  | .rule _ _ => 0
  | .stk ps => 1 + depthPs ps
def depthPs : List Pl → Nat
  | [] => 0
  | p :: ps => max (depthP p) (depthPs ps)
end
mutual
theorem pl_same {K : PySem.W.Frag} {H H' : Hp} (S : Same H H') : ∀ (p : Pl) (v : V), PlAt K H p v → PlAt K H' p v
  | .rule z ds, v, ⟨⟨p, t, e, h1, h2⟩, n⟩ => ⟨⟨p, t, e, same_tup S h1, same_dp S _ _ h2⟩, n⟩
  | .stk ps, v, ⟨p, xs, e, h1, h2⟩ => ⟨p, xs, e, S _ _ h1, pls_same S ps xs h2⟩
theorem pls_same {K : PySem.W.Frag} {H H' : Hp} (S : Same H H') : ∀ (ps : List Pl) (xs : List V), PlsAt K H ps xs → PlsAt K H' ps xs
  | [], xs, h => h
  | p :: ps, xs, ⟨x, r, e, h1, h2⟩ => ⟨x, r, e, pl_same S p x h1, pls_same S ps r h2⟩
end
theorem pl_ref {K : PySem.W.Frag} {H : Hp} : ∀ {p : Pl} {v : V}, PlAt K H p v → ∃ a, v = .ref a
  | .rule _ _, _, ⟨⟨p, _, e, _⟩, _⟩ => ⟨p, e⟩
  | .stk _, _, ⟨p, _, e, _⟩ => ⟨p, e⟩
theorem pls_ref {K : PySem.W.Frag} {H : Hp} : ∀ {ps : List Pl} {xs : List V}, PlsAt K H ps xs → ∀ x ∈ xs, ∃ a, x = .ref a
  | [], xs, h, x, hx => by
    have h : xs = [] := h
    rw [h] at hx
    exact nomatch hx
  | p :: ps, xs, ⟨y, r, e, h1, h2⟩, x, hx => by
    subst e
    rcases List.mem_cons.mp hx with rfl | hx
    · exact pl_ref h1
    · exact pls_ref h2 x hx
/-- a list of references is not the drawing row -/
theorem refs_ne {H : Hp} {r sc q : Addr} {xs : List V} (R : RowIs H r sc) (h : H q = some (.lst xs)) (hx : ∀ x ∈ xs, ∃ a, x = .ref a) : q ≠ r := fun e => by
  obtain ⟨i, s, b, _, h2⟩ := R
  rw [e, h2] at h
  cases h
  obtain ⟨a, z⟩ := hx (.int i) (by simp)
  cases z
mutual
theorem pl_row {K : PySem.W.Frag} {H H' : Hp} {r sc : Addr} (R : RowIs H r sc) (S : SameBut r H H') : ∀ (p : Pl) (v : V), PlAt K H p v → PlAt K H' p v
  | .rule z ds, v, ⟨⟨p, t, e, h1, h2⟩, n⟩ => ⟨⟨p, t, e, row_tup R S h1, row_dp R S (.tuple ds) (.ref t) n h2⟩, n⟩
  | .stk ps, v, ⟨p, xs, e, h1, h2⟩ => ⟨p, xs, e, S _ _ (refs_ne R h1 (pls_ref h2)) h1, pls_row R S ps xs h2⟩
theorem pls_row {K : PySem.W.Frag} {H H' : Hp} {r sc : Addr} (R : RowIs H r sc) (S : SameBut r H H') : ∀ (ps : List Pl) (xs : List V), PlsAt K H ps xs → PlsAt K H' ps xs
  | [], xs, h => h
  | p :: ps, xs, ⟨x, t, e, h1, h2⟩ => ⟨x, t, e, pl_row R S p x h1, pls_row R S ps t h2⟩
end
mutual
theorem pl_ext {K : PySem.W.Frag} {H H' : Hp} (S : LamX.ExtN H H') : ∀ (p : Pl) (v : V), PlAt K H p v → PlAt K H' p v
  | .rule z ds, v, ⟨⟨p, t, e, h1, h2⟩, n⟩ => ⟨⟨p, t, e, ext_tup S h1, ext_dp S _ _ h2⟩, n⟩
  | .stk ps, v, ⟨p, xs, e, h1, h2⟩ => ⟨p, xs, e, S _ _ h1 (fun _ z => nomatch z), pls_ext S ps xs h2⟩
theorem pls_ext {K : PySem.W.Frag} {H H' : Hp} (S : LamX.ExtN H H') : ∀ (ps : List Pl) (xs : List V), PlsAt K H ps xs → PlsAt K H' ps xs
  | [], xs, h => h
  | p :: ps, xs, ⟨x, t, e, h1, h2⟩ => ⟨x, t, e, pl_ext S p x h1, pls_ext S ps t h2⟩
end
theorem pls_len {K : PySem.W.Frag} {H : Hp} : ∀ {ps : List Pl} {xs : List V}, PlsAt K H ps xs → xs.length = ps.length
  | [], xs, h => by
    have h : xs = [] := h
    rw [h]
    rfl
  | p :: ps, xs, ⟨y, r, e, _, h2⟩ => by
    subst e
    rw [List.length_cons, List.length_cons, pls_len h2]
theorem pls_get {K : PySem.W.Frag} {H : Hp} : ∀ {ps : List Pl} {xs : List V} {i : Nat} {x : V}, PlsAt K H ps xs → xs[i]? = some x → ∃ p, ps[i]? = some p ∧ PlAt K H p x
  | [], xs, i, x, h, hx => by
    have h : xs = [] := h
    rw [h] at hx
    simp at hx
  | p :: ps, xs, 0, x, ⟨y, r, e, h1, _⟩, hx => by
    subst e
    simp at hx
    subst hx
    exact ⟨p, rfl, h1⟩
  | p :: ps, xs, i + 1, x, ⟨y, r, e, _, h2⟩, hx => by
    subst e
    exact pls_get (i := i) h2 (by simpa using hx)
theorem pls_append {K : PySem.W.Frag} {H : Hp} : ∀ {ps : List Pl} {xs : List V} {qs : List Pl} {ys : List V}, PlsAt K H ps xs → PlsAt K H qs ys → PlsAt K H (ps ++ qs) (xs ++ ys)
  | [], xs, qs, ys, h, h2 => by
    have h : xs = [] := h
    rw [h]
    exact h2
  | p :: ps, xs, qs, ys, ⟨y, r, e, h1, h2⟩, h3 => by
    subst e
    exact ⟨y, r ++ ys, rfl, h1, pls_append h2 h3⟩
theorem pls_one {K : PySem.W.Frag} {H : Hp} {p : Pl} {x : V} (h : PlAt K H p x) : PlsAt K H [p] [x] := ⟨x, [], rfl, h, rfl⟩
theorem rulesPs_append : ∀ (a b : List Pl), rulesPs (a ++ b) = rulesPs a ++ rulesPs b
  | [], _ => rfl
  | p :: a, b => by
    show rulesP p ++ rulesPs (a ++ b) = (rulesP p ++ rulesPs a) ++ rulesPs b
    rw [rulesPs_append a b, List.append_assoc]
theorem depthPs_append : ∀ (a b : List Pl), depthPs (a ++ b) = max (depthPs a) (depthPs b)
  | [], b => by show depthPs b = max 0 (depthPs b); omega
  | p :: a, b => by
    show max (depthP p) (depthPs (a ++ b)) = max (max (depthP p) (depthPs a)) (depthPs b)
    rw [depthPs_append a b]
    omega
theorem depthPs_get : ∀ {ps : List Pl} {i : Nat} {p : Pl}, ps[i]? = some p → depthP p ≤ depthPs ps
  | [], i, p, h => by simp at h
  | q :: ps, 0, p, h => by simp at h; subst h; exact Nat.le_max_left _ _
  | q :: ps, i + 1, p, h => Nat.le_trans (depthPs_get (i := i) (by simpa using h)) (Nat.le_max_right _ _)
/-- rules alone, as plain entries -/
def rulePl (rs : List (Str × List PyData)) : List Pl := rs.map fun r => .rule r.1 r.2
/-! what is new in a heap; a heap without one object -/
def fresh (H H' : Hp) : Hp := fun b => if (H b).isNone = true then H' b else none
def less (l : Addr) (H : Hp) : Hp := fun b => if b = l then none else H b
theorem fresh_at {H H' : Hp} {b : Addr} {o : HO} (h : H b = none) (h2 : H' b = some o) : fresh H H' b = some o := by
  unfold fresh
  rw [h]
  exact h2
theorem fresh_of {H H' : Hp} {b : Addr} {o : HO} (h : fresh H H' b = some o) : H b = none ∧ H' b = some o := by
  unfold fresh at h
  cases q : H b with
  | none => rw [q] at h; exact ⟨rfl, h⟩
  | some u => rw [q] at h; cases h
theorem fresh_le {H H' : Hp} : Same (fresh H H') H' := fun _ _ h => (fresh_of h).2
theorem less_le {l : Addr} {H : Hp} : Same (less l H) H := fun b o h => by
  unfold less at h
  by_cases e : b = l
  · rw [if_pos e] at h
    cases h
  · rw [if_neg e] at h
    exact h
theorem less_of {l b : Addr} {H : Hp} {o : HO} (h : less l H b = some o) : b ≠ l ∧ H b = some o := by
  unfold less at h
  by_cases e : b = l
  · rw [if_pos e] at h
    cases h
  · rw [if_neg e] at h
    exact ⟨e, h⟩
theorem less_at {l b : Addr} {H : Hp} {o : HO} (e : b ≠ l) (h : H b = some o) : less l H b = some o := by
  unfold less
  rw [if_neg e]
  exact h
/-! the tables that are drawn -/
def actD : List PyData := [.str "ok", .str "bad", .str "die", .str "done", .str "ignore", .str "reset", .int 1, .int 2, .int 9]
def OkT (ds : List PyData) : Prop := ds.length = 4 ∧ ∀ d ∈ ds, d ∈ actD
def wordT : List (List PyData) := ctrlTab.map fun r => r.2.map PyData.str
theorem wordT_ok : ∀ ds ∈ wordT, OkT ds := by
  intro ds h
  have q : ds = tReq.map PyData.str ∨ ds = tRqs.map PyData.str ∨ ds = tSuf.map PyData.str ∨ ds = tOpt.map PyData.str := by
    have h : ds ∈ [tReq.map PyData.str, tRqs.map PyData.str, tSuf.map PyData.str, tOpt.map PyData.str] := h
    simpa using h
  have mem : ∀ z ∈ actWords, PyData.str z ∈ actD := fun z hz => by
    have all6 : actWords.map PyData.str = [.str "ok", .str "bad", .str "die", .str "done", .str "ignore", .str "reset"] := rfl
    have hz2 := List.mem_map_of_mem (f := PyData.str) hz
    rw [all6] at hz2
    exact List.mem_append_left [.int 1, .int 2, .int 9] hz2
  have all4 : ∀ t ∈ [tReq, tRqs, tSuf, tOpt], t.length = 4 ∧ ∀ z ∈ t, z ∈ actWords := by decide +kernel
  have fin : ∀ t ∈ [tReq, tRqs, tSuf, tOpt], OkT (t.map PyData.str) := fun t ht => by
    obtain ⟨q1, q2⟩ := all4 t ht
    refine ⟨by rw [List.length_map]; exact q1, fun d hd => ?_⟩
    obtain ⟨z, hz, rfl⟩ := List.mem_map.mp hd
    exact mem z (q2 z hz)
  rcases q with rfl | rfl | rfl | rfl
  · exact fin _ (by simp)
  · exact fin _ (by simp)
  · exact fin _ (by simp)
  · exact fin _ (by simp)
theorem actD_flat {d : PyData} (h : d ∈ actD) : noLs d = true ∧ isAction d = true ∧ (∃ z, d = .str z ∧ z ∈ actWords) ∨ (noLs d = true ∧ isAction d = true ∧ ∃ i : Int, d = .int i ∧ 1 ≤ i ∧ i ≤ 9) := by
  have h : d ∈ actWords.map PyData.str ++ [.int 1, .int 2, .int 9] := h
  rcases List.mem_append.mp h with h | h
  · obtain ⟨z, hz, rfl⟩ := List.mem_map.mp h
    refine .inl ⟨rfl, ?_, z, rfl, hz⟩
    have all6 : ∀ z ∈ actWords, isAction (.str z) = true := by decide +kernel
    exact all6 z hz
  · simp at h
    rcases h with rfl | rfl | rfl
    · exact .inr ⟨rfl, rfl, 1, rfl, by decide, by decide⟩
    · exact .inr ⟨rfl, rfl, 2, rfl, by decide, by decide⟩
    · exact .inr ⟨rfl, rfl, 9, rfl, by decide, by decide⟩
theorem okT_nl {ds : List PyData} (h : OkT ds) : noLss ds = true := by
  have q : ∀ (l : List PyData), (∀ d ∈ l, d ∈ actD) → noLss l = true := by
    intro l
    induction l with
    | nil => intro _; rfl
    | cons d l ih =>
      intro hd
      show (noLs d && noLss l) = true
      rw [ih fun x hx => hd x (List.mem_cons_of_mem _ hx), Bool.and_true]
      rcases actD_flat (hd d List.mem_cons_self) with ⟨h, _⟩ | ⟨h, _⟩ <;> exact h
  exact q ds h.2
/-! drawn entries: names among zs, tables of the nine actions, of words alone where b -/
mutual
def OkP (zs : List Str) (b : Bool) : Pl → Prop
  | .rule z ds => z ∈ zs ∧ OkT ds ∧ (b = true → ds ∈ wordT)
  | .stk ps => ps.length ≤ 4 ∧ OkPs zs b ps
def OkPs (zs : List Str) (b : Bool) : List Pl → Prop
  | [] => True
  | p :: ps => OkP zs b p ∧ OkPs zs b ps
end
theorem okPs_append {zs : List Str} {b : Bool} : ∀ {ps qs : List Pl}, OkPs zs b ps → OkPs zs b qs → OkPs zs b (ps ++ qs)
  | [], _, _, h => h
  | p :: ps, qs, ⟨h1, h2⟩, h => ⟨h1, okPs_append h2 h⟩
end LS
set_option maxHeartbeats 8000000
namespace LS
open PySem L2
def names4 : List Str := ["key", "pin", "card", "lan"]
/-- flat data as values -/
def dV : PyData → V
  | .str z => .str z
  | .int i => .int i
  | .bool b => .bl b
  | _ => .non
theorem acts_dp {K : PySem.W.Frag} {H : Hp} : ∀ (ds : List PyData), (∀ d ∈ ds, d ∈ actD) → DpAll K H (ds.map dV) ds
  | [], _ => .nil
  | d :: ds, h => by
    refine .cons ?_ (acts_dp ds fun x hx => h x (List.mem_cons_of_mem _ hx))
    rcases actD_flat (h d List.mem_cons_self) with ⟨_, _, z, rfl, _⟩ | ⟨_, _, i, rfl, _⟩
    · exact .str _
    · exact .int _
section
variable {K : PySem.W.Frag}
theorem at_in {α : Type} {xs : List α} {j : Int} (h0 : 0 ≤ j) (h1 : j < (xs.length : Nat)) : ∃ x, atI xs j = some x ∧ x ∈ xs := by
  obtain ⟨k, rfl⟩ : ∃ k : Nat, j = (k : Nat) := ⟨j.toNat, by omega⟩
  have hk : k < xs.length := by omega
  exact ⟨xs[k], atI_nat (List.getElem?_eq_getElem hk), List.getElem_mem hk⟩
abbrev TkK (P : Program) (w : World) (K : PySem.W.Frag) (mg : Str → Option Value) (base : Heap) := DefK P w K mg base CX0 1 "_law_taken" ["_law_row", "_law_many"] (spTaken K)
theorem seq_same {H H' : Hp} {p : Addr} {xs : List V} (S : Same H H') (h : H p = some (.tup xs)) : SqT K H' p xs := SqT.of (S _ _ h)
theorem word_dp {H0 H' : Hp} {t : Addr} {zs : List Str} (h0 : H0 t = none) (h : H' t = some (.tup (zs.map V.str))) : Dp K (fresh H0 H') (.ref t) (.tuple (zs.map PyData.str)) := .tup (SqT.of (fresh_at h0 h)) (words_dp _)
end
end LS
namespace LS
open PySem L2 TxS
/-! stacks when the drawing row changes -/
theorem row_ins {H H' : Hp} {r sc p : Addr} {o : HO} (R : RowIs H r sc) (e : SameBut r H H') (h : H p = some o) (n : ∀ xs, o ≠ .lst xs) : H' p = some o := e _ _ (row_ne R h fun a => n _) h
theorem bar_row {H H' : Hp} {r sc a : Addr} {xs : List V} (R : RowIs H r sc) (e : SameBut r H H') (h : BarT H a xs) : BarT H' a xs := by
  obtain ⟨o, n, h⟩ := h
  exact ⟨o, n, row_ins R e h (fun _ z => nomatch z)⟩
theorem bar_ext {H H' : Hp} {a : Addr} {xs : List V} (e : LamX.ExtN H H') (h : BarT H a xs) : BarT H' a xs := by
  obtain ⟨o, n, h⟩ := h
  exact ⟨o, n, e _ _ h (fun _ z => nomatch z)⟩
mutual
theorem ent_row {K : PySem.W.Frag} {CR CS : Addr} {H H' : Hp} {r sc : Addr} (R : RowIs H r sc) (e : SameBut r H H') : ∀ x : Ent, EntAt K CR CS H x → EntAt K CR CS H' x
  | .rule p z ds, ⟨⟨dx, a, hp, hd⟩, h2⟩ => ⟨⟨dx, a, row_ins R e hp (fun _ z => nomatch z), row_dp R e (.tuple ds) (.ref a) (okD_nl h2) hd⟩, h2⟩
  | .stk p es, ⟨⟨dx, q, rr, m, ms, h1, h2, h3, h4, h5⟩, h6⟩ => ⟨⟨dx, q, rr, m, ms, row_ins R e h1 (fun _ z => nomatch z), row_tup R e h2, row_tup R e h3, bar_row R e h4, h5⟩, ents_row R e es h6⟩
theorem ents_row {K : PySem.W.Frag} {CR CS : Addr} {H H' : Hp} {r sc : Addr} (R : RowIs H r sc) (e : SameBut r H H') : ∀ es : List Ent, EntsAt K CR CS H es → EntsAt K CR CS H' es
  | [], _ => True.intro
  | x :: es, ⟨h1, h2⟩ => ⟨ent_row R e x h1, ents_row R e es h2⟩
end
theorem misfit_at {es : List Ent} {i : Nat} (h1 : misfit (es.take i) = none) {e : Ent} (h2 : es[i]? = some e) (h3 : badAt es i e = true) : misfit es = some i := by
  have hi : i < es.length := (List.getElem?_eq_some_iff.mp h2).1
  have hn : (List.range i).find? (badI es) = none := by
    refine List.find?_eq_none.mpr fun j hj => ?_
    rw [List.mem_range] at hj
    have q := List.find?_eq_none.mp h1 j (List.mem_range.mpr (by rw [List.length_take]; omega))
    have hj2 : j < es.length := by omega
    have e1 : (es.take i)[j]? = some es[j] := by rw [List.getElem?_take, if_pos hj, List.getElem?_eq_getElem hj2]
    rw [bad_some e1] at q
    rw [bad_some (List.getElem?_eq_getElem hj2)]
    have e2 : (es.take i).take (j + 1) = es.take (j + 1) := by rw [List.take_take, Nat.min_eq_left (by omega)]
    unfold badAt at q ⊢
    rw [e2] at q
    exact q
  exact (find_snoc h2 hn).1 h3
theorem stk_ins {K : PySem.W.Frag} {CR CS : Addr} {H : Hp} {p : Addr} {es : List Ent} (h : EntAt K CR CS H (.stk p es)) : ∃ dx fs, H p = some (.ins CS dx fs) := by
  obtain ⟨⟨dx, e, r, m, ms, h1, _⟩, _⟩ := h
  exact ⟨dx, _, h1⟩
mutual
theorem ent_ext {K : PySem.W.Frag} {CR CS : Addr} {H H' : Hp} (e : LamX.ExtN H H') : ∀ x : Ent, EntAt K CR CS H x → EntAt K CR CS H' x
  | .rule p z ds, ⟨⟨dx, a, hp, hd⟩, h2⟩ => ⟨⟨dx, a, e _ _ hp (fun _ z => nomatch z), ext_dp e _ _ hd⟩, h2⟩
  | .stk p es, ⟨⟨dx, q, rr, m, ms, h1, h2, h3, h4, h5⟩, h6⟩ => ⟨⟨dx, q, rr, m, ms, e _ _ h1 (fun _ z => nomatch z), ext_tup e h2, ext_tup e h3, bar_ext e h4, h5⟩, ents_ext e es h6⟩
theorem ents_ext {K : PySem.W.Frag} {CR CS : Addr} {H H' : Hp} (e : LamX.ExtN H H') : ∀ es : List Ent, EntsAt K CR CS H es → EntsAt K CR CS H' es
  | [], _ => True.intro
  | x :: es, ⟨h1, h2⟩ => ⟨ent_ext e x h1, ents_ext e es h2⟩
end
theorem Drw.ext {K : PySem.W.Frag} {H H' : Hp} {r sc : Addr} {ns : List Int} (h : Drw K H r sc ns) (e : LamX.ExtN H H') : Drw K H' r sc ns := by
  obtain ⟨h1, i, s, b, h0, h2⟩ := h
  exact ⟨ext_lst e h1, i, s, b, h0, e _ _ h2 (fun _ z => nomatch z)⟩
/-- the drawing row, the script, the tables of code -/
def Bs (K : PySem.W.Frag) (H : Hp) (r sc : Addr) (ns : List Int) (TT : List (Addr × Str)) : Prop := Drw K H r sc ns ∧ LamX.Tabs TT H
theorem Bs.same {K : PySem.W.Frag} {H H' : Hp} {r sc : Addr} {ns : List Int} {TT : List (Addr × Str)} (h : Bs K H r sc ns TT) (S : Same H H') : Bs K H' r sc ns TT := ⟨h.1.same S, h.2.ext S⟩
theorem Bs.row {K : PySem.W.Frag} {H H' : Hp} {r sc : Addr} {ns : List Int} {TT : List (Addr × Str)} (h : Bs K H r sc ns TT) (R : RowIs H' r sc) (B : ∀ q, q ≠ r → H' q = H q) : Bs K H' r sc ns TT := ⟨⟨seq_but h.1.1 h.1.2 B, R⟩, tabs_row h.2 h.1.2 B⟩
end LS
set_option maxHeartbeats 4000000
namespace LS
open PySem PyProof.Rows
theorem pw_rising : ∀ (l : List Str) (p : Str), risingS p l = true → (p :: l).Pairwise (fun a b => a.cps.toList ≤ b.cps.toList)
  | [], p, _ => List.pairwise_singleton _ _
  | x :: r, p, h => by
    have h' : (!Spec.ltCps x.cps.toList p.cps.toList && risingS x r) = true := h
    rw [Bool.and_eq_true, Bool.not_eq_true', ltCps_eq] at h'
    have h1 : p.cps.toList ≤ x.cps.toList := List.not_lt.mp (of_decide_eq_false h'.1)
    have h2 := pw_rising r x h'.2
    refine List.pairwise_cons.mpr ⟨fun y hy => ?_, h2⟩
    rcases List.mem_cons.mp hy with rfl | hy
    · exact h1
    · exact List.le_trans h1 ((List.pairwise_cons.mp h2).1 y hy)
theorem pw_sorted {l : List Str} (h : sortedS l = true) : l.Pairwise (fun a b => a.cps.toList ≤ b.cps.toList) := by
  cases l with
  | nil => exact .nil
  | cons x r => exact pw_rising r x h
theorem str_of_list {a b : Str} (h : a.cps.toList = b.cps.toList) : a = b := by
  cases a with
  | mk x =>
    cases b with
    | mk y =>
      have e : x = y := Array.toList_inj.mp h
      rw [e]
theorem sortedS_uniq {l m : List Str} (p : l.Perm m) (h1 : sortedS l = true) (h2 : sortedS m = true) : l = m :=
  List.Perm.eq_of_pairwise (le := fun a b : Str => a.cps.toList ≤ b.cps.toList) (fun a b _ _ x y => str_of_list (List.le_antisymm x y)) (pw_sorted h1) (pw_sorted h2) p
theorem sortedS_same {l m : List Str} (n1 : l.Nodup) (n2 : m.Nodup) (h : ∀ x, x ∈ l ↔ x ∈ m) (h1 : sortedS l = true) (h2 : sortedS m = true) : l = m :=
  sortedS_uniq ((List.perm_ext_iff_of_nodup n1 n2).mpr h) h1 h2
theorem nodup_le : ∀ (L l : List Str), l.Nodup → (∀ x ∈ l, x ∈ L) → l.length ≤ L.length
  | [], l, _, h => by
    cases l with
    | nil => exact Nat.le_refl _
    | cons x l => exact nomatch h x List.mem_cons_self
  | a :: L, l, hn, h => by
    by_cases ha : a ∈ l
    · have q := nodup_le L (l.erase a) (hn.erase a) fun x hx => by
        obtain ⟨h1, h2⟩ := (hn.mem_erase_iff).mp hx
        rcases List.mem_cons.mp (h x h2) with z | z
        · exact (h1 z).elim
        · exact z
      have e := List.length_erase_of_mem ha
      have p := List.length_pos_of_mem ha
      rw [List.length_cons]
      omega
    · have q := nodup_le L l hn fun x hx => by
        rcases List.mem_cons.mp (h x hx) with z | z
        · exact (ha (z ▸ hx)).elim
        · exact z
      rw [List.length_cons]
      omega
end LS
set_option maxHeartbeats 8000000
namespace LS
open PySem L2 TxS
/-! plain entries and the entries that are made of them -/
mutual
def Mt : Pl → Ent → Prop
  | .rule z ds, e => ∃ p, e = .rule p z ds
  | .stk ps, e => ∃ p es, e = .stk p es ∧ Mts ps es
def Mts : List Pl → List Ent → Prop
  | [], es => es = []
  | p :: ps, es => ∃ e r, es = e :: r ∧ Mt p e ∧ Mts ps r
end
theorem mts_append : ∀ {ps qs : List Pl} {es fs : List Ent}, Mts ps es → Mts qs fs → Mts (ps ++ qs) (es ++ fs)
  | [], qs, es, fs, h, h2 => by
    have h : es = [] := h
    rw [h]
    exact h2
  | p :: ps, qs, es, fs, ⟨e, r, z, h1, h2⟩, h3 => by
    subst z
    exact ⟨e, r ++ fs, rfl, h1, mts_append h2 h3⟩
mutual
theorem mt_rules : ∀ {p : Pl} {e : Ent}, Mt p e → (rulesE e).map (fun r => (r.2.1, r.2.2)) = rulesP p ∧ depthE e = depthP p
  | .rule z ds, e, ⟨q, h⟩ => by
    subst h
    exact ⟨rfl, rfl⟩
  | .stk ps, e, ⟨q, es, h, h2⟩ => by
    subst h
    obtain ⟨a, b, _⟩ := mts_rules h2
    exact ⟨a, by show 1 + depthEs es = 1 + depthPs ps; rw [b]⟩
theorem mts_rules : ∀ {ps : List Pl} {es : List Ent}, Mts ps es → (rulesEs es).map (fun r => (r.2.1, r.2.2)) = rulesPs ps ∧ depthEs es = depthPs ps ∧ es.length = ps.length
  | [], es, h => by
    have h : es = [] := h
    subst h
    exact ⟨rfl, rfl, rfl⟩
  | p :: ps, es, ⟨e, r, z, h1, h2⟩ => by
    subst z
    obtain ⟨a1, a2⟩ := mt_rules h1
    obtain ⟨b1, b2, b3⟩ := mts_rules h2
    refine ⟨?_, ?_, by rw [List.length_cons, List.length_cons, b3]⟩
    · show (rulesE e ++ rulesEs r).map _ = rulesP p ++ rulesPs ps
      rw [List.map_append, a1, b1]
    · show max (depthE e) (depthEs r) = max (depthP p) (depthPs ps)
      rw [a2, b2]
end
theorem rulesPs_take {ps : List Pl} {i : Nat} {p : Pl} (h : ps[i]? = some p) : rulesPs (ps.take (i + 1)) = rulesPs (ps.take i) ++ rulesP p := by
  rw [List.take_add_one, h, rulesPs_append]
  show _ ++ (rulesP p ++ []) = _
  rw [List.append_nil]
theorem rulesPs_part {ps : List Pl} (i : Nat) : (rulesPs (ps.take i)).length ≤ (rulesPs ps).length := by
  have e : rulesPs ps = rulesPs (ps.take i) ++ rulesPs (ps.drop i) := by rw [← rulesPs_append, List.take_append_drop]
  rw [e, List.length_append]
  omega
/-- what fits -/
theorem fit_of {es : List Ent} {zs : List Str} (h1 : es.length ≤ 12) (h2 : depthEs es ≤ 2) (h3 : (rulesEs es).length ≤ 12) (hz : zs.length ≤ 6) (h4 : ∀ r ∈ rulesEs es, r.2.1 ∈ zs) : misfit es = none := by
  refine List.find?_eq_none.mpr fun i hi => ?_
  rw [List.mem_range] at hi
  rw [bad_some (List.getElem?_eq_getElem hi)]
  have e1 : rulesEs es = rulesEs (es.take (i + 1)) ++ rulesEs (es.drop (i + 1)) := by rw [← rulesEs_append, List.take_append_drop]
  obtain ⟨q1, q2⟩ := distinct_is _ (rulesEs (es.take (i + 1))) rfl
  have q3 := nodup_le zs _ q1 fun x hx => by
    obtain ⟨r, hr, rfl⟩ := List.mem_map.mp ((q2 x).mp hx)
    exact h4 r (by rw [e1]; exact List.mem_append_left _ hr)
  have q5 : (rulesEs (es.take (i + 1))).length ≤ 12 := by
    have z := congrArg List.length e1
    rw [List.length_append] at z
    omega
  have q6 : depthE es[i] ≤ 2 := Nat.le_trans (depthEs_get (List.getElem?_eq_getElem hi)) h2
  unfold badAt
  rw [decide_eq_false (show ¬ 12 ≤ i by omega), decide_eq_false (show ¬ 3 ≤ depthE es[i] by omega), decide_eq_false (show ¬ 12 < (rulesEs (es.take (i + 1))).length by omega), decide_eq_false (show ¬ 6 < (distinct (rulesEs (es.take (i + 1)))).length by omega)]
  decide
/-! plain entries that can be made: names among zs, drawn tables, not too long -/
mutual
def GdP (zs : List Str) : Pl → Prop
  | .rule z ds => z ∈ zs ∧ OkT ds
  | .stk ps => ps.length ≤ 12 ∧ GdPs zs ps
def GdPs (zs : List Str) : List Pl → Prop
  | [] => True
  | p :: ps => GdP zs p ∧ GdPs zs ps
end
mutual
theorem gd_of {zs : List Str} {b : Bool} : ∀ {p : Pl}, OkP zs b p → GdP zs p
  | .rule z ds, ⟨h1, h2, _⟩ => ⟨h1, h2⟩
  | .stk ps, ⟨h1, h2⟩ => ⟨Nat.le_trans h1 (by decide), gds_of h2⟩
theorem gds_of {zs : List Str} {b : Bool} : ∀ {ps : List Pl}, OkPs zs b ps → GdPs zs ps
  | [], _ => True.intro
  | p :: ps, ⟨h1, h2⟩ => ⟨gd_of h1, gds_of h2⟩
end
theorem gds_get {zs : List Str} : ∀ {ps : List Pl} {i : Nat} {p : Pl}, GdPs zs ps → ps[i]? = some p → GdP zs p
  | [], i, p, _, h => by simp at h
  | q :: ps, 0, p, ⟨h1, _⟩, h => by simp at h; subst h; exact h1
  | q :: ps, i + 1, p, ⟨_, h2⟩, h => gds_get (i := i) h2 (by simpa using h)
mutual
theorem gd_names {zs : List Str} : ∀ {p : Pl}, GdP zs p → ∀ r ∈ rulesP p, r.1 ∈ zs ∧ OkT r.2
  | .rule z ds, h, r, hr => by
    rw [List.mem_singleton.mp hr]
    exact h
  | .stk ps, ⟨_, h⟩, r, hr => gds_names h r hr
theorem gds_names {zs : List Str} : ∀ {ps : List Pl}, GdPs zs ps → ∀ r ∈ rulesPs ps, r.1 ∈ zs ∧ OkT r.2
  | [], _, r, hr => nomatch hr
  | p :: ps, ⟨h1, h2⟩, r, hr => (List.mem_append.mp hr).elim (gd_names h1 r) (gds_names h2 r)
end
theorem mts_fit {zs : List Str} {ps : List Pl} {es : List Ent} (h : Mts ps es) (hz : zs.length ≤ 6) (g : ∀ r ∈ rulesPs ps, r.1 ∈ zs) (h1 : ps.length ≤ 12) (h2 : depthPs ps ≤ 2) (h3 : (rulesPs ps).length ≤ 12) : misfit es = none := by
  obtain ⟨a, b, c⟩ := mts_rules h
  refine fit_of (zs := zs) (by omega) (by omega) ?_ hz fun r hr => ?_
  · have z := congrArg List.length a
    rw [List.length_map] at z
    omega
  · have q : (r.2.1, r.2.2) ∈ rulesPs ps := by
      rw [← a]
      exact List.mem_map.mpr ⟨r, hr, rfl⟩
    exact g _ q
/-! drawn tables are controls -/
theorem act_facts : ∀ d ∈ actD, PyData.canLay0 d = true ∧ PyData.depth d ≤ 1 := by
  intro d h
  rcases actD_flat h with ⟨_, _, z, rfl, hz⟩ | ⟨_, _, i, rfl, _⟩
  · have all6 : ∀ z ∈ actWords, PyData.canLay0 (.str z) = true ∧ PyData.depth (.str z) ≤ 1 := by decide +kernel
    exact all6 z hz
  · exact ⟨rfl, by simp [PyData.depth]⟩
theorem okT_sh {ds : List PyData} (h : OkT ds) : SeqAt.shaped (.tuple ds) = true := by
  have q1 : ∀ l : List PyData, (∀ d ∈ l, d ∈ actD) → PyData.canLayAll0 l = true ∧ PyData.depthAll l ≤ 1 := by
    intro l
    induction l with
    | nil => intro _; exact ⟨rfl, by simp [PyData.depthAll]⟩
    | cons d l ih =>
      intro hd
      obtain ⟨a1, a2⟩ := act_facts d (hd d List.mem_cons_self)
      obtain ⟨b1, b2⟩ := ih fun x hx => hd x (List.mem_cons_of_mem _ hx)
      refine ⟨?_, ?_⟩
      · simp only [PyData.canLayAll0]
        rw [a1, b1]
        rfl
      · simp only [PyData.depthAll]
        omega
  obtain ⟨c1, c2⟩ := q1 ds h.2
  show (PyData.canLay0 (.tuple ds) && decide (PyData.depth (.tuple ds) ≤ 64)) = true
  rw [Bool.and_eq_true]
  refine ⟨by simp only [PyData.canLay0]; exact c1, decide_eq_true ?_⟩
  simp only [PyData.depth]
  omega
theorem okT_okD {ds : List PyData} (h : OkT ds) : okD ds = true := by
  unfold okD
  rw [okT_sh h, okT_nl h]
  rfl
theorem okT_acts {ds : List PyData} (h : OkT ds) : actsOf (.tuple ds) = some ds := by
  show (if ds.length = 4 ∧ ds.all isAction = true then some ds else none) = some ds
  rw [if_pos ⟨h.1, List.all_eq_true.mpr fun d hd => by rcases actD_flat (h.2 d hd) with ⟨_, q, _⟩ | ⟨_, q, _⟩ <;> exact q⟩]
theorem okT_ctl {ds : List PyData} (h : OkT ds) : Ctl (.tuple ds) := by
  refine ⟨True.intro, fun es e => ?_⟩
  cases e
  refine ⟨by rw [h.1]; decide, fun d hd => ?_⟩
  have q := h.2 d hd
  obtain ⟨a1, a2⟩ := act_facts d q
  have sh : SeqAt.shaped d = true := by
    show (PyData.canLay0 d && decide (PyData.depth d ≤ 64)) = true
    rw [a1, decide_eq_true (show PyData.depth d ≤ 64 by omega)]
    rfl
  rcases actD_flat q with ⟨_, _, z, rfl, hz⟩ | ⟨_, _, i, rfl, _⟩
  · have all6 : ∀ z ∈ actWords, z.length ≤ 1000 := by decide +kernel
    exact ⟨True.intro, sh, fun y e => by cases e; exact all6 _ hz⟩
  · exact ⟨True.intro, sh, fun y e => nomatch e⟩
end LS
namespace LS
open PySem L2
theorem erase_map {α β : Type} (f : α → β) : ∀ (l : List α) (i : Nat), (l.map f).eraseIdx i = (l.eraseIdx i).map f
  | [], i => by simp
  | x :: l, 0 => by simp
  | x :: l, i + 1 => by
    show f x :: (l.map f).eraseIdx i = f x :: (l.eraseIdx i).map f
    rw [erase_map f l i]
theorem erase_perm {α : Type} : ∀ (l : List α) (i : Nat) (h : i < l.length), (l[i] :: l.eraseIdx i).Perm l
  | [], i, h => nomatch h
  | x :: l, 0, h => .refl _
  | x :: l, i + 1, h => by
    have h' : i < l.length := by
      have h : i + 1 < l.length + 1 := h
      omega
    show (l[i] :: x :: l.eraseIdx i).Perm (x :: l)
    exact (List.Perm.swap x l[i] _).trans (List.Perm.cons x (erase_perm l i h'))
section
variable {P : Program} {w : World} {K : PySem.W.Frag} {mg : Str → Option Value} {base : Heap}
theorem drw_new {H : Hp} {r sc D : Addr} {ns : List Int} {o : HO} (d : Drw K H r sc ns) (hD : H D = none) : Drw K (upd H D o) r sc ns := d.same (same_upd hD (Same.refl H))
theorem drw_upd {H : Hp} {r sc D : Addr} {ns : List Int} {o : HO} (d : Drw K H r sc ns) (Dr : D ≠ r) (far : Far K D sc (ns.map V.int)) : Drw K (upd H D o) r sc ns := by
  refine ⟨far_upd far d.1, ?_⟩
  obtain ⟨i, z, c, i0, h⟩ := d.2
  exact ⟨i, z, c, i0, by rw [upd_ne (Ne.symm Dr)]; exact h⟩
theorem drw_ne {H : Hp} {r sc D : Addr} {ns : List Int} (d : Drw K H r sc ns) (hD : H D = none) : D ≠ r := fun e => by
  obtain ⟨i, z, c, _, h⟩ := d.2
  rw [e, h] at hD
  cases hD
theorem but_new {H H1 : Hp} {r D : Addr} {o : HO} (B : SameBut r H H1) (hD : H D = none) : SameBut r H (upd H1 D o) := fun b u hb h => by
  rw [upd_ne (ne_of_none h hD)]
  exact B b u hb h
end
end LS
set_option maxHeartbeats 4000000
namespace LS
open PySem PySem.Spec PyProof.Rows L2
/-! ### o.f as a target -/
section
variable {X : Cx} {o : Expr} {to : TE} {f : Str} {pos : Pos}
def gFld (K : PySem.W.Frag) (to : TE) (f : Str) : TG := fun v σ H Q => to σ H fun x H1 => ∃ a C dx fs, x = .ref a ∧ H1 a = some (.ins C dx fs) ∧ Cls K C ∧ NoAttr K C f ∧ fs.length < 1000 ∧ Q σ (upd H1 a (.ins C dx (putF f v fs)))
theorem pg_fld (ho : PE X o to) : PG X (.Attribute o f pos) (gFld X.K to f) := by
  refine ⟨fun pins s σ H v u Q I r h => ?_⟩
  rw [assign_Attribute]
  refine wpAny_bind (wpAny_holding (thn (ho.run pins s σ H _ I h) fun ov s1 ⟨x, H1, I1, r1, a, C, dx, fs, ex, ea, c, n, l, q⟩ => ?_))
  subst ex
  obtain rfl : ov = Value.ref a := r1
  refine wpAny_bind (wpAny_standAt (wpAny_bind (wpAny_holding (setattr_ok I1 ea c n l r fun s3 I3 => ?_))))
  exact wpAny_release ⟨σ, _, I3, q⟩
end
/-! ### the mark of a run, and what an action does to it -/
abbrev Mrk := Str × V
/-- is it one of these words -/
def inW : PyData → List Str → Bool
  | .str z, ws => ws.any fun x => decide (x = z)
  | _, _ => false
def actF (a : PyData) (num : Int) (b st : Mrk) : Mrk :=
  if inW a ["ok", "done"] = true ∧ st.1 = "none" then ("good", st.2)
  else if inW a ["bad", "die"] = true ∧ st.1 ≠ "bad" then ("bad", .int num)
  else if inW a ["reset"] = true then b else st
def endF (a : PyData) (st : Mrk) : Bool := inW a ["die"] || (inW a ["done"] && decide (st.1 = "good"))
def leftF : PyData → Nat
  | .int i => i.toNat
  | _ => 0
def actAt (tl : Str → Nat) (z : Str) (ds : List PyData) : PyData := ds.getD (tl z) (.int 1)
theorem isAct_cases {d : PyData} (h : isAction d = true) : (∃ i : Int, d = .int i ∧ 1 ≤ i ∧ i ≤ 9) ∨ ∃ z, d = .str z ∧ z ∈ actWords := by
  rw [isAction_eq] at h
  cases d with
  | int i =>
    refine .inl ⟨i, rfl, ?_⟩
    have e : ((actWords.map PyData.str).any fun z => PyData.eqv z (.int i)) = false := by
      refine Bool.eq_false_iff.mpr fun h => ?_
      obtain ⟨z, hz, e⟩ := List.any_eq_true.mp h
      obtain ⟨s, _, rfl⟩ := List.mem_map.mp hz
      simp [PyData.eqv] at e
    rw [e, Bool.or_false] at h
    have h2 := Bool.and_eq_true_iff.mp (show (decide ((1 : Int) ≤ i) && decide (i ≤ 9)) = true from h)
    exact ⟨of_decide_eq_true h2.1, of_decide_eq_true h2.2⟩
  | str z =>
    refine .inr ⟨z, rfl, ?_⟩
    obtain ⟨y, hy, e⟩ := List.any_eq_true.mp (show ((actWords.map PyData.str).any fun y => PyData.eqv y (.str z)) = true from h)
    obtain ⟨s, hs, rfl⟩ := List.mem_map.mp hy
    have e : (s == z) = true := e
    rw [← eq_of_beq e]
    exact hs
  | _ =>
    exfalso
    rcases Bool.or_eq_true_iff.mp h with h | h
    · cases h
    · obtain ⟨z, hz, e⟩ := List.any_eq_true.mp h
      obtain ⟨s, _, rfl⟩ := List.mem_map.mp hz
      simp [PyData.eqv] at e
theorem inW_any {d : PyData} (h : isAction d = true) (ws : List Str) : ((ws.map PyData.str).any fun z => PyData.eqv z d) = inW d ws := by
  rcases isAct_cases h with ⟨i, rfl, _⟩ | ⟨z, rfl, hz⟩
  · refine Bool.eq_false_iff.mpr fun h => ?_
    obtain ⟨z, hz, e⟩ := List.any_eq_true.mp h
    obtain ⟨s, _, rfl⟩ := List.mem_map.mp hz
    simp [PyData.eqv] at e
  · show _ = ws.any fun x => decide (x = z)
    rw [List.any_map]
    congr 1
theorem inW_eq {d : PyData} (h : isAction d = true) (x : Str) : PyData.eqv d (.str x) = inW d [x] := by
  rcases isAct_cases h with ⟨i, rfl, _⟩ | ⟨z, rfl, hz⟩
  · simp [PyData.eqv, inW]
  · have e : inW (.str z) [x] = decide (x = z) := by
      show ([x].any fun y => decide (y = z)) = _
      simp
    rw [e]
    show (z == x) = decide (x = z)
    by_cases q : x = z
    · subst q
      simp
    · rw [decide_eq_false q]
      exact beq_false_of_ne (Ne.symm q)
theorem act_shape {d : PyData} (h : isAction d = true) : SeqAt.shaped d = true := by
  rcases isAct_cases h with ⟨i, rfl, _⟩ | ⟨z, rfl, hz⟩
  · rfl
  · have q : ∀ z ∈ actWords, SeqAt.shaped (.str z) = true := by decide +kernel
    exact q z hz
/-! ### a run as it stands -/
def runF (t : Addr) (st : Mrk) (n : Addr) : List (Str × V) := [("teller", .ref t), ("mark", .str st.1), ("spoiler", st.2), ("numbers", .ref n)]
def RunAt (CU : Addr) (H : Hp) (p n t : Addr) (st : Mrk) (ns : List Int) : Prop := (∃ dx, H p = some (.ins CU dx (runF t st n))) ∧ H n = some (.lst (ns.map V.int))
/-- what stands apart from a run -/
structure Bas (H0 H : Hp) (p n : Addr) : Prop where
  S : Same H0 H
  p0 : H0 p = none
  n0 : H0 n = none
theorem Bas.p_upd {H0 H : Hp} {p n : Addr} (b : Bas H0 H p n) (o : HO) : Bas H0 (upd H p o) p n := ⟨same_upd b.p0 b.S, b.p0, b.n0⟩
theorem Bas.n_upd {H0 H : Hp} {p n : Addr} (b : Bas H0 H p n) (o : HO) : Bas H0 (upd H n o) p n := ⟨same_upd b.n0 b.S, b.p0, b.n0⟩
theorem Bas.trans {H0 H H' : Hp} {p n : Addr} (b : Bas H0 H p n) (S : Same H H') : Bas H0 H' p n := ⟨b.S.trans S, b.p0, b.n0⟩
theorem Bas.ne {H0 H : Hp} {p n q : Addr} {o : HO} (b : Bas H0 H p n) (h : H0 q = some o) : q ≠ p ∧ q ≠ n := ⟨ne_of_none h b.p0, ne_of_none h b.n0⟩
theorem Bas.add {H0 H : Hp} {p n q : Addr} {o : HO} (b : Bas H0 H p n) (h : H q = some o) (e : q ≠ p) (e2 : q ≠ n) : Bas (upd H0 q o) H p n := by
  refine ⟨fun c u k => ?_, ?_, ?_⟩
  · by_cases z : c = q
    · subst z
      rw [upd_same] at k
      rw [h, ← Option.some.inj k]
    · rw [upd_ne z] at k
      exact b.S c u k
  · rw [upd_ne (Ne.symm e)]
    exact b.p0
  · rw [upd_ne (Ne.symm e2)]
    exact b.n0
theorem RunAt.same {CU : Addr} {H H' : Hp} {p n t : Addr} {st : Mrk} {ns : List Int} (h : RunAt CU H p n t st ns) (S : Same H H') : RunAt CU H' p n t st ns := by
  obtain ⟨⟨dx, h1⟩, h2⟩ := h
  exact ⟨⟨dx, S _ _ h1⟩, S _ _ h2⟩
theorem run_ne {CU : Addr} {H : Hp} {p n t : Addr} {st : Mrk} {ns : List Int} (h : RunAt CU H p n t st ns) : p ≠ n := by
  obtain ⟨⟨dx, h1⟩, h2⟩ := h
  exact ne_of h1 h2 fun z => nomatch z
section
variable {t n : Addr} {st : Mrk}
theorem k_tm : ("teller" : Str) ≠ "mark" := by decide +kernel
theorem lk_t : (runF t st n).lookup ("teller" : Str) = some (.ref t) := by
  unfold runF
  simp [List.lookup]
theorem lk_m : (runF t st n).lookup ("mark" : Str) = some (.str st.1) := by
  unfold runF
  have h1 : (("mark" : Str) == ("teller" : Str)) = false := by decide +kernel
  simp [List.lookup, h1]
theorem lk_s : (runF t st n).lookup ("spoiler" : Str) = some st.2 := by
  unfold runF
  have h1 : (("spoiler" : Str) == ("teller" : Str)) = false := by decide +kernel
  have h2 : (("spoiler" : Str) == ("mark" : Str)) = false := by decide +kernel
  simp [List.lookup, h1, h2]
theorem lk_n : (runF t st n).lookup ("numbers" : Str) = some (.ref n) := by
  unfold runF
  have h1 : (("numbers" : Str) == ("teller" : Str)) = false := by decide +kernel
  have h2 : (("numbers" : Str) == ("mark" : Str)) = false := by decide +kernel
  have h3 : (("numbers" : Str) == ("spoiler" : Str)) = false := by decide +kernel
  simp [List.lookup, h1, h2, h3]
theorem lk_none {x : Str} (h : ((x == ("teller" : Str)) || (x == ("mark" : Str)) || (x == ("spoiler" : Str)) || (x == ("numbers" : Str))) = false) : (runF t st n).lookup x = none := by
  unfold runF
  simp only [Bool.or_eq_false_iff] at h
  obtain ⟨⟨⟨h1, h2⟩, h3⟩, h4⟩ := h
  simp [List.lookup, h1, h2, h3, h4]
theorem put_m {m : Str} : putF "mark" (.str m) (runF t st n) = runF t (m, st.2) n := by
  show (if ("teller" : Str) = "mark" then _ else (("teller" : Str), V.ref t) :: (if ("mark" : Str) = "mark" then _ else _)) = _
  rw [if_neg (by decide +kernel), if_pos rfl]
  rfl
theorem put_s {v : V} : putF "spoiler" v (runF t st n) = runF t (st.1, v) n := by
  show (if ("teller" : Str) = "spoiler" then _ else (("teller" : Str), V.ref t) :: (if ("mark" : Str) = "spoiler" then _ else (("mark" : Str), V.str st.1) :: (if ("spoiler" : Str) = "spoiler" then _ else _))) = _
  rw [if_neg (by decide +kernel), if_neg (by decide +kernel), if_pos rfl]
  rfl
end
/-! ### where a run leads -/
def goEs (tl : Str → Nat) : List Ent → Mrk → Nat → Int → Mrk → List Int → Mrk × List Int
  | [], _, _, _, st, ns => (st, ns)
  | .stk _ fs :: es, b, 0, num, st, ns => goEs tl es b 0 (num + (rulesEs fs).length) (goEs tl fs st 0 num st ns).1 (goEs tl fs st 0 num st ns).2
  | .stk _ fs :: es, b, k + 1, num, st, ns => goEs tl es b k (num + (rulesEs fs).length) st ns
  | .rule _ z ds :: es, b, 0, num, st, ns =>
    if endF (actAt tl z ds) (actF (actAt tl z ds) num b st) = true then (actF (actAt tl z ds) num b st, ns ++ [num])
    else goEs tl es b (leftF (actAt tl z ds)) (num + 1) (actF (actAt tl z ds) num b st) (ns ++ [num])
  | .rule _ _ _ :: es, b, k + 1, num, st, ns => goEs tl es b k (num + 1) st ns
theorem goEs_skip {tl : Str → Nat} {e : Ent} {es : List Ent} {b st : Mrk} {k : Nat} {num : Int} {ns : List Int} : goEs tl (e :: es) b (k + 1) num st ns = goEs tl es b k (num + (rulesE e).length) st ns := by
  cases e with
  | rule p z ds => rw [goEs]; rfl
  | stk p fs => rw [goEs]; rfl
theorem goEs_len {tl : Str → Nat} : ∀ (es : List Ent) (b : Mrk) (k : Nat) (num : Int) (st : Mrk) (ns : List Int), (goEs tl es b k num st ns).2.length ≤ ns.length + (rulesEs es).length := by
  intro es b k num st ns
  induction es, b, k, num, st, ns using goEs.induct (tl := tl)
  · rw [goEs]; exact Nat.le_add_right _ _
  · rename_i ih1 ih2
    rw [goEs]
    refine Nat.le_trans ih2 ?_
    simp only [rulesEs, rulesE, List.length_append, List.length_cons, List.length_nil]
    omega
  · rename_i ih
    rw [goEs]
    refine Nat.le_trans ih ?_
    simp only [rulesEs, rulesE, List.length_append, List.length_cons, List.length_nil]
    omega
  · rename_i h
    rw [goEs, if_pos h]
    simp only [rulesEs, rulesE, List.length_append, List.length_cons, List.length_nil]
    omega
  · rename_i h ih
    rw [goEs, if_neg h]
    refine Nat.le_trans ih ?_
    simp only [rulesEs, rulesE, List.length_append, List.length_cons, List.length_nil]
    omega
  · rename_i ih
    rw [goEs]
    refine Nat.le_trans ih ?_
    simp only [rulesEs, rulesE, List.length_append, List.length_cons, List.length_nil]
    omega
end LS
namespace LS
open PySem PySem.Spec PyProof.Rows L2
abbrev sTInit : Stmt := inClass (top i_Teller) 0
abbrev sTTell : Stmt := inClass (top i_Teller) 1
abbrev sUInit : Stmt := inClass (top i_Run) 0
abbrev sUGo : Stmt := inClass (top i_Run) 1
abbrev sUAsk : Stmt := inClass (top i_Run) 2
abbrev sUChange : Stmt := inClass (top i_Run) 3
abbrev sUEnd : Stmt := inClass (top i_Run) 4
structure RunK (K : PySem.W.Frag) (CU CT : Addr) : Prop where
  clU : Cls K CU
  clT : Cls K CT
  nA : NoAttr K CT "answers"
  nT : NoAttr K CU "teller"
  nM : NoAttr K CU "mark"
  nS : NoAttr K CU "spoiler"
  nN : NoAttr K CU "numbers"
/-- what a module tells: its place among the results -/
def Tells (H : Hp) (A : Addr) (z : Str) (i : Nat) : Prop := ∃ w, resWords[i]? = some w ∧ DGet H A (.str z) (some (.str w))
theorem rd_same {H H' : Hp} {a : Addr} {u : HO} (S : Same H H') (h : Rd H a u) : Rd H' a u := by
  rcases h with h | ⟨o, h⟩
  · exact .inl (S _ _ h)
  · exact .inr ⟨o, S _ _ h⟩
theorem dget_same {H H' : Hp} {a : Addr} {y : V} {r : Option V} (S : Same H H') (h : DGet H a y r) : DGet H' a y r := by
  rcases h with ⟨kvs, k, h1, h2, h3⟩ | ⟨kvs, k, b, h1, h2, h3, h4⟩
  · exact .inl ⟨kvs, k, rd_same S h1, h2, h3⟩
  · exact .inr ⟨kvs, k, b, rd_same S h1, h2, S _ _ h3, h4⟩
theorem Tells.same {H H' : Hp} {A : Addr} {z : Str} {i : Nat} (h : Tells H A z i) (S : Same H H') : Tells H' A z i := by
  obtain ⟨w, h1, h2⟩ := h
  exact ⟨w, h1, dget_same S h2⟩
def TellAt (CT : Addr) (H : Hp) (t A : Addr) : Prop := ∃ dt, H t = some (.ins CT dt [("answers", .ref A)])
theorem res_first {j : Nat} {w : Str} (h : resWords[j]? = some w) : j < 4 ∧ ∀ m, m < j → resWords[m]? ≠ some w := by
  have hj : j < 4 := (List.getElem?_eq_some_iff.mp h).1
  refine ⟨hj, fun m hm e => ?_⟩
  have q : ∀ j < 4, ∀ m < j, resWords[m]? ≠ resWords[j]? := by decide +kernel
  exact q j hj m hm (e.trans h.symm)
def spTInit (CT : Addr) : Sp := fun vs H Q _ => ∃ (p dx A : Addr), vs = [.ref p, .ref A] ∧ H p = some (.ins CT dx []) ∧ ∀ H', (∀ q, q ≠ p → H' q = H q) → TellAt CT H' p A → Q .non H'
def spTell (CT : Addr) : Sp := fun vs H Q _ => ∃ (p A : Addr) (z w : Str), vs = [.ref p, .str z] ∧ TellAt CT H p A ∧ DGet H A (.str z) (some (.str w)) ∧ Q (.str w) H
def spUInit (CU : Addr) : Sp := fun vs H Q _ => ∃ (p dx t : Addr), vs = [.ref p, .ref t] ∧ H p = some (.ins CU dx []) ∧
  ∀ n H', H n = none → n ≠ p → (∀ q, q ≠ p → q ≠ n → H' q = H q) → RunAt CU H' p n t ("none", .non) [] → Q .non H'
def spCtlR (K : PySem.W.Frag) (C : Addr) : Sp := fun vs H Q _ => ∃ (p : Addr) (z : Str) (ds : List PyData), vs = [.ref p] ∧ RuleAt K C H p z ds ∧ ∀ a, Dp K H (.ref a) (.tuple ds) → Q (.ref a) H
/-- a rule is asked -/
def spAsk (K : PySem.W.Frag) (CU CT CR : Addr) : Sp := fun vs H Q _ => ∃ (H0 : Hp) (p n t rp A : Addr) (z : Str) (ds : List PyData) (st : Mrk) (ns : List Int) (num : Int) (i : Nat) (a : PyData), vs = [.ref p, .ref rp, .int num] ∧ Bas H0 H p n ∧
  RunAt CU H p n t st ns ∧ TellAt CT H0 t A ∧ RuleAt K CR H0 rp z ds ∧ Tells H0 A z i ∧ ds[i]? = some a ∧ isAction a = true ∧ ns.length < 1000 ∧
  ∀ v H', Bas H0 H' p n → RunAt CU H' p n t st (ns ++ [num]) → Dp K H0 v a → (∀ q, q ≠ p → q ≠ n → H' q = H q) → Q v H'
def spChange (K : PySem.W.Frag) (CU : Addr) : Sp := fun vs H Q _ => ∃ (H0 : Hp) (p n t tb : Addr) (v : V) (a : PyData) (num : Int) (b st : Mrk) (ns : List Int), vs = [.ref p, v, .int num, .ref tb] ∧ Bas H0 H p n ∧
  RunAt CU H p n t st ns ∧ Dp K H0 v a ∧ isAction a = true ∧ H0 tb = some (.tup [.str b.1, b.2]) ∧
  ∀ H', Bas H0 H' p n → RunAt CU H' p n t (actF a num b st) ns → Q .non H'
def spEnd (K : PySem.W.Frag) (CU : Addr) : Sp := fun vs H Q _ => ∃ (p n t : Addr) (v : V) (a : PyData) (st : Mrk) (ns : List Int), vs = [.ref p, v] ∧ RunAt CU H p n t st ns ∧ Dp K H v a ∧ isAction a = true ∧ Q (.bl (endF a st)) H
section
variable {P : Program} {w : World} {K : PySem.W.Frag} {mg : Str → Option Value} {base : Heap} {CR CS CU CT : Addr}
theorem scTI : FnScope n_Teller___init__ ["self", "answers"] (defScope sTInit) := ⟨rfl, rfl, rfl, by decide +kernel, rfl, by decide +kernel, by decide +kernel⟩
theorem scTT : FnScope n_Teller_tell ["self", "module"] (defScope sTTell) := ⟨rfl, rfl, rfl, by decide +kernel, rfl, by decide +kernel, by decide +kernel⟩
theorem scUI : FnScope n_Run___init__ ["self", "teller"] (defScope sUInit) := ⟨rfl, rfl, rfl, by decide +kernel, rfl, by decide +kernel, by decide +kernel⟩
theorem scUA : FnScope n_Run_ask ["self", "rule", "number"] (defScope sUAsk) := ⟨rfl, rfl, rfl, by decide +kernel, rfl, by decide +kernel, by decide +kernel⟩
theorem scUC : FnScope n_Run_change_mark ["self", "action", "number", "began"] (defScope sUChange) := ⟨rfl, rfl, rfl, by decide +kernel, rfl, by decide +kernel, by decide +kernel⟩
theorem scUE : FnScope n_Run_is_end ["self", "action"] (defScope sUEnd) := ⟨rfl, rfl, rfl, by decide +kernel, rfl, by decide +kernel, by decide +kernel⟩
theorem run_put (t n : Addr) : putF "numbers" (.ref n) (putF "spoiler" .non (putF "mark" (.str "none") (putF "teller" (.ref t) []))) = runF t ("none", .non) n := by
  have h1 : putF "mark" (V.str "none") [(("teller" : Str), V.ref t)] = [(("teller" : Str), V.ref t), (("mark" : Str), V.str "none")] := by
    show (if ("teller" : Str) = "mark" then _ else _) = _
    rw [if_neg (by decide +kernel)]
    rfl
  have h2 : putF "spoiler" V.non [(("teller" : Str), V.ref t), (("mark" : Str), V.str "none")] = [(("teller" : Str), V.ref t), (("mark" : Str), V.str "none"), (("spoiler" : Str), V.non)] := by
    show (if ("teller" : Str) = "spoiler" then _ else (("teller" : Str), V.ref t) :: (if ("mark" : Str) = "spoiler" then _ else _)) = _
    rw [if_neg (by decide +kernel), if_neg (by decide +kernel)]
    rfl
  show putF "numbers" (.ref n) (putF "spoiler" .non (putF "mark" (.str "none") [(("teller" : Str), V.ref t)])) = _
  rw [h1, h2]
  show (if ("teller" : Str) = "numbers" then _ else (("teller" : Str), V.ref t) :: (if ("mark" : Str) = "numbers" then _ else (("mark" : Str), V.str "none") :: (if ("spoiler" : Str) = "numbers" then _ else _))) = _
  rw [if_neg (by decide +kernel), if_neg (by decide +kernel), if_neg (by decide +kernel)]
  rfl
theorem ok_tinit {f : Addr} {fd : FuncData} (F : Fun K "__init__" "Teller.__init__" sTInit f fd) (T : RunK K CU CT) : FnOk P w K mg base CX0 1 f fd ["self", "answers"] (spTInit CT) := by
  refine F.ok scTI (fun vs H Q E h => ?_) (fun cdv A outer s H vs Q E hr h => ?_)
  · obtain ⟨p, dx, A, rfl, _⟩ := h
    rfl
  · obtain ⟨p, dx, A, rfl, hp, k⟩ := h
    refine ⟨_, pss_one (ps_fld (pv 0) (pv 1) rfl), ?_⟩
    refine ⟨_, rfl, _, rfl, p, CT, dx, _, rfl, hp, T.clT, T.nA, (by show 0 < 1000; decide), ?_⟩
    exact k _ (fun q hq => upd_ne hq) ⟨dx, upd_same⟩
theorem ok_tell {f : Addr} {fd : FuncData} (F : Fun K "tell" "Teller.tell" sTTell f fd) (T : RunK K CU CT) : FnOk P w K mg base CX0 1 f fd ["self", "module"] (spTell CT) := by
  refine F.ok scTT (fun vs H Q E h => ?_) (fun cdv A outer s H vs Q E hr h => ?_)
  · obtain ⟨p, A, z, w, rfl, _⟩ := h
    rfl
  · obtain ⟨p, A', z, wd, rfl, ⟨dt, hp⟩, hd, k⟩ := h
    have hu : (A.deeper (PyProof.Rows.envOfC "Teller.tell" (defScope sTTell) s.heap.objs.size f cdv)).units + 1 < cLine := by have := hr.un; omega
    refine ⟨_, pss_one (ps_ret (pe_dget hu (pe_fld (pv 0) rfl) (pv 1) (fun _ _ => rfl))), ?_⟩
    exact ⟨_, rfl, p, CT, dt, _, _, rfl, hp, T.clT, T.nA, rfl, _, rfl, A', _, rfl, hd, k⟩
theorem ok_uinit {f : Addr} {fd : FuncData} (F : Fun K "__init__" "Run.__init__" sUInit f fd) (T : RunK K CU CT) : FnOk P w K mg base CX0 1 f fd ["self", "teller"] (spUInit CU) := by
  refine F.ok scUI (fun vs H Q E h => ?_) (fun cdv A outer s H vs Q E hr h => ?_)
  · obtain ⟨p, dx, t, rfl, _⟩ := h
    rfl
  · obtain ⟨p, dx, t, rfl, hp, k⟩ := h
    refine ⟨_, pss_cons (ps_fld (pv 0) (pv 1) rfl) (pss_cons (ps_fld (pv 0) pe_str rfl) (pss_cons (ps_fld (pv 0) pe_non rfl) (pss_one (ps_fld (pv 0) (pe_lst pa_nil) rfl)))), ?_⟩
    refine ⟨_, rfl, _, rfl, p, CU, dx, _, rfl, hp, T.clU, T.nT, (by show 0 < 1000; decide), ?_⟩
    refine ⟨_, rfl, p, CU, dx, _, rfl, upd_same, T.clU, T.nM, (by show 1 < 1000; decide), ?_⟩
    refine ⟨_, rfl, p, CU, dx, _, rfl, upd_same, T.clU, T.nS, (by show 2 < 1000; decide), ?_⟩
    refine ⟨Nat.zero_le _, fun n hn => ?_⟩
    have hnp : n ≠ p := fun e => by
      rw [e, upd_same] at hn
      cases hn
    rw [upd_ne hnp, upd_ne hnp, upd_ne hnp] at hn
    refine ⟨_, rfl, p, CU, dx, _, rfl, by rw [upd_ne (Ne.symm hnp)]; exact upd_same, T.clU, T.nN, (by show 3 < 1000; decide), ?_⟩
    refine k n _ hn hnp (fun q h1 h2 => ?_) ⟨⟨dx, ?_⟩, ?_⟩
    · rw [upd_ne h1, upd_ne h2, upd_ne h1, upd_ne h1, upd_ne h1]
    · rw [upd_same]
      refine congrArg (fun fs => some (HO.ins CU dx fs)) ?_
      exact run_put t n
    · rw [upd_ne hnp, upd_same]
      rfl
theorem dps_get2 {H : Hp} : ∀ {vs : List V} {ds : List PyData} {i : Nat} {d : PyData}, DpAll K H vs ds → ds[i]? = some d → ∃ v, vs[i]? = some v ∧ Dp K H v d
  | _, _, _, _, .nil, h => by simp at h
  | _, _, 0, _, .cons h1 _, h => by simp at h; subst h; exact ⟨_, rfl, h1⟩
  | _, _, i + 1, _, .cons _ t, h => by
    obtain ⟨v, h1, h2⟩ := dps_get2 (i := i) t (by simpa using h)
    exact ⟨v, by simpa using h1, h2⟩
theorem act_dp {H H' : Hp} {v : V} {a : PyData} (h : isAction a = true) (hd : Dp K H v a) : Dp K H' v a := by
  rcases isAct_cases h with ⟨i, rfl, _⟩ | ⟨z, rfl, hz⟩
  · cases hd
    exact .int i
  · cases hd
    exact .str z
theorem bas_ne {H0 H : Hp} {p n t A : Addr} {dx : Addr} (b : Bas H0 H p n) (h : TellAt CT H0 t A) : TellAt CT H t A := by
  obtain ⟨dt, h⟩ := h
  exact ⟨dt, b.S _ _ h⟩
theorem ok_ask {f fT fM pM fC pC : Addr} {fd fdT fdM fdC : FuncData} (F : Fun K "ask" "Run.ask" sUAsk f fd) (T : RunK K CU CT) (GT : FnOk P w K mg base CX0 1 fT fdT ["self", "module"] (spTell CT)) (bT : Binds K fdT ["self", "module"] []) (mT : Meth K CT "tell" fT)
    (clR : Cls K CR) (GM : FnOk P w K mg base CX0 1 fM fdM ["self"] (spMod K CR)) (bM : Binds K fdM ["self"] []) (pM_ : PropOf K CR "module" pM fM) (GC : FnOk P w K mg base CX0 1 fC fdC ["self"] (spCtlR K CR)) (bC : Binds K fdC ["self"] []) (pC_ : PropOf K CR "control" pC fC)
    (gR : ∃ a, mg "RESULTS" = some (.ref a) ∧ (∀ H, SqT K H a (resWords.map V.str)) ∧ ∃ o, K.lookup a = some o ∧ o.cls = .type "tuple" ∧ o.dict = none) : FnOk P w K mg base CX0 3 f fd ["self", "rule", "number"] (spAsk K CU CT CR) := by
  obtain ⟨aR, gR, hR, tyR⟩ := gR
  refine F.ok scUA (fun vs H Q E h => ?_) (fun cdv A outer s H vs Q E hr h => ?_)
  · obtain ⟨H0, p, n, t, rp, A, z, ds, st, ns, num, i, a, rfl, _⟩ := h
    rfl
  · obtain ⟨H0, p, n, t, rp, A', z, ds, st, ns, num, i, a, rfl, hB, hU, hT, hRu, hTl, ha, hact, hlen, k⟩ := h
    refine ⟨_, pss_cons (ps_expr (pe_bm PySem.F.plainAttrs_list PySem.F.slot_list_append PySem.F.type_list_append mt_append (pe_fld (pv 0) rfl) (pa_cons (pv 2) pa_nil)))
      (pss_one (ps_ret (pe_ix ix_tup (pe_prop (pv 1) clR pC_ GC (hr.mono (by decide)) bC .nil pass0 rfl)
        (pe_bm PySem.F.plainAttrs_tuple PySem.F.slot_tuple_index PySem.F.type_tuple_index mt_tup_index (pe_glob (v := .ref aR) (by rfl) gR rfl)
          (pa_cons (pe_meth (pe_fld (pv 0) rfl) T.clT mT GT (hr.mono (by decide)) bT .nil pass0 (pa_cons (pe_prop (pv 1) clR pM_ GM (hr.mono (by decide)) bM .nil pass0 rfl) pa_nil)) pa_nil)) (fun _ _ => rfl)))), ?_⟩
    obtain ⟨⟨dx, hp⟩, hn⟩ := id hU
    refine ⟨_, rfl, p, CU, dx, _, _, rfl, hp, T.clU, T.nN, lk_n, .inl ⟨rfl, _, Or.inl (Or.inl hn)⟩, ?_⟩
    have hs2 := sizeLine_eq
    refine ⟨_, rfl, n, _, _, rfl, rfl, hn, by rw [List.length_map]; omega, ?_⟩
    have hpn : p ≠ n := run_ne hU
    have B1 := hB.n_upd (.lst (ns.map V.int ++ [V.int num]))
    have p1 : upd H n (.lst (ns.map V.int ++ [V.int num])) p = some (.ins CU dx (runF t st n)) := by rw [upd_ne hpn]; exact hp
    have U1 : RunAt CU (upd H n (.lst (ns.map V.int ++ [V.int num]))) p n t st (ns ++ [num]) := by
      refine ⟨⟨dx, p1⟩, ?_⟩
      rw [upd_same, List.map_append]
      rfl
    have F1 : ∀ q, q ≠ p → q ≠ n → upd H n (.lst (ns.map V.int ++ [V.int num])) q = H q := fun q _ h => upd_ne h
    generalize upd H n (.lst (ns.map V.int ++ [V.int num])) = H1 at *
    have hR1 := hRu.ext B1.S
    obtain ⟨dxr, ar, hrp, hdr⟩ := id hR1
    obtain ⟨wd, hw, hg⟩ := hTl
    obtain ⟨i4, ifst⟩ := res_first hw
    obtain ⟨dt, ht⟩ := id hT
    refine ⟨_, rfl, rp, dxr, _, rfl, hrp, rp, z, ds, rfl, hR1, fun ac hac => ?_⟩
    cases hac with
    | tup hs hd =>
      rename_i vs
      refine ⟨Or.inr (Or.inl ⟨rfl, tyR⟩), _, rfl, p, CU, dx, _, _, rfl, p1, T.clU, T.nT, lk_t, t, dt, _, rfl, B1.S _ _ ht, rfl, ?_⟩
      refine ⟨_, rfl, rp, dxr, _, rfl, hrp, rp, z, ds, rfl, hR1, ?_⟩
      refine ⟨t, A', z, wd, rfl, ⟨dt, B1.S _ _ ht⟩, dget_same B1.S hg, ?_⟩
      refine ⟨aR, resWords, wd, i, rfl, rfl, hR _, hw, ifst, ?_⟩
      obtain ⟨v, hv, hva⟩ := dps_get2 hd ha
      refine ⟨ac, vs, (i : Nat), v, rfl, rfl, hs, ?_, ?_⟩
      · exact atI_nat hv
      · exact k v H1 B1 U1 (act_dp hact hva) F1
end
end LS
namespace LS
open PySem PySem.Spec PyProof.Rows L2
section
variable {P : Program} {w : World} {K : PySem.W.Frag} {mg : Str → Option Value} {base : Heap} {CR CS CU CT : Addr}
theorem op_isW {H : Hp} {v : V} {a : PyData} {x : Str} {Q : VK} (ha : isAction a = true) (hd : Dp K H v a) (hx : SeqAt.shaped (.str x) = true) (q : Q (.bl (inW a [x])) H) : rEqD K v (.str x) H Q :=
  ⟨a, .str x, hd, .str x, act_shape ha, hx, by rw [inW_eq ha]; exact q⟩
theorem op_inW {H : Hp} {v : V} {a : PyData} {l : Addr} {x y : Str} {Q : VK} (ha : isAction a = true) (hd : Dp K H v a) (hl : H l = some (.tup [.str x, .str y])) (hx : SeqAt.shaped (.tuple [.str x, .str y]) = true) (q : Q (.bl (inW a [x, y])) H) : rInT K v (.ref l) H Q := by
  refine ⟨a, [.str x, .str y], hd, .tup (SqT.of hl) (.cons (.str x) (.cons (.str y) .nil)), act_shape ha, hx, ?_⟩
  rw [show ([PyData.str x, PyData.str y].any fun z => PyData.eqv z a) = inW a [x, y] from inW_any ha [x, y]]
  exact q
theorem ok_end {f : Addr} {fd : FuncData} (F : Fun K "is_end" "Run.is_end" sUEnd f fd) (T : RunK K CU CT) : FnOk P w K mg base CX0 1 f fd ["self", "action"] (spEnd K CU) := by
  refine F.ok scUE (fun vs H Q E h => ?_) (fun cdv A outer s H vs Q E hr h => ?_)
  · obtain ⟨p, n, t, v, a, st, ns, rfl, _⟩ := h
    rfl
  · obtain ⟨p, n, t, v, a, st, ns, rfl, ⟨⟨dx, hp⟩, hn⟩, hd, ha, k⟩ := h
    have hu : (A.deeper (PyProof.Rows.envOfC "Run.is_end" (defScope sUEnd) s.heap.objs.size f cdv)).units + 64 < cLine := by have := hr.un; omega
    refine ⟨_, pss_one (ps_ret (pe_or (pe_cmpR (op_eqD hu) (pv 1) pe_str (nomark _)) (pe_one (pe_and (pe_cmpR (op_eqD hu) (pv 1) pe_str (nomark _)) (pe_one (pe_cmpR op_eq (pe_fld (pv 0) rfl) pe_str (nomark _))))))), ?_⟩
    unfold endF at k
    refine ⟨_, rfl, a, .str "die", hd, .str _, act_shape ha, by decide +kernel, ?_⟩
    rw [inW_eq ha]
    refine ⟨_, rfl, ?_⟩
    refine ite2 (fun h1 => ?_) (fun h1 => ?_)
    · rw [h1, Bool.true_or] at k
      exact k
    · rw [Bool.eq_false_iff.mpr h1, Bool.false_or] at k
      refine ⟨_, rfl, a, .str "done", hd, .str _, act_shape ha, by decide +kernel, ?_⟩
      rw [inW_eq ha]
      refine ⟨_, rfl, ?_⟩
      refine ite2 (fun h2 => ?_) (fun h2 => ?_)
      · rw [h2, Bool.true_and] at k
        refine ⟨_, rfl, p, CU, dx, _, _, rfl, hp, T.clU, T.nM, lk_m, rfl, ?_⟩
        rw [show decide (V.str st.1 = V.str "good") = decide (st.1 = "good") by simp]
        exact k
      · rw [Bool.eq_false_iff.mpr h2, Bool.false_and] at k
        exact k
theorem put_mark {H : Hp} {p n t dx : Addr} {st : Mrk} {ns : List Int} {m : Str} (hp : H p = some (.ins CU dx (runF t st n))) (hn : H n = some (.lst (ns.map V.int))) : RunAt CU (upd H p (.ins CU dx (putF "mark" (.str m) (runF t st n)))) p n t (m, st.2) ns := by
  have e : n ≠ p := ne_of hn hp fun z => nomatch z
  refine ⟨⟨dx, ?_⟩, ?_⟩
  · rw [upd_same, put_m]
  · rw [upd_ne e]
    exact hn
theorem put_spoil {H : Hp} {p n t dx : Addr} {st : Mrk} {ns : List Int} {v : V} (hp : H p = some (.ins CU dx (runF t st n))) (hn : H n = some (.lst (ns.map V.int))) : RunAt CU (upd H p (.ins CU dx (putF "spoiler" v (runF t st n)))) p n t (st.1, v) ns := by
  have e : n ≠ p := ne_of hn hp fun z => nomatch z
  refine ⟨⟨dx, ?_⟩, ?_⟩
  · rw [upd_same, put_s]
  · rw [upd_ne e]
    exact hn
def elseR : Stmt → List Stmt
  | .If _ _ b _ => b
  | _ => []
def stC : Stmt := (defBody sUChange).getD 0 (.Pass ⟨0, 0, 0, 0⟩)
abbrev cxC (P : Program) (w : World) (K : PySem.W.Frag) (mg : Str → Option Value) (base : Heap) (f : Addr) (cdv : Value) (A : Around) (outer : List Env) (s : Shared) (HX : Hp) (EX : XK) : Cx := (cxOf CX0 P w K mg base n_Run_change_mark "Run.change_mark" (defScope sUChange) f cdv A outer s HX EX).nox
theorem change_else {f : Addr} {cdv : Value} {A : Around} {outer : List Env} {s : Shared} {HX : Hp} {EX : XK} (T : RunK K CU CT) (hu : (cxC P w K mg base f cdv A outer s HX EX).A.units + 65 < cLine) :
    ∃ te, PSs (cxC P w K mg base f cdv A outer s HX EX) (elseR stC) te ∧ ∀ (D : Ends) (H H0 : Hp) (p n t tb : Addr) (v : V) (a : PyData) (num : Int) (b st : Mrk) (ns : List Int), Bas H0 H p n → RunAt CU H p n t st ns → Dp K H0 v a → isAction a = true → H0 tb = some (.tup [.str b.1, b.2]) →
      ¬ (inW a ["ok", "done"] = true ∧ st.1 = "none") → (∀ H', Bas H0 H' p n → RunAt CU H' p n t (actF a num b st) ns → D.nx (start n_Run_change_mark [.ref p, v, .int num, .ref tb]) H') → te D (start n_Run_change_mark [.ref p, v, .int num, .ref tb]) H := by
  have hu64 : (cxC P w K mg base f cdv A outer s HX EX).A.units + 64 < cLine := by omega
  refine ⟨_, pss_one (ps_if (PW.pt (pw_and (pt_cmpR (op_inT hu) (pv 1) (pe_tup (pa_cons pe_str (pa_cons pe_str pa_nil))) (by rfl)) (pw_and1 (pt_cmpR op_ne (pe_fld (pv 0) rfl) pe_str (nomark _)))))
        (pss_cons (ps_fld (pv 0) pe_str rfl) (pss_one (ps_fld (pv 0) (pv 2) rfl)))
        (pss_one (ps_if (pt_cmpR (op_eqD hu64) (pv 1) pe_str (nomark _))
          (pss_one (ps_asg (pv 3) (pg_tup (by rfl) (pgs_cons (pg_fld (pv 0)) (pgs_cons (pg_fld (pv 0)) pgs_nil))))) pss_nil))), ?_⟩
  intro D H H0 p n t tb v a num b st ns B U hd ha hb hno k
  obtain ⟨⟨dx, hp⟩, hn⟩ := id U
  refine ⟨_, rfl, by show 2 ≤ sizeLine; decide, fun l1 n1 => ?_⟩
  have S1 : Same H (upd H l1 (.tup [.str "bad", .str "die"])) := same_upd n1 (Same.refl H)
  have t1 : upd H l1 (.tup [.str "bad", .str "die"]) l1 = some (.tup [.str "bad", .str "die"]) := upd_same
  generalize upd H l1 (.tup [.str "bad", .str "die"]) = H1 at *
  have B1 := B.trans S1
  have p1 := S1 _ _ hp
  have ne1 := S1 _ _ hn
  have d1 : Dp K H1 v a := act_dp ha hd
  have e1 : actF a num b st = if inW a ["bad", "die"] = true ∧ st.1 ≠ "bad" then (("bad", V.int num) : Mrk) else if inW a ["reset"] = true then b else st := if_neg hno
  rw [e1] at k
  have last : ¬ (inW a ["bad", "die"] = true ∧ st.1 ≠ "bad") → tIfS (tTest (tOp (rEqD K) (tVar 1) (tC (.str "reset")))) (tSeq (tAsg (tVar 3) (gTup K 2 (gCons (gFld K (tVar 0) "mark") (gCons (gFld K (tVar 0) "spoiler") gNil)))) tNext) tNext D (start n_Run_change_mark [.ref p, v, .int num, .ref tb]) H1 := by
    intro h2
    rw [if_neg h2] at k
    refine ⟨_, rfl, a, .str "reset", d1, .str _, act_shape ha, by decide +kernel, ?_⟩
    rw [inW_eq ha]
    refine ⟨_, rfl, ?_⟩
    refine ite2 (fun h3 => ?_) (fun h3 => ?_)
    · rw [if_pos h3] at k
      have m1 := put_mark (m := b.1) p1 ne1
      have B2 := B1.p_upd (.ins CU dx (putF "mark" (.str b.1) (runF t st n)))
      refine ⟨_, rfl, tb, _, rfl, SqT.of (B1.S _ _ hb), rfl, ?_⟩
      refine ⟨_, _, rfl, _, rfl, p, CU, dx, _, rfl, p1, T.clU, T.nM, (by show 4 < 1000; decide), ?_⟩
      generalize upd H1 p (.ins CU dx (putF "mark" (.str b.1) (runF t st n))) = H2 at *
      obtain ⟨⟨dx2, p2⟩, ne2⟩ := m1
      refine ⟨_, _, rfl, _, rfl, p, CU, dx2, _, rfl, p2, T.clU, T.nS, (by show 4 < 1000; decide), ?_⟩
      exact ⟨rfl, k _ (B2.p_upd _) (put_spoil p2 ne2)⟩
    · rw [if_neg h3] at k
      exact k H1 B1 ⟨⟨dx, p1⟩, ne1⟩
  refine op_inW (x := "bad") (y := "die") ha d1 t1 (by decide +kernel) ⟨_, rfl, ?_⟩
  refine ite2 (fun h1 => ?_) (fun h1 => ?_)
  · refine ⟨_, rfl, p, CU, dx, _, _, rfl, p1, T.clU, T.nM, lk_m, rfl, _, rfl, ?_⟩
    refine ite2 (fun h2 => ?_) (fun h2 => ?_)
    · have h2' : st.1 ≠ "bad" := fun e => by
        rw [e] at h2
        simp at h2
      rw [if_pos ⟨h1, h2'⟩] at k
      have m1 := put_mark (m := "bad") p1 ne1
      have B2 := B1.p_upd (.ins CU dx (putF "mark" (.str "bad") (runF t st n)))
      refine ⟨_, rfl, p, CU, dx, _, rfl, p1, T.clU, T.nM, (by show 4 < 1000; decide), ?_⟩
      generalize upd H1 p (.ins CU dx (putF "mark" (.str "bad") (runF t st n))) = H2 at *
      obtain ⟨⟨dx2, p2⟩, ne2⟩ := m1
      refine ⟨_, rfl, _, rfl, p, CU, dx2, _, rfl, p2, T.clU, T.nS, (by show 4 < 1000; decide), ?_⟩
      exact k _ (B2.p_upd _) (put_spoil p2 ne2)
    · exact last fun q => h2 (by simp [q.2])
  · exact last fun q => h1 q.1
theorem ok_change {f : Addr} {fd : FuncData} (F : Fun K "change_mark" "Run.change_mark" sUChange f fd) (T : RunK K CU CT) : FnOk P w K mg base CX0 1 f fd ["self", "action", "number", "began"] (spChange K CU) := by
  refine F.ok scUC (fun vs H Q E h => ?_) (fun cdv A outer s H vs Q E hr h => ?_)
  · obtain ⟨H0, p, n, t, tb, v, a, num, b, st, ns, rfl, _⟩ := h
    rfl
  · obtain ⟨H0, p, n, t, tb, v, a, num, b, st, ns, rfl, B, U, hd, ha, hb, k⟩ := h
    have hu5 : (A.deeper (PyProof.Rows.envOfC "Run.change_mark" (defScope sUChange) s.heap.objs.size f cdv)).units + 65 < cLine := by have := hr.un; omega
    obtain ⟨te, pe, qe⟩ := change_else (P := P) (w := w) (mg := mg) (base := base) (f := f) (cdv := cdv) (outer := outer) (s := s) (HX := H) (EX := E) T hu5
    refine ⟨_, pss_one (ps_if (PW.pt (pw_and (pt_cmpR (op_inT hu5) (pv 1) (pe_tup (pa_cons pe_str (pa_cons pe_str pa_nil))) (by rfl)) (pw_and1 (pt_cmpR op_eq (pe_fld (pv 0) rfl) pe_str (nomark _)))))
      (pss_one (ps_fld (pv 0) pe_str rfl)) pe), ?_⟩
    obtain ⟨⟨dx, hp⟩, hn⟩ := id U
    refine ⟨_, rfl, by show 2 ≤ sizeLine; decide, fun l1 n1 => ?_⟩
    have S1 : Same H (upd H l1 (.tup [.str "ok", .str "done"])) := same_upd n1 (Same.refl H)
    have t1 : upd H l1 (.tup [.str "ok", .str "done"]) l1 = some (.tup [.str "ok", .str "done"]) := upd_same
    generalize upd H l1 (.tup [.str "ok", .str "done"]) = H1 at *
    have B1 := B.trans S1
    have U1 := U.same S1
    have p1 := S1 _ _ hp
    have ne1 := S1 _ _ hn
    have d1 : Dp K H1 v a := act_dp ha hd
    refine op_inW (x := "ok") (y := "done") ha d1 t1 (by decide +kernel) ⟨_, rfl, ?_⟩
    refine ite2 (fun h1 => ?_) (fun h1 => ?_)
    · refine ⟨_, rfl, p, CU, dx, _, _, rfl, p1, T.clU, T.nM, lk_m, rfl, _, rfl, ?_⟩
      refine ite2 (fun h2 => ?_) (fun h2 => ?_)
      · have h2' : st.1 = "none" := by simpa using h2
        rw [show actF a num b st = (("good", st.2) : Mrk) from if_pos ⟨h1, h2'⟩] at k
        refine ⟨_, rfl, p, CU, dx, _, rfl, p1, T.clU, T.nM, (by show 4 < 1000; decide), ?_⟩
        exact k _ (B1.p_upd _) (put_mark p1 ne1)
      · exact qe _ _ H0 p n t tb v a num b st ns B1 U1 hd ha hb (fun q => h2 (by simp [q.2])) k
    · exact qe _ _ H0 p n t tb v a num b st ns B1 U1 hd ha hb (fun q => h1 q.1) k
end
end LS
set_option maxHeartbeats 8000000
namespace LS
open PySem PySem.Spec PyProof.Rows L2
def forR : Stmt → List Stmt
  | .For _ _ b _ _ => b
  | _ => []
def stG1 : Stmt := (forR ((defBody sUGo).getD 3 (.Pass ⟨0, 0, 0, 0⟩))).getD 0 (.Pass ⟨0, 0, 0, 0⟩)
def stG2 : Stmt := (elseR stG1).getD 0 (.Pass ⟨0, 0, 0, 0⟩)
def stGN : Stmt := (forR ((defBody sUGo).getD 3 (.Pass ⟨0, 0, 0, 0⟩))).getD 1 (.Pass ⟨0, 0, 0, 0⟩)
/-- rules whose actions are four -/
def Four (es : List Ent) : Prop := ∀ r ∈ rulesEs es, r.2.2.length = 4 ∧ ∀ d ∈ r.2.2, isAction d = true
def spGo (K : PySem.W.Frag) (CR CS CU CT : Addr) (m : Nat) : Sp := fun vs H Q _ => ∃ (H0 : Hp) (p nu t A sp : Addr) (es : List Ent) (first : Int) (st : Mrk) (ns : List Int) (tl : Str → Nat), vs = [.ref p, .ref sp, .int first] ∧ Bas H0 H p nu ∧ RunAt CU H p nu t st ns ∧
  TellAt CT H0 t A ∧ EntAt K CR CS H0 (.stk sp es) ∧ Four es ∧ (∀ r ∈ rulesEs es, Tells H0 A r.2.1 (tl r.2.1)) ∧ depthEs es < m ∧ ns.length + (rulesEs es).length ≤ 900 ∧
  ∀ H', Bas H0 H' p nu → RunAt CU H' p nu t (goEs tl es st 0 first st ns).1 (goEs tl es st 0 first st ns).2 → Q .non H'
/-- what a run goes by -/
structure GoK (P : Program) (w : World) (K : PySem.W.Frag) (mg : Str → Option Value) (base : Heap) (CR CS CU CT : Addr) where
  T : StackK K mg CR CS
  R : RunK K CU CT
  PE : PropK P w K mg base CS "entries" (spSEntries K CR CS)
  O : DefK P w K mg base CX0 3 "rules_of" ["entry"] (spRulesOf K CR CS)
  {fA : Addr}
  {fdA : FuncData}
  GA : FnOk P w K mg base CX0 3 fA fdA ["self", "rule", "number"] (spAsk K CU CT CR)
  mA : Meth K CU "ask" fA
  bA : Binds K fdA ["self", "rule", "number"] []
  {fC : Addr}
  {fdC : FuncData}
  GC : FnOk P w K mg base CX0 1 fC fdC ["self", "action", "number", "began"] (spChange K CU)
  mC : Meth K CU "change_mark" fC
  bC : Binds K fdC ["self", "action", "number", "began"] []
  {fE : Addr}
  {fdE : FuncData}
  GE : FnOk P w K mg base CX0 1 fE fdE ["self", "action"] (spEnd K CU)
  mE : Meth K CU "is_end" fE
  bE : Binds K fdE ["self", "action"] []
  len : mg "len" = none
  int : mg "int" = none
abbrev cxG (P : Program) (w : World) (K : PySem.W.Frag) (mg : Str → Option Value) (base : Heap) (f : Addr) (cdv : Value) (A : Around) (outer : List Env) (s : Shared) (HX : Hp) (EX : XK) : Cx := (cxOf CX0 P w K mg base n_Run_go_through "Run.go_through" (defScope sUGo) f cdv A outer s HX EX).nox
abbrev slG (p sp : Addr) (first : Int) (tb : Addr) (num : Int) (k : Nat) (x6 x7 : Option V) : L2.St := [some (.ref p), some (.ref sp), some (.int first), some (.ref tb), some (.int num), some (.int (k : Nat)), x6, x7]
section
variable {P : Program} {w : World} {K : PySem.W.Frag} {mg : Str → Option Value} {base : Heap} {CR CS CU CT : Addr}
theorem scUG : FnScope n_Run_go_through ["self", "stack", "first"] (defScope sUGo) := ⟨rfl, rfl, rfl, by decide +kernel, rfl, by decide +kernel, by decide +kernel⟩
theorem go_tail {f : Addr} {cdv : Value} {A : Around} {outer : List Env} {s : Shared} {HX : Hp} {EX : XK} (G : GoK P w K mg base CR CS CU CT) (hr : Room 3 (cxG P w K mg base f cdv A outer s HX EX).A) :
    ∃ t, PS (cxG P w K mg base f cdv A outer s HX EX) stGN t ∧ ∀ (D : Ends) (H : Hp) (p sp : Addr) (first : Int) (tb : Addr) (num : Int) (k : Nat) (e : Ent) (x7 : Option V), EntAt K CR CS H e →
      (∀ H', Same H H' → D.nx (slG p sp first tb (num + (rulesE e).length) k (some (refE e)) x7) H') → t D (slG p sp first tb num k (some (refE e)) x7) H := by
  refine ⟨_, ps_aug (i := 4) scUG.nd rfl (.inl rfl) (pe_callB call_len_seq (by rfl) G.len PySem.boot_len (pa_cons (pe_call G.O.G hr (by rfl) G.O.g G.O.kp G.O.b .nil pass0 (pa_cons (pv 6) pa_nil)) pa_nil)) ip_add, ?_⟩
  intro D H p sp first tb num k e x7 he kk
  refine ⟨_, rfl, _, rfl, e, rfl, he, fun t H' S ht => ⟨t, _, rfl, .inr ht, ?_⟩⟩
  rw [List.length_map]
  exact ⟨_, _, rfl, rfl, kk H' S⟩
theorem go_rule {f : Addr} {cdv : Value} {A : Around} {outer : List Env} {s : Shared} {HX : Hp} {EX : XK} (G : GoK P w K mg base CR CS CU CT) (hr : Room 3 (cxG P w K mg base f cdv A outer s HX EX).A) :
    ∃ t, PSs (cxG P w K mg base f cdv A outer s HX EX) (elseR stG2) t ∧ ∀ (D : Ends) (H H0 : Hp) (p sp nu te A' tb : Addr) (first num : Int) (x7 : Option V) (q : Addr) (z : Str) (ds : List PyData) (b st : Mrk) (ns : List Int) (i : Nat) (a : PyData),
      Bas H0 H p nu → RunAt CU H p nu te st ns → TellAt CT H0 te A' → RuleAt K CR H0 q z ds → Tells H0 A' z i → ds[i]? = some a → isAction a = true → ns.length < 1000 → H0 tb = some (.tup [.str b.1, b.2]) →
      (∀ H', Bas H0 H' p nu → RunAt CU H' p nu te (actF a num b st) (ns ++ [num]) → (endF a (actF a num b st) = true → D.rt .non H') ∧ (endF a (actF a num b st) = false → ∀ y, D.nx (slG p sp first tb num (leftF a) (some (.ref q)) y) H')) →
      t D (slG p sp first tb num 0 (some (.ref q)) x7) H := by
  have h1 : Room 1 (cxG P w K mg base f cdv A outer s HX EX).A := hr.mono (by decide)
  refine ⟨_, pss_cons (ps_set (i := 7) scUG.nd rfl (.inl rfl) (pe_meth (pv 0) G.R.clU G.mA G.GA hr G.bA .nil pass0 (pa_cons (pv 6) (pa_cons (pv 4) pa_nil))))
    (pss_cons (ps_expr (pe_meth (pv 0) G.R.clU G.mC G.GC h1 G.bC .nil pass0 (pa_cons (pv 7) (pa_cons (pv 4) (pa_cons (pv 3) pa_nil)))))
    (pss_cons (ps_if (pt_val (pe_meth (pv 0) G.R.clU G.mE G.GE h1 G.bE .nil pass0 (pa_cons (pv 7) pa_nil))) (pss_one ps_retN) pss_nil)
    (pss_one (ps_if (pt_val (pe_callB call_isi (by rfl) G.T.isi (by decide +kernel) (pa_cons (pv 7) (pa_cons (pe_bltn (by rfl) G.int (by decide +kernel) (v := .ty "int") rfl) pa_nil))))
      (pss_one (ps_set (i := 5) scUG.nd rfl (.inl rfl) (pv 7))) pss_nil)))), ?_⟩
  intro D H H0 p sp nu te A' tb first num x7 q z ds b st ns i a B U hT hR hTl ha hact hl hb k
  obtain ⟨⟨dx, hp⟩, hn⟩ := id U
  refine ⟨_, rfl, p, dx, _, rfl, hp, lk_none (by decide +kernel), _, rfl, _, rfl, H0, p, nu, te, q, A', z, ds, st, ns, num, i, a, rfl, B, U, hT, hR, hTl, ha, hact, hl, fun v H1 B1 U1 hv _ => ?_⟩
  obtain ⟨⟨dx1, hp1⟩, hn1⟩ := id U1
  refine ⟨_, rfl, p, dx1, _, rfl, hp1, lk_none (by decide +kernel), _, rfl, _, rfl, _, rfl, H0, p, nu, te, tb, v, a, num, b, st, _, rfl, B1, U1, hv, hact, hb, fun H2 B2 U2 => ?_⟩
  obtain ⟨⟨dx2, hp2⟩, hn2⟩ := id U2
  obtain ⟨k1, k2⟩ := k H2 B2 U2
  have v2 : Dp K H2 v a := act_dp hact hv
  refine ⟨_, rfl, p, dx2, _, rfl, hp2, lk_none (by decide +kernel), _, rfl, p, nu, te, v, a, _, _, rfl, U2, v2, hact, _, rfl, ?_⟩
  refine ite2 (fun h => ?_) (fun h => ?_)
  · exact k1 h
  have k3 := k2 (Bool.eq_false_iff.mpr h)
  have na : NoList a := by rcases isAct_cases hact with ⟨j, rfl, _⟩ | ⟨y, rfl, _⟩ <;> exact True.intro
  refine ⟨_, rfl, v, .ty "int", _, _, isInt a, rfl, .ty _, ty_of v2 na, kit_ty (kit_int a), _, rfl, ?_⟩
  rcases isAct_cases hact with ⟨j, rfl, hj1, hj9⟩ | ⟨y, rfl, _⟩
  · refine iteT ?_
    cases hv
    refine ⟨_, rfl, ?_⟩
    have hj : ((leftF (.int j) : Nat) : Int) = j := by
      show ((j.toNat : Nat) : Int) = j
      omega
    have q2 : D.nx [some (.ref p), some (.ref sp), some (.int first), some (.ref tb), some (.int num), some (.int ((leftF (.int j) : Nat) : Int)), some (.ref q), some (.int j)] H2 := k3 (some (.int j))
    rw [hj] at q2
    exact q2
  · refine iteF ?_
    exact k3 _
def but2 (p n : Addr) (H : Hp) : Hp := fun b => if b = p ∨ b = n then none else H b
theorem but2_p {p n : Addr} {H : Hp} : but2 p n H p = none := if_pos (.inl rfl)
theorem but2_n {p n : Addr} {H : Hp} : but2 p n H n = none := if_pos (.inr rfl)
theorem but2_at {p n b : Addr} {H : Hp} {o : HO} (h1 : b ≠ p) (h2 : b ≠ n) (h : H b = some o) : but2 p n H b = some o := (if_neg (fun z => z.elim h1 h2)).trans h
theorem but2_le {p n : Addr} {H : Hp} : Same (but2 p n H) H := fun b o h => by
  unfold but2 at h
  split at h
  · cases h
  · exact h
theorem but2_tup {p n : Addr} {H : Hp} {C dx : Addr} {fs : List (Str × V)} {ys : List V} {t : Addr} {xs : List V} (hp : H p = some (.ins C dx fs)) (hn : H n = some (.lst ys)) (h : SqT K H t xs) : SqT K (but2 p n H) t xs := by
  have ne : ∀ {o : HO}, H t = some o → o ≠ .ins C dx fs → o ≠ .lst ys → but2 p n H t = some o := fun {o} q z1 z2 => but2_at (ne_of q hp z1) (ne_of q hn z2) q
  rcases h with (h | ⟨o, h⟩) | h
  · exact .inl (.inl (ne h (fun z => nomatch z) fun z => nomatch z))
  · exact .inl (.inr ⟨o, ne h (fun z => nomatch z) fun z => nomatch z⟩)
  · exact .inr h
theorem bas_of {H0 H : Hp} {p n : Addr} {q : Addr} {o : HO} (B : Bas (upd H0 q o) H p n) (h : H0 q = none) : Bas H0 H p n :=
  ⟨fun c u e => B.S c u (by rw [upd_ne (ne_of_none e h)]; exact e), by
    have := B.p0
    by_cases z : p = q
    · rw [z, upd_same] at this
      cases this
    · rw [upd_ne z] at this
      exact this, by
    have := B.n0
    by_cases z : n = q
    · rw [z, upd_same] at this
      cases this
    · rw [upd_ne z] at this
      exact this⟩
theorem rules_mem {es : List Ent} {i : Nat} {e : Ent} (h : es[i]? = some e) {r : RuleI} (hr : r ∈ rulesE e) : r ∈ rulesEs es := by
  rw [← List.take_append_drop (i + 1) es, rulesEs_append, rulesEs_step h]
  exact List.mem_append_left _ (List.mem_append_right _ hr)
theorem drop_rules {es : List Ent} {i : Nat} {e : Ent} (h : es[i]? = some e) : es.drop i = e :: es.drop (i + 1) := by
  obtain ⟨hi, he⟩ := List.getElem?_eq_some_iff.mp h
  rw [List.drop_eq_getElem_cons hi, he]
theorem ok_go {f : Addr} {fd : FuncData} (F : Fun K "go_through" "Run.go_through" sUGo f fd) (mF : Meth K CU "go_through" f) (bF : Binds K fd ["self", "stack", "first"] []) (G : GoK P w K mg base CR CS CU CT) :
    ∀ m : Nat, FnOk P w K mg base CX0 (m + 4) f fd ["self", "stack", "first"] (spGo K CR CS CU CT m) := by
  intro m
  induction m with
  | zero =>
    refine F.ok scUG (fun vs H Q E h => ?_) (fun cdv A outer s H vs Q E hr h => ?_)
    · obtain ⟨H0, p, nu, t, A', sp, es, first, st, ns, tl, rfl, _⟩ := h
      rfl
    · obtain ⟨H0, p, nu, t, A', sp, es, first, st, ns, tl, rfl, _, _, _, _, _, _, h, _⟩ := h
      omega
  | succ m ih =>
    refine F.ok scUG (fun vs H Q E h => ?_) (fun cdv A outer s H vs Q E hr h => ?_)
    · obtain ⟨H0, p, nu, t, A', sp, es, first, st, ns, tl, rfl, _⟩ := h
      rfl
    · obtain ⟨H0, p, nu, t, A', sp, es, first, st, ns, tl, rfl, B, U, hT, hE, hF, hTl, hdep, hlen, k⟩ := h
      obtain ⟨tR, pR, qR⟩ := go_rule (f := f) (cdv := cdv) (outer := outer) (s := s) (HX := H) (EX := E) G (hr.mono (by omega))
      obtain ⟨tN, pN, qN⟩ := go_tail (f := f) (cdv := cdv) (outer := outer) (s := s) (HX := H) (EX := E) G (hr.mono (by omega))
      refine ⟨_, pss_cons (ps_set (i := 3) scUG.nd rfl (.inl rfl) (pe_tup (pa_cons (pe_fld (pv 0) rfl) (pa_cons (pe_fld (pv 0) rfl) pa_nil))))
        (pss_cons (ps_set (i := 4) scUG.nd rfl (.inl rfl) (pv 2))
        (pss_cons (ps_set (i := 5) scUG.nd rfl (.inl rfl) pe_int)
        (pss_one (ps_for PassesOwn.never rfl (pi_tup (pe_prop (pv 1) G.T.cl G.PE.pr G.PE.G (hr.mono (by omega)) G.PE.b .nil pass0 rfl)) (pg_name (i := 6) scUG.nd rfl (.inl rfl))
          (pss_cons (ps_if (pt_cmpR op_gt (pv 5) pe_int (nomark _)) (pss_one (ps_aug (i := 5) scUG.nd rfl (.inl rfl) pe_int ip_sub))
            (pss_one (ps_if (pt_val (pe_callB call_isi (by rfl) G.T.isi (by decide +kernel) (pa_cons (pv 6) (pa_cons (pe_glob (v := .ref CS) (by rfl) G.T.g rfl) pa_nil))))
              (pss_one (ps_expr (pe_meth (pv 0) G.R.clU mF ih hr bF .nil pass0 (pa_cons (pv 6) (pa_cons (pv 4) pa_nil))))) pR)))
          (pss_one pN)))))), ?_⟩
      obtain ⟨⟨dx, hp⟩, hn⟩ := id U
      refine ⟨_, rfl, p, CU, dx, _, _, rfl, hp, G.R.clU, G.R.nM, lk_m, _, rfl, p, CU, dx, _, _, rfl, hp, G.R.clU, G.R.nS, lk_s, by show 2 ≤ sizeLine; decide, fun tb hb => ?_⟩
      have S1 : Same H (upd H tb (.tup [.str st.1, st.2])) := same_upd hb (Same.refl H)
      have t1 : upd H tb (.tup [.str st.1, st.2]) tb = some (.tup [.str st.1, st.2]) := upd_same
      generalize upd H tb (.tup [.str st.1, st.2]) = H1 at *
      have hb0 : H0 tb = none := B.S.free hb
      have e1 : tb ≠ p := (ne_of_none hp hb).symm
      have e2 : tb ≠ nu := (ne_of_none hn hb).symm
      have B1 : Bas (but2 p nu H1) H1 p nu := ⟨but2_le, but2_p, but2_n⟩
      have S0 : Same H0 (but2 p nu H1) := fun c o z => but2_at (B.ne z).1 (B.ne z).2 (S1 _ _ (B.S _ _ z))
      have back : ∀ H', Bas (but2 p nu H1) H' p nu → Bas H0 H' p nu := fun H' b => ⟨S0.trans b.S, B.p0, B.n0⟩
      have hb1 : but2 p nu H1 tb = some (.tup [.str st.1, st.2]) := but2_at e1 e2 t1
      have tupB : ∀ {te : Addr} {xs : List V}, SqT K H1 te xs → SqT K (but2 p nu H1) te xs := fun h => but2_tup (S1 _ _ hp) (S1 _ _ hn) h
      generalize but2 p nu H1 = HB at *
      have hT1 : TellAt CT HB t A' := by
        obtain ⟨dt, z⟩ := hT
        exact ⟨dt, S0 _ _ z⟩
      have hE1 := ent_same S0 _ hE
      have hTl1 : ∀ r ∈ rulesEs es, Tells HB A' r.2.1 (tl r.2.1) := fun r hr => (hTl r hr).same S0
      have hEc := ent_same B1.S _ hE1
      obtain ⟨⟨dxs, ea, ra, ma, ms, hs1, hs2, _, _, _, leg⟩, _⟩ := id hEc
      refine ⟨_, rfl, ?_⟩
      refine ⟨_, rfl, sp, dxs, _, rfl, hs1, sp, es, rfl, hEc, fun te hte => ?_⟩
      refine ⟨te, rfl, ⟨_, hte⟩, ?_⟩
      refine for_it (walk_tup (xs := es.map refE)) (fun i σ H' => ∃ (kk : Nat) (num : Int) (st1 : Mrk) (ns1 : List Int) (x6 x7 : Option V), σ = slG p sp first tb num kk x6 x7 ∧ Bas HB H' p nu ∧ RunAt CU H' p nu t st1 ns1 ∧ ns1.length + (rulesEs (es.drop i)).length ≤ 900 ∧
          goEs tl es st 0 first st ns = goEs tl (es.drop i) st kk num st1 ns1) ⟨0, first, st, ns, none, none, rfl, B1, U.same S1, hlen, rfl⟩ (fun i σ H' _ q => ?_) ?_ ?_
      · obtain ⟨_, _, _, _, _, _, _, B2, _⟩ := q
        exact same_tup B2.S (tupB hte)
      · rintro i x σ H2 H3 hi ⟨kk, num, st1, ns1, x6, x7, rfl, B2, U2, hl2, hgo⟩ ⟨rfl, hx⟩
        rw [List.length_map] at hi
        obtain ⟨e, hei⟩ : ∃ e, es[i]? = some e := ⟨_, List.getElem?_eq_getElem hi⟩
        rw [List.getElem?_map, hei] at hx
        cases hx
        have hd := drop_rules hei
        have hEi := ents_get hE1.2 hei
        have hEi2 := ent_same B2.S _ hEi
        have hlr : (rulesEs (es.drop i)).length = (rulesE e).length + (rulesEs (es.drop (i + 1))).length := by
          rw [hd]
          show (rulesE e ++ _).length = _
          rw [List.length_append]
        rw [hlr] at hl2
        rw [hd] at hgo
        cases kk with
        | succ kk =>
          refine ⟨_, rfl, _, _, rfl, rfl, _, rfl, ?_⟩
          refine ite2 (fun hk0 => ?_) (fun hk0 => ?_)
          · refine ⟨_, rfl, _, _, rfl, rfl, ?_⟩
            rw [goEs_skip] at hgo
            have e3 : (((kk + 1 : Nat) : Int) - 1) = ((kk : Nat) : Int) := by omega
            show tN _ [some (.ref p), some (.ref sp), some (.int first), some (.ref tb), some (.int num), some (.int (((kk + 1 : Nat) : Int) - 1)), some (refE e), x7] _
            rw [e3]
            refine qN _ _ p sp first tb num kk e x7 hEi2 fun H4 S4 => ?_
            exact ⟨kk, _, st1, ns1, _, _, rfl, B2.trans S4, U2.same S4, by omega, hgo⟩
          · exact (hk0 (decide_eq_true (by omega))).elim
        | zero =>
          refine ⟨_, rfl, _, _, rfl, rfl, _, rfl, ?_⟩
          refine iteF ?_
          obtain ⟨ty, hty, hk⟩ := ent_cls G.T hEi2
          refine ⟨_, rfl, refE e, .ref CS, ty, .ref CS, _, rfl, .own CS, hty, hk, _, rfl, ?_⟩
          cases e with
          | stk q fs =>
            refine iteT ?_
            obtain ⟨⟨dx2, hp2⟩, hn2⟩ := id U2
            have hmem : ∀ r ∈ rulesEs fs, r ∈ rulesEs es := fun r hr => rules_mem hei hr
            have hdq := depthEs_get hei
            have hdq2 : 1 + depthEs fs ≤ depthEs es := hdq
            have hlq : (rulesE (.stk q fs)).length = (rulesEs fs).length := rfl
            refine ⟨_, rfl, p, dx2, _, rfl, hp2, lk_none (by decide +kernel), _, rfl, _, rfl, HB, p, nu, t, A', q, fs, num, st1, ns1, tl, rfl, B2, U2, hT1, hEi, fun r hr => hF r (hmem r hr), fun r hr => hTl1 r (hmem r hr), by omega, by omega, fun H4 B4 U4 => ?_⟩
            have hgl := goEs_len (tl := tl) fs st1 0 num st1 ns1
            rw [goEs] at hgo
            have hEi4 := ent_same B4.S _ hEi
            refine qN _ _ p sp first tb num 0 (.stk q fs) x7 hEi4 fun H5 S5 => ?_
            exact ⟨0, _, _, _, _, _, rfl, B4.trans S5, U4.same S5, by omega, hgo⟩
          | rule q z ds =>
            refine iteF ?_
            have hmem : ((q, z, ds) : RuleI) ∈ rulesEs es := rules_mem hei (List.mem_singleton.mpr rfl)
            obtain ⟨f4, fa⟩ := hF _ hmem
            have htl := hTl1 _ hmem
            obtain ⟨wd, hw, _⟩ := id htl
            have hj4 := (res_first hw).1
            have hlt : tl z < ds.length := by rw [f4]; exact hj4
            have hat : ds[tl z]? = some (actAt tl z ds) := by
              unfold actAt
              rw [List.getD_eq_getElem?_getD, List.getElem?_eq_getElem hlt]
              rfl
            have hact : isAction (actAt tl z ds) = true := fa _ (List.mem_of_getElem? hat)
            have hlq : (rulesE (.rule q z ds)).length = 1 := rfl
            refine qR _ _ HB p sp nu t A' tb first num x7 q z ds st st1 ns1 (tl z) (actAt tl z ds) B2 U2 hT1 hEi.1 htl hat hact (by omega) hb1 fun H4 B4 U4 => ⟨fun he => ?_, fun he y => ?_⟩
            · rw [goEs, if_pos he] at hgo
              rw [hgo] at k
              exact k H4 (back _ B4) U4
            · rw [goEs, if_neg (by rw [he]; exact Bool.false_ne_true)] at hgo
              have hEi4 := ent_same B4.S _ hEi
              refine qN _ _ p sp first tb num _ (.rule q z ds) y hEi4 fun H5 S5 => ?_
              refine ⟨_, _, _, _, _, _, rfl, B4.trans S5, U4.same S5, ?_, hgo⟩
              rw [List.length_append]
              simp only [List.length_cons, List.length_nil]
              omega
      · rintro σ H2 ⟨kk, num, st1, ns1, x6, x7, rfl, B2, U2, hl2, hgo⟩
        rw [List.length_map, List.drop_length] at hgo
        rw [goEs] at hgo
        rw [hgo] at k
        exact k H2 (back _ B2) U2
end
end LS
set_option maxHeartbeats 4000000
namespace LS
open PySem PySem.Spec PyProof.Rows L2
abbrev sRunOf : Stmt := top i_run_of
abbrev sWhole : Stmt := top i_whole_run
abbrev sWordOf : Stmt := top i_word_of
/-- the end of a run: its mark and the numbers of the rules that were asked -/
def runs (tl : Str → Nat) (es : List Ent) : Mrk × List Int := goEs tl es ("none", .non) 0 0 ("none", .non) []
def inOut (st : Mrk) : Str := if st.1 = "good" then "in" else "out"
/-- a stack that stands, and who tells what of its modules -/
structure AskAt (K : PySem.W.Frag) (CR CS : Addr) (H : Hp) (sp A : Addr) (es : List Ent) (tl : Str → Nat) : Prop where
  e : EntAt K CR CS H (.stk sp es)
  four : Four es
  tells : ∀ r ∈ rulesEs es, Tells H A r.2.1 (tl r.2.1)
theorem AskAt.same {K : PySem.W.Frag} {CR CS : Addr} {H H' : Hp} {sp A : Addr} {es : List Ent} {tl : Str → Nat} (h : AskAt K CR CS H sp A es tl) (S : Same H H') : AskAt K CR CS H' sp A es tl :=
  ⟨ent_same S _ h.e, h.four, fun r hr => (h.tells r hr).same S⟩
def spRunOf (K : PySem.W.Frag) (CR CS CU CT : Addr) : Sp := fun vs H Q _ => ∃ (sp t A : Addr) (es : List Ent) (tl : Str → Nat), vs = [.ref sp, .ref t] ∧ AskAt K CR CS H sp A es tl ∧ TellAt CT H t A ∧
  ∀ p nu H', Bas H H' p nu → RunAt CU H' p nu t (runs tl es).1 (runs tl es).2 → Q (.ref p) H'
def spWhole (K : PySem.W.Frag) (CR CS CU : Addr) : Sp := fun vs H Q _ => ∃ (sp A : Addr) (es : List Ent) (tl : Str → Nat), vs = [.ref sp, .ref A] ∧ AskAt K CR CS H sp A es tl ∧
  ∀ p nu t H', Bas H H' p nu → RunAt CU H' p nu t (runs tl es).1 (runs tl es).2 → Q (.ref p) H'
def spWordOf (CU : Addr) : Sp := fun vs H Q _ => ∃ (p nu t : Addr) (st : Mrk) (ns : List Int), vs = [.ref p] ∧ RunAt CU H p nu t st ns ∧ Q (.str (inOut st)) H
def spLeads (K : PySem.W.Frag) (CR CS : Addr) : Sp := fun vs H Q _ => ∃ (sp A : Addr) (es : List Ent) (tl : Str → Nat), vs = [.ref sp, .ref A] ∧ AskAt K CR CS H sp A es tl ∧
  ∀ H', Same H H' → Q (.str (inOut (runs tl es).1)) H'
/-- how runs are made -/
structure MakK (P : Program) (w : World) (K : PySem.W.Frag) (mg : Str → Option Value) (base : Heap) (CU CT : Addr) where
  {fU : Addr}
  {fdU : FuncData}
  GU : FnOk P w K mg base CX0 1 fU fdU ["self", "teller"] (spUInit CU)
  MU : Mk K CU fU
  bU : Binds K fdU ["self", "teller"] []
  gU : mg "Run" = some (.ref CU)
  {fT : Addr}
  {fdT : FuncData}
  GT : FnOk P w K mg base CX0 1 fT fdT ["self", "answers"] (spTInit CT)
  MT : Mk K CT fT
  bT : Binds K fdT ["self", "answers"] []
  gT : mg "Teller" = some (.ref CT)
section
variable {P : Program} {w : World} {K : PySem.W.Frag} {mg : Str → Option Value} {base : Heap} {CR CS CU CT : Addr}
theorem scRun : FnScope n_run_of ["stack", "teller"] (defScope sRunOf) := ⟨rfl, rfl, rfl, by decide +kernel, rfl, by decide +kernel, by decide +kernel⟩
theorem scWhole : FnScope n_whole_run ["stack", "answers"] (defScope sWhole) := ⟨rfl, rfl, rfl, by decide +kernel, rfl, by decide +kernel, by decide +kernel⟩
theorem scWordOf : FnScope n_word_of ["run"] (defScope sWordOf) := ⟨rfl, rfl, rfl, by decide +kernel, rfl, by decide +kernel, by decide +kernel⟩
theorem ok_runof {f fG : Addr} {fd fdG : FuncData} (F : Fun K "run_of" "run_of" sRunOf f fd) (R : RunK K CU CT) (M : MakK P w K mg base CU CT) (GG : FnOk P w K mg base CX0 7 fG fdG ["self", "stack", "first"] (spGo K CR CS CU CT 3)) (mG : Meth K CU "go_through" fG)
    (bG : Binds K fdG ["self", "stack", "first"] []) : FnOk P w K mg base CX0 8 f fd ["stack", "teller"] (spRunOf K CR CS CU CT) := by
  refine F.ok scRun (fun vs H Q E h => ?_) (fun cdv A outer s H vs Q E hr h => ?_)
  · obtain ⟨sp, t, A', es, tl, rfl, _⟩ := h
    rfl
  · obtain ⟨sp, t, A', es, tl, rfl, hA, hT, k⟩ := h
    refine ⟨_, pss_cons (ps_set (i := 2) scRun.nd rfl (.inl rfl) (pe_make M.MU M.GU (hr.mono (by decide)) (by rfl) M.gU M.bU .nil pass0 (pa_cons (pv 1) pa_nil)))
      (pss_cons (ps_expr (pe_meth (pv 2) R.clU mG GG hr bG .nil pass0 (pa_cons (pv 0) (pa_cons pe_int pa_nil)))) (pss_one (ps_ret (pv 2)))), ?_⟩
    refine ⟨_, rfl, fun p dx hp hdx hne => ?_⟩
    refine ⟨p, dx, t, rfl, upd_same, fun nu H1 hnu hnp fr U => ⟨rfl, ?_⟩⟩
    have e1 : nu ≠ dx := fun e => by
      rw [e, upd_ne hne, upd_same] at hnu
      cases hnu
    rw [upd_ne hnp, upd_ne e1] at hnu
    have B : Bas H H1 p nu := ⟨fun q o e => by
      have q1 : q ≠ p := ne_of_none e hp
      have q2 : q ≠ nu := ne_of_none e hnu
      have q3 : q ≠ dx := ne_of_none e hdx
      rw [fr q q1 q2, upd_ne q1, upd_ne q3]
      exact e, hp, hnu⟩
    obtain ⟨⟨dx1, hp1⟩, hn1⟩ := id U
    obtain ⟨⟨dxs, ea, ra, ma, ms, hs1, hs2, _, _, _, leg⟩, _⟩ := id hA.e
    have l1 := leg.deep
    have l2 := leg.rules
    refine ⟨_, rfl, p, dx1, _, rfl, hp1, lk_none (by decide +kernel), _, rfl, H, p, nu, t, A', sp, es, 0, ("none", .non), [], tl, rfl, B, U, hT, hA.e, hA.four, hA.tells, by omega, by show 0 + _ ≤ 900; omega, fun H2 B2 U2 => ?_⟩
    exact ⟨_, rfl, k p nu H2 B2 U2⟩
theorem ok_whole {f fO : Addr} {fd fdO : FuncData} (F : Fun K "whole_run" "whole_run" sWhole f fd) (M : MakK P w K mg base CU CT) (GO : FnOk P w K mg base CX0 8 fO fdO ["stack", "teller"] (spRunOf K CR CS CU CT)) (gO : mg "run_of" = some (.ref fO))
    (kO : PySem.W.keepIn K (.ref fO) = true) (bO : Binds K fdO ["stack", "teller"] []) : FnOk P w K mg base CX0 9 f fd ["stack", "answers"] (spWhole K CR CS CU) := by
  refine F.ok scWhole (fun vs H Q E h => ?_) (fun cdv A outer s H vs Q E hr h => ?_)
  · obtain ⟨sp, A', es, tl, rfl, _⟩ := h
    rfl
  · obtain ⟨sp, A', es, tl, rfl, hA, k⟩ := h
    refine ⟨_, pss_one (ps_ret (pe_call GO hr (by rfl) gO kO bO .nil pass0 (pa_cons (pv 0) (pa_cons (pe_make M.MT M.GT (hr.mono (by decide)) (by rfl) M.gT M.bT .nil pass0 (pa_cons (pv 1) pa_nil)) pa_nil)))), ?_⟩
    refine ⟨_, rfl, _, rfl, fun t dt ht hdt hne => ?_⟩
    refine ⟨t, dt, A', rfl, upd_same, fun H1 fr hT => ⟨rfl, ?_⟩⟩
    have S : Same H H1 := fun q o e => by
      have q1 : q ≠ t := ne_of_none e ht
      have q3 : q ≠ dt := ne_of_none e hdt
      rw [fr q q1, upd_ne q1, upd_ne q3]
      exact e
    exact ⟨sp, t, A', es, tl, rfl, hA.same S, hT, fun p nu H2 B2 U2 => k p nu t H2 ⟨S.trans B2.S, S.free B2.p0, S.free B2.n0⟩ U2⟩
theorem ok_wordof {f : Addr} {fd : FuncData} (F : Fun K "word_of" "word_of" sWordOf f fd) (R : RunK K CU CT) : FnOk P w K mg base CX0 1 f fd ["run"] (spWordOf CU) := by
  refine F.ok scWordOf (fun vs H Q E h => ?_) (fun cdv A outer s H vs Q E hr h => ?_)
  · obtain ⟨p, nu, t, st, ns, rfl, _⟩ := h
    rfl
  · obtain ⟨p, nu, t, st, ns, rfl, ⟨⟨dx, hp⟩, hn⟩, k⟩ := h
    refine ⟨_, pss_one (ps_ret (pe_ifExp (pt_cmpR op_eq (pe_fld (pv 0) rfl) pe_str (nomark _)) pe_str pe_str)), ?_⟩
    refine ⟨_, rfl, p, CU, dx, _, _, rfl, hp, R.clU, R.nM, lk_m, rfl, _, rfl, ?_⟩
    unfold inOut at k
    refine ite2 (fun h => ?_) (fun h => ?_)
    · rw [if_pos (by simpa using h)] at k
      exact k
    · rw [if_neg (fun e => h (by simp [e]))] at k
      exact k
end
end LS
set_option maxHeartbeats 8000000
namespace LS
open PySem PySem.Spec PyProof.Rows L2
/-- dict(zip(a list of texts, a tuple of as many texts)) -/
def tDZ (K : PySem.W.Frag) (ta : TA) : TE := fun σ H Q => ta σ H fun vs H1 => ∃ (a b : Addr) (xs ys : List Str), vs = [.ref a, .ref b] ∧ SqL K H1 a (xs.map V.str) ∧ SqT K H1 b (ys.map V.str) ∧ xs.length = ys.length ∧ xs.Nodup ∧
  ∀ d H2, Same H1 H2 → H1 d = none → H2 d = some (.dK ((xs.zip ys).map fun p => (Sum.inr p.1, V.str p.2))) → Q (.ref d) H2
/-- the rule of it, for any context -/
def DZRule : Prop := ∀ {X : Cx} {e1 e2 : Expr} {ta : TA} {p1 p2 q1 q2 : Pos}, X.calm = true → Gl X "dict" → X.mg "dict" = none → Gl X "zip" → X.mg "zip" = none → PA X [e1, e2] ta → starEach [e1, e2] X.env = (false, eval e1 X.env) :: starEach [e2] X.env → (backTo q2 (starEach [e2] X.env)).any (·.1) = false →
  starEach [.Call (.Name "zip" p2) [e1, e2] [] q2] X.env = (false, eval (.Call (.Name "zip" p2) [e1, e2] [] q2) X.env) :: starEach [] X.env →
  PE X (.Call (.Name "dict" p1) [.Call (.Name "zip" p2) [e1, e2] [] q2] [] q1) (tDZ X.K ta)
theorem pe_dz (Z : DZRule) {X : Cx} {K' : PySem.W.Frag} (hK : X.K = K') {e1 e2 : Expr} {ta : TA} {p1 p2 q1 q2 : Pos} (hc : X.calm = true) (g1 : Gl X "dict") (m1 : X.mg "dict" = none) (g2 : Gl X "zip") (m2 : X.mg "zip" = none) (ha : PA X [e1, e2] ta) (hs : starEach [e1, e2] X.env = (false, eval e1 X.env) :: starEach [e2] X.env := by rfl) (hp : (backTo q2 (starEach [e2] X.env)).any (·.1) = false := by rfl)
  (hz : starEach [.Call (.Name "zip" p2) [e1, e2] [] q2] X.env = (false, eval (.Call (.Name "zip" p2) [e1, e2] [] q2) X.env) :: starEach [] X.env := by rfl) :
  PE X (.Call (.Name "dict" p1) [.Call (.Name "zip" p2) [e1, e2] [] q2] [] q1) (tDZ K' ta) := hK ▸ Z hc g1 m1 g2 m2 ha hs hp hz
/-- tuples of texts, as they stand -/
def TupsAt (K : PySem.W.Frag) (H : Hp) : List V → List (List Str) → Prop
  | [], L => L = []
  | v :: vs, L => ∃ ws r, L = ws :: r ∧ (∃ a, v = .ref a ∧ SqT K H a (ws.map V.str)) ∧ TupsAt K H vs r
theorem tups_same {K : PySem.W.Frag} {H H' : Hp} (S : Same H H') : ∀ {vs : List V} {L : List (List Str)}, TupsAt K H vs L → TupsAt K H' vs L
  | [], _, h => h
  | v :: vs, _, ⟨ws, r, e, ⟨a, h1, h2⟩, h3⟩ => ⟨ws, r, e, ⟨a, h1, same_tup S h2⟩, tups_same S h3⟩
theorem tups_append {K : PySem.W.Frag} {H : Hp} : ∀ {vs us : List V} {L M : List (List Str)}, TupsAt K H vs L → TupsAt K H us M → TupsAt K H (vs ++ us) (L ++ M)
  | [], us, L, M, h, h2 => by
    have h : L = [] := h
    rw [h]
    exact h2
  | v :: vs, us, _, M, ⟨ws, r, e, h1, h3⟩, h2 => by
    subst e
    exact ⟨ws, r ++ M, rfl, h1, tups_append h3 h2⟩
theorem tups_len {K : PySem.W.Frag} {H : Hp} : ∀ {vs : List V} {L : List (List Str)}, TupsAt K H vs L → vs.length = L.length
  | [], L, h => by
    have h : L = [] := h
    rw [h]
    rfl
  | v :: vs, _, ⟨ws, r, e, _, h3⟩ => by
    subst e
    rw [List.length_cons, List.length_cons, tups_len h3]
theorem tups_get {K : PySem.W.Frag} {H : Hp} : ∀ {vs : List V} {L : List (List Str)} {i : Nat} {v : V}, TupsAt K H vs L → vs[i]? = some v → ∃ ws a, L[i]? = some ws ∧ v = .ref a ∧ SqT K H a (ws.map V.str)
  | [], _, i, v, _, h => by simp at h
  | u :: vs, _, 0, v, ⟨ws, r, e, ⟨a, h1, h2⟩, _⟩, h => by
    subst e
    simp at h
    subst h
    exact ⟨ws, a, rfl, h1, h2⟩
  | u :: vs, _, i + 1, v, ⟨ws, r, e, _, h3⟩, h => by
    subst e
    obtain ⟨ws', a, q1, q2, q3⟩ := tups_get (i := i) h3 (by simpa using h)
    exact ⟨ws', a, by simpa using q1, q2, q3⟩
def moreF (L : List (List Str)) : List (List Str) := L.flatMap fun ws => resWords.map fun r => ws ++ [r]
def allF (zs : List Str) : List (List Str) := zs.foldl (fun L _ => moreF L) [[]]
theorem moreF_len (L : List (List Str)) : (moreF L).length = 4 * L.length := by
  unfold moreF
  induction L with
  | nil => rfl
  | cons w L ih =>
    rw [List.flatMap_cons, List.length_append, ih, List.length_map]
    show 4 + _ = _
    rw [List.length_cons]
    omega
theorem allF_snoc (zs : List Str) (z : Str) : allF (zs ++ [z]) = moreF (allF zs) := by
  unfold allF
  rw [List.foldl_append]
  rfl
theorem sqt_upd {K : PySem.W.Frag} {H : Hp} {B t : Addr} {u0 u1 : List V} {xs : List V} (hB : H B = some (.lst u0)) (h : SqT K H t xs) : SqT K (upd H B (.lst u1)) t xs := by
  have ne : ∀ {o : HO}, H t = some o → o ≠ .lst u0 → upd H B (.lst u1) t = some o := fun {o} q z => by
    rw [upd_ne (ne_of q hB z)]
    exact q
  rcases h with (h | ⟨o, h⟩) | h
  · exact .inl (.inl (ne h fun z => nomatch z))
  · exact .inl (.inr ⟨o, ne h fun z => nomatch z⟩)
  · exact .inr h
theorem tups_upd {K : PySem.W.Frag} {H : Hp} {B : Addr} {u0 u1 : List V} (hB : H B = some (.lst u0)) : ∀ {vs : List V} {L : List (List Str)}, TupsAt K H vs L → TupsAt K (upd H B (.lst u1)) vs L
  | [], _, h => h
  | v :: vs, _, ⟨ws, r, e, ⟨a, h1, h2⟩, h3⟩ => ⟨ws, r, e, ⟨a, h1, sqt_upd hB h2⟩, tups_upd hB h3⟩
theorem moreF_mem {L : List (List Str)} {n : Nat} (h : ∀ ws ∈ L, ws.length = n) : ∀ ws ∈ moreF L, ws.length = n + 1 := by
  intro ws hw
  obtain ⟨u, hu, hr⟩ := List.mem_flatMap.mp hw
  obtain ⟨r, _, rfl⟩ := List.mem_map.mp hr
  rw [List.length_append, h u hu]
  rfl
theorem moreF_take {L : List (List Str)} {j : Nat} {ws : List Str} (h : L[j]? = some ws) : moreF (L.take (j + 1)) = moreF (L.take j) ++ resWords.map fun r => ws ++ [r] := by
  unfold moreF
  rw [List.take_add_one, h, List.flatMap_append]
  show _ ++ ([ws].flatMap _) = _
  rw [List.flatMap_cons, List.flatMap_nil, List.append_nil]
def dictF (zs ws : List Str) : List (Key × V) := (zs.zip ws).map fun p => (Sum.inr p.1, V.str p.2)
end LS
set_option maxHeartbeats 4000000
/-! zip over two iterators of any kind, its last tuple held by another: for dict(zip(a list, a tuple)) -/
namespace LS
open PySem
section
variable {prog : Program} {w : World} {A : Around} {E : Value → Shared → Prop} {s : Shared} {z TI TO T i1 i2 : Addr} {fp1 fp2 : List Addr} {n1 n2 i : Nat} {P1 P2 : Nat → Value → Prop} {St1 St2 : Nat → Heap → Prop} {f : Bool} {oT : Obj}
theorem zipH_item {Q : Value → Shared → Prop} (S : ZipSep2 z TI TO i1 i2 fp1 fp2) (D1 : Draws prog w A i1 fp1 n1 P1 St1) (D2 : Draws prog w A i2 fp2 n2 P2 St2)
    (hz : IsZipHeld s.heap z TI TO T f) (hT : s.heap.get? T = some oT) (hTI : IsTupOf2 s.heap TI (.ref i1) (.ref i2)) (st1 : St1 i s.heap) (st2 : St2 i s.heap) (hlt1 : i < n1) (hlt2 : i < n2)
    (hQ : ∀ x1 x2 h' tk, P1 i x1 → P2 i x2 → IsZipHeld h' z TI TO T true → St1 (i + 1) h' → St2 (i + 1) h' → IsTupOf2 h' s.heap.objs.size x1 x2 → h'.objs.size = s.heap.objs.size + 1 →
      (∀ c o, c ≠ z → c ≠ i1 → c ≠ i2 → s.heap.get? c = some o → h'.get? c = some o) → Q (.ref s.heap.objs.size) { s with heap := h', toks := tk }) :
    wpAny (model prog w) A (Builtin.«zip.__next__» ⟨[.ref z], []⟩) (fun fin s' => ∃ v, fin = .done (.ret v) ∧ Q v s') E s := by
  obtain ⟨hp, g, d, tk0, os⟩ := s
  show wpAny _ _ (field (.ref z) 2 >>= _) _ _ _
  refine wpAny_bind (wpAny_field hz rfl (x := .bool false) rfl ?_)
  show wpAny _ _ (field (.ref z) 3 >>= _) _ _ _
  refine wpAny_bind (wpAny_field hz rfl (x := .ref TI) rfl ?_)
  refine wpAny_bind (wpAny_seqItems hTI rfl ?_)
  show wpAny _ _ (Builtin.SmallTypes.ownedTupleIsFree (.ref z) >>= _) _ _ _
  refine wpAny_bind (wpAny_tupleHeld_zip hz hT fun g0 hz0 hs0 => ?_)
  replace hs0 : Heap.SameBut z hp g0 := hs0
  simp only [Bool.false_eq_true, if_false]
  refine wpAny_bind ?_
  rw [← Array.forIn_toList]
  simp only [List.forIn_cons, List.forIn_nil]
  refine wpAny_bind (wpAny_bind (wpAny_holding ?_))
  show wpAny _ _ (Builtin.SmallTypes.nextOf (.ref i1) >>= _) _ _ ⟨g0, g, d, tk0, os⟩
  refine wpAny_bind (D1.item i _ _ _ hlt1 (D1.over st1 hs0 S.zf1) fun x1 p1 tk1 hx1 sn1 hp1 => wpAny_pure ?_)
  replace hp1 : Heap.SameBut i1 g0 p1 := hp1
  refine wpAny_pure ?_
  refine wpAny_bind (wpAny_bind (wpAny_holding ?_))
  show wpAny _ _ (Builtin.SmallTypes.nextOf (.ref i2) >>= _) _ _ ⟨p1, g, d, tk1, os⟩
  refine wpAny_bind (D2.item i _ _ _ hlt2 (D2.over (D2.over st2 hs0 S.zf2) hp1 S.sep1_2) fun x2 p2 tk2 hx2 sn2 hp2 => wpAny_pure ?_)
  replace hp2 : Heap.SameBut i2 p1 p2 := hp2
  refine wpAny_pure (wpAny_pure ?_)
  show wpAny _ _ (newTuple [x1, x2] >>= _) _ _ ⟨p2, g, d, tk2, os⟩
  refine wpAny_bind (wpAny_newTuple ?_)
  have hsz : p2.objs.size = hp.objs.size := by rw [hp2.1, hp1.1, hs0.1]
  have hzz : IsZipHeld p2 z TI TO T true := hp2.extBut _ _ S.zi2 (hp1.extBut _ _ S.zi1 hz0)
  have hk : ∀ c o, c ≠ z → c ≠ i1 → c ≠ i2 → hp.get? c = some o → p2.get? c = some o := fun c o c1 c2 c3 e => hp2.extBut _ _ c3 (hp1.extBut _ _ c2 (hs0.extBut _ _ c1 e))
  have hj1 : St1 (i + 1) p2 := D1.over sn1 hp2 S.sep2_1
  refine wpAny_pure ⟨_, rfl, ?_⟩
  show Q (.ref p2.objs.size) ⟨p2.push { cls := .type "tuple", data := .seq #[x1, x2] }, g, d, tk2, os⟩
  have hq : IsTupOf2 (p2.push { cls := .type "tuple", data := .seq #[x1, x2] }) p2.objs.size x1 x2 := Heap.get?_push_size _ rfl
  have hz4 : (p2.push { cls := .type "tuple", data := .seq #[x1, x2] }).objs.size = p2.objs.size + 1 := Heap.size_push ..
  rw [hsz] at hq hz4 ⊢
  exact hQ x1 x2 _ tk2 hx1 hx2 (Heap.get?_push_of_some _ hzz) (D1.frame _ _ _ hj1 fun b _ o e => Heap.get?_push_of_some _ e) (D2.frame _ _ _ sn2 fun b _ o e => Heap.get?_push_of_some _ e) hq hz4 fun c o c1 c2 c3 e => Heap.get?_push_of_some _ (hk c o c1 c2 c3 e)
theorem zipH_end {Q : Fin → Shared → Prop} (S : ZipSep2 z TI TO i1 i2 fp1 fp2) (D1 : Draws prog w A i1 fp1 n1 P1 St1) (D2 : Draws prog w A i2 fp2 n2 P2 St2)
    (hz : IsZipHeld s.heap z TI TO T f) (hT : s.heap.get? T = some oT) (hTI : IsTupOf2 s.heap TI (.ref i1) (.ref i2)) (st1 : St1 n1 s.heap)
    (hE : ∀ h' tk e, (∀ c o, c ≠ z → c ≠ i1 → c ≠ i2 → s.heap.get? c = some o → h'.get? c = some o) → (∃ o, h'.get? e = some o ∧ o.cls = .type "StopIteration") → E (.ref e) { s with heap := h', toks := tk }) :
    wpAny (model prog w) A (Builtin.«zip.__next__» ⟨[.ref z], []⟩) Q E s := by
  obtain ⟨hp, g, d, tk0, os⟩ := s
  show wpAny _ _ (field (.ref z) 2 >>= _) _ _ _
  refine wpAny_bind (wpAny_field hz rfl (x := .bool false) rfl ?_)
  show wpAny _ _ (field (.ref z) 3 >>= _) _ _ _
  refine wpAny_bind (wpAny_field hz rfl (x := .ref TI) rfl ?_)
  refine wpAny_bind (wpAny_seqItems hTI rfl ?_)
  show wpAny _ _ (Builtin.SmallTypes.ownedTupleIsFree (.ref z) >>= _) _ _ _
  refine wpAny_bind (wpAny_tupleHeld_zip hz hT fun g0 hz0 hs0 => ?_)
  replace hs0 : Heap.SameBut z hp g0 := hs0
  simp only [Bool.false_eq_true, if_false]
  refine wpAny_bind ?_
  rw [← Array.forIn_toList]
  simp only [List.forIn_cons, List.forIn_nil]
  refine wpAny_bind (wpAny_bind (wpAny_holding ?_))
  show wpAny _ _ (Builtin.SmallTypes.nextOf (.ref i1) >>= _) _ _ ⟨g0, g, d, tk0, os⟩
  refine wpAny_bind (D1.done ⟨g0, g, d, tk0, os⟩ _ _ (D1.over st1 hs0 S.zf1) fun q e hq he => ?_)
  replace hq : Heap.ExtBut i1 g0 q := hq
  exact hE q tk0 e (fun c o c1 c2 _ x => hq _ _ c2 (hs0.extBut _ _ c1 x)) he
theorem pyNext_zipH_item {Q : Option Value → Shared → Prop} (S : ZipSep2 z TI TO i1 i2 fp1 fp2) (D1 : Draws prog w A.in1 i1 fp1 n1 P1 St1) (D2 : Draws prog w A.in1 i2 fp2 n2 P2 St2)
    (hz : IsZipHeld s.heap z TI TO T f) (hT : s.heap.get? T = some oT) (hTI : IsTupOf2 s.heap TI (.ref i1) (.ref i2)) (st1 : St1 i s.heap) (st2 : St2 i s.heap) (hlt1 : i < n1) (hlt2 : i < n2)
    (hQ : ∀ x1 x2 h' tk, P1 i x1 → P2 i x2 → IsZipHeld h' z TI TO T true → St1 (i + 1) h' → St2 (i + 1) h' → IsTupOf2 h' s.heap.objs.size x1 x2 → h'.objs.size = s.heap.objs.size + 1 →
      (∀ c o, c ≠ z → c ≠ i1 → c ≠ i2 → s.heap.get? c = some o → h'.get? c = some o) → Q (some (.ref s.heap.objs.size)) { s with heap := h', toks := tk }) :
    wpAny (model prog w) A (pyNext (.ref z)) Q E s := by
  have hTy : s.TypeIs (.ref z) "zip" := ⟨_, hz, rfl⟩
  unfold pyNext
  exact wpAny_bind (wpAny_attempt (wpAny_callSpecial?_slot (name := Str.ofString "__next__") hTy F.slot_zip_next
    (wpAny_call_entry F.slot_zip_next hTy F.entry_zip_next
      (zipH_item S D1 D2 hz hT hTI st1 st2 hlt1 hlt2 fun x1 x2 h' tk a1 a2 a3 a4 a5 a6 a7 a8 => wpAny_pure (hQ x1 x2 h' tk a1 a2 a3 a4 a5 a6 a7 a8)) (F.args_zip_next_1 _))))
theorem pyNext_zipH_end {Q : Option Value → Shared → Prop} (S : ZipSep2 z TI TO i1 i2 fp1 fp2) (D1 : Draws prog w A.in1 i1 fp1 n1 P1 St1) (D2 : Draws prog w A.in1 i2 fp2 n2 P2 St2)
    (hz : IsZipHeld s.heap z TI TO T f) (hT : s.heap.get? T = some oT) (hTI : IsTupOf2 s.heap TI (.ref i1) (.ref i2)) (st1 : St1 n1 s.heap)
    (hQ : ∀ h' tk, (∀ c o, c ≠ z → c ≠ i1 → c ≠ i2 → s.heap.get? c = some o → h'.get? c = some o) → Q none { s with heap := h', toks := tk }) : wpAny (model prog w) A (pyNext (.ref z)) Q E s := by
  have hTy : s.TypeIs (.ref z) "zip" := ⟨_, hz, rfl⟩
  unfold pyNext
  refine wpAny_bind (wpAny_attempt (wpAny_callSpecial?_slot (name := Str.ofString "__next__") hTy F.slot_zip_next
    (wpAny_call_entry F.slot_zip_next hTy F.entry_zip_next (zipH_end S D1 D2 hz hT hTI st1 fun h' tk e hk he => ?_) (F.args_zip_next_1 _))))
  obtain ⟨o, ho, hc⟩ := he
  refine wpAny_bind (wpAny_isInstance (T := "StopIteration") (b := true) ⟨o, ho, hc⟩ isSubtype_stop ?_)
  exact wpAny_pure (hQ _ _ hk)
end
end LS
namespace LS
open PySem
section
variable {prog : Program} {w : World}
theorem sep_of {z TI TO i1 i2 l1 l2 : Addr} (D : ZipApart z TI TO i1 i2 l1 l2) : ZipSep2 z TI TO i1 i2 [i1, l1] [i2, l2] where
  TIz := D.TIz
  TOz := D.TOz
  TITO := D.TITO
  TIi1 := D.TIi1
  mem1 := by simp
  zf1 := by simp [D.i1z.symm, D.l1z.symm]
  Tf1 := by simp [D.TOi1, D.l1TO.symm]
  TIi2 := D.TIi2
  mem2 := by simp
  zf2 := by simp [D.i2z.symm, D.l2z.symm]
  Tf2 := by simp [D.TOi2, D.l2TO.symm]
  sep1_2 := by simp [D.i12, D.l2i1.symm]
  sep2_1 := by simp [D.i12.symm, D.l1i2.symm]
theorem pairZip (z TI TO i1 i2 l1 l2 : Addr) (D : ZipApart z TI TO i1 i2 l1 l2) (xs ys : Array Value) (hl : xs.size = ys.size) :
    PairArg prog w "zip" z [z, TI, TO, i1, i2, l1, l2] [z, TO, i1, i2] xs.size (fun i k v => xs[i]? = some k ∧ ys[i]? = some v)
      (fun h => IsZip h z TI TO .none ∧ IsPair h TI (.ref i1) (.ref i2) ∧ (∃ a b, IsPair h TO a b) ∧ h.IsListIter i1 l1 0 ∧ h.IsTupleIter i2 l2 0 ∧ h.IsList l1 xs ∧ h.IsTuple l2 ys) where
  type := fun s ok => ⟨_, ok.1, rfl⟩
  notDict := by decide
  keep := fun h h' ok hk => by
    obtain ⟨hz, hTI, ⟨a, b, hTO⟩, h1, ⟨o2, h2, q2⟩, hl1, ⟨o4, hl2, q4⟩⟩ := ok
    exact ⟨hk _ _ hz, hk _ _ hTI, ⟨a, b, hk _ _ hTO⟩, h1.at fun o e => hk _ o e, ⟨o2, hk _ _ h2, q2⟩, hl1.at fun o e => hk _ o e, ⟨o4, hk _ _ hl2, q4⟩⟩
  there := fun h ok b hb => by
    obtain ⟨hz, hTI, ⟨a, c, hTO⟩, ⟨o1, h1, _⟩, ⟨o2, h2, _⟩, ⟨o3, hl1, _⟩, ⟨o4, hl2, _⟩⟩ := ok
    simp only [List.mem_cons, List.not_mem_nil, or_false] at hb
    rcases hb with rfl | rfl | rfl | rfl | rfl | rfl | rfl
    all_goals first | exact ⟨_, hz⟩ | exact ⟨_, hTI⟩ | exact ⟨_, hTO⟩ | exact ⟨_, h1⟩ | exact ⟨_, h2⟩ | exact ⟨_, hl1⟩ | exact ⟨_, hl2⟩
  sub := fun b hb => by simp at hb ⊢; rcases hb with rfl | rfl | rfl | rfl <;> simp
  noKeys := fun A s Q E hA ok h => getAttrOr_miss_zip ok.1 rfl rfl rfl zip_no_keys (by decide +kernel) hA h
  iter := fun A s d Q E hA ok hd hdf h => by
    obtain ⟨hz, hTI, ⟨a, b, hTO⟩, h1, h2, hl1, hl2⟩ := ok
    simp only [List.mem_cons, List.not_mem_nil, or_false, not_or] at hdf
    obtain ⟨dz, dTI, dTO, di1, di2, dl1, dl2⟩ := hdf
    have hA1 : A.in1.handled = none := hA
    have D1 : Draws prog w A.in1 i1 [i1, l1] xs.size (fun i v => xs[i]? = some v) (fun i h => h.IsListIter i1 l1 i ∧ h.IsList l1 xs) := Draws.list hA1 i1 l1 D.l1i1 xs
    have D2 : Draws prog w A.in1 i2 [i2, l2] ys.size (fun i v => ys[i]? = some v) (fun i h => h.IsTupleIter i2 l2 i ∧ h.IsTuple l2 ys) := Draws.tuple hA1 i2 l2 D.l2i2 ys
    refine wpAny_pyIter_zip hz (h z [z, TO, i1, i2] (fun i h => IsPair h TI (.ref i1) (.ref i2) ∧ (h.IsListIter i1 l1 i ∧ h.IsList l1 xs) ∧ (h.IsTupleIter i2 l2 i ∧ h.IsTuple l2 ys) ∧
      ((IsZip h z TI TO .none ∧ ∃ a b, IsPair h TO a b) ∨ ∃ T f oT, IsZipHeld h z TI TO T f ∧ h.get? T = some oT ∧ T ≠ z ∧ T ≠ i1 ∧ T ≠ i2 ∧ T ≠ d)) s.heap s.toks ?_
      ⟨hTI, ⟨h1, hl1⟩, ⟨h2, hl2⟩, .inl ⟨hz, a, b, hTO⟩⟩ (fun _ _ e => e) fun b hb => .inl hb)
    exact {
      off := fun hm => by
        simp only [List.mem_cons, List.not_mem_nil, or_false] at hm
        rcases hm with e | e | e | e
        · exact dz e
        · exact dTO e
        · exact di1 e
        · exact di2 e
      frame := fun i h₁ h₂ st hk => by
        obtain ⟨hTI, st1, st2, hz⟩ := st
        refine ⟨hk _ _ (Ne.symm dTI) hTI, D1.frame _ _ _ st1 fun b hb o e => hk b o (fun q => ?_) e, D2.frame _ _ _ st2 fun b hb o e => hk b o (fun q => ?_) e, ?_⟩
        · subst q
          simp only [List.mem_cons, List.not_mem_nil, or_false] at hb
          exact hb.elim di1 dl1
        · subst q
          simp only [List.mem_cons, List.not_mem_nil, or_false] at hb
          exact hb.elim di2 dl2
        rcases hz with ⟨hz, a, b, hTO⟩ | ⟨T, f, oT, hz, hT, r1, r2, r3, r4⟩
        · exact .inl ⟨hk _ _ (Ne.symm dz) hz, a, b, hk _ _ (Ne.symm dTO) hTO⟩
        · exact .inr ⟨T, f, oT, hk _ _ (Ne.symm dz) hz, hk _ _ r4 hT, r1, r2, r3, r4⟩
      item := fun i s₁ Q₁ E₁ hi st hds hQ => by
        obtain ⟨hTI, st1, st2, hz⟩ := st
        have hi2 : i < ys.size := by rw [← hl]; exact hi
        have lt : ∀ {c o}, s₁.heap.get? c = some o → s₁.heap.objs.size ≠ c := fun e => Nat.ne_of_gt (Heap.lt_size e)
        have n1 : s₁.heap.objs.size ≠ i1 := let ⟨_, e⟩ := D1.live _ _ st1; lt e
        have n2 : s₁.heap.objs.size ≠ i2 := let ⟨_, e⟩ := D2.live _ _ st2; lt e
        rcases hz with ⟨hz, a, b, hTO⟩ | ⟨T, f, oT, hz, hT, r1, r2, r3, r4⟩
        · refine wpAny_pyNext_zipD2_item (sep_of D) D1 D2 hz hTI hTO st1 st2 hi hi2 fun x1 x2 h' tk p1 p2 a1 a2 a3 a4 a5 a6 hk => ?_
          exact hQ s₁.heap.objs.size _ _ h' tk ⟨p1, p2⟩ (.inl ⟨_, a5, rfl, _, rfl⟩)
            ⟨hk _ _ D.TIz D.TITO D.TIi1 D.TIi2 hTI, a3, a4, .inr ⟨s₁.heap.objs.size, false, _, a1, a5, lt hz, n1, n2, Nat.ne_of_gt hds⟩⟩
            fun c o hc e => hk c o (fun x => hc (by simp [x])) (fun x => hc (by simp [x])) (fun x => hc (by simp [x])) (fun x => hc (by simp [x])) e
        · refine pyNext_zipH_item (sep_of D) D1 D2 hz hT hTI st1 st2 hi hi2 fun x1 x2 h' tk p1 p2 a1 a3 a4 a5 a6 hk => ?_
          exact hQ s₁.heap.objs.size _ _ h' tk ⟨p1, p2⟩ (.inl ⟨_, a5, rfl, _, rfl⟩)
            ⟨hk _ _ D.TIz D.TIi1 D.TIi2 hTI, a3, a4, .inr ⟨T, true, oT, a1, hk _ _ r1 r2 r3 hT, r1, r2, r3, r4⟩⟩
            fun c o hc e => hk c o (fun x => hc (by simp [x])) (fun x => hc (by simp [x])) (fun x => hc (by simp [x])) e
      done := fun s₁ Q₁ E₁ st hQ => by
        obtain ⟨hTI, st1, st2, hz⟩ := st
        rcases hz with ⟨hz, a, b, hTO⟩ | ⟨T, f, oT, hz, hT, r1, r2, r3, r4⟩
        · exact wpAny_pyNext_zipD2_end (sep_of D) D1 D2 hz hTI hTO st1 st2 (Nat.le_refl _) (Nat.le_of_eq hl) (.inl rfl) fun h' tk hk => hQ h' tk fun c o hc e => hk c o (fun x => hc (by simp [x])) (fun x => hc (by simp [x])) (fun x => hc (by simp [x])) (fun x => hc (by simp [x])) e
        · exact pyNext_zipH_end (sep_of D) D1 D2 hz hT hTI st1 fun h' tk hk => hQ h' tk fun c o hc e => hk c o (fun x => hc (by simp [x])) (fun x => hc (by simp [x])) (fun x => hc (by simp [x])) e }
end
end LS
namespace LS
open PySem PySem.Spec PyProof.Rows L2
theorem strs_val : ∀ {xs : List Str} {us : List Value}, Vals (xs.map V.str) us → us.length = xs.length ∧ ∀ (i : Nat) (v : Value), us[i]? = some v → ∃ (x : Str) (t : Tok), xs[i]? = some x ∧ v = Value.str x t
  | [], us, r => by
    rw [List.map_nil] at r
    cases r
    exact ⟨rfl, fun i v h => by simp at h⟩
  | x :: xs, us, r => by
    rw [List.map_cons] at r
    cases r with
    | cons h t =>
      obtain ⟨k, rfl⟩ := h
      obtain ⟨q1, q2⟩ := strs_val t
      refine ⟨by simp [q1], fun i v hv => ?_⟩
      cases i with
      | zero => simp at hv; subst hv; exact ⟨x, k, rfl, rfl⟩
      | succ i => exact q2 i v (by simpa using hv)
theorem zip_kv : ∀ {xs ys : List Str} {us : List Value}, Vals (ys.map V.str) us → KV ((xs.zip ys).map fun p => ((Sum.inr p.1 : Key), V.str p.2)) ((xs.zip us).map fun p => ((Sum.inr p.1 : Key), p.2))
  | [], _, _, _ => .nil
  | _ :: _, [], us, r => by
    rw [List.map_nil] at r
    cases r
    exact .nil
  | x :: xs, y :: ys, us, r => by
    rw [List.map_cons] at r
    cases r with
    | cons h t => exact .cons ⟨rfl, h⟩ (zip_kv t)
theorem mergeK_nodup : ∀ (l acc : List (Key × V)), ((acc ++ l).map (·.1)).Nodup → mergeK acc l = acc ++ l
  | [], acc, _ => by rw [List.append_nil]; rfl
  | p :: l, acc, h => by
    have hno : ¬ (acc.any fun kv => decide (kv.1 = p.1)) = true := fun q => by
      obtain ⟨kv, h1, h2⟩ := List.any_eq_true.mp q
      rw [List.map_append, List.map_cons] at h
      have h3 := (List.nodup_append.mp h).2.2 kv.1 (List.mem_map.mpr ⟨kv, h1, rfl⟩) p.1 List.mem_cons_self
      exact h3 (of_decide_eq_true h2)
    have e : putK acc p.1 p.2 = acc ++ [p] := if_neg hno
    show mergeK (putK acc p.1 p.2) l = _
    rw [e, mergeK_nodup l (acc ++ [p]) (by rw [List.append_assoc]; exact h), List.append_assoc]
    rfl
theorem dz_rule : DZRule := by
  intro X e1 e2 ta p1 p2 q1 q2 hc g1 m1 g2 m2 ha hs hpl hzz
  refine ⟨fun pins s σ H Q I h => ?_⟩
  refine Call_ (ld_blt I g1 m1 PyProof.Rows.boot_dict ?_)
  refine PyProof.Rows.callWith_type1 (PyProof.Rows.args_cons ?_ hzz) hzz rfl
  refine Call_ (ld_blt I g2 m2 PyProof.Rows.boot_zip (PyProof.Rows.callWith_type1 (thn (ha.run _ pins s σ H _ I h) fun us s1 ⟨vs, H1, I1, r1, qq⟩ => ?_) ?_ ?_))
  · obtain ⟨a, b, xs, ys, ex, hqx, hqy, hl, hnd, q⟩ := qq
    subst ex
    cases r1 with
    | cons r rr =>
      cases rr with
      | cons r' rr =>
        cases rr
        cases r
        cases r'
        obtain ⟨its, rv, pl1, hz1⟩ := I1.list hqx
        obtain ⟨its2, rv2, pl2, hz2⟩ := I1.tuple hqy
        obtain ⟨o1, ho1, _⟩ := id pl1.isList
        obtain ⟨o2, ho2, _⟩ := id pl2
        have la : a < s1.heap.objs.size := Heap.lt_size ho1
        have lb : b < s1.heap.objs.size := Heap.lt_size ho2
        obtain ⟨n1, v1⟩ := strs_val rv
        obtain ⟨n2, v2⟩ := strs_val rv2
        have D := PySem.W.ktu_apart s1.heap.objs.size a b la lb
        refine zip_begins2 (begins_list a its.toArray) (begins_tuple b its2.toArray) pl1.isList (show s1.heap.IsTuple b its2.toArray from pl2) fun h' hz hTI hTO h1 h2 hsz hk => ?_
        refine PyProof.Rows.args_nil ?_
        have hh : X.A.handled = none := I1.ok.hd hc
        have isL : h'.IsList a its.toArray := pl1.isList.at fun o e => hk _ o e
        have isT : h'.IsTuple b its2.toArray := (show s1.heap.IsTuple b its2.toArray from pl2).at fun o e => hk _ o e
        have hkv : PairsHave (mixKind X.prog X.w) its.toArray.size (fun i k v => its.toArray[i]? = some k ∧ its2.toArray[i]? = some v) ((xs.zip its2).map fun p => ((Sum.inr p.1 : Key), p.2)) := by
          refine ⟨by simp [n1, n2, hl], fun i key v hv => ?_⟩
          obtain ⟨hv1, hv2⟩ := hv
          obtain ⟨x, t, e1, rfl⟩ := v1 i key (by simpa using hv1)
          refine ⟨Sum.inr x, ?_, keyIs_str x t⟩
          have hv2' : its2[i]? = some v := by simpa using hv2
          rw [List.getElem?_map, (List.getElem?_zip_eq_some (z := (x, v))).mpr ⟨e1, hv2'⟩]
          rfl
        have hz1' : its.toArray.size ≤ sizeLine := by
          rw [List.size_toArray, n1]
          rw [List.length_map] at hz1
          exact hz1
        refine PySem.call_dict_pairs (knd := mixKind X.prog X.w) (pairZip _ _ _ _ _ a b D its.toArray its2.toArray (by simp [n1, n2, hl])) hh ⟨hz, hTI, ⟨_, _, hTO⟩, ⟨_, h1, rfl, rfl⟩, ⟨_, h2, rfl, rfl⟩, isL, isT⟩ hkv hz1' fun h2 tk hd hk2 => ?_
        have keep : ∀ c o, s1.heap.get? c = some o → h2.get? c = some o := fun c o e => by
          refine hk2 c o (fun q => ?_) (hk c o e)
          have hlt := Heap.lt_size e
          simp only [List.mem_cons, List.not_mem_nil, or_false] at q
          rcases q with q | q | q | q <;> (rw [q] at hlt; first | exact absurd hlt (Nat.not_lt.mpr (Nat.le_add_right _ _)) | exact absurd hlt (Nat.lt_irrefl _))
        have rel := zip_kv (xs := xs) (ys := ys) rv2
        have hle : s1.heap.objs.size ≤ h'.objs.size := by rw [hsz]; omega
        have em : mergeK [] ((xs.zip ys).map fun p => ((Sum.inr p.1 : Key), V.str p.2)) = ((xs.zip ys).map fun p => ((Sum.inr p.1 : Key), V.str p.2)) := by
          refine mergeK_nodup _ [] ?_
          rw [List.nil_append, List.map_map]
          have e9 : ((xs.zip ys).map ((fun q : Key × V => q.1) ∘ fun p => ((Sum.inr p.1 : Key), V.str p.2))) = xs.map Sum.inr := by
            rw [show ((fun q : Key × V => q.1) ∘ fun p : Str × Str => ((Sum.inr p.1 : Key), V.str p.2)) = (Sum.inr : Str → Key) ∘ Prod.fst from rfl, ← List.map_map, List.map_fst_zip (Nat.le_of_eq hl)]
          rw [e9]
          exact List.pairwise_map.mpr (hnd.imp fun h e => h (Sum.inr.inj e))
        have hlen : ((xs.zip ys).map fun p => ((Sum.inr p.1 : Key), V.str p.2)).length ≤ sizeLine := by
          rw [List.length_map, List.length_zip]
          rw [List.length_map] at hz1
          exact Nat.le_trans (Nat.min_le_left _ _) hz1
        have hm : (h'.objs.size == sysModules) = false := beq_eq_false_iff_ne.mpr (Nat.ne_of_gt (Nat.lt_of_lt_of_le I1.big hle))
        have rm := KV.merge rel (show KV ([] : List (Key × V)) [] from .nil)
        rw [em] at rm
        refine ⟨.ref h'.objs.size, upd H1 h'.objs.size (.dK ((xs.zip ys).map fun p => ((Sum.inr p.1 : Key), V.str p.2))), I1.laid (t' := tk) keep hle (show ObjOk X.prog X.w _ _ _ (.dK _) from ⟨hlen, hm, _, rm, hd⟩), rfl, ?_⟩
        have hfr := I1.hok.fresh hle
        exact q _ _ (same_upd hfr (Same.refl H1)) hfr upd_same
  · exact hs
  · exact hpl
end LS
namespace LS
open PySem PySem.Spec PyProof.Rows L2
/-! ### the answers, by their places among the results -/
/-- where a text first stands among others -/
def idxS (x : Str) : List Str → Nat
  | [] => 0
  | y :: ys => if y = x then 0 else idxS x ys + 1
/-- the word that a name is answered with -/
def wordOf (zs ws : List Str) (z : Str) : Str := ws.getD (idxS z zs) ""
def tlOf (zs ws : List Str) (z : Str) : Nat := idxS (wordOf zs ws z) resWords
theorem idxS_at : ∀ {zs : List Str} {x : Str}, x ∈ zs → zs[idxS x zs]? = some x
  | y :: ys, x, h => by
    unfold idxS
    by_cases e : y = x
    · rw [if_pos e, e]
      rfl
    · rw [if_neg e]
      show ys[idxS x ys]? = some x
      refine idxS_at ?_
      rcases List.mem_cons.mp h with q | q
      · exact absurd q.symm e
      · exact q
theorem allF_words {zs : List Str} : ∀ ws ∈ allF zs, ws.length = zs.length ∧ ∀ w ∈ ws, w ∈ resWords := by
  suffices h : ∀ (zs : List Str) (L : List (List Str)) (n : Nat), (∀ ws ∈ L, ws.length = n ∧ ∀ w ∈ ws, w ∈ resWords) → ∀ ws ∈ zs.foldl (fun L _ => moreF L) L, ws.length = n + zs.length ∧ ∀ w ∈ ws, w ∈ resWords by
    intro ws hw
    have q := h zs [[]] 0 (fun ws hw => by rw [List.mem_singleton.mp hw]; exact ⟨rfl, fun w h => nomatch h⟩) ws hw
    rw [Nat.zero_add] at q
    exact q
  intro zs
  induction zs with
  | nil => intro L n h; exact h
  | cons z zs ih =>
    intro L n h ws hw
    have q := ih (moreF L) (n + 1) (fun ws hw => by
      obtain ⟨u, hu, hr⟩ := List.mem_flatMap.mp hw
      obtain ⟨r, hr2, rfl⟩ := List.mem_map.mp hr
      obtain ⟨h1, h2⟩ := h u hu
      refine ⟨by rw [List.length_append, h1]; rfl, fun w hw => ?_⟩
      rcases List.mem_append.mp hw with q | q
      · exact h2 w q
      · rw [List.mem_singleton.mp q]
        exact hr2) ws hw
    refine ⟨by rw [q.1, List.length_cons]; omega, q.2⟩
theorem valV_dict : ∀ {zs ws : List Str} {z : Str}, zs.Nodup → zs.length = ws.length → z ∈ zs → valV (dictF zs ws) (.inr z) = some (.str (wordOf zs ws z))
  | [], _, _, _, _, h => nomatch h
  | y :: zs, [], _, _, hl, _ => nomatch hl
  | y :: zs, u :: ws, z, hn, hl, h => by
    by_cases e : y = z
    · subst e
      show valV ((Sum.inr y, V.str u) :: dictF zs ws) (.inr y) = _
      rw [valV_pos rfl]
      unfold wordOf idxS
      rw [if_pos rfl]
      rfl
    · show valV ((Sum.inr y, V.str u) :: dictF zs ws) (.inr z) = _
      rw [valV_neg (fun q => e (Sum.inr.inj q))]
      have hz : z ∈ zs := (List.mem_cons.mp h).resolve_left fun q => e q.symm
      rw [valV_dict (List.nodup_cons.mp hn).2 (by simpa using hl) hz]
      unfold wordOf
      rw [show idxS z (y :: zs) = idxS z zs + 1 from if_neg e]
      rfl
theorem wordOf_mem {zs ws : List Str} {z : Str} (hl : zs.length = ws.length) (h : z ∈ zs) : wordOf zs ws z ∈ ws := by
  unfold wordOf
  have hi : idxS z zs < zs.length := (List.getElem?_eq_some_iff.mp (idxS_at h)).1
  rw [List.getD_eq_getElem?_getD, List.getElem?_eq_getElem (by omega)]
  exact List.getElem_mem _
end LS
/-! {**d, k: v} -/
namespace LS
open PySem PySem.Spec PyProof.Rows L2
section
variable {prog : Program} {w : World} {K : Type} [DecidableEq K] {knd : KeyKind prog w K} {A : Around} {E : Value → Shared → Prop} {s : Shared}
theorem wpAny_dictPutP {d : Addr} {kvs : List (K × Value)} {k : K} {key v : Value} {Q : Unit → Shared → Prop} (hkey : knd.is k key = true) (hm : s.heap.DictOf knd d kvs)
    (hQ : ∀ h', h'.DictOf knd d (stored kvs k v) → Heap.SameBut d s.heap h' → Q () { s with heap := h' }) (hsz : kvs.length ≤ sizeLine) :
    wpAny (model prog w) A (dictPut d (knd.hash k) key v) Q E s := by
  obtain ⟨o, es, ep, ho, hc, hd, hk, hp, hn⟩ := hm
  have hes : es.size ≤ sizeLine := by
    have e1 := hp.length
    have e2 : es.toList.length = es.size := by simp
    omega
  unfold dictPut
  refine wpAny_bind (wpAny_dictFind_of hkey ho hd hk ?_)
  have hidx : (es.findIdx? fun e => knd.is k e.key) = kvs.findIdx? fun kv => decide (kv.1 = k) := by
    rw [← hp.findIdx k]
    obtain ⟨l⟩ := es
    simp
  cases hi : es.findIdx? fun e => knd.is k e.key with
  | some i =>
    refine wpAny_updateDict ho hd (hQ _ ⟨_, _, ep, Heap.get?_update_self _ ho (Obj.isFreed_of_dict (Obj.data_mapDict hd _)), hc.mapDict _, Obj.data_mapDict hd _, hk.modify _ _, ?_, ?_⟩ (Heap.SameBut.update ..))
    · rw [stored, if_pos (any_of_findIdx_some (hidx ▸ hi))]
      have hl : (es.toList.findIdx? fun e => knd.is k e.key) = some i := by
        rw [← hi]
        obtain ⟨l⟩ := es
        simp
      have := hp.modify hn hl v
      obtain ⟨l⟩ := es
      simpa using this
    · rw [stored, if_pos (any_of_findIdx_some (hidx ▸ hi)), keys_map_store]
      exact hn
  | none =>
    have hnot : k ∉ kvs.map (·.1) := not_mem_of_findIdx_none (hidx ▸ hi)
    have hany : ¬ (kvs.any fun kv => decide (kv.1 = k)) = true := by
      rw [List.any_eq_true]
      rintro ⟨kv, hkv, he⟩
      exact hnot (List.mem_map.mpr ⟨kv, hkv, of_decide_eq_true he⟩)
    refine wpAny_updateDictKeys (hz := hes) ho hd (hQ _ ⟨_, _, ep + 1, Heap.get?_update_self _ ho (Obj.isFreed_of_dict (Obj.data_mapDictKeys hd _)), hc.mapDictKeys _, Obj.data_mapDictKeys hd _, hk.push hkey _, ?_, ?_⟩ (Heap.SameBut.update ..))
    · rw [stored, if_neg hany]
      have := hp.append hkey (knd.hash k) v
      obtain ⟨l⟩ := es
      simpa using this
    · rw [stored, if_neg hany, List.map_append, List.nodup_append]
      refine ⟨hn, by simp, ?_⟩
      intro a ha b hb
      simp only [List.map_cons, List.map_nil, List.mem_singleton] at hb
      subst hb
      exact fun e => hnot (e ▸ ha)
theorem wpAny_mergeMappingP {d o : Addr} {kvs more : List (K × Value)} {Q : Unit → Shared → Prop} (hnr : ∀ k b, knd.is k (.ref b) = false) (hdo : d ≠ o) (hoS : (o == sysModules) = false)
    (hd : s.heap.DictOf knd d kvs) (ho : s.heap.DictOf knd o more)
    (hQ : ∀ h', h'.DictOf knd d (merged kvs more) → h'.DictOf knd o more → Heap.SameBut d s.heap h' → Q () { s with heap := h' }) (hsz : kvs.length + more.length ≤ sizeLine) :
    wpAny (model prog w) A (mergeMapping d (.ref o) false) Q E s := by
  obtain ⟨od, esd, epd, hod, hcd, hdd, hkd, hpd, hnd⟩ := id hd
  obtain ⟨oo, eso, epo, hoo, hco, hdo', hko, hpo, hno⟩ := id ho
  have hlen : more.length = eso.size := by rw [← hpo.length]; simp
  unfold mergeMapping
  refine wpAny_bind (wpAny_isInstance ho.typeIs isSubtype_dict_dict ?_)
  rw [if_pos rfl]
  refine wpAny_bind (wpAny_specialOf ho.typeIs PySem.F.slot_dict_iter.lookup ?_)
  rw [show ((some (Value.builtin "dict.__iter__") : Option Value) == some (.builtin "dict.__iter__")) = true by simp]
  refine wpAny_bind (wpAny_pure ?_)
  dsimp only
  rw [if_neg (by rw [hoS]; exact Bool.false_ne_true)]
  have loop : wpAny (model prog w) A (do
      let size := (← dictEntries o).size
      let epoch ← dictEpoch o
      for i in List.range size do
        let some e := (← dictEntries o)[i]? | unsupported "dict.changed-during-merge"
        holding [e.key, e.val] do
          if false = true then
            if (← dictFind d e.key e.hash).isSome then rule "dict.merge.duplicate-key"; raiseNew (← newExc (.type "KeyError") [e.key])
          dictPut d e.hash e.key e.val
        if (← dictEpoch o) != epoch then unsupported "dict.changed-during-merge") Q E s := by
    refine wpAny_bind (wpAny_dictEntries hoo hdo' ?_)
    refine wpAny_bind (wpAny_dictEpoch hoo hdo' ?_)
    refine wpAny_bind ?_
    refine wpAny_forIn_list _
      (fun rest _ s' => ∃ h' i, s' = { s with heap := h' } ∧ rest = List.range' i (eso.size - i) ∧ i ≤ eso.size ∧ h'.DictOf knd d (merged kvs (more.take i)) ∧ h'.get? o = some oo ∧ Heap.SameBut d s.heap h')
      _ ?_ ?_ _ _ ⟨s.heap, 0, rfl, by rw [List.range_eq_range']; rfl, Nat.zero_le _, by simpa [merged] using hd, hoo, Heap.SameBut.refl _ _⟩
    · rintro x rest b s' ⟨h', i, rfl, hr, hi, hd', hoo', hs'⟩
      have hlt : i < eso.size := by
        rcases Nat.lt_or_ge i eso.size with h | h
        · exact h
        · rw [Nat.sub_eq_zero_of_le h] at hr; simp at hr
      obtain ⟨rfl, hrest⟩ : x = i ∧ rest = List.range' (i + 1) (eso.size - (i + 1)) := by
        have e : eso.size - i = (eso.size - (i + 1)) + 1 := by omega
        rw [e, List.range'_succ] at hr
        injection hr with h1 h2
        exact ⟨h1, h2⟩
      refine wpAny_bind (wpAny_dictEntries hoo' hdo' ?_)
      rw [Array.getElem?_eq_getElem hlt]
      obtain ⟨kv, hkv⟩ : ∃ kv, more[x]? = some kv := ⟨more[x]'(by rw [hlen]; exact hlt), List.getElem?_eq_getElem _⟩
      obtain ⟨k, v⟩ := kv
      obtain ⟨hkey, hval⟩ := hpo.get? (e := eso[x]) (by simp [hlt]) hkv
      obtain ⟨k', hkey', hhash⟩ := hko eso[x] (Array.getElem_mem hlt)
      obtain rfl : k' = k := knd.inj _ _ _ hkey' hkey
      have hmx : (merged kvs (more.take x)).length ≤ sizeLine := by
        have e1 := merged_length_le kvs (more.take x)
        have e2 : (more.take x).length ≤ more.length := by rw [List.length_take]; omega
        omega
      dsimp only
      refine wpAny_bind (wpAny_holding ?_)
      rw [if_neg Bool.false_ne_true, hhash, hval]
      refine wpAny_dictPutP hkey hd' (fun h'' hd'' hs'' => ?_) hmx
      have hoo'' : h''.get? o = some oo := (hs''.2 o (Ne.symm hdo)).trans hoo'
      refine wpAny_bind (wpAny_dictEpoch hoo'' hdo' ?_)
      rw [if_neg (by simp)]
      exact wpAny_pure ⟨h'', x + 1, rfl, hrest, hlt, by rw [merged_take_succ kvs more x (k', v) hkv]; exact hd'', hoo'', hs'.trans hs''⟩
    · rintro b s' ⟨h', i, rfl, hr, hi, hd', hoo', hs'⟩
      have hin : i = eso.size := by
        rcases Nat.lt_or_ge i eso.size with h | h
        · have e : eso.size - i = (eso.size - (i + 1)) + 1 := by omega
          rw [e, List.range'_succ] at hr
          exact nomatch hr
        · exact Nat.le_antisymm hi h
      refine wpAny_pure (hQ h' ?_ ⟨oo, eso, epo, hoo', hco, hdo', hko, hpo, hno⟩ hs')
      rw [hin, ← hlen, List.take_length] at hd'
      exact hd'
  refine wpAny_bind (wpAny_dictEntries hod hdd ?_)
  split
  · refine wpAny_bind (wpAny_dictEntries hoo hdo' ?_)
    refine wpAny_bind ?_
    rw [← Array.forIn_toList]
    refine wpAny_forIn_list _ (fun rest _ s' => s' = s ∧ ∀ e ∈ rest, e ∈ eso.toList) _ ?_ ?_ _ _ ⟨rfl, fun e h => h⟩
    · rintro x rest b s' ⟨rfl, hr⟩
      obtain ⟨k, hkey, _⟩ := hko x (Array.mem_toList_iff.mp (hr x List.mem_cons_self))
      cases hx : x.key with
      | ref b => rw [hx, hnr] at hkey; cases hkey
      | _ => exact wpAny_pure ⟨rfl, fun e h => hr e (List.mem_cons_of_mem _ h)⟩
    · rintro b s' ⟨rfl, _⟩
      exact loop
  · exact loop
end
end LS
namespace LS
open PySem PySem.Spec PyProof.Rows L2
theorem mix_noref {P : Program} {w : World} : ∀ (k : Key) (b : Addr), (mixKind P w).is k (.ref b) = false := fun k b => by
  cases q : (mixKind P w).is k (.ref b) with
  | false => rfl
  | true =>
    rcases keyIs_shape (show keyIs k (.ref b) = true from q) with ⟨_, _, _, e⟩ | ⟨_, _, _, e⟩ <;> cases e
section
variable {prog : Program} {w : World} {A : Around} {E : Value → Shared → Prop} {s : Shared}
theorem dictDisplay_merge {m : Sem Value} {kv vv : Sem Value} {Q : Value → Shared → Prop}
    (h : wpAny (model prog w) A m (fun x s1 => wpAny (model prog w) A (mergeMapping s.heap.objs.size x false) (fun _ s2 => wpAny (model prog w) A (subDict [(kv, vv)]) (fun sub s3 => wpAny (model prog w) A (mergeMapping s.heap.objs.size (.ref sub) false) (fun _ s4 => Q (.ref s.heap.objs.size) s4) (fun _ _ => False) s3) E s2) (fun _ _ => False) s1) E
      { s with heap := s.heap.push { cls := .type "dict", data := .dict #[] } }) :
    wpAny (model prog w) A (dictDisplay [(none, m), (some kv, vv)]) Q E s := by
  unfold dictDisplay
  dsimp only
  refine wpAny_bind ?_
  rw [List.forIn_cons]
  refine wpAny_bind ?_
  dsimp only
  refine wpAny_bind (wpAny_pure ?_)
  refine wpAny_bind (wpAny_alloc ?_)
  refine wpAny_bind (wpAny_holding (wpAny_mono h (fun x s1 h1 => ?_) fun _ _ e => e))
  refine wpAny_bind (wpAny_onRaise (wpAny_tryCatch (wpAny_onRaise (wpAny_holding (wpAny_mono h1 (fun _ s2 h2 => ?_) fun _ _ e => e.elim)))))
  refine wpAny_pure ?_
  dsimp only
  rw [List.forIn_cons]
  refine wpAny_bind ?_
  dsimp only
  refine wpAny_pure ?_
  dsimp only
  rw [List.forIn_nil]
  refine wpAny_pure ?_
  dsimp only
  refine wpAny_bind ?_
  refine wpAny_bind (wpAny_holding (wpAny_mono h2 (fun sub s3 h3 => ?_) fun _ _ e => e))
  refine wpAny_bind (wpAny_onRaise (wpAny_holding (wpAny_mono h3 (fun _ s4 h4 => ?_) fun _ _ e => e.elim)))
  exact wpAny_pure (wpAny_pure h4)
end
end LS
namespace LS
open PySem PySem.Spec PyProof.Rows L2
/-- {**d, k: v} -/
def tMerge (tm tk tv : TE) : TE := fun σ H Q => ∀ p, H p = none → tm σ (upd H p (.dK [])) fun x H1 => ∃ (a : Addr) (more : List (Key × V)), x = .ref a ∧ a ≠ p ∧ H1 p = some (.dK []) ∧ Rd H1 a (.dK more) ∧ more.length ≤ 900 ∧
  ∀ q, H1 q = none → q ≠ p → tPairs [(tk, tv)] σ (upd (upd H1 p (.dK (mergeK [] more))) q (.dK [])) fun ps H3 => ∃ (k : Key) (z : V), ps = [(kV k, z)] ∧ H3 q = some (.dK []) ∧ H3 p = some (.dK (mergeK [] more)) ∧
    Q (.ref p) (upd (upd H3 q (.dK [(k, z)])) p (.dK (putK (mergeK [] more) k z)))
theorem pe_merge {X : Cx} {pos : Pos} {vm k v : Expr} {tm tk tv : TE} (hm : PE X vm tm) (hk : PE X k tk) (hv : PE X v tv) : PE X (.Dict [none, some k] [vm, v] pos) (tMerge tm tk tv) := by
  refine ⟨fun pins s σ H Q I h => ?_⟩
  have hs2 := sizeLine_eq
  rw [arm_eval_Dict]
  refine wpAny_bind (wpAny_standAt ?_)
  show wpAny (model X.prog X.w) X.A (dictDisplay [(none, do let x ← eval vm X.env; standAt pos; pure x), (some (eval k X.env), do let x ← eval v X.env; standAt pos; pure x)]) _ _ s
  refine dictDisplay_merge ?_
  have hn := I.hok.fresh (Nat.le_refl s.heap.objs.size)
  have I1 := I.laid (a := s.heap.objs.size) (o := .dK []) (h' := s.heap.push { cls := .type "dict", data := .dict #[] }) (t' := s.toks) (fun _ _ q => Heap.get?_push_of_some _ q) (Nat.le_refl _) (dk_empty s.heap I.big)
  have hq := h _ hn
  generalize s.heap.objs.size = p at *
  refine wpAny_bind (thn (hm.run pins _ σ _ _ I1 hq) fun u s1 ⟨x, H1, I2, rx, a, more, ex, hap, hp1, ha, hml, q1⟩ => wpAny_bind (wpAny_standAt (wpAny_pure ?_)))
  subst ex
  obtain rfl : u = Value.ref a := rx
  obtain ⟨_, hpS, vs0, r0, ddp⟩ := dk_of I2.hok hp1
  cases r0
  obtain ⟨_, haS, vs1, r1, dda⟩ := dk_rd I2.hok ha
  have hl1 : vs1.length ≤ 900 := by rw [← r1.length]; exact hml
  refine wpAny_mergeMappingP mix_noref (fun e => hap e.symm) haS ddp dda (fun h' dd' _ hsb => ?_) (by show 0 + vs1.length ≤ sizeLine; omega)
  have lm : (mergeK [] more).length ≤ 900 := by
    have q := length_mergeK more []
    rw [List.length_nil] at q
    omega
  have hep : ∃ q, h'.get? p = some q := let ⟨q, _, _, hq, _⟩ := dd'; ⟨q, hq⟩
  have I3 : Inv X pins σ (upd H1 p (.dK (mergeK [] more))) { s1 with heap := h' } := d_write (t' := s1.toks) I2 (by rw [hp1]; exact True.intro) hsb hep (dk_new (by omega) hpS (r1.merge .nil) dd')
  refine wpAny_subDict (knd := mixKind X.prog X.w) (by show 1 ≤ 15; decide) ?_
  have hnq := I3.hok.fresh (Nat.le_refl _)
  have I4 := I3.laid (a := h'.objs.size) (o := .dK []) (h' := h'.push { cls := .type "dict", data := .dict #[] }) (t' := s1.toks) (fun _ _ q => Heap.get?_push_of_some _ q) (Nat.le_refl _) (dk_empty h' I3.big)
  have qp : h'.objs.size ≠ p := fun e => by
    rw [show ({ s1 with heap := h' } : Shared).heap.objs.size = h'.objs.size from rfl, e, upd_same] at hnq
    cases hnq
  have hnq1 : H1 h'.objs.size = none := by
    rw [← hnq]
    exact (upd_ne qp).symm
  have q2 := q1 _ hnq1 qp
  show wpAny (model X.prog X.w) X.A (evalPairs (pairTrees [some k] [v] X.env pos)) _ _ _
  generalize hqe : h'.objs.size = q at *
  refine thn ((pps_cons hk hv pps_nil : PPs X pos [some k] [v] [(tk, tv)]).run pins _ σ _ _ I4 q2) fun ws s2 ⟨ps, H3, I5, rel, kk, z, ep, hq3, hp3, hQ⟩ => ?_
  subst ep
  obtain ⟨rs, c, rk⟩ := carries_of (P := X.prog) (w := X.w) (kvs := [(kk, z)]) rel
  obtain ⟨_, hqS, vs2, r2, ddq⟩ := dk_of I5.hok hq3
  cases r2
  refine ⟨rs, c, ddq, fun h3 dd3 hs3 => ?_⟩
  have heq : ∃ o, h3.get? q = some o := let ⟨o, _, _, ho, _⟩ := dd3; ⟨o, ho⟩
  have I6 : Inv X pins σ (upd H3 q (.dK [(kk, z)])) { s2 with heap := h3, toks := s2.toks + ws.length } := d_write I5 (by rw [hq3]; exact True.intro) hs3 heq (dk_new (by show 1 ≤ sizeLine; omega) hqS (show KV (mergeK [] [(kk, z)]) (merged [] rs) from rk.merge .nil) dd3)
  have hp6 : upd H3 q (.dK [(kk, z)]) p = some (.dK (mergeK [] more)) := by rw [upd_ne (fun e => qp e.symm)]; exact hp3
  have hq6 : upd H3 q (.dK [(kk, z)]) q = some (.dK [(kk, z)]) := upd_same
  obtain ⟨_, _, vp, rp, ddp6⟩ := dk_of I6.hok hp6
  obtain ⟨_, _, vq, rq, ddq6⟩ := dk_of I6.hok hq6
  have l5 : vp.length ≤ 900 := by rw [← rp.length]; exact lm
  have l6 : vq.length = 1 := by rw [← rq.length]; rfl
  refine wpAny_mergeMappingP mix_noref (fun e => qp e.symm) hqS ddp6 ddq6 (fun h7 dd7 _ hs7 => ?_) (by omega)
  have hep7 : ∃ o, h7.get? p = some o := let ⟨o, _, _, ho, _⟩ := dd7; ⟨o, ho⟩
  have lk := length_putK (mergeK [] more) kk z
  exact ⟨.ref p, _, d_write I6 (by rw [hp6]; exact True.intro) hs7 hep7 (dk_new (by show (putK (mergeK [] more) kk z).length ≤ sizeLine; omega) hpS (show KV (mergeK (mergeK [] more) [(kk, z)]) (merged vp vq) from rq.merge rp) dd7), rfl, hQ⟩
end LS
namespace LS
open PySem PySem.Spec PyProof.Rows L2
/-! ### rows of answers: dicts of names and words -/
theorem pe_imp {X : Cx} {e : Expr} {t t' : TE} (h : PE X e t) (i : ∀ σ H Q, t' σ H Q → t σ H Q) : PE X e t' := ⟨fun pins s σ H Q I q => h.run pins s σ H Q I (i σ H Q q)⟩
def RowsAt (H : Hp) (ns : List Str) : List V → List (List Str) → Prop
  | [], L => L = []
  | v :: vs, L => ∃ ws r, L = ws :: r ∧ (∃ a, v = .ref a ∧ H a = some (.dK (dictF ns ws))) ∧ RowsAt H ns vs r
theorem rows_same {H H' : Hp} (S : Same H H') {ns : List Str} : ∀ {vs : List V} {L : List (List Str)}, RowsAt H ns vs L → RowsAt H' ns vs L
  | [], _, h => h
  | v :: vs, _, ⟨ws, r, e, ⟨a, h1, h2⟩, h3⟩ => ⟨ws, r, e, ⟨a, h1, S _ _ h2⟩, rows_same S h3⟩
theorem rows_append {H : Hp} {ns : List Str} : ∀ {vs us : List V} {L M : List (List Str)}, RowsAt H ns vs L → RowsAt H ns us M → RowsAt H ns (vs ++ us) (L ++ M)
  | [], us, L, M, h, h2 => by
    have h : L = [] := h
    rw [h]
    exact h2
  | v :: vs, us, _, M, ⟨ws, r, e, h1, h3⟩, h2 => by
    subst e
    exact ⟨ws, r ++ M, rfl, h1, rows_append h3 h2⟩
theorem rows_len {H : Hp} {ns : List Str} : ∀ {vs : List V} {L : List (List Str)}, RowsAt H ns vs L → vs.length = L.length
  | [], L, h => by
    have h : L = [] := h
    rw [h]
    rfl
  | v :: vs, _, ⟨ws, r, e, _, h3⟩ => by
    subst e
    rw [List.length_cons, List.length_cons, rows_len h3]
theorem rows_get {H : Hp} {ns : List Str} : ∀ {vs : List V} {L : List (List Str)} {i : Nat} {v : V}, RowsAt H ns vs L → vs[i]? = some v → ∃ ws a, L[i]? = some ws ∧ v = .ref a ∧ H a = some (.dK (dictF ns ws))
  | [], _, i, v, _, h => by simp at h
  | u :: vs, _, 0, v, ⟨ws, r, e, ⟨a, h1, h2⟩, _⟩, h => by
    subst e
    simp at h
    subst h
    exact ⟨ws, a, rfl, h1, h2⟩
  | u :: vs, _, i + 1, v, ⟨ws, r, e, _, h3⟩, h => by
    subst e
    obtain ⟨ws', a, q1, q2, q3⟩ := rows_get (i := i) h3 (by simpa using h)
    exact ⟨ws', a, by simpa using q1, q2, q3⟩
theorem rows_upd {H : Hp} {B : Addr} {u0 u1 : List V} (hB : H B = some (.lst u0)) {ns : List Str} : ∀ {vs : List V} {L : List (List Str)}, RowsAt H ns vs L → RowsAt (upd H B (.lst u1)) ns vs L
  | [], _, h => h
  | v :: vs, _, ⟨ws, r, e, ⟨a, h1, h2⟩, h3⟩ => ⟨ws, r, e, ⟨a, h1, by rw [upd_ne (ne_of h2 hB fun z => nomatch z)]; exact h2⟩, rows_upd hB h3⟩
/-- the words that a name may be answered with -/
def optF (kd : List (Key × V)) (z : Str) : List Str := match valV kd (.inr z) with
  | some (.str w) => [w]
  | _ => resWords
def moreO (os : List Str) (L : List (List Str)) : List (List Str) := L.flatMap fun ws => os.map fun r => ws ++ [r]
def withF (kd : List (Key × V)) (zs : List Str) : List (List Str) := zs.foldl (fun L z => moreO (optF kd z) L) [[]]
theorem withF_snoc (kd : List (Key × V)) (zs : List Str) (z : Str) : withF kd (zs ++ [z]) = moreO (optF kd z) (withF kd zs) := by
  unfold withF
  rw [List.foldl_append]
  rfl
theorem withF_nil : ∀ zs : List Str, withF [] zs = allF zs := fun zs => rfl
theorem optF_len (kd : List (Key × V)) (z : Str) : (optF kd z).length ≤ 4 := by
  unfold optF
  split
  · show 1 ≤ 4
    decide
  · exact Nat.le_of_eq rfl
theorem moreO_len (os : List Str) (L : List (List Str)) : (moreO os L).length = os.length * L.length := by
  unfold moreO
  induction L with
  | nil => rfl
  | cons w L ih =>
    rw [List.flatMap_cons, List.length_append, ih, List.length_map, List.length_cons, Nat.mul_succ]
    omega
theorem withF_len (kd : List (Key × V)) (zs : List Str) : (withF kd zs).length ≤ 4 ^ zs.length := by
  suffices h : ∀ n zs, zs.length = n → (withF kd zs).length ≤ 4 ^ n from h _ zs rfl
  intro n
  induction n with
  | zero =>
    intro zs h
    rw [List.length_eq_zero_iff.mp h]
    exact Nat.le_refl 1
  | succ n ih =>
    intro zs h
    have hne : zs ≠ [] := fun z => by rw [z] at h; cases h
    have e := (List.dropLast_concat_getLast hne).symm
    have q := ih zs.dropLast (by rw [List.length_dropLast, h]; rfl)
    rw [e, withF_snoc, moreO_len, Nat.pow_succ, Nat.mul_comm]
    exact Nat.mul_le_mul q (optF_len _ _)
theorem withF_mem (kd : List (Key × V)) (zs : List Str) : ∀ ws ∈ withF kd zs, ws.length = zs.length := by
  suffices h : ∀ n zs, zs.length = n → ∀ ws ∈ withF kd zs, ws.length = n from fun ws hw => h _ zs rfl ws hw
  intro n
  induction n with
  | zero =>
    intro zs h ws hw
    rw [List.length_eq_zero_iff.mp h] at hw
    rw [List.mem_singleton.mp hw]
    rfl
  | succ n ih =>
    intro zs h ws hw
    have hne : zs ≠ [] := fun z => by rw [z] at h; cases h
    have e := (List.dropLast_concat_getLast hne).symm
    have q := ih zs.dropLast (by rw [List.length_dropLast, h]; rfl)
    rw [e, withF_snoc] at hw
    obtain ⟨u, hu, hr⟩ := List.mem_flatMap.mp hw
    obtain ⟨r, _, rfl⟩ := List.mem_map.mp hr
    rw [List.length_append, q u hu]
    rfl
theorem moreO_take {os : List Str} {L : List (List Str)} {j : Nat} {ws : List Str} (h : L[j]? = some ws) : moreO os (L.take (j + 1)) = moreO os (L.take j) ++ os.map fun r => ws ++ [r] := by
  unfold moreO
  rw [List.take_add_one, h, List.flatMap_append]
  show _ ++ ([ws].flatMap _) = _
  rw [List.flatMap_cons, List.flatMap_nil, List.append_nil]
/-! ### a row more -/
theorem merge_fresh : ∀ (more acc : List (Key × V)), ((acc ++ more).map (·.1)).Nodup → mergeK acc more = acc ++ more
  | [], acc, _ => (List.append_nil _).symm
  | p :: r, acc, h => by
    have hn : valV acc p.1 = none := by
      cases q : valV acc p.1 with
      | none => rfl
      | some x =>
        have a := valV_any p.1 acc
        rw [q, Option.isSome_some, List.any_eq_true] at a
        obtain ⟨y, hy, e⟩ := a
        rw [List.map_append, List.map_cons, List.nodup_append] at h
        exact absurd (of_decide_eq_true e) (h.2.2 y.1 (List.mem_map.mpr ⟨y, hy, rfl⟩) p.1 List.mem_cons_self)
    have e1 : mergeK acc (p :: r) = mergeK (acc ++ [p]) r := by
      show mergeK (putK acc p.1 p.2) r = _
      rw [putK_new _ hn]
    rw [e1, merge_fresh r (acc ++ [p]) (by rw [List.append_assoc]; exact h), List.append_assoc]
    rfl
theorem dictF_keys {ns ws : List Str} (h : ws.length = ns.length) : (dictF ns ws).map (·.1) = ns.map Sum.inr := by
  unfold dictF
  rw [List.map_map, show ((fun q : Key × V => q.1) ∘ fun p : Str × Str => ((Sum.inr p.1 : Key), V.str p.2)) = (Sum.inr : Str → Key) ∘ Prod.fst from rfl, ← List.map_map, List.map_fst_zip (by omega)]
theorem row_nodup {ns ws : List Str} (h : ws.length = ns.length) (hn : ns.Nodup) : ((dictF ns ws).map (·.1)).Nodup := by
  rw [dictF_keys h]
  exact List.Pairwise.map (Sum.inr : Str → Key) (fun a b hab e => hab (Sum.inr.inj e)) hn
theorem row_more {ns ws : List Str} {z r : Str} (h : ws.length = ns.length) (hn : (ns ++ [z]).Nodup) : putK (mergeK [] (dictF ns ws)) (.inr z) (.str r) = dictF (ns ++ [z]) (ws ++ [r]) := by
  obtain ⟨n1, _, n3⟩ := List.nodup_append.mp hn
  have e0 : mergeK [] (dictF ns ws) = dictF ns ws := merge_fresh (dictF ns ws) [] (row_nodup h n1)
  rw [e0]
  have hv : valV (dictF ns ws) (.inr z) = none := by
    cases q : valV (dictF ns ws) (.inr z) with
    | none => rfl
    | some x =>
      have a := valV_any (.inr z) (dictF ns ws)
      rw [q, Option.isSome_some, List.any_eq_true] at a
      obtain ⟨y, hy, e⟩ := a
      have m : y.1 ∈ (dictF ns ws).map (·.1) := List.mem_map.mpr ⟨y, hy, rfl⟩
      rw [dictF_keys h] at m
      obtain ⟨u, hu, eu⟩ := List.mem_map.mp m
      have e2 : (Sum.inr u : Key) = .inr z := eu.trans (of_decide_eq_true e)
      exact absurd (Sum.inr.inj e2) (n3 u hu z List.mem_cons_self)
  rw [putK_new _ hv]
  unfold dictF
  rw [List.zip_append h.symm, List.map_append]
  rfl
end LS
set_option maxHeartbeats 8000000
namespace LS
open PySem PySem.Spec PyProof.Rows L2
abbrev sWith : Stmt := top i_answers_with
/-- answers_with(modules, known) -/
def spWith (K : PySem.W.Frag) : Sp := fun vs H Q _ => ∃ (m d : Addr) (zs : List Str) (kd : List (Key × V)), vs = [.ref m, .ref d] ∧ SqT K H m (zs.map V.str) ∧ zs.Nodup ∧ zs.length ≤ 6 ∧ Rd H d (.dK kd) ∧
  (∀ z ∈ zs, valV kd (.inr z) = none ∨ ∃ w, valV kd (.inr z) = some (.str w)) ∧ ∀ p xs H', Same H H' → H p = none → H' p = some (.lst xs) → RowsAt H' zs xs (withF kd zs) → Q (.ref p) H'
/-- the words that a name may be answered with -/
def tRes (K : PySem.W.Frag) : TE := fun σ H Q => ∃ (d : Addr) (kd : List (Key × V)) (z : Str), σ[1]? = some (some (.ref d)) ∧ σ[3]? = some (some (.str z)) ∧ Rd H d (.dK kd) ∧ (valV kd (.inr z) = none ∨ ∃ w, valV kd (.inr z) = some (.str w)) ∧
  ∀ tR H2, Same H H2 → SqT K H2 tR ((optF kd z).map V.str) → Q (.ref tR) H2
section
variable {P : Program} {w : World} {K : PySem.W.Frag} {mg : Str → Option Value} {base : Heap}
theorem scWith : FnScope n_answers_with ["modules", "known"] (defScope sWith) := ⟨rfl, rfl, rfl, by decide +kernel, rfl, by decide +kernel, by decide +kernel⟩
theorem ok_with {f : Addr} {fd : FuncData} (F : Fun K "answers_with" "answers_with" sWith f fd) (gR : ∃ a, mg "RESULTS" = some (.ref a) ∧ ∀ H, SqT K H a (resWords.map V.str)) : FnOk P w K mg base CX0 1 f fd ["modules", "known"] (spWith K) := by
  obtain ⟨aR, gR, hR⟩ := gR
  refine F.ok scWith (fun vs H Q E h => ?_) (fun cdv A outer s H vs Q E hr h => ?_)
  · obtain ⟨m, d, zs, kd, rfl, _⟩ := h
    rfl
  · obtain ⟨m, d, zs, kd, rfl, hm, hnd, h6, hd, hkv, k⟩ := h
    have hu : (A.deeper (PyProof.Rows.envOfC "answers_with" (defScope sWith) s.heap.objs.size f cdv)).units + 1 < cLine := by have := hr.un; omega
    have hs2 := sizeLine_eq
    refine ⟨_, pss_cons (ps_set (i := 2) scWith.nd rfl (.inl rfl) (pe_lst (pa_cons pe_dnewK pa_nil)))
      (pss_cons (ps_for PassesOwn.never rfl (pi_tup (pv 0)) (pg_name (i := 3) scWith.nd rfl (.inr rfl))
        (pss_cons (ps_set (i := 4) scWith.nd rfl (.inr rfl) (pe_imp (t' := tRes K) (pe_ifExp (pt_cmp (pc_din hu (pv 3) (pv 1)) (by rfl)) (pe_tup (pa_cons (pe_dget hu (pv 1) (pv 3) (fun _ _ => rfl)) pa_nil)) (pe_glob (v := .ref aR) (by rfl) gR rfl)) (fun σ H Q h => ?_)))
        (pss_one (ps_setLc2 (i := 2) (wi1 := iTup K (tVar 4)) (own := [("row", 5), ("result", 6)]) (vs1 := [6]) (g := gName 5) (g1 := gName 6) (by rfl) scWith.nd rfl rfl (by rfl) (pi_list (pv 2)) (blkOk_by (own := [("row", 5), ("result", 6)]) (N := n_answers_with) (sc := defScope sWith) (by decide +kernel)) (by decide)
          (fun _ _ _ _ _ => pg_name (i := 5) scWith.nd rfl (Or.inl rfl)) (fun _ _ _ _ _ => pts_nil) (fun _ _ _ _ _ => pi_tup (pv 4)) (fun _ _ _ _ _ => pg_name (i := 6) scWith.nd rfl (Or.inl rfl)) (fun _ _ _ _ _ => pts_nil)
          (fun _ _ _ _ _ => pe_merge (pv 5) (pv 3) (pv 6))))))
      (pss_one (ps_ret (pv 2)))), ?_⟩
    · obtain ⟨d, kd, z, e1, e3, hd, hv, k⟩ := h
      refine ⟨_, e3, _, e1, d, valV kd (.inr z), rfl, .inl ⟨kd, .inr z, hd, rfl, rfl⟩, ?_⟩
      rcases hv with hv | ⟨wd, hv⟩
      · rw [hv]
        refine ⟨false, rfl, iteF ?_⟩
        refine k aR H (Same.refl H) ?_
        unfold optF
        rw [hv]
        exact hR H
      · rw [hv]
        refine ⟨true, rfl, iteT ?_⟩
        refine ⟨_, e1, _, e3, d, .str wd, rfl, .inl ⟨kd, .inr z, hd, rfl, hv.symm⟩, by show 1 ≤ sizeLine; omega, fun t nt => ?_⟩
        refine k t _ (same_upd nt (Same.refl H)) ?_
        unfold optF
        rw [hv]
        exact SqT.of upd_same
    · refine fun p0 np0 => ⟨by show 1 ≤ sizeLine; omega, fun l0 nl0 => ?_⟩
      have S1 : Same H (upd H p0 (.dK [])) := same_upd np0 (Same.refl H)
      have e1 : upd H p0 (.dK []) p0 = some (.dK []) := upd_same
      generalize upd H p0 (.dK []) = H1 at *
      have S2 : Same H1 (upd H1 l0 (.lst [.ref p0])) := same_upd nl0 (Same.refl H1)
      have e2 : upd H1 l0 (.lst [.ref p0]) l0 = some (.lst [.ref p0]) := upd_same
      have nH0 : H l0 = none := S1.free nl0
      have e12 := S2 _ _ e1
      generalize upd H1 l0 (.lst [.ref p0]) = H2 at *
      have S12 := S1.trans S2
      refine ⟨_, rfl, m, rfl, ⟨_, same_tup S12 hm⟩, ?_⟩
      obtain ⟨Pv, hPv⟩ : ∃ Pv : Nat → L2.St → Hp → Prop, Pv = fun i σ H' => ∃ (l : Addr) (xs : List V) (x3 x4 x5 x6 : Option V), σ = [some (.ref m), some (.ref d), some (.ref l), x3, x4, x5, x6] ∧ Same H H' ∧ H l = none ∧ H' l = some (.lst xs) ∧ RowsAt H' (zs.take i) xs (withF kd (zs.take i)) := ⟨_, rfl⟩
      have pvI : ∀ {i σ H'}, Pv i σ H' → ∃ (l : Addr) (xs : List V) (x3 x4 x5 x6 : Option V), σ = [some (.ref m), some (.ref d), some (.ref l), x3, x4, x5, x6] ∧ Same H H' ∧ H l = none ∧ H' l = some (.lst xs) ∧ RowsAt H' (zs.take i) xs (withF kd (zs.take i)) := fun {i σ H'} h => by
        rw [hPv] at h
        exact h
      have pvM : ∀ {i : Nat} {H' : Hp} (l : Addr) (xs : List V) (x3 x4 x5 x6 : Option V), Same H H' → H l = none → H' l = some (.lst xs) → RowsAt H' (zs.take i) xs (withF kd (zs.take i)) → Pv i [some (.ref m), some (.ref d), some (.ref l), x3, x4, x5, x6] H' := fun {i H'} l xs x3 x4 x5 x6 h1 h2 h3 h4 => by
        rw [hPv]
        exact ⟨l, xs, x3, x4, x5, x6, rfl, h1, h2, h3, h4⟩
      refine for_tup (xs := zs.map V.str) Pv (pvM l0 [.ref p0] none none none none S12 nH0 e2 ⟨[], [], rfl, ⟨p0, rfl, e12⟩, rfl⟩) (fun i σ H' _ z => ?_) ?_ ?_
      · obtain ⟨_, _, _, _, _, _, _, z, _⟩ := pvI z
        exact same_tup z hm
      · intro i y σ H3 hyi hpv
        obtain ⟨l, xs, x3, x4, x5, x6, rfl, S3, nl, hl, hR⟩ := pvI hpv
        obtain ⟨z, hz⟩ : ∃ z, zs[i]? = some z := by
          rw [List.getElem?_map] at hyi
          cases q : zs[i]? with
          | none => rw [q] at hyi; cases hyi
          | some z => exact ⟨z, rfl⟩
        rw [List.getElem?_map, hz] at hyi
        cases hyi
        have hi6 : i < 6 := Nat.lt_of_lt_of_le (List.getElem?_eq_some_iff.mp hz).1 h6
        have etake : withF kd (zs.take (i + 1)) = moreO (optF kd z) (withF kd (zs.take i)) := by
          rw [List.take_add_one, hz]
          exact withF_snoc _ _ _
        have ntake : zs.take (i + 1) = zs.take i ++ [z] := by
          rw [List.take_add_one, hz]
          rfl
        have hnt : (zs.take i ++ [z]).Nodup := by
          rw [← ntake]
          exact hnd.sublist (List.take_sublist _ _)
        have hwl : ∀ ws ∈ withF kd (zs.take i), ws.length = (zs.take i).length := withF_mem kd _
        have h4n : (withF kd (zs.take i)).length ≤ 4 ^ 5 := Nat.le_trans (withF_len kd _) (Nat.pow_le_pow_right (by decide) (by rw [List.length_take]; omega))
        have hLT : 4 ^ 5 = 1024 := rfl
        have ho4 := optF_len kd z
        have hnl : (zs.take i).length ≤ 6 := by rw [List.length_take]; omega
        generalize withF kd (zs.take i) = L at *
        refine ⟨d, kd, z, rfl, rfl, rd_same S3 hd, hkv z (List.mem_of_getElem? hz), fun tR H4 S4 hT => ?_⟩
        generalize optF kd z = os at *
        have xl := rows_len hR
        have hl4 := S4 _ _ hl
        refine ⟨_, rfl, l, rfl, ⟨_, SqL.of hl4⟩, fun B nB => ?_⟩
        have nBH : H B = none := (S3.trans S4).free nB
        refine out_it (walk_list (xs := xs)) (fun j G => Same H4 G ∧ ∃ us, G B = some (.lst us) ∧ RowsAt G (zs.take i ++ [z]) us (moreO os (L.take j))) ⟨same_upd nB (Same.refl H4), [], upd_same, rfl⟩ (fun j G _ q => SqL.of (q.1 _ _ hl4)) ?_ ?_
        · rintro j x G1 G2 hj ⟨SG, us, hB, hus⟩ ⟨rfl, hx⟩
          obtain ⟨ws, a, hwj, rfl, ha⟩ := rows_get (rows_same (S4.trans SG) hR) hx
          have hwsl := hwl ws (List.mem_of_getElem? hwj)
          refine ⟨rfl, ?_⟩
          have hTG := same_tup SG hT
          refine ⟨_, rfl, tR, rfl, ⟨_, hTG⟩, ?_⟩
          refine in_it (walk_tup (xs := os.map V.str)) (fun c G => Same H4 G ∧ ∃ us, G B = some (.lst us) ∧ RowsAt G (zs.take i ++ [z]) us (moreO os (L.take j) ++ (os.take c).map fun r => ws ++ [r])) ⟨SG, us, hB, by rw [List.take_zero, List.map_nil, List.append_nil]; exact hus⟩ (fun c G _ q => same_tup q.1 hT) ?_ ?_
          · rintro c x G3 G4 hc ⟨S5, us5, hB5, hus5⟩ ⟨rfl, hx⟩
            rw [List.length_map] at hc
            obtain ⟨r, hr⟩ : ∃ r, os[c]? = some r := ⟨_, List.getElem?_eq_getElem hc⟩
            rw [List.getElem?_map, hr] at hx
            cases hx
            refine ⟨rfl, ?_⟩
            have ha5 : G4 a = some (.dK (dictF (zs.take i) ws)) := S5 _ _ (S4 _ _ (let ⟨ws', a', q1, q2, q3⟩ := rows_get hR hx; by cases q2; rw [hwj] at q1; cases q1; exact q3))
            refine fun p np => ⟨_, rfl, a, dictF (zs.take i) ws, rfl, ?_, upd_same, ?_, ?_, fun q nq hqp => ?_⟩
            · exact fun e => by rw [e, np] at ha5; cases ha5
            · exact .inl (by rw [upd_ne (fun e => by rw [e, np] at ha5; cases ha5)]; exact ha5)
            · unfold dictF
              rw [List.length_map, List.length_zip]
              have := Nat.min_le_left (zs.take i).length ws.length
              omega
            rw [upd_ne hqp] at nq
            refine ⟨_, rfl, _, rfl, .inr z, .str r, rfl, upd_same, by rw [upd_ne (Ne.symm hqp)]; exact upd_same, ?_⟩
            rw [row_more hwsl hnt]
            have S7 : Same G4 (upd (upd (upd (upd (upd G4 p (.dK [])) p (.dK (mergeK [] (dictF (zs.take i) ws)))) q (.dK [])) q (.dK [(.inr z, .str r)])) p (.dK (dictF (zs.take i ++ [z]) (ws ++ [r])))) := fun b o e => by
              have b1 : b ≠ p := ne_of_none e np
              have b2 : b ≠ q := ne_of_none e nq
              rw [upd_ne b1, upd_ne b2, upd_ne b2, upd_ne b1, upd_ne b1]
              exact e
            have e7 : upd (upd (upd (upd (upd G4 p (.dK [])) p (.dK (mergeK [] (dictF (zs.take i) ws)))) q (.dK [])) q (.dK [(.inr z, .str r)])) p (.dK (dictF (zs.take i ++ [z]) (ws ++ [r]))) p = some (.dK (dictF (zs.take i ++ [z]) (ws ++ [r]))) := upd_same
            generalize upd (upd (upd (upd (upd G4 p (.dK [])) p (.dK (mergeK [] (dictF (zs.take i) ws)))) q (.dK [])) q (.dK [(.inr z, .str r)])) p (.dK (dictF (zs.take i ++ [z]) (ws ++ [r]))) = G7 at *
            have hB7 := S7 _ _ hB5
            have ul := rows_len hus5
            refine ⟨us5, hB7, ?_, same_upd nB (S5.trans S7), us5 ++ [.ref p], upd_same, ?_⟩
            · have q1 : (moreO os (L.take j)).length ≤ 4 * 1024 := by
                rw [moreO_len]
                exact Nat.mul_le_mul ho4 (by rw [List.length_take]; omega)
              have q2 : ((os.take c).map fun r => ws ++ [r]).length ≤ 4 := by rw [List.length_map, List.length_take]; omega
              rw [ul, List.length_append]
              omega
            · have tk : (os.take (c + 1)).map (fun r => ws ++ [r]) = (os.take c).map (fun r => ws ++ [r]) ++ [ws ++ [r]] := by
                rw [List.take_add_one, hr, List.map_append]
                rfl
              rw [tk, ← List.append_assoc]
              refine rows_append (rows_upd hB7 (rows_same S7 hus5)) ⟨ws ++ [r], [], rfl, ⟨p, rfl, ?_⟩, rfl⟩
              rw [upd_ne (ne_of e7 hB7 fun z => nomatch z)]
              exact e7
          · rintro G3 ⟨S5, us5, hB5, hus5⟩
            rw [List.length_map, List.take_length] at hus5
            refine ⟨S5, us5, hB5, ?_⟩
            rw [moreO_take hwj]
            exact hus5
        · rintro G1 ⟨SG, us, hB, hus⟩
          rw [xl, List.take_length] at hus
          exact pvM B us _ _ _ _ ((S3.trans S4).trans SG) nBH hB (by rw [ntake, etake] at *; exact hus)
      · intro σ H3 hpv
        obtain ⟨l, xs, x3, x4, x5, x6, rfl, S3, nl, hl, hR⟩ := pvI hpv
        rw [List.length_map, List.take_length] at hR
        exact ⟨_, rfl, k l xs H3 S3 nl hl hR⟩
end
end LS
namespace LS
open PySem PySem.Spec PyProof.Rows L2
/-- where answers lead -/
def wordL (es : List Ent) (zs ws : List Str) : Str := inOut (runs (tlOf zs ws) es).1
/-- a stack whose modules are these -/
structure ModAt (K : PySem.W.Frag) (CR CS : Addr) (H : Hp) (sp : Addr) (es : List Ent) (ms : List Str) : Prop where
  e : EntAt K CR CS H (.stk sp es)
  four : Four es
  mods : ModsOf ms (rulesEs es)
  few : ms.length ≤ 6
theorem ModAt.same {K : PySem.W.Frag} {CR CS : Addr} {H H' : Hp} {sp : Addr} {es : List Ent} {ms : List Str} (h : ModAt K CR CS H sp es ms) (S : Same H H') : ModAt K CR CS H' sp es ms := ⟨ent_same S _ h.e, h.four, h.mods, h.few⟩
theorem mods_same {ms ns : List Str} {rs : List RuleI} (h : ModsOf ms rs) (g : ModsOf ns rs) : ms = ns :=
  sortedS_same h.1 g.1 (fun x => (h.2.2 x).trans (g.2.2 x).symm) h.2.1 g.2.1
theorem row_tells {H : Hp} {a : Addr} {zs ws : List Str} (hd : H a = some (.dK (dictF zs ws))) (hn : zs.Nodup) (hw : ws ∈ allF zs) {z : Str} (hz : z ∈ zs) : Tells H a z (tlOf zs ws z) := by
  obtain ⟨w1, w2⟩ := allF_words ws hw
  exact ⟨wordOf zs ws z, idxS_at (w2 _ (wordOf_mem w1.symm hz)), .inl ⟨dictF zs ws, .inr z, .inl hd, rfl, (valV_dict hn w1.symm hz).symm⟩⟩
theorem ModAt.ask {K : PySem.W.Frag} {CR CS : Addr} {H : Hp} {sp a : Addr} {es : List Ent} {ms ws : List Str} (h : ModAt K CR CS H sp es ms) (hd : H a = some (.dK (dictF ms ws))) (hw : ws ∈ allF ms) : AskAt K CR CS H sp a es (tlOf ms ws) :=
  ⟨h.e, h.four, fun r hr => row_tells hd h.mods.1 hw ((h.mods.2.2 _).mpr (List.mem_map.mpr ⟨r, hr, rfl⟩))⟩
/-- what they use -/
structure LedK (P : Program) (w : World) (K : PySem.W.Frag) (mg : Str → Option Value) (base : Heap) (CR CS : Addr) where
  T : StackK K mg CR CS
  PM : PropK P w K mg base CS "modules" (spSModules K CR CS)
  Le : DefK P w K mg base CX0 10 "leads" ["stack", "answers"] (spLeads K CR CS)
  Wi : DefK P w K mg base CX0 1 "answers_with" ["modules", "known"] (spWith K)
theorem find_none {α : Type} {p : α → Bool} {l : List α} (h : ∀ (j : Nat) (x : α), l[j]? = some x → p x = false) : l.find? p = none := by
  rw [List.find?_eq_none]
  intro x hx
  obtain ⟨j, hj⟩ := List.getElem?_of_mem hx
  rw [h j x hj]
  exact Bool.false_ne_true
theorem find_some {α : Type} {p : α → Bool} : ∀ {l : List α} {i : Nat} {x : α}, l[i]? = some x → p x = true → (∀ j, j < i → ∀ y, l[j]? = some y → p y = false) → l.find? p = some x
  | [], i, x, h, _, _ => by simp at h
  | a :: l, 0, x, h, hp, _ => by
    simp at h
    subst h
    rw [List.find?_cons_of_pos hp]
  | a :: l, i + 1, x, h, hp, hb => by
    have h0 : p a = false := hb 0 (Nat.succ_pos i) a rfl
    rw [List.find?_cons_of_neg (by rw [h0]; exact Bool.false_ne_true)]
    exact find_some (i := i) (by simpa using h) hp fun j hj y hy => hb (j + 1) (Nat.succ_lt_succ hj) y (by simpa using hy)
end LS
set_option maxHeartbeats 4000000
/-! a dict comprehension whose keys are tuples of ints and texts -/
namespace LS
open PySem PySem.Spec PyProof.Rows L2
section
variable {X : Cx}
/-- an entry goes into the dict at D -/
theorem storeT {pins : List (Addr × Obj)} {σ : L2.St} {G : Hp} {t : Shared} {Er : Value → Shared → Prop} {D b : Addr} {kvs : List (List L2.Key × V)} {k : List L2.Key} {v : V} {r : Value} {Q : Unit → Shared → Prop} (hu : X.A.units < cLine)
    (J : Inv X pins σ G t) (hD : G D = some (.dT kvs)) (hz : kvs.length < sizeLine) (hb : G b = some (.tup (k.map kV))) (rv : RelV v r) (fin : ∀ t', Inv X pins σ (upd G D (.dT (putK kvs k v))) t' → Q () t') :
    wpAny (model X.prog X.w) X.A (dictSet D (.ref b) r) Q Er t := by
  obtain ⟨z, hs, xs, rel, dd⟩ := dt_of J.hok hD
  have room : xs.length ≤ sizeLine := by rw [← Paired.length rel]; exact z
  have len := length_putK kvs k v
  refine wpAny_dictSet_heap (hsz := room) (knd := tupleKind (mixKind X.prog X.w)) hu (key_of J.hok hb) dd fun g dd' sb => fin _ ?_
  obtain ⟨q, es, ep, e1, e2, e3, e4, _, e5⟩ := dd'
  exact d_write J (by rw [hD]; exact True.intro) sb ⟨q, e1⟩ ⟨by omega, hs, _, (rel.put k hb rv).keeps (fun c ys ec => (upd_ne (ne_of ec hD (fun z => nomatch z))).trans ec), q, es, ep, e1, e2, e3, e4, e5⟩
/-- {k: v for target in iter if ..}, k a tuple: D the new dict -/
def tDcT (wi : TI) (g : TG) (tt : TT) (tk tv : TE) (vs : List Nat) : TE := fun σ H Q => wi σ H fun J G => ∀ D, G D = none → ∃ W : Nat → Nat → Hp → Prop, (∃ m, W 0 m (upd G D (.dT []))) ∧ ∀ i m H, W i m H →
  (J.stop i H ∧ Q (.ref D) H) ∨ (J.go i H ∧ ∃ Nx : Hp → Prop, (∀ H', Nx H' → ∃ m', m' < m ∧ W (i + 1) m' H') ∧ ∀ x H', J.yld i H x H' → g x (wipe σ vs) H' fun σ2 H2 => wipe σ2 vs = wipe σ vs ∧ tt σ2 H2 fun b H3 =>
    if b = true then tk σ2 H3 fun y H4 => tv σ2 H4 fun z H5 => ∃ kvs k b, y = .ref b ∧ H5 b = some (.tup (k.map kV)) ∧ H5 D = some (.dT kvs) ∧ kvs.length < sizeLine ∧ Nx (upd H5 D (.dT (putK kvs k z))) else Nx H3)
theorem dcT_core {pins : List (Addr × Obj)} {t : Shared} {σ : L2.St} {G : Hp} {Q : VK} {kx vx tg iter : Expr} {ifs : List Expr} {scope : Scope} {own : List (Str × Nat)} {pos pos' : Pos} {wi : TI} {g : TG} {tt : TT} {tk tv : TE} {use : Option (Value → Sem Unit)} {Qf : Value → Shared → Prop}
    (hu : X.A.units < cLine) (hc : X.calm = true) (nd : X.N.Nodup) (J : Inv X pins σ G t) (hi : PI X tg iter wi) (ok : BlkOk X.N X.env.scope scope own)
    (hg : ∀ (s : Shared) (H : Hp) (C : Addr) (cl : List (Str × Addr)) (fp : List Addr), PG (X.blk s H scope (compEnvC scope cl C X.env) fp) tg g)
    (ht : ∀ (s : Shared) (H : Hp) (C : Addr) (cl : List (Str × Addr)) (fp : List Addr), PTs (X.blk s H scope (compEnvC scope cl C X.env) fp) ifs tt)
    (hk : ∀ (s : Shared) (H : Hp) (C : Addr) (cl : List (Str × Addr)) (fp : List Addr), PE (X.blk s H scope (compEnvC scope cl C X.env) fp) kx tk)
    (he : ∀ (s : Shared) (H : Hp) (C : Addr) (cl : List (Str × Addr)) (fp : List Addr), PE (X.blk s H scope (compEnvC scope cl C X.env) fp) vx tv) (hs : ∀ x, foldedSetIterable iter X.env x = pure x)
    (h : tDcT wi g tt tk tv (own.map (·.2)) σ G Q)
    (post : ∀ D C t' m G', Inv X pins σ G' t' → Q (.ref D) G' → t'.heap.Ns C m → FpOk X pins G' C → compPost (model X.prog X.w) X.A X.xe use Qf (.ref D) C (.ok .next) t') :
    wpAny (model X.prog X.w) X.A (comprehension (.DictComp kx vx [⟨tg, iter, ifs, 0⟩] scope pos) scope X.env pos' newDict false (eval iter X.env) use) Qf X.xe t := by
  have free : ∀ y ∈ scope.names, y.2 = .free → ∃ c, X.env.cells.lookup y.1 = some c := by
    intro y hy e
    rcases ok.free y hy e with k | k
    · exact J.ok.has _ (.inl k)
    · exact J.ok.has _ (.inr k)
  refine wpAny_comprehension_free (use := use) rfl hs (closure_ok free) ok.kind (fun y hy e => by rw [ok.uniq y hy, e]) (thn (hi.run pins t σ G _ J h) fun xv t1 hx => thn hx fun itv t2 h2 => ?_)
  obtain ⟨it, fp, tn, JJ, G2, e, J2, T, st2, f2, q⟩ := h2
  subst e
  refine wpAny_newObj_type (newEnv_comp ?_)
  generalize hD : t2.heap.objs.size = D
  have Dn : G2 D = none := J2.hok.fresh (Nat.le_of_eq hD)
  obtain ⟨W, ⟨m0, w0⟩, turn⟩ := q D Dn
  generalize ht3 : ({ t2 with heap := t2.heap.push { cls := .type "dict", data := .dict #[] } } : Shared) = t3
  have h3 : t3.heap = t2.heap.push { cls := .type "dict", data := .dict #[] } := by rw [← ht3]
  have J3 : Inv X pins σ (upd G2 D (.dT [])) t3 := by
    rw [← ht3]
    refine J2.laid (t' := t2.toks) (fun b o e => Heap.get?_push_of_some _ e) (Nat.le_of_eq hD) ?_
    rw [← hD]
    exact dt_empty t2.heap J2.big
  have sz : ∀ b ∈ fp, b < t2.heap.objs.size := by
    intro b hb
    obtain ⟨o, e, _⟩ := T.obj _ _ st2 b hb
    exact Heap.lt_size e
  have f3 : ∀ b ∈ fp, FpOk X pins (upd G2 D (.dT [])) b ∧ b < t3.heap.objs.size := by
    intro b hb
    have lt := sz b hb
    have ne : b ≠ D := by rw [← hD]; exact Nat.ne_of_lt lt
    exact ⟨⟨(upd_ne ne).trans (f2 b hb).1, (f2 b hb).2⟩, by rw [h3, Heap.size_push]; exact Nat.lt_succ_of_lt lt⟩
  have st3 : tn 0 t3.heap := T.keep _ _ _ st2 fun b _ o e => by rw [h3]; exact Heap.get?_push_of_some _ e
  have J4 := block_start J3 ok nd f3
  have pg := hg t3 (upd G2 D (.dT [])) t3.heap.objs.size (cellsFrom (t3.heap.objs.size + 1) scope.names (cloFrom X.env.cells scope.names [])) fp
  have pt := ht t3 (upd G2 D (.dT [])) t3.heap.objs.size (cellsFrom (t3.heap.objs.size + 1) scope.names (cloFrom X.env.cells scope.names [])) fp
  have pk := hk t3 (upd G2 D (.dT [])) t3.heap.objs.size (cellsFrom (t3.heap.objs.size + 1) scope.names (cloFrom X.env.cells scope.names [])) fp
  have pe := he t3 (upd G2 D (.dT [])) t3.heap.objs.size (cellsFrom (t3.heap.objs.size + 1) scope.names (cloFrom X.env.cells scope.names [])) fp
  show codeAny _ _ (.compStart (.DictComp kx vx [⟨tg, iter, ifs, 0⟩] scope pos) 0 (.ref it) (.ref D) (compEnvC scope (cellsFrom (t3.heap.objs.size + 1) scope.names (cloFrom X.env.cells scope.names [])) t3.heap.objs.size X.env)) (compPost (model X.prog X.w) X.A X.xe use Qf (.ref D) t3.heap.objs.size) { t3 with heap := pushCells (t3.heap.push { cls := .type "dict", data := .dict #[] }) scope.names }
  have nfp : ∀ b ∈ fp, (upd G2 D (.dT [])) b = none := fun b hb => (f3 b hb).1.1
  generalize hce : compEnvC scope (cellsFrom (t3.heap.objs.size + 1) scope.names (cloFrom X.env.cells scope.names [])) t3.heap.objs.size X.env = ce at J4 pg pt pk pe ⊢
  have cL : ce.locals = t3.heap.objs.size := by subst hce; rfl
  generalize hG3 : upd G2 D (.dT []) = G3 at J3 J4 pg pt pk pe w0 nfp f3
  generalize ht4 : ({ t3 with heap := pushCells (t3.heap.push { cls := .type "dict", data := .dict #[] }) scope.names } : Shared) = t4 at J4 ⊢
  have st4 : tn 0 t4.heap := T.keep _ _ _ st3 fun b _ o e => by rw [← ht4]; exact pushCells_keeps _ _ _ _ (Heap.get?_push_of_some _ e)
  have stat : ∀ {σ' : L2.St} {G' : Hp} {t' : Shared}, Inv (X.blk t3 G3 scope ce fp) [] σ' G' t' → (∀ b ∈ fp, G' b = none) → ∀ b ∈ fp, FpOk (X.blk t3 G3 scope ce fp) [] G' b := by
    intro σ' G' t' J' hn b hb
    exact ⟨hn b hb, (J'.ok.exf b hb).1, J'.ok.exfs b hb, .inl hb, fun x c e => (J'.ok.exf b hb).2 x c e, fun p hp => absurd (show p ∈ ([] : List (Addr × Obj)) ++ [] from hp) (by simp)⟩
  have loop : codeAny (model X.prog X.w) X.A (.compLoop (.DictComp kx vx [⟨tg, iter, ifs, 0⟩] scope pos) 0 (.ref it) (.ref D) ce) (compPost (model X.prog X.w) X.A X.xe use Qf (.ref D) t3.heap.objs.size) t4 := by
    refine compLoop_anyD (fun n t' => ∃ i G', Inv (X.blk t3 G3 scope ce fp) [] (wipe σ (own.map (·.2))) G' t' ∧ tn i t'.heap ∧ (∀ b ∈ fp, G' b = none) ∧ W i n G') ?_ m0 ⟨0, G3, J4, st4, nfp, w0⟩
    rintro n t5 ⟨i, G5, J5, st5, n5, w5⟩
    rcases turn i n G5 w5 with ⟨stop, qq⟩ | ⟨go, Nx, hNx, step⟩
    · have td := T.done (X.blk t3 G3 scope ce fp) rfl rfl rfl hc i [] t5 _ G5 (fun _ _ => False) J5 (stat J5 n5) st5 stop
      refine thnF td fun r t6 ⟨hr, J6⟩ => ?_
      subst hr
      have J7 : Inv X pins σ G5 t6 := J3.call' (ch := fp) J6.os J6.base J6.hok J6.bare fun b hb => ⟨(f3 b hb).1.2.2.2.1, (f3 b hb).1.2.1, (f3 b hb).1.2.2.2.2.1, (f3 b hb).1.2.2.2.2.2⟩
      have nC : G5 t3.heap.objs.size = none := by
        have z : G5 ce.locals = none := J6.free
        rw [cL] at z
        exact z
      obtain ⟨m, hn, _⟩ := J6.loc
      have hn : t6.heap.Ns ce.locals m := hn
      rw [cL] at hn
      exact post D t3.heap.objs.size t6 m G5 J7 qq hn (J3.fpOk (Nat.le_refl _) nC)
    · have ti := T.item (X.blk t3 G3 scope ce fp) rfl rfl rfl hc i [] t5 _ G5 (fun _ _ => False) J5 (stat J5 n5) st5 go
      refine thnF ti fun r t6 ⟨u, hr, h6⟩ => ?_
      subst hr
      refine thnF h6 fun _ t7 ⟨x, G7, J7, r7, y7, st7, n7⟩ => ?_
      have J7' := J7.pinned (stat J7 n7) (T.obj _ _ st7)
      refine thnF (pg.run _ t7 _ G7 x u _ J7' r7 (step x G7 y7)) fun _ t8 ⟨σ8, G8, J8, hw8, q8⟩ => ?_
      refine thnF (pt.run _ t8 σ8 G8 _ J8 q8) fun b t9 ⟨G9, J9, q9⟩ => ?_
      have back : ∀ {t' : Shared} {G' : Hp}, Inv (X.blk t3 G3 scope ce fp) ([] ++ pinsAt fp t7.heap) σ8 G' t' → Nx G' → ∃ m, m < n ∧ ∃ i G', Inv (X.blk t3 G3 scope ce fp) [] (wipe σ (own.map (·.2))) G' t' ∧ tn i t'.heap ∧ (∀ b ∈ fp, G' b = none) ∧ W i m G' := by
        intro t' G' J' nx
        obtain ⟨m', hm, w'⟩ := hNx G' nx
        have pin' : ∀ b ∈ fp, ∀ o, t7.heap.get? b = some o → t'.heap.get? b = some o ∧ G' b = none := by
          intro b hb o e
          have z := J'.pin (b, o) (List.mem_append_right _ (List.mem_append_right _ (mem_pinsAt hb e)))
          exact ⟨z.1, z.2.1⟩
        have hl : (wipe σ (own.map (·.2))).length = σ8.length := by rw [← hw8, wipe_length]
        refine ⟨m', hm, i + 1, G', (J'.unpinned (pins := [])).weak hl (fun j v e => ?_), T.keep _ _ _ st7 fun b hb o e => (pin' b hb o e).1, fun b hb => ?_, w'⟩
        · rw [← hw8] at e
          exact (wipe_some e).1
        · obtain ⟨o, e, _⟩ := T.obj _ _ st7 b hb
          exact (pin' b hb o e).2
      cases b with
      | false =>
        simp only [Bool.false_eq_true, if_false] at q9 ⊢
        exact back J9 q9
      | true =>
        simp only [if_true] at q9 ⊢
        refine thnF (pk.run _ t9 σ8 G9 _ J9 q9) fun z t10 ⟨yk, G10, J10, r10, q10⟩ => ?_
        refine thnF (pe.run _ t10 σ8 G10 _ J10 q10) fun z2 t11 ⟨yv, G11, J11, r11, kvs, k, b, ek, hb11, hD11, hz11, nx⟩ => ?_
        subst ek
        cases r10
        exact storeT (X := X.blk t3 G3 scope ce fp) hu J11 hD11 hz11 hb11 r11 fun t12 J12 => back J12 nx
  exact codeAny_compStart_dict loop (T.self X.A 0 _ _ _ st4 loop)
/-- as a value -/
theorem pe_dcT {kx vx tg iter : Expr} {ifs : List Expr} {scope : Scope} {own : List (Str × Nat)} {pos : Pos} {wi : TI} {g : TG} {tt : TT} {tk tv : TE} (hu : X.A.units < cLine) (hc : X.calm = true) (hN : X.N.Nodup) (hi : PI X tg iter wi) (ok : BlkOk X.N X.env.scope scope own)
    (hg : ∀ (s : Shared) (H : Hp) (C : Addr) (cl : List (Str × Addr)) (fp : List Addr), PG (X.blk s H scope (compEnvC scope cl C X.env) fp) tg g)
    (ht : ∀ (s : Shared) (H : Hp) (C : Addr) (cl : List (Str × Addr)) (fp : List Addr), PTs (X.blk s H scope (compEnvC scope cl C X.env) fp) ifs tt)
    (hk : ∀ (s : Shared) (H : Hp) (C : Addr) (cl : List (Str × Addr)) (fp : List Addr), PE (X.blk s H scope (compEnvC scope cl C X.env) fp) kx tk)
    (he : ∀ (s : Shared) (H : Hp) (C : Addr) (cl : List (Str × Addr)) (fp : List Addr), PE (X.blk s H scope (compEnvC scope cl C X.env) fp) vx tv) (hs : ∀ x, foldedSetIterable iter X.env x = pure x := by intro _; rfl) :
    PE X (.DictComp kx vx [⟨tg, iter, ifs, 0⟩] scope pos) (tDcT wi g tt tk tv (own.map (·.2))) := by
  constructor
  intro pins t σ G Q J h
  rw [arm_eval_DictComp]
  refine dcT_core hu hc hN J hi ok hg ht hk he hs h fun D C t' m G' J' q hn f => ⟨m, hn, fun h'' sb => ?_⟩
  obtain ⟨f0, f1, f2, f3, f4, f5⟩ := f
  exact ⟨.ref D, G', J'.turned (t' := t'.toks) (fun b o hb e => (sb.2 b hb).trans e) f0 f1 f3 f4 f5, rfl, q⟩
/-- the loop of such a comprehension over what a Walk tells -/
theorem dcT_walk {JJ : It} {n : Nat} {Gd : Hp → Prop} {Y : Nat → Hp → V → Hp → Prop} (wk : Walk JJ n Gd Y) {g : TG} {tt : TT} {tk tv : TE} {vs : List Nat} {σ : L2.St} {G : Hp} {D : Addr} {Qd : Hp → Prop} (Pv : Nat → Hp → Prop) (h0 : Pv 0 (upd G D (.dT []))) (hG : ∀ i H, i ≤ n → Pv i H → Gd H)
    (hs : ∀ i x H H', i < n → Pv i H → Y i H x H' → g x (wipe σ vs) H' fun σ2 H2 => wipe σ2 vs = wipe σ vs ∧ tt σ2 H2 fun b H3 =>
      if b = true then tk σ2 H3 fun y H4 => tv σ2 H4 fun z H5 => ∃ kvs k b, y = .ref b ∧ H5 b = some (.tup (k.map kV)) ∧ H5 D = some (.dT kvs) ∧ kvs.length < sizeLine ∧ Pv (i + 1) (upd H5 D (.dT (putK kvs k z))) else Pv (i + 1) H3) (hd : ∀ H, Pv n H → Qd H) :
    ∃ W : Nat → Nat → Hp → Prop, (∃ m, W 0 m (upd G D (.dT []))) ∧ ∀ i m H, W i m H →
      (JJ.stop i H ∧ Qd H) ∨ (JJ.go i H ∧ ∃ Nx : Hp → Prop, (∀ H', Nx H' → ∃ m', m' < m ∧ W (i + 1) m' H') ∧ ∀ x H', JJ.yld i H x H' → g x (wipe σ vs) H' fun σ2 H2 => wipe σ2 vs = wipe σ vs ∧ tt σ2 H2 fun b H3 =>
        if b = true then tk σ2 H3 fun y H4 => tv σ2 H4 fun z H5 => ∃ kvs k b, y = .ref b ∧ H5 b = some (.tup (k.map kV)) ∧ H5 D = some (.dT kvs) ∧ kvs.length < sizeLine ∧ Nx (upd H5 D (.dT (putK kvs k z))) else Nx H3) := by
  refine ⟨fun i m H => m = n - i ∧ i ≤ n ∧ Pv i H, ⟨n, by simp, Nat.zero_le _, h0⟩, ?_⟩
  rintro i m H ⟨rfl, hi, p⟩
  have q := hG i H hi p
  rcases Nat.lt_or_ge i n with lt | ge
  · exact .inr ⟨wk.goes i H lt q, Pv (i + 1), fun H' p' => ⟨n - (i + 1), by omega, rfl, lt, p'⟩, fun x H' y => hs i x H H' lt p (wk.yields i H x H' lt q y)⟩
  · have e : i = n := Nat.le_antisymm hi ge
    subst e
    exact .inl ⟨wk.stops H q, hd H p⟩
end
end LS
/-! tuple(d.values()) -/
namespace LS
open PySem PySem.Spec PyProof.Rows L2
section
variable {prog : Program} {w : World} {A : Around} {E : Value → Shared → Prop} {t : Shared} {r d : Addr} {n : Nat} {T : String} {P : Nat → Value → Prop} {OK : Heap → Prop}
theorem collect_src {Q : List Value → Shared → Prop} (S : PySem.W.KdlSrc prog w T r d n P OK) (hh : A.handled = none) (ok : OK t.heap) (hn : n ≤ sizeLine)
    (fin : ∀ (g : Heap) (tk : Nat) (acc : Array Value), (∀ b o, t.heap.get? b = some o → g.get? b = some o) → ItemsOf P acc n → Q acc.toList { t with heap := g, toks := tk }) :
    wpAny (model prog w) A (collect (.ref r)) Q E t := by
  have lt := S.there _ ok
  unfold collect
  refine wpAny_bind (wpAny_runValue (codeAny_builtin F.entry_proto_collect ?_))
  rw [Around.under_plainId F.plain_proto_collect _]
  show wpAny _ A.in1 (newList [] >>= fun l => again (.builtin "list.__iadd__" ⟨[l, .ref r], []⟩)) _ _ t
  refine wpAny_bind (wpAny_newObj_type ?_)
  refine wpAny_pure ⟨plainId_quiet F.plain_list_iadd _, codeAny_builtin F.entry_list_iadd ?_⟩
  rw [Around.under_plainId F.plain_list_iadd _]
  show wpAny _ A.in1 (Builtin.List.listExtendWith (.ref t.heap.objs.size) (.ref r) (.ref t.heap.objs.size)) _ _ _
  have new : (t.heap.push { cls := .type "list", data := .seq ([] : List Value).toArray }).get? t.heap.objs.size = some { cls := .type "list", data := .seq #[] 0 } := Heap.get?_push_size _ rfl
  refine wpAny_mono (PySem.W.kdl_extend (A := A) (s := { t with heap := t.heap.push { cls := .type "list", data := .seq ([] : List Value).toArray } }) (R := fun rr t' => rr = .ok (.ret (.ref t.heap.objs.size)) ∧ ∃ (g : Heap) (tk : Nat) (acc : Array Value) (c' : Nat), t' = { t with heap := g, toks := tk } ∧
      (∀ b o, t.heap.get? b = some o → g.get? b = some o) ∧ g.get? t.heap.objs.size = some { cls := .type "list", dict := none, data := .seq acc c', slots := #[] } ∧ ItemsOf P acc n)
    S hh (S.keep _ _ ok fun b _ o e => Heap.get?_push_of_some _ e) t.heap.objs.size (Nat.ne_of_gt lt.1) (Nat.ne_of_gt lt.2) _ 0 new
    (fun g tk acc c' hk e hi => ⟨rfl, g, tk, acc, c', rfl, fun b o q => hk b o (Nat.ne_of_lt (Heap.lt_size q)) (Heap.get?_push_of_some _ q), e, hi⟩) hn) (fun f t' h => ?_) (fun e t' h => ?_)
  · cases f with
    | done f =>
      obtain ⟨e, g, tk, acc, c', rfl, hk, hS, hi⟩ := h
      cases e
      show wpAny _ A (load t.heap.objs.size >>= _) _ _ _
      exact wpAny_bind (wpAny_load hS (wpAny_pure (fin g tk acc hk hi)))
    | again c' =>
      refine ⟨h.1, codeAny_mono h.2 fun rr t'' hr => ?_⟩
      obtain ⟨rfl, g, tk, acc, c', rfl, hk, hS, hi⟩ := hr
      show wpAny _ A (load t.heap.objs.size >>= _) _ _ _
      exact wpAny_bind (wpAny_load hS (wpAny_pure (fin g tk acc hk hi)))
  · exact absurd h.1 (by simp)
theorem code_tupV {Q₁ : Value → Shared → Prop} (S : PySem.W.KdlSrc prog w "dict_values" r d n P OK) (hh : A.handled = none) (ok : OK t.heap) (hn : n ≤ sizeLine)
    (fin : ∀ (g : Heap) (tk : Nat) (acc : Array Value), (∀ b o, t.heap.get? b = some o → g.get? b = some o) → ItemsOf P acc n → Q₁ (.ref g.objs.size) { t with heap := g.push { cls := .type "tuple", data := .seq acc }, toks := tk }) :
    codeAny (model prog w) A (.call (.builtin "tuple.__new__") ⟨[.type "tuple", .ref r], []⟩) (wants Q₁ E) t := by
  refine codeAny_of_tree ?_
  show wpAny _ A.in1 (do checkBuiltinCall "tuple.__new__" ⟨[.type "tuple", .ref r], []⟩; again (.builtin "tuple.__new__" ⟨[.type "tuple", .ref r], []⟩)) _ _ t
  refine wpAny_bind (wpAny_of_eq (F.newCall_tuple_1 _) (wpAny_pure ⟨plainId_quiet F.plain_tuple_new _, codeAny_builtin F.entry_tuple_new ?_⟩))
  rw [Around.under_plainId F.plain_tuple_new _]
  have hsub := sub_tuple_self
  have hinit := init_tuple_lookup
  have hmh := madeHere_tuple
  have ty : t.TypeIs (.ref r) "dict_values" := S.type t ok
  have hh1 : A.in1.handled = none := hh
  wp_walk using wpAny_typeOf ty, collect_src (A := A.in1) S hh1 ok hn
  intro g tk acc hk hacc
  show wpAny _ _ (Builtin.Tuple.tupleExact acc.toList.toArray >>= fun v => ret v) _ _ _
  unfold Builtin.Tuple.tupleExact
  have e : acc.toList.toArray = acc := by simp
  refine wpAny_bind (wpAny_newObj_type ?_ (by show acc.toList.toArray.size ≤ sizeLine; rw [e, hacc.1]; exact hn))
  refine wpAny_pure ?_
  rw [e]
  exact fin g tk acc hk hacc
theorem call_tupV {Q : Value → Shared → Prop} (S : PySem.W.KdlSrc prog w "dict_values" r d n P OK) (hh : A.handled = none) (ok : OK t.heap) (hn : n ≤ sizeLine)
    (fin : ∀ (g : Heap) (tk : Nat) (acc : Array Value), (∀ b o, t.heap.get? b = some o → g.get? b = some o) → ItemsOf P acc n → Q (.ref g.objs.size) { t with heap := g.push { cls := .type "tuple", data := .seq acc }, toks := tk }) :
    wpAny (model prog w) A (call (.type "tuple") [.ref r]) Q E t := by
  refine callType_codes (Q₁ := fun obj t₁ => t₁.TypeIs obj "tuple" ∧ Q obj t₁) F.called_tuple (F.typeCall_tuple_1 _) F.entry_object_init
    (code_tupV (A := A.in1) S hh ok hn fun g tk acc hk hacc => ⟨⟨_, Heap.get?_push_size _ rfl, rfl⟩, fin g tk acc hk hacc⟩) fun obj t₁ h₁ => ?_
  exact ⟨h₁.1, F.args_object_init_2 obj _, object_init_meets F.called_tuple.init.lookup F.called_tuple.made (by decide) prog w A.in1 _ t₁ ⟨h₁.1, rfl, h₁.2⟩⟩
end
/-- the view d.values() at p -/
def valuesO (p d : Addr) : HO := .ext fun h => h.IsValuesView p d
section
variable {X : Cx}
def rVals : V → List V → Hp → VK → Prop := fun x xs H Q => ∃ (a : Addr) (kvs : List (L2.Key × V)), x = .ref a ∧ xs = [] ∧ Rd H a (.dK kvs) ∧ ∀ p, H p = none → Q (.ref p) (upd H p (valuesO p a))
theorem mt_vals : MtR X "dict.values" rVals := by
  intro pins t σ G x xs v us Q J rx rxs h
  obtain ⟨a, kvs, rfl, rfl, ha, q⟩ := h
  cases rx
  cases rxs
  obtain ⟨z, hd, vs, rel, dd⟩ := dk_rd J.hok ha
  obtain ⟨es, ep, raw, _⟩ := dd.raw
  refine call_meetsIn F.slot_dict_values raw.typeIs F.entry_dict_values (F.args_dict_values_1 _) (meets_dict_values_raw a hd) ⟨⟨es, ep, raw⟩, ?_⟩
  have nf : G t.heap.objs.size = none := J.hok.fresh (Nat.le_refl _)
  refine ⟨.ref t.heap.objs.size, upd G t.heap.objs.size (valuesO t.heap.objs.size a), J.laid (t' := t.toks) (fun b u e => Heap.get?_push_of_some _ e) (Nat.le_refl _) ?_, rfl, q _ nf⟩
  exact ⟨⟨_, Heap.get?_push_size _ rfl, rfl, rfl⟩, ⟨_, Heap.get?_push_size _ rfl⟩, fun h1 h2 x k => let ⟨o, ho, r⟩ := x; ⟨o, k o ho, r⟩⟩
/-- a new tuple of the values -/
def rTupV : List V → Hp → VK → Prop := fun xs H Q => ∃ (p a : Addr) (kvs : List (L2.Key × V)), xs = [.ref p] ∧ H p = some (valuesO p a) ∧ Rd H a (.dK kvs) ∧ ∀ l, H l = none → Q (.ref l) (upd H l (.tup (kvs.map (·.2))))
theorem vals_of {kvs : List (L2.Key × V)} {vs : List (L2.Key × Value)} (rel : KV kvs vs) : Vals (kvs.map (·.2)) (vs.map (·.2)) := by
  unfold KV at rel
  induction rel with
  | nil => exact .nil
  | cons h _ ih => exact .cons h.2 ih
theorem cr_tupV (hc : X.calm = true) : CallR X (.type "tuple") rTupV := by
  intro pins t σ G xs us Q J r h
  obtain ⟨p, a, kvs, rfl, hp, ha, q⟩ := h
  obtain rfl := Vals.ref1 r
  have view : t.heap.IsValuesView p a := (show ObjOk X.prog X.w G t.heap p (valuesO p a) from J.hok p _ hp).1
  obtain ⟨z, hd, vs, rel, dd⟩ := dk_rd J.hok ha
  obtain ⟨es, ep, raw, hsz, ent⟩ := dd.raw
  have hl : kvs.length = vs.length := Paired.length rel
  refine call_tupV (P := _) (OK := fun h => h.IsValuesView p a ∧ h.DictRaw a es ep) PySem.KdlSrc.rawValues (J.ok.hd hc) ⟨view, raw⟩ (by omega) fun g tk acc hk hacc => ?_
  have J2 : Inv X pins σ G { t with heap := g, toks := tk } := J.kept hk
  have ev : acc.toList = vs.map (·.2) := by
    refine List.ext_getElem? fun i => ?_
    by_cases lt : i < vs.length
    · have li : i < acc.size := by rw [hacc.1]; omega
      obtain ⟨hi, hv⟩ := hacc.2 i acc[i] (Array.getElem?_eq_getElem li)
      obtain ⟨_, e2⟩ := ent i hi vs[i].1 vs[i].2 (List.getElem?_eq_getElem lt)
      rw [List.getElem?_map, List.getElem?_eq_getElem lt, Array.getElem?_toList, Array.getElem?_eq_getElem li, hv, e2]
      rfl
    · rw [List.getElem?_eq_none (by rw [Array.length_toList, hacc.1]; omega), List.getElem?_eq_none (by rw [List.length_map]; omega)]
  refine ⟨.ref g.objs.size, upd G g.objs.size (.tup (kvs.map (·.2))), J2.laid (t' := tk) (fun b o e => Heap.get?_push_of_some _ e) (Nat.le_refl _) (show ObjOk X.prog X.w _ _ _ (.tup (kvs.map (·.2))) from ⟨by rw [List.length_map]; exact z, acc.toList, by rw [ev]; exact vals_of rel, ?_⟩), rfl, q _ (J2.hok.fresh (Nat.le_refl _))⟩
  rw [Array.toArray_toList]
  exact IsTup.new _ _
end
end LS
set_option maxHeartbeats 8000000
namespace LS
open PySem PySem.Spec PyProof.Rows L2
/-! tuples of names as keys; all answers are different -/
def keyW (ws : List Str) : List L2.Key := ws.map Sum.inr
theorem keyW_kV (ws : List Str) : (keyW ws).map kV = ws.map V.str := by
  unfold keyW
  rw [List.map_map]
  rfl
theorem keyW_inj : ∀ {ws us : List Str}, keyW ws = keyW us → ws = us
  | [], [], _ => rfl
  | [], u :: us, h => by cases h
  | w :: ws, [], h => by cases h
  | w :: ws, u :: us, h => by
    have h1 : (Sum.inr w : L2.Key) = Sum.inr u := (List.cons.inj h).1
    have h2 : keyW ws = keyW us := (List.cons.inj h).2
    rw [Sum.inr.inj h1, keyW_inj h2]
/-- where rows lead -/
def wordsKV (es : List Ent) (ms : List Str) (L : List (List Str)) : List (List L2.Key × V) := L.map fun ws => (keyW ws, .str (wordL es ms ws))
theorem words_val (es : List Ent) (ms : List Str) {ws : List Str} : ∀ {L : List (List Str)}, ws ∈ L → valV (wordsKV es ms L) (keyW ws) = some (.str (wordL es ms ws))
  | [], h => nomatch h
  | u :: L, h => by
    by_cases e : u = ws
    · subst e
      show valV ((keyW u, V.str (wordL es ms u)) :: wordsKV es ms L) (keyW u) = _
      simp [valV]
    · have h2 : ws ∈ L := (List.mem_cons.mp h).elim (fun q => absurd q.symm e) id
      have ih := words_val es ms h2
      have ne : ¬ keyW u = keyW ws := fun q => e (keyW_inj q)
      show valV ((keyW u, V.str (wordL es ms u)) :: wordsKV es ms L) (keyW ws) = _
      rw [← ih]
      simp [valV, ne]
theorem words_none (es : List Ent) (ms : List Str) {ws : List Str} : ∀ {L : List (List Str)}, ws ∉ L → valV (wordsKV es ms L) (keyW ws) = none
  | [], _ => rfl
  | u :: L, h => by
    have ih := words_none es ms (L := L) (ws := ws) fun q => h (List.mem_cons_of_mem _ q)
    have ne : ¬ keyW u = keyW ws := fun q => h (by rw [keyW_inj q]; exact List.mem_cons_self)
    show valV ((keyW u, V.str (wordL es ms u)) :: wordsKV es ms L) (keyW ws) = _
    rw [← ih]
    simp [valV, ne]
theorem words_put (es : List Ent) (ms : List Str) {ws : List Str} {L : List (List Str)} (h : ws ∉ L) : putK (wordsKV es ms L) (keyW ws) (.str (wordL es ms ws)) = wordsKV es ms (L ++ [ws]) := by
  rw [putK_new _ (words_none es ms h)]
  unfold wordsKV
  rw [List.map_append]
  rfl
theorem dictF_vals {ns ws : List Str} (h : ws.length = ns.length) : (dictF ns ws).map (·.2) = ws.map V.str := by
  unfold dictF
  rw [List.map_map, show ((fun q : L2.Key × V => q.2) ∘ fun p : Str × Str => ((Sum.inr p.1 : L2.Key), V.str p.2)) = V.str ∘ Prod.snd from rfl, ← List.map_map, List.map_snd_zip (by omega)]
theorem allF_nodup : ∀ (n : Nat) (zs : List Str), zs.length = n → (allF zs).Nodup
  | 0, zs, h => by
    rw [List.length_eq_zero_iff.mp h]
    decide
  | n + 1, zs, h => by
    obtain ⟨ys, z, rfl⟩ : ∃ ys z, zs = ys ++ [z] := ⟨zs.dropLast, zs.getLast (by intro e; rw [e] at h; cases h), (List.dropLast_concat_getLast _).symm⟩
    have ih := allF_nodup n ys (by rw [List.length_append] at h; simpa using h)
    rw [allF_snoc]
    have go : ∀ L : List (List Str), L.Nodup → (moreF L).Nodup := by
      intro L
      induction L with
      | nil => intro _; exact List.nodup_nil
      | cons a L ih =>
        intro hL
        obtain ⟨h1, h2⟩ := List.nodup_cons.mp hL
        show (resWords.map (fun r => a ++ [r]) ++ moreF L).Nodup
        refine List.nodup_append.mpr ⟨?_, ih h2, ?_⟩
        · refine List.Pairwise.map _ (fun x y hxy e => hxy ?_) (show resWords.Nodup by decide)
          have := List.append_cancel_left e
          simpa using this
        · rintro x hx y hy rfl
          obtain ⟨r, _, rfl⟩ := List.mem_map.mp hx
          obtain ⟨b, hb, hy2⟩ := List.mem_flatMap.mp hy
          obtain ⟨q, _, e⟩ := List.mem_map.mp hy2
          have e1 : b = a := by
            have z := congrArg List.dropLast e
            simpa using z
          exact h1 (e1 ▸ hb)
    exact go _ ih
theorem allF_in : ∀ (n : Nat) (zs ws : List Str), zs.length = n → ws.length = n → (∀ w ∈ ws, w ∈ resWords) → ws ∈ allF zs
  | 0, zs, ws, hz, hw, _ => by
    rw [List.length_eq_zero_iff.mp hz, List.length_eq_zero_iff.mp hw]
    exact List.mem_cons_self
  | n + 1, zs, ws, hz, hw, h => by
    obtain ⟨ys, z, rfl⟩ : ∃ ys z, zs = ys ++ [z] := ⟨zs.dropLast, zs.getLast (by intro e; rw [e] at hz; cases hz), (List.dropLast_concat_getLast _).symm⟩
    obtain ⟨us, u, rfl⟩ : ∃ us u, ws = us ++ [u] := ⟨ws.dropLast, ws.getLast (by intro e; rw [e] at hw; cases hw), (List.dropLast_concat_getLast _).symm⟩
    have ih := allF_in n ys us (by rw [List.length_append] at hz; simpa using hz) (by rw [List.length_append] at hw; simpa using hw) fun w hw => h w (List.mem_append_left _ hw)
    rw [allF_snoc]
    exact List.mem_flatMap.mpr ⟨us, ih, List.mem_map.mpr ⟨u, h u (List.mem_append_right _ List.mem_cons_self), rfl⟩⟩
end LS
namespace LS
open PySem PySem.Spec PyProof.Rows L2
/-! the dict of where all answers lead -/
abbrev sWordsOf : Stmt := top i_words_of
def spWordsOf (K : PySem.W.Frag) (CR CS : Addr) : Sp := fun vs H Q _ => ∃ (sp : Addr) (es : List Ent) (ms : List Str), vs = [.ref sp] ∧ ModAt K CR CS H sp es ms ∧
  ∀ d H', Same H H' → H d = none → H' d = some (.dT (wordsKV es ms (allF ms))) → Q (.ref d) H'
section
variable {P : Program} {w : World} {K : PySem.W.Frag} {mg : Str → Option Value} {base : Heap} {CR CS : Addr}
theorem scWordsOf : FnScope n_words_of ["stack"] (defScope sWordsOf) := ⟨rfl, rfl, rfl, by decide +kernel, rfl, by decide +kernel, by decide +kernel⟩
theorem ok_wordsof {f : Addr} {fd : FuncData} (F : Fun K "words_of" "words_of" sWordsOf f fd) (N : LedK P w K mg base CR CS) (mT : mg "tuple" = none) : FnOk P w K mg base CX0 11 f fd ["stack"] (spWordsOf K CR CS) := by
  refine F.ok scWordsOf (fun vs H Q E h => ?_) (fun cdv A outer s H vs Q E hr h => ?_)
  · obtain ⟨sp, es, ms, rfl, _⟩ := h
    rfl
  · obtain ⟨sp, es, ms, rfl, M, k⟩ := h
    have hu0 : (A.deeper (PyProof.Rows.envOfC "words_of" (defScope sWordsOf) s.heap.objs.size f cdv)).units < cLine := by have := hr.un; omega
    have hs2 := sizeLine_eq
    refine ⟨_, pss_one (ps_ret (pe_dcT (tk := tCB rTupV (tCons (tBM0 K "dict" rVals (tVar 1)) tNil)) (own := [("answers", 1)]) (g := gName 1) hu0 (by rfl) scWordsOf.nd
        (pi_list (pe_call N.Wi.G (hr.mono (by decide)) (by rfl) N.Wi.g N.Wi.kp N.Wi.b .nil pass0 (pa_cons (pe_prop (pv 0) N.T.cl N.PM.pr N.PM.G (hr.mono (by decide)) N.PM.b .nil pass0 rfl) (pa_cons pe_dnewK pa_nil))))
        (blkOk_by (own := [("answers", 1)]) (N := n_words_of) (sc := defScope sWordsOf) (by decide +kernel))
        (fun _ _ _ _ _ => pg_name (i := 1) scWordsOf.nd rfl (Or.inl rfl)) (fun _ _ _ _ _ => pts_nil)
        (fun _ _ _ _ _ => pe_callTy (cr_tupV (by rfl)) (by rfl) mT (by decide +kernel) (pa_cons (pe_bm0 PySem.F.plainAttrs_dict PySem.F.slot_dict_values PySem.F.type_dict_values mt_vals (pv 1)) pa_nil))
        (fun _ _ _ _ _ => pe_call N.Le.G (hr.mono (by decide)) (by rfl) N.Le.g N.Le.kp N.Le.b .nil pass0 (pa_cons (pv 0) (pa_cons (pv 1) pa_nil))))), ?_⟩
    obtain ⟨⟨dx, e, r, m, ms', h1, h2, h3, h4', h5, leg⟩, h6⟩ := id M.e
    refine ⟨_, rfl, sp, dx, _, rfl, h1, sp, es, rfl, M.e, fun t ms2 ht hms => ?_⟩
    obtain rfl := mods_same hms M.mods
    refine fun d nd => ?_
    have S1 : Same H (upd H d (.dK [])) := same_upd nd (Same.refl H)
    have e1 : upd H d (.dK []) d = some (.dK []) := upd_same
    generalize upd H d (.dK []) = H1 at *
    refine ⟨t, d, ms2, [], rfl, same_tup S1 ht, hms.1, M.few, .inl e1, fun z _ => .inl rfl, fun p xs H2 S2 np hp hx => ?_⟩
    rw [withF_nil] at hx
    have S12 := S1.trans S2
    have al := rows_len hx
    have h4n : (allF ms2).length ≤ 4 ^ 6 := by
      rw [← withF_nil]
      exact Nat.le_trans (withF_len [] ms2) (Nat.pow_le_pow_right (by decide) M.few)
    have h46 : 4 ^ 6 = 4096 := rfl
    refine ⟨p, rfl, ⟨_, SqL.of hp⟩, fun D nD => ?_⟩
    have nd' := allF_nodup _ ms2 rfl
    refine dcT_walk (walk_list (xs := xs)) (fun i G => Same H2 G ∧ G D = some (.dT (wordsKV es ms2 ((allF ms2).take i)))) ⟨same_upd nD (Same.refl H2), upd_same⟩ (fun i G _ q => SqL.of (q.1 _ _ hp)) ?_ ?_
    · rintro i v G0 G hi ⟨S3, hD⟩ ⟨rfl, hvi⟩
      obtain ⟨ws, a, hwi, rfl, ha⟩ := rows_get (rows_same S3 hx) hvi
      have hw : ws ∈ allF ms2 := List.mem_of_getElem? hwi
      have S13 := S12.trans S3
      have tk : (allF ms2).take (i + 1) = (allF ms2).take i ++ [ws] := by rw [List.take_add_one, hwi]; rfl
      have hwn : ws ∉ (allF ms2).take i := fun q => by
        have n2 := nd'.sublist (List.take_sublist (i + 1) (allF ms2))
        rw [tk] at n2
        exact (List.nodup_append.mp n2).2.2 ws q ws List.mem_cons_self rfl
      refine ⟨rfl, yes_of ?_⟩
      refine ⟨_, rfl, .inr (.inr (.inl ⟨rfl, .inl ⟨_, ha⟩⟩)), a, _, rfl, rfl, .inl ha, fun p2 np2 => ?_⟩
      have S4 : Same G (upd G p2 (valuesO p2 a)) := same_upd np2 (Same.refl G)
      have e4 : upd G p2 (valuesO p2 a) p2 = some (valuesO p2 a) := upd_same
      generalize upd G p2 (valuesO p2 a) = G1 at *
      refine ⟨p2, a, _, rfl, e4, .inl (S4 _ _ ha), fun l nl => ?_⟩
      have S5 : Same G1 (upd G1 l (.tup ((dictF ms2 ws).map (·.2)))) := same_upd nl (Same.refl G1)
      have e5 : upd G1 l (.tup ((dictF ms2 ws).map (·.2))) l = some (.tup ((dictF ms2 ws).map (·.2))) := upd_same
      generalize upd G1 l (.tup ((dictF ms2 ws).map (·.2))) = G2 at *
      rw [dictF_vals (allF_words ws hw).1] at e5
      have S45 := S4.trans S5
      refine ⟨_, rfl, _, rfl, sp, a, es, tlOf ms2 ws, rfl, (M.same (S13.trans S45)).ask (S45 _ _ ha) hw, fun G3 S6 => ?_⟩
      have S46 := S45.trans S6
      refine ⟨_, keyW ws, l, rfl, by rw [keyW_kV]; exact S6 _ _ e5, S46 _ _ hD, ?_, ?_, ?_⟩
      · unfold wordsKV
        rw [List.length_map, List.length_take]
        omega
      · exact same_upd nD (S3.trans S46)
      · rw [show V.str (inOut (runs (tlOf ms2 ws) es).1) = V.str (wordL es ms2 ws) from rfl, words_put es ms2 hwn, ← tk]
        exact upd_same
    · rintro G ⟨S3, hD⟩
      rw [al, List.take_length] at hD
      exact k D G (S12.trans S3) ((S12.free nD)) hD
end
end LS
namespace LS
open PySem PySem.Spec PyProof.Rows L2
/-! ### where answers lead, as a function of what the names tell -/
theorem goEs_congr {tl tm : Str → Nat} : ∀ (es : List Ent) (b : Mrk) (k : Nat) (num : Int) (st : Mrk) (ns : List Int), (∀ r ∈ rulesEs es, tl r.2.1 = tm r.2.1) → goEs tl es b k num st ns = goEs tm es b k num st ns := by
  intro es b k num st ns
  induction es, b, k, num, st, ns using goEs.induct (tl := tl)
  · intro _
    rw [goEs, goEs]
  · rename_i p fs es b num st ns ih1 ih2
    intro h
    have h1 : ∀ r ∈ rulesEs fs, tl r.2.1 = tm r.2.1 := fun r hr => h r (List.mem_append_left _ hr)
    have h2 : ∀ r ∈ rulesEs es, tl r.2.1 = tm r.2.1 := fun r hr => h r (List.mem_append_right _ hr)
    rw [goEs, ih2 h2, ih1 h1]
    conv => rhs; rw [goEs]
  · rename_i p fs es b k num st ns ih
    intro h
    have h2 : ∀ r ∈ rulesEs es, tl r.2.1 = tm r.2.1 := fun r hr => h r (List.mem_append_right _ hr)
    rw [goEs, ih h2]
    conv => rhs; rw [goEs]
  · rename_i p z ds es b num st ns hE
    intro h
    have e : tl z = tm z := h (p, z, ds) (List.mem_append_left _ (List.mem_singleton.mpr rfl))
    have ea : actAt tl z ds = actAt tm z ds := by unfold actAt; rw [e]
    rw [goEs, if_pos hE]
    rw [ea] at hE
    conv => rhs; rw [goEs, if_pos hE]
    rw [ea]
  · rename_i p z ds es b num st ns hE ih
    intro h
    have e : tl z = tm z := h (p, z, ds) (List.mem_append_left _ (List.mem_singleton.mpr rfl))
    have h2 : ∀ r ∈ rulesEs es, tl r.2.1 = tm r.2.1 := fun r hr => h r (List.mem_append_right _ hr)
    have ea : actAt tl z ds = actAt tm z ds := by unfold actAt; rw [e]
    rw [goEs, if_neg hE, ih h2]
    rw [ea] at hE ⊢
    conv => rhs; rw [goEs, if_neg hE]
  · rename_i p z ds es b k num st ns ih
    intro h
    have h2 : ∀ r ∈ rulesEs es, tl r.2.1 = tm r.2.1 := fun r hr => h r (List.mem_append_right _ hr)
    rw [goEs, ih h2]
    conv => rhs; rw [goEs]
/-- where the answers that names tell lead -/
def wd (es : List Ent) (f : Str → Str) : Str := inOut (runs (fun z => idxS (f z) resWords) es).1
theorem wordL_wd (es : List Ent) (zs ws : List Str) : wordL es zs ws = wd es (wordOf zs ws) := rfl
theorem wd_congr {es : List Ent} {ms : List Str} (hm : ModsOf ms (rulesEs es)) {f g : Str → Str} (h : ∀ z ∈ ms, f z = g z) : wd es f = wd es g := by
  unfold wd runs
  rw [goEs_congr (tl := fun z => idxS (f z) resWords) (tm := fun z => idxS (g z) resWords) es _ _ _ _ _ fun r hr => congrArg (fun x => idxS x resWords) (h r.2.1 ((hm.2.2 _).mpr (List.mem_map.mpr ⟨r, hr, rfl⟩)))]
theorem wd_two (es : List Ent) (f : Str → Str) : wd es f = "in" ∨ wd es f = "out" := by
  unfold wd inOut
  split
  · exact .inl rfl
  · exact .inr rfl
theorem idxS_map {f : Str → Str} : ∀ {zs : List Str} {z : Str}, z ∈ zs → (zs.map f).getD (idxS z zs) "" = f z
  | y :: zs, z, h => by
    unfold idxS
    by_cases e : y = z
    · rw [if_pos e, e]
      rfl
    · rw [if_neg e]
      show ((f y :: zs.map f).getD (idxS z zs + 1) "") = f z
      rw [List.getD_cons_succ]
      exact idxS_map ((List.mem_cons.mp h).resolve_left fun q => e q.symm)
theorem wordOf_map {f : Str → Str} {zs : List Str} {z : Str} (h : z ∈ zs) : wordOf zs (zs.map f) z = f z := idxS_map h
theorem map_wordOf : ∀ {zs ws : List Str}, zs.Nodup → ws.length = zs.length → zs.map (wordOf zs ws) = ws
  | [], [], _, _ => rfl
  | [], _ :: _, _, h => nomatch h
  | _ :: _, [], _, h => nomatch h
  | y :: zs, w :: ws, hn, h => by
    obtain ⟨n1, n2⟩ := List.nodup_cons.mp hn
    rw [List.map_cons]
    have e1 : wordOf (y :: zs) (w :: ws) y = w := by
      unfold wordOf idxS
      rw [if_pos rfl]
      rfl
    have e2 : zs.map (wordOf (y :: zs) (w :: ws)) = zs.map (wordOf zs ws) := List.map_congr_left fun z hz => by
      unfold wordOf
      have ne : ¬ y = z := fun e => n1 (by rw [e]; exact hz)
      rw [show idxS z (y :: zs) = idxS z zs + 1 from if_neg ne]
      rfl
    rw [e1, e2, map_wordOf n2 (by simpa using h)]
/-- answers within what is known -/
def Fits (kd : List (Key × V)) (ms : List Str) (f : Str → Str) : Prop := ∀ z ∈ ms, f z ∈ optF kd z
theorem withF_in {kd : List (Key × V)} {f : Str → Str} : ∀ n (zs : List Str), zs.length = n → Fits kd zs f → zs.map f ∈ withF kd zs := by
  intro n
  induction n with
  | zero =>
    intro zs h _
    rw [List.length_eq_zero_iff.mp h]
    exact List.mem_singleton.mpr rfl
  | succ n ih =>
    intro zs h hf
    have hne : zs ≠ [] := fun z => by rw [z] at h; cases h
    have e := (List.dropLast_concat_getLast hne).symm
    have q := ih zs.dropLast (by rw [List.length_dropLast, h]; rfl) fun z hz => hf z (List.dropLast_subset zs hz)
    have hl := hf _ (List.getLast_mem hne)
    generalize zs.getLast hne = z at *
    generalize zs.dropLast = ys at *
    rw [e, withF_snoc, List.map_append]
    exact List.mem_flatMap.mpr ⟨_, q, List.mem_map.mpr ⟨f z, hl, rfl⟩⟩
theorem withF_fits {kd : List (Key × V)} : ∀ n (zs ws : List Str), zs.length = n → ws ∈ withF kd zs → ∀ (i : Nat) (z w : Str), zs[i]? = some z → ws[i]? = some w → w ∈ optF kd z := by
  intro n
  induction n with
  | zero =>
    intro zs ws h hw i z w hz
    rw [List.length_eq_zero_iff.mp h] at hz
    cases hz
  | succ n ih =>
    intro zs ws h hw i z w hz hwi
    have hne : zs ≠ [] := fun z => by rw [z] at h; cases h
    have e := (List.dropLast_concat_getLast hne).symm
    have hl : zs.dropLast.length = n := by rw [List.length_dropLast, h]; rfl
    generalize zs.getLast hne = y at *
    generalize zs.dropLast = ys at *
    rw [e, withF_snoc] at hw
    obtain ⟨u, hu, hr⟩ := List.mem_flatMap.mp hw
    obtain ⟨r, hr2, rfl⟩ := List.mem_map.mp hr
    have ul := withF_mem kd ys u hu
    rw [e] at hz
    rcases Nat.lt_or_ge i ys.length with q | q
    · rw [List.getElem?_append_left q] at hz
      rw [List.getElem?_append_left (by omega)] at hwi
      exact ih ys u hl hu i z w hz hwi
    · rw [List.getElem?_append_right q] at hz
      rw [List.getElem?_append_right (by omega), ul] at hwi
      cases hi : i - ys.length with
      | zero =>
        rw [hi] at hz hwi
        cases hz
        cases hwi
        exact hr2
      | succ j =>
        rw [hi] at hz
        cases hz
theorem withF_wordOf {kd : List (Key × V)} {zs ws : List Str} (hw : ws ∈ withF kd zs) : Fits kd zs (wordOf zs ws) := fun z hz => by
  have wl := withF_mem kd zs ws hw
  have hi := (List.getElem?_eq_some_iff.mp (idxS_at hz)).1
  refine withF_fits _ zs ws rfl hw (idxS z zs) z _ (idxS_at hz) ?_
  unfold wordOf
  rw [List.getD_eq_getElem?_getD, List.getElem?_eq_getElem (by omega)]
  rfl
/-- the words that fit lead so -/
theorem with_words {kd : List (Key × V)} {es : List Ent} {ms : List Str} (hm : ModsOf ms (rulesEs es)) (x : Str) : x ∈ (withF kd ms).map (wordL es ms) ↔ ∃ f, Fits kd ms f ∧ wd es f = x := by
  constructor
  · intro h
    obtain ⟨ws, hw, rfl⟩ := List.mem_map.mp h
    exact ⟨wordOf ms ws, withF_wordOf hw, rfl⟩
  · rintro ⟨f, hf, rfl⟩
    refine List.mem_map.mpr ⟨ms.map f, withF_in _ ms rfl hf, ?_⟩
    rw [wordL_wd]
    exact wd_congr hm fun z hz => wordOf_map hz
/-- known words are results -/
def KdOk (kd : List (Key × V)) (ms : List Str) : Prop := ∀ z ∈ ms, valV kd (.inr z) = none ∨ ∃ w ∈ resWords, valV kd (.inr z) = some (.str w)
theorem opt_res {kd : List (Key × V)} {ms : List Str} (h : KdOk kd ms) {z : Str} (hz : z ∈ ms) : ∀ w ∈ optF kd z, w ∈ resWords := fun w hw => by
  rcases h z hz with q | ⟨u, hu, q⟩
  · unfold optF at hw
    rw [q] at hw
    exact hw
  · unfold optF at hw
    rw [q] at hw
    rw [List.mem_singleton.mp hw]
    exact hu
theorem opt_some {kd : List (Key × V)} {ms : List Str} (h : KdOk kd ms) {z : Str} (hz : z ∈ ms) : ∃ w, w ∈ optF kd z := by
  rcases h z hz with q | ⟨u, hu, q⟩
  · refine ⟨"yes", ?_⟩
    unfold optF
    rw [q]
    exact List.mem_cons_self
  · refine ⟨u, ?_⟩
    unfold optF
    rw [q]
    exact List.mem_singleton.mpr rfl
theorem with_all {kd : List (Key × V)} {ms : List Str} (hn : ms.Nodup) (h : KdOk kd ms) {ws : List Str} (hw : ws ∈ withF kd ms) : ws ∈ allF ms := by
  rw [← withF_nil, ← map_wordOf hn (withF_mem kd ms ws hw)]
  refine withF_in _ ms rfl fun z hz => ?_
  show wordOf ms ws z ∈ resWords
  exact opt_res h hz _ (withF_wordOf hw z hz)
/-- some answers fit -/
theorem fits_some {kd : List (Key × V)} {ms : List Str} (h : KdOk kd ms) : ∃ f, Fits kd ms f := by
  refine ⟨fun z => (optF kd z).headD "", fun z hz => ?_⟩
  obtain ⟨w, hw⟩ := opt_some h hz
  cases q : optF kd z with
  | nil => rw [q] at hw; cases hw
  | cons a l =>
    show (optF kd z).headD "" ∈ a :: l
    rw [q]
    exact List.mem_cons_self
/-- the word that all lead to, or open -/
def settW (L : List Str) : V := match L with
  | [] => .non
  | w :: r => if r.all (fun u => decide (u = w)) = true then .str w else .str "open"
theorem settW_one {L : List Str} {w : Str} (h : w ∈ L) (ha : ∀ u ∈ L, u = w) : settW L = .str w := by
  cases L with
  | nil => cases h
  | cons a l =>
    have e : a = w := ha a List.mem_cons_self
    subst e
    show (if _ then _ else _) = _
    rw [if_pos (List.all_eq_true.mpr fun u hu => decide_eq_true (ha u (List.mem_cons_of_mem _ hu)))]
theorem settW_two {L : List Str} {u v : Str} (hu : u ∈ L) (hv : v ∈ L) (hne : u ≠ v) : settW L = .str "open" := by
  cases L with
  | nil => cases hu
  | cons a l =>
    show (if _ then _ else _) = _
    refine if_neg fun h => hne ?_
    have all : ∀ x ∈ a :: l, x = a := fun x hx => by
      rcases List.mem_cons.mp hx with e | e
      · exact e
      · exact of_decide_eq_true (List.all_eq_true.mp h x e)
    rw [all u hu, all v hv]
end LS
set_option maxHeartbeats 4000000
/-! dicts whose keys are nested tuples of numbers, texts and None -/
namespace LS
open PySem PySem.Spec PyProof.Rows L2
mutual
/-- a value is a key -/
def NkAt (K : PySem.W.Frag) (H : Hp) : NestedKey → V → Prop
  | .none, v => v = .non
  | .num i, v => v = .int i
  | .text x, v => v = .str x
  | .tup ks, v => ∃ a vs, v = .ref a ∧ SqT K H a vs ∧ NksAt K H ks vs
def NksAt (K : PySem.W.Frag) (H : Hp) : List NestedKey → List V → Prop
  | [], vs => vs = []
  | k :: ks, vs => ∃ v r, vs = v :: r ∧ NkAt K H k v ∧ NksAt K H ks r
end
mutual
theorem nk_same {K : PySem.W.Frag} {H H' : Hp} (S : Same H H') : ∀ (k : NestedKey) (v : V), NkAt K H k v → NkAt K H' k v
  | .none, _, h => h
  | .num _, _, h => h
  | .text _, _, h => h
  | .tup ks, _, ⟨a, vs, e, h1, h2⟩ => ⟨a, vs, e, same_tup S h1, nks_same S ks vs h2⟩
theorem nks_same {K : PySem.W.Frag} {H H' : Hp} (S : Same H H') : ∀ (ks : List NestedKey) (vs : List V), NksAt K H ks vs → NksAt K H' ks vs
  | [], _, h => h
  | k :: ks, _, ⟨v, r, e, h1, h2⟩ => ⟨v, r, e, nk_same S k v h1, nks_same S ks r h2⟩
end
/-- all but some objects are kept, and those are no tuples -/
def KeepT (H H' : Hp) : Prop := ∀ b, (∀ xs, H b = some (.tup xs) → H' b = some (.tup xs)) ∧ ∀ o xs, H b = some (.frz o (.tup xs)) → H' b = some (.frz o (.tup xs))
theorem KeepT.of {H H' : Hp} (S : Same H H') : KeepT H H' := fun b => ⟨fun xs h => S _ _ h, fun o xs h => S _ _ h⟩
theorem KeepT.trans {H H' H'' : Hp} (S : KeepT H H') (T : KeepT H' H'') : KeepT H H'' := fun b => ⟨fun xs h => (T b).1 xs ((S b).1 xs h), fun o xs h => (T b).2 o xs ((S b).2 o xs h)⟩
theorem KeepT.upd {H : Hp} {a : Addr} {o u : HO} (h : H a = some o) (n1 : ∀ xs, o ≠ .tup xs) (n2 : ∀ z xs, o ≠ .frz z (.tup xs)) : KeepT H (L2.upd H a u) := fun b =>
  ⟨fun xs q => by rw [upd_ne (fun e => by rw [e, h] at q; exact n1 xs (Option.some.inj q))]; exact q, fun z xs q => by rw [upd_ne (fun e => by rw [e, h] at q; exact n2 z xs (Option.some.inj q))]; exact q⟩
theorem KeepT.tup {K : PySem.W.Frag} {H H' : Hp} (S : KeepT H H') {a : Addr} {xs : List V} (h : SqT K H a xs) : SqT K H' a xs := by
  rcases h with (h | ⟨o, h⟩) | h
  · exact .inl (.inl ((S a).1 _ h))
  · exact .inl (.inr ⟨o, (S a).2 _ _ h⟩)
  · exact .inr h
mutual
theorem nk_keep {K : PySem.W.Frag} {H H' : Hp} (S : KeepT H H') : ∀ (k : NestedKey) (v : V), NkAt K H k v → NkAt K H' k v
  | .none, _, h => h
  | .num _, _, h => h
  | .text _, _, h => h
  | .tup ks, _, ⟨a, vs, e, h1, h2⟩ => ⟨a, vs, e, S.tup h1, nks_keep S ks vs h2⟩
theorem nks_keep {K : PySem.W.Frag} {H H' : Hp} (S : KeepT H H') : ∀ (ks : List NestedKey) (vs : List V), NksAt K H ks vs → NksAt K H' ks vs
  | [], _, h => h
  | k :: ks, _, ⟨v, r, e, h1, h2⟩ => ⟨v, r, e, nk_keep S k v h1, nks_keep S ks r h2⟩
end
section
variable {X : Cx} {pins : List (Addr × Obj)} {σ : L2.St} {H : Hp} {s : Shared}
mutual
theorem nk_is (I : L2.Inv X pins σ H s) : ∀ (k : NestedKey) (v : V) (u : Value), NkAt X.K H k v → RelV v u → NestedIs s.heap k u
  | .none, v, u, h, r => by
    have h : v = .non := h
    subst h
    have r : u = Value.none := r
    subst r
    exact .none
  | .num i, v, u, h, r => by
    have h : v = .int i := h
    subst h
    obtain ⟨t, rfl⟩ := r
    exact .int i t
  | .text x, v, u, h, r => by
    have h : v = .str x := h
    subst h
    obtain ⟨t, rfl⟩ := r
    exact .text x t
  | .tup ks, v, u, h, r => by
    obtain ⟨a, vs, rfl, h1, h2⟩ := h
    obtain rfl : u = Value.ref a := r
    obtain ⟨its, rv, ⟨o, g, c, n, d⟩, _⟩ := I.tuple h1
    exact .tup g c d (nks_is I ks vs its h2 rv)
theorem nks_is (I : L2.Inv X pins σ H s) : ∀ (ks : List NestedKey) (vs : List V) (us : List Value), NksAt X.K H ks vs → Vals vs us → NestedAll s.heap ks us
  | [], vs, us, h, r => by
    have h : vs = [] := h
    subst h
    cases r
    exact .nil
  | k :: ks, vs, us, h, r => by
    obtain ⟨v, rs, rfl, h1, h2⟩ := h
    cases r with
    | cons a b => exact .cons (nk_is I k v _ h1 a) (nks_is I ks rs _ h2 b)
end
end
/-- a dict's object, by its entries -/
def rawO (a : Addr) (es : List DictEntry) : HO := .ext fun h => ∃ o ea ep, h.get? a = some o ∧ o.ExactDict ∧ o.data = .dict ea ep ∧ ea.toList = es
theorem rawO_ok {P : Program} {w : World} {H : Hp} {h : Heap} {a : Addr} {es : List DictEntry} {o : Obj} {ea : Array DictEntry} {ep : Nat} (g : h.get? a = some o) (x : o.ExactDict) (d : o.data = .dict ea ep) (e : ea.toList = es) : ObjOk P w H h a (rawO a es) :=
  ⟨⟨o, ea, ep, g, x, d, e⟩, ⟨o, g⟩, fun h1 h2 p k => by
    obtain ⟨o, ea, ep, g, x, d, e⟩ := p
    exact ⟨o, ea, ep, k o g, x, d, e⟩⟩
abbrev XE : Type := NestedKey × Addr × Value
def EntN (K : PySem.W.Frag) (H : Hp) (p : NestedKey × V) (q : XE) : Prop := p.1 = q.1 ∧ NkAt K H q.1 (.ref q.2.1) ∧ q.1.depth ≤ 8 ∧ RelV p.2 q.2.2
/-- at a stands a dict with these keys and values -/
def DN (P : Program) (w : World) (K : PySem.W.Frag) (H : Hp) (a : Addr) (kvs : List (NestedKey × V)) : Prop :=
  ∃ xs : List XE, H a = some (rawO a (xs.map (entryOfKey (nestedKind P w)))) ∧ Paired (EntN K H) kvs xs ∧ (kvs.map (·.1)).Nodup ∧ kvs.length ≤ sizeLine ∧ (a == sysModules) = false
theorem DN.nodup {P : Program} {w : World} {K : PySem.W.Frag} {H : Hp} {a : Addr} {kvs : List (NestedKey × V)} (d : DN P w K H a kvs) : (kvs.map (·.1)).Nodup := by
  obtain ⟨_, _, _, n, _⟩ := d
  exact n
theorem DN.obj {P : Program} {w : World} {K : PySem.W.Frag} {H : Hp} {a : Addr} {kvs : List (NestedKey × V)} (d : DN P w K H a kvs) : ∃ es, H a = some (rawO a es) := by
  obtain ⟨_, h, _⟩ := d
  exact ⟨_, h⟩
theorem DN.keep {P : Program} {w : World} {K : PySem.W.Frag} {H H' : Hp} {a : Addr} {kvs : List (NestedKey × V)} (d : DN P w K H a kvs) (S : KeepT H H') (e : H' a = H a) : DN P w K H' a kvs := by
  obtain ⟨xs, h, p, n, l, m⟩ := d
  exact ⟨xs, e.trans h, Paired.mapP p fun p q z => ⟨z.1, nk_keep S _ _ z.2.1, z.2.2⟩, n, l, m⟩
theorem DN.same {P : Program} {w : World} {K : PySem.W.Frag} {H H' : Hp} {a : Addr} {kvs : List (NestedKey × V)} (d : DN P w K H a kvs) (S : Same H H') : DN P w K H' a kvs := by
  obtain ⟨es, h⟩ := d.obj
  exact d.keep (KeepT.of S) ((S _ _ h).trans h.symm)
theorem entN_keys {K : PySem.W.Frag} {H : Hp} : ∀ {kvs : List (NestedKey × V)} {xs : List XE}, Paired (EntN K H) kvs xs → xs.map (·.1) = kvs.map (·.1)
  | _, _, .nil => rfl
  | _, _, .cons h t => by rw [List.map_cons, List.map_cons, h.1, entN_keys t]
theorem entN_val {K : PySem.W.Frag} {H : Hp} (k : NestedKey) : ∀ {kvs : List (NestedKey × V)} {xs : List XE}, Paired (EntN K H) kvs xs → RelO (valV kvs k) ((atKey xs k).map (·.2))
  | _, _, .nil => True.intro
  | p :: ps, q :: qs, .cons h t => by
    obtain ⟨h1, _, _, h2⟩ := h
    by_cases e : p.1 = k
    · have e' : q.1 = k := h1.symm.trans e
      have b : atKey (q :: qs) k = some q.2 := by simp [atKey, List.find?_cons, e']
      rw [valV_pos e, b]; exact h2
    · have e' : ¬ q.1 = k := fun z => e (h1.trans z)
      have b : atKey (q :: qs) k = atKey qs k := by simp [atKey, List.find?_cons, e']
      rw [valV_neg e, b]; exact entN_val k t
theorem entN_repl {K : PySem.W.Frag} {H : Hp} (k : NestedKey) {y : V} {u : Value} (ry : RelV y u) : ∀ {kvs : List (NestedKey × V)} {xs : List XE}, Paired (EntN K H) kvs xs → Paired (EntN K H) (kvs.map fun kv => if kv.1 = k then (kv.1, y) else kv) (xs.map (putAt k u))
  | _, _, .nil => .nil
  | p :: ps, q :: qs, .cons h t => by
    rw [List.map_cons, List.map_cons]
    refine .cons ?_ (entN_repl k ry t)
    obtain ⟨h1, h2, h3, h4⟩ := h
    unfold putAt
    by_cases e : p.1 = k
    · rw [if_pos e, if_pos (h1.symm.trans e)]; exact ⟨h1, h2, h3, ry⟩
    · rw [if_neg e, if_neg (fun z => e (h1.trans z))]; exact ⟨h1, h2, h3, h4⟩
theorem entN_put {K : PySem.W.Frag} {H : Hp} {k : NestedKey} {b : Addr} {y : V} {u : Value} (hb : NkAt K H k (.ref b)) (hd : k.depth ≤ 8) (ry : RelV y u) {kvs : List (NestedKey × V)} {xs : List XE} (r : Paired (EntN K H) kvs xs) : Paired (EntN K H) (putK kvs k y) (storedH xs k b u) := by
  have e : (kvs.any fun kv => decide (kv.1 = k)) = (atKey xs k).isSome := by
    rw [valV_any, (entN_val k r).isSome_eq, Option.isSome_map]
  unfold putK storedH
  rw [e]
  by_cases q : (atKey xs k).isSome = true
  · rw [if_pos q, if_pos q]; exact entN_repl k ry r
  · rw [if_neg q, if_neg q]; exact Paired.snoc r ⟨rfl, hb, hd, ry⟩
section
variable {X : Cx} {pins : List (Addr × Obj)} {σ : L2.St} {H : Hp} {s : Shared} {a b : Addr} {kvs : List (NestedKey × V)} {k : NestedKey}
theorem room_n {A : Around} (hu : A.units + 9 < cLine) : (nestedKind X.prog X.w).room A.in1 := by
  show A.in1.units + 8 < cLine
  show A.units + 1 + 8 < cLine
  omega
theorem DN.at (I : L2.Inv X pins σ H s) (d : DN X.prog X.w X.K H a kvs) : ∃ xs : List XE, s.heap.DictOfH (nestedKind X.prog X.w) a xs ∧ Paired (EntN X.K H) kvs xs ∧ xs.length ≤ sizeLine ∧ (a == sysModules) = false := by
  obtain ⟨xs, h, p, n, l, m⟩ := d
  obtain ⟨⟨o, ea, ep, g, x, dt, e⟩, _, _⟩ := I.hok a _ h
  refine ⟨xs, ⟨o, ea, ep, g, x, dt, e, fun y hy => ?_, ?_⟩, p, by rw [← Paired.length p]; exact l, m⟩
  · have : ∀ {kvs : List (NestedKey × V)} {xs : List XE}, Paired (EntN X.K H) kvs xs → ∀ y ∈ xs, NkAt X.K H y.1 (.ref y.2.1) ∧ y.1.depth ≤ 8 := fun {kvs xs} p => by
      induction p with
      | nil => exact fun y hy => nomatch hy
      | cons h t ih =>
        intro y hy
        rcases List.mem_cons.mp hy with rfl | hy
        · exact ⟨h.2.1, h.2.2.1⟩
        · exact ih y hy
    obtain ⟨q1, q2⟩ := this p y hy
    exact ⟨nk_is I y.1 (.ref y.2.1) (.ref y.2.1) q1 rfl, q2⟩
  · rw [entN_keys p]
    exact n
theorem key_n (I : L2.Inv X pins σ H s) (hk : NkAt X.K H k (.ref b)) (hd : k.depth ≤ 8) : (nestedKind X.prog X.w).is s.heap k b := ⟨nk_is I k (.ref b) (.ref b) hk rfl, hd⟩
/-- d[k] -/
theorem n_getItem {A : Around} {E : Value → Shared → Prop} {v : V} {Q : Value → Shared → Prop} (hu : A.units + 9 < cLine) (I : L2.Inv X pins σ H s) (d : DN X.prog X.w X.K H a kvs) (hk : NkAt X.K H k (.ref b)) (hd : k.depth ≤ 8) (hv : valV kvs k = some v)
    (h : ∀ u s', RelV v u → L2.Inv X pins σ H s' → Q u s') : wpAny (model X.prog X.w) A (getItem (.ref a) (.ref b)) Q E s := by
  obtain ⟨xs, dd, p, l, m⟩ := d.at I
  have q := entN_val k p
  rw [hv] at q
  cases e : atKey xs k with
  | none => rw [e] at q; exact q.elim
  | some z =>
    rw [e] at q
    exact wpAny_getItem_heap (room_n hu) (key_n I hk hd) dd e (h z.2 _ q (I.tok _))
/-- k in d -/
theorem n_in {A : Around} {E : Value → Shared → Prop} {Q : Value → Shared → Prop} (hu : A.units + 9 < cLine) (I : L2.Inv X pins σ H s) (d : DN X.prog X.w X.K H a kvs) (hk : NkAt X.K H k (.ref b)) (hd : k.depth ≤ 8)
    (h : ∀ s', L2.Inv X pins σ H s' → Q (.bool (valV kvs k).isSome) s') : wpAny (model X.prog X.w) A (compareOp .In (.ref b) (.ref a)) Q E s := by
  obtain ⟨xs, dd, p, l, m⟩ := d.at I
  refine wpAny_in_heap (room_n hu) (key_n I hk hd) m dd ?_
  have q := (entN_val k p).isSome_eq
  rw [Option.isSome_map] at q
  rw [← q]
  exact h _ (I.tok _)
theorem n_notIn {A : Around} {E : Value → Shared → Prop} {Q : Value → Shared → Prop} (hu : A.units + 9 < cLine) (I : L2.Inv X pins σ H s) (d : DN X.prog X.w X.K H a kvs) (hk : NkAt X.K H k (.ref b)) (hd : k.depth ≤ 8)
    (h : ∀ s', L2.Inv X pins σ H s' → Q (.bool (!(valV kvs k).isSome)) s') : wpAny (model X.prog X.w) A (compareOp .NotIn (.ref b) (.ref a)) Q E s := by
  obtain ⟨xs, dd, p, l, m⟩ := d.at I
  show wpAny _ _ (do return .bool (!(← contains (.ref a) (.ref b)))) Q E s
  refine wpAny_bind (wpAny_contains_heap (room_n hu) (key_n I hk hd) m dd (wpAny_pure ?_))
  have q := (entN_val k p).isSome_eq
  rw [Option.isSome_map] at q
  rw [← q]
  exact h _ (I.tok _)
/-- d[k] = v -/
theorem n_setItem {A : Around} {E : Value → Shared → Prop} {v : V} {u : Value} {Q : Unit → Shared → Prop} (hu : A.units + 9 < cLine) (I : L2.Inv X pins σ H s) (d : DN X.prog X.w X.K H a kvs) (hk : NkAt X.K H k (.ref b)) (hd : k.depth ≤ 8) (rv : RelV v u) (hl : kvs.length < sizeLine)
    (h : ∀ H' s', (∀ c, c ≠ a → H' c = H c) → DN X.prog X.w X.K H' a (putK kvs k v) → L2.Inv X pins σ H' s' → Q () s') : wpAny (model X.prog X.w) A (setItem (.ref a) (.ref b) u) Q E s := by
  obtain ⟨es0, h0⟩ := d.obj
  obtain ⟨xs, dd, p, l, m⟩ := d.at I
  refine wpAny_setItem_heap (hsz := l) (room_n hu) (key_n I hk hd) dd fun h' dd' hs => ?_
  obtain ⟨o, ea, ep, g, x, dt, e, his, nd⟩ := dd'
  have mu : Mut (H a) := by rw [h0]; exact True.intro
  have I' : L2.Inv X pins σ (upd H a (rawO a ((storedH xs k b u).map (entryOfKey (nestedKind X.prog X.w))))) { s with heap := h', toks := s.toks + (nestedKind X.prog X.w).draws k } :=
    I.write (x := a) (e := a) mu (.inl rfl) (fun c q hc z => (hs.2 c hc).trans z) ⟨o, g⟩ (rawO_ok g x dt e)
  have KT : KeepT H (upd H a (rawO a ((storedH xs k b u).map (entryOfKey (nestedKind X.prog X.w))))) := KeepT.upd h0 (fun _ z => nomatch z) (fun _ _ z => nomatch z)
  have p' := Paired.mapP (entN_put hk hd rv p) fun p q (z : EntN X.K H p q) => (⟨z.1, nk_keep KT _ _ z.2.1, z.2.2⟩ : EntN X.K (upd H a (rawO a ((storedH xs k b u).map (entryOfKey (nestedKind X.prog X.w))))) p q)
  refine h _ _ (fun c hc => upd_ne hc) ⟨_, upd_same, p', ?_, ?_, m⟩ I'
  · rw [← entN_keys p']
    exact nd
  · have := length_putK kvs k v
    omega
end
/-! ### as rules -/
def tNGet (X : Cx) (td ty : TE) : TE := fun σ H Q => td σ H fun x H1 => ty σ H1 fun y H2 => ∃ a b kvs k v, x = .ref a ∧ y = .ref b ∧ DN X.prog X.w X.K H2 a kvs ∧ NkAt X.K H2 k (.ref b) ∧ k.depth ≤ 8 ∧ valV kvs k = some v ∧ Q v H2
def tNIn (X : Cx) (neg : Bool) (ty td : TE) : TE := fun σ H Q => ty σ H fun y H1 => td σ H1 fun x H2 => ∃ a b kvs k, x = .ref a ∧ y = .ref b ∧ DN X.prog X.w X.K H2 a kvs ∧ NkAt X.K H2 k (.ref b) ∧ k.depth ≤ 8 ∧ Q (.bl (if neg = true then !(valV kvs k).isSome else (valV kvs k).isSome)) H2
def sNPut (X : Cx) (td ty tv : TE) : TS := fun D σ H => tv σ H fun v H1 => td σ H1 fun x H2 => ty σ H2 fun y H3 => ∃ a b kvs k, x = .ref a ∧ y = .ref b ∧ DN X.prog X.w X.K H3 a kvs ∧ NkAt X.K H3 k (.ref b) ∧ k.depth ≤ 8 ∧ kvs.length < sizeLine ∧
  ∀ H4, (∀ c, c ≠ a → H4 c = H3 c) → DN X.prog X.w X.K H4 a (putK kvs k v) → D.nx σ H4
section
variable {X : Cx} {o i e value : Expr} {pos pos' tpos : Pos} {td ty tv : TE}
theorem pe_nget (hu : X.A.units + 9 < cLine) (ho : PE X o td) (hi : PE X i ty) (hs : NoSl i) : PE X (.Subscript o i pos) (tNGet X td ty) := by
  refine ⟨fun pins s σ H Q I h => ?_⟩
  refine subD_of PySem.F.slot_dict_getitem.lookup hs (thn (ho.run pins s σ H _ I h) fun u s1 ⟨x, H1, I1, rx, q1⟩ => thn (hi.run pins s1 σ H1 _ I1 q1) fun iv s2 ⟨y, H2, I2, ry, a, b, kvs, k, v, ex, ey, d, hk, hd, hv, q2⟩ => ?_)
  subst ex ey
  obtain rfl : u = Value.ref a := rx
  obtain rfl : iv = Value.ref b := ry
  obtain ⟨xs, dd, _⟩ := d.at I2
  exact ⟨dd.typeIs, n_getItem hu I2 d hk hd hv fun w' s3 rw' I3 => ⟨v, H2, I3, rw', q2⟩⟩
theorem pc_nin (hu : X.A.units + 9 < cLine) (hi : PE X i ty) (ho : PE X o td) : PC X .In i o (tNIn X false ty td) := by
  refine ⟨fun pins s σ H Q I h => ?_⟩
  refine thn (hi.run pins s σ H _ I h) fun iv s1 ⟨y, H1, I1, ry, q1⟩ => thn (ho.run pins s1 σ H1 _ I1 q1) fun u s2 ⟨x, H2, I2, rx, a, b, kvs, k, ex, ey, d, hk, hd, q2⟩ => ?_
  subst ex ey
  obtain rfl : u = Value.ref a := rx
  obtain rfl : iv = Value.ref b := ry
  exact n_in hu I2 d hk hd fun s3 I3 => ⟨.bl (valV kvs k).isSome, H2, I3, rfl, q2⟩
theorem pc_nnotin (hu : X.A.units + 9 < cLine) (hi : PE X i ty) (ho : PE X o td) : PC X .NotIn i o (tNIn X true ty td) := by
  refine ⟨fun pins s σ H Q I h => ?_⟩
  refine thn (hi.run pins s σ H _ I h) fun iv s1 ⟨y, H1, I1, ry, q1⟩ => thn (ho.run pins s1 σ H1 _ I1 q1) fun u s2 ⟨x, H2, I2, rx, a, b, kvs, k, ex, ey, d, hk, hd, q2⟩ => ?_
  subst ex ey
  obtain rfl : u = Value.ref a := rx
  obtain rfl : iv = Value.ref b := ry
  exact n_notIn hu I2 d hk hd fun s3 I3 => ⟨.bl (!(valV kvs k).isSome), H2, I3, rfl, q2⟩
theorem ps_nput (hu : X.A.units + 9 < cLine) (ho : PE X o td) (hi : PE X i ty) (hv : PE X value tv) (hs : swapsWith value (some (.Subscript o i pos')) pos.line X.env = pure false) :
    PS X (.Assign [.Subscript o i pos'] value pos) (sNPut X td ty tv) := by
  refine ⟨fun pins s σ H D I h => ?_⟩
  refine wpAny_Assign_Subscript (thn (hv.run pins s σ H _ I h) fun r s1 ⟨v, H1, I1, rv, q1⟩ => thn (ho.run pins s1 σ H1 _ I1 q1) fun u s2 ⟨x, H2, I2, rx, q2⟩ => thn (hi.run pins s2 σ H2 _ I2 q2) fun iv s3 ⟨y, H3, I3, ry, a, b, kvs, k, ex, ey, d, hk, hd, hl, q3⟩ => ?_) hs
  subst ex ey
  obtain rfl : u = Value.ref a := rx
  obtain rfl : iv = Value.ref b := ry
  exact n_setItem hu I3 d hk hd rv hl fun H' s' keep d' I' => ⟨σ, H', I', q3 H' keep d'⟩
end
/-! ### from a dict with tuple keys -/
def nkO : L2.Key → NestedKey
  | .inl i => .num i
  | .inr x => .text x
theorem nkO_inj : ∀ {a b : L2.Key}, nkO a = nkO b → a = b
  | .inl i, .inl j, h => by injection h with h; rw [h]
  | .inr x, .inr y, h => by injection h with h; rw [h]
  | .inl _, .inr _, h => nomatch h
  | .inr _, .inl _, h => nomatch h
theorem nk_keys {K : PySem.W.Frag} {H : Hp} : ∀ ks : List L2.Key, NksAt K H (ks.map nkO) (ks.map kV)
  | [] => rfl
  | .inl i :: ks => ⟨_, _, rfl, rfl, nk_keys ks⟩
  | .inr x :: ks => ⟨_, _, rfl, rfl, nk_keys ks⟩
theorem hash_key (P : Program) (w : World) : ∀ ks : List L2.Key, NestedKey.hashes w (ks.map nkO) = ks.map (mixKind P w).hash
  | [] => by simp [NestedKey.hashes]
  | .inl i :: ks => by
    rw [List.map_cons, List.map_cons, NestedKey.hashes, hash_key P w ks]
    rfl
  | .inr x :: ks => by
    rw [List.map_cons, List.map_cons, NestedKey.hashes, hash_key P w ks]
    rfl
theorem dep_keys : ∀ ks : List L2.Key, NestedKey.depthAll (ks.map nkO) = 0
  | [] => by simp [NestedKey.depthAll]
  | .inl i :: ks => by rw [List.map_cons, NestedKey.depthAll, dep_keys ks]; simp [nkO, NestedKey.depth]
  | .inr x :: ks => by rw [List.map_cons, NestedKey.depthAll, dep_keys ks]; simp [nkO, NestedKey.depth]
def kvN (kvs : List (List L2.Key × V)) : List (NestedKey × V) := kvs.map fun p => (.tup (p.1.map nkO), p.2)
/-- what stands behind an expression is looked at otherwise -/
def tAsN (X : Cx) (t : TE) : TE := fun σ H Q => t σ H fun v H1 => ∃ a kvs, v = .ref a ∧ H1 a = some (.dT kvs) ∧ ∀ H2, (∀ c, c ≠ a → H2 c = H1 c) → DN X.prog X.w X.K H2 a (kvN kvs) → Q v H2
theorem nodup_map_inj {α β : Type} {f : α → β} (hf : ∀ a b, f a = f b → a = b) : ∀ {l : List α}, l.Nodup → (l.map f).Nodup := fun h => by
  unfold List.Nodup
  rw [List.pairwise_map]
  exact h.imp fun n e => n (hf _ _ e)
theorem map_nkO_inj : ∀ (a b : List L2.Key), a.map nkO = b.map nkO → a = b
  | [], [], _ => rfl
  | [], _ :: _, h => nomatch h
  | _ :: _, [], h => nomatch h
  | x :: xs, y :: ys, h => by
    rw [List.map_cons, List.map_cons] at h
    injection h with h1 h2
    rw [nkO_inj h1, map_nkO_inj xs ys h2]
theorem pe_asN {X : Cx} {e : Expr} {t : TE} (h : PE X e t) : PE X e (tAsN X t) := by
  refine ⟨fun pins s σ H Q I hq => ?_⟩
  refine thn (h.run pins s σ H _ I hq) fun u s1 ⟨v, H1, I1, rv, a, kvs, ev, ha, k⟩ => ?_
  subst ev
  obtain ⟨z, hd, xs, rel, o, ea, ep, g, x, dt, e, nd⟩ := I1.hok a _ ha
  let ys : List XE := xs.map fun q => (.tup (q.1.map nkO), q.2)
  have mu : Mut (H1 a) := by rw [ha]; exact True.intro
  have ee : ea.toList = ys.map (entryOfKey (nestedKind X.prog X.w)) := by
    rw [e, List.map_map]
    refine List.map_congr_left fun q _ => ?_
    show (⟨tupleKeyHash (mixKind X.prog X.w) q.1, .ref q.2.1, q.2.2⟩ : DictEntry) = ⟨NestedKey.hash X.w (.tup (q.1.map nkO)), .ref q.2.1, q.2.2⟩
    rw [show NestedKey.hash X.w (.tup (q.1.map nkO)) = tupleKeyHash (mixKind X.prog X.w) q.1 by
      rw [NestedKey.hash, hash_key X.prog X.w]
      rfl]
  have I2 : L2.Inv X pins σ (upd H1 a (rawO a (ys.map (entryOfKey (nestedKind X.prog X.w))))) { s1 with heap := s1.heap, toks := s1.toks } := I1.write (x := a) (e := a) mu (.inl rfl) (fun c q hc z => z) ⟨o, g⟩ (rawO_ok g x dt ee)
  have KT' : KeepT H1 (upd H1 a (rawO a (ys.map (entryOfKey (nestedKind X.prog X.w))))) := KeepT.upd ha (fun _ z => nomatch z) (fun _ _ z => nomatch z)
  have pr : ∀ {kvs : List (List L2.Key × V)} {xs : List (List L2.Key × Addr × Value)}, Paired (fun (p : List L2.Key × V) (q : List L2.Key × Addr × Value) => p.1 = q.1 ∧ H1 q.2.1 = some (.tup (p.1.map kV)) ∧ RelV p.2 q.2.2) kvs xs →
      Paired (EntN X.K (upd H1 a (rawO a (ys.map (entryOfKey (nestedKind X.prog X.w)))))) (kvN kvs) (xs.map fun q => ((.tup (q.1.map nkO) : NestedKey), q.2)) := fun {kvs xs} p => by
    induction p with
    | nil => exact .nil
    | @cons p q ps qs h t ih =>
      obtain ⟨h1, h2, h3⟩ := h
      refine .cons ⟨by show (NestedKey.tup (List.map nkO p.1)) = .tup (List.map nkO q.1); rw [h1], ?_, ?_, h3⟩ ih
      · refine ⟨q.2.1, p.1.map kV, rfl, KT'.tup (SqT.of h2), ?_⟩
        rw [← h1]
        exact nk_keys _
      · show NestedKey.depth (.tup (q.1.map nkO)) ≤ 8
        rw [NestedKey.depth, dep_keys]
        decide
  refine ⟨_, _, I2, rv, k _ (fun c hc => upd_ne hc) ⟨ys, upd_same, pr rel, ?_, by unfold kvN; rw [List.length_map]; exact z, hd⟩⟩
  have ek : (kvN kvs).map (·.1) = (xs.map (·.1)).map fun q => (.tup (q.map nkO) : NestedKey) := by
    have : ∀ {kvs : List (List L2.Key × V)} {xs : List (List L2.Key × Addr × Value)}, Paired (fun (p : List L2.Key × V) (q : List L2.Key × Addr × Value) => p.1 = q.1 ∧ H1 q.2.1 = some (.tup (p.1.map kV)) ∧ RelV p.2 q.2.2) kvs xs → (kvN kvs).map (·.1) = (xs.map (·.1)).map fun q => (.tup (q.map nkO) : NestedKey) := fun {kvs xs} p => by
      induction p with
      | nil => rfl
      | @cons p q ps qs h t ih =>
        show (NestedKey.tup (List.map nkO p.1)) :: (kvN ps).map (·.1) = (NestedKey.tup (List.map nkO q.1)) :: (qs.map (·.1)).map fun q => (.tup (q.map nkO) : NestedKey)
        rw [h.1, ih]
    exact this rel
  rw [ek]
  exact nodup_map_inj (fun a b h => by injection h with h; exact map_nkO_inj a b h) nd
end LS
/-! what some modules have told: where it is settled to lead, and how many are to be asked yet -/
namespace LS
open PySem PySem.Spec PyProof.Rows L2
abbrev Told : Type := List (Option Str)
def optW : Option Str → List Str
  | none => resWords
  | some r => [r]
def compF : Told → List (List Str)
  | [] => [[]]
  | o :: t => (optW o).flatMap fun r => (compF t).map (r :: ·)
def FitT : Told → List Str → Prop
  | [], [] => True
  | o :: t, w :: ws => w ∈ optW o ∧ FitT t ws
  | _, _ => False
theorem mem_comp : ∀ (t : Told) (ws : List Str), ws ∈ compF t ↔ FitT t ws
  | [], [] => by simp [compF, FitT]
  | [], w :: ws => by simp [compF, FitT]
  | o :: t, [] => by simp [compF, FitT]
  | o :: t, w :: ws => by
    unfold compF FitT
    rw [List.mem_flatMap]
    constructor
    · rintro ⟨r, hr, h⟩
      obtain ⟨us, hu, e⟩ := List.mem_map.mp h
      cases e
      exact ⟨hr, (mem_comp t ws).mp hu⟩
    · rintro ⟨h1, h2⟩
      exact ⟨w, h1, List.mem_map.mpr ⟨ws, (mem_comp t ws).mpr h2, rfl⟩⟩
theorem fit_iff : ∀ (t : Told) (ws : List Str), FitT t ws ↔ ws.length = t.length ∧ ∀ (i : Nat) (o : Option Str) (w : Str), t[i]? = some o → ws[i]? = some w → w ∈ optW o
  | [], [] => by simp [FitT]
  | [], w :: ws => by simp [FitT]
  | o :: t, [] => by simp [FitT]
  | o :: t, w :: ws => by
    unfold FitT
    rw [fit_iff t ws]
    constructor
    · rintro ⟨h1, h2, h3⟩
      refine ⟨by simp [h2], fun i o' w' e1 e2 => ?_⟩
      cases i with
      | zero =>
        simp at e1 e2
        rw [← e1, ← e2]
        exact h1
      | succ i =>
        simp at e1 e2
        exact h3 i o' w' e1 e2
    · rintro ⟨h1, h2⟩
      exact ⟨h2 0 o w (by simp) (by simp), by simpa using h1, fun i o' w' e1 e2 => h2 (i + 1) o' w' (by simpa using e1) (by simpa using e2)⟩
theorem set_at {t : Told} {i j : Nat} {x : Option Str} (hi : i < t.length) : (t.set i x)[j]? = if j = i then some x else t[j]? := by
  rw [List.getElem?_set]
  by_cases e : i = j
  · rw [if_pos e, if_pos e.symm, if_pos (e ▸ hi)]
  · rw [if_neg e, if_neg (fun z => e z.symm)]
theorem fit_set {t : Told} {i : Nat} (h : t[i]? = some none) (ws : List Str) : FitT t ws ↔ ∃ r ∈ resWords, FitT (t.set i (some r)) ws := by
  have hi : i < t.length := (List.getElem?_eq_some_iff.mp h).1
  rw [fit_iff]
  constructor
  · rintro ⟨h1, h2⟩
    have hw : ws[i]? = some ws[i] := List.getElem?_eq_getElem (by omega)
    refine ⟨ws[i], h2 i none _ h hw, (fit_iff _ _).mpr ⟨by rw [List.length_set]; exact h1, fun j o w e1 e2 => ?_⟩⟩
    rw [set_at hi] at e1
    by_cases e : j = i
    · rw [if_pos e] at e1
      subst e
      cases e1
      rw [hw] at e2
      cases e2
      exact List.mem_singleton.mpr rfl
    · rw [if_neg e] at e1
      exact h2 j o w e1 e2
  · rintro ⟨r, hr, q⟩
    obtain ⟨h1, h2⟩ := (fit_iff _ _).mp q
    rw [List.length_set] at h1
    refine ⟨h1, fun j o w e1 e2 => ?_⟩
    by_cases e : j = i
    · subst e
      rw [h] at e1
      cases e1
      have := h2 j (some r) w (by rw [set_at hi, if_pos rfl]) e2
      rw [List.mem_singleton.mp this]
      exact hr
    · exact h2 j o w (by rw [set_at hi, if_neg e]; exact e1) e2
theorem optW_some (o : Option Str) : ∃ w, w ∈ optW o := by
  cases o with
  | none => exact ⟨"yes", by unfold optW resWords; exact List.mem_cons_self⟩
  | some r => exact ⟨r, List.mem_singleton.mpr rfl⟩
theorem fit_some : ∀ t : Told, ∃ ws, FitT t ws
  | [] => ⟨[], True.intro⟩
  | o :: t => by
    obtain ⟨ws, h⟩ := fit_some t
    obtain ⟨w, hw⟩ := optW_some o
    exact ⟨w :: ws, hw, h⟩
/-- the word of some -/
def settU : List Str → Str
  | [] => "open"
  | w :: r => if r.all (fun u => decide (u = w)) = true then w else "open"
theorem settU_W {L : List Str} (h : L ≠ []) : settW L = .str (settU L) := by
  cases L with
  | nil => exact absurd rfl h
  | cons w r =>
    show (if r.all (fun u => decide (u = w)) = true then V.str w else .str "open") = .str (if r.all (fun u => decide (u = w)) = true then w else "open")
    by_cases e : r.all (fun u => decide (u = w)) = true
    · rw [if_pos e, if_pos e]
    · rw [if_neg e, if_neg e]
theorem settU_one {L : List Str} {w : Str} (h : w ∈ L) (ha : ∀ u ∈ L, u = w) : settU L = w := by
  have := settW_one h ha
  rw [settU_W (List.ne_nil_of_mem h)] at this
  injection this
theorem settU_two {L : List Str} {u v : Str} (hu : u ∈ L) (hv : v ∈ L) (hne : u ≠ v) : settU L = "open" := by
  have := settW_two hu hv hne
  rw [settU_W (List.ne_nil_of_mem hu)] at this
  injection this
section
variable (f : List Str → Str)
def settS (t : Told) : Str := settU ((compF t).map f)
variable {f}
theorem settS_one {t : Told} {w : Str} (h : ∀ ws, FitT t ws → f ws = w) : settS f t = w := by
  obtain ⟨ws, hw⟩ := fit_some t
  refine settU_one (List.mem_map.mpr ⟨ws, (mem_comp _ _).mpr hw, h ws hw⟩) fun u hu => ?_
  obtain ⟨us, h1, rfl⟩ := List.mem_map.mp hu
  exact h us ((mem_comp _ _).mp h1)
theorem settS_two {t : Told} {ws us : List Str} (h1 : FitT t ws) (h2 : FitT t us) (hne : f ws ≠ f us) : settS f t = "open" :=
  settU_two (List.mem_map.mpr ⟨ws, (mem_comp _ _).mpr h1, rfl⟩) (List.mem_map.mpr ⟨us, (mem_comp _ _).mpr h2, rfl⟩) hne
theorem settS_cases (t : Told) : (∃ w, (∀ ws, FitT t ws → f ws = w) ∧ settS f t = w) ∨ ((∃ ws us, FitT t ws ∧ FitT t us ∧ f ws ≠ f us) ∧ settS f t = "open") := by
  obtain ⟨ws, hw⟩ := fit_some t
  by_cases c : ∀ us, FitT t us → f us = f ws
  · exact .inl ⟨f ws, c, settS_one c⟩
  · obtain ⟨us, hu, hn⟩ : ∃ us, FitT t us ∧ ¬ f us = f ws := Classical.byContradiction fun q => c fun u hu => Classical.byContradiction fun e => q ⟨u, hu, e⟩
    exact .inr ⟨⟨us, ws, hu, hw, hn⟩, settS_two hu hw hn⟩
theorem settS_congr {g : List Str → Str} {t u : Told} (h : ∀ x, (∃ ws, FitT t ws ∧ f ws = x) ↔ ∃ ws, FitT u ws ∧ g ws = x) : settS f t = settS g u := by
  rcases settS_cases (f := f) t with ⟨w, hw, e⟩ | ⟨⟨ws, us, h1, h2, hn⟩, e⟩
  · rw [e]
    symm
    refine settS_one fun us hu => ?_
    obtain ⟨ws, h1, h2⟩ := (h (g us)).mpr ⟨us, hu, rfl⟩
    rw [← h2]
    exact hw ws h1
  · rw [e]
    obtain ⟨ws', a1, a2⟩ := (h _).mp ⟨ws, h1, rfl⟩
    obtain ⟨us', b1, b2⟩ := (h _).mp ⟨us, h2, rfl⟩
    exact (settS_two a1 b1 (by rw [a2, b2]; exact hn)).symm
/-- one more is told -/
theorem settS_step {t : Told} {i : Nat} (h : t[i]? = some none) : settS f t = (if ∀ r ∈ resWords, settS f (t.set i (some r)) = settS f (t.set i (some "yes")) then settS f (t.set i (some "yes")) else "open") := by
  have hy : ("yes" : Str) ∈ resWords := by unfold resWords; exact List.mem_cons_self
  by_cases c : ∀ r ∈ resWords, settS f (t.set i (some r)) = settS f (t.set i (some "yes"))
  · rw [if_pos c]
    rcases settS_cases (f := f) (t.set i (some "yes")) with ⟨w, hw, e⟩ | ⟨⟨ws, us, h1, h2, hn⟩, e⟩
    · by_cases o : w = "open"
      · rw [e]
        by_cases o2 : ∃ r ∈ resWords, ∃ ws us, FitT (t.set i (some r)) ws ∧ FitT (t.set i (some r)) us ∧ f ws ≠ f us
        · obtain ⟨r, hr, ws, us, h1, h2, hn⟩ := o2
          rw [o]
          exact settS_two ((fit_set h ws).mpr ⟨r, hr, h1⟩) ((fit_set h us).mpr ⟨r, hr, h2⟩) hn
        · refine settS_one fun ws hws => ?_
          obtain ⟨r, hr, h1⟩ := (fit_set h ws).mp hws
          rcases settS_cases (f := f) (t.set i (some r)) with ⟨w2, hw2, e2⟩ | ⟨q, _⟩
          · rw [hw2 ws h1, ← e2, c r hr, e]
          · exact absurd ⟨r, hr, q⟩ o2
      · rw [e]
        refine settS_one fun ws hws => ?_
        obtain ⟨r, hr, h1⟩ := (fit_set h ws).mp hws
        rcases settS_cases (f := f) (t.set i (some r)) with ⟨w2, hw2, e2⟩ | ⟨_, e2⟩
        · rw [hw2 ws h1, ← e2, c r hr, e]
        · rw [c r hr, e] at e2
          exact absurd e2 o
    · rw [e]
      exact settS_two ((fit_set h ws).mpr ⟨_, hy, h1⟩) ((fit_set h us).mpr ⟨_, hy, h2⟩) hn
  · rw [if_neg c]
    obtain ⟨r, hr, hne⟩ : ∃ r ∈ resWords, ¬ settS f (t.set i (some r)) = settS f (t.set i (some "yes")) := Classical.byContradiction fun q => c fun r hr => Classical.byContradiction fun e => q ⟨r, hr, e⟩
    rcases settS_cases (f := f) (t.set i (some r)) with ⟨w, hw, e⟩ | ⟨⟨ws, us, h1, h2, hn⟩, e⟩
    · rcases settS_cases (f := f) (t.set i (some "yes")) with ⟨w2, hw2, e2⟩ | ⟨⟨ws, us, h1, h2, hn⟩, _⟩
      · obtain ⟨ws, a⟩ := fit_some (t.set i (some r))
        obtain ⟨us, b⟩ := fit_some (t.set i (some "yes"))
        refine settS_two ((fit_set h ws).mpr ⟨r, hr, a⟩) ((fit_set h us).mpr ⟨_, hy, b⟩) ?_
        rw [hw ws a, hw2 us b, ← e, ← e2]
        exact hne
      · exact settS_two ((fit_set h ws).mpr ⟨_, hy, h1⟩) ((fit_set h us).mpr ⟨_, hy, h2⟩) hn
    · exact settS_two ((fit_set h ws).mpr ⟨r, hr, h1⟩) ((fit_set h us).mpr ⟨r, hr, h2⟩) hn
end
/-! ### least and greatest -/
def maxL : List Nat → Nat
  | [] => 0
  | x :: l => max x (maxL l)
def minL : List Nat → Nat
  | [] => 0
  | [x] => x
  | x :: y :: l => min x (minL (y :: l))
theorem maxL_ge : ∀ {l : List Nat} {x : Nat}, x ∈ l → x ≤ maxL l
  | y :: l, x, h => by
    unfold maxL
    rcases List.mem_cons.mp h with rfl | h
    · exact Nat.le_max_left _ _
    · exact Nat.le_trans (maxL_ge h) (Nat.le_max_right _ _)
theorem maxL_in : ∀ {l : List Nat}, l ≠ [] → maxL l ∈ l
  | [x], _ => by
    show max x 0 ∈ [x]
    rw [Nat.max_eq_left (Nat.zero_le _)]
    exact List.mem_singleton.mpr rfl
  | x :: y :: l, _ => by
    have ih := maxL_in (l := y :: l) (List.cons_ne_nil _ _)
    show max x (maxL (y :: l)) ∈ _
    rcases Nat.le_total x (maxL (y :: l)) with q | q
    · rw [Nat.max_eq_right q]
      exact List.mem_cons_of_mem _ ih
    · rw [Nat.max_eq_left q]
      exact List.mem_cons_self
theorem minL_le : ∀ {l : List Nat} {x : Nat}, x ∈ l → minL l ≤ x
  | [y], x, h => by
    rw [List.mem_singleton.mp h]
    exact Nat.le_refl _
  | y :: z :: l, x, h => by
    show min y (minL (z :: l)) ≤ x
    rcases List.mem_cons.mp h with rfl | h
    · exact Nat.min_le_left _ _
    · exact Nat.le_trans (Nat.min_le_right _ _) (minL_le h)
theorem minL_in : ∀ {l : List Nat}, l ≠ [] → minL l ∈ l
  | [x], _ => List.mem_singleton.mpr rfl
  | x :: y :: l, _ => by
    have ih := minL_in (l := y :: l) (List.cons_ne_nil _ _)
    show min x (minL (y :: l)) ∈ _
    rcases Nat.le_total x (minL (y :: l)) with q | q
    · rw [Nat.min_eq_left q]
      exact List.mem_cons_self
    · rw [Nat.min_eq_right q]
      exact List.mem_cons_of_mem _ ih
theorem maxL_eq {l : List Nat} {m : Nat} (h : m ∈ l) (ha : ∀ y ∈ l, y ≤ m) : m = maxL l := Nat.le_antisymm (maxL_ge h) (ha _ (maxL_in (List.ne_nil_of_mem h)))
theorem minL_eq {l : List Nat} {m : Nat} (h : m ∈ l) (ha : ∀ y ∈ l, m ≤ y) : m = minL l := Nat.le_antisymm (ha _ (minL_in (List.ne_nil_of_mem h))) (minL_le h)
theorem minL_add {l : List Nat} (h : l ≠ []) : minL (l.map (1 + ·)) = 1 + minL l := by
  symm
  refine minL_eq (List.mem_map.mpr ⟨_, minL_in h, rfl⟩) fun y hy => ?_
  obtain ⟨x, hx, rfl⟩ := List.mem_map.mp hy
  have := minL_le hx
  omega
/-! ### how many are to be asked -/
def holes (t : Told) : List Nat := (List.range t.length).filter fun p => decide (t[p]? = some none)
def nn (t : Told) : Nat := t.countP (·.isNone)
theorem hole_at {t : Told} {p : Nat} : p ∈ holes t ↔ t[p]? = some none := by
  unfold holes
  rw [List.mem_filter, List.mem_range, decide_eq_true_eq]
  exact ⟨fun h => h.2, fun h => ⟨(List.getElem?_eq_some_iff.mp h).1, h⟩⟩
theorem nn_set : ∀ {t : Told} {p : Nat} {r : Str}, t[p]? = some none → nn (t.set p (some r)) + 1 = nn t
  | [], _, _, h => by simp at h
  | o :: t, 0, r, h => by
    simp at h
    subst h
    simp [nn]
  | o :: t, p + 1, r, h => by
    have ih := nn_set (t := t) (p := p) (r := r) (by simpa using h)
    unfold nn at ih ⊢
    rw [List.set_cons_succ, List.countP_cons, List.countP_cons]
    omega
section
variable (f : List Str → Str)
def fewN : Nat → Told → Nat
  | 0, _ => 0
  | n + 1, t => if settS f t = "open" then minL ((holes t).map fun p => 1 + maxL (resWords.map fun r => fewN n (t.set p (some r)))) else 0
def few (t : Told) : Nat := fewN f (nn t) t
def worstT (t : Told) (p : Nat) : Nat := maxL (resWords.map fun r => few f (t.set p (some r)))
theorem few_step (t : Told) : few f t = if settS f t = "open" then minL ((holes t).map fun p => 1 + worstT f t p) else 0 := by
  cases e : nn t with
  | zero =>
    have h0 : holes t = [] := by
      cases q : holes t with
      | nil => rfl
      | cons p l =>
        have hp : p ∈ holes t := by rw [q]; exact List.mem_cons_self
        have := nn_set (r := "") (hole_at.mp hp)
        omega
    rw [h0]
    unfold few
    rw [e]
    unfold fewN
    simp [minL]
  | succ n =>
    unfold few
    rw [e, fewN]
    have : (holes t).map (fun p => 1 + maxL (resWords.map fun r => fewN f n (t.set p (some r)))) = (holes t).map fun p => 1 + worstT f t p := by
      refine List.map_congr_left fun p hp => ?_
      unfold worstT
      congr 2
      refine List.map_congr_left fun r _ => ?_
      unfold few
      have := nn_set (r := r) (hole_at.mp hp)
      rw [show nn (t.set p (some r)) = n by omega]
    rw [this]
theorem hole_open {t : Told} (h : settS f t = "open") (hf : ∀ ws, f ws ≠ "open") : holes t ≠ [] := fun q => by
  have ns : ∀ i o, t[i]? = some o → ∃ r, o = some r := fun i o e => by
    cases o with
    | none =>
      have := hole_at.mpr e
      rw [q] at this
      cases this
    | some r => exact ⟨r, rfl⟩
  obtain ⟨ws, hw⟩ := fit_some t
  refine hf ws ?_
  rw [← h]
  symm
  refine settS_one fun us hu => ?_
  congr 1
  obtain ⟨a1, a2⟩ := (fit_iff _ _).mp hw
  obtain ⟨b1, b2⟩ := (fit_iff _ _).mp hu
  refine List.ext_getElem? fun i => ?_
  rcases Nat.lt_or_ge i t.length with z | z
  · have e1 : t[i]? = some t[i] := List.getElem?_eq_getElem z
    have e2 : ws[i]? = some ws[i] := List.getElem?_eq_getElem (by omega)
    have e3 : us[i]? = some us[i] := List.getElem?_eq_getElem (by omega)
    obtain ⟨r, er⟩ := ns i _ e1
    have h1 := a2 i _ _ e1 e2
    have h2 := b2 i _ _ e1 e3
    rw [er] at h1 h2
    rw [e2, e3, List.mem_singleton.mp h1, List.mem_singleton.mp h2]
  · rw [List.getElem?_eq_none (by omega), List.getElem?_eq_none (by omega)]
theorem settS_full (ws : List Str) : settS f (ws.map some) = f ws := by
  refine settS_one fun us hu => ?_
  congr 1
  obtain ⟨b1, b2⟩ := (fit_iff _ _).mp hu
  rw [List.length_map] at b1
  refine List.ext_getElem? fun i => ?_
  rcases Nat.lt_or_ge i ws.length with z | z
  · have e3 : us[i]? = some us[i] := List.getElem?_eq_getElem (by omega)
    have h2 := b2 i (some ws[i]) _ (by rw [List.getElem?_map, List.getElem?_eq_getElem z]; rfl) e3
    rw [e3, List.getElem?_eq_getElem z, List.mem_singleton.mp h2]
  · rw [List.getElem?_eq_none (by omega), List.getElem?_eq_none (by omega)]
end
/-! ### as keys -/
def tV : Option Str → V
  | none => .non
  | some x => .str x
def tN : Option Str → NestedKey
  | none => .none
  | some x => .text x
def keyT (t : Told) : NestedKey := .tup (t.map tN)
theorem tN_inj : ∀ {a b : Option Str}, tN a = tN b → a = b
  | none, none, _ => rfl
  | some a, some b, h => by injection h with h; rw [h]
  | none, some _, h => nomatch h
  | some _, none, h => nomatch h
theorem tNs_inj : ∀ (a b : Told), a.map tN = b.map tN → a = b
  | [], [], _ => rfl
  | [], _ :: _, h => nomatch h
  | _ :: _, [], h => nomatch h
  | x :: xs, y :: ys, h => by
    rw [List.map_cons, List.map_cons] at h
    injection h with h1 h2
    rw [tN_inj h1, tNs_inj xs ys h2]
theorem keyT_inj {a b : Told} (h : keyT a = keyT b) : a = b := by
  injection h with h
  exact tNs_inj a b h
theorem keyT_dep (t : Told) : (keyT t).depth ≤ 8 := by
  have : ∀ t : Told, NestedKey.depthAll (t.map tN) = 0 := fun t => by
    induction t with
    | nil => simp [NestedKey.depthAll]
    | cons o t ih =>
      rw [List.map_cons, NestedKey.depthAll, ih]
      cases o <;> simp [tN, NestedKey.depth]
  unfold keyT
  rw [NestedKey.depth, this]
  decide
theorem nks_told {K : PySem.W.Frag} {H : Hp} : ∀ t : Told, NksAt K H (t.map tN) (t.map tV)
  | [] => rfl
  | none :: t => ⟨_, _, rfl, rfl, nks_told t⟩
  | some _ :: t => ⟨_, _, rfl, rfl, nks_told t⟩
theorem nk_told {K : PySem.W.Frag} {H : Hp} {a : Addr} {t : Told} (h : SqT K H a (t.map tV)) : NkAt K H (keyT t) (.ref a) := ⟨a, _, rfl, h, nks_told t⟩
/-- told results that can be, of n modules -/
def VT (n : Nat) (t : Told) : Prop := t.length = n ∧ ∀ r, some r ∈ t → r ∈ resWords
def allT : Nat → List Told
  | 0 => [[]]
  | n + 1 => (none :: resWords.map some).flatMap fun o => (allT n).map (o :: ·)
theorem allT_len : ∀ n, (allT n).length = 5 ^ n
  | 0 => rfl
  | n + 1 => by
    unfold allT resWords
    simp only [List.map_cons, List.map_nil, List.flatMap_cons, List.flatMap_nil, List.length_append, List.length_map, List.length_nil, allT_len n]
    omega
theorem allT_mem : ∀ {n : Nat} {t : Told}, VT n t → t ∈ allT n
  | 0, t, ⟨h, _⟩ => by
    rw [List.length_eq_zero_iff.mp h]
    exact List.mem_singleton.mpr rfl
  | n + 1, [], ⟨h, _⟩ => nomatch h
  | n + 1, o :: t, ⟨h1, h2⟩ => by
    unfold allT
    refine List.mem_flatMap.mpr ⟨o, ?_, List.mem_map.mpr ⟨t, allT_mem ⟨by simpa using h1, fun r hr => h2 r (List.mem_cons_of_mem _ hr)⟩, rfl⟩⟩
    cases o with
    | none => exact List.mem_cons_self
    | some r => exact List.mem_cons_of_mem _ (List.mem_map.mpr ⟨r, h2 r List.mem_cons_self, rfl⟩)
theorem VT.set {n : Nat} {t : Told} (h : VT n t) {p : Nat} {r : Str} (hr : r ∈ resWords) : VT n (t.set p (some r)) := by
  refine ⟨by rw [List.length_set]; exact h.1, fun x hx => ?_⟩
  rcases List.mem_or_eq_of_mem_set hx with q | q
  · exact h.2 x q
  · cases q
    exact hr
theorem vt_none (n : Nat) : VT n (List.replicate n none) := ⟨List.length_replicate, fun r hr => nomatch (List.mem_replicate.mp hr).2⟩
/-- a table by told results is small -/
theorem told_few {n : Nat} (hn : n ≤ 6) {kvs : List (NestedKey × V)} (nd : (kvs.map (·.1)).Nodup) (h : ∀ k v, valV kvs k = some v → ∃ t, VT n t ∧ k = keyT t) : kvs.length ≤ 15625 := by
  have e : kvs.length = (kvs.map (·.1)).length := (List.length_map _).symm
  rw [e]
  have l : ((allT n).map keyT).length ≤ 15625 := by
    rw [List.length_map, allT_len]
    exact Nat.pow_le_pow_right (by decide) hn
  refine Nat.le_trans (List.Nodup.length_le_of_subset nd fun k hk => ?_) l
  cases q : valV kvs k with
  | none =>
    have a := valV_any k kvs
    rw [q] at a
    obtain ⟨p, hp, e⟩ := List.mem_map.mp hk
    have : (kvs.any fun kv => decide (kv.1 = k)) = true := List.any_eq_true.mpr ⟨p, hp, decide_eq_true e⟩
    rw [this] at a
    cases a
  | some v =>
    obtain ⟨t, h1, rfl⟩ := h k v q
    exact List.mem_map.mpr ⟨t, allT_mem h1, rfl⟩
end LS
/-! tuples that are bare: written out, put together, repeated; the place of a flat item -/
namespace LS
open PySem PySem.Spec PyProof.Rows L2
section
variable {X : Cx} {es : List Expr} {t : TA} {pos : Pos}
def tTupB (t : TA) : TE := fun σ H Q => t σ H fun xs H1 => xs.length ≤ sizeLine ∧ ∀ (p : Addr) (o : Obj), o.dict = none → H1 p = none → Q (.ref p) (upd H1 p (.frz o (.tup xs)))
theorem pe_tupB {x1} (h : PA X es t) : PE X (.Tuple es x1 pos) (tTupB t) := by
  refine ⟨fun pins s σ H Q I hq => ?_⟩
  refine wpAny_Tuple_spliced (thn (h.run pos pins s σ H _ I hq) fun us s1 ⟨xs, H1, I1, r, z, q⟩ => ⟨by rw [← r.length]; exact z, ?_⟩)
  have hf : H1 s1.heap.objs.size = none := I1.hok.fresh (Nat.le_refl _)
  refine ⟨.ref s1.heap.objs.size, upd H1 s1.heap.objs.size (.frz { cls := .type "tuple", data := .seq us.toArray } (.tup xs)), I1.laid (t' := s1.toks) (fun b u e => Heap.get?_push_of_some _ e) (Nat.le_refl _) ?_, rfl, q _ _ rfl hf⟩
  exact ⟨Heap.get?_push_size _ rfl, z, us, r, ⟨_, Heap.get?_push_size _ rfl, rfl, _, rfl⟩⟩
/-- t + u -/
def rCatB (K : PySem.W.Frag) : R2 := fun x y H Q => ∃ a b xs ys, x = .ref a ∧ y = .ref b ∧ SqT K H a xs ∧ SqT K H b ys ∧ xs.length + ys.length ≤ sizeLine ∧
  (xs = [] → Q (.ref b) H) ∧ (xs ≠ [] → ys = [] → Q (.ref a) H) ∧ (xs ≠ [] → ys ≠ [] → ∀ (p : Addr) (o : Obj), o.dict = none → H p = none → Q (.ref p) (upd H p (.frz o (.tup (xs ++ ys)))))
theorem op_catB : OpR X (binaryOp .Add) (rCatB X.K) := by
  intro pins s σ H x y v u Q I rx ry h
  obtain ⟨a, b, xs, ys, rfl, rfl, ha, hb, hz, q0, q1, q2⟩ := h
  by_cases hx : xs = []
  · subst hx
    cases rx
    cases ry
    obtain ⟨its, r1, p1, _⟩ := I.tuple ha
    obtain ⟨its2, r2, p2, _⟩ := I.tuple hb
    cases r1
    exact cat_tup0 p1 p2 ⟨.ref b, H, I, rfl, q0 rfl⟩
  · cases rx
    cases ry
    obtain ⟨its, r1, p1, _⟩ := I.tuple ha
    obtain ⟨its2, r2, p2, _⟩ := I.tuple hb
    refine HT.cat_tup p1 p2 (fun z => hx (r1.nil_iff.mp z)) (fun z => ⟨.ref a, H, I, rfl, q1 hx (r2.nil_iff.mp z)⟩) (fun z => ?_) (by rw [← r1.length, ← r2.length]; exact hz)
    refine ⟨.ref s.heap.objs.size, _, I.laid (t' := s.toks) (o := .frz { cls := .type "tuple", data := .seq (its ++ its2).toArray } (.tup (xs ++ ys))) (fun b ob q => Heap.get?_push_of_some _ q) (Nat.le_refl _) ?_, rfl, q2 hx (fun w => z (r2.nil_iff.mpr w)) _ { cls := .type "tuple", data := .seq (its ++ its2).toArray } rfl (I.hok.fresh (Nat.le_refl _))⟩
    exact ⟨Heap.get?_push_size _ rfl, by rw [List.length_append]; exact hz, _, r1.append r2, IsTup.new _ _⟩
/-- the first place of a flat item -/
theorem mt_tup_indexF : MtR X "tuple.index" (fun x xs H Q => ∃ (p : Addr) (ys : List V) (y : V) (j : Nat) (z : V), x = .ref p ∧ xs = [y] ∧ SqT X.K H p ys ∧ flatV y = true ∧ ys.all flatV = true ∧ ys[j]? = some z ∧ eqV z y = true ∧ (∀ (m : Nat) (z' : V), m < j → ys[m]? = some z' → eqV z' y = false) ∧ Q (.int (j : Nat)) H) := by
  intro pins s σ H x xs v us Q I rx rs h
  obtain ⟨p, ys, y, j, z, rfl, rfl, hq, fy, fs, hy, hz, hno, q⟩ := h
  cases rx
  obtain ⟨u, rfl, ru⟩ := vals1 rs
  obtain ⟨its, r, pl, hs⟩ := I.tuple hq
  obtain ⟨⟨cls, dd, dt, sl⟩, ho, hc, n, hd⟩ := pl
  simp only at hc hd
  subst hc
  subst hd
  have hl : its.toArray.size = ys.length := by rw [List.size_toArray, ← r.length]
  have hj : j < its.toArray.size := by rw [hl]; exact (List.getElem?_eq_some_iff.mp hy).1
  have at' : ∀ (m : Nat) (hm : m < its.toArray.size), ∃ w, ys[m]? = some w ∧ flatV w = true ∧ RelV w its.toArray[m] := fun m hm => by
    have hm' : m < ys.length := by rw [← hl]; exact hm
    obtain ⟨w, hw, hw'⟩ := r.get (i := m) (x := ys[m]) (by simp [hm'])
    refine ⟨ys[m], List.getElem?_eq_getElem hm', List.all_eq_true.mp fs _ (List.getElem_mem hm'), ?_⟩
    have e := (List.getElem?_eq_some_iff.mp hw).2
    rw [← e] at hw'
    simpa using hw'
  refine call_meets PySem.F.slot_tuple_index ⟨_, ho, rfl⟩ PySem.F.entry_tuple_index (PySem.F.args_tuple_index_2 _ _) (TI.tuple_indexAt p its.toArray n dd sl u (eqU y) j hj ?_ ?_)
    ⟨ho, fun w hw => mem_eqAt (x := y) ru fy r fs w (by simpa using hw), ⟨.int (j : Nat), H, I.tok _, ⟨_, rfl⟩, q⟩⟩
  · obtain ⟨w, h1, h2, h3⟩ := at' j hj
    rw [hy] at h1
    cases h1
    rw [eqU_of h3 h2]
    exact hz
  · intro m hm hmj
    obtain ⟨w, h1, h2, h3⟩ := at' m hm
    rw [eqU_of h3 h2]
    exact hno m w hmj h1
end
theorem tuple_mulOne (l : Addr) (items : Array Value) (n : Nat) (dd : Option Addr) (sl : Array (Option Value)) (u : Tok) :
    Meets (Builtin.«tuple.__mul__» ⟨[.ref l, .int 1 u], []⟩) (fun _ R s => s.heap.get? l = some { cls := .type "tuple", dict := dd, data := .seq items n, slots := sl } ∧ R (.ok (.ret (Value.ref l))) s) :=
  .of_wp fun prog w A R s h => by
    obtain ⟨hp, g, d, tk, os⟩ := s
    obtain ⟨hl, h⟩ := h
    have f1 := AutoSeq1.idx_int
    have c1 : (items.isEmpty || (1 : Int) == 1) = true := by rw [show ((1 : Int) == 1) = true by decide, Bool.or_true]
    wp_walk using AutoSeq1.wpAny_loadPart' hl
    repeat (first
      | (refine wpAny_ite_true (decide_eq_true c1) ?_; wp_walk using AutoSeq1.wpAny_loadPart' hl))
    exact ⟨_, rfl, h⟩
end LS
/-! tuple * int, bare, for none and one copies too -/
namespace LS
open PySem PySem.Spec PyProof.Rows L2
theorem tuple_mul0 (l : Addr) (items : Array Value) (n : Nat) (dd : Option Addr) (sl : Array (Option Value)) (u : Tok) (hi : items.isEmpty = false) :
    Meets (Builtin.«tuple.__mul__» ⟨[.ref l, .int 0 u], []⟩) (fun _ R s => s.heap.get? l = some { cls := .type "tuple", dict := dd, data := .seq items n, slots := sl } ∧
      R (.ok (.ret (Value.ref s.heap.objs.size))) { s with heap := s.heap.push { cls := Value.type "tuple", data := Data.seq #[] }, toks := s.toks }) :=
  .of_wp fun prog w A R s h => by
    obtain ⟨hp, g, d, tk, os⟩ := s
    obtain ⟨hl, h⟩ := h
    have f1 := AutoSeq1.idx_int
    have c1 : (items.isEmpty || (0 : Int) == 1) = false := by rw [hi]; decide
    have c2 : (decide ((0 : Int) ≤ 0) || items.isEmpty) = true := by rw [hi]; decide
    wp_walk using wpAny_loadPart' hl
    repeat (first
      | (refine wpAny_ite_false (decide_eq_false (by rw [c1]; exact Bool.false_ne_true)) ?_; wp_walk using wpAny_loadPart' hl)
      | (refine wpAny_ite_true (decide_eq_true c2) ?_; wp_walk using wpAny_loadPart' hl))
    exact ⟨_, rfl, h⟩
def rRepB (K : PySem.W.Frag) : R2 := fun x y H Q => ∃ l k xs, x = .ref l ∧ y = .int k ∧ SqT K H l xs ∧ xs ≠ [] ∧ 0 ≤ k ∧ k ≤ 1000 ∧ xs.length ≤ 1000 ∧ (k = 1 → Q (.ref l) H) ∧
  (k ≠ 1 → ∀ (p : Addr) (o : Obj), o.dict = none → H p = none → Q (.ref p) (upd H p (.frz o (.tup (List.replicate k.toNat xs).flatten))))
section
variable {X : Cx}
theorem op_repB : OpR X (binaryOp .Mult) (rRepB X.K) := by
  intro pins s σ H x y v u Q I rx ry h
  obtain ⟨l, k, xs, rfl, rfl, hT, hne, h1, h2, hz, q1, q⟩ := h
  cases rx
  obtain ⟨t, rfl⟩ := ry
  obtain ⟨its, r, ⟨⟨cls, dd, data, sl⟩, ho, hc, n, hd⟩, hs⟩ := I.tuple hT
  simp only at hc hd
  subst hc hd
  have hle : its.length = xs.length := r.length.symm
  have hn : its ≠ [] := fun e => hne (by
    rw [e] at hle
    exact List.eq_nil_of_length_eq_zero hle.symm)
  have hi : its.toArray.isEmpty = false := by
    cases its with
    | nil => exact absurd rfl hn
    | cons a b => rfl
  have hsz0 : its.toArray.size = xs.length := by rw [List.size_toArray, hle]
  have hm : ((its.toArray.size : Nat) : Int) * k ≤ 1000000 := by
    rw [hsz0]
    have a1 : ((xs.length : Nat) : Int) * k ≤ 1000 * k := Int.mul_le_mul_of_nonneg_right (by omega) (by omega)
    omega
  have flen : (List.replicate k.toNat its).flatten.length ≤ sizeLine := by
    rw [PyProof.Rows.lm_len_rep_flat, hle, sizeLine_eq]
    have a1 : k.toNat * xs.length ≤ 1000 * 1000 := Nat.mul_le_mul (by omega) hz
    omega
  have fin : ∀ (ps : List Value), ps.length ≤ sizeLine → Vals (List.replicate k.toNat xs).flatten ps → k ≠ 1 →
      ∃ v H', Inv X pins σ H' { s with heap := s.heap.push { cls := Value.type "tuple", data := Data.seq ps.toArray }, toks := s.toks } ∧ RelV v (Value.ref s.heap.objs.size) ∧ Q v H' := fun ps hps rps hk1 => by
    refine ⟨.ref s.heap.objs.size, _, I.laid (t' := s.toks) (o := .frz { cls := .type "tuple", data := .seq ps.toArray } (.tup (List.replicate k.toNat xs).flatten)) (fun b ob q => Heap.get?_push_of_some _ q) (Nat.le_refl _) ?_, rfl, q hk1 _ { cls := .type "tuple", data := .seq ps.toArray } rfl (I.hok.fresh (Nat.le_refl _))⟩
    exact ⟨Heap.get?_push_size _ rfl, by rw [rps.length]; exact hps, _, rps, IsTup.new _ _⟩
  by_cases k1 : k = 1
  · subst k1
    refine wpAny_binaryOp_repeat_ref (T := "tuple") (U := "int") (by decide) ⟨_, ho, rfl⟩ (fun s' => typeIs_int s' 1 t) noFill_tuple_mul F.fills_int_mul F.slot_int_rmul repeat_tuple F.slot_int_index.lookup
      (call_meets F.slot_int_rmul (typeIs_int s 1 t) F.entry_int_rmul (F.args_int_rmul_2 _ _) (int_rmul_tuple 1 t l its.toArray n dd sl)
        ⟨ho, rfl, ⟨_, ho, rfl⟩, call_meets F.slot_tuple_mul ⟨_, ho, rfl⟩ F.entry_tuple_mul (F.args_tuple_mul_2 _ _) (tuple_mulOne l its.toArray n dd sl t) ⟨ho, ?_⟩⟩)
    exact ⟨.ref l, H, I, rfl, q1 rfl⟩
  by_cases k0 : k = 0
  · subst k0
    refine wpAny_binaryOp_repeat_ref (T := "tuple") (U := "int") (by decide) ⟨_, ho, rfl⟩ (fun s' => typeIs_int s' 0 t) noFill_tuple_mul F.fills_int_mul F.slot_int_rmul repeat_tuple F.slot_int_index.lookup
      (call_meets F.slot_int_rmul (typeIs_int s 0 t) F.entry_int_rmul (F.args_int_rmul_2 _ _) (int_rmul_tuple 0 t l its.toArray n dd sl)
        ⟨ho, rfl, ⟨_, ho, rfl⟩, call_meets F.slot_tuple_mul ⟨_, ho, rfl⟩ F.entry_tuple_mul (F.args_tuple_mul_2 _ _) (tuple_mul0 l its.toArray n dd sl t hi) ⟨ho, ?_⟩⟩)
    exact fin [] (Nat.zero_le _) .nil k1
  have c0 : (decide (k < -(2 ^ 63)) || decide (k ≥ 2 ^ 63)) = false := by
    rw [decide_eq_false (by omega), decide_eq_false (by omega)] <;> rfl
  have c1 : (its.toArray.isEmpty || k == 1) = false := by
    rw [hi, Bool.false_or]
    exact beq_eq_false_iff_ne.mpr (by omega)
  have c2 : (decide (k ≤ 0) || its.toArray.isEmpty) = false := by
    rw [hi, Bool.or_false]
    exact decide_eq_false (by omega)
  have c4 : Builtin.Tuple.tupleTooMany (((its.toArray.size : Nat) : Int) * k) = false := by
    unfold Builtin.Tuple.tupleTooMany
    rw [sizeLine_eq]
    exact decide_eq_false (by omega)
  refine wpAny_binaryOp_repeat_ref (T := "tuple") (U := "int") (by decide) ⟨_, ho, rfl⟩ (fun s' => typeIs_int s' k t) noFill_tuple_mul F.fills_int_mul F.slot_int_rmul repeat_tuple F.slot_int_index.lookup
    (call_meets F.slot_int_rmul (typeIs_int s k t) F.entry_int_rmul (F.args_int_rmul_2 _ _) (int_rmul_tuple k t l its.toArray n dd sl)
      ⟨ho, rfl, ⟨_, ho, rfl⟩, call_meets F.slot_tuple_mul ⟨_, ho, rfl⟩ F.entry_tuple_mul (F.args_tuple_mul_2 _ _) (tuple_mulW l its.toArray n dd sl k t c0 c1 c2 (by omega) c4 (by rw [size_rep, List.size_toArray]; exact flen)) ⟨ho, ?_⟩⟩)
  rw [size_rep]
  exact fin _ flen (r.rep k.toNat) k1
end
end LS
/-! for k, v in d.items(), d a locked dict whose keys are tuples -/
namespace LS
open PySem PySem.Spec PyProof.Rows L2
/-- the pairs, each a new tuple of the key's own tuple and the value -/
def Itit (d : Addr) (o : Obj) (kvs : List (List L2.Key × V)) : It where
  go i H := H d = some (.frz o (.dT kvs)) ∧ i < kvs.length
  yld i H x H' := ∃ (T : Addr) (k : List L2.Key) (v : V) (q : Addr), kvs[i]? = some (k, v) ∧ x = .ref T ∧ H q = some (.tup (k.map kV)) ∧ H T = none ∧ H' = upd H T (.tup [.ref q, v])
  stop i H := H d = some (.frz o (.dT kvs)) ∧ kvs.length ≤ i
section
variable {X : Cx} {pins : List (Addr × Obj)} {σ : L2.St} {G : Hp} {t : Shared} {d : Addr} {o : Obj}
theorem frzTV {kvs : List (List L2.Key × V)} (J : Inv X pins σ G t) (h : G d = some (.frz o (.dT kvs))) :
    (d == sysModules) = false ∧ ∃ (es : Array DictEntry) (ep : Nat), o.data = .dict es ep ∧ t.heap.DictRaw d es ep ∧ es.size = kvs.length ∧
      ∀ (i : Nat) (k : List L2.Key) (v : V), kvs[i]? = some (k, v) → ∃ (hi : i < es.size) (q : Addr), es[i].key = .ref q ∧ RelV v es[i].val ∧ G q = some (.tup (k.map kV)) := by
  obtain ⟨e0, z, hs, xs, pr, o', es, ep, ho, hx, dat, he, _⟩ := J.hok d _ h
  have eo : o = o' := Option.some.inj (e0.symm.trans ho)
  subst eo
  have l1 : es.size = xs.length := size_of_entries he
  have l2 : kvs.length = xs.length := Paired.length pr
  refine ⟨hs, es, ep, dat, ⟨o, ho, hx, dat⟩, by omega, fun i k v e => ?_⟩
  obtain ⟨b, hb, r1, r2, r3⟩ := paired_get pr e
  have q := entry_at he i
  rw [hb] at q
  have q' : es[i]? = some (entryOfKey (tupleKind (mixKind X.prog X.w)) b) := q
  obtain ⟨hi, en⟩ := Array.getElem?_eq_some_iff.mp q'
  exact ⟨hi, b.2.1, by rw [en]; rfl, by rw [en]; exact r3, r2⟩
end
section
variable {P : Program} {w : World} {K : PySem.W.Frag} {d : Addr} {o : Obj} {es : Array DictEntry} {ep : Nat}
theorem turn_itemsT {kvs : List (List L2.Key × V)} {elts : List Expr} {kk : Nat} {tpos : Pos} (it : Addr) (hod : o.data = .dict es ep) (hn : es.size = kvs.length) :
    Turn P w K (.Tuple elts kk tpos) (Itit d o kvs) [it] it (fun i h => ∃ ok ov, IsItemIter h it d i es.size ep ok ov) where
  mem := List.mem_singleton_self it
  obj := by
    intro i h st b hb
    obtain rfl : b = it := by simpa using hb
    obtain ⟨ok, ov, e⟩ := st
    exact ⟨_, e, fun v z => nomatch z⟩
  keep := fun i h h' ⟨ok, ov, e⟩ k => ⟨ok, ov, k it (List.mem_singleton_self it) _ e⟩
  item := by
    intro X hP hw hK hc i pins t σ G E J hf st hg
    subst hP hw hK
    obtain ⟨hd, hi⟩ := hg
    obtain ⟨hs, es', ep', dat, raw, hsz, ent⟩ := frzTV J hd
    obtain ⟨rfl, rfl⟩ := dict_ep hod dat
    obtain ⟨⟨k, v⟩, hkv⟩ : ∃ p, kvs[i]? = some p := ⟨kvs[i], List.getElem?_eq_getElem hi⟩
    obtain ⟨lt, q, hkey, rv, hq⟩ := ent i k v hkv
    obtain ⟨ok, ov, st1⟩ := st
    have below : it < t.heap.objs.size := Heap.lt_size st1
    refine wpAny_pyNext_items_item_raw st1 raw lt fun h' out new hz hk => ?_
    refine ⟨_, rfl, wpAny_letOwnedTupleGo_items (s := { t with heap := h' }) out fun h'' back sb => ?_⟩
    have new2 : h''.get? t.heap.objs.size = some { cls := .type "tuple", data := .seq #[es'[i].key, es'[i].val] } := (sb.2 _ (Nat.ne_of_gt below)).trans new
    have ob : ObjOk X.prog X.w (upd G t.heap.objs.size (.tup [.ref q, v])) h'' t.heap.objs.size (.tup [.ref q, v]) :=
      ⟨by show 2 ≤ sizeLine; decide, [es'[i].key, es'[i].val], .cons hkey (.cons rv .nil), ⟨_, new2, rfl, _, rfl⟩⟩
    have J1 : Inv X pins σ (upd G t.heap.objs.size (.tup [.ref q, v])) { t with heap := h'' } :=
      J.turnedNew (t' := t.toks) (ch := [it]) (fun b ob hb e => (sb.2 b (by simpa using hb)).trans (hk b ob (by simpa using hb) e)) hf (Nat.le_refl _) ob
    refine ⟨.ref t.heap.objs.size, _, J1, rfl, ⟨_, k, v, q, hkv, rfl, hq, J.hok.fresh (Nat.le_refl _), rfl⟩, ⟨_, _, back⟩, fun b hb => ?_⟩
    obtain rfl : b = it := by simpa using hb
    exact (upd_ne (Nat.ne_of_lt below)).trans (hf b (List.mem_singleton_self b)).1
  done := by
    intro X hP hw hK hc i pins t σ G E J hf st hg
    subst hP hw hK
    obtain ⟨hd, hi⟩ := hg
    obtain ⟨f0, f1, f2, f3, f4, f5⟩ := hf it (List.mem_singleton_self it)
    obtain ⟨hs, es', ep', dat, raw, hsz, ent⟩ := frzTV J hd
    obtain ⟨rfl, rfl⟩ := dict_ep hod dat
    obtain ⟨ok, ov, st1⟩ := st
    exact wpAny_pyNext_items_end_raw (J.ok.hd hc) st1 raw (by omega) fun h' eb => ⟨rfl, J.turned (t' := t.toks) (fun b ob hb e => eb b ob hb e) f0 f1 f3 f4 f5⟩
  self := fun A i t Q E st h => let ⟨_, _, e⟩ := st; PySem.W.kcp_self e h
/-- the dict is locked -/
def iItemsT (td : TE) : TI := fun σ H R => td σ H fun x H1 => ∃ d o kvs, x = .ref d ∧ H1 d = some (.frz o (.dT kvs)) ∧ R (Itit d o kvs) H1
theorem pi_itemsT {X : Cx} {e : Expr} {td : TE} {apos cpos : Pos} {elts : List Expr} {kk : Nat} {tpos : Pos} (he : PE X e td) (hbase : attributeBase e "items" X.env (eval e X.env) = eval e X.env := by rfl) (hline : (apos.endLine == cpos.line) = true := by rfl) :
    PI X (.Tuple elts kk tpos) (.Call (.Attribute e "items" apos) [] [] cpos) (iItemsT td) := by
  constructor
  intro pins t σ G R J h
  refine wpAny_Call_method (T := "dict") (id := "dict.items") hbase rfl hline F.plainAttrs_dict F.slot_dict_items F.type_dict_items (thn (he.run pins t σ G _ J h) fun u t1 ⟨x, G1, J1, rx, d, o, kvs, ex, hd, q⟩ => ?_)
  subst ex
  obtain rfl : u = Value.ref d := rx
  obtain ⟨hs, es, ep, dat, raw, hsz, ent⟩ := frzTV J1 hd
  refine ⟨raw.typeIs, fun a ea => ?_, ?_⟩
  · cases ea
    obtain ⟨ob, e1, e2, _⟩ := raw
    exact ⟨ob, e1, e2.2.1⟩
  have J2 : Inv X pins σ G1 { t1 with heap := t1.heap.push { cls := .type "dict_items", data := .fields #[.ref d] } } := J1.kept (t' := t1.toks) fun b ob q => Heap.get?_push_of_some _ q
  have raw2 : (t1.heap.push { cls := .type "dict_items", data := .fields #[.ref d] }).DictRaw d es ep := raw.at fun _ e => Heap.get?_push_of_some _ e
  have walk : wpAny (model X.prog X.w) X.A (pyIter (.ref t1.heap.objs.size)) (PIE X pins σ (.Tuple elts kk tpos) R) X.xe { t1 with heap := t1.heap.push { cls := .type "dict_items", data := .fields #[.ref d] } } :=
    wpAny_pyIter_items_raw (d := d) ⟨_, Heap.get?_push_size _ rfl, rfl, rfl⟩ raw2 (pi_one (tk := t1.toks) J2 _ (turn_itemsT _ dat hsz) ⟨.none, .none, Heap.get?_push_size _ rfl⟩ q)
  show wpAny _ _ (callWith cpos (.builtin "dict.items") [.ref d] [] []) _ X.xe t1
  exact method_meetsIn F.slot_dict_items F.entry_dict_items rfl (PySem.evalArgs_none ⟨rfl, raw.typeIs, F.args_dict_items_1 _, _, meets_dict_items_raw d hs, ⟨es, ep, raw⟩, walk⟩)
/-- what such a loop goes through -/
def YPT (kvs : List (List L2.Key × V)) : Nat → Hp → V → Hp → Prop := fun i H x H' => ∃ (T : Addr) (k : List L2.Key) (v : V) (q : Addr), kvs[i]? = some (k, v) ∧ x = .ref T ∧ H q = some (.tup (k.map kV)) ∧ H T = none ∧ H' = upd H T (.tup [.ref q, v])
theorem walk_itemsT {d : Addr} {o : Obj} {kvs : List (List L2.Key × V)} : Walk (Itit d o kvs) kvs.length (fun H => H d = some (.frz o (.dT kvs))) (YPT kvs) where
  goes i H lt h := ⟨h, lt⟩
  stops H h := ⟨h, Nat.le_refl _⟩
  yields i H x H' _ _ y := y
end
end LS
set_option maxHeartbeats 8000000
namespace LS
open PySem PySem.Spec PyProof.Rows L2
/-! tuples joined and cut, whatever is new -/
theorem cat_any {K : PySem.W.Frag} {H : Hp} {Q : VK} {a b : Addr} {xs ys : List V} (ha : SqT K H a xs) (hb : SqT K H b ys) (hl : xs.length + ys.length ≤ sizeLine) (k : ∀ p H', Same H H' → SqT K H' p (xs ++ ys) → Q (.ref p) H') : rCatA K (.ref a) (.ref b) H Q := by
  refine ⟨a, b, xs, ys, rfl, rfl, ha, hb, hl, fun z => ?_, fun _ z => ?_, fun _ _ p np => ?_⟩
  · subst z
    exact k b H (Same.refl H) hb
  · subst z
    refine k a H (Same.refl H) ?_
    rw [List.append_nil]
    exact ha
  · exact k p _ (same_upd np (Same.refl H)) (SqT.of upd_same)
theorem sl_any {K : PySem.W.Frag} {H : Hp} {Q : VK} {a : Addr} {xs : List V} {lo hi : Option Int} (ha : SqT K H a xs) (k : ∀ p H', Same H H' → SqT K H' p (cutV xs lo hi) → Q (.ref p) H') : rSlA K (.ref a) lo hi H Q := by
  refine ⟨a, xs, rfl, ha, fun z => ?_, fun _ p np => ?_⟩
  · refine k a H (Same.refl H) ?_
    unfold cutV
    rw [z.1, z.2, List.drop_zero, Nat.sub_zero, List.take_length]
    exact ha
  · exact k p _ (same_upd np (Same.refl H)) (SqT.of upd_same)
theorem cut_lo (xs : List V) (i : Nat) (h : i ≤ xs.length) : cutV xs none (some ((i : Nat) : Int)) = xs.take i := by
  unfold cutV
  rw [HT.sIx_none, HT.sIx_nat, List.drop_zero, Nat.sub_zero, Nat.min_eq_left h]
theorem cut_hi (xs : List V) (i : Nat) (h : i ≤ xs.length) : cutV xs (some ((i : Nat) : Int)) none = xs.drop i := by
  unfold cutV
  rw [HT.sIx_none, HT.sIx_nat, Nat.min_eq_left h, List.take_of_length_le (by rw [List.length_drop]; omega)]
end LS
namespace LS
open PySem PySem.Spec PyProof.Rows L2
/-! a result at a place; what leads elsewhere then -/
abbrev sWRes : Stmt := top i_with_result
theorem set_cut {α : Type} (r : α) : ∀ (xs : List α) (i : Nat), i < xs.length → xs.take i ++ [r] ++ xs.drop (i + 1) = xs.set i r
  | [], i, h => absurd h (Nat.not_lt_zero _)
  | x :: xs, 0, _ => rfl
  | x :: xs, i + 1, h => by
    have ih := set_cut r xs i (by simpa using h)
    show x :: (xs.take i ++ [r] ++ xs.drop (i + 1)) = x :: xs.set i r
    rw [ih]
theorem set_in {ms ws : List Str} {i : Nat} {r : Str} (h : ws ∈ allF ms) (hr : r ∈ resWords) : ws.set i r ∈ allF ms := by
  obtain ⟨h1, h2⟩ := allF_words ws h
  refine allF_in _ ms _ rfl (by rw [List.length_set]; exact h1) fun w hw => ?_
  rcases List.mem_or_eq_of_mem_set hw with q | q
  · exact h2 w q
  · rw [q]; exact hr
def spWRes (K : PySem.W.Frag) : Sp := fun vs H Q _ => ∃ (t : Addr) (ws : List Str) (i : Nat) (r : Str), vs = [.ref t, .int ((i : Nat) : Int), .str r] ∧ SqT K H t (ws.map V.str) ∧ i < ws.length ∧ ws.length ≤ 900 ∧ ∀ p H', Same H H' → H' p = some (.tup ((ws.set i r).map V.str)) → Q (.ref p) H'
section
variable {P : Program} {w : World} {K : PySem.W.Frag} {mg : Str → Option Value} {base : Heap} {CR CS : Addr}
theorem scWRes : FnScope n_with_result ["results", "place", "result"] (defScope sWRes) := ⟨rfl, rfl, rfl, by decide +kernel, rfl, by decide +kernel, by decide +kernel⟩
theorem cat_new {H : Hp} {Q : VK} {a b : Addr} {xs ys : List V} (ha : SqT K H a xs) (hb : SqT K H b ys) (hx : xs ≠ []) (hl : xs.length + ys.length ≤ sizeLine) (ht : ys = [] → H a = some (.tup xs)) (k : ∀ p H', Same H H' → H' p = some (.tup (xs ++ ys)) → Q (.ref p) H') : rCatA K (.ref a) (.ref b) H Q := by
  refine ⟨a, b, xs, ys, rfl, rfl, ha, hb, hl, fun z => absurd z hx, fun _ z => ?_, fun _ _ p np => ?_⟩
  · subst z
    refine k a H (Same.refl H) ?_
    rw [List.append_nil]
    exact ht rfl
  · exact k p _ (same_upd np (Same.refl H)) upd_same
theorem ok_wres {f : Addr} {fd : FuncData} (F : Fun K "with_result" "with_result" sWRes f fd) : FnOk P w K mg base CX0 1 f fd ["results", "place", "result"] (spWRes K) := by
  refine F.ok scWRes (fun vs H Q E h => ?_) (fun cdv A outer s H vs Q E hr h => ?_)
  · obtain ⟨t, ws, i, r, rfl, _⟩ := h
    rfl
  · obtain ⟨t, ws, i, r, rfl, ht, hi, hl, k⟩ := h
    have hs2 := sizeLine_eq
    refine ⟨_, pss_one (ps_ret (pe_op op_catA (pe_op op_catA (pe_slice sl_tupA (pv 0) po_none (po_some (pv 1))) (pe_tup (pa_cons (pv 2) pa_nil))) (pe_slice sl_tupA (pv 0) (po_some (pe_op op_add (pv 1) pe_int)) po_none))), ?_⟩
    refine ⟨_, rfl, _, rfl, _, rfl, sl_any ht fun p1 H1 S1 h1 => ?_⟩
    rw [cut_lo _ _ (by rw [List.length_map]; omega)] at h1
    refine ⟨_, rfl, by show 1 ≤ sizeLine; omega, fun p2 n2 => ?_⟩
    have S2 : Same H1 (upd H1 p2 (.tup [.str r])) := same_upd n2 (Same.refl H1)
    have e2 : upd H1 p2 (.tup [.str r]) p2 = some (.tup [.str r]) := upd_same
    generalize upd H1 p2 (.tup [.str r]) = H2 at *
    have l1 : (List.take i (ws.map V.str)).length = i := by rw [List.length_take, List.length_map]; omega
    have fin : ∀ p3 H3, Same H H3 → H3 p3 = some (.tup (List.take i (ws.map V.str) ++ [.str r])) → tSl (rSlA K) (tVar 0) (tPart (tOp (rI0 fun i j => V.int (i + j)) (tVar 1) (tC (V.int 1)))) tNoPart (L2.start n_with_result [V.ref t, V.int ((i : Nat) : Int), V.str r]) H3 (fun y H4 => rCatA K (.ref p3) y H4 Q) := by
      intro p3 H3 S3 h3
      refine ⟨_, rfl, _, rfl, _, _, rfl, rfl, _, rfl, ?_⟩
      unfold tNoPart
      refine sl_any (same_tup S3 ht) fun p4 H4 S4 h4 => ?_
      rw [show ((i : Nat) : Int) + 1 = ((i + 1 : Nat) : Int) by omega, cut_hi _ _ (by rw [List.length_map]; omega)] at h4
      refine cat_new (SqT.of (S4 _ _ h3)) h4 (by simp) ?_ (fun _ => S4 _ _ h3) fun p5 H5 S5 h5 => ?_
      · rw [List.length_append, l1, List.length_drop, List.length_map]
        show i + 1 + _ ≤ _
        omega
      · refine k p5 H5 (S3.trans (S4.trans S5)) ?_
        rw [h5, set_cut (V.str r) _ _ (by rw [List.length_map]; exact hi), List.map_set]
    refine ⟨p1, p2, _, _, rfl, rfl, same_tup S2 h1, SqT.of e2, by rw [l1]; show i + 1 ≤ _; omega, fun z => ?_, fun _ z => (nomatch z), fun _ _ p3 n3 => ?_⟩
    · refine fin p2 _ (S1.trans S2) ?_
      rw [z]
      exact e2
    · exact fin p3 _ (S1.trans (S2.trans (same_upd n3 (Same.refl H2)))) upd_same
end
end LS
set_option maxHeartbeats 4000000
namespace LS
open PySem PySem.Spec PyProof.Rows L2
abbrev sLeads : Stmt := top i_leads
section
variable {P : Program} {w : World} {K : PySem.W.Frag} {mg : Str → Option Value} {base : Heap} {CR CS CU CT : Addr}
theorem scLeads : FnScope n_leads ["stack", "answers"] (defScope sLeads) := ⟨rfl, rfl, rfl, by decide +kernel, rfl, by decide +kernel, by decide +kernel⟩
theorem ok_leads {f fO fW : Addr} {fd fdO fdW : FuncData} (F : Fun K "leads" "leads" sLeads f fd) (GO : FnOk P w K mg base CX0 9 fO fdO ["stack", "answers"] (spWhole K CR CS CU)) (gO : mg "whole_run" = some (.ref fO)) (kO : PySem.W.keepIn K (.ref fO) = true) (bO : Binds K fdO ["stack", "answers"] [])
    (GW : FnOk P w K mg base CX0 1 fW fdW ["run"] (spWordOf CU)) (gW : mg "word_of" = some (.ref fW)) (kW : PySem.W.keepIn K (.ref fW) = true) (bW : Binds K fdW ["run"] []) : FnOk P w K mg base CX0 10 f fd ["stack", "answers"] (spLeads K CR CS) := by
  refine F.ok scLeads (fun vs H Q E h => ?_) (fun cdv A outer s H vs Q E hr h => ?_)
  · obtain ⟨sp, A', es, tl, rfl, _⟩ := h
    rfl
  · obtain ⟨sp, A', es, tl, rfl, hA, k⟩ := h
    refine ⟨_, pss_one (ps_ret (pe_call GW (hr.mono (by decide)) (by rfl) gW kW bW .nil pass0 (pa_cons (pe_call GO hr (by rfl) gO kO bO .nil pass0 (pa_cons (pv 0) (pa_cons (pv 1) pa_nil))) pa_nil))), ?_⟩
    exact ⟨_, rfl, _, rfl, sp, A', es, tl, rfl, hA, fun p nu t H' B U => ⟨p, nu, t, _, _, rfl, U, k H' B.S⟩⟩
end
end LS
set_option maxHeartbeats 8000000
namespace LS
open PySem PySem.Spec PyProof.Rows L2
/-- known results of some of the names -/
structure KnownAt (H : Hp) (d : Addr) (kd : List (Key × V)) (ks ms : List Str) : Prop where
  rd : Rd H d (.dK kd)
  keys : kd.map (·.1) = ks.map Sum.inr
  few : ks.length ≤ 12
  sub : ∀ z ∈ ks, z ∈ ms
  words : ∀ z ∈ ks, ∃ w ∈ resWords, valV kd (.inr z) = some (.str w)
  flat : ∀ p ∈ kd, flatV p.2 = true
theorem KnownAt.same {H H' : Hp} {d : Addr} {kd : List (Key × V)} {ks ms : List Str} (h : KnownAt H d kd ks ms) (S : Same H H') : KnownAt H' d kd ks ms := ⟨rd_same S h.rd, h.keys, h.few, h.sub, h.words, h.flat⟩
theorem KnownAt.none {H : Hp} {d : Addr} {kd : List (Key × V)} {ks ms : List Str} (h : KnownAt H d kd ks ms) {z : Str} (hz : z ∉ ks) : valV kd (.inr z) = none := by
  cases q : valV kd (.inr z) with
  | none => rfl
  | some x =>
    have a := valV_any (.inr z) kd
    rw [q, Option.isSome_some, List.any_eq_true] at a
    obtain ⟨y, hy, e⟩ := a
    have m : y.1 ∈ kd.map (·.1) := List.mem_map.mpr ⟨y, hy, rfl⟩
    rw [h.keys] at m
    obtain ⟨u, hu, eu⟩ := List.mem_map.mp m
    have e2 : (Sum.inr u : Key) = .inr z := eu.trans (of_decide_eq_true e)
    exact absurd (Sum.inr.inj e2 ▸ hu) hz
theorem KnownAt.ok {H : Hp} {d : Addr} {kd : List (Key × V)} {ks ms : List Str} (h : KnownAt H d kd ks ms) (ns : List Str) : KdOk kd ns := fun z _ => by
  by_cases hz : z ∈ ks
  · exact .inr (h.words z hz)
  · exact .inl (h.none hz)
theorem KnownAt.isSome {H : Hp} {d : Addr} {kd : List (Key × V)} {ks ms : List Str} (h : KnownAt H d kd ks ms) (z : Str) : (valV kd (.inr z)).isSome = decide (z ∈ ks) := by
  by_cases hz : z ∈ ks
  · obtain ⟨w, _, e⟩ := h.words z hz
    rw [e, decide_eq_true hz]
    rfl
  · rw [h.none hz, decide_eq_false hz]
    rfl
def spSettW (K : PySem.W.Frag) (CR CS : Addr) : Sp := fun vs H Q _ => ∃ (sp d : Addr) (es : List Ent) (ms ks : List Str) (kd : List (Key × V)), vs = [.ref sp, .ref d] ∧ ModAt K CR CS H sp es ms ∧ KnownAt H d kd ks ms ∧ ∀ H', Same H H' → Q (settW ((withF kd ms).map (wordL es ms))) H'
end LS
namespace LS
open PySem PySem.Spec PyProof.Rows L2
/-! the class Questions: what it holds; how it begins -/
abbrev sQInit : Stmt := inClass (top i_Questions) 0
abbrev sQSett : Stmt := inClass (top i_Questions) 1
abbrev sQFew : Stmt := inClass (top i_Questions) 2
abbrev sQFrom : Stmt := inClass (top i_Questions) 3
structure QuK (K : PySem.W.Frag) (CQ : Addr) : Prop where
  cl : Cls K CQ
  nS : NoAttr K CQ "start"
  nW : NoAttr K CQ "words"
  nN : NoAttr K CQ "numbers"
def qF (st wa na : Addr) : List (Str × V) := [("start", .ref st), ("words", .ref wa), ("numbers", .ref na)]
/-- all but two objects are kept -/
def But2 (wa na : Addr) (H H' : Hp) : Prop := ∀ b o, b ≠ wa → b ≠ na → H b = some o → H' b = some o
theorem But2.refl (wa na : Addr) (H : Hp) : But2 wa na H H := fun _ _ _ _ h => h
theorem But2.of {wa na : Addr} {H H' : Hp} (S : Same H H') : But2 wa na H H' := fun b o _ _ h => S b o h
theorem But2.trans {wa na : Addr} {H H' H'' : Hp} (S : But2 wa na H H') (T : But2 wa na H' H'') : But2 wa na H H'' := fun b o h1 h2 h => T b o h1 h2 (S b o h1 h2 h)
/-- the table of where it leads -/
structure WInv (f : List Str → Str) (n : Nat) (kvs : List (NestedKey × V)) : Prop where
  full : ∀ ws : List Str, ws.length = n → (∀ w ∈ ws, w ∈ resWords) → (valV kvs (keyT (ws.map some))).isSome = true
  ok : ∀ k v, valV kvs k = some v → ∃ t, VT n t ∧ k = keyT t ∧ v = .str (settS f t)
structure NInv (f : List Str → Str) (n : Nat) (kvs : List (NestedKey × V)) : Prop where
  ok : ∀ k v, valV kvs k = some v → ∃ t, VT n t ∧ k = keyT t ∧ v = .int ((few f t : Nat) : Int)
structure QAt (P : Program) (w : World) (K : PySem.W.Frag) (CQ : Addr) (H : Hp) (q wa na : Addr) (f : List Str → Str) (n : Nat) : Prop where
  ins : ∃ dx st, H q = some (.ins CQ dx (qF st wa na))
  words : ∃ kvs, DN P w K H wa kvs ∧ WInv f n kvs
  nums : ∃ kvs, DN P w K H na kvs ∧ NInv f n kvs
  ne : wa ≠ na
  few : n ≤ 6
  two : ∀ ws, f ws ≠ "open"
section
variable {P : Program} {w : World} {K : PySem.W.Frag} {mg : Str → Option Value} {base : Heap} {CR CS CQ : Addr}
theorem WInv.val {f : List Str → Str} {n : Nat} {kvs : List (NestedKey × V)} (W : WInv f n kvs) {t : Told} {v : V} (h : valV kvs (keyT t) = some v) : v = .str (settS f t) := by
  obtain ⟨u, _, e1, e2⟩ := W.ok _ _ h
  rw [keyT_inj e1]
  exact e2
theorem NInv.val {f : List Str → Str} {n : Nat} {kvs : List (NestedKey × V)} (W : NInv f n kvs) {t : Told} {v : V} (h : valV kvs (keyT t) = some v) : v = .int ((few f t : Nat) : Int) := by
  obtain ⟨u, _, e1, e2⟩ := W.ok _ _ h
  rw [keyT_inj e1]
  exact e2
theorem WInv.put {f : List Str → Str} {n : Nat} {kvs : List (NestedKey × V)} (W : WInv f n kvs) {t : Told} (h : VT n t) : WInv f n (putK kvs (keyT t) (.str (settS f t))) := by
  refine ⟨fun ws h1 h2 => ?_, fun k v q => ?_⟩
  · rw [valV_put]
    split
    · rfl
    · exact W.full ws h1 h2
  · rw [valV_put] at q
    split at q
    · next e =>
      cases q
      exact ⟨t, h, e, rfl⟩
    · exact W.ok k v q
theorem NInv.put {f : List Str → Str} {n : Nat} {kvs : List (NestedKey × V)} (W : NInv f n kvs) {t : Told} (h : VT n t) : NInv f n (putK kvs (keyT t) (.int ((LS.few f t : Nat) : Int))) := by
  refine ⟨fun k v q => ?_⟩
  rw [valV_put] at q
  split at q
  · next e =>
    cases q
    exact ⟨t, h, e, rfl⟩
  · exact W.ok k v q
theorem WInv.small {f : List Str → Str} {n : Nat} {H : Hp} {a : Addr} {kvs : List (NestedKey × V)} (W : WInv f n kvs) (d : DN P w K H a kvs) (hn : n ≤ 6) : kvs.length < sizeLine := by
  have := told_few hn d.nodup fun k v q => (by obtain ⟨t, h1, h2, _⟩ := W.ok k v q; exact ⟨t, h1, h2⟩)
  rw [sizeLine_eq]
  omega
theorem NInv.small {f : List Str → Str} {n : Nat} {H : Hp} {a : Addr} {kvs : List (NestedKey × V)} (W : NInv f n kvs) (d : DN P w K H a kvs) (hn : n ≤ 6) : kvs.length < sizeLine := by
  have := told_few hn d.nodup fun k v q => (by obtain ⟨t, h1, h2, _⟩ := W.ok k v q; exact ⟨t, h1, h2⟩)
  rw [sizeLine_eq]
  omega
theorem WInv.hole {f : List Str → Str} {n : Nat} {kvs : List (NestedKey × V)} (W : WInv f n kvs) {t : Told} (h : VT n t) (hv : valV kvs (keyT t) = none) : ∃ i : Nat, t[i]? = some none ∧ ∀ j : Nat, j < i → ∃ r, t[j]? = some (some r) := by
  have ex : ∃ i : Nat, t[i]? = some none := Classical.byContradiction fun c => by
    have e : t = (t.map fun o => o.getD "").map some := by
      rw [List.map_map]
      refine List.ext_getElem? fun i => ?_
      rw [List.getElem?_map]
      cases z : t[i]? with
      | none => rfl
      | some o =>
        cases o with
        | none => exact absurd ⟨i, z⟩ c
        | some r => rfl
    have := W.full (t.map fun o => o.getD "") (by rw [List.length_map]; exact h.1) fun x hx => by
      obtain ⟨o, ho, rfl⟩ := List.mem_map.mp hx
      cases o with
      | none => exact absurd (List.mem_iff_getElem?.mp ho) c
      | some r => exact h.2 r ho
    rw [← e, hv] at this
    cases this
  obtain ⟨i, hi⟩ := ex
  induction i using Nat.strongRecOn with
  | _ i ih =>
    by_cases c : ∃ j : Nat, j < i ∧ t[j]? = some none
    · obtain ⟨j, hj, e⟩ := c
      exact ih j hj e
    · refine ⟨i, hi, fun j hj => ?_⟩
      have hl : j < t.length := Nat.lt_trans hj (List.getElem?_eq_some_iff.mp hi).1
      cases z : t[j]? with
      | none => rw [List.getElem?_eq_none_iff] at z; omega
      | some o =>
        cases o with
        | none => exact absurd ⟨j, hj, z⟩ c
        | some r => exact ⟨r, rfl⟩
theorem QAt.same {H H' : Hp} {q wa na : Addr} {f : List Str → Str} {n : Nat} (h : QAt P w K CQ H q wa na f n) (S : Same H H') : QAt P w K CQ H' q wa na f n := by
  obtain ⟨⟨dx, st, h1⟩, ⟨kw, h2, h3⟩, ⟨kn, h4, h5⟩, h6, h7, h8⟩ := h
  exact ⟨⟨dx, st, S _ _ h1⟩, ⟨kw, h2.same S, h3⟩, ⟨kn, h4.same S, h5⟩, h6, h7, h8⟩
theorem QAt.bar {H H' : Hp} {q wa na p : Addr} {xs : List V} {f : List Str → Str} {n : Nat} (h : QAt P w K CQ H q wa na f n) (S : But2 wa na H H') (hb : BarT H p xs) : BarT H' p xs := by
  obtain ⟨o, n1, e⟩ := hb
  obtain ⟨kw, h2, _⟩ := h.words
  obtain ⟨kn, h4, _⟩ := h.nums
  obtain ⟨e1, d1⟩ := h2.obj
  obtain ⟨e2, d2⟩ := h4.obj
  exact ⟨o, n1, S p _ (ne_of e d1 fun z => nomatch z) (ne_of e d2 fun z => nomatch z) e⟩
theorem QAt.lst {H H' : Hp} {q wa na p : Addr} {xs : List V} {f : List Str → Str} {n : Nat} (h : QAt P w K CQ H q wa na f n) (S : But2 wa na H H') (e : H p = some (.lst xs)) : H' p = some (.lst xs) := by
  obtain ⟨kw, h2, _⟩ := h.words
  obtain ⟨kn, h4, _⟩ := h.nums
  obtain ⟨e1, d1⟩ := h2.obj
  obtain ⟨e2, d2⟩ := h4.obj
  exact S p _ (ne_of e d1 fun z => nomatch z) (ne_of e d2 fun z => nomatch z) e
theorem QAt.updL {H : Hp} {q wa na B : Addr} {xs : List V} {f : List Str → Str} {n : Nat} {o : HO} (h : QAt P w K CQ H q wa na f n) (e : H B = some (.lst xs)) : QAt P w K CQ (upd H B o) q wa na f n := by
  obtain ⟨⟨dx, st, h1⟩, ⟨kw, h2, h3⟩, ⟨kn, h4, h5⟩, h6, h7, h8⟩ := h
  have KT : KeepT H (upd H B o) := KeepT.upd e (fun _ z => nomatch z) (fun _ _ z => nomatch z)
  obtain ⟨_, d1⟩ := h2.obj
  obtain ⟨_, d2⟩ := h4.obj
  exact ⟨⟨dx, st, by rw [upd_ne (ne_of h1 e fun z => nomatch z)]; exact h1⟩, ⟨kw, h2.keep KT (upd_ne (ne_of d1 e fun z => nomatch z)), h3⟩, ⟨kn, h4.keep KT (upd_ne (ne_of d2 e fun z => nomatch z)), h5⟩, h6, h7, h8⟩
theorem But2.updN {wa na B : Addr} {H G : Hp} {o : HO} (S : But2 wa na H G) (h : H B = none) : But2 wa na H (upd G B o) := fun b z h1 h2 q => by
  rw [upd_ne (fun e => by rw [e, h] at q; cases q)]
  exact S b z h1 h2 q
/-- the table of words is written -/
theorem QAt.putW {H H' : Hp} {q wa na : Addr} {f : List Str → Str} {n : Nat} {kw : List (NestedKey × V)} (h : QAt P w K CQ H q wa na f n) (e : ∀ c, c ≠ wa → H' c = H c) (d : DN P w K H' wa kw) (Wi : WInv f n kw) : QAt P w K CQ H' q wa na f n ∧ But2 wa na H H' := by
  obtain ⟨⟨dx, st, h1⟩, ⟨kw0, h2, h3⟩, ⟨kn, h4, h5⟩, h6, h7, h8⟩ := h
  obtain ⟨_, d1⟩ := h2.obj
  have KT : KeepT H H' := fun b => ⟨fun xs z => by rw [e b (ne_of z d1 fun z => nomatch z)]; exact z, fun o xs z => by rw [e b (ne_of z d1 fun z => nomatch z)]; exact z⟩
  exact ⟨⟨⟨dx, st, by rw [e q (ne_of h1 d1 fun z => nomatch z)]; exact h1⟩, ⟨kw, d, Wi⟩, ⟨kn, h4.keep KT (e na (Ne.symm h6)), h5⟩, h6, h7, h8⟩, fun b o b1 _ z => by rw [e b b1]; exact z⟩
theorem QAt.putN {H H' : Hp} {q wa na : Addr} {f : List Str → Str} {n : Nat} {kn : List (NestedKey × V)} (h : QAt P w K CQ H q wa na f n) (e : ∀ c, c ≠ na → H' c = H c) (d : DN P w K H' na kn) (Ni : NInv f n kn) : QAt P w K CQ H' q wa na f n ∧ But2 wa na H H' := by
  obtain ⟨⟨dx, st, h1⟩, ⟨kw0, h2, h3⟩, ⟨kn0, h4, h5⟩, h6, h7, h8⟩ := h
  obtain ⟨_, d1⟩ := h4.obj
  have KT : KeepT H H' := fun b => ⟨fun xs z => by rw [e b (ne_of z d1 fun z => nomatch z)]; exact z, fun o xs z => by rw [e b (ne_of z d1 fun z => nomatch z)]; exact z⟩
  exact ⟨⟨⟨dx, st, by rw [e q (ne_of h1 d1 fun z => nomatch z)]; exact h1⟩, ⟨kw0, h2.keep KT (e wa h6), h3⟩, ⟨kn, d, Ni⟩, h6, h7, h8⟩, fun b o _ b1 z => by rw [e b b1]; exact z⟩
theorem told_get {t : Told} {i : Nat} {o : Option Str} (h : t[i]? = some o) : (t.map tV)[i]? = some (tV o) := by rw [List.getElem?_map, h]; rfl
/-- a result among what is told -/
def spWResB (K : PySem.W.Frag) : Sp := fun vs H Q _ => ∃ (a : Addr) (t : Told) (i : Nat) (r : Str), vs = [.ref a, .int ((i : Nat) : Int), .str r] ∧ SqT K H a (t.map tV) ∧ i < t.length ∧ t.length ≤ 900 ∧ ∀ p H', Same H H' → BarT H' p ((t.set i (some r)).map tV) → Q (.ref p) H'
theorem ok_wresB {f : Addr} {fd : FuncData} (F : Fun K "with_result" "with_result" sWRes f fd) : FnOk P w K mg base CX0 1 f fd ["results", "place", "result"] (spWResB K) := by
  refine F.ok scWRes (fun vs H Q E h => ?_) (fun cdv A outer s H vs Q E hr h => ?_)
  · obtain ⟨t, ws, i, r, rfl, _⟩ := h
    rfl
  · obtain ⟨a, t, i, r, rfl, ht, hi, hl, k⟩ := h
    have hs2 := sizeLine_eq
    refine ⟨_, pss_one (ps_ret (pe_op (r := rCatB K) op_catB (pe_op (r := rCatB K) op_catB (pe_slice sl_tupA (pv 0) po_none (po_some (pv 1))) (pe_tupB (pa_cons (pv 2) pa_nil))) (pe_slice sl_tupA (pv 0) (po_some (pe_op op_add (pv 1) pe_int)) po_none))), ?_⟩
    refine ⟨_, rfl, _, rfl, _, rfl, sl_any ht fun p1 H1 S1 h1 => ?_⟩
    rw [cut_lo _ _ (by rw [List.length_map]; omega)] at h1
    refine ⟨_, rfl, by show 1 ≤ sizeLine; omega, fun p2 o2 d2 n2 => ?_⟩
    have S2 : Same H1 (upd H1 p2 (.frz o2 (.tup [.str r]))) := same_upd n2 (Same.refl H1)
    have e2 : BarT (upd H1 p2 (.frz o2 (.tup [.str r]))) p2 [.str r] := ⟨o2, d2, upd_same⟩
    generalize upd H1 p2 (.frz o2 (.tup [.str r])) = H2 at *
    have l1 : (List.take i (t.map tV)).length = i := by rw [List.length_take, List.length_map]; omega
    have fin : ∀ p3 H3, Same H H3 → BarT H3 p3 (List.take i (t.map tV) ++ [.str r]) → tSl (rSlA K) (tVar 0) (tPart (tOp (rI0 fun i j => V.int (i + j)) (tVar 1) (tC (V.int 1)))) tNoPart (L2.start n_with_result [V.ref a, V.int ((i : Nat) : Int), V.str r]) H3 (fun y H4 => rCatB K (.ref p3) y H4 Q) := by
      intro p3 H3 S3 h3
      refine ⟨_, rfl, _, rfl, _, _, rfl, rfl, _, rfl, ?_⟩
      unfold tNoPart
      refine sl_any (same_tup S3 ht) fun p4 H4 S4 h4 => ?_
      rw [show ((i : Nat) : Int) + 1 = ((i + 1 : Nat) : Int) by omega, cut_hi _ _ (by rw [List.length_map]; omega)] at h4
      have ee : List.take i (t.map tV) ++ [V.str r] ++ List.drop (i + 1) (t.map tV) = (t.set i (some r)).map tV := by
        rw [set_cut (V.str r) _ _ (by rw [List.length_map]; exact hi), List.map_set]
        rfl
      refine ⟨p3, p4, _, _, rfl, rfl, (h3.same S4).sqt, h4, ?_, fun z => ?_, fun _ z => ?_, fun _ _ p o dn np => ?_⟩
      · rw [List.length_append, l1, List.length_drop, List.length_map]
        show i + 1 + _ ≤ _
        omega
      · exact absurd z (by simp)
      · refine k p3 H4 (S3.trans S4) ?_
        rw [← ee, z, List.append_nil]
        exact h3.same S4
      · refine k p _ (S3.trans (S4.trans (same_upd np (Same.refl H4)))) ?_
        rw [← ee]
        exact ⟨o, dn, upd_same⟩
    refine ⟨p1, p2, _, _, rfl, rfl, same_tup S2 h1, e2.sqt, by rw [l1]; show i + 1 ≤ _; omega, fun z => ?_, fun _ z => (nomatch z), fun _ _ p3 o3 d3 n3 => ?_⟩
    · refine fin p2 _ (S1.trans S2) ?_
      rw [z]
      exact e2
    · exact fin p3 _ (S1.trans (S2.trans (same_upd n3 (Same.refl H2)))) ⟨o3, d3, upd_same⟩
end
end LS
namespace LS
open PySem PySem.Spec PyProof.Rows L2
/-! where it is settled to lead, by a table that grows -/
def spQSett (P : Program) (w : World) (K : PySem.W.Frag) (CQ : Addr) (m : Nat) : Sp := fun vs H Q _ => ∃ (q wa na a : Addr) (f : List Str → Str) (n : Nat) (t : Told), vs = [.ref q, .ref a] ∧ QAt P w K CQ H q wa na f n ∧ BarT H a (t.map tV) ∧ VT n t ∧ nn t < m ∧
  ∀ H', But2 wa na H H' → QAt P w K CQ H' q wa na f n → Q (.str (settS f t)) H'
theorem tV_flat (t : Told) : (t.map tV).all flatV = true := by
  rw [List.all_eq_true]
  intro x hx
  obtain ⟨o, _, rfl⟩ := List.mem_map.mp hx
  cases o <;> rfl
theorem resW4 : resWords = (["yes", "no", "skip", "gone"] : List Str) := rfl
theorem cnt_all {c0 c1 c2 c3 : Str} : (([c0, c1, c2, c3].map V.str).countP (fun y => eqV y (.str c0)) = 4) ↔ (c1 = c0 ∧ c2 = c0 ∧ c3 = c0) := by
  have e : ∀ a b : Str, eqV (.str a) (.str b) = decide (a = b) := fun a b => by
    by_cases h : a = b
    · subst h; simp [eqV]
    · simp [eqV, h]
  simp only [List.map_cons, List.map_nil, List.countP_cons, List.countP_nil, e]
  by_cases h1 : c1 = c0 <;> by_cases h2 : c2 = c0 <;> by_cases h3 : c3 = c0 <;> simp [h1, h2, h3]
section
variable {P : Program} {w : World} {K : PySem.W.Frag} {mg : Str → Option Value} {base : Heap} {CR CS CQ : Addr}
theorem scQSett : FnScope n_Questions_settled_word ["self", "told"] (defScope sQSett) := ⟨rfl, rfl, rfl, by decide +kernel, rfl, by decide +kernel, by decide +kernel⟩
theorem qlk_w {st wa na : Addr} : (qF st wa na).lookup ("words" : Str) = some (.ref wa) := by
  unfold qF
  have h1 : (("words" : Str) == ("start" : Str)) = false := by decide +kernel
  simp [List.lookup, h1]
theorem qlk_s {st wa na : Addr} : (qF st wa na).lookup ("start" : Str) = some (.ref st) := by
  unfold qF
  simp [List.lookup]
theorem qlk_n {st wa na : Addr} : (qF st wa na).lookup ("numbers" : Str) = some (.ref na) := by
  unfold qF
  have h1 : (("numbers" : Str) == ("start" : Str)) = false := by decide +kernel
  have h2 : (("numbers" : Str) == ("words" : Str)) = false := by decide +kernel
  simp [List.lookup, h1, h2]
theorem qlk_none {st wa na : Addr} {x : Str} (h : ((x == ("start" : Str)) || (x == ("words" : Str)) || (x == ("numbers" : Str))) = false) : (qF st wa na).lookup x = none := by
  unfold qF
  simp only [Bool.or_eq_false_iff] at h
  obtain ⟨⟨h1, h2⟩, h3⟩ := h
  simp [List.lookup, h1, h2, h3]
theorem ok_qsett {f0 : Addr} {fd : FuncData} (F : Fun K "settled_word" "Questions.settled_word" sQSett f0 fd) (mF : Meth K CQ "settled_word" f0) (bF : Binds K fd ["self", "told"] []) (T : QuK K CQ)
    (W : DefK P w K mg base CX0 1 "with_result" ["results", "place", "result"] (spWResB K)) (gR : ∃ a, mg "RESULTS" = some (.ref a) ∧ ∀ H, SqT K H a (resWords.map V.str)) (mL : mg "len" = none) :
    ∀ m : Nat, FnOk P w K mg base CX0 (m + 1) f0 fd ["self", "told"] (spQSett P w K CQ m) := by
  obtain ⟨aR, gR, hR⟩ := gR
  intro m
  induction m with
  | zero =>
    refine F.ok scQSett (fun vs H Q E h => ?_) (fun cdv A outer s H vs Q E hr h => ?_)
    · obtain ⟨q, wa, na, a, f, n, t, rfl, _⟩ := h
      rfl
    · obtain ⟨q, wa, na, a, f, n, t, rfl, _, _, _, h, _⟩ := h
      omega
  | succ m ih =>
    refine F.ok scQSett (fun vs H Q E h => ?_) (fun cdv A outer s H vs Q E hr h => ?_)
    · obtain ⟨q, wa, na, a, f, n, t, rfl, _⟩ := h
      rfl
    · obtain ⟨q, wa, na, a, f, n, t, rfl, hQ, hb, hv, hm, k⟩ := h
      have hu9 : (A.deeper (PyProof.Rows.envOfC "Questions.settled_word" (defScope sQSett) s.heap.objs.size f0 cdv)).units + 9 < cLine := by have := hr.un; omega
      have hs2 := sizeLine_eq
      refine ⟨_, pss_cons (ps_if (pt_cmp (pc_nnotin hu9 (pv 1) (pe_fld (pv 0) rfl)) (by rfl))
          (pss_cons (ps_set (i := 2) scQSett.nd rfl (.inr rfl) (pe_bmT PySem.F.slot_tuple_index PySem.F.type_tuple_index mt_tup_indexF (pv 1) (pa_cons pe_non pa_nil)))
          (pss_cons (ps_setLc (i := 3) (own := [("result", 4)]) (g := gName 4) (by rfl) scQSett.nd rfl rfl (by rfl) (pi_tup (pe_glob (v := .ref aR) (by rfl) gR rfl)) (blkOk_by (own := [("result", 4)]) (N := n_Questions_settled_word) (sc := defScope sQSett) (by decide +kernel))
            (fun _ _ _ _ _ => pg_name (i := 4) scQSett.nd rfl (.inl rfl)) (fun _ _ _ _ _ => pts_nil)
            (fun _ _ _ _ _ => pe_meth (pv 0) T.cl mF ih hr bF .nil pass0 (pa_cons (pe_call W.G (hr.mono (by omega)) (by rfl) W.g W.kp W.b .nil pass0 (pa_cons (pv 1) (pa_cons (pv 2) (pa_cons (pv 4) pa_nil)))) pa_nil)))
          (pss_one (ps_nput hu9 (pe_fld (pv 0) rfl) (pv 1) (pe_ifExp (pt_cmpR op_eq (pe_bm PySem.F.plainAttrs_list PySem.F.slot_list_count PySem.F.type_list_count mt_countF (pv 3) (pa_cons (pe_ix (r := rIxL K) ix_list (pv 3) pe_int (fun _ _ => rfl)) pa_nil)) (pe_callB call_len_seq (by rfl) mL PySem.boot_len (pa_cons (pv 3) pa_nil)) (nomark _))
            (pe_ix (r := rIxL K) ix_list (pv 3) pe_int (fun _ _ => rfl)) pe_str) (by rfl))))) pss_nil)
        (pss_one (ps_ret (pe_nget hu9 (pe_fld (pv 0) rfl) (pv 1) (fun _ _ => rfl)))), ?_⟩
      obtain ⟨⟨dx, st, hq⟩, ⟨kw, hw, Wi⟩, hn, hne, hf6, h2⟩ := id hQ
      have n7 : t.length ≤ 6 := by rw [hv.1]; exact hf6
      have kNk : ∀ {H' : Hp}, BarT H' a (t.map tV) → NkAt K H' (keyT t) (.ref a) := fun z => nk_told z.sqt
      refine ⟨_, rfl, _, rfl, q, CQ, dx, _, _, rfl, hq, T.cl, T.nW, qlk_w, ?_⟩
      refine ⟨wa, a, kw, keyT t, rfl, rfl, hw, kNk hb, keyT_dep t, _, rfl, ?_⟩
      have retr : ∀ {x2 x3 x4 : Option V} {H' : Hp} {kw' : List (NestedKey × V)} {v : V}, But2 wa na H H' → QAt P w K CQ H' q wa na f n → DN P w K H' wa kw' → valV kw' (keyT t) = some v → v = .str (settS f t) →
          tNGet (cxOf CX0 P w K mg base n_Questions_settled_word "Questions.settled_word" (defScope sQSett) f0 cdv A outer s H E).nox (tFld K (tVar 0) "words") (tVar 1) [some (.ref q), some (.ref a), x2, x3, x4] H' Q := fun {x2 x3 x4 H' kw' v} S hQ' hw' ev e => by
        obtain ⟨⟨dx', st', hq'⟩, _, _, _, _, _⟩ := id hQ'
        subst e
        exact ⟨_, rfl, q, CQ, dx', _, _, rfl, hq', T.cl, T.nW, qlk_w, _, rfl, wa, a, kw', keyT t, _, rfl, rfl, hw', kNk (hQ.bar S hb), keyT_dep t, ev, k H' S hQ'⟩
      cases hvv : valV kw (keyT t) with
      | some v =>
        refine iteF ?_
        exact retr (But2.refl _ _ _) hQ hw hvv (Wi.val hvv)
      | none =>
        refine iteT ?_
        obtain ⟨i, hi, hlow⟩ := Wi.hole hv hvv
        have hil : i < t.length := (List.getElem?_eq_some_iff.mp hi).1
        refine ⟨_, rfl, ⟨a, _, rfl, hb⟩, a, t.map tV, .non, i, .non, rfl, rfl, hb.sqt, rfl, tV_flat t, told_get hi, rfl, fun j z' hj hz => ?_, ?_⟩
        · obtain ⟨r, er⟩ := hlow j hj
          rw [told_get er] at hz
          cases hz
          rfl
        refine ⟨_, rfl, ⟨_, hR H⟩, fun B nB => ?_⟩
        have c4 : resWords.length = 4 := rfl
        refine lc_tup (xs := resWords.map V.str) (fun j G => QAt P w K CQ G q wa na f n ∧ But2 wa na H G ∧ G B = some (.lst (((resWords.take j).map fun r => settS f (t.set i (some r))).map V.str))) ⟨hQ.same (same_upd nB (Same.refl H)), But2.of (same_upd nB (Same.refl H)), upd_same⟩ (fun j G _ _ => hR G) ?_ ?_
        · rintro j v G hvj ⟨hQ0, SB, hB⟩
          rw [List.getElem?_map] at hvj
          cases hr : resWords[j]? with
          | none => rw [hr] at hvj; cases hvj
          | some r =>
            rw [hr] at hvj
            cases hvj
            have hr1 : r ∈ resWords := List.mem_of_getElem? hr
            have hj4 : j < 4 := (List.getElem?_eq_some_iff.mp hr).1
            obtain ⟨⟨dx0, st0, hq0⟩, _, _, _, _, _⟩ := id hQ0
            have nn1 := nn_set (r := r) hi
            refine ⟨rfl, yes_of ?_⟩
            refine ⟨_, rfl, q, dx0, _, rfl, hq0, qlk_none (by decide +kernel), _, rfl, _, rfl, _, rfl, a, t, i, r, rfl, (hQ.bar SB hb).sqt, hil, by omega, fun p G1 S1 hp => ?_⟩
            refine ⟨q, wa, na, p, f, n, t.set i (some r), rfl, hQ0.same S1, hp, hv.set hr1, by omega, fun G2 S2 hQ2 => ?_⟩
            have hB2 := (hQ0.same S1).lst S2 (S1 _ _ hB)
            refine ⟨_, hB2, ?_, hQ2.updL hB2, (SB.trans ((But2.of S1).trans S2)).updN nB, ?_⟩
            · rw [List.length_map, List.length_map, List.length_take]
              omega
            · rw [upd_same, List.take_add_one, hr, List.map_append, List.map_append]
              rfl
        · rintro G ⟨hQ0, SB, hB⟩
          obtain ⟨⟨dx0, st0, hq0⟩, ⟨kw0, hw0, Wi0⟩, _, _, _, _⟩ := id hQ0
          obtain ⟨c0, e0⟩ : ∃ c, c = settS f (t.set i (some "yes")) := ⟨_, rfl⟩
          obtain ⟨c1, e1⟩ : ∃ c, c = settS f (t.set i (some "no")) := ⟨_, rfl⟩
          obtain ⟨c2, e2⟩ : ∃ c, c = settS f (t.set i (some "skip")) := ⟨_, rfl⟩
          obtain ⟨c3, e3⟩ : ∃ c, c = settS f (t.set i (some "gone")) := ⟨_, rfl⟩
          have hB : G B = some (.lst ([c0, c1, c2, c3].map V.str)) := by
            rw [e0, e1, e2, e3]
            exact hB
          have stp : settS f t = if c1 = c0 ∧ c2 = c0 ∧ c3 = c0 then c0 else "open" := by
            rw [settS_step hi, e0, e1, e2, e3]
            refine ite_congr (propext ⟨fun z => ⟨z _ (by rw [resW4]; simp), z _ (by rw [resW4]; simp), z _ (by rw [resW4]; simp)⟩, fun z r hr => ?_⟩) (fun _ => rfl) fun _ => rfl
            rw [resW4] at hr
            simp only [List.mem_cons, List.not_mem_nil, or_false] at hr
            rcases hr with rfl | rfl | rfl | rfl
            · rfl
            · exact z.1
            · exact z.2.1
            · exact z.2.2
          refine ⟨_, rfl, .inl ⟨rfl, _, SqL.of hB⟩, _, rfl, B, _, 0, _, rfl, rfl, SqL.of hB, rfl, B, _, .str c0, rfl, rfl, SqL.of hB, rfl, rfl, _, rfl, B, _, rfl, .inl (SqL.of hB), ?_⟩
          have fin : ∀ {x2 x3 x4 : Option V} (v : V), v = .str (settS f t) → ∀ H4, (∀ c, c ≠ wa → H4 c = G c) → DN P w K H4 wa (putK kw0 (keyT t) v) →
              tNGet (cxOf CX0 P w K mg base n_Questions_settled_word "Questions.settled_word" (defScope sQSett) f0 cdv A outer s H E).nox (tFld K (tVar 0) "words") (tVar 1) [some (.ref q), some (.ref a), x2, x3, x4] H4 Q := fun {x2 x3 x4} v ev H4 fr d4 => by
            subst ev
            obtain ⟨Q4, S4⟩ := hQ0.putW fr d4 (Wi0.put hv)
            exact retr (SB.trans S4) Q4 d4 (by rw [valV_put, if_pos rfl]) rfl
          refine ⟨rfl, _, rfl, ?_⟩
          have ew : decide (V.int ((List.countP (fun y => eqV y (.str c0)) ([c0, c1, c2, c3].map V.str) : Nat) : Int) = V.int ((([c0, c1, c2, c3].map V.str).length : Nat) : Int)) = decide (c1 = c0 ∧ c2 = c0 ∧ c3 = c0) := by
            have l4 : ([c0, c1, c2, c3].map V.str).length = 4 := rfl
            rw [l4]
            by_cases z : c1 = c0 ∧ c2 = c0 ∧ c3 = c0
            · rw [decide_eq_true z, cnt_all.mpr z]
              rfl
            · rw [decide_eq_false z, decide_eq_false fun e => z (cnt_all.mp (by injection e with e; omega))]
          rw [ew]
          by_cases z : c1 = c0 ∧ c2 = c0 ∧ c3 = c0
          · rw [decide_eq_true z]
            rw [if_pos z] at stp
            refine iteT ⟨_, rfl, B, _, 0, _, rfl, rfl, SqL.of hB, rfl, _, rfl, q, CQ, dx0, _, _, rfl, hq0, T.cl, T.nW, qlk_w, _, rfl, wa, a, kw0, keyT t, rfl, rfl, hw0, kNk (hQ.bar SB hb), keyT_dep t, Wi0.small hw0 hf6, fun H4 fr d4 => ?_⟩
            exact fin _ (by rw [stp]) H4 fr d4
          · rw [decide_eq_false z]
            rw [if_neg z] at stp
            refine iteF ⟨_, rfl, q, CQ, dx0, _, _, rfl, hq0, T.cl, T.nW, qlk_w, _, rfl, wa, a, kw0, keyT t, rfl, rfl, hw0, kNk (hQ.bar SB hb), keyT_dep t, Wi0.small hw0 hf6, fun H4 fr d4 => ?_⟩
            exact fin _ (by rw [stp]) H4 fr d4
end
end LS
namespace LS
open PySem PySem.Spec PyProof.Rows L2
/-! how questions begin -/
theorem valV_pair {κ : Type} [DecidableEq κ] {kvs : List (κ × V)} {k : κ} {v : V} (h : valV kvs k = some v) : (k, v) ∈ kvs := by
  unfold valV at h
  cases q : kvs.find? (fun kv => decide (kv.1 = k)) with
  | none => rw [q] at h; cases h
  | some p =>
    rw [q] at h
    have h1 := List.find?_some q
    have h2 := List.mem_of_find?_eq_some q
    have e : p.1 = k := of_decide_eq_true h1
    obtain ⟨p1, p2⟩ := p
    cases h
    subst e
    exact h2
theorem key_word (ws : List Str) : (NestedKey.tup ((keyW ws).map nkO)) = keyT (ws.map some) := by
  unfold keyW keyT
  rw [List.map_map, List.map_map]
  rfl
theorem words_inv (es : List Ent) (ms : List Str) : WInv (wordL es ms) ms.length (kvN (wordsKV es ms (allF ms))) := by
  refine ⟨fun ws h1 h2 => ?_, fun k v q => ?_⟩
  · have hw := allF_in _ ms ws rfl h1 h2
    rw [← valV_any, List.any_eq_true]
    refine ⟨(keyT (ws.map some), .str (wordL es ms ws)), ?_, decide_eq_true rfl⟩
    rw [← key_word]
    exact List.mem_map.mpr ⟨(keyW ws, .str (wordL es ms ws)), List.mem_map.mpr ⟨ws, hw, rfl⟩, rfl⟩
  · obtain ⟨p, hp, e⟩ := List.mem_map.mp (valV_pair q)
    obtain ⟨ws, hw, rfl⟩ := List.mem_map.mp hp
    obtain ⟨h1, h2⟩ := allF_words ws hw
    injection e with e1 e2
    refine ⟨ws.map some, ⟨by rw [List.length_map]; exact h1, fun r hr => ?_⟩, ?_, ?_⟩
    · obtain ⟨x, hx, ex⟩ := List.mem_map.mp hr
      cases ex
      exact h2 _ hx
    · rw [← e1]
      exact key_word ws
    · rw [← e2, settS_full]
theorem word_not_open (es : List Ent) (ms ws : List Str) : wordL es ms ws ≠ "open" := by
  rw [wordL_wd]
  rcases wd_two es (wordOf ms ws) with e | e <;> rw [e] <;> decide +kernel
def noneT (n : Nat) : Told := List.replicate n none
theorem noneT_V (n : Nat) : (noneT n).map tV = List.replicate n .non := by
  unfold noneT
  rw [List.map_replicate]
  rfl
theorem nn_noneT (n : Nat) : nn (noneT n) = n := by
  unfold nn noneT
  rw [List.countP_replicate]
  rfl
theorem rep_flat (n : Nat) (x : V) : (List.replicate n [x]).flatten = List.replicate n x := by
  induction n with
  | zero => rfl
  | succ n ih =>
    rw [List.replicate_succ, List.flatten_cons, ih]
    rfl
theorem q_put (st wa na : Addr) : putF "numbers" (.ref na) (putF "words" (.ref wa) (putF "start" (.ref st) [])) = qF st wa na := by
  have h1 : putF "words" (V.ref wa) [(("start" : Str), V.ref st)] = [(("start" : Str), V.ref st), (("words" : Str), V.ref wa)] := by
    show (if ("start" : Str) = "words" then _ else _) = _
    rw [if_neg (by decide +kernel)]
    rfl
  show putF "numbers" (.ref na) (putF "words" (.ref wa) [(("start" : Str), V.ref st)]) = _
  rw [h1]
  show (if ("start" : Str) = "numbers" then _ else (("start" : Str), V.ref st) :: (if ("words" : Str) = "numbers" then _ else _)) = _
  rw [if_neg (by decide +kernel), if_neg (by decide +kernel)]
  rfl
theorem putF_len (x : Str) (v : V) : ∀ fs : List (Str × V), (putF x v fs).length ≤ fs.length + 1
  | [] => Nat.le_refl _
  | p :: fs => by
    have ih := putF_len x v fs
    obtain ⟨y, u⟩ := p
    show (if y = x then _ else (y, u) :: putF x v fs).length ≤ _
    split
    · show (_ :: fs).length ≤ _
      simp
    · rw [List.length_cons, List.length_cons]
      omega
def spQInit (P : Program) (w : World) (K : PySem.W.Frag) (CR CS CQ : Addr) : Sp := fun vs H Q _ => ∃ (H0 : Hp) (p dx sp : Addr) (es : List Ent) (ms : List Str), vs = [.ref p, .ref sp] ∧ Same H0 H ∧ H0 p = none ∧ H p = some (.ins CQ dx []) ∧ ModAt K CR CS H0 sp es ms ∧
  ∀ st wa na H', Same H0 H' → H0 wa = none → H0 na = none → H' p = some (.ins CQ dx (qF st wa na)) → QAt P w K CQ H' p wa na (wordL es ms) ms.length → BarT H' st ((noneT ms.length).map tV) → Q .non H'
theorem rep_any {K : PySem.W.Frag} {H : Hp} {Q : VK} {l : Addr} {n : Nat} (hb : BarT H l [.non]) (hn : n ≤ 1000) (k : ∀ st H', Same H H' → BarT H' st (List.replicate n .non) → Q (.ref st) H') : rRepB K (.ref l) (.int ((n : Nat) : Int)) H Q := by
  refine ⟨l, _, [.non], rfl, rfl, hb.sqt, List.cons_ne_nil _ _, by omega, by omega, by show 1 ≤ 1000; decide, fun h1 => ?_, fun h1 l2 o2 d2 n2 => ?_⟩
  · have e : n = 1 := by omega
    subst e
    exact k l H (Same.refl H) hb
  · refine k l2 _ (same_upd n2 (Same.refl H)) ⟨o2, d2, ?_⟩
    rw [upd_same, rep_flat, Int.toNat_natCast]
section
variable {P : Program} {w : World} {K : PySem.W.Frag} {mg : Str → Option Value} {base : Heap} {CR CS CQ : Addr}
theorem scQInit : FnScope n_Questions___init__ ["self", "stack"] (defScope sQInit) := ⟨rfl, rfl, rfl, by decide +kernel, rfl, by decide +kernel, by decide +kernel⟩
theorem ok_qinit {f0 : Addr} {fd : FuncData} (F : Fun K "__init__" "Questions.__init__" sQInit f0 fd) (T : QuK K CQ) (N : LedK P w K mg base CR CS) (Wo : DefK P w K mg base CX0 11 "words_of" ["stack"] (spWordsOf K CR CS)) (mL : mg "len" = none) :
    FnOk P w K mg base CX0 12 f0 fd ["self", "stack"] (spQInit P w K CR CS CQ) := by
  refine F.ok scQInit (fun vs H Q E h => ?_) (fun cdv A outer s H vs Q E hr h => ?_)
  · obtain ⟨H0, p, dx, sp, es, ms, rfl, _⟩ := h
    rfl
  · obtain ⟨H0, p, dx, sp, es, ms, rfl, S0, p0, hp, M, k⟩ := h
    have hs2 := sizeLine_eq
    refine ⟨_, pss_cons (ps_fld (pv 0) (pe_op (r := rRepB K) op_repB (pe_tupB (pa_cons pe_non pa_nil)) (pe_callB call_len_seq (by rfl) mL PySem.boot_len (pa_cons (pe_prop (pv 1) N.T.cl N.PM.pr N.PM.G (hr.mono (by decide)) N.PM.b .nil pass0 rfl) pa_nil))) rfl)
      (pss_cons (ps_fld (pv 0) (pe_asN (pe_call Wo.G hr (by rfl) Wo.g Wo.kp Wo.b .nil pass0 (pa_cons (pv 1) pa_nil))) rfl)
      (pss_one (ps_fld (pv 0) (pe_asN pe_dnewT) rfl))), ?_⟩
    obtain ⟨⟨dx1, e, r, m, ms', h1, h2, h3, h4', h5, leg⟩, h6⟩ := id M.e
    have few := M.few
    refine ⟨by show 1 ≤ sizeLine; omega, fun l1 o1 d1 n1 => ?_⟩
    have S1 : Same H (upd H l1 (.frz o1 (.tup [.non]))) := same_upd n1 (Same.refl H)
    have e1 : BarT (upd H l1 (.frz o1 (.tup [.non]))) l1 [.non] := ⟨o1, d1, upd_same⟩
    generalize upd H l1 (.frz o1 (.tup [.non])) = H1 at *
    have S01 := S0.trans S1
    refine ⟨_, rfl, sp, dx1, _, rfl, S01 _ _ h1, sp, es, rfl, (M.same S01).e, fun t ms2 ht hms => ?_⟩
    obtain rfl := mods_same hms M.mods
    refine ⟨t, _, rfl, .inr ht, rep_any e1 (by rw [List.length_map]; omega) fun st H2 S2 hst => ?_⟩
    rw [List.length_map, ← noneT_V] at hst
    have S12 := S1.trans S2
    refine ⟨_, rfl, p, CQ, dx, _, rfl, S12 _ _ hp, T.cl, T.nS, (by show 0 < 1000; decide), ?_⟩
    have S02 : Same H0 H2 := S01.trans S2
    have ep := S12 _ _ hp
    have S03 : Same H0 (upd H2 p (.ins CQ dx (putF "start" (.ref st) []))) := same_upd p0 S02
    have e3 : upd H2 p (.ins CQ dx (putF "start" (.ref st) [])) p = some (.ins CQ dx (putF "start" (.ref st) [])) := upd_same
    have hst3 : BarT (upd H2 p (.ins CQ dx (putF "start" (.ref st) []))) st ((noneT ms2.length).map tV) := by
      obtain ⟨o, d, e⟩ := hst
      exact ⟨o, d, by rw [upd_ne (ne_of e ep fun z => nomatch z)]; exact e⟩
    generalize upd H2 p (.ins CQ dx (putF "start" (.ref st) [])) = H3 at *
    refine ⟨_, rfl, sp, es, ms2, rfl, M.same S03, fun wa H4 S4 nwa hwa => ?_⟩
    refine ⟨wa, _, rfl, hwa, fun H5 fr5 dw => ?_⟩
    have S35 : Same H3 H5 := fun b o e => by
      have nb : b ≠ wa := ne_of_none e nwa
      rw [fr5 b nb]
      exact S4 b o e
    have e5 := S35 _ _ e3
    have pw : wa ≠ p := (ne_of_none e3 nwa).symm
    have w0 : H0 wa = none := S03.free nwa
    refine ⟨_, rfl, p, CQ, dx, _, rfl, e5, T.cl, T.nW, (by have := putF_len "start" (.ref st) []; show (putF "start" (V.ref st) []).length < 1000; simp at this; omega), ?_⟩
    have S06 : Same H0 (upd H5 p (.ins CQ dx (putF "words" (.ref wa) (putF "start" (.ref st) [])))) := same_upd p0 (S03.trans S35)
    have e6 : upd H5 p (.ins CQ dx (putF "words" (.ref wa) (putF "start" (.ref st) []))) p = some (.ins CQ dx (putF "words" (.ref wa) (putF "start" (.ref st) []))) := upd_same
    have dw6 : DN P w K (upd H5 p (.ins CQ dx (putF "words" (.ref wa) (putF "start" (.ref st) [])))) wa (kvN (wordsKV es ms2 (allF ms2))) := dw.keep (KeepT.upd e5 (fun _ z => nomatch z) (fun _ _ z => nomatch z)) (upd_ne pw)
    have hst6 : BarT (upd H5 p (.ins CQ dx (putF "words" (.ref wa) (putF "start" (.ref st) [])))) st ((noneT ms2.length).map tV) := by
      obtain ⟨o, d, e⟩ := hst3.same S35
      exact ⟨o, d, by rw [upd_ne (ne_of e e5 fun z => nomatch z)]; exact e⟩
    generalize upd H5 p (.ins CQ dx (putF "words" (.ref wa) (putF "start" (.ref st) []))) = H6 at *
    refine fun na nna => ⟨na, _, rfl, upd_same, fun H8 fr8 dn => ?_⟩
    have S68 : Same H6 H8 := fun b o e => by
      have nb : b ≠ na := ne_of_none e nna
      rw [fr8 b nb, upd_ne nb]
      exact e
    have e8 := S68 _ _ e6
    have pn : na ≠ p := (ne_of_none e6 nna).symm
    have n0 : H0 na = none := S06.free nna
    obtain ⟨_, ow⟩ := dw6.obj
    have wn : wa ≠ na := ne_of_none ow nna
    refine ⟨_, rfl, p, CQ, dx, _, rfl, e8, T.cl, T.nN, (by have h1 := putF_len "start" (.ref st) []; have h2 := putF_len "words" (.ref wa) (putF "start" (.ref st) []); show (putF "words" (V.ref wa) (putF "start" (V.ref st) [])).length < 1000; simp at h1; omega), ?_⟩
    rw [q_put]
    have dw8 := dw6.same S68
    have KT := KeepT.upd (u := .ins CQ dx (qF st wa na)) e8 (fun _ z => nomatch z) (fun _ _ z => nomatch z)
    refine k st wa na _ (same_upd p0 (S06.trans S68)) w0 n0 upd_same ⟨⟨dx, st, upd_same⟩, ⟨_, dw8.keep KT (upd_ne pw), words_inv es ms2⟩, ⟨[], dn.keep KT (upd_ne pn), ⟨fun _ _ z => nomatch z⟩⟩, wn, M.few, word_not_open es ms2⟩ ?_
    obtain ⟨o, d, e⟩ := hst6.same S68
    exact ⟨o, d, by rw [upd_ne (ne_of e e8 fun z => nomatch z)]; exact e⟩
end
end LS
namespace LS
open PySem PySem.Spec PyProof.Rows L2
/-! questions that begin; the fewest ones -/
structure AskB (P : Program) (w : World) (K : PySem.W.Frag) (mg : Str → Option Value) (base : Heap) (CR CS CQ : Addr) where
  Q : QuK K CQ
  {fI : Addr}
  {fdI : FuncData}
  GI : FnOk P w K mg base CX0 12 fI fdI ["self", "stack"] (spQInit P w K CR CS CQ)
  MI : Mk K CQ fI
  bI : Binds K fdI ["self", "stack"] []
  gQ : mg "Questions" = some (.ref CQ)
def fewF (es : List Ent) (ms : List Str) : Nat := few (wordL es ms) (noneT ms.length)
def fromF (es : List Ent) (ms : List Str) (j : Nat) : Nat := 1 + worstT (wordL es ms) (noneT ms.length) j
def BestV (es : List Ent) (ms : List Str) (v : V) : Prop := (fewF es ms = 0 ∧ v = .non) ∨ (fewF es ms ≠ 0 ∧ ∃ (j : Nat) (z : Str), ms[j]? = some z ∧ v = .str z ∧ fromF es ms j = fewF es ms ∧ ∀ i, i < j → fromF es ms i ≠ fewF es ms)
def spFewQ (K : PySem.W.Frag) (CR CS : Addr) : Sp := fun vs H Q _ => ∃ (sp : Addr) (es : List Ent) (ms : List Str), vs = [.ref sp] ∧ ModAt K CR CS H sp es ms ∧ ∀ H', Same H H' → Q (.int ((fewF es ms : Nat) : Int)) H'
def spBestF (K : PySem.W.Frag) (CR CS : Addr) : Sp := fun vs H Q _ => ∃ (sp : Addr) (es : List Ent) (ms : List Str), vs = [.ref sp] ∧ ModAt K CR CS H sp es ms ∧ ∀ v H', Same H H' → BestV es ms v → Q v H'
theorem noneT_at {n j : Nat} : (noneT n)[j]? = some none ↔ j < n := by
  unfold noneT
  rw [List.getElem?_replicate]
  by_cases h : j < n
  · rw [if_pos h]
    exact ⟨fun _ => h, fun _ => rfl⟩
  · rw [if_neg h]
    exact ⟨(fun e => nomatch e), fun e => absurd e h⟩
theorem best_ex (es : List Ent) (ms : List Str) (h : fewF es ms ≠ 0) : ∃ j : Nat, j < ms.length ∧ fromF es ms j = fewF es ms ∧ ∀ i, i < j → fromF es ms i ≠ fewF es ms := by
  have fs := few_step (wordL es ms) (noneT ms.length)
  by_cases z : settS (wordL es ms) (noneT ms.length) = "open"
  · rw [if_pos z] at fs
    have nh := hole_open (wordL es ms) z (word_not_open es ms)
    have hm := minL_in (l := (holes (noneT ms.length)).map fun p => 1 + worstT (wordL es ms) (noneT ms.length) p) (by simpa using nh)
    rw [← fs] at hm
    obtain ⟨p, hp, e⟩ := List.mem_map.mp hm
    have hp := noneT_at.mp (hole_at.mp hp)
    have e : fromF es ms p = fewF es ms := e
    induction p using Nat.strongRecOn with
    | _ p ih =>
      by_cases c : ∃ i, i < p ∧ fromF es ms i = fewF es ms
      · obtain ⟨i, hi, ei⟩ := c
        refine ih i hi ?_ ?_ (by omega) ei
        · exact hole_at.mpr (noneT_at.mpr (by omega))
        · exact ei
      · exact ⟨p, hp, e, fun i hi ei => c ⟨i, hi, ei⟩⟩
  · rw [if_neg z] at fs
    exact absurd fs h
theorem But2.back {wa na : Addr} {H H1 H' : Hp} (S : Same H H1) (h1 : H wa = none) (h2 : H na = none) (T : But2 wa na H1 H') : Same H H' := fun b o e => T b o (ne_of_none e h1) (ne_of_none e h2) (S b o e)
end LS
namespace LS
open PySem PySem.Spec PyProof.Rows L2
/-! covers: what has to be told, module by module -/
abbrev sPlacesOf : Stmt := top i_places_of
abbrev sSettRows : Stmt := top i_settling_rows
abbrev sRowsBeh : Stmt := top i_rows_behind
abbrev sResTold : Stmt := top i_results_told
abbrev sCover : Stmt := top i_cover
def behF (f : List Str → Str) (k : Nat) (t : Told) : List Told := if settS f t = "open" then resWords.map fun r => t.set k (some r) else [t]
def rowsF (f : List Str → Str) (n : Nat) : Nat → List Told
  | 0 => [noneT n]
  | k + 1 => (rowsF f n k).flatMap (behF f k)
/-- told results as tuples in a list -/
def TsAt (H : Hp) (xs : List V) (L : List Told) : Prop := Paired (fun (v : V) (t : Told) => ∃ a, v = .ref a ∧ BarT H a (t.map tV)) xs L
theorem TsAt.but {P : Program} {w : World} {K : PySem.W.Frag} {CQ : Addr} {H H' : Hp} {q wa na : Addr} {f : List Str → Str} {n : Nat} {xs : List V} {L : List Told} (h : TsAt H xs L) (hQ : QAt P w K CQ H q wa na f n) (S : But2 wa na H H') : TsAt H' xs L :=
  Paired.mapP h fun v t q => by
    obtain ⟨a, e, b⟩ := q
    exact ⟨a, e, hQ.bar S b⟩
theorem bar_upd {H : Hp} {a B : Addr} {xs ys : List V} {o : HO} (h : BarT H a xs) (e : H B = some (.lst ys)) : BarT (upd H B o) a xs := by
  obtain ⟨ob, d, q⟩ := h
  exact ⟨ob, d, by rw [upd_ne (ne_of q e fun z => nomatch z)]; exact q⟩
theorem TsAt.upd {H : Hp} {B : Addr} {xs ys : List V} {L : List Told} {o : HO} (h : TsAt H xs L) (e : H B = some (.lst ys)) : TsAt (L2.upd H B o) xs L :=
  Paired.mapP h fun v t q => by
    obtain ⟨a, ea, b⟩ := q
    exact ⟨a, ea, bar_upd b e⟩
theorem TsAt.same {H H' : Hp} {xs : List V} {L : List Told} (h : TsAt H xs L) (S : Same H H') : TsAt H' xs L :=
  Paired.mapP h fun v t q => by
    obtain ⟨a, ea, b⟩ := q
    exact ⟨a, ea, b.same S⟩
theorem beh_len (f : List Str → Str) (k : Nat) (t : Told) : (behF f k t).length ≤ 4 := by
  unfold behF
  split
  · simp [resWords]
  · simp
theorem beh_vt {f : List Str → Str} {k n : Nat} {t : Told} (ht : VT n t) : ∀ u ∈ behF f k t, VT n u := fun u hu => by
  unfold behF at hu
  split at hu
  · obtain ⟨r, hr, rfl⟩ := List.mem_map.mp hu
    exact ht.set hr
  · rw [List.mem_singleton.mp hu]
    exact ht
theorem rowsF_vt {f : List Str → Str} {n : Nat} : ∀ k, ∀ t ∈ rowsF f n k, VT n t
  | 0, t, h => by
    rw [List.mem_singleton.mp h]
    exact vt_none n
  | k + 1, t, h => by
    obtain ⟨u, hu, h2⟩ := List.mem_flatMap.mp h
    exact beh_vt (rowsF_vt k u hu) t h2
theorem flat_le {α β : Type} {g : α → List β} {c : Nat} (h : ∀ x, (g x).length ≤ c) : ∀ L : List α, (L.flatMap g).length ≤ c * L.length
  | [] => Nat.zero_le _
  | x :: L => by
    rw [List.flatMap_cons, List.length_append, List.length_cons]
    have := flat_le h L
    have := h x
    rw [Nat.mul_add]
    omega
theorem rowsF_len {f : List Str → Str} {n : Nat} : ∀ k, (rowsF f n k).length ≤ 4 ^ k
  | 0 => Nat.le_refl _
  | k + 1 => by
    have := flat_le (beh_len f k) (rowsF f n k)
    have ih := rowsF_len (f := f) (n := n) k
    show ((rowsF f n k).flatMap (behF f k)).length ≤ 4 ^ (k + 1)
    rw [Nat.pow_succ]
    omega
theorem vt_len {n : Nat} {t : Told} (h : VT n t) : nn t ≤ n := by
  unfold nn
  rw [← h.1]
  exact List.countP_le_length
def spPlacesOf (K : PySem.W.Frag) (CR CS : Addr) : Sp := fun vs H Q _ => ∃ (sp : Addr) (es : List Ent) (ms : List Str), vs = [.ref sp] ∧ ModAt K CR CS H sp es ms ∧ ∀ p H', Same H H' → H' p = some (.lst ((List.range ms.length).map fun i => V.int ((i : Nat) : Int))) → Q (.ref p) H'
def spRowsBeh (P : Program) (w : World) (K : PySem.W.Frag) (CQ : Addr) : Sp := fun vs H Q _ => ∃ (q wa na a : Addr) (f : List Str → Str) (n : Nat) (t : Told) (k : Nat), vs = [.ref q, .ref a, .int ((k : Nat) : Int)] ∧ QAt P w K CQ H q wa na f n ∧ BarT H a (t.map tV) ∧ VT n t ∧ k < n ∧
  ∀ p xs H', But2 wa na H H' → QAt P w K CQ H' q wa na f n → H p = none → H' p = some (.lst xs) → TsAt H' xs (behF f k t) → Q (.ref p) H'
def spSettRows (P : Program) (w : World) (K : PySem.W.Frag) (CQ : Addr) : Sp := fun vs H Q _ => ∃ (q wa na pl dx st : Addr) (f : List Str → Str) (n : Nat), vs = [.ref q, .ref pl] ∧ QAt P w K CQ H q wa na f n ∧ H q = some (.ins CQ dx (qF st wa na)) ∧ BarT H st ((noneT n).map tV) ∧ H pl = some (.lst ((List.range n).map fun i => V.int ((i : Nat) : Int))) ∧
  ∀ p xs H', But2 wa na H H' → QAt P w K CQ H' q wa na f n → H' p = some (.lst xs) → TsAt H' xs (rowsF f n n) → Q (.ref p) H'
def spResTold (K : PySem.W.Frag) : Sp := fun vs H Q _ => ∃ (a : Addr) (t : Told), vs = [.ref a] ∧ SqT K H a (t.map tV) ∧ t.length ≤ 900 ∧ ∀ p H', Same H H' → H' p = some (.tup ((t.filterMap id).map V.str)) → Q (.ref p) H'
/-- a cover -/
def CovAt (K : PySem.W.Frag) (H : Hp) (f : List Str → Str) (xs : List V) (L : List Told) : Prop := Paired (fun (v : V) (t : Told) => ∃ a b, v = .ref a ∧ SqT K H a [.ref b, .str (settS f t)] ∧ SqT K H b ((t.filterMap id).map V.str)) xs L
def spCover (K : PySem.W.Frag) (CR CS : Addr) : Sp := fun vs H Q _ => ∃ (sp : Addr) (es : List Ent) (ms : List Str), vs = [.ref sp] ∧ ModAt K CR CS H sp es ms ∧
  ∀ p xs H', Same H H' → H p = none → H' p = some (.lst xs) → CovAt K H' (wordL es ms) xs (rowsF (wordL es ms) ms.length ms.length) → Q (.ref p) H'
section
variable {P : Program} {w : World} {K : PySem.W.Frag} {mg : Str → Option Value} {base : Heap} {CR CS CQ : Addr}
theorem scPlacesOf : FnScope n_places_of ["stack"] (defScope sPlacesOf) := ⟨rfl, rfl, rfl, by decide +kernel, rfl, by decide +kernel, by decide +kernel⟩
theorem scSettRows : FnScope n_settling_rows ["questions", "places"] (defScope sSettRows) := ⟨rfl, rfl, rfl, by decide +kernel, rfl, by decide +kernel, by decide +kernel⟩
theorem scRowsBeh : FnScope n_rows_behind ["questions", "told", "place"] (defScope sRowsBeh) := ⟨rfl, rfl, rfl, by decide +kernel, rfl, by decide +kernel, by decide +kernel⟩
theorem scResTold : FnScope n_results_told ["told"] (defScope sResTold) := ⟨rfl, rfl, rfl, by decide +kernel, rfl, by decide +kernel, by decide +kernel⟩
theorem scCover : FnScope n_cover ["stack"] (defScope sCover) := ⟨rfl, rfl, rfl, by decide +kernel, rfl, by decide +kernel, by decide +kernel⟩
theorem ok_placesof {f0 : Addr} {fd : FuncData} (F : Fun K "places_of" "places_of" sPlacesOf f0 fd) (N : LedK P w K mg base CR CS) (mL : mg "len" = none) (mR : mg "range" = none) (mLi : mg "list" = none) : FnOk P w K mg base CX0 4 f0 fd ["stack"] (spPlacesOf K CR CS) := by
  refine F.ok scPlacesOf (fun vs H Q E h => ?_) (fun cdv A outer s H vs Q E hr h => ?_)
  · obtain ⟨sp, es, ms, rfl, _⟩ := h
    rfl
  · obtain ⟨sp, es, ms, rfl, M, k⟩ := h
    refine ⟨_, pss_one (ps_ret (pe_listRg (by rfl) (by rfl) mLi (prg_1 (by rfl) mR (pe_callB call_len_seq (by rfl) mL PySem.boot_len (pa_cons (pe_prop (pv 0) N.T.cl N.PM.pr N.PM.G (hr.mono (by decide)) N.PM.b .nil pass0 rfl) pa_nil))))), ?_⟩
    obtain ⟨⟨dx1, e, r, m, ms', h1, h2, h3, h4', h5, leg⟩, h6⟩ := id M.e
    have few := M.few
    refine ⟨_, rfl, sp, dx1, _, rfl, h1, sp, es, rfl, M.e, fun t ms2 ht hms => ?_⟩
    obtain rfl := mods_same hms M.mods
    refine ⟨t, _, rfl, .inr ht, _, rfl, RgOk.of_le (by omega) (by rw [List.length_map]; omega) (by omega) (by omega), fun p np => ?_⟩
    refine k p _ (same_upd np (Same.refl H)) ?_
    rw [upd_same]
    unfold rgV
    rw [List.length_map, show (((ms2.length : Nat) : Int) - 0).toNat = ms2.length by omega]
    refine congrArg (fun l => some (HO.lst l)) (List.map_congr_left fun i _ => ?_)
    rw [show (0 : Int) + ((i : Nat) : Int) = ((i : Nat) : Int) by omega]
theorem ok_restold {f0 : Addr} {fd : FuncData} (F : Fun K "results_told" "results_told" sResTold f0 fd) (mT : mg "tuple" = none) : FnOk P w K mg base CX0 1 f0 fd ["told"] (spResTold K) := by
  refine F.ok scResTold (fun vs H Q E h => ?_) (fun cdv A outer s H vs Q E hr h => ?_)
  · obtain ⟨a, t, rfl, _⟩ := h
    rfl
  · obtain ⟨a, t, rfl, ha, hl, k⟩ := h
    have hs2 := sizeLine_eq
    refine ⟨_, pss_one (ps_ret (pe_callTy call_tuple_of (by rfl) mT (by decide +kernel) (pa_cons (pe_lc (own := [("result", 1)]) (g := gName 1) (by rfl) scResTold.nd (pi_tup (pv 0)) (blkOk_by (own := [("result", 1)]) (N := n_results_told) (sc := defScope sResTold) (by decide +kernel))
        (fun _ _ _ _ _ => pg_name (i := 1) scResTold.nd rfl (.inl rfl)) (fun _ _ _ _ _ => pts_one (pt_cmpR op_notN (pv 1) pe_non (nomark _))) (fun _ _ _ _ _ => pv 1)) pa_nil))), ?_⟩
    refine ⟨_, rfl, a, rfl, ⟨_, ha⟩, fun B nB => ?_⟩
    refine lc_it (walk_tup (xs := t.map tV)) (fun j G => Same H G ∧ G B = some (.lst (((t.take j).filterMap id).map V.str))) ⟨same_upd nB (Same.refl H), upd_same⟩ (fun j G _ q => same_tup q.1 ha) ?_ ?_
    · rintro j v G0 G hj ⟨SG, hB⟩ ⟨rfl, hv⟩
      rw [List.length_map] at hj
      obtain ⟨o, ho⟩ : ∃ o, t[j]? = some o := ⟨_, List.getElem?_eq_getElem hj⟩
      rw [List.getElem?_map, ho] at hv
      cases hv
      have tk : (t.take (j + 1)).filterMap id = (t.take j).filterMap id ++ [o].filterMap id := by
        rw [List.take_add_one, ho, List.filterMap_append]
        rfl
      refine ⟨rfl, ?_⟩
      refine ⟨_, rfl, rfl, _, rfl, ?_⟩
      cases o with
      | none =>
        refine iteF ⟨SG, ?_⟩
        rw [tk]
        show G B = some (.lst ((_ ++ []).map V.str))
        rw [List.append_nil]
        exact hB
      | some r =>
        refine iteT ?_
        have fl := List.length_filterMap_le (id : Option Str → Option Str) (t.take j)
        rw [List.length_take] at fl
        refine ⟨_, rfl, _, hB, by rw [List.length_map]; omega, same_upd nB SG, ?_⟩
        rw [upd_same, tk, List.map_append]
        rfl
    · rintro G ⟨SG, hB⟩
      rw [List.length_map, List.take_length] at hB
      refine ⟨B, _, rfl, .inl ⟨SqL.of hB, fun l nl => ?_⟩⟩
      exact k l _ (SG.trans (same_upd nl (Same.refl G))) upd_same
theorem ok_rowsbeh {f0 fS : Addr} {fd fdS : FuncData} (F : Fun K "rows_behind" "rows_behind" sRowsBeh f0 fd) (T : QuK K CQ) (gS : ∀ m : Nat, FnOk P w K mg base CX0 (m + 1) fS fdS ["self", "told"] (spQSett P w K CQ m)) (mS : Meth K CQ "settled_word" fS) (bS : Binds K fdS ["self", "told"] [])
    (W : DefK P w K mg base CX0 1 "with_result" ["results", "place", "result"] (spWResB K)) (gR : ∃ a, mg "RESULTS" = some (.ref a) ∧ ∀ H, SqT K H a (resWords.map V.str)) : FnOk P w K mg base CX0 9 f0 fd ["questions", "told", "place"] (spRowsBeh P w K CQ) := by
  obtain ⟨aR, gR, hR⟩ := gR
  refine F.ok scRowsBeh (fun vs H Q E h => ?_) (fun cdv A outer s H vs Q E hr h => ?_)
  · obtain ⟨q, wa, na, a, f, n, t, i, rfl, _⟩ := h
    rfl
  · obtain ⟨q, wa, na, a, f, n, t, i, rfl, hQ, hb, hv, hi, k⟩ := h
    have hs2 := sizeLine_eq
    refine ⟨_, pss_cons (ps_if (pt_cmpR op_ne (pe_meth (pv 0) T.cl mS (gS 7) (hr.mono (by omega)) bS .nil pass0 (pa_cons (pv 1) pa_nil)) pe_str (nomark _)) (pss_one (ps_ret (pe_lst (pa_cons (pv 1) pa_nil)))) pss_nil)
      (pss_one (ps_ret (pe_lc (own := [("result", 3)]) (g := gName 3) (by rfl) scRowsBeh.nd (pi_tup (pe_glob (v := .ref aR) (by rfl) gR rfl)) (blkOk_by (own := [("result", 3)]) (N := n_rows_behind) (sc := defScope sRowsBeh) (by decide +kernel))
        (fun _ _ _ _ _ => pg_name (i := 3) scRowsBeh.nd rfl (.inl rfl)) (fun _ _ _ _ _ => pts_nil)
        (fun _ _ _ _ _ => pe_call W.G (hr.mono (by omega)) (by rfl) W.g W.kp W.b .nil pass0 (pa_cons (pv 1) (pa_cons (pv 2) (pa_cons (pv 3) pa_nil))))))), ?_⟩
    obtain ⟨⟨dx, st, hq⟩, ⟨kw, hw, Wi⟩, hn, hne, hf6, h2⟩ := id hQ
    have n7 : t.length ≤ 6 := by rw [hv.1]; exact hf6
    refine ⟨_, rfl, q, dx, _, rfl, hq, qlk_none (by decide +kernel), _, rfl, q, wa, na, a, f, n, t, rfl, hQ, hb, hv, by have := vt_len hv; omega, fun H1 S1 hQ1 => ?_⟩
    refine ⟨rfl, _, rfl, ?_⟩
    have ew : (!decide (V.str (settS f t) = V.str "open")) = !decide (settS f t = "open") := by
      by_cases z : settS f t = "open"
      · rw [decide_eq_true z, z]
        rw [decide_eq_true rfl]
      · rw [decide_eq_false z, decide_eq_false fun e => z (by injection e)]
    rw [ew]
    have hb1 := hQ.bar S1 hb
    by_cases z : settS f t = "open"
    · rw [decide_eq_true z]
      refine iteF ?_
      refine ⟨_, rfl, ⟨_, hR H1⟩, fun B nB => ?_⟩
      have bh : behF f i t = resWords.map fun r => t.set i (some r) := if_pos z
      have S2 : Same H1 (upd H1 B (.lst [])) := same_upd nB (Same.refl H1)
      refine lc_tup (xs := resWords.map V.str) (fun j G => Same H1 G ∧ ∃ ys, G B = some (.lst ys) ∧ TsAt G ys ((resWords.take j).map fun r => t.set i (some r))) ⟨S2, [], upd_same, .nil⟩ (fun j G _ _ => hR G) ?_ ?_
      · rintro j v G hvj ⟨SG, ys, hB, hys⟩
        rw [List.getElem?_map] at hvj
        cases hr : resWords[j]? with
        | none => rw [hr] at hvj; cases hvj
        | some r =>
          rw [hr] at hvj
          cases hvj
          have hj4 : j < 4 := (List.getElem?_eq_some_iff.mp hr).1
          have yl := Paired.length hys
          rw [List.length_map, List.length_take] at yl
          refine ⟨rfl, yes_of ?_⟩
          refine ⟨_, rfl, _, rfl, _, rfl, a, t, i, r, rfl, (hb1.same SG).sqt, by rw [hv.1]; exact hi, by omega, fun p G1 S3 hp => ?_⟩
          have hB1 := S3 _ _ hB
          refine ⟨_, hB1, by omega, fun b o e => ?_, ys ++ [.ref p], upd_same, ?_⟩
          · rw [upd_ne (ne_of_none e nB)]
            exact S3 _ _ (SG _ _ e)
          · rw [List.take_add_one, hr, List.map_append]
            exact Paired.snoc ((hys.same S3).upd hB1) ⟨p, rfl, bar_upd hp hB1⟩
      · rintro G ⟨SG, ys, hB, hys⟩
        rw [List.length_map, List.take_length] at hys
        rw [← bh] at hys
        exact k B ys G (S1.trans (But2.of SG)) (hQ1.same SG) (by
          cases e : H B with
          | none => rfl
          | some o =>
            by_cases b1 : B = wa
            · obtain ⟨_, ⟨_, d1, _⟩, _⟩ := id hQ1
              obtain ⟨_, o1⟩ := d1.obj
              rw [← b1, nB] at o1
              cases o1
            · by_cases b2 : B = na
              · obtain ⟨_, _, ⟨_, d1, _⟩, _⟩ := id hQ1
                obtain ⟨_, o1⟩ := d1.obj
                rw [← b2, nB] at o1
                cases o1
              · have := S1 B o b1 b2 e
                rw [nB] at this
                cases this) hB hys
    · rw [decide_eq_false z]
      refine iteT ?_
      have bh : behF f i t = [t] := if_neg z
      refine ⟨_, rfl, by show 1 ≤ sizeLine; omega, fun B nB => ?_⟩
      have S2 := same_upd (o := .lst [.ref a]) nB (Same.refl H1)
      refine k B [.ref a] _ (S1.trans (But2.of S2)) (hQ1.same S2) ?_ upd_same ?_
      · cases e : H B with
        | none => rfl
        | some o =>
          by_cases b1 : B = wa
          · obtain ⟨_, ⟨_, d1, _⟩, _⟩ := id hQ1
            obtain ⟨_, o1⟩ := d1.obj
            rw [← b1, nB] at o1
            cases o1
          · by_cases b2 : B = na
            · obtain ⟨_, _, ⟨_, d1, _⟩, _⟩ := id hQ1
              obtain ⟨_, o1⟩ := d1.obj
              rw [← b2, nB] at o1
              cases o1
            · have := S1 B o b1 b2 e
              rw [nB] at this
              cases this
      · rw [bh]
        exact .cons ⟨a, rfl, hb1.same S2⟩ .nil
end
end LS
namespace LS
open PySem PySem.Spec PyProof.Rows L2
theorem QAt.sqt {P : Program} {w : World} {K : PySem.W.Frag} {CQ : Addr} {H H' : Hp} {q wa na p : Addr} {xs : List V} {f : List Str → Str} {n : Nat} (h : QAt P w K CQ H q wa na f n) (S : But2 wa na H H') (hb : SqT K H p xs) : SqT K H' p xs := by
  obtain ⟨kw, h2, _⟩ := h.words
  obtain ⟨kn, h4, _⟩ := h.nums
  obtain ⟨e1, d1⟩ := h2.obj
  obtain ⟨e2, d2⟩ := h4.obj
  rcases hb with (hb | ⟨o, hb⟩) | hb
  · exact .inl (.inl (S p _ (ne_of hb d1 fun z => nomatch z) (ne_of hb d2 fun z => nomatch z) hb))
  · exact .inl (.inr ⟨o, S p _ (ne_of hb d1 fun z => nomatch z) (ne_of hb d2 fun z => nomatch z) hb⟩)
  · exact .inr hb
theorem CovAt.but {P : Program} {w : World} {K : PySem.W.Frag} {CQ : Addr} {H H' : Hp} {q wa na : Addr} {f : List Str → Str} {n : Nat} {xs : List V} {L : List Told} (h : CovAt K H f xs L) (hQ : QAt P w K CQ H q wa na f n) (S : But2 wa na H H') : CovAt K H' f xs L :=
  Paired.mapP h fun v t z => by
    obtain ⟨a, b, e, h1, h2⟩ := z
    exact ⟨a, b, e, hQ.sqt S h1, hQ.sqt S h2⟩
theorem CovAt.same {K : PySem.W.Frag} {H H' : Hp} {f : List Str → Str} {xs : List V} {L : List Told} (h : CovAt K H f xs L) (S : Same H H') : CovAt K H' f xs L :=
  Paired.mapP h fun v t z => by
    obtain ⟨a, b, e, h1, h2⟩ := z
    exact ⟨a, b, e, same_tup S h1, same_tup S h2⟩
theorem CovAt.upd {K : PySem.W.Frag} {H : Hp} {B : Addr} {f : List Str → Str} {xs ys zs : List V} {L : List Told} (h : CovAt K H f xs L) (e : H B = some (.lst ys)) : CovAt K (L2.upd H B (.lst zs)) f xs L :=
  Paired.mapP h fun v t z => by
    obtain ⟨a, b, ev, h1, h2⟩ := z
    exact ⟨a, b, ev, sqt_upd e h1, sqt_upd e h2⟩
theorem QAt.fresh {P : Program} {w : World} {K : PySem.W.Frag} {CQ : Addr} {H H' : Hp} {q wa na B : Addr} {f : List Str → Str} {n : Nat} (h : QAt P w K CQ H q wa na f n) (S : But2 wa na H H') (nB : H' B = none) (h' : QAt P w K CQ H' q wa na f n) : H B = none := by
  cases e : H B with
  | none => rfl
  | some o =>
    by_cases b1 : B = wa
    · obtain ⟨_, ⟨_, d1, _⟩, _⟩ := h'
      obtain ⟨_, o1⟩ := d1.obj
      rw [← b1, nB] at o1
      cases o1
    · by_cases b2 : B = na
      · obtain ⟨_, _, ⟨_, d1, _⟩, _⟩ := h'
        obtain ⟨_, o1⟩ := d1.obj
        rw [← b2, nB] at o1
        cases o1
      · have := S B o b1 b2 e
        rw [nB] at this
        cases this
theorem flat_take {α β : Type} {g : α → List β} {L : List α} {j : Nat} {x : α} (h : L[j]? = some x) : (L.take (j + 1)).flatMap g = (L.take j).flatMap g ++ g x := by
  rw [List.take_add_one, h, List.flatMap_append]
  simp
section
variable {P : Program} {w : World} {K : PySem.W.Frag} {mg : Str → Option Value} {base : Heap} {CR CS CQ : Addr}
theorem ok_settrows {f0 : Addr} {fd : FuncData} (F : Fun K "settling_rows" "settling_rows" sSettRows f0 fd) (T : QuK K CQ) (Rb : DefK P w K mg base CX0 9 "rows_behind" ["questions", "told", "place"] (spRowsBeh P w K CQ)) : FnOk P w K mg base CX0 10 f0 fd ["questions", "places"] (spSettRows P w K CQ) := by
  refine F.ok scSettRows (fun vs H Q E h => ?_) (fun cdv A outer s H vs Q E hr h => ?_)
  · obtain ⟨q, wa, na, pl, dx, st, f, n, rfl, _⟩ := h
    rfl
  · obtain ⟨q, wa, na, pl, dx, st, f, n, rfl, hQ, hq, hst, hpl, k⟩ := h
    have hs2 := sizeLine_eq
    have hf6 := hQ.few
    refine ⟨_, pss_cons (ps_set (i := 2) scSettRows.nd rfl (.inl rfl) (pe_lst (pa_cons (pe_fld (pv 0) rfl) pa_nil)))
      (pss_cons (ps_for PassesOwn.never rfl (pi_list (pv 1)) (pg_name (i := 3) scSettRows.nd rfl (.inr rfl))
        (pss_one (ps_setLc2 (i := 2) (wi1 := iList K (tCall (spRowsBeh P w K CQ) [] E0 (tCons (tVar 0) (tCons (tVar 4) (tCons (tVar 3) tNil))))) (own := [("told", 4), ("row", 5)]) (vs1 := [5]) (g := gName 4) (g1 := gName 5) (by rfl) scSettRows.nd rfl rfl (by rfl) (pi_list (pv 2)) (blkOk_by (own := [("told", 4), ("row", 5)]) (N := n_settling_rows) (sc := defScope sSettRows) (by decide +kernel)) (by decide)
          (fun _ _ _ _ _ => pg_name (i := 4) scSettRows.nd rfl (Or.inl rfl)) (fun _ _ _ _ _ => pts_nil) (fun _ _ _ _ _ => pi_list (pe_call Rb.G hr (by rfl) Rb.g Rb.kp Rb.b .nil pass0 (pa_cons (pv 0) (pa_cons (pv 4) (pa_cons (pv 3) pa_nil))))) (fun _ _ _ _ _ => pg_name (i := 5) scSettRows.nd rfl (Or.inl rfl)) (fun _ _ _ _ _ => pts_nil)
          (fun _ _ _ _ _ => pv 5))))
      (pss_one (ps_ret (pv 2)))), ?_⟩
    refine ⟨_, rfl, q, CQ, dx, _, _, rfl, hq, T.cl, T.nS, qlk_s, by show 1 ≤ sizeLine; omega, fun l0 nl0 => ?_⟩
    have S1 : Same H (upd H l0 (.lst [.ref st])) := same_upd nl0 (Same.refl H)
    have e1 : upd H l0 (.lst [.ref st]) l0 = some (.lst [.ref st]) := upd_same
    generalize upd H l0 (.lst [.ref st]) = H1 at *
    have hpl1 := S1 _ _ hpl
    refine ⟨_, rfl, pl, rfl, ⟨_, SqL.of hpl1⟩, ?_⟩
    refine for_list (xs := (List.range n).map fun i => V.int ((i : Nat) : Int)) (fun i σ G => ∃ (l : Addr) (xs : List V) (x3 x4 x5 : Option V), σ = [some (.ref q), some (.ref pl), some (.ref l), x3, x4, x5] ∧ But2 wa na H G ∧ QAt P w K CQ G q wa na f n ∧ G l = some (.lst xs) ∧ TsAt G xs (rowsF f n i))
      ⟨l0, _, none, none, none, rfl, But2.of S1, hQ.same S1, e1, .cons ⟨st, rfl, hst.same S1⟩ .nil⟩ (fun i σ G _ z => ?_) ?_ ?_
    · obtain ⟨_, _, _, _, _, _, SB, _, _, _⟩ := z
      exact SqL.of (hQ.lst SB hpl)
    · rintro i v σ H3 hvi ⟨l, xs, x3, x4, x5, rfl, SB, hQ3, hl, hT⟩
      have hin : i < n := by
        have := (List.getElem?_eq_some_iff.mp hvi).1
        rw [List.length_map, List.length_range] at this
        exact this
      rw [List.getElem?_map, List.getElem?_range hin] at hvi
      cases hvi
      refine ⟨_, rfl, l, rfl, ⟨_, SqL.of hl⟩, fun B nB => ?_⟩
      have S2 : Same H3 (upd H3 B (.lst [])) := same_upd nB (Same.refl H3)
      have rl := rowsF_len (f := f) (n := n) i
      have p4 : 4 ^ i ≤ 1024 := Nat.le_trans (Nat.pow_le_pow_right (by decide) (show i ≤ 5 by omega)) (by decide)
      have xl := Paired.length hT
      have vts := rowsF_vt (f := f) (n := n) i
      have rs : rowsF f n (i + 1) = (rowsF f n i).flatMap (behF f i) := rfl
      generalize rowsF f n i = L at *
      refine out_it (walk_list (xs := xs)) (fun j G => But2 wa na H3 G ∧ QAt P w K CQ G q wa na f n ∧ ∃ us, G B = some (.lst us) ∧ TsAt G us ((L.take j).flatMap (behF f i))) ⟨But2.of S2, hQ3.same S2, [], upd_same, .nil⟩ (fun j G _ z => SqL.of (hQ3.lst z.1 hl)) ?_ ?_
      · rintro j x G1 G2 hj ⟨SG, hQG, us, hB, hus⟩ ⟨rfl, hx⟩
        obtain ⟨t, htj, a, rfl, ha⟩ := paired_get (hT.but hQ3 SG) hx
        refine ⟨rfl, ?_⟩
        refine ⟨_, rfl, _, rfl, _, rfl, q, wa, na, a, f, n, t, i, rfl, hQG, ha, vts t (List.mem_of_getElem? htj), hin, fun p zs G3 S3 hQ4 np hp hz => ?_⟩
        have hB3 := hQG.lst S3 hB
        have hus3 := hus.but hQG S3
        have pB : p ≠ B := fun e => by rw [e, hB] at np; cases np
        have zl := Paired.length hz
        have b4 := beh_len f i t
        refine ⟨p, rfl, ⟨_, SqL.of hp⟩, ?_⟩
        refine in_it (walk_list (xs := zs)) (fun c G => But2 wa na H3 G ∧ QAt P w K CQ G q wa na f n ∧ G p = some (.lst zs) ∧ TsAt G zs (behF f i t) ∧ ∃ us, G B = some (.lst us) ∧ TsAt G us ((L.take j).flatMap (behF f i) ++ (behF f i t).take c)) ⟨SG.trans S3, hQ4, hp, hz, us, hB3, by rw [List.take_zero, List.append_nil]; exact hus3⟩ (fun c G _ z => SqL.of z.2.2.1) ?_ ?_
        · rintro c x G4 G5 hc ⟨S5, hQ5, hp5, hz5, us5, hB5, hus5⟩ ⟨rfl, hx⟩
          obtain ⟨u, hu, b, rfl, hb⟩ := paired_get hz5 hx
          refine ⟨rfl, ?_⟩
          have ul := Paired.length hus5
          have fl := flat_le (beh_len f i) (L.take j)
          have tl : (L.take j).length ≤ L.length := by rw [List.length_take]; omega
          refine ⟨_, rfl, us5, hB5, ?_, S5.updN nB, hQ5.updL hB5, ?_, hz5.upd hB5, us5 ++ [.ref b], upd_same, ?_⟩
          · rw [ul, List.length_append, List.length_take]
            omega
          · rw [upd_ne pB]
            exact hp5
          · rw [List.take_add_one, hu, ← List.append_assoc]
            exact Paired.snoc (hus5.upd hB5) ⟨b, rfl, bar_upd hb hB5⟩
        · rintro G4 ⟨S5, hQ5, hp5, hz5, us5, hB5, hus5⟩
          rw [zl, List.take_length] at hus5
          refine ⟨S5, hQ5, us5, hB5, ?_⟩
          rw [flat_take htj]
          exact hus5
      · rintro G1 ⟨SG, hQG, us, hB, hus⟩
        rw [xl, List.take_length] at hus
        exact ⟨B, us, _, _, _, rfl, SB.trans SG, hQG, hB, by rw [rs]; exact hus⟩
    · rintro σ G ⟨l, xs, x3, x4, x5, rfl, SB, hQG, hl, hT⟩
      rw [List.length_map, List.length_range] at hT
      exact ⟨_, rfl, k l xs G SB hQG hl hT⟩
theorem ok_cover {f0 fS : Addr} {fd fdS : FuncData} (F : Fun K "cover" "cover" sCover f0 fd) (A0 : AskB P w K mg base CR CS CQ) (Po : DefK P w K mg base CX0 4 "places_of" ["stack"] (spPlacesOf K CR CS)) (Sr : DefK P w K mg base CX0 10 "settling_rows" ["questions", "places"] (spSettRows P w K CQ)) (Rt : DefK P w K mg base CX0 1 "results_told" ["told"] (spResTold K))
    (gS : ∀ m : Nat, FnOk P w K mg base CX0 (m + 1) fS fdS ["self", "told"] (spQSett P w K CQ m)) (mS : Meth K CQ "settled_word" fS) (bS : Binds K fdS ["self", "told"] []) : FnOk P w K mg base CX0 14 f0 fd ["stack"] (spCover K CR CS) := by
  refine F.ok scCover (fun vs H Q E h => ?_) (fun cdv A outer s H vs Q E hr h => ?_)
  · obtain ⟨sp, es, ms, rfl, _⟩ := h
    rfl
  · obtain ⟨sp, es, ms, rfl, M, k⟩ := h
    have hs2 := sizeLine_eq
    have few6 := M.few
    refine ⟨_, pss_cons (ps_set (i := 1) scCover.nd rfl (.inr rfl) (pe_make A0.MI A0.GI hr (by rfl) A0.gQ A0.bI .nil pass0 (pa_cons (pv 0) pa_nil)))
      (pss_cons (ps_set (i := 2) scCover.nd rfl (.inl rfl) (pe_call Sr.G (hr.mono (by decide)) (by rfl) Sr.g Sr.kp Sr.b .nil pass0 (pa_cons (pv 1) (pa_cons (pe_call Po.G (hr.mono (by decide)) (by rfl) Po.g Po.kp Po.b .nil pass0 (pa_cons (pv 0) pa_nil)) pa_nil))))
      (pss_one (ps_ret (pe_lc (own := [("told", 3)]) (g := gName 3) (te := tTup (tCons (tCall (spResTold K) [] E0 (tCons (tVar 3) tNil)) (tCons (tMeth CQ "settled_word" (spQSett P w K CQ 7) [] E0 (tVar 1) (tCons (tVar 3) tNil)) tNil))) (by rfl) scCover.nd (pi_list (pv 2)) (blkOk_by (own := [("told", 3)]) (N := n_cover) (sc := defScope sCover) (by decide +kernel))
        (fun _ _ _ _ _ => pg_name (i := 3) scCover.nd rfl (.inl rfl)) (fun _ _ _ _ _ => pts_nil)
        (fun _ _ _ _ _ => pe_tup (pa_cons (pe_call Rt.G (hr.mono (by decide)) (by rfl) Rt.g Rt.kp Rt.b .nil pass0 (pa_cons (pv 3) pa_nil)) (pa_cons (pe_meth (pv 1) A0.Q.cl mS (gS 7) (hr.mono (by decide)) bS .nil pass0 (pa_cons (pv 3) pa_nil)) pa_nil))))))), ?_⟩
    refine ⟨_, rfl, fun p dx hp hdx hne => ?_⟩
    refine ⟨H, p, dx, sp, es, ms, rfl, same_upd hp (same_upd hdx (Same.refl H)), hp, upd_same, M, fun st wa na H1 S1 hwa hna e1 hQ hst => ⟨rfl, ?_⟩⟩
    refine ⟨_, rfl, _, rfl, sp, es, ms, rfl, M.same S1, fun pl H2 S2 hpl => ?_⟩
    have hQ2 := hQ.same S2
    refine ⟨p, wa, na, pl, dx, st, wordL es ms, ms.length, rfl, hQ2, S2 _ _ e1, hst.same S2, hpl, fun l xs H3 S3 hQ3 hl hT => ?_⟩
    have vts := rowsF_vt (f := wordL es ms) (n := ms.length) ms.length
    have rl := rowsF_len (f := wordL es ms) (n := ms.length) ms.length
    have p4 : 4 ^ ms.length ≤ 4096 := Nat.le_trans (Nat.pow_le_pow_right (by decide) few6) (by decide)
    have xl := Paired.length hT
    refine ⟨_, rfl, l, rfl, ⟨_, SqL.of hl⟩, fun B nB => ?_⟩
    have S4 : Same H3 (upd H3 B (.lst [])) := same_upd nB (Same.refl H3)
    have back : ∀ {G : Hp}, But2 wa na H3 G → Same H G := fun S => But2.back S1 hwa hna ((But2.of S2).trans (S3.trans S))
    have SH3 := back (But2.refl wa na H3)
    generalize rowsF (wordL es ms) ms.length ms.length = L at *
    refine lc_it (walk_list (xs := xs)) (fun j G => But2 wa na H3 G ∧ QAt P w K CQ G p wa na (wordL es ms) ms.length ∧ ∃ ys, G B = some (.lst ys) ∧ CovAt K G (wordL es ms) ys (L.take j)) ⟨But2.of S4, hQ3.same S4, [], upd_same, .nil⟩ (fun j G _ z => SqL.of (hQ3.lst z.1 hl)) ?_ ?_
    · rintro j v G0 G hj ⟨SG, hQG, ys, hB, hys⟩ ⟨rfl, hx⟩
      obtain ⟨t, htj, a, rfl, ha⟩ := paired_get (hT.but hQ3 SG) hx
      have vt := vts t (List.mem_of_getElem? htj)
      have tl6 : t.length ≤ 6 := by rw [vt.1]; exact few6
      refine ⟨rfl, yes_of ?_⟩
      refine ⟨_, rfl, a, t, rfl, ha.sqt, by omega, fun b G2 S5 hb => ?_⟩
      have hQ5 := hQG.same S5
      obtain ⟨⟨dx0, st0, hq0⟩, _, _, _, _, _⟩ := id hQ5
      refine ⟨_, rfl, p, dx0, _, rfl, hq0, qlk_none (by decide +kernel), _, rfl, p, wa, na, a, wordL es ms, ms.length, t, rfl, hQ5, ha.same S5, vt, by have := vt_len vt; omega, fun G3 S6 hQ6 => ?_⟩
      have S56 := (But2.of S5).trans S6
      have hB6 := hQG.lst S56 hB
      have hys6 := hys.but hQG S56
      have hb6 := hQ5.sqt S6 (SqT.of hb)
      refine ⟨by show 2 ≤ sizeLine; omega, fun tt ntt => ?_⟩
      have S7 : Same G3 (upd G3 tt (.tup [.ref b, .str (settS (wordL es ms) t)])) := same_upd ntt (Same.refl G3)
      have et : upd G3 tt (.tup [.ref b, .str (settS (wordL es ms) t)]) tt = some (.tup [.ref b, .str (settS (wordL es ms) t)]) := upd_same
      generalize upd G3 tt (.tup [.ref b, .str (settS (wordL es ms) t)]) = G4 at *
      have hB7 := S7 _ _ hB6
      have yl := Paired.length hys
      rw [List.length_take] at yl
      refine ⟨ys, hB7, by omega, (SG.trans (S56.trans (But2.of S7))).updN nB, (hQ6.same S7).updL hB7, ys ++ [.ref tt], upd_same, ?_⟩
      rw [List.take_add_one, htj]
      exact Paired.snoc ((hys6.same S7).upd hB7) ⟨tt, b, rfl, sqt_upd hB7 (SqT.of et), sqt_upd hB7 (same_tup S7 hb6)⟩
    · rintro G ⟨SG, hQG, ys, hB, hys⟩
      rw [xl, List.take_length] at hys
      exact k B ys G (back SG) (SH3.free nB) hB hys
end
end LS
namespace LS
open PySem PySem.Spec PyProof.Rows L2
/-- a tuple == an empty one -/
def rEqNilT (K : PySem.W.Frag) : R2 := fun x y H Q => ∃ a b xs, x = .ref a ∧ y = .ref b ∧ SqT K H a xs ∧ SqT K H b [] ∧ Q (.bl xs.isEmpty) H
theorem op_eqNilT {X : Cx} (hu : X.A.units + 64 < cLine) : OpR X (compareOp .Eq) (rEqNilT X.K) := by
  intro pins s σ H x y v u Q I rx ry h
  obtain ⟨a, b, xs, rfl, rfl, ha, hb, q⟩ := h
  cases (show v = Value.ref a from rx)
  cases (show u = Value.ref b from ry)
  obtain ⟨us, r1, p1, _⟩ := I.tuple ha
  obtain ⟨ws, r2, p2, _⟩ := I.tuple hb
  cases r2
  refine SeqAt.RcAt.tuples (e := fun _ => true) p1 p2 (by omega) (fun j h1 h2 => absurd h2 (by simp)) _ _ _ _ ⟨.bl xs.isEmpty, H, I, ?_, q⟩
  cases r1 with
  | nil => rfl
  | cons _ _ =>
    show Value.bool _ = Value.bool _
    simp
theorem in_it2 {J : It} {n : Nat} {G : Hp → Prop} {Y : Nat → Hp → V → Hp → Prop} (w : Walk J n G Y) {g : TG} {tt : TT} {te : TE} {vs : List Nat} {σ : L2.St} {H1 : Hp} {D : Addr} {Nx : Hp → Prop} (Pv : Nat → Hp → Prop) (h0 : Pv 0 H1) (hG : ∀ i H, i ≤ n → Pv i H → G H)
    (hs : ∀ i x H H', i < n → Pv i H → Y i H x H' → g x (wipe σ vs) H' fun σ2 H2 => wipe σ2 vs = wipe σ vs ∧ tt σ2 H2 fun b H3 => if b = true then te σ2 H3 fun y H4 => ∃ acc, H4 D = some (.lst acc) ∧ acc.length < sizeLine ∧ Pv (i + 1) (upd H4 D (.lst (acc ++ [y]))) else Pv (i + 1) H3) (hd : ∀ H, Pv n H → Nx H) :
    ∃ W : Nat → Nat → Hp → Prop, (∃ m, W 0 m H1) ∧ ∀ i m H, W i m H → (J.stop i H ∧ Nx H) ∨ (J.go i H ∧ ∃ N1 : Hp → Prop, (∀ H', N1 H' → ∃ m', m' < m ∧ W (i + 1) m' H') ∧ ∀ x H', J.yld i H x H' → g x (wipe σ vs) H' fun σ2 H2 => wipe σ2 vs = wipe σ vs ∧
      tt σ2 H2 fun b H3 => if b = true then te σ2 H3 fun y H4 => ∃ acc, H4 D = some (.lst acc) ∧ acc.length < sizeLine ∧ N1 (upd H4 D (.lst (acc ++ [y]))) else N1 H3) := by
  refine ⟨fun i m H => m = n - i ∧ i ≤ n ∧ Pv i H, ⟨n, (Nat.sub_zero n).symm, Nat.zero_le n, h0⟩, fun i m H ⟨em, hi, p⟩ => ?_⟩
  have stands := hG i H hi p
  rcases Nat.lt_or_ge i n with lt | ge
  · exact .inr ⟨w.goes i H lt stands, Pv (i + 1), fun H' p' => ⟨n - (i + 1), by omega, rfl, lt, p'⟩, fun x H' y => hs i x H H' lt p (w.yields i H x H' lt stands y)⟩
  · obtain rfl : i = n := Nat.le_antisymm hi ge
    exact .inl ⟨w.stops H stands, hd H p⟩
end LS
namespace LS
open PySem PySem.Spec PyProof.Rows L2
theorem tup_upd {H : Hp} {B t : Addr} {u0 u1 : List V} {xs : List V} (hB : H B = some (.lst u0)) (h : H t = some (.tup xs)) : upd H B (.lst u1) t = some (.tup xs) := by
  rw [upd_ne (ne_of h hB fun z => nomatch z)]
  exact h
def IupsB (H : Hp) : List V → List (List Int) → Prop
  | [], L => L = []
  | v :: vs, L => ∃ ws r, L = ws :: r ∧ (∃ a, v = .ref a ∧ H a = some (.tup (ws.map V.int))) ∧ IupsB H vs r
theorem iupb_same {H H' : Hp} (S : Same H H') : ∀ {vs : List V} {L : List (List Int)}, IupsB H vs L → IupsB H' vs L
  | [], _, h => h
  | v :: vs, _, ⟨ws, r, e, ⟨a, h1, h2⟩, h3⟩ => ⟨ws, r, e, ⟨a, h1, S _ _ h2⟩, iupb_same S h3⟩
theorem iupb_append {H : Hp} : ∀ {vs us : List V} {L M : List (List Int)}, IupsB H vs L → IupsB H us M → IupsB H (vs ++ us) (L ++ M)
  | [], us, L, M, h, h2 => by
    have h : L = [] := h
    rw [h]
    exact h2
  | v :: vs, us, _, M, ⟨ws, r, e, h1, h3⟩, h2 => by
    subst e
    exact ⟨ws, r ++ M, rfl, h1, iupb_append h3 h2⟩
theorem iupb_len {H : Hp} : ∀ {vs : List V} {L : List (List Int)}, IupsB H vs L → vs.length = L.length
  | [], L, h => by
    have h : L = [] := h
    rw [h]
    rfl
  | v :: vs, _, ⟨ws, r, e, _, h3⟩ => by
    subst e
    rw [List.length_cons, List.length_cons, iupb_len h3]
theorem iupb_get {H : Hp} : ∀ {vs : List V} {L : List (List Int)} {i : Nat} {v : V}, IupsB H vs L → vs[i]? = some v → ∃ ws a, L[i]? = some ws ∧ v = .ref a ∧ H a = some (.tup (ws.map V.int))
  | [], _, i, v, _, h => by simp at h
  | u :: vs, _, 0, v, ⟨ws, r, e, ⟨a, h1, h2⟩, _⟩, h => by
    subst e
    simp at h
    subst h
    exact ⟨ws, a, rfl, h1, h2⟩
  | u :: vs, _, i + 1, v, ⟨ws, r, e, _, h3⟩, h => by
    subst e
    obtain ⟨ws', a, q1, q2, q3⟩ := iupb_get (i := i) h3 (by simpa using h)
    exact ⟨ws', a, by simpa using q1, q2, q3⟩
theorem iupb_upd {H : Hp} {B : Addr} {u0 u1 : List V} (hB : H B = some (.lst u0)) : ∀ {vs : List V} {L : List (List Int)}, IupsB H vs L → IupsB (upd H B (.lst u1)) vs L
  | [], _, h => h
  | v :: vs, _, ⟨ws, r, e, ⟨a, h1, h2⟩, h3⟩ => ⟨ws, r, e, ⟨a, h1, tup_upd hB h2⟩, iupb_upd hB h3⟩
end LS
namespace LS
open PySem PySem.Spec PyProof.Rows L2
/-! all orders of some numbers -/
abbrev sOrders : Stmt := top i_all_orders
def fitO (row : List Int) (z : Int) : Bool := !inV (V.int z) (row.map V.int)
def ordS (ms : List Int) (L : List (List Int)) : List (List Int) := L.flatMap fun row => (ms.filter (fitO row)).map fun z => row ++ [z]
def ordN (ms : List Int) : Nat → List (List Int)
  | 0 => [[]]
  | k + 1 => ordS ms (ordN ms k)
def ordF (ms : List Int) : List (List Int) := ordN ms ms.length
def spOrders (K : PySem.W.Frag) : Sp := fun vs H Q _ => ∃ (m : Addr) (ms : List Int), vs = [.ref m] ∧ SqL K H m (ms.map V.int) ∧ ms.length ≤ 6 ∧ ∀ p xs H', Same H H' → H p = none → H' p = some (.lst xs) → IupsB H' xs (ordF ms) → Q (.ref p) H'
theorem ordS_take {ms : List Int} {L : List (List Int)} {j : Nat} {row : List Int} (h : L[j]? = some row) : ordS ms (L.take (j + 1)) = ordS ms (L.take j) ++ (ms.filter (fitO row)).map fun z => row ++ [z] := by
  unfold ordS
  rw [List.take_add_one, h, List.flatMap_append]
  show _ ++ ([row].flatMap _) = _
  rw [List.flatMap_cons, List.flatMap_nil, List.append_nil]
theorem ordS_len (ms : List Int) : ∀ L : List (List Int), (ordS ms L).length ≤ ms.length * L.length
  | [] => Nat.zero_le _
  | row :: L => by
    have q := ordS_len ms L
    have f := List.length_filter_le (fitO row) ms
    unfold ordS at *
    rw [List.flatMap_cons, List.length_append, List.length_map, List.length_cons, Nat.mul_succ]
    omega
theorem ordN_len (ms : List Int) (h6 : ms.length ≤ 6) : ∀ k, (ordN ms k).length ≤ 6 ^ k
  | 0 => Nat.le_refl 1
  | k + 1 => by
    have q := ordN_len ms h6 k
    have f := ordS_len ms (ordN ms k)
    rw [Nat.pow_succ, Nat.mul_comm]
    exact Nat.le_trans f (Nat.mul_le_mul h6 q)
theorem ordN_mem (ms : List Int) : ∀ k, ∀ row ∈ ordN ms k, row.length = k
  | 0, row, h => by
    rw [List.mem_singleton.mp h]
    rfl
  | k + 1, row, h => by
    obtain ⟨u, hu, hr⟩ := List.mem_flatMap.mp h
    obtain ⟨z, _, rfl⟩ := List.mem_map.mp hr
    rw [List.length_append, ordN_mem ms k u hu]
    rfl
theorem ints_flat (l : List Int) : (l.map V.int).all flatV = true := by
  rw [List.all_eq_true]
  intro v hv
  obtain ⟨i, _, rfl⟩ := List.mem_map.mp hv
  rfl
section
variable {P : Program} {w : World} {K : PySem.W.Frag} {mg : Str → Option Value} {base : Heap}
theorem scOrders : FnScope n_all_orders ["items"] (defScope sOrders) := ⟨rfl, rfl, rfl, by decide +kernel, rfl, by decide +kernel, by decide +kernel⟩
theorem ok_orders {f : Addr} {fd : FuncData} (F : Fun K "all_orders" "all_orders" sOrders f fd) : FnOk P w K mg base CX0 1 f fd ["items"] (spOrders K) := by
  refine F.ok scOrders (fun vs H Q E h => ?_) (fun cdv A outer s H vs Q E hr h => ?_)
  · obtain ⟨m, ms, rfl, _⟩ := h
    rfl
  · obtain ⟨m, ms, rfl, hm, h6, k⟩ := h
    have hs2 := sizeLine_eq
    refine ⟨_, pss_cons (ps_set (i := 1) scOrders.nd rfl (.inl rfl) (pe_lst (pa_cons (pe_tup pa_nil) pa_nil)))
      (pss_cons (ps_for PassesOwn.never rfl (pi_list (pv 0)) (pg_name (i := 2) scOrders.nd rfl (.inl rfl))
        (pss_one (ps_setLc2 (i := 1) (wi1 := iList K (tVar 0)) (own := [("row", 3), ("item", 4)]) (vs1 := [4]) (g := gName 3) (g1 := gName 4) (by rfl) scOrders.nd rfl rfl (by rfl) (pi_list (pv 1)) (blkOk_by (own := [("row", 3), ("item", 4)]) (N := n_all_orders) (sc := defScope sOrders) (by decide +kernel)) (by decide)
            (fun _ _ _ _ _ => pg_name (i := 3) scOrders.nd rfl (Or.inl rfl)) (fun _ _ _ _ _ => pts_nil) (fun _ _ _ _ _ => pi_list (pv 0)) (fun _ _ _ _ _ => pg_name (i := 4) scOrders.nd rfl (Or.inl rfl))
            (fun _ _ _ _ _ => pts_one (pt_cmpR (r := rIn K true) op_notIn_seq (pv 4) (pv 3) (by rfl)))
            (fun _ _ _ _ _ => pe_op (r := rCatA K) op_catA (pv 3) (pe_tup (pa_cons (pv 4) pa_nil))))))
      (pss_one (ps_ret (pv 1)))), ?_⟩
    refine ⟨Nat.zero_le _, fun t0 nt0 => ⟨by show 1 ≤ sizeLine; omega, fun fl nfl => ?_⟩⟩
    have S1 : Same H (upd H t0 (.tup [])) := same_upd nt0 (Same.refl H)
    have e1 : upd H t0 (.tup []) t0 = some (.tup []) := upd_same
    generalize upd H t0 (.tup []) = H1 at *
    have nflH : H fl = none := S1.free nfl
    have S2 : Same H1 (upd H1 fl (.lst [.ref t0])) := same_upd nfl (Same.refl H1)
    have e2 : upd H1 fl (.lst [.ref t0]) fl = some (.lst [.ref t0]) := upd_same
    have e21 := S2 _ _ e1
    generalize upd H1 fl (.lst [.ref t0]) = H2 at *
    have S12 := S1.trans S2
    refine ⟨_, rfl, m, rfl, ⟨_, Same.seq S12 hm⟩, ?_⟩
    refine for_list (xs := ms.map V.int) (fun i σ H' => ∃ (lg : Addr) (ls : List V) (x2 x3 x4 : Option V), σ = [some (.ref m), some (.ref lg), x2, x3, x4] ∧ Same H H' ∧ H lg = none ∧ H' lg = some (.lst ls) ∧ IupsB H' ls (ordN ms i))
      ⟨fl, [.ref t0], none, none, none, rfl, S12, nflH, e2, ⟨[], [], rfl, ⟨t0, rfl, e21⟩, rfl⟩⟩ (fun i σ H' _ q => by
        obtain ⟨_, _, _, _, _, _, q, _⟩ := q
        exact Same.seq q hm) ?_ ?_
    · rintro i v σ H5 hvi ⟨lg, ls, x2, x3, x4, rfl, S5, nlg, hlg, hls⟩
      have hi : i < 6 := by
        have := (List.getElem?_eq_some_iff.mp hvi).1
        rw [List.length_map] at this
        omega
      have ll := iupb_len hls
      have Lb := ordN_len ms h6 i
      have pw : 6 ^ i ≤ 6 ^ 5 := Nat.pow_le_pow_right (by decide) (by omega)
      have p5 : 6 ^ 5 = 7776 := rfl
      have Lm := ordN_mem ms i
      have en : ordN ms (i + 1) = ordS ms (ordN ms i) := rfl
      generalize ordN ms i = L at *
      refine ⟨_, rfl, lg, rfl, ⟨_, SqL.of hlg⟩, fun B nB => ?_⟩
      have hmH := Same.seq S5 hm
      refine out_it (walk_list (xs := ls)) (fun j G => Same H5 G ∧ ∃ us, G B = some (.lst us) ∧ IupsB G us (ordS ms (L.take j))) ⟨same_upd nB (Same.refl H5), [], upd_same, rfl⟩ (fun j G _ q => SqL.of (q.1 _ _ hlg)) ?_ ?_
      · rintro j x G1 G2 hj ⟨SG, us, hB, hus⟩ ⟨rfl, hx⟩
        obtain ⟨row, a, hrj, rfl, ha⟩ := iupb_get (iupb_same SG hls) hx
        have rl := Lm row (List.mem_of_getElem? hrj)
        refine ⟨rfl, _, rfl, m, rfl, ⟨_, Same.seq SG hmH⟩, ?_⟩
        refine in_it2 (walk_list (xs := ms.map V.int)) (fun c G => Same H5 G ∧ G a = some (.tup (row.map V.int)) ∧ ∃ us, G B = some (.lst us) ∧ IupsB G us (ordS ms (L.take j) ++ ((ms.take c).filter (fitO row)).map fun z => row ++ [z])) ⟨SG, ha, us, hB, by rw [List.take_zero]; exact (List.append_nil _).symm ▸ hus⟩ (fun c G _ q => Same.seq q.1 hmH) ?_ ?_
        · rintro c x G3 G4 hc ⟨S6, ha6, us6, hB6, hus6⟩ ⟨rfl, hx⟩
          rw [List.length_map] at hc
          obtain ⟨z, hz⟩ : ∃ z, ms[c]? = some z := ⟨_, List.getElem?_eq_getElem hc⟩
          rw [List.getElem?_map, hz] at hx
          cases hx
          have tk : ((ms.take (c + 1)).filter (fitO row)).map (fun z => row ++ [z]) = ((ms.take c).filter (fitO row)).map (fun z => row ++ [z]) ++ if fitO row z = true then [row ++ [z]] else [] := by
            rw [List.take_add_one, hz, List.filter_append, List.map_append]
            congr 1
            show List.map _ (List.filter _ [z]) = _
            rw [List.filter_cons, List.filter_nil]
            split <;> rfl
          have ul := iupb_len hus6
          have lb := ordS_len ms (L.take j)
          have lb2 : ms.length * (L.take j).length ≤ 6 * 7776 := Nat.mul_le_mul h6 (by rw [List.length_take]; omega)
          have fb := List.length_filter_le (fitO row) (ms.take c)
          rw [List.length_take] at fb
          have usl : us6.length < sizeLine := by
            rw [ul, List.length_append, List.length_map]
            omega
          have rowl : row.length ≤ 6 := by omega
          refine ⟨rfl, _, rfl, _, rfl, a, _, rfl, .inr (SqT.of ha6), rfl, ints_flat row, _, rfl, ?_⟩
          show (if fitO row z = true then _ else _)
          cases e : fitO row z with
          | false =>
            refine iteF ⟨S6, ha6, us6, hB6, ?_⟩
            rw [tk, e, if_neg Bool.false_ne_true, List.append_nil]
            exact hus6
          | true =>
            refine iteT ⟨_, rfl, _, rfl, by show 1 ≤ sizeLine; omega, fun t nt => ?_⟩
            have S8 : Same G4 (upd G4 t (.tup [.int z])) := same_upd nt (Same.refl G4)
            have e8 : upd G4 t (.tup [.int z]) t = some (.tup [.int z]) := upd_same
            generalize upd G4 t (.tup [.int z]) = G5 at *
            have put : ∀ (p : Addr) (G6 : Hp), Same G5 G6 → G6 p = some (.tup ((row ++ [z]).map V.int)) → ∃ acc, G6 B = some (.lst acc) ∧ acc.length < sizeLine ∧ Same H5 (upd G6 B (.lst (acc ++ [.ref p]))) ∧ upd G6 B (.lst (acc ++ [.ref p])) a = some (.tup (row.map V.int)) ∧
                ∃ us, upd G6 B (.lst (acc ++ [.ref p])) B = some (.lst us) ∧ IupsB (upd G6 B (.lst (acc ++ [.ref p]))) us (ordS ms (L.take j) ++ ((ms.take (c + 1)).filter (fitO row)).map fun z => row ++ [z]) := fun p G6 S9 hp => by
              have S89 := S8.trans S9
              have hB7 := S89 _ _ hB6
              refine ⟨us6, hB7, usl, same_upd nB (S6.trans S89), tup_upd hB7 (S89 _ _ ha6), us6 ++ [.ref p], upd_same, ?_⟩
              rw [tk, if_pos e, ← List.append_assoc]
              exact iupb_append (iupb_upd hB7 (iupb_same S89 hus6)) ⟨row ++ [z], [], rfl, ⟨p, rfl, tup_upd hB7 hp⟩, rfl⟩
            refine ⟨a, t, _, _, rfl, rfl, SqT.of (S8 _ _ ha6), SqT.of e8, by rw [List.length_map]; show row.length + 1 ≤ sizeLine; omega, fun q => put t G5 (Same.refl G5) (by rw [List.map_eq_nil_iff.mp q]; exact e8), fun _ q => (nomatch q), fun _ _ p np => ?_⟩
            have S9 : Same G5 (upd G5 p (.tup (row.map V.int ++ [.int z]))) := same_upd np (Same.refl G5)
            refine put p _ S9 ?_
            rw [List.map_append]
            exact upd_same
        · rintro G3 ⟨S6, _, us6, hB6, hus6⟩
          rw [List.length_map, List.take_length] at hus6
          refine ⟨S6, us6, hB6, ?_⟩
          rw [ordS_take hrj]
          exact hus6
      · rintro G1 ⟨SG, us, hB, hus⟩
        rw [ll, List.take_length] at hus
        exact ⟨B, us, _, _, _, rfl, S5.trans SG, S5.free nB, hB, en ▸ hus⟩
    · rintro σ H5 ⟨lg, ls, x2, x3, x4, rfl, S5, nlg, hlg, hls⟩
      rw [List.length_map] at hls
      exact ⟨_, rfl, k lg ls H5 S5 nlg hlg hls⟩
end
end LS
namespace LS
open PySem L2 TxS
/-! entries without their addresses -/
mutual
def plE : Ent → Pl
  | .rule _ z ds => .rule z ds
  | .stk _ es => .stk (plEs es)
def plEs : List Ent → List Pl
  | [] => []
  | e :: es => plE e :: plEs es
end
mutual
theorem mt_pl : ∀ {p : Pl} {e : Ent}, Mt p e → plE e = p
  | .rule z ds, e, ⟨q, h⟩ => by
    subst h
    rfl
  | .stk ps, e, ⟨q, es, h, h2⟩ => by
    subst h
    show Pl.stk (plEs es) = _
    rw [mts_pl h2]
theorem mts_pl : ∀ {ps : List Pl} {es : List Ent}, Mts ps es → plEs es = ps
  | [], es, h => by
    have h : es = [] := h
    subst h
    rfl
  | p :: ps, es, ⟨e, r, z, h1, h2⟩ => by
    subst z
    show plE e :: plEs r = _
    rw [mt_pl h1, mts_pl h2]
end
mutual
theorem pl_mt : ∀ e : Ent, Mt (plE e) e
  | .rule p z ds => ⟨p, rfl⟩
  | .stk p es => ⟨p, es, rfl, pls_mts es⟩
theorem pls_mts : ∀ es : List Ent, Mts (plEs es) es
  | [] => rfl
  | e :: es => ⟨e, es, rfl, pl_mt e, pls_mts es⟩
end
theorem plEs_append : ∀ (a b : List Ent), plEs (a ++ b) = plEs a ++ plEs b
  | [], _ => rfl
  | e :: a, b => by
    show plE e :: plEs (a ++ b) = plE e :: (plEs a ++ plEs b)
    rw [plEs_append a b]
theorem plEs_len (es : List Ent) : (plEs es).length = es.length := (mts_rules (pls_mts es)).2.2.symm
theorem plEs_depth (es : List Ent) : depthPs (plEs es) = depthEs es := (mts_rules (pls_mts es)).2.1.symm
theorem plEs_rules (es : List Ent) : rulesPs (plEs es) = (rulesEs es).map fun r => (r.2.1, r.2.2) := (mts_rules (pls_mts es)).1.symm
theorem plEs_rlen (es : List Ent) : (rulesPs (plEs es)).length = (rulesEs es).length := by rw [plEs_rules, List.length_map]
theorem plE_rlen (e : Ent) : (rulesP (plE e)).length = (rulesE e).length := by rw [← (mt_rules (pl_mt e)).1, List.length_map]
theorem plEs_get : ∀ {es : List Ent} {i : Nat} {e : Ent}, es[i]? = some e → (plEs es)[i]? = some (plE e)
  | [], i, e, h => by simp at h
  | x :: es, 0, e, h => by simp at h; subst h; rfl
  | x :: es, i + 1, e, h => by
    show (plE x :: plEs es)[i + 1]? = _
    rw [List.getElem?_cons_succ]
    exact plEs_get (by simpa using h)
theorem plEs_take : ∀ (es : List Ent) (i : Nat), plEs (es.take i) = (plEs es).take i
  | [], i => by simp [plEs]
  | e :: es, 0 => rfl
  | e :: es, i + 1 => by
    show plE e :: plEs (es.take i) = plE e :: (plEs es).take i
    rw [plEs_take es i]
theorem plEs_drop : ∀ (es : List Ent) (i : Nat), plEs (es.drop i) = (plEs es).drop i
  | [], i => by simp [plEs]
  | e :: es, 0 => rfl
  | e :: es, i + 1 => plEs_drop es i
/-! what is left without some rules -/
mutual
def leftP (ns : List Int) : Int → Pl → List Pl
  | k, .rule z ds => if k ∈ ns then [] else [.rule z ds]
  | k, .stk ps => if (leftPs ns k ps).length = 0 ∧ ps.length ≠ 0 then [] else [.stk (leftPs ns k ps)]
def leftPs (ns : List Int) : Int → List Pl → List Pl
  | _, [] => []
  | k, p :: ps => leftP ns k p ++ leftPs ns (k + ((rulesP p).length : Nat)) ps
end
theorem leftPs_append (ns : List Int) : ∀ (a b : List Pl) (k : Int), leftPs ns k (a ++ b) = leftPs ns k a ++ leftPs ns (k + ((rulesPs a).length : Nat)) b
  | [], b, k => by
    show leftPs ns k b = [] ++ leftPs ns (k + ((0 : Nat) : Int)) b
    rw [List.nil_append, show k + ((0 : Nat) : Int) = k by omega]
  | p :: a, b, k => by
    show leftP ns k p ++ leftPs ns _ (a ++ b) = (leftP ns k p ++ leftPs ns _ a) ++ leftPs ns _ b
    rw [leftPs_append ns a b, List.append_assoc]
    congr 2
    congr 1
    show _ = k + (((rulesP p ++ rulesPs a).length : Nat) : Int)
    rw [List.length_append]
    omega
theorem leftPs_take (ns : List Int) (k : Int) {ps : List Pl} {i : Nat} {p : Pl} (h : ps[i]? = some p) : leftPs ns k (ps.take (i + 1)) = leftPs ns k (ps.take i) ++ leftP ns (k + ((rulesPs (ps.take i)).length : Nat)) p := by
  rw [List.take_add_one, h, leftPs_append]
  congr 1
  show leftP ns _ p ++ [] = _
  rw [List.append_nil]
theorem leftP_len (ns : List Int) (k : Int) : ∀ p : Pl, (leftP ns k p).length ≤ 1
  | .rule z ds => by
    unfold leftP
    split <;> simp
  | .stk ps => by
    unfold leftP
    split <;> simp
theorem leftPs_len (ns : List Int) : ∀ (ps : List Pl) (k : Int), (leftPs ns k ps).length ≤ ps.length
  | [], k => Nat.le_refl 0
  | p :: ps, k => by
    show (leftP ns k p ++ leftPs ns _ ps).length ≤ ps.length + 1
    rw [List.length_append]
    have h1 := leftP_len ns k p
    have h2 := leftPs_len ns ps (k + ((rulesP p).length : Nat))
    omega
mutual
theorem leftP_sub (ns : List Int) : ∀ (p : Pl) (k : Int), (rulesPs (leftP ns k p)).Sublist (rulesP p) ∧ depthPs (leftP ns k p) ≤ depthP p
  | .rule z ds, k => by
    unfold leftP
    split
    · exact ⟨List.nil_sublist _, Nat.zero_le _⟩
    · exact ⟨List.Sublist.refl _, by show max 0 0 ≤ 0; decide⟩
  | .stk ps, k => by
    obtain ⟨h1, h2⟩ := leftPs_sub ns ps k
    unfold leftP
    split
    · exact ⟨List.nil_sublist _, Nat.zero_le _⟩
    · refine ⟨?_, ?_⟩
      · show (rulesPs (leftPs ns k ps) ++ []).Sublist (rulesPs ps)
        rw [List.append_nil]
        exact h1
      · show max (1 + depthPs (leftPs ns k ps)) 0 ≤ 1 + depthPs ps
        omega
theorem leftPs_sub (ns : List Int) : ∀ (ps : List Pl) (k : Int), (rulesPs (leftPs ns k ps)).Sublist (rulesPs ps) ∧ depthPs (leftPs ns k ps) ≤ depthPs ps
  | [], k => ⟨List.Sublist.refl _, Nat.le_refl _⟩
  | p :: ps, k => by
    obtain ⟨a1, a2⟩ := leftP_sub ns p k
    obtain ⟨b1, b2⟩ := leftPs_sub ns ps (k + ((rulesP p).length : Nat))
    show (rulesPs (leftP ns k p ++ leftPs ns _ ps)).Sublist (rulesP p ++ rulesPs ps) ∧ depthPs (leftP ns k p ++ leftPs ns _ ps) ≤ max (depthP p) (depthPs ps)
    rw [rulesPs_append, depthPs_append]
    exact ⟨a1.append b1, by omega⟩
end
mutual
theorem leftP_gd {zs : List Str} (ns : List Int) : ∀ (p : Pl) (k : Int), GdP zs p → GdPs zs (leftP ns k p)
  | .rule z ds, k, h => by
    unfold leftP
    split
    · exact True.intro
    · exact ⟨h, True.intro⟩
  | .stk ps, k, ⟨h1, h2⟩ => by
    unfold leftP
    split
    · exact True.intro
    · exact ⟨⟨Nat.le_trans (leftPs_len ns ps k) h1, leftPs_gd ns ps k h2⟩, True.intro⟩
theorem leftPs_gd {zs : List Str} (ns : List Int) : ∀ (ps : List Pl) (k : Int), GdPs zs ps → GdPs zs (leftPs ns k ps)
  | [], k, _ => True.intro
  | p :: ps, k, ⟨h1, h2⟩ => gds_append (leftP_gd ns p k h1) (leftPs_gd ns ps _ h2)
theorem gds_append {zs : List Str} : ∀ {a b : List Pl}, GdPs zs a → GdPs zs b → GdPs zs (a ++ b)
  | [], _, _, h => h
  | p :: a, b, ⟨h1, h2⟩, h => ⟨h1, gds_append h2 h⟩
end
mutual
theorem leftP_nil : ∀ (p : Pl) (k : Int), leftP [] k p = [p]
  | .rule z ds, k => by
    unfold leftP
    rw [if_neg (by simp)]
  | .stk ps, k => by
    unfold leftP
    rw [leftPs_nil ps k, if_neg (fun h => h.2 h.1)]
theorem leftPs_nil : ∀ (ps : List Pl) (k : Int), leftPs [] k ps = ps
  | [], k => rfl
  | p :: ps, k => by
    show leftP [] k p ++ leftPs [] _ ps = _
    rw [leftP_nil p k, leftPs_nil ps]
    rfl
end
mutual
theorem leftP_mem {ns ms : List Int} (h : ∀ x, x ∈ ns ↔ x ∈ ms) : ∀ (p : Pl) (k : Int), leftP ns k p = leftP ms k p
  | .rule z ds, k => by
    unfold leftP
    by_cases q : k ∈ ns
    · rw [if_pos q, if_pos ((h k).mp q)]
    · rw [if_neg q, if_neg (fun z => q ((h k).mpr z))]
  | .stk ps, k => by
    unfold leftP
    rw [leftPs_mem h ps k]
theorem leftPs_mem {ns ms : List Int} (h : ∀ x, x ∈ ns ↔ x ∈ ms) : ∀ (ps : List Pl) (k : Int), leftPs ns k ps = leftPs ms k ps
  | [], k => rfl
  | p :: ps, k => by
    show leftP ns k p ++ leftPs ns _ ps = leftP ms k p ++ leftPs ms _ ps
    rw [leftP_mem h p k, leftPs_mem h ps]
end
/-! equal but for addresses: equal -/
theorem okT_eqv {ds : List PyData} (h : OkT ds) : PyData.eqv (.tuple ds) (.tuple ds) = true := by
  have q : ∀ l : List PyData, (∀ d ∈ l, PyData.eqv d d = true) → PyData.eqvAll l l = true := by
    intro l
    induction l with
    | nil => intro _; rfl
    | cons d l ih =>
      intro hl
      show (PyData.eqv d d && PyData.eqvAll l l) = true
      rw [hl d List.mem_cons_self, ih fun x hx => hl x (List.mem_cons_of_mem _ hx)]
      rfl
  show PyData.eqvAll ds ds = true
  refine q ds fun d hd => ?_
  rcases actD_flat (h.2 d hd) with ⟨_, _, z, rfl, _⟩ | ⟨_, _, i, rfl, _⟩ <;> simp [PyData.eqv]
mutual
theorem eqS_pl {zs : List Str} : ∀ (e f : Ent), GdP zs (plE e) → plE e = plE f → eqS e f = true
  | .rule p z ds, .rule q z' ds', g, h => by
    cases h
    show (decide (z = z) && PyData.eqv (.tuple ds) (.tuple ds)) = true
    rw [decide_eq_true rfl, okT_eqv g.2]
    rfl
  | .rule p z ds, .stk q fs, g, h => by cases h
  | .stk p es, .rule q z ds, g, h => by cases h
  | .stk p es, .stk q fs, g, h => by
    have h : Pl.stk (plEs es) = Pl.stk (plEs fs) := h
    exact eqEs_pl es fs g.2 (by injection h)
theorem eqEs_pl {zs : List Str} : ∀ (es fs : List Ent), GdPs zs (plEs es) → plEs es = plEs fs → eqEs es fs = true
  | [], [], g, h => rfl
  | [], f :: fs, g, h => by cases h
  | e :: es, [], g, h => by cases h
  | e :: es, f :: fs, g, h => by
    have h : plE e :: plEs es = plE f :: plEs fs := h
    injection h with h1 h2
    show ((decide (e.at_ = f.at_) || eqS e f) && eqEs es fs) = true
    rw [eqS_pl e f g.1 h1, eqEs_pl es fs g.2 h2, Bool.or_true]
    rfl
end
/-! plain entries as data -/
mutual
def plD : Pl → PyData
  | .rule z ds => .tuple [.str z, .tuple ds]
  | .stk ps => .list (plDs ps)
def plDs : List Pl → List PyData
  | [] => []
  | p :: ps => plD p :: plDs ps
end
mutual
theorem pl_dp {K : PySem.W.Frag} {H : Hp} : ∀ {p : Pl} {v : V}, PlAt K H p v → Dp K H v (plD p)
  | .rule z ds, v, ⟨⟨p, t, e, h1, h2⟩, _⟩ => by
    subst e
    exact .tup h1 (.cons (.str _) (.cons h2 .nil))
  | .stk ps, v, ⟨p, xs, e, h1, h2⟩ => by
    subst e
    exact .lst (SqL.of h1) (pls_dp h2)
theorem pls_dp {K : PySem.W.Frag} {H : Hp} : ∀ {ps : List Pl} {xs : List V}, PlsAt K H ps xs → DpAll K H xs (plDs ps)
  | [], xs, h => by
    have h : xs = [] := h
    subst h
    exact .nil
  | p :: ps, xs, ⟨x, r, e, h1, h2⟩ => by
    subst e
    exact .cons (pl_dp h1) (pls_dp h2)
end
mutual
theorem plD_lay {zs : List Str} (hz : ∀ z ∈ zs, PyData.canLay0 (.str z) = true) : ∀ p : Pl, GdP zs p → PyData.canLay0 (plD p) = true ∧ PyData.depth (plD p) ≤ depthP p + 4
  | .rule z ds, ⟨h1, h2⟩ => by
    have s := okT_sh h2
    have hd : PyData.canLay0 (.tuple ds) = true ∧ PyData.depth (.tuple ds) ≤ 3 := by
      have q1 : ∀ l : List PyData, (∀ d ∈ l, d ∈ actD) → PyData.depthAll l ≤ 1 := by
        intro l
        induction l with
        | nil => intro _; simp [PyData.depthAll]
        | cons d l ih =>
          intro hd
          have a2 := (act_facts d (hd d List.mem_cons_self)).2
          have b2 := ih fun x hx => hd x (List.mem_cons_of_mem _ hx)
          simp only [PyData.depthAll]
          omega
      refine ⟨?_, ?_⟩
      · have s2 : (PyData.canLay0 (.tuple ds) && decide (PyData.depth (.tuple ds) ≤ 64)) = true := s
        rw [Bool.and_eq_true] at s2
        exact s2.1
      · have := q1 ds h2.2
        simp only [PyData.depth]
        omega
    refine ⟨?_, ?_⟩
    · show PyData.canLay0 (.tuple [.str z, .tuple ds]) = true
      simp only [PyData.canLay0, PyData.canLayAll0, Bool.and_eq_true] at hd ⊢
      have hz2 := hz z h1
      simp only [PyData.canLay0] at hz2
      exact ⟨hz2, hd.1, trivial⟩
    · show PyData.depth (.tuple [.str z, .tuple ds]) ≤ 0 + 4
      have := hd.2
      simp only [PyData.depth, PyData.depthAll] at this ⊢
      omega
  | .stk ps, ⟨_, h⟩ => by
    obtain ⟨a, b⟩ := plDs_lay hz ps h
    refine ⟨?_, ?_⟩
    · show PyData.canLay0 (.list (plDs ps)) = true
      simp only [PyData.canLay0]
      exact a
    · show PyData.depth (.list (plDs ps)) ≤ (1 + depthPs ps) + 4
      simp only [PyData.depth]
      omega
theorem plDs_lay {zs : List Str} (hz : ∀ z ∈ zs, PyData.canLay0 (.str z) = true) : ∀ ps : List Pl, GdPs zs ps → PyData.canLayAll0 (plDs ps) = true ∧ PyData.depthAll (plDs ps) ≤ depthPs ps + 4
  | [], _ => ⟨rfl, by simp [plDs, PyData.depthAll]⟩
  | p :: ps, ⟨h1, h2⟩ => by
    obtain ⟨a1, a2⟩ := plD_lay hz p h1
    obtain ⟨b1, b2⟩ := plDs_lay hz ps h2
    refine ⟨?_, ?_⟩
    · show PyData.canLayAll0 (plD p :: plDs ps) = true
      simp only [PyData.canLayAll0]
      rw [a1, b1]
      rfl
    · show PyData.depthAll (plD p :: plDs ps) ≤ max (depthP p) (depthPs ps) + 4
      simp only [PyData.depthAll]
      omega
end
theorem stk_sh {zs : List Str} (hz : ∀ z ∈ zs, PyData.canLay0 (.str z) = true) {ps : List Pl} (h : GdPs zs ps) (hd : depthPs ps ≤ 20) : SeqAt.shaped (.list (plDs ps)) = true := by
  obtain ⟨a, b⟩ := plDs_lay hz ps h
  show (PyData.canLay0 (.list (plDs ps)) && decide (PyData.depth (.list (plDs ps)) ≤ 64)) = true
  rw [Bool.and_eq_true]
  refine ⟨?_, decide_eq_true ?_⟩
  · simp only [PyData.canLay0]
    exact a
  · simp only [PyData.depth]
    omega
theorem stk_eqv (ps : List Pl) : PyData.eqv (.list (plDs ps)) (.list []) = decide (ps.length = 0) := by
  cases ps with
  | nil => rfl
  | cons p ps =>
    show PyData.eqvAll (plD p :: plDs ps) [] = _
    rw [decide_eq_false (by simp)]
    rfl
end LS
namespace LS
open PySem L2 TxS
theorem inV_int {n : Int} : ∀ {ns : List Int}, inV (V.int n) (ns.map V.int) = decide (n ∈ ns)
  | [] => by simp [inV]
  | m :: ns => by
    have ih := inV_int (n := n) (ns := ns)
    unfold inV at ih ⊢
    rw [List.map_cons, List.any_cons, ih]
    by_cases h : n = m
    · subst h
      simp [eqV]
    · by_cases h2 : n ∈ ns
      · simp [h2]
      · have h3 : ¬ n ∈ m :: ns := fun z => (List.mem_cons.mp z).elim h h2
        rw [decide_eq_false h2, decide_eq_false h3, Bool.or_false]
        simp [eqV]
        omega
end LS
namespace LS
open PySem PySem.Spec PyProof.Rows L2
/-! the best of some orders -/
def bestStep (R : List Int → Nat) (b : Option (Nat × List Int)) (o : List Int) : Option (Nat × List Int) := match b with
  | none => some (R o, o)
  | some p => if R o < p.1 then some (R o, o) else some p
def bestF (R : List Int → Nat) (L : List (List Int)) : Option (Nat × List Int) := L.foldl (bestStep R) none
/-- what it is in the heap -/
def BestAt (H : Hp) (v : V) : Option (Nat × List Int) → Prop
  | none => v = .non
  | some p => ∃ b a, v = .ref b ∧ H b = some (.tup [.int ((p.1 : Nat) : Int), .ref a]) ∧ H a = some (.tup (p.2.map V.int))
theorem BestAt.same {H H' : Hp} {v : V} {o : Option (Nat × List Int)} (h : BestAt H v o) (S : Same H H') : BestAt H' v o := by
  cases o with
  | none => exact h
  | some p =>
    obtain ⟨b, a, e, h1, h2⟩ := h
    exact ⟨b, a, e, S _ _ h1, S _ _ h2⟩
theorem asc_unique : ∀ {a b : List Int}, a.Pairwise (· < ·) → b.Pairwise (· < ·) → (∀ x, x ∈ a ↔ x ∈ b) → a = b
  | [], [], _, _, _ => rfl
  | [], y :: b, _, _, h => nomatch (h y).mpr List.mem_cons_self
  | x :: a, [], _, _, h => nomatch (h x).mp List.mem_cons_self
  | x :: a, y :: b, ha, hb, h => by
    obtain ⟨a1, a2⟩ := List.pairwise_cons.mp ha
    obtain ⟨b1, b2⟩ := List.pairwise_cons.mp hb
    have e : x = y := by
      rcases List.mem_cons.mp ((h x).mp List.mem_cons_self) with q | q
      · exact q
      · rcases List.mem_cons.mp ((h y).mpr List.mem_cons_self) with w | w
        · exact w.symm
        · have := b1 x q
          have := a1 y w
          omega
    subst e
    have e2 : a = b := asc_unique a2 b2 fun z => by
      have q := h z
      constructor
      · intro hz
        rcases List.mem_cons.mp (q.mp (List.mem_cons_of_mem _ hz)) with w | w
        · have := a1 z hz
          omega
        · exact w
      · intro hz
        rcases List.mem_cons.mp (q.mpr (List.mem_cons_of_mem _ hz)) with w | w
        · have := b1 z hz
          omega
        · exact w
    rw [e2]
theorem asc_nodup {a : List Int} (h : a.Pairwise (· < ·)) : a.Nodup := h.imp fun q e => by omega
theorem asc_of {a : List Int} (h : a.Pairwise (· ≤ ·)) (n : a.Nodup) : a.Pairwise (· < ·) := (List.pairwise_and_iff.mpr ⟨h, n⟩).imp fun ⟨q1, q2⟩ => by omega
/-- an order's members -/
theorem ordN_sub {ms : List Int} : ∀ k, ∀ row ∈ ordN ms k, row.Nodup ∧ ∀ z ∈ row, z ∈ ms
  | 0, row, h => by
    rw [List.mem_singleton.mp h]
    exact ⟨List.nodup_nil, fun z hz => nomatch hz⟩
  | k + 1, row, h => by
    obtain ⟨u, hu, hr⟩ := List.mem_flatMap.mp h
    obtain ⟨z, hz, rfl⟩ := List.mem_map.mp hr
    obtain ⟨h1, h2⟩ := ordN_sub k u hu
    obtain ⟨hz1, hz2⟩ := List.mem_filter.mp hz
    unfold fitO at hz2
    rw [inV_int] at hz2
    have nz : z ∉ u := fun q => by rw [decide_eq_true q] at hz2; cases hz2
    refine ⟨List.nodup_append.mpr ⟨h1, by simp, fun a ha b hb e => ?_⟩, fun y hy => ?_⟩
    · rw [List.mem_singleton.mp hb] at e
      rw [e] at ha
      exact nz ha
    · rcases List.mem_append.mp hy with w | w
      · exact h2 y w
      · rw [List.mem_singleton.mp w]
        exact hz1
/-! ### the best one is an order -/
theorem best_mem {R : List Int → Nat} : ∀ (L : List (List Int)) (b : Option (Nat × List Int)), (∀ p, b = some p → p.1 = R p.2) → (b = none → L ≠ []) → ∃ o, L.foldl (bestStep R) b = some (R o, o) ∧ (o ∈ L ∨ ∃ r, b = some (r, o))
  | [], none, _, h => absurd rfl (h rfl)
  | [], some p, h, _ => by
    refine ⟨p.2, ?_, .inr ⟨p.1, rfl⟩⟩
    show some p = _
    rw [← h p rfl]
  | o :: L, b, h, _ => by
    have hs : ∀ p, bestStep R b o = some p → p.1 = R p.2 := fun p e => by
      cases b with
      | none => cases e; rfl
      | some q =>
        have e : (if R o < q.1 then some (R o, o) else some q) = some p := e
        split at e
        · cases e; rfl
        · cases e; exact h _ rfl
    have hn : bestStep R b o ≠ none := fun e => by
      cases b with
      | none => cases e
      | some q =>
        have e : (if R o < q.1 then some (R o, o) else some q) = none := e
        split at e <;> cases e
    obtain ⟨x, hx, hm⟩ := best_mem L (bestStep R b o) hs fun e => absurd e hn
    refine ⟨x, hx, ?_⟩
    rcases hm with hm | ⟨r, hr⟩
    · exact .inl (List.mem_cons_of_mem _ hm)
    · cases b with
      | none =>
        cases hr
        exact .inl List.mem_cons_self
      | some q =>
        have hr : (if R o < q.1 then some (R o, o) else some q) = some (r, x) := hr
        split at hr
        · cases hr
          exact .inl List.mem_cons_self
        · cases hr
          exact .inr ⟨_, rfl⟩
theorem nodup_leG : ∀ (b a : List Int), a.Nodup → (∀ x ∈ a, x ∈ b) → a.length ≤ b.length
  | [], a, _, h => by
    cases a with
    | nil => exact Nat.le_refl _
    | cons x a => exact nomatch h x List.mem_cons_self
  | y :: b, a, hn, h => by
    have ih := nodup_leG b (a.erase y) (hn.erase y) fun x hx => by
      have hm := (hn.mem_erase_iff).mp hx
      exact (List.mem_cons.mp (h x hm.2)).resolve_left hm.1
    have := List.length_erase_le (a := y) (l := a)
    have e : a.length ≤ (a.erase y).length + 1 := by
      by_cases q : y ∈ a
      · rw [List.length_erase_of_mem q]
        have := List.length_pos_of_mem q
        omega
      · rw [List.erase_of_not_mem q]
        omega
    rw [List.length_cons]
    omega
theorem ord_ne {ns : List Int} (hn : ns.Nodup) : ∀ k, k ≤ ns.length → ordN ns k ≠ []
  | 0, _ => fun e => by cases e
  | k + 1, h => by
    obtain ⟨row, L, e⟩ := List.exists_cons_of_ne_nil (ord_ne hn k (by omega))
    have hrow : row ∈ ordN ns k := by rw [e]; exact List.mem_cons_self
    have rl := ordN_mem ns k row hrow
    obtain ⟨z, hz, nz⟩ : ∃ z ∈ ns, z ∉ row := Classical.byContradiction fun c => by
      have sub : ∀ z ∈ ns, z ∈ row := fun z hz => Classical.byContradiction fun q => c ⟨z, hz, q⟩
      have := nodup_leG row ns hn sub
      omega
    intro q
    have m : row ++ [z] ∈ ordN ns (k + 1) := List.mem_flatMap.mpr ⟨row, hrow, List.mem_map.mpr ⟨z, List.mem_filter.mpr ⟨hz, by unfold fitO; rw [inV_int, decide_eq_false nz]; rfl⟩, rfl⟩⟩
    rw [q] at m
    cases m
theorem perm_of {a b : List Int} (ha : a.Nodup) (hb : b.Nodup) (sub : ∀ x ∈ a, x ∈ b) (hl : a.length = b.length) : a.Perm b := by
  refine (List.perm_ext_iff_of_nodup ha hb).mpr fun x => ⟨sub x, fun hx => Classical.byContradiction fun q => ?_⟩
  have := nodup_leG b (x :: a) (List.nodup_cons.mpr ⟨q, ha⟩) fun y hy => (List.mem_cons.mp hy).elim (fun e => e ▸ hx) (sub y)
  rw [List.length_cons] at this
  omega
end LS
namespace LS
open PySem PySem.Spec PyProof.Rows L2
/-! covers by any order of the places; the shortest one -/
abbrev sShortest : Stmt := top i_shortest_cover
def stepsF (f : List Str → Str) : List Told → List Nat → List Told
  | L, [] => L
  | L, k :: o => stepsF f (L.flatMap (behF f k)) o
theorem steps_append (f : List Str → Str) : ∀ (a b : List Nat) (L : List Told), stepsF f L (a ++ b) = stepsF f (stepsF f L a) b
  | [], _, _ => rfl
  | k :: a, b, L => steps_append f a b (L.flatMap (behF f k))
theorem steps_take {f : List Str → Str} {L : List Told} {o : List Nat} {i k : Nat} (h : o[i]? = some k) : stepsF f L (o.take (i + 1)) = (stepsF f L (o.take i)).flatMap (behF f k) := by
  rw [List.take_add_one, h, steps_append]
  rfl
theorem steps_len (f : List Str → Str) : ∀ (o : List Nat) (L : List Told), (stepsF f L o).length ≤ 4 ^ o.length * L.length
  | [], L => by rw [show (4 : Nat) ^ ([] : List Nat).length = 1 from rfl, Nat.one_mul]; exact Nat.le_refl _
  | k :: o, L => by
    have ih := steps_len f o (L.flatMap (behF f k))
    have q := flat_le (beh_len f k) L
    show (stepsF f (L.flatMap (behF f k)) o).length ≤ 4 ^ (o.length + 1) * L.length
    rw [Nat.pow_succ, Nat.mul_assoc]
    exact Nat.le_trans ih (Nat.mul_le_mul_left _ q)
theorem steps_vt {f : List Str → Str} {n : Nat} : ∀ (o : List Nat) (L : List Told), (∀ t ∈ L, VT n t) → ∀ t ∈ stepsF f L o, VT n t
  | [], _, h, t, ht => h t ht
  | k :: o, L, h, t, ht => steps_vt o _ (fun u hu => by
      obtain ⟨x, hx, h2⟩ := List.mem_flatMap.mp hu
      exact beh_vt (h x hx) u h2) t ht
theorem rows_steps (f : List Str → Str) (n : Nat) : ∀ k, rowsF f n k = stepsF f [noneT n] (List.range k)
  | 0 => rfl
  | k + 1 => by
    rw [List.range_succ, steps_append, ← rows_steps f n k]
    rfl
def lenF (f : List Str → Str) (n : Nat) (o : List Int) : Nat := (stepsF f [noneT n] (o.map Int.toNat)).length
def natsN (n : Nat) : List Int := (List.range n).map fun i => ((i : Nat) : Int)
def nmAt (ms : List Str) (i : Int) : Str := ms.getD i.toNat ""
/-- the best order in the heap -/
def BestS (K : PySem.W.Frag) (ms : List Str) (H : Hp) (v : V) : Option (Nat × List Int) → Prop
  | none => v = .non
  | some p => ∃ b a, v = .ref b ∧ SqT K H b [.int ((p.1 : Nat) : Int), .ref a] ∧ SqT K H a ((p.2.map (nmAt ms)).map V.str)
theorem BestS.same {K : PySem.W.Frag} {ms : List Str} {H H' : Hp} {v : V} {o : Option (Nat × List Int)} (h : BestS K ms H v o) (S : Same H H') : BestS K ms H' v o := by
  cases o with
  | none => exact h
  | some p =>
    obtain ⟨b, a, e, h1, h2⟩ := h
    exact ⟨b, a, e, same_tup S h1, same_tup S h2⟩
theorem BestS.but {P : Program} {w : World} {K : PySem.W.Frag} {CQ : Addr} {ms : List Str} {H H' : Hp} {q wa na : Addr} {f : List Str → Str} {n : Nat} {v : V} {o : Option (Nat × List Int)} (h : BestS K ms H v o) (hQ : QAt P w K CQ H q wa na f n) (S : But2 wa na H H') : BestS K ms H' v o := by
  cases o with
  | none => exact h
  | some p =>
    obtain ⟨b, a, e, h1, h2⟩ := h
    exact ⟨b, a, e, hQ.sqt S h1, hQ.sqt S h2⟩
theorem QAt.tup {P : Program} {w : World} {K : PySem.W.Frag} {CQ : Addr} {H H' : Hp} {q wa na p : Addr} {xs : List V} {f : List Str → Str} {n : Nat} (h : QAt P w K CQ H q wa na f n) (S : But2 wa na H H') (hb : H p = some (.tup xs)) : H' p = some (.tup xs) := by
  obtain ⟨kw, h2, _⟩ := h.words
  obtain ⟨kn, h4, _⟩ := h.nums
  obtain ⟨e1, d1⟩ := h2.obj
  obtain ⟨e2, d2⟩ := h4.obj
  exact S p _ (ne_of hb d1 fun z => nomatch z) (ne_of hb d2 fun z => nomatch z) hb
theorem iupb_but {P : Program} {w : World} {K : PySem.W.Frag} {CQ : Addr} {H H' : Hp} {q wa na : Addr} {f : List Str → Str} {n : Nat} (hQ : QAt P w K CQ H q wa na f n) (S : But2 wa na H H') : ∀ {vs : List V} {L : List (List Int)}, IupsB H vs L → IupsB H' vs L
  | [], _, h => h
  | _ :: _, _, ⟨ws, r, e, ⟨a, h1, h2⟩, h3⟩ => ⟨ws, r, e, ⟨a, h1, hQ.tup S h2⟩, iupb_but hQ S h3⟩
def spSettRowsT (P : Program) (w : World) (K : PySem.W.Frag) (CQ : Addr) : Sp := fun vs H Q _ => ∃ (q wa na pl dx st : Addr) (f : List Str → Str) (n : Nat) (o : List Nat), vs = [.ref q, .ref pl] ∧ QAt P w K CQ H q wa na f n ∧ H q = some (.ins CQ dx (qF st wa na)) ∧ BarT H st ((noneT n).map tV) ∧ SqT K H pl (o.map fun i => V.int ((i : Nat) : Int)) ∧ (∀ k ∈ o, k < n) ∧ o.length ≤ 5 ∧
  ∀ p xs H', But2 wa na H H' → QAt P w K CQ H' q wa na f n → H' p = some (.lst xs) → TsAt H' xs (stepsF f [noneT n] o) → Q (.ref p) H'
def spShortest (K : PySem.W.Frag) (CR CS : Addr) : Sp := fun vs H Q _ => ∃ (sp : Addr) (es : List Ent) (ms : List Str), vs = [.ref sp] ∧ ModAt K CR CS H sp es ms ∧ ms.length ≤ 4 ∧
  ∀ v H', Same H H' → BestS K ms H' v (bestF (lenF (wordL es ms) ms.length) (ordF (natsN ms.length))) → Q v H'
section
variable {P : Program} {w : World} {K : PySem.W.Frag} {mg : Str → Option Value} {base : Heap} {CR CS CQ : Addr}
theorem scShortest : FnScope n_shortest_cover ["stack"] (defScope sShortest) := ⟨rfl, rfl, rfl, by decide +kernel, rfl, by decide +kernel, by decide +kernel⟩
theorem ok_settrowsT {f0 : Addr} {fd : FuncData} (F : Fun K "settling_rows" "settling_rows" sSettRows f0 fd) (T : QuK K CQ) (Rb : DefK P w K mg base CX0 9 "rows_behind" ["questions", "told", "place"] (spRowsBeh P w K CQ)) : FnOk P w K mg base CX0 10 f0 fd ["questions", "places"] (spSettRowsT P w K CQ) := by
  refine F.ok scSettRows (fun vs H Q E h => ?_) (fun cdv A outer s H vs Q E hr h => ?_)
  · obtain ⟨q, wa, na, pl, dx, st, f, n, o, rfl, _⟩ := h
    rfl
  · obtain ⟨q, wa, na, pl, dx, st, f, n, o, rfl, hQ, hq, hst, hpl, hlt, ho5, k⟩ := h
    have hs2 := sizeLine_eq
    have hf6 := hQ.few
    refine ⟨_, pss_cons (ps_set (i := 2) scSettRows.nd rfl (.inl rfl) (pe_lst (pa_cons (pe_fld (pv 0) rfl) pa_nil)))
      (pss_cons (ps_for PassesOwn.never rfl (pi_tup (pv 1)) (pg_name (i := 3) scSettRows.nd rfl (.inr rfl))
        (pss_one (ps_setLc2 (i := 2) (wi1 := iList K (tCall (spRowsBeh P w K CQ) [] E0 (tCons (tVar 0) (tCons (tVar 4) (tCons (tVar 3) tNil))))) (own := [("told", 4), ("row", 5)]) (vs1 := [5]) (g := gName 4) (g1 := gName 5) (by rfl) scSettRows.nd rfl rfl (by rfl) (pi_list (pv 2)) (blkOk_by (own := [("told", 4), ("row", 5)]) (N := n_settling_rows) (sc := defScope sSettRows) (by decide +kernel)) (by decide)
          (fun _ _ _ _ _ => pg_name (i := 4) scSettRows.nd rfl (Or.inl rfl)) (fun _ _ _ _ _ => pts_nil) (fun _ _ _ _ _ => pi_list (pe_call Rb.G hr (by rfl) Rb.g Rb.kp Rb.b .nil pass0 (pa_cons (pv 0) (pa_cons (pv 4) (pa_cons (pv 3) pa_nil))))) (fun _ _ _ _ _ => pg_name (i := 5) scSettRows.nd rfl (Or.inl rfl)) (fun _ _ _ _ _ => pts_nil)
          (fun _ _ _ _ _ => pv 5))))
      (pss_one (ps_ret (pv 2)))), ?_⟩
    refine ⟨_, rfl, q, CQ, dx, _, _, rfl, hq, T.cl, T.nS, qlk_s, by show 1 ≤ sizeLine; omega, fun l0 nl0 => ?_⟩
    have S1 : Same H (upd H l0 (.lst [.ref st])) := same_upd nl0 (Same.refl H)
    have e1 : upd H l0 (.lst [.ref st]) l0 = some (.lst [.ref st]) := upd_same
    generalize upd H l0 (.lst [.ref st]) = H1 at *
    have hpl1 := same_tup S1 hpl
    refine ⟨_, rfl, pl, rfl, ⟨_, hpl1⟩, ?_⟩
    refine for_tup (xs := o.map fun i => V.int ((i : Nat) : Int)) (fun i σ G => ∃ (l : Addr) (xs : List V) (x3 x4 x5 : Option V), σ = [some (.ref q), some (.ref pl), some (.ref l), x3, x4, x5] ∧ But2 wa na H G ∧ QAt P w K CQ G q wa na f n ∧ G l = some (.lst xs) ∧ TsAt G xs (stepsF f [noneT n] (o.take i)))
      ⟨l0, _, none, none, none, rfl, But2.of S1, hQ.same S1, e1, .cons ⟨st, rfl, hst.same S1⟩ .nil⟩ (fun i σ G _ z => ?_) ?_ ?_
    · obtain ⟨_, _, _, _, _, _, SB, _, _, _⟩ := z
      exact hQ.sqt SB hpl
    · rintro i v σ H3 hvi ⟨l, xs, x3, x4, x5, rfl, SB, hQ3, hl, hT⟩
      have hio : i < o.length := by
        have := (List.getElem?_eq_some_iff.mp hvi).1
        rw [List.length_map] at this
        exact this
      obtain ⟨c0, hc0⟩ : ∃ c0, o[i]? = some c0 := ⟨_, List.getElem?_eq_getElem hio⟩
      rw [List.getElem?_map, hc0] at hvi
      cases hvi
      have hin : c0 < n := hlt c0 (List.mem_of_getElem? hc0)
      refine ⟨_, rfl, l, rfl, ⟨_, SqL.of hl⟩, fun B nB => ?_⟩
      have S2 : Same H3 (upd H3 B (.lst [])) := same_upd nB (Same.refl H3)
      have rl := steps_len f (o.take i) [noneT n]
      have p4 : 4 ^ (o.take i).length ≤ 1024 := Nat.le_trans (Nat.pow_le_pow_right (by decide) (show (o.take i).length ≤ 5 by rw [List.length_take]; omega)) (by decide)
      rw [show ([noneT n] : List Told).length = 1 from rfl, Nat.mul_one] at rl
      have xl := Paired.length hT
      have vts := steps_vt (f := f) (n := n) (o.take i) [noneT n] (fun t ht => by rw [List.mem_singleton.mp ht]; exact vt_none n)
      have rs : stepsF f [noneT n] (o.take (i + 1)) = (stepsF f [noneT n] (o.take i)).flatMap (behF f c0) := steps_take hc0
      generalize stepsF f [noneT n] (o.take i) = L at *
      refine out_it (walk_list (xs := xs)) (fun j G => But2 wa na H3 G ∧ QAt P w K CQ G q wa na f n ∧ ∃ us, G B = some (.lst us) ∧ TsAt G us ((L.take j).flatMap (behF f c0))) ⟨But2.of S2, hQ3.same S2, [], upd_same, .nil⟩ (fun j G _ z => SqL.of (hQ3.lst z.1 hl)) ?_ ?_
      · rintro j x G1 G2 hj ⟨SG, hQG, us, hB, hus⟩ ⟨rfl, hx⟩
        obtain ⟨t, htj, a, rfl, ha⟩ := paired_get (hT.but hQ3 SG) hx
        refine ⟨rfl, ?_⟩
        refine ⟨_, rfl, _, rfl, _, rfl, q, wa, na, a, f, n, t, c0, rfl, hQG, ha, vts t (List.mem_of_getElem? htj), hin, fun p zs G3 S3 hQ4 np hp hz => ?_⟩
        have hB3 := hQG.lst S3 hB
        have hus3 := hus.but hQG S3
        have pB : p ≠ B := fun e => by rw [e, hB] at np; cases np
        have zl := Paired.length hz
        have b4 := beh_len f c0 t
        refine ⟨p, rfl, ⟨_, SqL.of hp⟩, ?_⟩
        refine in_it (walk_list (xs := zs)) (fun c G => But2 wa na H3 G ∧ QAt P w K CQ G q wa na f n ∧ G p = some (.lst zs) ∧ TsAt G zs (behF f c0 t) ∧ ∃ us, G B = some (.lst us) ∧ TsAt G us ((L.take j).flatMap (behF f c0) ++ (behF f c0 t).take c)) ⟨SG.trans S3, hQ4, hp, hz, us, hB3, by rw [List.take_zero, List.append_nil]; exact hus3⟩ (fun c G _ z => SqL.of z.2.2.1) ?_ ?_
        · rintro c x G4 G5 hc ⟨S5, hQ5, hp5, hz5, us5, hB5, hus5⟩ ⟨rfl, hx⟩
          obtain ⟨u, hu, b, rfl, hb⟩ := paired_get hz5 hx
          refine ⟨rfl, ?_⟩
          have ul := Paired.length hus5
          have fl := flat_le (beh_len f c0) (L.take j)
          have tl : (L.take j).length ≤ L.length := by rw [List.length_take]; omega
          refine ⟨_, rfl, us5, hB5, ?_, S5.updN nB, hQ5.updL hB5, ?_, hz5.upd hB5, us5 ++ [.ref b], upd_same, ?_⟩
          · rw [ul, List.length_append, List.length_take]
            omega
          · rw [upd_ne pB]
            exact hp5
          · rw [List.take_add_one, hu, ← List.append_assoc]
            exact Paired.snoc (hus5.upd hB5) ⟨b, rfl, bar_upd hb hB5⟩
        · rintro G4 ⟨S5, hQ5, hp5, hz5, us5, hB5, hus5⟩
          rw [zl, List.take_length] at hus5
          refine ⟨S5, hQ5, us5, hB5, ?_⟩
          rw [flat_take htj]
          exact hus5
      · rintro G1 ⟨SG, hQG, us, hB, hus⟩
        rw [xl, List.take_length] at hus
        exact ⟨B, us, _, _, _, rfl, SB.trans SG, hQG, hB, by rw [rs]; exact hus⟩
    · rintro σ G ⟨l, xs, x3, x4, x5, rfl, SB, hQG, hl, hT⟩
      rw [List.length_map, List.take_length] at hT
      exact ⟨_, rfl, k l xs G SB hQG hl hT⟩
theorem nats_V (n : Nat) : (natsN n).map V.int = (List.range n).map fun i => V.int ((i : Nat) : Int) := by
  unfold natsN
  rw [List.map_map]
  rfl
theorem nats_mem {n : Nat} {z : Int} : z ∈ natsN n ↔ 0 ≤ z ∧ z < n := by
  unfold natsN
  rw [List.mem_map]
  refine ⟨fun ⟨i, hi, e⟩ => ?_, fun ⟨h1, h2⟩ => ⟨z.toNat, List.mem_range.mpr (by omega), by omega⟩⟩
  have := List.mem_range.mp hi
  omega
theorem nats_nodup (n : Nat) : (natsN n).Nodup := by
  unfold natsN
  refine List.Pairwise.map _ (fun a b h => ?_) List.nodup_range
  intro e
  exact h (by omega)
theorem nats_len (n : Nat) : (natsN n).length = n := by
  unfold natsN
  rw [List.length_map, List.length_range]
theorem toNat_V {o : List Int} (h : ∀ z ∈ o, 0 ≤ z) : (o.map Int.toNat).map (fun i => V.int ((i : Nat) : Int)) = o.map V.int := by
  rw [List.map_map]
  refine List.map_congr_left fun z hz => ?_
  show V.int ((z.toNat : Nat) : Int) = V.int z
  have := h z hz
  rw [Int.toNat_of_nonneg this]
theorem ok_shortest {f0 : Addr} {fd : FuncData} (F : Fun K "shortest_cover" "shortest_cover" sShortest f0 fd) (N : LedK P w K mg base CR CS) (A0 : AskB P w K mg base CR CS CQ) (Po : DefK P w K mg base CX0 4 "places_of" ["stack"] (spPlacesOf K CR CS)) (Sr : DefK P w K mg base CX0 10 "settling_rows" ["questions", "places"] (spSettRowsT P w K CQ)) (Od : DefK P w K mg base CX0 1 "all_orders" ["items"] (spOrders K))
    (most : ∃ t, mg "MOST_ORDERED" = some (.int 4 t)) (mL : mg "len" = none) (mT : mg "tuple" = none) : FnOk P w K mg base CX0 14 f0 fd ["stack"] (spShortest K CR CS) := by
  obtain ⟨tM, mM⟩ := most
  refine F.ok scShortest (fun vs H Q E h => ?_) (fun cdv A outer s H vs Q E hr h => ?_)
  · obtain ⟨sp, es, ms, rfl, _⟩ := h
    rfl
  · obtain ⟨sp, es, ms, rfl, M, n4, k⟩ := h
    have hs2 := sizeLine_eq
    refine ⟨_, pss_cons (ps_if (pt_cmpR op_gt (pe_callB call_len_seq (by rfl) mL PySem.boot_len (pa_cons (pe_prop (pv 0) N.T.cl N.PM.pr N.PM.G (hr.mono (by decide)) N.PM.b .nil pass0 rfl) pa_nil)) (pe_glob (v := .int 4) (by rfl) mM ⟨tM, rfl⟩) (nomark _)) pss_false pss_nil)
      (pss_cons (ps_set (i := 1) scShortest.nd rfl (.inl rfl) (pe_make A0.MI A0.GI hr (by rfl) A0.gQ A0.bI .nil pass0 (pa_cons (pv 0) pa_nil)))
      (pss_cons (ps_set (i := 2) scShortest.nd rfl (.inl rfl) pe_non)
      (pss_cons (ps_for PassesOwn.never rfl (pi_list (pe_call Od.G (hr.mono (by decide)) (by rfl) Od.g Od.kp Od.b .nil pass0 (pa_cons (pe_call Po.G (hr.mono (by decide)) (by rfl) Po.g Po.kp Po.b .nil pass0 (pa_cons (pv 0) pa_nil)) pa_nil))) (pg_name (i := 3) scShortest.nd rfl (.inl rfl))
        (pss_cons (ps_set (i := 4) scShortest.nd rfl (.inl rfl) (pe_callB call_len_seq (by rfl) mL PySem.boot_len (pa_cons (pe_call Sr.G (hr.mono (by decide)) (by rfl) Sr.g Sr.kp Sr.b .nil pass0 (pa_cons (pv 1) (pa_cons (pv 3) pa_nil))) pa_nil)))
        (pss_one (ps_if (PW.pt (pw_or (pt_cmpR op_isN (pv 2) pe_non (nomark _)) (pw_or1 (pt_cmpR op_lt (pv 4) (pe_ix (r := rIxT K) ix_tup (pv 2) pe_int (fun _ _ => rfl)) (nomark _)))))
          (pss_one (ps_set (i := 2) scShortest.nd rfl (.inl rfl) (pe_tup (pa_cons (pv 4) (pa_cons (pe_callTy call_tuple_of (by rfl) mT (by decide +kernel) (pa_cons (pe_lc (own := [("place", 5)]) (g := gName 5) (by rfl) scShortest.nd (pi_tup (pv 3)) (blkOk_by (own := [("place", 5)]) (N := n_shortest_cover) (sc := defScope sShortest) (by decide +kernel))
              (fun _ _ _ _ _ => pg_name (i := 5) scShortest.nd rfl (.inl rfl)) (fun _ _ _ _ _ => pts_nil)
              (fun _ _ _ _ _ => pe_ix (r := rIxT K) ix_tup (pe_prop (pv 0) N.T.cl N.PM.pr N.PM.G (hr.mono (by decide)) N.PM.b .nil pass0 rfl) (pv 5) (fun _ _ => rfl))) pa_nil)) pa_nil))))) pss_nil))))
      (pss_one (ps_ret (pv 2)))))), ?_⟩
    obtain ⟨⟨dx0, e, r, m, ms', h1, h2, h3, h4', h5, leg⟩, h6⟩ := id M.e
    refine ⟨_, rfl, sp, dx0, _, rfl, h1, sp, es, rfl, M.e, fun t ms2 ht hms => ?_⟩
    obtain rfl := mods_same hms M.mods
    refine ⟨t, _, rfl, .inr ht, ?_⟩
    rw [List.length_map]
    refine ⟨_, _, rfl, rfl, _, rfl, ?_⟩
    rw [decide_eq_false (by omega)]
    refine iteF ?_
    refine ⟨_, rfl, fun p dx hp hdx hne => ?_⟩
    refine ⟨H, p, dx, sp, es, ms2, rfl, same_upd hp (same_upd hdx (Same.refl H)), hp, upd_same, M, fun st wa na H1 S1 hwa hna e1 hQ hst => ⟨rfl, ?_⟩⟩
    refine ⟨_, rfl, sp, es, ms2, rfl, M.same S1, fun pl H2 S2 hpl => ?_⟩
    rw [← nats_V] at hpl
    refine ⟨pl, natsN ms2.length, rfl, SqL.of hpl, by rw [nats_len]; omega, fun p4 xs H4 S4 np4 hp4 hx4 => ?_⟩
    have S24 := S2.trans S4
    have hQ4 := hQ.same S24
    have back : ∀ {G : Hp}, But2 wa na H4 G → Same H G := fun S => But2.back S1 hwa hna ((But2.of S24).trans S)
    have hq4 := S24 _ _ e1
    have hst4 := hst.same S24
    have xl := iupb_len hx4
    generalize hO : ordF (natsN ms2.length) = OO at *
    generalize hR : lenF (wordL es ms2) ms2.length = R at *
    refine ⟨p4, rfl, ⟨_, SqL.of hp4⟩, ?_⟩
    refine for_list (xs := xs) (fun i σ G => ∃ (bv : V) (x3 x4 x5 : Option V), σ = [some (.ref sp), some (.ref p), some bv, x3, x4, x5] ∧ But2 wa na H4 G ∧ QAt P w K CQ G p wa na (wordL es ms2) ms2.length ∧ BestS K ms2 G bv (bestF R (OO.take i)))
      ⟨.non, none, none, none, rfl, But2.refl wa na H4, hQ4, rfl⟩ (fun i σ G _ z => by
        obtain ⟨_, _, _, _, _, SB, _⟩ := z
        exact SqL.of (hQ4.lst SB hp4)) ?_ ?_
    · rintro i v σ H5 hvi ⟨bv, x3, x4, x5, rfl, SB, hQ5, hb⟩
      obtain ⟨o, a, hoi, rfl, ha⟩ := iupb_get (iupb_but hQ4 SB hx4) hvi
      have hom : o ∈ OO := List.mem_of_getElem? hoi
      rw [← hO] at hom
      have ol : o.length = ms2.length := (ordN_mem _ _ o hom).trans (nats_len _)
      obtain ⟨ond, osub⟩ := ordN_sub _ o hom
      have o0 : ∀ z ∈ o, 0 ≤ z ∧ z < ms2.length := fun z hz => nats_mem.mp (osub z hz)
      have estep : bestF R (OO.take (i + 1)) = bestStep R (bestF R (OO.take i)) o := by
        rw [List.take_add_one, hoi]
        unfold bestF
        rw [List.foldl_append]
        rfl
      refine ⟨_, rfl, _, rfl, p, wa, na, a, dx, st, wordL es ms2, ms2.length, o.map Int.toNat, rfl, hQ5, ?_, ?_, ?_, ?_, ?_, ?_⟩
      · have := hQ4.ins
        exact SB p _ (fun e => by obtain ⟨kw, d1, _⟩ := hQ4.words; obtain ⟨_, o1⟩ := d1.obj; rw [← e, hq4] at o1; cases o1) (fun e => by obtain ⟨kw, d1, _⟩ := hQ4.nums; obtain ⟨_, o1⟩ := d1.obj; rw [← e, hq4] at o1; cases o1) hq4
      · exact hQ4.bar SB hst4
      · rw [toNat_V fun z hz => (o0 z hz).1]
        exact SqT.of ha
      · intro c hc
        obtain ⟨z, hz, rfl⟩ := List.mem_map.mp hc
        have := o0 z hz
        omega
      · rw [List.length_map]
        omega
      intro l ys H6 S6 hQ6 hl hT
      have yl := Paired.length hT
      have eR : R o = ys.length := by rw [← hR, yl]; rfl
      have hb6 := hb.but hQ5 S6
      have SB6 := SB.trans S6
      have ha6 := hQ5.tup S6 ha
      have M6 := M.same (back SB6)
      refine ⟨l, _, rfl, .inl (SqL.of hl), ?_⟩
      refine ⟨_, rfl, rfl, _, rfl, ?_⟩
      -- a better one
      have put : ∀ (G : Hp) (x5 : Option V), Same H6 G → bestStep R (bestF R (OO.take i)) o = some (R o, o) → ∀ c b, G c = some (.tup ((o.map (nmAt ms2)).map V.str)) → G b = none →
          ∃ (bv : V) (x3 x4 y5 : Option V), [some (V.ref sp), some (.ref p), some (.ref b), some (.ref a), some (.int ((ys.length : Nat) : Int)), x5] = [some (V.ref sp), some (.ref p), some bv, x3, x4, y5] ∧ But2 wa na H4 (upd G b (.tup [.int ((ys.length : Nat) : Int), .ref c])) ∧ QAt P w K CQ (upd G b (.tup [.int ((ys.length : Nat) : Int), .ref c])) p wa na (wordL es ms2) ms2.length ∧ BestS K ms2 (upd G b (.tup [.int ((ys.length : Nat) : Int), .ref c])) bv (bestF R (OO.take (i + 1))) := fun G x5 SG he c b hc nb => by
        have S9 := same_upd (o := .tup [.int ((ys.length : Nat) : Int), .ref c]) nb (Same.refl G)
        refine ⟨_, _, _, _, rfl, SB6.trans (But2.of (SG.trans S9)), hQ6.same (SG.trans S9), ?_⟩
        rw [estep, he]
        exact ⟨b, c, rfl, by rw [eR]; exact SqT.of upd_same, SqT.of (S9 _ _ hc)⟩
      cases hcase : bestF R (OO.take i) with
      | none =>
        rw [hcase] at hb6
        have hb6 : bv = .non := hb6
        subst hb6
        refine iteT ⟨_, rfl, _, rfl, a, rfl, ⟨_, SqT.of ha6⟩, fun B nB => ?_⟩
        refine lc_it (walk_tup (xs := o.map V.int)) (fun j G => Same H6 G ∧ G B = some (.lst (((o.take j).map (nmAt ms2)).map V.str))) ⟨same_upd nB (Same.refl H6), upd_same⟩ (fun j G _ z => same_tup z.1 (SqT.of ha6)) ?_ ?_
        · rintro j v G0 G hj ⟨SG, hB⟩ ⟨rfl, hv⟩
          rw [List.length_map] at hj
          obtain ⟨z, hz⟩ : ∃ z, o[j]? = some z := ⟨_, List.getElem?_eq_getElem hj⟩
          rw [List.getElem?_map, hz] at hv
          cases hv
          obtain ⟨z0, z1⟩ := o0 z (List.mem_of_getElem? hz)
          have MG := M6.same SG
          obtain ⟨⟨dx1, e', r', m', ms3, h1', h2', h3', h4'', h5', leg'⟩, h6'⟩ := id MG.e
          refine ⟨rfl, yes_of ?_⟩
          refine ⟨_, rfl, sp, dx1, _, rfl, h1', sp, es, rfl, MG.e, fun t3 ms4 ht3 hms3 => ?_⟩
          obtain rfl := mods_same hms3 MG.mods
          have hzm : ms4[z.toNat]? = some (nmAt ms4 z) := by
            unfold nmAt
            rw [List.getD_eq_getElem?_getD, List.getElem?_eq_getElem (by omega)]
            rfl
          refine ⟨_, rfl, t3, _, z, .str (nmAt ms4 z), rfl, rfl, ht3, ?_, _, hB, ?_, same_upd nB SG, ?_⟩
          · have := atI_nat (xs := ms4.map V.str) (j := z.toNat) (v := .str (nmAt ms4 z)) (by rw [List.getElem?_map, hzm]; rfl)
            rw [Int.toNat_of_nonneg z0] at this
            exact this
          · rw [List.length_map, List.length_map, List.length_take]
            omega
          · rw [upd_same, List.take_add_one, hz, List.map_append, List.map_append]
            rfl
        · rintro G ⟨SG, hB⟩
          rw [List.length_map, List.take_length] at hB
          refine ⟨B, _, rfl, .inl ⟨SqL.of hB, fun c nc => ?_⟩⟩
          have S7 := same_upd (o := .tup ((o.map (nmAt ms2)).map V.str)) nc (Same.refl G)
          have e7 : upd G c (.tup ((o.map (nmAt ms2)).map V.str)) c = some (.tup ((o.map (nmAt ms2)).map V.str)) := upd_same
          generalize upd G c (.tup ((o.map (nmAt ms2)).map V.str)) = G7 at *
          refine ⟨by show 2 ≤ sizeLine; omega, fun b nb => ?_⟩
          exact put G7 _ (SG.trans S7) (by rw [hcase]; rfl) c b e7 nb
      | some q0 =>
        rw [hcase] at hb6
        obtain ⟨b0, a0, rfl, hb0, ha0⟩ := hb6
        refine iteF ?_
        refine ⟨_, rfl, _, rfl, b0, _, 0, _, rfl, rfl, hb0, rfl, _, _, rfl, rfl, _, rfl, ?_⟩
        refine ite2 (fun hlt => ?_) (fun hlt => ?_)
        · have hlt' : R o < q0.1 := by
            have := of_decide_eq_true hlt
            omega
          refine ⟨_, rfl, _, rfl, a, rfl, ⟨_, SqT.of ha6⟩, fun B nB => ?_⟩
          refine lc_it (walk_tup (xs := o.map V.int)) (fun j G => Same H6 G ∧ G B = some (.lst (((o.take j).map (nmAt ms2)).map V.str))) ⟨same_upd nB (Same.refl H6), upd_same⟩ (fun j G _ z => same_tup z.1 (SqT.of ha6)) ?_ ?_
          · rintro j v G0 G hj ⟨SG, hB⟩ ⟨rfl, hv⟩
            rw [List.length_map] at hj
            obtain ⟨z, hz⟩ : ∃ z, o[j]? = some z := ⟨_, List.getElem?_eq_getElem hj⟩
            rw [List.getElem?_map, hz] at hv
            cases hv
            obtain ⟨z0, z1⟩ := o0 z (List.mem_of_getElem? hz)
            have MG := M6.same SG
            obtain ⟨⟨dx1, e', r', m', ms3, h1', h2', h3', h4'', h5', leg'⟩, h6'⟩ := id MG.e
            refine ⟨rfl, yes_of ?_⟩
            refine ⟨_, rfl, sp, dx1, _, rfl, h1', sp, es, rfl, MG.e, fun t3 ms4 ht3 hms3 => ?_⟩
            obtain rfl := mods_same hms3 MG.mods
            have hzm : ms4[z.toNat]? = some (nmAt ms4 z) := by
              unfold nmAt
              rw [List.getD_eq_getElem?_getD, List.getElem?_eq_getElem (by omega)]
              rfl
            refine ⟨_, rfl, t3, _, z, .str (nmAt ms4 z), rfl, rfl, ht3, ?_, _, hB, ?_, same_upd nB SG, ?_⟩
            · have := atI_nat (xs := ms4.map V.str) (j := z.toNat) (v := .str (nmAt ms4 z)) (by rw [List.getElem?_map, hzm]; rfl)
              rw [Int.toNat_of_nonneg z0] at this
              exact this
            · rw [List.length_map, List.length_map, List.length_take]
              omega
            · rw [upd_same, List.take_add_one, hz, List.map_append, List.map_append]
              rfl
          · rintro G ⟨SG, hB⟩
            rw [List.length_map, List.take_length] at hB
            refine ⟨B, _, rfl, .inl ⟨SqL.of hB, fun c nc => ?_⟩⟩
            have S7 := same_upd (o := .tup ((o.map (nmAt ms2)).map V.str)) nc (Same.refl G)
            have e7 : upd G c (.tup ((o.map (nmAt ms2)).map V.str)) c = some (.tup ((o.map (nmAt ms2)).map V.str)) := upd_same
            generalize upd G c (.tup ((o.map (nmAt ms2)).map V.str)) = G7 at *
            refine ⟨by show 2 ≤ sizeLine; omega, fun b nb => ?_⟩
            exact put G7 _ (SG.trans S7) (by rw [hcase]; exact if_pos hlt') c b e7 nb
        · have hlt' : ¬ R o < q0.1 := fun z => hlt (decide_eq_true (by omega))
          refine ⟨_, _, _, _, rfl, SB6, hQ6, ?_⟩
          rw [estep, hcase]
          show BestS K ms2 H6 _ (if R o < q0.1 then some (R o, o) else some q0)
          rw [if_neg hlt']
          exact ⟨b0, a0, rfl, hb0, ha0⟩
    · rintro σ H5 ⟨bv, x3, x4, x5, rfl, SB, hQ5, hb⟩
      rw [xl, List.take_length] at hb
      exact ⟨_, rfl, k bv H5 (back SB) hb⟩
end
end LS
namespace LS
open PySem PySem.Spec PyProof.Rows L2
/-! covers as texts -/
abbrev sCovText : Stmt := top i_cover_text
abbrev sResText : Stmt := top i_results_text
def resText (ws : List Str) : Str := if 0 < ws.length then Txt.join " " ws else "-"
def toldW (t : Told) : List Str := t.filterMap id
def lineW (ws : List Str) (x : Str) : Str := Str.empty ++ resText ws ++ ": " ++ x
def lineT (f : List Str → Str) (t : Told) : Str := lineW (toldW t) (settS f t)
def covText (f : List Str → Str) (L : List Told) : Str := Txt.join "\n" (L.map (lineT f))
def wordsN : Nat → List (List Str)
  | 0 => [[]]
  | k + 1 => resWords.flatMap fun r => (wordsN k).map fun ws => r :: ws
theorem wordsN_in : ∀ ws : List Str, (∀ r ∈ ws, r ∈ resWords) → ws ∈ wordsN ws.length
  | [], _ => List.mem_singleton.mpr rfl
  | r :: ws, h => List.mem_flatMap.mpr ⟨r, h r List.mem_cons_self, List.mem_map.mpr ⟨ws, wordsN_in ws fun x hx => h x (List.mem_cons_of_mem _ hx), rfl⟩⟩
theorem text_small : ∀ k : Fin 5, ∀ ws ∈ wordsN k.val, (ws.map (·.length)).sum + ws.length * (" " : Str).length ≤ 1000 ∧ (resText ws).length ≤ 1000 ∧ (Str.empty ++ resText ws).length ≤ 1000 ∧ (Str.empty ++ resText ws ++ ": ").length ≤ 1000 ∧ (lineW ws "in").length ≤ 1000 ∧ (lineW ws "out").length ≤ 1000 ∧ (lineW ws "open").length ≤ 1000 := by decide +kernel
theorem small_of {ws : List Str} (h4 : ws.length ≤ 4) (h : ∀ r ∈ ws, r ∈ resWords) : (ws.map (·.length)).sum + ws.length * (" " : Str).length ≤ 1000 ∧ (resText ws).length ≤ 1000 ∧ (Str.empty ++ resText ws).length ≤ 1000 ∧ (Str.empty ++ resText ws ++ ": ").length ≤ 1000 ∧ (lineW ws "in").length ≤ 1000 ∧ (lineW ws "out").length ≤ 1000 ∧ (lineW ws "open").length ≤ 1000 :=
  text_small ⟨ws.length, by omega⟩ ws (wordsN_in ws h)
theorem told_fewW {n : Nat} {t : Told} (h : VT n t) : (toldW t).length ≤ n ∧ ∀ r ∈ toldW t, r ∈ resWords := by
  refine ⟨by rw [← h.1]; exact List.length_filterMap_le _ _, fun r hr => ?_⟩
  obtain ⟨o, ho, e⟩ := List.mem_filterMap.mp hr
  have e : o = some r := e
  exact h.2 r (e ▸ ho)
theorem sett_three (es : List Ent) (ms : List Str) (t : Told) : settS (wordL es ms) t = "in" ∨ settS (wordL es ms) t = "out" ∨ settS (wordL es ms) t = "open" := by
  rcases settS_cases (f := wordL es ms) t with ⟨w, hw, e⟩ | ⟨_, e⟩
  · obtain ⟨ws, hws⟩ := fit_some t
    rw [e, ← hw ws hws, wordL_wd]
    rcases wd_two es (wordOf ms ws) with q | q
    · exact .inl q
    · exact .inr (.inl q)
  · exact .inr (.inr e)
def tJo (ts : List TE) : TE := fun σ H Q => tJs ts Str.empty σ H fun out H1 => Q (.str out) H1
def spResText (K : PySem.W.Frag) : Sp := fun vs H Q _ => ∃ (a : Addr) (ws : List Str), vs = [.ref a] ∧ SqT K H a (ws.map V.str) ∧ ws.length ≤ 4 ∧ (∀ r ∈ ws, r ∈ resWords) ∧ Q (.str (resText ws)) H
def spCovText (K : PySem.W.Frag) (CR CS : Addr) : Sp := fun vs H Q _ => ∃ (sp : Addr) (es : List Ent) (ms : List Str), vs = [.ref sp] ∧ ModAt K CR CS H sp es ms ∧ ms.length ≤ 4 ∧
  ∀ H', Same H H' → Q (.str (covText (wordL es ms) (rowsF (wordL es ms) ms.length ms.length))) H'
section
variable {P : Program} {w : World} {K : PySem.W.Frag} {mg : Str → Option Value} {base : Heap} {CR CS CQ : Addr}
theorem scCovText : FnScope n_cover_text ["stack"] (defScope sCovText) := ⟨rfl, rfl, rfl, by decide +kernel, rfl, by decide +kernel, by decide +kernel⟩
theorem scResText : FnScope n_results_text ["results"] (defScope sResText) := ⟨rfl, rfl, rfl, by decide +kernel, rfl, by decide +kernel, by decide +kernel⟩
theorem ok_restext {f0 : Addr} {fd : FuncData} (F : Fun K "results_text" "results_text" sResText f0 fd) (mL : mg "len" = none) : FnOk P w K mg base CX0 1 f0 fd ["results"] (spResText K) := by
  refine F.ok scResText (fun vs H Q E h => ?_) (fun cdv A outer s H vs Q E hr h => ?_)
  · obtain ⟨a, ws, rfl, _⟩ := h
    rfl
  · obtain ⟨a, ws, rfl, ha, h4, hw, k⟩ := h
    refine ⟨_, pss_one (ps_ret (pe_ifExp (pt_cmpR op_gt (pe_callB call_len_seq (by rfl) mL PySem.boot_len (pa_cons (pv 0) pa_nil)) pe_int (nomark _)) (pe_join pe_str (pv 0)) pe_str)), ?_⟩
    obtain ⟨s1, s2, _⟩ := small_of h4 hw
    refine ⟨_, rfl, a, _, rfl, .inr ha, ?_⟩
    rw [List.length_map]
    refine ⟨_, _, rfl, rfl, _, rfl, ?_⟩
    unfold resText at k
    by_cases z : 0 < ws.length
    · rw [if_pos z] at k
      rw [decide_eq_true (show (0 : Int) < ((ws.length : Nat) : Int) by omega)]
      exact ⟨⟨_, rfl⟩, _, rfl, _, a, ws, rfl, rfl, .inr ha, by omega, k⟩
    · rw [if_neg z] at k
      rw [decide_eq_false (show ¬ (0 : Int) < ((ws.length : Nat) : Int) by omega)]
      exact k
theorem ok_covtext {f0 : Addr} {fd : FuncData} (F : Fun K "cover_text" "cover_text" sCovText f0 fd) (Cv : DefK P w K mg base CX0 14 "cover" ["stack"] (spCover K CR CS)) (Rt : DefK P w K mg base CX0 1 "results_text" ["results"] (spResText K)) : FnOk P w K mg base CX0 15 f0 fd ["stack"] (spCovText K CR CS) := by
  refine F.ok scCovText (fun vs H Q E h => ?_) (fun cdv A outer s H vs Q E hr h => ?_)
  · obtain ⟨sp, es, ms, rfl, _⟩ := h
    rfl
  · obtain ⟨sp, es, ms, rfl, M, n4, k⟩ := h
    have hs2 := sizeLine_eq
    refine ⟨_, pss_one (ps_ret (pe_join pe_str (pe_lc (own := [("results", 1), ("word", 2)]) (g := gTup K 2 (gCons (gName 1) (gCons (gName 2) gNil))) (te := tJo [tFmt (tCall (spResText K) [] E0 (tCons (tVar 1) tNil)), tC (.str ": "), tFmt (tVar 2)]) (by rfl) scCovText.nd (pi_list (pe_call Cv.G hr (by rfl) Cv.g Cv.kp Cv.b .nil pass0 (pa_cons (pv 0) pa_nil))) (blkOk_by (own := [("results", 1), ("word", 2)]) (N := n_cover_text) (sc := defScope sCovText) (by decide +kernel))
        (fun _ _ _ _ _ => pg_tup (by rfl) (pgs_cons (pg_name (i := 1) scCovText.nd rfl (.inl rfl)) (pgs_cons (pg_name (i := 2) scCovText.nd rfl (.inl rfl)) pgs_nil))) (fun _ _ _ _ _ => pts_nil)
        (fun _ _ _ _ _ => pe_joined (PJ.cons (pe_fmt (pe_call Rt.G (hr.mono (by decide)) (by rfl) Rt.g Rt.kp Rt.b .nil pass0 (pa_cons (pv 1) pa_nil))) (PJ.cons pe_str (PJ.cons (pe_fmt (pv 2)) PJ.nil))))))), ?_⟩
    refine ⟨⟨_, rfl⟩, _, rfl, sp, es, ms, rfl, M, fun l xs H1 S1 nl hl hc => ?_⟩
    have vts := rowsF_vt (f := wordL es ms) (n := ms.length) ms.length
    have rl := rowsF_len (f := wordL es ms) (n := ms.length) ms.length
    have p4 : 4 ^ ms.length ≤ 256 := Nat.le_trans (Nat.pow_le_pow_right (by decide) n4) (by decide)
    have xl := Paired.length hc
    generalize rowsF (wordL es ms) ms.length ms.length = L at *
    have three := sett_three es ms
    have lineSm : ∀ t ∈ L, (lineT (wordL es ms) t).length ≤ 1000 := fun t ht => by
      obtain ⟨t1, t2⟩ := told_fewW (vts t ht)
      obtain ⟨_, _, _, _, q5, q6, q7⟩ := small_of (Nat.le_trans t1 n4) t2
      unfold lineT
      rcases three t with e | e | e <;> rw [e] <;> assumption
    refine ⟨l, rfl, ⟨_, SqL.of hl⟩, fun B nB => ?_⟩
    refine lc_it (walk_list (xs := xs)) (fun j G => Same H1 G ∧ G B = some (.lst (((L.take j).map (lineT (wordL es ms))).map V.str))) ⟨same_upd nB (Same.refl H1), upd_same⟩ (fun j G _ z => SqL.of (z.1 _ _ hl)) ?_ ?_
    · rintro j v G0 G hj ⟨SG, hB⟩ ⟨rfl, hx⟩
      obtain ⟨t, htj, a, b, rfl, ha, hb⟩ := paired_get (hc.same SG) hx
      have ht := List.mem_of_getElem? htj
      obtain ⟨t1, t2⟩ := told_fewW (vts t ht)
      obtain ⟨_, q2, q3, q4, q5, q6, q7⟩ := small_of (Nat.le_trans t1 n4) t2
      have q8 := lineSm t ht
      have s4 : (settS (wordL es ms) t).length ≤ 1000 := by
        rcases three t with e | e | e <;> rw [e] <;> decide
      refine ⟨a, _, rfl, ha, rfl, ?_⟩
      refine ⟨_, _, rfl, _, _, rfl, rfl, ?_⟩
      refine ⟨rfl, yes_of ?_⟩
      refine ⟨_, rfl, b, toldW t, rfl, hb, Nat.le_trans t1 n4, t2, .inl ⟨_, rfl, by omega, _, rfl, by omega, _, rfl, by omega, _, rfl, .inl ⟨_, rfl, by omega, _, rfl, ?_, ?_⟩⟩⟩
      · show (lineT (wordL es ms) t).length ≤ _
        omega
      · refine ⟨_, hB, by rw [List.length_map, List.length_map, List.length_take]; omega, same_upd nB SG, ?_⟩
        rw [upd_same, List.take_add_one, htj, List.map_append, List.map_append]
        rfl
    · rintro G ⟨SG, hB⟩
      rw [xl, List.take_length] at hB
      refine ⟨_, B, L.map (lineT (wordL es ms)), rfl, rfl, .inl (SqL.of hB), ?_, k G (S1.trans SG)⟩
      have sm : ∀ M : List Told, (∀ t ∈ M, (lineT (wordL es ms) t).length ≤ 1000) → (((M.map (lineT (wordL es ms))).map (·.length)).sum) ≤ 1000 * M.length := by
        intro M
        induction M with
        | nil => intro _; exact Nat.zero_le _
        | cons t M ih =>
          intro h
          have h1 := h t List.mem_cons_self
          have h2 := ih fun u hu => h u (List.mem_cons_of_mem _ hu)
          rw [List.map_cons, List.map_cons, List.sum_cons, List.length_cons]
          omega
      have h1 := sm L lineSm
      have h2 : (("\n" : Str)).length = 1 := by decide
      rw [h2, List.length_map]
      omega
end
end LS
namespace LS
open PySem PySem.Spec PyProof.Rows L2
/-- what runs tell hangs on the plain entries alone -/
theorem mts_go {tl : Str → Nat} (ps : List Pl) (es fs : List Ent) (h : Mts ps es) (g : Mts ps fs) (b : Mrk) (k : Nat) (num : Int) (st : Mrk) (ns : List Int) : goEs tl es b k num st ns = goEs tl fs b k num st ns := by
  match ps, h, g with
  | [], h, g =>
    have h : es = [] := h
    have g : fs = [] := g
    rw [h, g]
  | .rule z ds :: ps, h, g =>
    obtain ⟨e, r, e1, ⟨p, e2⟩, h3⟩ := h
    obtain ⟨e', r', e1', ⟨p', e2'⟩, g3⟩ := g
    subst e1 e2 e1' e2'
    have ih := mts_go (tl := tl) ps r r' h3 g3
    cases k with
    | zero =>
      rw [goEs, goEs]
      split
      · rfl
      · exact ih _ _ _ _ _
    | succ k =>
      rw [goEs, goEs]
      exact ih _ _ _ _ _
  | .stk qs :: ps, h, g =>
    obtain ⟨e, r, e1, ⟨p, xs, e2, hq⟩, h3⟩ := h
    obtain ⟨e', r', e1', ⟨p', ys, e2', gq⟩, g3⟩ := g
    subst e1 e2 e1' e2'
    have ih := mts_go (tl := tl) ps r r' h3 g3
    have ih2 := mts_go (tl := tl) qs xs ys hq gq
    have l1 := congrArg List.length (mts_rules hq).1
    have l2 := congrArg List.length (mts_rules gq).1
    rw [List.length_map] at l1 l2
    have ll : (rulesEs xs).length = (rulesEs ys).length := by rw [l1, l2]
    cases k with
    | zero =>
      rw [goEs, goEs, ih2, ll]
      exact ih _ _ _ _ _
    | succ k =>
      rw [goEs, goEs, ll]
      exact ih _ _ _ _ _
termination_by sizeOf ps
theorem word_mts {ps : List Pl} {es fs : List Ent} (h : Mts ps es) (g : Mts ps fs) (zs ws : List Str) : wordL es zs ws = wordL fs zs ws := by
  unfold wordL runs
  rw [mts_go ps es fs h g]
theorem mts_take : ∀ {ps : List Pl} {es : List Ent} (i : Nat), Mts ps es → Mts (ps.take i) (es.take i)
  | [], es, i, h => by
    have h : es = [] := h
    subst h
    rw [List.take_nil, List.take_nil]
    rfl
  | p :: ps, es, 0, _ => by
    rw [List.take_zero, List.take_zero]
    rfl
  | p :: ps, es, i + 1, ⟨e, r, z, h1, h2⟩ => by
    subst z
    exact ⟨e, r.take i, rfl, h1, mts_take i h2⟩
theorem mts_drop : ∀ {ps : List Pl} {es : List Ent} (i : Nat), Mts ps es → Mts (ps.drop i) (es.drop i)
  | [], es, i, h => by
    have h : es = [] := h
    subst h
    rw [List.drop_nil, List.drop_nil]
    rfl
  | p :: ps, es, 0, h => h
  | p :: ps, es, i + 1, ⟨e, r, z, h1, h2⟩ => by
    subst z
    exact mts_drop i h2
theorem mts_at : ∀ {ps : List Pl} {es : List Ent} {i : Nat} {p : Pl} {e : Ent}, Mts ps es → ps[i]? = some p → es[i]? = some e → Mt p e
  | [], es, i, p, e, _, h, _ => by simp at h
  | q :: ps, es, 0, p, e, ⟨e', r, z, h1, h2⟩, hp, he => by
    subst z
    simp at hp he
    subst hp he
    exact h1
  | q :: ps, es, i + 1, p, e, ⟨e', r, z, h1, h2⟩, hp, he => by
    subst z
    exact mts_at h2 (by simpa using hp) (by simpa using he)
end LS
namespace LS
open PySem PySem.Spec PyProof.Rows L2 TxS
mutual
/-- entries of a plain stack, wherever they stand -/
def canE : Pl → Ent
  | .rule z ds => .rule 0 z ds
  | .stk ps => .stk 0 (canEs ps)
def canEs : List Pl → List Ent
  | [] => []
  | p :: ps => canE p :: canEs ps
end
mutual
theorem can_mt : ∀ p : Pl, Mt p (canE p)
  | .rule z ds => ⟨0, rfl⟩
  | .stk ps => ⟨0, canEs ps, rfl, can_mts ps⟩
theorem can_mts : ∀ ps : List Pl, Mts ps (canEs ps)
  | [] => rfl
  | p :: ps => ⟨canE p, canEs ps, rfl, can_mt p, can_mts ps⟩
end
/-- where a plain stack leads -/
def wordP (ps : List Pl) (zs ws : List Str) : Str := wordL (canEs ps) zs ws
theorem word_can {ps : List Pl} {es : List Ent} (h : Mts ps es) (zs ws : List Str) : wordL es zs ws = wordP ps zs ws := word_mts h (can_mts ps) zs ws
end LS
namespace LS
open PySem PySem.Spec PyProof.Rows L2
/-! a rule that does nothing, at the end and ahead -/
def ignD : List PyData := [.str "ignore", .str "ignore", .str "ignore", .str "ignore"]
theorem act_ign {tl : Str → Nat} {z : Str} (h : tl z < 4) : actAt tl z ignD = .str "ignore" := by
  unfold actAt ignD
  have : tl z = 0 ∨ tl z = 1 ∨ tl z = 2 ∨ tl z = 3 := by omega
  rcases this with e | e | e | e <;> rw [e] <;> rfl
theorem ign_in : inW (.str "ignore") ["ok", "done"] = false ∧ inW (.str "ignore") ["bad", "die"] = false ∧ inW (.str "ignore") ["reset"] = false ∧ inW (.str "ignore") ["die"] = false ∧ inW (.str "ignore") ["done"] = false := by decide +kernel
theorem ign_act (num : Int) (b st : Mrk) : actF (.str "ignore") num b st = st := by
  obtain ⟨h1, h2, h3, _, _⟩ := ign_in
  unfold actF
  rw [h1, h2, h3, if_neg (fun q => nomatch q.1), if_neg (fun q => nomatch q.1), if_neg Bool.false_ne_true]
theorem ign_end (st : Mrk) : endF (.str "ignore") st = false := by
  obtain ⟨_, _, _, h4, h5⟩ := ign_in
  unfold endF
  rw [h4, h5]
  rfl
theorem act_fst (a : PyData) (num num' : Int) {b b' st st' : Mrk} (hb : b.1 = b'.1) (hs : st.1 = st'.1) : (actF a num b st).1 = (actF a num' b' st').1 := by
  unfold actF
  rw [hs]
  split
  · rfl
  · split
    · rfl
    · split
      · exact hb
      · exact hs
/-- where a run leads hangs on no number -/
theorem go_fst {tl : Str → Nat} (es : List Ent) (b b' : Mrk) (k : Nat) (num num' : Int) (st st' : Mrk) (ns ns' : List Int) (hb : b.1 = b'.1) (hs : st.1 = st'.1) : (goEs tl es b k num st ns).1.1 = (goEs tl es b' k num' st' ns').1.1 := by
  match es, k with
  | [], k =>
    rw [goEs, goEs]
    exact hs
  | .rule p z ds :: es, 0 =>
    have ha := act_fst (actAt tl z ds) num num' hb hs
    have he : endF (actAt tl z ds) (actF (actAt tl z ds) num b st) = endF (actAt tl z ds) (actF (actAt tl z ds) num' b' st') := by
      unfold endF
      rw [ha]
    rw [goEs, goEs, he]
    split
    · exact ha
    · exact go_fst es _ _ _ _ _ _ _ _ _ hb ha
  | .rule p z ds :: es, k + 1 =>
    rw [goEs, goEs]
    exact go_fst es _ _ _ _ _ _ _ _ _ hb hs
  | .stk p fs :: es, 0 =>
    rw [goEs, goEs]
    exact go_fst es _ _ _ _ _ _ _ _ _ hb (go_fst fs _ _ _ _ _ _ _ _ _ hs hs)
  | .stk p fs :: es, k + 1 =>
    rw [goEs, goEs]
    exact go_fst es _ _ _ _ _ _ _ _ _ hb hs
termination_by sizeOf es
theorem go_end {tl : Str → Nat} {p : Addr} {z : Str} (h : tl z < 4) (es : List Ent) (b : Mrk) (k : Nat) (num : Int) (st : Mrk) (ns : List Int) : (goEs tl (es ++ [.rule p z ignD]) b k num st ns).1.1 = (goEs tl es b k num st ns).1.1 := by
  match es, k with
  | [], 0 =>
    rw [List.nil_append, goEs, goEs, act_ign h, ign_act, ign_end, if_neg Bool.false_ne_true, goEs]
  | [], k + 1 =>
    rw [List.nil_append, goEs, goEs, goEs]
  | .rule q y ds :: es, 0 =>
    rw [List.cons_append, goEs, goEs]
    split
    · rfl
    · exact go_end h es _ _ _ _ _
  | .rule q y ds :: es, k + 1 =>
    rw [List.cons_append, goEs, goEs]
    exact go_end h es _ _ _ _ _
  | .stk q fs :: es, 0 =>
    rw [List.cons_append, goEs, goEs]
    exact go_end h es _ _ _ _ _
  | .stk q fs :: es, k + 1 =>
    rw [List.cons_append, goEs, goEs]
    exact go_end h es _ _ _ _ _
termination_by sizeOf es
theorem can_append : ∀ (a b : List Pl), canEs (a ++ b) = canEs a ++ canEs b
  | [], _ => rfl
  | p :: a, b => congrArg (canE p :: ·) (can_append a b)
theorem word_end {qs : List Pl} {z : Str} {zs ws : List Str} (h : tlOf zs ws z < 4) : wordP (qs ++ [.rule z ignD]) zs ws = wordP qs zs ws := by
  unfold wordP wordL inOut runs
  rw [can_append]
  show (if (goEs _ (canEs qs ++ [.rule 0 z ignD]) _ _ _ _ _).1.1 = "good" then _ else _) = _
  rw [go_end h]
theorem word_head {qs : List Pl} {z : Str} {zs ws : List Str} (h : tlOf zs ws z < 4) : wordP (.rule z ignD :: qs) zs ws = wordP qs zs ws := by
  unfold wordP wordL inOut runs
  show (if (goEs _ (.rule 0 z ignD :: canEs qs) _ _ _ _ _).1.1 = "good" then _ else _) = _
  rw [goEs, act_ign h, ign_act, ign_end, if_neg Bool.false_ne_true]
  rw [go_fst (canEs qs) _ ("none", .non) (leftF (.str "ignore")) _ 0 ("none", .non) ("none", .non) _ [] rfl rfl]
  rfl
theorem word_tl {qs : List Pl} {zs ws zs' ws' : List Str} (h : ∀ r ∈ rulesPs qs, tlOf zs ws r.1 = tlOf zs' ws' r.1) : wordP qs zs ws = wordP qs zs' ws' := by
  unfold wordP wordL runs
  rw [goEs_congr (tl := tlOf zs ws) (tm := tlOf zs' ws') (canEs qs) _ _ _ _ _ fun r hr => ?_]
  have q : (r.2.1, r.2.2) ∈ rulesPs qs := by
    rw [← (mts_rules (can_mts qs)).1]
    exact List.mem_map.mpr ⟨r, hr, rfl⟩
  exact h _ q
theorem idx_app : ∀ {zs : List Str} {x y : Str}, x ∈ zs → idxS x (zs ++ [y]) = idxS x zs
  | z :: zs, x, y, h => by
    show (if z = x then 0 else idxS x (zs ++ [y]) + 1) = if z = x then 0 else idxS x zs + 1
    by_cases e : z = x
    · rw [if_pos e, if_pos e]
    · rw [if_neg e, if_neg e, idx_app ((List.mem_cons.mp h).resolve_left fun q => e q.symm)]
theorem idx_lt {zs : List Str} {x : Str} (h : x ∈ zs) : idxS x zs < zs.length := (List.getElem?_eq_some_iff.mp (idxS_at h)).1
theorem idx_end : ∀ {zs : List Str} {y : Str}, y ∉ zs → idxS y (zs ++ [y]) = zs.length
  | [], y, _ => by
    show (if y = y then 0 else _) = 0
    rw [if_pos rfl]
  | z :: zs, y, h => by
    show (if z = y then 0 else idxS y (zs ++ [y]) + 1) = zs.length + 1
    rw [if_neg (fun e => h (by rw [e]; exact List.mem_cons_self)), idx_end fun q => h (List.mem_cons_of_mem _ q)]
theorem tl_app {ms ws : List Str} {y r z : Str} (hl : ws.length = ms.length) (h : z ∈ ms) : tlOf (ms ++ [y]) (ws ++ [r]) z = tlOf ms ws z := by
  unfold tlOf wordOf
  have hi := idx_lt h
  rw [idx_app h, List.getD_eq_getElem?_getD, List.getD_eq_getElem?_getD, List.getElem?_append_left (by omega)]
theorem res_lt {r : Str} (h : r ∈ resWords) : idxS r resWords < 4 := idx_lt h
theorem tl_end {ms ws : List Str} {y r : Str} (hl : ws.length = ms.length) (h : y ∉ ms) (hr : r ∈ resWords) : tlOf (ms ++ [y]) (ws ++ [r]) y < 4 := by
  unfold tlOf wordOf
  rw [idx_end h, List.getD_eq_getElem?_getD, List.getElem?_append_right (by omega), hl, Nat.sub_self]
  exact res_lt hr
theorem tl_cons {ms ws : List Str} {y r z : Str} (h : z ≠ y) : tlOf (y :: ms) (r :: ws) z = tlOf ms ws z := by
  unfold tlOf wordOf
  have e : idxS z (y :: ms) = idxS z ms + 1 := by
    show (if y = z then 0 else idxS z ms + 1) = _
    rw [if_neg fun q => h q.symm]
  rw [e]
  rfl
theorem tl_self {ms ws : List Str} {y r : Str} (hr : r ∈ resWords) : tlOf (y :: ms) (r :: ws) y < 4 := by
  unfold tlOf wordOf
  have e : idxS y (y :: ms) = 0 := by
    show (if y = y then 0 else _) = 0
    rw [if_pos rfl]
  rw [e]
  exact res_lt hr
theorem more_cons (r : Str) (L : List (List Str)) : moreF (L.map fun ws => r :: ws) = (moreF L).map fun ws => r :: ws := by
  unfold moreF
  rw [List.flatMap_map, List.map_flatMap]
  refine congrArg (fun f => L.flatMap f) (funext fun ws => ?_)
  rw [List.map_map]
  rfl
theorem more_flat {α : Type} (f : α → List (List Str)) : ∀ L : List α, moreF (L.flatMap f) = L.flatMap fun x => moreF (f x)
  | [] => rfl
  | x :: L => by
    rw [List.flatMap_cons, List.flatMap_cons, ← more_flat f L]
    unfold moreF
    rw [List.flatMap_append]
theorem allF_cons : ∀ (n : Nat) (z : Str) (ms : List Str), ms.length = n → allF (z :: ms) = resWords.flatMap fun r => (allF ms).map fun ws => r :: ws
  | 0, z, ms, h => by
    rw [List.length_eq_zero_iff.mp h]
    rfl
  | n + 1, z, ms, h => by
    have hne : ms ≠ [] := fun e => by rw [e] at h; cases h
    have e := (List.dropLast_concat_getLast hne).symm
    have ih := allF_cons n z ms.dropLast (by rw [List.length_dropLast, h]; rfl)
    have e1 : allF (z :: ms) = moreF (allF (z :: ms.dropLast)) := by
      rw [e, List.dropLast_concat, ← List.cons_append, allF_snoc]
    have e2 : allF ms = moreF (allF ms.dropLast) := by
      rw [e, List.dropLast_concat, allF_snoc]
    rw [e1, ih, more_flat, e2]
    refine congrArg (fun f => resWords.flatMap f) (funext fun r => more_cons r _)
theorem count_map {α β : Type} (f : α → β) (p : β → Bool) : ∀ L : List α, (L.map f).countP p = L.countP fun x => p (f x)
  | [] => rfl
  | x :: L => by
    rw [List.map_cons, List.countP_cons, List.countP_cons, count_map f p L]
theorem count_const {α : Type} {p : α → Bool} {b : Bool} : ∀ {L : List α}, (∀ x ∈ L, p x = b) → L.countP p = if b = true then L.length else 0
  | [], _ => by simp
  | x :: L, h => by
    rw [List.countP_cons, count_const (b := b) fun y hy => h y (List.mem_cons_of_mem _ hy), h x List.mem_cons_self]
    cases b <;> simp
end LS
namespace LS
open PySem PySem.Spec PyProof.Rows L2
/-! how many rows a cover has, by any order; a last module that tells nothing -/
def sumN : List Nat → Nat
  | [] => 0
  | x :: l => x + sumN l
theorem sum_app : ∀ a b : List Nat, sumN (a ++ b) = sumN a + sumN b
  | [], b => (Nat.zero_add _).symm
  | x :: a, b => by
    show x + sumN (a ++ b) = x + sumN a + sumN b
    rw [sum_app a b]
    omega
theorem sum_flat {α β : Type} (g : α → List β) (h : β → Nat) : ∀ L : List α, sumN ((L.flatMap g).map h) = sumN (L.map fun x => sumN ((g x).map h))
  | [] => rfl
  | x :: L => by
    rw [List.flatMap_cons, List.map_append, sum_app, sum_flat g h L]
    rfl
theorem sum_len {α : Type} : ∀ L : List α, sumN (L.map fun _ => 1) = L.length
  | [] => rfl
  | x :: L => by
    show 1 + sumN (L.map fun _ => 1) = L.length + 1
    rw [sum_len L]
    omega
theorem sum_congr {α : Type} {g h : α → Nat} : ∀ {L : List α}, (∀ x ∈ L, g x = h x) → sumN (L.map g) = sumN (L.map h)
  | [], _ => rfl
  | x :: L, e => by
    show g x + sumN (L.map g) = h x + sumN (L.map h)
    rw [e x List.mem_cons_self, sum_congr fun y hy => e y (List.mem_cons_of_mem _ hy)]
theorem sum_le {α : Type} {g h : α → Nat} : ∀ {L : List α}, (∀ x ∈ L, g x ≤ h x) → sumN (L.map g) ≤ sumN (L.map h)
  | [], _ => Nat.le_refl _
  | x :: L, e => by
    have h1 := e x List.mem_cons_self
    have h2 := sum_le fun y hy => e y (List.mem_cons_of_mem _ hy)
    show g x + sumN (L.map g) ≤ h x + sumN (L.map h)
    omega
theorem sum_mem {α : Type} {g : α → Nat} : ∀ {L : List α} {x : α}, x ∈ L → g x ≤ sumN (L.map g)
  | y :: L, x, h => by
    show g x ≤ g y + sumN (L.map g)
    rcases List.mem_cons.mp h with e | h
    · rw [e]
      omega
    · have := sum_mem (g := g) h
      omega
def lenO (f : List Str → Str) : List Nat → Told → Nat
  | [], _ => 1
  | k :: o, t => sumN ((behF f k t).map (lenO f o))
theorem steps_lenO (f : List Str → Str) : ∀ (o : List Nat) (L : List Told), (stepsF f L o).length = sumN (L.map (lenO f o))
  | [], L => (sum_len L).symm
  | k :: o, L => by
    show (stepsF f (L.flatMap (behF f k)) o).length = _
    rw [steps_lenO f o, sum_flat]
    rfl
theorem steps_one (f : List Str → Str) (o : List Nat) (t : Told) : (stepsF f [t] o).length = lenO f o t := by
  rw [steps_lenO]
  show lenO f o t + 0 = _
  rw [Nat.add_zero]
theorem beh_open {f : List Str → Str} {k : Nat} {t : Told} (h : settS f t = "open") : behF f k t = [t.set k (some "yes"), t.set k (some "no"), t.set k (some "skip"), t.set k (some "gone")] := by
  unfold behF
  rw [if_pos h]
  rfl
theorem beh_shut {f : List Str → Str} {k : Nat} {t : Told} (h : settS f t ≠ "open") : behF f k t = [t] := if_neg h
theorem lenO_open {f : List Str → Str} {k : Nat} {o : List Nat} {t : Told} (h : settS f t = "open") : lenO f (k :: o) t = lenO f o (t.set k (some "yes")) + (lenO f o (t.set k (some "no")) + (lenO f o (t.set k (some "skip")) + lenO f o (t.set k (some "gone")))) := by
  show sumN ((behF f k t).map (lenO f o)) = _
  rw [beh_open h]
  show _ + (_ + (_ + (_ + 0))) = _
  rw [Nat.add_zero]
theorem lenO_shut1 {f : List Str → Str} {k : Nat} {o : List Nat} {t : Told} (h : settS f t ≠ "open") : lenO f (k :: o) t = lenO f o t := by
  show sumN ((behF f k t).map (lenO f o)) = _
  rw [beh_shut h]
  show _ + 0 = _
  rw [Nat.add_zero]
theorem lenO_shut {f : List Str → Str} {t : Told} (h : settS f t ≠ "open") : ∀ o : List Nat, lenO f o t = 1
  | [] => rfl
  | k :: o => by rw [lenO_shut1 h, lenO_shut h o]
theorem lenO_three (f : List Str → Str) : ∀ (o : List Nat) (t : Told), lenO f o t % 3 = 1
  | [], _ => rfl
  | k :: o, t => by
    by_cases h : settS f t = "open"
    · have a := lenO_three f o (t.set k (some "yes"))
      have b := lenO_three f o (t.set k (some "no"))
      have c := lenO_three f o (t.set k (some "skip"))
      have d := lenO_three f o (t.set k (some "gone"))
      rw [lenO_open h]
      omega
    · rw [lenO_shut1 h]
      exact lenO_three f o t
theorem lenO_pos (f : List Str → Str) (o : List Nat) (t : Told) : 1 ≤ lenO f o t := by
  have := lenO_three f o t
  omega
theorem steps_only (f : List Str → Str) : ∀ (o : List Nat) (t : Told), lenO f o t = 1 → stepsF f [t] o = [t]
  | [], _, _ => rfl
  | k :: o, t, h => by
    by_cases c : settS f t = "open"
    · rw [lenO_open c] at h
      have a := lenO_pos f o (t.set k (some "yes"))
      have b := lenO_pos f o (t.set k (some "no"))
      omega
    · rw [lenO_shut1 c] at h
      have ih := steps_only f o t h
      show stepsF f ([t].flatMap (behF f k)) o = [t]
      rw [List.flatMap_cons, List.flatMap_nil, List.append_nil, beh_shut c]
      exact ih
/-! every row of a whole order is settled -/
theorem fit_vt {n : Nat} {t : Told} (h : VT n t) {ws : List Str} (hf : FitT t ws) : ws.length = n ∧ ∀ w ∈ ws, w ∈ resWords := by
  obtain ⟨h1, h2⟩ := (fit_iff t ws).mp hf
  refine ⟨h1.trans h.1, fun w hw => ?_⟩
  obtain ⟨i, hi, e⟩ := List.getElem_of_mem hw
  have hi2 : i < t.length := by omega
  have q := h2 i t[i] w (List.getElem?_eq_getElem hi2) (by rw [List.getElem?_eq_getElem hi, e])
  cases ho : t[i] with
  | none =>
    rw [ho] at q
    exact q
  | some r =>
    rw [ho] at q
    rw [List.mem_singleton.mp q]
    exact h.2 r (ho ▸ List.getElem_mem hi2)
theorem sett_all {f : List Str → Str} (hf : ∀ ws, f ws ≠ "open") {t : Told} (h : ∀ i : Nat, i < t.length → t[i]? ≠ some none) : settS f t ≠ "open" := fun e =>
  hole_open (f := f) e hf (by
    refine List.eq_nil_iff_forall_not_mem.mpr fun i hi => ?_
    have q := hole_at.mp hi
    exact h i (List.getElem?_eq_some_iff.mp q).1 q)
theorem steps_sett {f : List Str → Str} (hf : ∀ ws, f ws ≠ "open") {n : Nat} : ∀ (o : List Nat) (L : List Told), (∀ t ∈ L, VT n t ∧ (settS f t ≠ "open" ∨ ∀ i : Nat, i < n → t[i]? = some none → i ∈ o)) → (∀ k ∈ o, k < n) → ∀ t ∈ stepsF f L o, settS f t ≠ "open"
  | [], L, h, _, t, ht => by
    obtain ⟨v, q⟩ := h t ht
    rcases q with q | q
    · exact q
    · exact sett_all hf fun i hi e => nomatch q i (by rw [← v.1]; exact hi) e
  | k :: o, L, h, hk, t, ht => by
    refine steps_sett hf o (L.flatMap (behF f k)) (fun u hu => ?_) (fun c hc => hk c (List.mem_cons_of_mem _ hc)) t ht
    obtain ⟨x, hx, hu⟩ := List.mem_flatMap.mp hu
    obtain ⟨v, q⟩ := h x hx
    refine ⟨beh_vt v u hu, ?_⟩
    by_cases c : settS f x = "open"
    · right
      intro i hi e
      unfold behF at hu
      rw [if_pos c] at hu
      obtain ⟨r, hr, rfl⟩ := List.mem_map.mp hu
      rw [set_at (by rw [v.1]; exact hk k List.mem_cons_self)] at e
      by_cases z : i = k
      · rw [if_pos z] at e
        cases e
      · rw [if_neg z] at e
        rcases q with q | q
        · exact absurd c q
        · exact (List.mem_cons.mp (q i hi e)).resolve_left z
    · left
      rw [beh_shut c] at hu
      rw [List.mem_singleton.mp hu]
      exact c
theorem rows_sett {f : List Str → Str} (hf : ∀ ws, f ws ≠ "open") (n : Nat) : ∀ t ∈ rowsF f n n, settS f t ≠ "open" := by
  rw [rows_steps]
  refine steps_sett (n := n) hf _ _ (fun t ht => ?_) fun k hk => List.mem_range.mp hk
  rw [List.mem_singleton.mp ht]
  exact ⟨vt_none n, .inr fun i hi _ => List.mem_range.mpr hi⟩
/-! ### one module more, that tells nothing -/
theorem fit_snoc : ∀ (t : Told) (x : Option Str) (ws : List Str), FitT (t ++ [x]) ws ↔ ∃ us r, ws = us ++ [r] ∧ FitT t us ∧ r ∈ optW x
  | [], x, [] => ⟨fun h => h.elim, fun ⟨us, r, e, _⟩ => by cases us <;> cases e⟩
  | [], x, [w] => ⟨fun h => ⟨[], w, rfl, True.intro, h.1⟩, fun ⟨us, r, e, h1, h2⟩ => by
      cases us with
      | nil =>
        cases e
        exact ⟨h2, True.intro⟩
      | cons u us => exact h1.elim⟩
  | [], x, w :: v :: ws => ⟨fun h => h.2.elim, fun ⟨us, r, e, h1, h2⟩ => by
      cases us with
      | nil => cases e
      | cons u us => exact h1.elim⟩
  | o :: t, x, [] => ⟨fun h => h.elim, fun ⟨us, r, e, _⟩ => by cases us <;> cases e⟩
  | o :: t, x, w :: ws => by
    have ih := fit_snoc t x ws
    constructor
    · rintro ⟨h1, h2⟩
      obtain ⟨us, r, e, a, b⟩ := ih.mp h2
      exact ⟨w :: us, r, by rw [e]; rfl, ⟨h1, a⟩, b⟩
    · rintro ⟨us, r, e, a, b⟩
      cases us with
      | nil => exact a.elim
      | cons u us =>
        cases e
        exact ⟨a.1, ih.mpr ⟨us, r, rfl, a.2, b⟩⟩
def okR (x : Option Str) : Prop := ∀ r, x = some r → r ∈ resWords
theorem optW_sub {x : Option Str} (h : okR x) : ∀ r ∈ optW x, r ∈ resWords := fun r hr => by
  cases x with
  | none => exact hr
  | some y =>
    rw [List.mem_singleton.mp hr]
    exact h y rfl
theorem okR_some {r : Str} (h : r ∈ resWords) : okR (some r) := fun x e => by cases e; exact h
theorem okR_none : okR none := fun _ e => nomatch e
structure Quiet (f g : List Str → Str) (n : Nat) : Prop where
  eq : ∀ ws : List Str, ws.length = n → (∀ w ∈ ws, w ∈ resWords) → ∀ r ∈ resWords, g (ws ++ [r]) = f ws
  hf : ∀ ws, f ws ≠ "open"
  hg : ∀ ws, g ws ≠ "open"
section
variable {f g : List Str → Str} {n : Nat}
theorem Quiet.sett (q : Quiet f g n) {t : Told} (h : VT n t) {x : Option Str} (hx : okR x) : settS g (t ++ [x]) = settS f t :=
  settS_congr fun v => by
    constructor
    · rintro ⟨ws, hw, e⟩
      obtain ⟨us, r, rfl, a, b⟩ := (fit_snoc t x ws).mp hw
      obtain ⟨l, m⟩ := fit_vt h a
      exact ⟨us, a, by rw [← e, q.eq us l m r (optW_sub hx r b)]⟩
    · rintro ⟨us, hu, e⟩
      obtain ⟨r, hr⟩ := optW_some x
      obtain ⟨l, m⟩ := fit_vt h hu
      exact ⟨us ++ [r], (fit_snoc t x _).mpr ⟨us, r, rfl, hu, hr⟩, by rw [q.eq us l m r (optW_sub hx r hr), e]⟩
theorem set_snoc {t : Told} {k : Nat} {x y : Option Str} (h : k < t.length) : (t ++ [x]).set k y = t.set k y ++ [x] := by
  rw [List.set_append_left _ _ h]
theorem set_last {t : Told} {x y : Option Str} : (t ++ [x]).set t.length y = t ++ [y] := by
  rw [List.set_append_right _ _ (Nat.le_refl _), Nat.sub_self]
  rfl
theorem Quiet.beh (q : Quiet f g n) {t : Told} (h : VT n t) {x : Option Str} (hx : okR x) {k : Nat} (hk : k < n) : behF g k (t ++ [x]) = (behF f k t).map (· ++ [x]) := by
  by_cases c : settS f t = "open"
  · rw [beh_open c, beh_open (by rw [q.sett h hx]; exact c)]
    have e : k < t.length := by rw [h.1]; exact hk
    rw [set_snoc e, set_snoc e, set_snoc e, set_snoc e]
    rfl
  · rw [beh_shut c, beh_shut (by rw [q.sett h hx]; exact c)]
    rfl
theorem Quiet.rows (q : Quiet f g n) : ∀ k, k ≤ n → rowsF g (n + 1) k = (rowsF f n k).map (· ++ [none])
  | 0, _ => by
    show [noneT (n + 1)] = [noneT n ++ [none]]
    unfold noneT
    rw [List.replicate_succ']
  | k + 1, h => by
    show (rowsF g (n + 1) k).flatMap (behF g k) = ((rowsF f n k).flatMap (behF f k)).map (· ++ [none])
    rw [q.rows k (by omega), List.flatMap_map, List.map_flatMap]
    have vts := rowsF_vt (f := f) (n := n) k
    generalize rowsF f n k = L at *
    induction L with
    | nil => rfl
    | cons t L ih =>
      rw [List.flatMap_cons, List.flatMap_cons, q.beh (vts t List.mem_cons_self) okR_none (by omega), ih fun u hu => vts u (List.mem_cons_of_mem _ hu)]
theorem flat_id {L : List Told} {k : Nat} (h : ∀ t ∈ L, settS g t ≠ "open") : L.flatMap (behF g k) = L := by
  induction L with
  | nil => rfl
  | cons t L ih =>
    rw [List.flatMap_cons, beh_shut (h t List.mem_cons_self), ih fun u hu => h u (List.mem_cons_of_mem _ hu)]
    rfl
theorem Quiet.all (q : Quiet f g n) : rowsF g (n + 1) (n + 1) = (rowsF f n n).map (· ++ [none]) := by
  show (rowsF g (n + 1) n).flatMap (behF g n) = _
  rw [q.rows n (Nat.le_refl _)]
  refine flat_id fun t ht => ?_
  obtain ⟨u, hu, rfl⟩ := List.mem_map.mp ht
  rw [q.sett (rowsF_vt n u hu) okR_none]
  exact rows_sett q.hf n u hu
theorem told_snoc (t : Told) : toldW (t ++ [none]) = toldW t := by
  unfold toldW
  rw [List.filterMap_append]
  exact List.append_nil _
theorem Quiet.len_ge (q : Quiet f g n) : ∀ (o : List Nat) (t : Told) (x : Option Str), VT n t → okR x → (∀ k ∈ o, k ≤ n) → lenO f (o.filter fun k => decide (k ≠ n)) t ≤ lenO g o (t ++ [x])
  | [], t, x, _, _, _ => Nat.le_refl _
  | k :: o, t, x, h, hx, hk => by
    have hk0 := hk k List.mem_cons_self
    have hko : ∀ c ∈ o, c ≤ n := fun c hc => hk c (List.mem_cons_of_mem _ hc)
    have es := q.sett h hx
    by_cases e : k = n
    · have e2 : (k :: o).filter (fun k => decide (k ≠ n)) = o.filter fun k => decide (k ≠ n) := by
        rw [List.filter_cons, decide_eq_false (fun z => z e)]
        rfl
      rw [e2]
      by_cases c : settS f t = "open"
      · rw [lenO_open (by rw [es]; exact c)]
        have sl : (t ++ [x]).set k (some "yes") = t ++ [some ("yes" : Str)] := by
          rw [e, ← h.1]
          exact set_last
        rw [sl]
        have := q.len_ge o t (some "yes") h (okR_some (by decide +kernel)) hko
        omega
      · rw [lenO_shut1 (by rw [es]; exact c)]
        exact q.len_ge o t x h hx hko
    · have e2 : (k :: o).filter (fun k => decide (k ≠ n)) = k :: o.filter fun k => decide (k ≠ n) := by
        rw [List.filter_cons, decide_eq_true e]
        rfl
      rw [e2]
      by_cases c : settS f t = "open"
      · rw [lenO_open c, lenO_open (by rw [es]; exact c)]
        have kl : k < t.length := by rw [h.1]; omega
        rw [set_snoc kl, set_snoc kl, set_snoc kl, set_snoc kl]
        have y := q.len_ge o (t.set k (some "yes")) x (h.set (by decide +kernel)) hx hko
        have m := q.len_ge o (t.set k (some "no")) x (h.set (by decide +kernel)) hx hko
        have s := q.len_ge o (t.set k (some "skip")) x (h.set (by decide +kernel)) hx hko
        have z := q.len_ge o (t.set k (some "gone")) x (h.set (by decide +kernel)) hx hko
        omega
      · rw [lenO_shut1 c, lenO_shut1 (by rw [es]; exact c)]
        exact q.len_ge o t x h hx hko
theorem Quiet.len_eq (q : Quiet f g n) : ∀ (o : List Nat) (t : Told), VT n t → (∀ k ∈ o, k < n) → (∀ i : Nat, i < n → t[i]? = some none → i ∈ o) → lenO g (o ++ [n]) (t ++ [none]) = lenO f o t
  | [], t, h, _, hi => by
    show lenO g [n] (t ++ [none]) = 1
    refine lenO_shut ?_ [n]
    rw [q.sett h okR_none]
    exact sett_all q.hf fun i hi2 e => nomatch hi i (by rw [← h.1]; exact hi2) e
  | k :: o, t, h, hk, hi => by
    have hk0 := hk k List.mem_cons_self
    have hko : ∀ c ∈ o, c < n := fun c hc => hk c (List.mem_cons_of_mem _ hc)
    have es := q.sett h okR_none
    have kl : k < t.length := by rw [h.1]; exact hk0
    show lenO g (k :: (o ++ [n])) (t ++ [none]) = _
    by_cases c : settS f t = "open"
    · have step : ∀ r ∈ resWords, lenO g (o ++ [n]) ((t ++ [none]).set k (some r)) = lenO f o (t.set k (some r)) := fun r hr => by
        rw [set_snoc kl]
        refine q.len_eq o _ (h.set hr) hko fun i h1 h2 => ?_
        rw [set_at kl] at h2
        by_cases z : i = k
        · rw [if_pos z] at h2
          cases h2
        · rw [if_neg z] at h2
          exact (List.mem_cons.mp (hi i h1 h2)).resolve_left z
      rw [lenO_open c, lenO_open (by rw [es]; exact c), step _ (by decide +kernel), step _ (by decide +kernel), step _ (by decide +kernel), step _ (by decide +kernel)]
    · rw [lenO_shut c, lenO_shut (by rw [es]; exact c)]
end
end LS
namespace LS
open PySem PySem.Spec PyProof.Rows L2
/-! the prelude of the laws of services and later ones: a control drawn -/
abbrev sControl : Stmt := top i__law_control
def ctlWords : List Str := ["required", "requisite", "sufficient", "optional"]
def actE : List PyData := [.str "ok", .str "bad", .str "die", .str "done", .str "ignore", .str "reset", .int 1, .int 2, .str "ok", .str "ignore"]
theorem actE_D : ∀ d ∈ actE, d ∈ actD := by
  intro d hd
  simp only [actE, List.mem_cons, List.not_mem_nil, or_false] at hd
  rcases hd with rfl | rfl | rfl | rfl | rfl | rfl | rfl | rfl | rfl | rfl <;> simp [actD]
/-- a control: a word or four actions -/
def CtlOk (dc : PyData) (ds : List PyData) : Prop := (dc = .tuple ds ∧ OkT ds) ∨ ∃ z ∈ ctlWords, dc = .str z ∧ actsOf dc = some ds ∧ OkT ds
theorem ctl_word (z : Str) (h : z ∈ ctlWords) : ∃ ds, CtlOk (.str z) ds := by
  have q : ∀ z ∈ ctlWords, ∃ ws : List Str, looked z ctrlTab = some ws ∧ ws.map PyData.str ∈ wordT := by
    intro z hz
    simp only [ctlWords, List.mem_cons, List.not_mem_nil, or_false] at hz
    rcases hz with rfl | rfl | rfl | rfl
    · exact ⟨tReq, by decide +kernel, by simp [wordT, ctrlTab]⟩
    · exact ⟨tRqs, by decide +kernel, by simp [wordT, ctrlTab]⟩
    · exact ⟨tSuf, by decide +kernel, by simp [wordT, ctrlTab]⟩
    · exact ⟨tOpt, by decide +kernel, by simp [wordT, ctrlTab]⟩
  obtain ⟨ws, h1, h2⟩ := q z h
  refine ⟨ws.map PyData.str, .inr ⟨z, h, rfl, ?_, wordT_ok _ h2⟩⟩
  show (looked z ctrlTab).map (·.map PyData.str) = _
  rw [h1]
  rfl
def spControl (K : PySem.W.Frag) : Sp := fun vs H Q _ => ∃ (r sc : Addr) (ns : List Int), vs = [.ref r] ∧ Drw K H r sc ns ∧
  ∀ (v : V) (dc : PyData) (ds : List PyData) (H' : Hp), RowIs H' r sc → SameBut r H H' → Dp K (fresh H H') v dc → CtlOk dc ds → Q v H'
section
variable {P : Program} {w : World} {K : PySem.W.Frag} {mg : Str → Option Value} {base : Heap}
theorem scControl : FnScope n__law_control ["_law_row"] (defScope sControl) := ⟨rfl, rfl, rfl, by decide +kernel, rfl, by decide +kernel, by decide +kernel⟩
theorem ok_control {f : Addr} {fd : FuncData} (F : Fun K "_law_control" "_law_control" sControl f fd) (T : TkK P w K mg base) (mT : mg "tuple" = none) (mR : mg "range" = none) : FnOk P w K mg base CX0 2 f fd ["_law_row"] (spControl K) := by
  refine F.ok scControl (fun vs H Q E h => ?_) (fun cdv A outer s H vs Q E hr h => ?_)
  · obtain ⟨r, sc, ns, rfl, _⟩ := h
    rfl
  · obtain ⟨r, sc, ns, rfl, d, k⟩ := h
    have hs2 := sizeLine_eq
    refine ⟨_, pss_cons (ps_set (i := 1) scControl.nd rfl (.inl rfl) (pe_call T.G hr (by rfl) T.g T.kp T.b .nil pass0 (pa_cons (pv 0) (pa_cons pe_int pa_nil))))
      (pss_cons (ps_if (pt_cmpR op_lt (pv 1) pe_int (nomark _)) (pss_one (ps_ret (pe_ix ix_list (pe_lst (pa_cons pe_str (pa_cons pe_str (pa_cons pe_str (pa_cons pe_str pa_nil))))) (pv 1) (fun _ _ => rfl)))) pss_nil)
      (pss_cons (ps_set (i := 2) scControl.nd rfl (.inr rfl) (pe_lst (pa_cons pe_str (pa_cons pe_str (pa_cons pe_str (pa_cons pe_str (pa_cons pe_str (pa_cons pe_str (pa_cons pe_int (pa_cons pe_int (pa_cons pe_str (pa_cons pe_str pa_nil))))))))))))
      (pss_one (ps_ret (pe_callTy call_tuple_of (by rfl) mT (by decide +kernel) (pa_cons (pe_lc (own := [("_law_result", 3)]) (g := gName 3) (by rfl) scControl.nd (pi_range1 (by rfl) mR (pa_cons pe_int pa_nil)) (blkOk_by (own := [("_law_result", 3)]) (N := n__law_control) (sc := defScope sControl) (by decide +kernel))
        (fun _ _ _ _ _ => pg_name (i := 3) scControl.nd rfl (Or.inl rfl)) (fun _ _ _ _ _ => pts_nil) (fun _ _ _ _ _ => pe_ix (r := rIxL K) ix_list (pv 2) (pe_call T.G hr (by rfl) T.g T.kp T.b .nil pass0 (pa_cons (pv 0) (pa_cons pe_int pa_nil))) (fun _ _ => rfl))) pa_nil)))))), ?_⟩
    refine ⟨_, rfl, r, sc, ns, _, rfl, (by decide), (by decide), d.1, d.2, fun j H7 j0 j1 R7 B7 => ?_⟩
    have d7 : Drw K H7 r sc ns := ⟨seq_but d.1 d.2 B7, R7⟩
    have S07 : SameBut r H H7 := but_of B7
    refine ⟨_, rfl, _, _, rfl, rfl, _, rfl, ?_⟩
    refine ite2 (fun hj => ?_) (fun hj => ?_)
    · have hj := of_decide_eq_true hj
      refine ⟨by show 4 ≤ sizeLine; decide, fun l nl => ?_⟩
      have S8 := same_upd (o := .lst (ctlWords.map V.str)) nl (Same.refl H7)
      have h8 : upd H7 l (.lst (ctlWords.map V.str)) l = some (.lst (ctlWords.map V.str)) := upd_same
      obtain ⟨m, rfl⟩ : ∃ m : Nat, j = (m : Nat) := ⟨j.toNat, by omega⟩
      have hm : m < ctlWords.length := by show m < 4; omega
      have hx : ctlWords[m]? = some ctlWords[m] := List.getElem?_eq_getElem hm
      obtain ⟨ds, hc⟩ := ctl_word ctlWords[m] (List.getElem_mem hm)
      refine ⟨_, rfl, l, _, _, .str ctlWords[m], rfl, rfl, SqL.of h8, atI_nat (by rw [List.getElem?_map, hx]; rfl), ?_⟩
      exact k _ (.str ctlWords[m]) ds _ (row_same R7 S8) (S07.trans (SameBut.of S8)) (.str _) hc
    · refine ⟨by show 10 ≤ sizeLine; decide, fun la na => ?_⟩
      have S8 := same_upd (o := .lst (actE.map dV)) na (Same.refl H7)
      have h8 : upd H7 la (.lst (actE.map dV)) la = some (.lst (actE.map dV)) := upd_same
      generalize hg : upd H7 la (.lst (actE.map dV)) = H8 at *
      have d8 := d7.same S8
      have lar : la ≠ r := fun e => by
        obtain ⟨i, z, c, _, h⟩ := d7.2
        rw [e, h] at na
        cases na
      refine ⟨4, rfl, by decide, by decide, fun D hD => ?_⟩
      rw [show upd H7 la (.lst [.str "ok", .str "bad", .str "die", .str "done", .str "ignore", .str "reset", .int 1, .int 2, .str "ok", .str "ignore"]) = H8 from hg] at hD ⊢
      have Dr : D ≠ r := fun e => by
        obtain ⟨i, z, c, _, h⟩ := d8.2
        rw [e, h] at hD
        cases hD
      have Dla : la ≠ D := fun e => by
        rw [← e, h8] at hD
        cases hD
      have farD := far_of d8.1 hD
      refine lc_it walk_range (fun i H' => Drw K H' r sc ns ∧ SameBut r H8 H' ∧ ∃ ds, H' D = some (.lst (ds.map dV)) ∧ ds.length = i ∧ ∀ d ∈ ds, d ∈ actD)
        ⟨?_, SameBut.of (same_upd hD (Same.refl H8)), [], upd_same, rfl, fun d hd => nomatch hd⟩ (fun _ _ _ _ => True.intro) ?_ ?_
      · refine ⟨far_upd farD d8.1, ?_⟩
        obtain ⟨i, z, c, i0, h⟩ := d8.2
        exact ⟨i, z, c, i0, by rw [upd_ne (Ne.symm Dr)]; exact h⟩
      · rintro i x H9 H10 hi ⟨d9, B9, ds, hD9, hlen, hall⟩ ⟨rfl, rfl⟩
        refine ⟨rfl, ?_⟩
        refine yes_of ?_
        refine ⟨_, rfl, _, rfl, r, sc, ns, _, rfl, (by decide), (by decide), d9.1, d9.2, fun j2 H11 j20 j21 R11 B11 => ?_⟩
        have d11 : Drw K H11 r sc ns := ⟨seq_but d9.1 d9.2 B11, R11⟩
        have e11 := B9.trans (but_of B11)
        obtain ⟨m, rfl⟩ : ∃ m : Nat, j2 = (m : Nat) := ⟨j2.toNat, by omega⟩
        have hm : m < actE.length := by show m < 10; omega
        have hx : actE[m]? = some actE[m] := List.getElem?_eq_getElem hm
        refine ⟨la, _, _, dV actE[m], rfl, rfl, SqL.of (e11 _ _ lar h8), atI_nat (by rw [List.getElem?_map, hx]; rfl), ?_⟩
        have hD11 : H11 D = some (.lst (ds.map dV)) := by rw [B11 _ Dr]; exact hD9
        refine ⟨_, hD11, ?_, ?_, ?_, ds ++ [actE[m]], ?_, ?_, ?_⟩
        · rw [List.length_map, hlen]
          have : i < 4 := hi
          omega
        · refine ⟨far_upd farD d11.1, ?_⟩
          obtain ⟨i, z, c, i0, h⟩ := d11.2
          exact ⟨i, z, c, i0, by rw [upd_ne (Ne.symm Dr)]; exact h⟩
        · exact fun b o hb h => by
            rw [upd_ne (ne_of_none h hD)]
            exact e11 b o hb h
        · rw [upd_same, List.map_append]
          rfl
        · rw [List.length_append, hlen]
          rfl
        · intro d hd
          rcases List.mem_append.mp hd with q | q
          · exact hall d q
          · rw [List.mem_singleton.mp q]
            exact actE_D _ (List.getElem_mem hm)
      · rintro H9 ⟨d9, B9, ds, hD9, hlen, hall⟩
        refine ⟨D, _, rfl, .inl ⟨SqL.of hD9, fun t nt => ?_⟩⟩
        have S10 := same_upd (o := .tup (ds.map dV)) nt (Same.refl H9)
        have h10 : upd H9 t (.tup (ds.map dV)) t = some (.tup (ds.map dV)) := upd_same
        generalize upd H9 t (.tup (ds.map dV)) = H10 at *
        have S0 : SameBut r H H10 := ((S07.trans (SameBut.of S8)).trans B9).trans (SameBut.of S10)
        have tr : t ≠ r := fun e => by
          obtain ⟨i, z, c, _, h⟩ := d9.2
          rw [e, h] at nt
          cases nt
        have nH : H t = none := by
          cases e : H t with
          | none => rfl
          | some o =>
            have := ((S07.trans (SameBut.of S8)).trans B9) t o tr e
            rw [nt] at this
            cases this
        exact k (.ref t) (.tuple ds) ds H10 (row_same d9.2 S10) S0 (.tup (SqT.of (fresh_at nH h10)) (acts_dp ds hall)) (.inl ⟨rfl, by rw [hlen]; rfl, hall⟩)
end
end LS
set_option maxHeartbeats 4000000
namespace LS
open PySem PySem.Spec PyProof.Rows L2
/-! a heap without one list -/
theorem less_upd {l : Addr} {H : Hp} {o : HO} : less l (upd H l o) = less l H := by
  funext b
  unfold less
  by_cases e : b = l
  · rw [if_pos e, if_pos e]
  · rw [if_neg e, if_neg e, upd_ne e]
theorem less_same {l : Addr} {H H' : Hp} (S : Same H H') : Same (less l H) (less l H') := fun b o h => by
  obtain ⟨h1, h2⟩ := less_of h
  exact less_at h1 (S b o h2)
theorem less_new {l : Addr} {H G : Hp} (hl : H l = none) (S : Same H G) : Same H (less l G) := fun b o h => less_at (ne_of_none h hl) (S b o h)
theorem lst_ne {H : Hp} {l a : Addr} {zs : List V} {o : HO} (hl : H l = some (.lst zs)) (q : H a = some o) (n : ∀ l, o ≠ .lst l) : a ≠ l := fun z => by
  rw [z, hl] at q
  exact n _ (Option.some.inj q).symm
theorem less_tup {K : PySem.W.Frag} {H : Hp} {l a : Addr} {zs xs : List V} (hl : H l = some (.lst zs)) (h : SqT K H a xs) : SqT K (less l H) a xs := by
  rcases h with (h | ⟨o, h⟩) | h
  · exact .inl (.inl (less_at (lst_ne hl h fun _ z => nomatch z) h))
  · exact .inl (.inr ⟨o, less_at (lst_ne hl h fun _ z => nomatch z) h⟩)
  · exact .inr h
mutual
theorem less_dp {K : PySem.W.Frag} {H : Hp} {l : Addr} {zs : List V} (hl : H l = some (.lst zs)) : ∀ (d : PyData) (v : V), noLs d = true → Dp K H v d → Dp K (less l H) v d
  | .none, _, _, h => by cases h; exact .non
  | .bool _, _, _, h => by cases h; exact .bl _
  | .int _, _, _, h => by cases h; exact .int _
  | .str _, _, _, h => by cases h; exact .str _
  | .list ds, _, n, h => nomatch n
  | .tuple ds, _, n, h => by
    cases h with
    | tup hs ha => exact .tup (less_tup hl hs) (less_dps hl ds _ n ha)
  | .dict _, _, n, h => nomatch n
theorem less_dps {K : PySem.W.Frag} {H : Hp} {l : Addr} {zs : List V} (hl : H l = some (.lst zs)) : ∀ (ds : List PyData) (vs : List V), noLss ds = true → DpAll K H vs ds → DpAll K (less l H) vs ds
  | [], _, _, h => by cases h; exact .nil
  | d :: ds, _, n, h => by
    cases h with
    | cons h1 h2 =>
      obtain ⟨n1, n2⟩ := Bool.and_eq_true_iff.mp (show (noLs d && noLss ds) = true from n)
      exact .cons (less_dp hl d _ n1 h1) (less_dps hl ds _ n2 h2)
end
theorem bar_less {H : Hp} {l a : Addr} {zs xs : List V} (hl : H l = some (.lst zs)) (h : BarT H a xs) : BarT (less l H) a xs := by
  obtain ⟨o, n, h⟩ := h
  exact ⟨o, n, less_at (lst_ne hl h fun _ z => nomatch z) h⟩
mutual
theorem ent_less {K : PySem.W.Frag} {CR CS : Addr} {H : Hp} {l : Addr} {zs : List V} (hl : H l = some (.lst zs)) : ∀ x : Ent, EntAt K CR CS H x → EntAt K CR CS (less l H) x
  | .rule p z ds, ⟨⟨dx, a, hp, hd⟩, h2⟩ => ⟨⟨dx, a, less_at (lst_ne hl hp fun _ z => nomatch z) hp, less_dp hl (.tuple ds) (.ref a) (okD_nl h2) hd⟩, h2⟩
  | .stk p es, ⟨⟨dx, q, rr, m, ms, h1, h2, h3, h4, h5⟩, h6⟩ => ⟨⟨dx, q, rr, m, ms, less_at (lst_ne hl h1 fun _ z => nomatch z) h1, less_tup hl h2, less_tup hl h3, bar_less hl h4, h5⟩, ents_less hl es h6⟩
theorem ents_less {K : PySem.W.Frag} {CR CS : Addr} {H : Hp} {l : Addr} {zs : List V} (hl : H l = some (.lst zs)) : ∀ es : List Ent, EntsAt K CR CS H es → EntsAt K CR CS (less l H) es
  | [], _ => True.intro
  | x :: es, ⟨h1, h2⟩ => ⟨ent_less hl x h1, ents_less hl es h2⟩
end
/-- what stands beside the row that draws -/
structure LSt (K : PySem.W.Frag) (HB : Hp) (r sc : Addr) (ns : List Int) (H : Hp) : Prop where
  d : Drw K H r sc ns
  S : Same HB (less r H)
theorem LSt.same {K : PySem.W.Frag} {HB H H' : Hp} {r sc : Addr} {ns : List Int} (h : LSt K HB r sc ns H) (S : Same H H') : LSt K HB r sc ns H' := ⟨h.d.same S, h.S.trans (less_same S)⟩
theorem LSt.le {K : PySem.W.Frag} {HB H : Hp} {r sc : Addr} {ns : List Int} (h : LSt K HB r sc ns H) : Same HB H := h.S.trans less_le
theorem LSt.but {K : PySem.W.Frag} {HB H H' : Hp} {r sc : Addr} {ns : List Int} (h : LSt K HB r sc ns H) (R : RowIs H' r sc) (B : ∀ q, q ≠ r → H' q = H q) : LSt K HB r sc ns H' := by
  refine ⟨⟨seq_but h.d.1 h.d.2 B, R⟩, fun b o e => ?_⟩
  obtain ⟨h1, h2⟩ := less_of (h.S b o e)
  exact less_at h1 ((B b h1).trans h2)
theorem LSt.upd {K : PySem.W.Frag} {HB H : Hp} {r sc D : Addr} {ns : List Int} {o : HO} (h : LSt K HB r sc ns H) (Dr : D ≠ r) (nD : HB D = none) (far : Far K D sc (ns.map V.int)) : LSt K HB r sc ns (L2.upd H D o) := by
  refine ⟨drw_upd h.d Dr far, fun b u e => ?_⟩
  obtain ⟨h1, h2⟩ := less_of (h.S b u e)
  exact less_at h1 (by rw [upd_ne (ne_of_none e nD)]; exact h2)
end LS
set_option maxHeartbeats 8000000
namespace LS
open PySem PySem.Spec PyProof.Rows L2 TxS
/-! the prelude of the later laws: a stack drawn -/
abbrev sLStack : Stmt := top i__law_stack
/-- a stack that was drawn: few entries, not too deep, drawn names and tables -/
structure DrawnS (zs : List Str) (d : Nat) (es : List Ent) : Prop where
  few : es.length ≤ 4
  deep : depthEs es + 1 ≤ d
  ok : ∀ q ∈ rulesEs es, q.2.1 ∈ zs ∧ OkT q.2.2
/-- all but two objects stand -/
def ButB (a b : Addr) (H H' : Hp) : Prop := ∀ c o, c ≠ a → c ≠ b → H c = some o → H' c = some o
theorem ButB.trans {a b : Addr} {H H1 H2 : Hp} (x : ButB a b H H1) (y : ButB a b H1 H2) : ButB a b H H2 := fun c o h1 h2 h => y c o h1 h2 (x c o h1 h2 h)
theorem ButB.of {a b : Addr} {H H1 : Hp} (x : Same H H1) : ButB a b H H1 := fun c o _ _ h => x c o h
theorem ButB.row {a b : Addr} {H H1 : Hp} (x : SameBut a H H1) : ButB a b H H1 := fun c o h1 _ h => x c o h1 h
theorem ent_butB {K : PySem.W.Frag} {CR CS : Addr} {H H' : Hp} {r sc lf : Addr} {xs : List V} (R : RowIs H r sc) (L : H lf = some (.lst xs)) (ne : lf ≠ r) (B : ButB r lf H H') (x : Ent) (h : EntAt K CR CS H x) : EntAt K CR CS H' x := by
  have R1 : RowIs (less lf H) r sc := by
    obtain ⟨i, s, b, h0, h1⟩ := R
    exact ⟨i, s, b, h0, less_at (Ne.symm ne) h1⟩
  have B1 : SameBut r (less lf H) (less lf H') := fun b o hb e => by
    obtain ⟨e1, e2⟩ := less_of e
    exact less_at e1 (B b o hb e1 e2)
  exact ent_same less_le x (ent_row R1 B1 x (ent_less L x h))
theorem depthEs_snoc : ∀ (es : List Ent) (e : Ent), depthEs (es ++ [e]) = max (depthEs es) (depthE e)
  | [], e => by
    show max (depthE e) 0 = max 0 (depthE e)
    omega
  | a :: es, e => by
    show max (depthE a) (depthEs (es ++ [e])) = max (max (depthE a) (depthEs es)) (depthE e)
    rw [depthEs_snoc es e]
    omega
def spLStack (K : PySem.W.Frag) (CR CS : Addr) (n : Nat) : Sp := fun vs H Q _ => ∃ (r sc nm lf : Addr) (ns : List Int) (zs : List Str) (c d : Nat), vs = [.ref r, .ref nm, .ref lf, .int ((d : Nat) : Int)] ∧ Drw K H r sc ns ∧ H nm = some (.lst (zs.map V.str)) ∧ zs ≠ [] ∧ zs.length ≤ 6 ∧ (∀ z ∈ zs, isWordS z = true) ∧
  H lf = some (.lst [.int ((c : Nat) : Int)]) ∧ Far K lf sc (ns.map V.int) ∧ c ≤ 12 ∧ 0 < d ∧ d ≤ 3 ∧ d ≤ n ∧
  ∀ (x : Addr) (es : List Ent) (c' : Nat) (H' : Hp), Drw K H' r sc ns → ButB r lf H H' → H' lf = some (.lst [.int ((c' : Nat) : Int)]) → (rulesEs es).length + c' ≤ c → EntAt K CR CS H' (.stk x es) → DrawnS zs d es → Q (.ref x) H'
section
variable {P : Program} {w : World} {K : PySem.W.Frag} {mg : Str → Option Value} {base : Heap} {CR CS CI CX : Addr}
abbrev psLS : List Str := ["_law_row", "_law_names_here", "_law_left", "_law_depth"]
theorem scLStack : FnScope n__law_stack psLS (defScope sLStack) := ⟨rfl, rfl, rfl, by decide +kernel, rfl, by decide +kernel, by decide +kernel⟩
/-- the loop's state behind i turns -/
structure LsS (K : PySem.W.Frag) (CR CS : Addr) (H : Hp) (r sc nm lf : Addr) (ns : List Int) (zs : List Str) (c d i : Nat) (x : Addr) (es : List Ent) (c1 : Nat) (H' : Hp) : Prop where
  dr : Drw K H' r sc ns
  B : ButB r lf H H'
  nm_ : H' nm = some (.lst (zs.map V.str))
  lf_ : H' lf = some (.lst [.int ((c1 : Nat) : Int)])
  cnt : (rulesEs es).length + c1 ≤ c
  en : EntAt K CR CS H' (.stk x es)
  few : es.length ≤ i
  dp : depthEs es + 1 ≤ d
  ok : ∀ q ∈ rulesEs es, q.2.1 ∈ zs ∧ OkT q.2.2
theorem row_four {H : Hp} {r sc lf : Addr} {v : V} (R : RowIs H r sc) (h : H lf = some (.lst [v])) : lf ≠ r := fun e => by
  obtain ⟨i, s, b, _, h2⟩ := R
  rw [e, h2] at h
  injection h with h
  injection h with h
  injection h with _ h
  cases h
theorem strs_int {H : Hp} {nm lf : Addr} {zs : List Str} {k : Int} (h : H nm = some (.lst (zs.map V.str))) (hz : zs ≠ []) (l : H lf = some (.lst [.int k])) : nm ≠ lf := fun e => by
  rw [e, l] at h
  cases zs with
  | nil => exact hz rfl
  | cons z zs =>
    have h : HO.lst [V.int k] = HO.lst (V.str z :: zs.map V.str) := Option.some.inj h
    cases h
theorem strs_row {H : Hp} {r sc q : Addr} {zs : List Str} (R : RowIs H r sc) (h : H q = some (.lst (zs.map V.str))) (hz : zs ≠ []) : q ≠ r := fun e => by
  obtain ⟨i, s, b, _, h2⟩ := R
  rw [e, h2] at h
  cases zs with
  | nil => exact hz rfl
  | cons z zs =>
    have h : HO.lst [V.ref sc, .int i, .int s, .int b] = HO.lst (V.str z :: zs.map V.str) := Option.some.inj h
    cases h
theorem LsS.go {H H2 H3 : Hp} {r sc nm lf : Addr} {ns : List Int} {zs : List Str} {c d i : Nat} {x : Addr} {es : List Ent} {c1 c2 : Nat} (h : LsS K CR CS H r sc nm lf ns zs c d i x es c1 H2) (hz : zs ≠ []) (D : Drw K H3 r sc ns) (B : ButB r lf H2 H3) (l : H3 lf = some (.lst [.int ((c2 : Nat) : Int)])) (hc : c2 ≤ c1) :
    LsS K CR CS H r sc nm lf ns zs c d i x es c2 H3 :=
  ⟨D, h.B.trans B, B _ _ (strs_row h.dr.2 h.nm_ hz) (strs_int h.nm_ hz h.lf_) h.nm_, l, by have := h.cnt; omega, ent_butB h.dr.2 h.lf_ (row_four h.dr.2 h.lf_) B _ h.en, h.few, h.dp, h.ok⟩
theorem ok_lstack {f : Addr} {fd : FuncData} (F : Fun K "_law_stack" "_law_stack" sLStack f fd) (g : mg "_law_stack" = some (.ref f)) (b : Binds K fd psLS []) (T : TkK P w K mg base) (Ct : DefK P w K mg base CX0 2 "_law_control" ["_law_row"] (spControl K)) (C : StkC P w K mg base CR CS CI CX) (D : AddK P w K mg base CR CS CI) (mR : mg "range" = none) (mL : mg "len" = none) :
    ∀ n : Nat, FnOk P w K mg base CX0 (n + 12) f fd psLS (spLStack K CR CS n) := by
  intro n
  induction n with
  | zero =>
    refine F.ok scLStack (fun vs H Q E h => ?_) (fun cdv A outer s H vs Q E hr h => ?_)
    · obtain ⟨r, sc, nm, lf, ns, zs, c, d, rfl, _⟩ := h
      rfl
    · obtain ⟨r, sc, nm, lf, ns, zs, c, d, rfl, _, _, _, _, _, _, _, _, h1, _, h2, _⟩ := h
      omega
  | succ n ih =>
    refine F.ok scLStack (fun vs H Q E h => ?_) (fun cdv A outer s H vs Q E hr h => ?_)
    · obtain ⟨r, sc, nm, lf, ns, zs, c, d, rfl, _⟩ := h
      rfl
    · obtain ⟨r, sc, nm, lf, ns, zs, c, d, rfl, dr, hnm, hz, hz6, hw, hlf, far, hc, hd0, hd3, hdn, k⟩ := h
      have hs2 := sizeLine_eq
      refine ⟨_, pss_cons (ps_set (i := 4) scLStack.nd rfl (.inl rfl) (StX.pe_makeR0 C.MS C.GI (hr.mono (by omega)) (by rfl) C.T.g passL))
        (pss_cons (ps_for PassesOwn.never rfl (pi_range1 (by rfl) mR (pa_cons (pe_call T.G (hr.mono (by omega)) (by rfl) T.g T.kp T.b .nil pass0 (pa_cons (pv 0) (pa_cons pe_int pa_nil))) pa_nil)) (pg_name (i := 5) scLStack.nd rfl (Or.inl rfl))
          (pss_one (ps_if (PW.pt (pw_and (pt_cmpR op_gt (pv 3) pe_int (nomark _)) (pw_and1 (pt_cmpR op_eq (pe_call T.G (hr.mono (by omega)) (by rfl) T.g T.kp T.b .nil pass0 (pa_cons (pv 0) (pa_cons pe_int pa_nil))) pe_int (nomark _)))))
            (pss_one (ps_set (i := 4) scLStack.nd rfl (.inl rfl) (pe_op (op_addI D.GA (hr.mono (by omega)) D.aA D.nA D.bA D.sf passL) (pv 4) (StX.pe_makeR C.MS C.GI (hr.mono (by omega)) (by rfl) C.T.g passL (pa_cons
              (pe_call ih hr (by rfl) g F.kp b .nil pass0 (pa_cons (pv 0) (pa_cons (pv 1) (pa_cons (pv 2) (pa_cons (pe_op op_sub (pv 3) pe_int) pa_nil))))) pa_nil)))))
            (pss_one (ps_if (pt_cmpR op_gt (pe_ix ix_list (pv 2) pe_int (fun _ _ => rfl)) pe_int (nomark _))
              (pss_cons (ps_asg (pe_op op_sub (pe_ix ix_list (pv 2) pe_int (fun _ _ => rfl)) pe_int) (pg_sub (pv 2) pe_int set_list))
              (pss_one (ps_set (i := 4) scLStack.nd rfl (.inl rfl) (pe_op (op_addI D.GA (hr.mono (by omega)) D.aA D.nA D.bA D.sf passL) (pv 4) (StX.pe_makeR C.MS C.GI (hr.mono (by omega)) (by rfl) C.T.g passL (pa_cons
                (pe_make C.MR C.GR (hr.mono (by omega)) (by rfl) C.T.R.g C.bR .nil passL (pa_cons (pe_ix ix_list (pv 1) (pe_call T.G (hr.mono (by omega)) (by rfl) T.g T.kp T.b .nil pass0 (pa_cons (pv 0) (pa_cons (pe_callB call_len_seq (by rfl) mL PySem.boot_len (pa_cons (pv 1) pa_nil)) pa_nil))) (fun _ _ => rfl))
                  (pa_cons (pe_call Ct.G (hr.mono (by omega)) (by rfl) Ct.g Ct.kp Ct.b .nil pass0 (pa_cons (pv 0) pa_nil)) pa_nil))) pa_nil))))))
              pss_nil)))))
        (pss_one (ps_ret (pv 4)))), ?_⟩
      intro x dx nx nd hne
      refine stack_at (es := []) True.intro (Nat.zero_le _) nx nd hne (fun i hi => nomatch hi) (fun _ H1 S1 en1 => ?_)
      have d1 := dr.same S1
      refine ⟨_, rfl, r, sc, ns, _, rfl, (by decide), (by decide), d1.1, d1.2, fun j H2 j0 j1 R2 B2 => ?_⟩
      have st1 : LsS K CR CS H r sc nm lf ns zs c d 0 x [] c H1 := ⟨d1, ButB.of S1, S1 _ _ hnm, S1 _ _ hlf, by show 0 + c ≤ c; omega, en1, Nat.le_refl 0, by show 0 + 1 ≤ d; omega, fun q hq => nomatch hq⟩
      have lfr := row_four dr.2 hlf
      have st2 := st1.go hz ⟨seq_but d1.1 d1.2 B2, R2⟩ (ButB.row (but_of B2)) (by rw [B2 _ lfr]; exact st1.lf_) (Nat.le_refl _)
      have j4 : j < 5 := j1
      refine ⟨j, rfl, by omega, by omega, ?_⟩
      refine for_it walk_range (fun i σ H' => ∃ (x : Addr) (es : List Ent) (c1 : Nat) (a5 : Option V), σ = [some (.ref r), some (.ref nm), some (.ref lf), some (.int ((d : Nat) : Int)), some (.ref x), a5] ∧ LsS K CR CS H r sc nm lf ns zs c d i x es c1 H') ⟨x, [], c, none, rfl, st2⟩ (fun _ _ _ _ _ => True.intro) ?_ ?_
      · rintro i v σ H3 H4 hi ⟨x1, es, c1, a5, rfl, st⟩ ⟨rfl, rfl⟩
        have hi' : i < j.toNat := hi
        have hi4 : i < 4 := by omega
        have fin : ∀ (e : Ent) (c2 : Nat) (H5 : Hp), LsS K CR CS H r sc nm lf ns zs c d i x1 es c2 H5 → EntAt K CR CS H5 e → (rulesEs es).length + (rulesE e).length + c2 ≤ c → depthE e + 1 ≤ d → (∀ q ∈ rulesE e, q.2.1 ∈ zs ∧ OkT q.2.2) → ∀ x dx : Addr, H5 x = none → H5 dx = none → dx ≠ x → ∀ a5 : Option V,
            initS K CR CS CI (V.ref x :: [refE e]) (upd (upd H5 dx (.own x)) x (.ins CS dx [])) (fun v H6 => v = .non ∧ rAddI CS (spSAdd K CR CS CI) E0 (.ref x1) (.ref x) H6 fun z H7 => ∃ (x : Addr) (es : List Ent) (c1 : Nat) (b5 : Option V), [some (V.ref r), some (.ref nm), some (.ref lf), some (.int ((d : Nat) : Int)), some z, a5] = [some (V.ref r), some (.ref nm), some (.ref lf), some (.int ((d : Nat) : Int)), some (.ref x), b5] ∧ LsS K CR CS H r sc nm lf ns zs c d (i + 1) x es c1 H7) E0 := fun e c2 H5 st5 ene hcn hde hok x dx nx nd hne a5 => by
          have r1 : rulesEs [e] = rulesE e := by
            show rulesE e ++ [] = _
            rw [List.append_nil]
          have cn := st5.cnt
          have dpe := st5.dp
          have fe := st5.few
          have fit1 : misfit [e] = none := fit_of (zs := zs) (by show 1 ≤ 12; decide) (by show max (depthE e) 0 ≤ 2; omega) (by rw [r1]; omega) hz6 (by rw [r1]; exact fun q hq => (hok q hq).1)
          refine stack_at (G := fun H6 => rAddI CS (spSAdd K CR CS CI) E0 (.ref x1) (.ref x) H6 fun z H7 => ∃ (x : Addr) (es : List Ent) (c1 : Nat) (b5 : Option V), [some (V.ref r), some (.ref nm), some (.ref lf), some (.int ((d : Nat) : Int)), some z, a5] = [some (V.ref r), some (.ref nm), some (.ref lf), some (.int ((d : Nat) : Int)), some (.ref x), b5] ∧ LsS K CR CS H r sc nm lf ns zs c d (i + 1) x es c1 H7) (es := [e]) ⟨ene, True.intro⟩ (by show 1 ≤ 1000; decide) nx nd hne (fun j hj => by rw [fit1] at hj; cases hj) (fun _ H6 S6 en6 => ?_)
          have en2' := ent_same S6 _ st5.en
          obtain ⟨dx1, fs1, hx1⟩ := stk_ins en2'
          obtain ⟨dx4, fs4, hx4⟩ := stk_ins en6
          have r2 : rulesEs (es ++ [e]) = rulesEs es ++ rulesE e := by rw [rulesEs_append, r1]
          have dp2 : depthEs (es ++ [e]) = max (depthEs es) (depthE e) := depthEs_snoc es e
          have ok2 : ∀ q ∈ rulesEs (es ++ [e]), q.2.1 ∈ zs ∧ OkT q.2.2 := fun q hq => by
            rw [r2] at hq
            exact (List.mem_append.mp hq).elim (st5.ok q) (hok q)
          have fit2 : misfit (es ++ [e]) = none := fit_of (zs := zs) (by rw [List.length_append]; show es.length + 1 ≤ 12; omega) (by rw [dp2]; omega) (by rw [r2, List.length_append]; omega) hz6 (fun q hq => (ok2 q hq).1)
          exact ⟨x1, x, dx1, dx4, fs1, fs4, rfl, rfl, hx1, hx4, x1, x, es, [e], rfl, en2', en6, (fun j hj => by rw [fit2] at hj; cases hj), fun _ x5 H7 S7 en7 => ⟨x5, _, c2, _, rfl, (st5.dr.same S6).same S7, (st5.B.trans (ButB.of S6)).trans (ButB.of S7), S7 _ _ (S6 _ _ st5.nm_), S7 _ _ (S6 _ _ st5.lf_), by rw [r2, List.length_append]; exact hcn, en7, by rw [List.length_append]; show es.length + 1 ≤ i + 1; omega, by rw [dp2]; omega, ok2⟩⟩
        refine ⟨_, rfl, _, _, rfl, rfl, _, rfl, ?_⟩
        refine ite2 (fun hdeep => ?_) (fun _ => ?_)
        · have hdeep' : (1 : Int) < (d : Nat) := of_decide_eq_true hdeep
          refine ⟨_, rfl, r, sc, ns, _, rfl, (by decide), (by decide), st.dr.1, st.dr.2, fun j2 H5 j20 j21 R5 B5 => ?_⟩
          have st5 := st.go hz ⟨seq_but st.dr.1 st.dr.2 B5, R5⟩ (ButB.row (but_of B5)) (by rw [B5 _ lfr]; exact st.lf_) (Nat.le_refl _)
          refine ⟨rfl, _, rfl, ?_⟩
          refine ite2 (fun _ => ?_) (fun _ => ?_)
          · -- a stack within
            refine ⟨_, rfl, _, rfl, _, rfl, _, rfl, _, rfl, _, _, rfl, rfl, r, sc, nm, lf, ns, zs, c1, d - 1, ?_, st5.dr, st5.nm_, hz, hz6, hw, st5.lf_, far, by have := st5.cnt; omega, by omega, by omega, by omega, fun x3 es3 c3 H6 D6 B6 l6 cnt6 en6 dn6 => ?_⟩
            · show [V.ref r, .ref nm, .ref lf, .int (((d : Nat) : Int) - 1)] = _
              rw [show ((d : Nat) : Int) - 1 = ((d - 1 : Nat) : Int) by omega]
            · have cn := st5.cnt
              have dn := dn6.deep
              exact fun x dx nx nd hne => fin (.stk x3 es3) c3 H6 (st5.go hz D6 B6 l6 (by omega)) en6 (by show (rulesEs es).length + (rulesEs es3).length + c3 ≤ c; omega) (by show 1 + depthEs es3 + 1 ≤ d; omega) dn6.ok x dx nx nd hne _
          · -- a rule
            refine ⟨_, rfl, lf, _, _, _, rfl, rfl, SqL.of st5.lf_, rfl, _, _, rfl, rfl, _, rfl, ?_⟩
            refine ite2 (fun hleft => ?_) (fun _ => ?_)
            · have hleft' : (0 : Int) < ((c1 : Nat) : Int) := of_decide_eq_true hleft
              refine ⟨_, rfl, lf, _, _, _, rfl, rfl, SqL.of st5.lf_, rfl, _, _, rfl, rfl, _, rfl, lf, _, _, 0, rfl, rfl, st5.lf_, rfl, ?_⟩
              have l6 : upd H5 lf (.lst [.int (((c1 : Nat) : Int) - 1)]) lf = some (.lst [.int ((c1 - 1 : Nat) : Int)]) := by
                rw [upd_same, show ((c1 : Nat) : Int) - 1 = ((c1 - 1 : Nat) : Int) by omega]
              have B6 : ButB r lf H5 (upd H5 lf (.lst [.int (((c1 : Nat) : Int) - 1)])) := fun b o _ hb h => by rw [upd_ne hb]; exact h
              have st6 := st5.go hz (drw_upd st5.dr lfr far) B6 l6 (by omega)
              show tSeq _ _ _ _ (upd H5 lf (.lst [.int (((c1 : Nat) : Int) - 1)]))
              generalize upd H5 lf (.lst [.int (((c1 : Nat) : Int) - 1)]) = H6 at *
              refine ⟨_, rfl, _, rfl, _, rfl, _, rfl, nm, _, rfl, .inl (SqL.of st6.nm_), r, sc, ns, _, rfl, ?_, ?_, st6.dr.1, st6.dr.2, fun j3 H7 j30 j31 R7 B7 => ?_⟩
              · rw [List.length_map]
                have := List.length_pos_iff.mpr hz
                omega
              · rw [List.length_map]
                omega
              have st7 := st6.go hz ⟨seq_but st6.dr.1 st6.dr.2 B7, R7⟩ (ButB.row (but_of B7)) (by rw [B7 _ lfr]; exact st6.lf_) (Nat.le_refl _)
              obtain ⟨z0, ha, hm⟩ := at_in (xs := zs.map V.str) j30 j31
              obtain ⟨z, hzm, rfl⟩ := List.mem_map.mp hm
              refine ⟨nm, _, _, _, rfl, rfl, SqL.of st7.nm_, ha, ?_⟩
              refine ⟨_, rfl, r, sc, ns, rfl, st7.dr, fun v dc ds H8 R8 B8 hdp hctl => ?_⟩
              have st8 := st7.go hz ⟨seq_row st7.dr.1 st7.dr.2 B8, R8⟩ (ButB.row B8) (B8 _ _ lfr st7.lf_) (Nat.le_refl _)
              have hdp8 := same_dp fresh_le _ _ hdp
              intro xr dxr nxr ndr hner
              have wz := hw z hzm
              have lz : z.length ≤ 1000 := by
                unfold isWordS at wz
                simp only [Bool.and_eq_true, decide_eq_true_eq] at wz
                omega
              have oT : OkT ds := by
                rcases hctl with ⟨_, q⟩ | ⟨_, _, _, _, q⟩
                · exact q
                · exact q
              have hC : Ctl dc := by
                rcases hctl with ⟨q, q2⟩ | ⟨y, _, q, _, _⟩
                · rw [q]
                  exact okT_ctl q2
                · rw [q]
                  exact ⟨True.intro, fun es e => nomatch e⟩
              have hA : actsOf dc = some ds := by
                rcases hctl with ⟨q, q2⟩ | ⟨_, _, _, q, _⟩
                · rw [q]
                  exact okT_acts q2
                · exact q
              refine rule_run (dc := dc) wz lz hdp8 hC hA nxr ndr hner (fun H9 S9 R9 => ?_)
              have st9 := st8.go hz (st8.dr.same S9) (ButB.of S9) (S9 _ _ st8.lf_) (Nat.le_refl _)
              have cn := st5.cnt
              exact fun x dx nx nd hne => fin (.rule xr z ds) _ H9 st9 ⟨R9, okT_okD oT⟩ (by show (rulesEs es).length + 1 + (c1 - 1) ≤ c; omega) (by show 0 + 1 ≤ d; omega) (fun q hq => by rw [List.mem_singleton.mp hq]; exact ⟨hzm, oT⟩) x dx nx nd hne _
            · exact ⟨x1, es, c1, _, rfl, st5.dr, st5.B, st5.nm_, st5.lf_, st5.cnt, st5.en, Nat.le_succ_of_le st5.few, st5.dp, st5.ok⟩
        · -- a rule
          refine ⟨_, rfl, lf, _, _, _, rfl, rfl, SqL.of st.lf_, rfl, _, _, rfl, rfl, _, rfl, ?_⟩
          refine ite2 (fun hleft => ?_) (fun _ => ?_)
          · have hleft' : (0 : Int) < ((c1 : Nat) : Int) := of_decide_eq_true hleft
            refine ⟨_, rfl, lf, _, _, _, rfl, rfl, SqL.of st.lf_, rfl, _, _, rfl, rfl, _, rfl, lf, _, _, 0, rfl, rfl, st.lf_, rfl, ?_⟩
            have l6 : upd H4 lf (.lst [.int (((c1 : Nat) : Int) - 1)]) lf = some (.lst [.int ((c1 - 1 : Nat) : Int)]) := by
              rw [upd_same, show ((c1 : Nat) : Int) - 1 = ((c1 - 1 : Nat) : Int) by omega]
            have B6 : ButB r lf H4 (upd H4 lf (.lst [.int (((c1 : Nat) : Int) - 1)])) := fun b o _ hb h => by rw [upd_ne hb]; exact h
            have st6 := st.go hz (drw_upd st.dr lfr far) B6 l6 (by omega)
            show tSeq _ _ _ _ (upd H4 lf (.lst [.int (((c1 : Nat) : Int) - 1)]))
            generalize upd H4 lf (.lst [.int (((c1 : Nat) : Int) - 1)]) = H6 at *
            refine ⟨_, rfl, _, rfl, _, rfl, _, rfl, nm, _, rfl, .inl (SqL.of st6.nm_), r, sc, ns, _, rfl, ?_, ?_, st6.dr.1, st6.dr.2, fun j3 H7 j30 j31 R7 B7 => ?_⟩
            · rw [List.length_map]
              have := List.length_pos_iff.mpr hz
              omega
            · rw [List.length_map]
              omega
            have st7 := st6.go hz ⟨seq_but st6.dr.1 st6.dr.2 B7, R7⟩ (ButB.row (but_of B7)) (by rw [B7 _ lfr]; exact st6.lf_) (Nat.le_refl _)
            obtain ⟨z0, ha, hm⟩ := at_in (xs := zs.map V.str) j30 j31
            obtain ⟨z, hzm, rfl⟩ := List.mem_map.mp hm
            refine ⟨nm, _, _, _, rfl, rfl, SqL.of st7.nm_, ha, ?_⟩
            refine ⟨_, rfl, r, sc, ns, rfl, st7.dr, fun v dc ds H8 R8 B8 hdp hctl => ?_⟩
            have st8 := st7.go hz ⟨seq_row st7.dr.1 st7.dr.2 B8, R8⟩ (ButB.row B8) (B8 _ _ lfr st7.lf_) (Nat.le_refl _)
            have hdp8 := same_dp fresh_le _ _ hdp
            intro xr dxr nxr ndr hner
            have wz := hw z hzm
            have lz : z.length ≤ 1000 := by
              unfold isWordS at wz
              simp only [Bool.and_eq_true, decide_eq_true_eq] at wz
              omega
            have oT : OkT ds := by
              rcases hctl with ⟨_, q⟩ | ⟨_, _, _, _, q⟩
              · exact q
              · exact q
            have hC : Ctl dc := by
              rcases hctl with ⟨q, q2⟩ | ⟨y, _, q, _, _⟩
              · rw [q]
                exact okT_ctl q2
              · rw [q]
                exact ⟨True.intro, fun es e => nomatch e⟩
            have hA : actsOf dc = some ds := by
              rcases hctl with ⟨q, q2⟩ | ⟨_, _, _, q, _⟩
              · rw [q]
                exact okT_acts q2
              · exact q
            refine rule_run (dc := dc) wz lz hdp8 hC hA nxr ndr hner (fun H9 S9 R9 => ?_)
            have st9 := st8.go hz (st8.dr.same S9) (ButB.of S9) (S9 _ _ st8.lf_) (Nat.le_refl _)
            have cn := st.cnt
            exact fun x dx nx nd hne => fin (.rule xr z ds) _ H9 st9 ⟨R9, okT_okD oT⟩ (by show (rulesEs es).length + 1 + (c1 - 1) ≤ c; omega) (by show 0 + 1 ≤ d; omega) (fun q hq => by rw [List.mem_singleton.mp hq]; exact ⟨hzm, oT⟩) x dx nx nd hne _
          · exact ⟨x1, es, c1, _, rfl, st.dr, st.B, st.nm_, st.lf_, st.cnt, st.en, Nat.le_succ_of_le st.few, st.dp, st.ok⟩
      · rintro σ H3 ⟨x1, es, c1, a5, rfl, st⟩
        have fe := st.few
        exact ⟨_, rfl, k x1 es c1 H3 st.dr st.B st.lf_ st.cnt st.en ⟨by omega, st.dp, st.ok⟩⟩
end
end LS
namespace LS
open PySem PySem.Spec PyProof.Rows L2
/-! the prelude of the later laws: some module names, ascending -/
abbrev sNames : Stmt := top i__law_names
def names5 : List Str := ["card", "key", "lan", "pin", "sms"]
theorem names5_word : ∀ z ∈ names5, isWordS z = true := by decide +kernel
def spNamesS (K : PySem.W.Frag) : Sp := fun vs H Q _ => ∃ (r sc : Addr) (ns : List Int) (m : Nat), vs = [.ref r, .int ((m : Nat) : Int)] ∧ 1 ≤ m ∧ m ≤ 4 ∧ Drw K H r sc ns ∧
  ∀ (l : Addr) (zs : List Str) (H' : Hp), H l = none → H' l = some (.lst (zs.map V.str)) → zs ≠ [] → zs.length ≤ m → zs.Nodup → (∀ z ∈ zs, z ∈ names5) → Drw K H' r sc ns → SameBut r H H' → Q (.ref l) H'
section
variable {P : Program} {w : World} {K : PySem.W.Frag} {mg : Str → Option Value} {base : Heap}
theorem scNamesS : FnScope n__law_names ["_law_row", "_law_most"] (defScope sNames) := ⟨rfl, rfl, rfl, by decide +kernel, rfl, by decide +kernel, by decide +kernel⟩
theorem ok_namesS {f : Addr} {fd : FuncData} (F : Fun K "_law_names" "_law_names" sNames f fd) (T : TkK P w K mg base) : FnOk P w K mg base CX0 2 f fd ["_law_row", "_law_most"] (spNamesS K) := by
  refine F.ok scNamesS (fun vs H Q E h => ?_) (fun cdv A outer s H vs Q E hr h => ?_)
  · obtain ⟨r, sc, ns, m, rfl, _⟩ := h
    rfl
  · obtain ⟨r, sc, ns, m, rfl, m1, m4, d, k⟩ := h
    refine ⟨_, pss_cons (ps_set (i := 2) scNamesS.nd rfl (.inl rfl) (pe_lst (pa_cons pe_str (pa_cons pe_str (pa_cons pe_str (pa_cons pe_str (pa_cons pe_str pa_nil)))))))
      (pss_cons (ps_set (i := 3) scNamesS.nd rfl (.inl rfl) (pe_call T.G hr (by rfl) T.g T.kp T.b .nil pass0 (pa_cons (pv 0) (pa_cons pe_int pa_nil))))
      (pss_one (ps_ret (pe_slice sl_list (pv 2) (po_some (pv 3)) (po_some (pe_op op_add (pe_op op_add (pv 3) pe_int) (pe_call T.G hr (by rfl) T.g T.kp T.b .nil pass0 (pa_cons (pv 0) (pa_cons (pv 1) pa_nil))))))))), ?_⟩
    refine ⟨by show 5 ≤ sizeLine; decide, fun ls n1 => ?_⟩
    have S1 := same_upd (o := .lst [.str "card", .str "key", .str "lan", .str "pin", .str "sms"]) n1 (Same.refl H)
    have h1 : upd H ls (.lst [.str "card", .str "key", .str "lan", .str "pin", .str "sms"]) ls = some (.lst (names5.map V.str)) := upd_same
    have d1 := drw_new (o := .lst [.str "card", .str "key", .str "lan", .str "pin", .str "sms"]) d n1
    have lsr := drw_ne d n1
    generalize upd H ls (.lst [.str "card", .str "key", .str "lan", .str "pin", .str "sms"]) = H1 at *
    refine ⟨_, rfl, r, sc, ns, _, rfl, (by decide), (by decide), d1.1, d1.2, fun j H2 j0 j1 R2 B2 => ?_⟩
    have d2 : Drw K H2 r sc ns := ⟨seq_but d1.1 d1.2 B2, R2⟩
    refine ⟨_, rfl, _, rfl, _, rfl, _, rfl, _, _, rfl, rfl, _, rfl, _, rfl, r, sc, ns, _, rfl, (by show (0 : Int) < (m : Nat); omega), (by show ((m : Nat) : Int) < 9223372036854775808; omega), d2.1, d2.2, fun i H3 i0 i1 R3 B3 => ?_⟩
    have d3 : Drw K H3 r sc ns := ⟨seq_but d2.1 d2.2 B3, R3⟩
    have h3 : H3 ls = some (.lst (names5.map V.str)) := by rw [B3 _ lsr, B2 _ lsr]; exact h1
    refine ⟨_, _, rfl, rfl, _, rfl, ls, _, rfl, SqL.of h3, fun p np => ?_⟩
    have S4 := same_upd (o := .lst (cutV (names5.map V.str) (some j) (some (j + 1 + i)))) np (Same.refl H3)
    have B0 : SameBut r H (upd H3 p (.lst (cutV (names5.map V.str) (some j) (some (j + 1 + i))))) := ((((SameBut.of S1).trans (but_of B2)).trans (but_of B3)).trans (SameBut.of S4))
    have nH : H p = none := by
      cases e : H p with
      | none => rfl
      | some o =>
        have pr : p ≠ r := fun z => by
          obtain ⟨_, _, _, _, hr⟩ := R3
          rw [z, hr] at np
          cases np
        have := (((SameBut.of S1).trans (but_of B2)).trans (but_of B3)) p o pr e
        rw [np] at this
        cases this
    have fin : ∀ zs : List Str, cutV (names5.map V.str) (some j) (some (j + 1 + i)) = zs.map V.str → zs ≠ [] → zs.length ≤ m → zs.Nodup → (∀ z ∈ zs, z ∈ names5) → Q (.ref p) (upd H3 p (.lst (cutV (names5.map V.str) (some j) (some (j + 1 + i))))) := fun zs e a b c e2 => k p zs _ nH (by rw [upd_same, e]) a b c e2 (d3.same S4) B0
    have j2 : j < 2 := j1
    have i2 : i < (m : Int) := i1
    have hj : j = 0 ∨ j = 1 := by omega
    have hi : i = 0 ∨ i = 1 ∨ i = 2 ∨ i = 3 := by omega
    rcases hj with rfl | rfl <;> rcases hi with rfl | rfl | rfl | rfl
    · exact fin ["card"] rfl (by decide) (by show 1 ≤ m; omega) (by decide +kernel) (by decide +kernel)
    · exact fin ["card", "key"] rfl (by decide) (by show 2 ≤ m; omega) (by decide +kernel) (by decide +kernel)
    · exact fin ["card", "key", "lan"] rfl (by decide) (by show 3 ≤ m; omega) (by decide +kernel) (by decide +kernel)
    · exact fin ["card", "key", "lan", "pin"] rfl (by decide) (by show 4 ≤ m; omega) (by decide +kernel) (by decide +kernel)
    · exact fin ["key"] rfl (by decide) (by show 1 ≤ m; omega) (by decide +kernel) (by decide +kernel)
    · exact fin ["key", "lan"] rfl (by decide) (by show 2 ≤ m; omega) (by decide +kernel) (by decide +kernel)
    · exact fin ["key", "lan", "pin"] rfl (by decide) (by show 3 ≤ m; omega) (by decide +kernel) (by decide +kernel)
    · exact fin ["key", "lan", "pin", "sms"] rfl (by decide) (by show 4 ≤ m; omega) (by decide +kernel) (by decide +kernel)
end
end LS
namespace LS
open PySem PySem.Spec PyProof.Rows L2 TxS
/-! the modules of a drawn stack, with a rule of another name -/
def subsG {α : Type} : List α → List (List α)
  | [] => [[]]
  | z :: l => subsG l ++ (subsG l).map fun r => z :: r
theorem filter_subsG {α : Type} (p : α → Bool) : ∀ l : List α, l.filter p ∈ subsG l
  | [] => List.mem_singleton.mpr rfl
  | z :: l => by
    rw [List.filter_cons]
    split
    · exact List.mem_append_right _ (List.mem_map.mpr ⟨_, filter_subsG p l, rfl⟩)
    · exact List.mem_append_left _ (filter_subsG p l)
abbrev zzS : Str := "zz"
abbrev aaS : Str := "aa"
theorem sub_sorted5 : ∀ l ∈ subsG names5, PyProof.Rows.sortedS l = true ∧ PyProof.Rows.sortedS (l ++ [zzS]) = true ∧ PyProof.Rows.sortedS (aaS :: l) = true := by decide +kernel
theorem names5_nodup : names5.Nodup := by decide +kernel
theorem mods_in5 {ms : List Str} (hn : ms.Nodup) (hs : PyProof.Rows.sortedS ms = true) (h5 : ∀ z ∈ ms, z ∈ names5) : ms ∈ subsG names5 := by
  have m := filter_subsG (fun z => decide (z ∈ ms)) names5
  have e : ms = names5.filter fun z => decide (z ∈ ms) := sortedS_same hn (names5_nodup.sublist List.filter_sublist) (fun x => by
    rw [List.mem_filter]
    exact ⟨fun h => ⟨h5 x h, decide_eq_true h⟩, fun h => of_decide_eq_true h.2⟩) hs (sub_sorted5 _ m).1
  rw [e]
  exact m
theorem no_zz : zzS ∉ names5 := by decide +kernel
theorem no_aa : aaS ∉ names5 := by decide +kernel
theorem ign_okT : OkT ignD := by
  refine ⟨rfl, fun d hd => ?_⟩
  simp only [ignD, List.mem_cons, List.not_mem_nil, or_false] at hd
  rcases hd with rfl | rfl | rfl | rfl <;> simp [actD]
theorem okT_four {ds : List PyData} (h : OkT ds) : ds.length = 4 ∧ ∀ d ∈ ds, isAction d = true :=
  ⟨h.1, fun d hd => (show ∀ d ∈ actD, isAction d = true by decide +kernel) d (h.2 d hd)⟩
/-- a drawn stack and its modules -/
structure DrawnAt (K : PySem.W.Frag) (CR CS : Addr) (H : Hp) (x : Addr) (es : List Ent) (ms : List Str) : Prop where
  m : ModAt K CR CS H x es ms
  ok : ∀ q ∈ rulesEs es, q.2.1 ∈ names5 ∧ OkT q.2.2
  few : ms.length ≤ 5
  ents : es.length ≤ 4
  deep : depthEs es ≤ 2
theorem DrawnAt.same {K : PySem.W.Frag} {CR CS : Addr} {H H' : Hp} {x : Addr} {es : List Ent} {ms : List Str} (h : DrawnAt K CR CS H x es ms) (S : Same H H') : DrawnAt K CR CS H' x es ms := ⟨h.m.same S, h.ok, h.few, h.ents, h.deep⟩
theorem DrawnAt.to {K : PySem.W.Frag} {CR CS : Addr} {H H' : Hp} {x : Addr} {es : List Ent} {ms : List Str} (h : DrawnAt K CR CS H x es ms) (he : EntAt K CR CS H' (.stk x es)) : DrawnAt K CR CS H' x es ms := ⟨⟨he, h.m.four, h.m.mods, h.m.few⟩, h.ok, h.few, h.ents, h.deep⟩
theorem drawn_at {K : PySem.W.Frag} {CR CS : Addr} {H : Hp} {x : Addr} {es : List Ent} {zs : List Str} (he : EntAt K CR CS H (.stk x es)) (h : DrawnS zs 3 es) (h5 : ∀ z ∈ zs, z ∈ names5) : ∃ ms, DrawnAt K CR CS H x es ms := by
  obtain ⟨⟨dx, e, r, m, ms, h1, h2, h3, h4, hm, leg⟩, h6⟩ := id he
  have ok : ∀ q ∈ rulesEs es, q.2.1 ∈ names5 ∧ OkT q.2.2 := fun q hq => ⟨h5 _ (h.ok q hq).1, (h.ok q hq).2⟩
  have sub : ∀ y ∈ ms, y ∈ names5 := fun y hy => by
    obtain ⟨q, hq, rfl⟩ := List.mem_map.mp ((hm.2.2 y).mp hy)
    exact (ok q hq).1
  have l5 : ms.length ≤ 5 := nodup_le names5 ms hm.1 sub
  have dp := h.deep
  exact ⟨ms, ⟨he, fun q hq => okT_four (ok q hq).2, hm, by omega⟩, ok, l5, h.few, by omega⟩
theorem DrawnAt.sub {K : PySem.W.Frag} {CR CS : Addr} {H : Hp} {x : Addr} {es : List Ent} {ms : List Str} (h : DrawnAt K CR CS H x es ms) : ∀ y ∈ ms, y ∈ names5 := fun y hy => by
  obtain ⟨q, hq, rfl⟩ := List.mem_map.mp ((h.m.mods.2.2 y).mp hy)
  exact (h.ok q hq).1
theorem DrawnAt.names {K : PySem.W.Frag} {CR CS : Addr} {H : Hp} {x : Addr} {es : List Ent} {ms : List Str} (h : DrawnAt K CR CS H x es ms) : ∀ q ∈ rulesPs (plEs es), q.1 ∈ ms := fun q hq => by
  rw [plEs_rules] at hq
  obtain ⟨y, hy, rfl⟩ := List.mem_map.mp hq
  exact (h.m.mods.2.2 _).mpr (List.mem_map.mpr ⟨y, hy, rfl⟩)
theorem plEs_cnt (es : List Ent) : (rulesPs (plEs es)).length = (rulesEs es).length := by rw [plEs_rules, List.length_map]
/-- with a rule of zz at the end -/
theorem DrawnAt.end_ {K : PySem.W.Frag} {CR CS : Addr} {H H' : Hp} {x y p : Addr} {es : List Ent} {ms : List Str} (h : DrawnAt K CR CS H x es ms) (he : EntAt K CR CS H' (.stk y (es ++ [.rule p zzS ignD]))) : ModAt K CR CS H' y (es ++ [.rule p zzS ignD]) (ms ++ [zzS]) ∧ plEs (es ++ [.rule p zzS ignD]) = plEs es ++ [.rule zzS ignD] ∧ zzS ∉ ms := by
  have nz : zzS ∉ ms := fun q => no_zz (h.sub _ q)
  have r1 : rulesEs (es ++ [.rule p zzS ignD]) = rulesEs es ++ [((p, zzS, ignD) : RuleI)] := rulesEs_append _ _
  refine ⟨⟨he, fun q hq => ?_, ⟨?_, ?_, fun z => ?_⟩, ?_⟩, by rw [plEs_append]; rfl, nz⟩
  · rw [r1] at hq
    rcases List.mem_append.mp hq with w | w
    · exact h.m.four q w
    · rw [List.mem_singleton.mp w]
      exact okT_four ign_okT
  · exact List.nodup_append.mpr ⟨h.m.mods.1, by simp, fun a ha b hb e => nz (by rw [List.mem_singleton.mp hb] at e; rw [← e]; exact ha)⟩
  · exact (sub_sorted5 _ (mods_in5 h.m.mods.1 h.m.mods.2.1 h.sub)).2.1
  · rw [r1, List.map_append, List.mem_append, List.mem_append, h.m.mods.2.2 z]
    exact Iff.rfl
  · rw [List.length_append]
    have := h.few
    show ms.length + 1 ≤ 6
    omega
/-- with a rule of aa ahead -/
theorem DrawnAt.head_ {K : PySem.W.Frag} {CR CS : Addr} {H H' : Hp} {x y p : Addr} {es : List Ent} {ms : List Str} (h : DrawnAt K CR CS H x es ms) (he : EntAt K CR CS H' (.stk y (.rule p aaS ignD :: es))) : ModAt K CR CS H' y (.rule p aaS ignD :: es) (aaS :: ms) ∧ aaS ∉ ms := by
  have nz : aaS ∉ ms := fun q => no_aa (h.sub _ q)
  have r1 : rulesEs (.rule p aaS ignD :: es) = ((p, aaS, ignD) : RuleI) :: rulesEs es := rfl
  refine ⟨⟨he, fun q hq => ?_, ⟨?_, ?_, fun z => ?_⟩, ?_⟩, nz⟩
  · rw [r1] at hq
    rcases List.mem_cons.mp hq with w | w
    · rw [w]
      exact okT_four ign_okT
    · exact h.m.four q w
  · exact List.nodup_cons.mpr ⟨nz, h.m.mods.1⟩
  · exact (sub_sorted5 _ (mods_in5 h.m.mods.1 h.m.mods.2.1 h.sub)).2.2
  · rw [r1, List.map_cons, List.mem_cons, List.mem_cons, h.m.mods.2.2 z]
  · have := h.few
    show ms.length + 1 ≤ 6
    omega
/-! data -/
theorem ints_dpN {K : PySem.W.Frag} {H : Hp} : ∀ ns : List Int, DpAll K H (ns.map V.int) (ns.map PyData.int)
  | [] => .nil
  | n :: ns => .cons (.int n) (ints_dpN ns)
def tupD (ns : List Int) : PyData := .tuple (ns.map PyData.int)
def pairD (r : Int) (ns : List Int) : PyData := .tuple [.int r, tupD ns]
theorem ints_lay : ∀ ns : List Int, PyData.canLayAll0 (ns.map PyData.int) = true ∧ PyData.depthAll (ns.map PyData.int) ≤ 1
  | [] => ⟨by simp [PyData.canLayAll0], by simp [PyData.depthAll]⟩
  | n :: ns => by
    obtain ⟨h1, h2⟩ := ints_lay ns
    refine ⟨by simp [PyData.canLayAll0, PyData.canLay0, h1], ?_⟩
    simp [PyData.depthAll, PyData.depth]
    omega
theorem list_sh (ns : List Int) : SeqAt.shaped (.list (ns.map PyData.int)) = true := by
  obtain ⟨h1, h2⟩ := ints_lay ns
  show (PyData.canLay0 (.list (ns.map PyData.int)) && decide (PyData.depth (.list (ns.map PyData.int)) ≤ 64)) = true
  rw [Bool.and_eq_true]
  refine ⟨by simp only [PyData.canLay0]; exact h1, decide_eq_true ?_⟩
  simp only [PyData.depth]
  omega
theorem pair_sh (r : Int) (ns : List Int) : SeqAt.shaped (pairD r ns) = true := by
  obtain ⟨h1, h2⟩ := ints_lay ns
  show (PyData.canLay0 (pairD r ns) && decide (PyData.depth (pairD r ns) ≤ 64)) = true
  rw [Bool.and_eq_true]
  refine ⟨by simp only [pairD, tupD, PyData.canLay0, PyData.canLayAll0, h1, Bool.and_self], decide_eq_true ?_⟩
  simp only [pairD, tupD, PyData.depth, PyData.depthAll]
  omega
theorem eqv_self {d : PyData} (h : SeqAt.shaped d = true) : PyData.eqv d d = true := SeqAt.eqv_refl _ (SeqAt.canLay_of_shaped h)
end LS
namespace LS
open PySem PySem.Spec PyProof.Rows L2
/-! the best of all orders; counts of a cover -/
theorem ord_in {ms : List Int} : ∀ (k : Nat) (o : List Int), o.length = k → o.Nodup → (∀ z ∈ o, z ∈ ms) → o ∈ ordN ms k
  | 0, o, h, _, _ => by
    rw [List.length_eq_zero_iff.mp h]
    exact List.mem_singleton.mpr rfl
  | k + 1, o, h, hn, hs => by
    have hne : o ≠ [] := fun e => by rw [e] at h; cases h
    have e := (List.dropLast_concat_getLast hne).symm
    have ih := ord_in k o.dropLast (by rw [List.length_dropLast, h]; rfl) (hn.sublist (List.dropLast_sublist o)) fun z hz => hs z (List.dropLast_subset o hz)
    refine List.mem_flatMap.mpr ⟨_, ih, List.mem_map.mpr ⟨o.getLast hne, List.mem_filter.mpr ⟨hs _ (List.getLast_mem hne), ?_⟩, e.symm⟩⟩
    have nd : (o.dropLast ++ [o.getLast hne]).Nodup := by rw [← e]; exact hn
    have nm : o.getLast hne ∉ o.dropLast := fun q => (List.nodup_append.mp nd).2.2 _ q _ List.mem_cons_self rfl
    unfold fitO
    rw [inV_int, decide_eq_false nm]
    rfl
theorem best_le {R : List Int → Nat} : ∀ (L : List (List Int)) (b : Option (Nat × List Int)) (p : Nat × List Int), L.foldl (bestStep R) b = some p → (∀ o ∈ L, p.1 ≤ R o) ∧ ∀ q, b = some q → p.1 ≤ q.1
  | [], b, p, h => ⟨fun o ho => (nomatch ho), fun q e => by
      have h : b = some p := h
      rw [h] at e
      cases e
      exact Nat.le_refl _⟩
  | o :: L, b, p, h => by
    obtain ⟨h1, h2⟩ := best_le L (bestStep R b o) p h
    have h3 : p.1 ≤ R o ∧ ∀ q, b = some q → p.1 ≤ q.1 := by
      cases b with
      | none => exact ⟨h2 _ rfl, fun q e => nomatch e⟩
      | some q =>
        have h2 : ∀ r, (if R o < q.1 then some (R o, o) else some q) = some r → p.1 ≤ r.1 := h2
        by_cases c : R o < q.1
        · rw [if_pos c] at h2
          have := h2 _ rfl
          refine ⟨this, fun r e => ?_⟩
          cases e
          have : p.1 ≤ R o := this
          omega
        · rw [if_neg c] at h2
          have := h2 _ rfl
          refine ⟨by omega, fun r e => ?_⟩
          cases e
          exact this
    refine ⟨fun x hx => ?_, h3.2⟩
    rcases List.mem_cons.mp hx with e | hx
    · rw [e]
      exact h3.1
    · exact h1 x hx
theorem best_nats (R : List Int → Nat) (n : Nat) : ∃ o, bestF R (ordF (natsN n)) = some (R o, o) ∧ o.Perm (natsN n) ∧ ∀ x : List Int, x.Perm (natsN n) → R o ≤ R x := by
  have hn := nats_nodup n
  obtain ⟨o, e, hm⟩ := best_mem (R := R) (ordF (natsN n)) none (fun p q => nomatch q) fun _ => ord_ne hn _ (Nat.le_refl _)
  refine ⟨o, e, ?_, fun x hx => ?_⟩
  · rcases hm with hm | ⟨r, hr⟩
    · obtain ⟨a, b⟩ := ordN_sub _ o hm
      exact perm_of a hn b (ordN_mem (natsN n) _ o hm)
    · cases hr
  · exact (best_le _ _ _ e).1 x (ord_in _ x hx.length_eq (hx.nodup_iff.mpr hn) fun z hz => hx.mem_iff.mp hz)
theorem lenF_O (f : List Str → Str) (n : Nat) (o : List Int) : lenF f n o = lenO f (o.map Int.toNat) (noneT n) := steps_one f _ _
theorem nats_toNat (n : Nat) : (natsN n).map Int.toNat = List.range n := by
  unfold natsN
  rw [List.map_map]
  exact (List.map_congr_left fun i _ => rfl).trans (List.map_id _)
theorem lenF_rows (f : List Str → Str) (n : Nat) : lenF f n (natsN n) = (rowsF f n n).length := by
  unfold lenF
  rw [nats_toNat, rows_steps]
theorem none_snoc (n : Nat) : noneT (n + 1) = noneT n ++ [none] := by
  unfold noneT
  rw [List.replicate_succ']
theorem nats_succ (n : Nat) : natsN (n + 1) = natsN n ++ [((n : Nat) : Int)] := by
  unfold natsN
  rw [List.range_succ, List.map_append]
  rfl
theorem Quiet.best {f g : List Str → Str} {n : Nat} (q : Quiet f g n) {a b : Nat} {o o' : List Int} (h1 : bestF (lenF f n) (ordF (natsN n)) = some (a, o)) (h2 : bestF (lenF g (n + 1)) (ordF (natsN (n + 1))) = some (b, o')) : a = b := by
  obtain ⟨x, e1, p1, m1⟩ := best_nats (lenF f n) n
  obtain ⟨y, e2, p2, m2⟩ := best_nats (lenF g (n + 1)) (n + 1)
  rw [h1] at e1
  rw [h2] at e2
  injection e1 with e1
  injection e1 with e1 e1'
  injection e2 with e2
  injection e2 with e2 e2'
  subst e1' e2'
  refine Nat.le_antisymm ?_ ?_
  · have pf : (o'.filter fun z => decide (z ≠ ((n : Nat) : Int))).Perm (natsN n) := by
      have := p2.filter fun z => decide (z ≠ ((n : Nat) : Int))
      rw [nats_succ, List.filter_append] at this
      have e3 : (natsN n).filter (fun z => decide (z ≠ ((n : Nat) : Int))) = natsN n := List.filter_eq_self.mpr fun z hz => decide_eq_true (by have := nats_mem.mp hz; omega)
      have e4 : [((n : Nat) : Int)].filter (fun z => decide (z ≠ ((n : Nat) : Int))) = [] := by
        rw [List.filter_cons, decide_eq_false (fun z => z rfl)]
        rfl
      rw [e3, e4, List.append_nil] at this
      exact this
    have l := m1 _ pf
    rw [e1, e2]
    refine Nat.le_trans l ?_
    rw [lenF_O, lenF_O, none_snoc]
    have e5 : (o'.filter fun z => decide (z ≠ ((n : Nat) : Int))).map Int.toNat = (o'.map Int.toNat).filter fun k => decide (k ≠ n) := by
      rw [List.filter_map]
      refine congrArg (List.map Int.toNat) (List.filter_congr fun z hz => ?_)
      have := nats_mem.mp (p2.mem_iff.mp hz)
      exact decide_eq_decide.mpr (by show z ≠ _ ↔ z.toNat ≠ n; omega)
    rw [e5]
    refine q.len_ge _ _ none (vt_none n) okR_none fun k hk => ?_
    obtain ⟨z, hz, rfl⟩ := List.mem_map.mp hk
    have := nats_mem.mp (p2.mem_iff.mp hz)
    omega
  · have pf : (o ++ [((n : Nat) : Int)]).Perm (natsN (n + 1)) := by
      rw [nats_succ]
      exact p1.append_right _
    have l := m2 _ pf
    rw [e1, e2]
    refine Nat.le_trans l (Nat.le_of_eq ?_)
    rw [lenF_O, lenF_O, none_snoc, List.map_append]
    refine q.len_eq _ _ (vt_none n) (fun k hk => ?_) fun i hi _ => ?_
    · obtain ⟨z, hz, rfl⟩ := List.mem_map.mp hk
      have := nats_mem.mp (p1.mem_iff.mp hz)
      omega
    · exact List.mem_map.mpr ⟨((i : Nat) : Int), p1.mem_iff.mpr (nats_mem.mpr ⟨by omega, by omega⟩), rfl⟩
theorem nats_names (ms : List Str) : (natsN ms.length).map (nmAt ms) = ms := by
  refine List.ext_getElem? fun i => ?_
  unfold natsN
  rw [List.map_map, List.getElem?_map]
  by_cases h : i < ms.length
  · rw [List.getElem?_range h, List.getElem?_eq_getElem h]
    show some (nmAt ms ((i : Nat) : Int)) = _
    unfold nmAt
    rw [show (((i : Nat) : Int)).toNat = i from rfl, List.getD_eq_getElem?_getD, List.getElem?_eq_getElem h]
    rfl
  · rw [List.getElem?_eq_none (by rw [List.length_range]; omega), List.getElem?_eq_none (by omega)]
    rfl
theorem names_perm {ms : List Str} {o : List Int} (h : o.Perm (natsN ms.length)) : (o.map (nmAt ms)).Perm ms := by
  have := h.map (nmAt ms)
  rw [nats_names] at this
  exact this
theorem rows_three (f : List Str → Str) (n : Nat) : (rowsF f n n).length % 3 = 1 := by
  rw [← lenF_rows, lenF_O]
  exact lenO_three _ _ _
theorem rows_one {f : List Str → Str} {n : Nat} (h : (rowsF f n n).length = 1) : rowsF f n n = [noneT n] := by
  rw [← lenF_rows, lenF_O, nats_toNat] at h
  rw [rows_steps]
  exact steps_only f _ _ h
theorem told_none (n : Nat) : toldW (noneT n) = [] := by
  unfold toldW noneT
  induction n with
  | zero => rfl
  | succ n ih =>
    rw [List.replicate_succ, List.filterMap_cons]
    exact ih
/-! ### counts -/
theorem count_flatS {α β : Type} (p : β → Bool) (g : α → List β) : ∀ L : List α, (L.flatMap g).countP p = sumN (L.map fun x => (g x).countP p)
  | [] => rfl
  | x :: L => by
    rw [List.flatMap_cons, List.countP_append, count_flatS p g L]
    rfl
theorem sum_add {α : Type} (a b : α → Nat) : ∀ L : List α, sumN (L.map fun x => a x + b x) = sumN (L.map a) + sumN (L.map b)
  | [] => rfl
  | x :: L => by
    show a x + b x + sumN (L.map fun x => a x + b x) = a x + sumN (L.map a) + (b x + sumN (L.map b))
    rw [sum_add a b L]
    omega
theorem sum_swap {α β : Type} (h : α → β → Nat) : ∀ (A : List α) (B : List β), sumN (A.map fun x => sumN (B.map fun y => h x y)) = sumN (B.map fun y => sumN (A.map fun x => h x y))
  | [], B => by
    show 0 = sumN (B.map fun _ => 0)
    induction B with
    | nil => rfl
    | cons y B ih =>
      show 0 = 0 + sumN (B.map fun _ => 0)
      rw [← ih]
  | x :: A, B => by
    show sumN (B.map fun y => h x y) + sumN (A.map fun x => sumN (B.map fun y => h x y)) = sumN (B.map fun y => h x y + sumN (A.map fun x => h x y))
    rw [sum_swap h A B, sum_add]
theorem comp_cons (p : List Str → Bool) (o : Option Str) (t : Told) : (compF (o :: t)).countP p = sumN ((optW o).map fun r => (compF t).countP fun ws => p (r :: ws)) := by
  show ((optW o).flatMap fun r => (compF t).map (r :: ·)).countP p = _
  rw [count_flatS]
  exact sum_congr fun r _ => count_map _ _ _
theorem comp_set : ∀ (t : Told) (k : Nat) (p : List Str → Bool), t[k]? = some none → (compF t).countP p = sumN (resWords.map fun r => (compF (t.set k (some r))).countP p)
  | [], k, p, h => by cases h
  | o :: t, 0, p, h => by
    have h : some o = some none := h
    cases h
    rw [comp_cons]
    refine sum_congr fun r _ => ?_
    show _ = (compF (some r :: t)).countP p
    rw [comp_cons]
    show _ = _ + 0
    rw [Nat.add_zero]
  | o :: t, k + 1, p, h => by
    have h : t[k]? = some none := h
    rw [comp_cons]
    have e1 : ∀ r ∈ optW o, (compF t).countP (fun ws => p (r :: ws)) = sumN (resWords.map fun s => (compF (t.set k (some s))).countP fun ws => p (r :: ws)) := fun r _ => comp_set t k _ h
    rw [sum_congr e1, sum_swap]
    refine sum_congr fun s _ => ?_
    show _ = (compF (o :: t.set k (some s))).countP p
    rw [comp_cons]
theorem comp_len : ∀ t : Told, (compF t).length = 4 ^ nn t
  | [] => rfl
  | o :: t => by
    have ih := comp_len t
    show ((optW o).flatMap fun r => (compF t).map (r :: ·)).length = _
    cases o with
    | none =>
      have e : nn (none :: t) = nn t + 1 := by
        unfold nn
        rw [List.countP_cons]
        rfl
      rw [e, Nat.pow_succ, ← ih]
      show (resWords.flatMap fun r => (compF t).map (r :: ·)).length = _
      unfold resWords
      simp only [List.flatMap_cons, List.flatMap_nil, List.length_append, List.length_map, List.length_nil]
      omega
    | some r =>
      have e : nn (some r :: t) = nn t := by
        unfold nn
        rw [List.countP_cons]
        rfl
      rw [e, ← ih]
      show ([r].flatMap fun r => (compF t).map (r :: ·)).length = _
      simp only [List.flatMap_cons, List.flatMap_nil, List.length_append, List.length_map, List.length_nil]
      omega
theorem nn_told : ∀ t : Told, nn t + (toldW t).length = t.length
  | [] => rfl
  | none :: t => by
    have ih := nn_told t
    unfold nn toldW at *
    rw [List.countP_cons, List.filterMap_cons, List.length_cons]
    show _ + 1 + (t.filterMap id).length = _
    omega
  | some r :: t => by
    have ih := nn_told t
    unfold nn toldW at *
    rw [List.countP_cons, List.filterMap_cons, List.length_cons]
    show _ + 0 + ((t.filterMap id).length + 1) = _
    omega
theorem rows_holes {f : List Str → Str} {n : Nat} : ∀ k, k ≤ n → ∀ t ∈ rowsF f n k, ∀ i, k ≤ i → i < n → t[i]? = some none
  | 0, _, t, ht, i, _, hi => by
    rw [List.mem_singleton.mp ht]
    exact noneT_at.mpr hi
  | k + 1, hk, t, ht, i, h1, hi => by
    obtain ⟨u, hu, h2⟩ := List.mem_flatMap.mp ht
    have ih := rows_holes k (by omega) u hu i (by omega) hi
    unfold behF at h2
    split at h2
    · obtain ⟨r, hr, rfl⟩ := List.mem_map.mp h2
      rw [List.getElem?_set_ne (by omega)]
      exact ih
    · rw [List.mem_singleton.mp h2]
      exact ih
theorem cnt_rows {f : List Str → Str} {n : Nat} (p : List Str → Bool) : ∀ k, k ≤ n → sumN ((rowsF f n k).map fun t => (compF t).countP p) = (compF (noneT n)).countP p
  | 0, _ => Nat.add_zero _
  | k + 1, h => by
    rw [← cnt_rows p k (by omega)]
    show sumN (((rowsF f n k).flatMap (behF f k)).map _) = _
    rw [sum_flat]
    refine sum_congr fun t ht => ?_
    have hole := rows_holes k (by omega) t ht k (Nat.le_refl _) (by omega)
    by_cases c : settS f t = "open"
    · rw [comp_set t k p hole]
      unfold behF
      rw [if_pos c, List.map_map]
      rfl
    · rw [beh_shut c]
      show _ + 0 = _
      rw [Nat.add_zero]
theorem comp_none : ∀ ms : List Str, compF (noneT ms.length) = allF ms
  | [] => rfl
  | z :: ms => by
    rw [allF_cons _ z ms rfl, ← comp_none ms]
    rfl
def wgtF (f : List Str → Str) (n : Nat) (x : Str) (t : Told) : Nat := if settS f t = x then 4 ^ (n - (toldW t).length) else 0
theorem cnt_sett {f : List Str → Str} {n : Nat} {x : Str} {t : Told} (h : VT n t) (hs : settS f t ≠ "open") : (compF t).countP (fun ws => decide (f ws = x)) = wgtF f n x t := by
  unfold wgtF
  rcases settS_cases (f := f) t with ⟨w, hw, e⟩ | ⟨_, e⟩
  · have c := count_const (p := fun ws => decide (f ws = x)) (b := decide (w = x)) (L := compF t) fun ws hm => by
      rw [hw ws ((mem_comp t ws).mp hm)]
    rw [c, e, comp_len]
    have nt := nn_told t
    rw [h.1] at nt
    rw [show n - (toldW t).length = nn t by omega]
    by_cases z : w = x
    · rw [decide_eq_true z, if_pos rfl, if_pos z]
    · rw [decide_eq_false z, if_neg Bool.false_ne_true, if_neg z]
  · exact absurd e hs
theorem cnt_all2 {f : List Str → Str} (hf : ∀ ws, f ws ≠ "open") {ms : List Str} (x : Str) : sumN ((rowsF f ms.length ms.length).map (wgtF f ms.length x)) = (allF ms).countP fun ws => decide (f ws = x) := by
  rw [← comp_none ms, ← cnt_rows (f := f) _ ms.length (Nat.le_refl _)]
  exact sum_congr fun t ht => (cnt_sett (rowsF_vt _ t ht) (rows_sett hf _ t ht)).symm
theorem allF_four : ∀ ms : List Str, (allF ms).length = 4 ^ ms.length := fun ms => by
  rw [← comp_none ms, comp_len, nn_noneT]
end LS
set_option maxHeartbeats 4000000
/-! if and for with a yield inside -/
namespace LS
open PySem PySem.Spec PyProof.Rows GenW L2
section
variable {X : Cx}
def tGIf (tc : TT) (tb te : TGn) : TGn := fun D ys σ H => tc σ H fun b H1 => if b = true then tb D ys σ H1 else te D ys σ H1
theorem gs_if {test : Expr} {body orelse : List Stmt} {pos : Pos} {tc : TT} {tb te : TGn} (hc : PT X test tc) (hb : GSs X body tb) (he : GSs X orelse te) : GS X (.If test body orelse pos) (tGIf tc tb te) := by
  refine ⟨fun A S ip R n ys s₀ c fs K J gd lv s σ H D g hn k hI ht => ?_⟩
  obtain ⟨acc, cc, r, I⟩ := hI
  rw [arm_exec_If]
  refine seg_bind_wrap (wpAny_standAt ?_)
  refine seg_bind_wrap ?_
  rw [g.over]
  refine wpAny_mono (hc.run _ s σ H _ I ht) (fun b s' hb' => ?_) fun x s' hx => k.exc n s₀ x s' hx
  obtain ⟨H2, I2, q2⟩ := hb'
  cases b with
  | true =>
    rw [if_pos rfl] at q2
    rw [if_pos rfl]
    exact hb.run A S ip R n ys s₀ c fs K J gd lv s' σ H2 D g hn k ⟨acc, cc, r, I2⟩ q2
  | false =>
    rw [if_neg Bool.false_ne_true] at q2
    rw [if_neg Bool.false_ne_true]
    exact he.run A S ip R n ys s₀ c fs K J gd lv s' σ H2 D g hn k ⟨acc, cc, r, I2⟩ q2
def tGFor (wi : TI) (g : TG) (tb : TGn) : TGn := fun D ys σ H => wi σ H fun J H1 => ∃ W : Nat → Nat → List V → L2.St → Hp → Prop, (∃ m, W 0 m ys σ H1) ∧ ∀ i m ys σ H, W i m ys σ H →
  (J.stop i H ∧ D.nx ys σ H) ∨ (J.go i H ∧ ∃ N : List V → L2.St → Hp → Prop, (∀ ys' σ' H', N ys' σ' H' → ∃ m', m' < m ∧ W (i + 1) m' ys' σ' H') ∧ ∀ x H', J.yld i H x H' → g x σ H' fun σ2 H2 => tb { D with nx := N, ct := N, bk := D.nx } ys σ2 H2)
theorem gs_for {tg iter : Expr} {body : List Stmt} {pos : Pos} {wi : TI} {gt : TG} {tb : TGn} (hp : PassesOwn (model X.prog X.w) X.A X.env X.xe) (hc : X.calm = true) (hi : PI X tg iter wi) (hg : PG X tg gt) (hb : GSs X body tb)
    (hs : ∀ x, foldedSetIterable iter X.env x = pure x := by intro _; rfl) : GS X (.For tg iter body [] pos) (tGFor wi gt tb) := by
  refine ⟨fun A S ip R n ys s₀ c fs K J gd lv s σ H D g hn k hI ht => ?_⟩
  obtain ⟨acc, cc, r, I⟩ := hI
  rw [exec_For]
  refine seg_bind_wrap (wpAny_standAt ?_)
  refine seg_bind_wrap ?_
  rw [g.over]
  refine wpAny_mono (hi.run _ s σ H _ I ht) (fun v s1 h1 => ?_) fun x s' hx => k.exc n s₀ x s' hx
  refine seg_bind_wrap (wpAny_of_eq (hs v) ?_)
  refine seg_bind_wrap (wpAny_standAt ?_)
  refine seg_bind_wrap (wpAny_holding ?_)
  rw [g.over]
  refine wpAny_mono h1 (fun itv s2 h2 => ?_) fun x s' hx => k.exc n s₀ x s' hx
  obtain ⟨it, fp, tn, Jt, H2, e, I2, T, st2, f2, W, ⟨m0, w0⟩, turn⟩ := h2
  subst e
  refine seg_call fun p => ?_
  have gl := fun (kk : Result → Sem PySem.Fin) => gc_loop (k := kk) (c' := .forLoop tg (.ref it) body [] X.env) (l := lv []) (kp := []) (p := p) g rfl rfl
  have stat : ∀ {H' : Hp} {o : Obj}, (∀ b ∈ fp, H' b = none) → ∀ b ∈ fp, FpOk X ((S, o) :: ip) H' b := fun {H' o} hn b hb => by
    obtain ⟨_, q1, q2, q3, q4, q5⟩ := f2 b hb
    refine ⟨hn b hb, q1, q2, q3, q4, fun p hp => ?_⟩
    rcases List.mem_append.mp hp with hp | hp
    · exact q5 p (List.mem_append_left _ hp)
    · rcases List.mem_cons.mp hp with hp | hp
      · rw [hp]
        exact q5 (S, lstObj acc cc) (List.mem_append_right _ List.mem_cons_self)
      · exact q5 p (List.mem_append_right _ (List.mem_cons_of_mem _ hp))
  have loop : ∀ (m i n : Nat) (ys : List V) (s₀ s : Shared) (σ : L2.St) (H : Hp), n + ys.length = sizeLine → W i m ys σ H → tn i s.heap → (∀ b ∈ fp, H b = none) → GI X S ip ys σ H s →
      Seg (model X.prog X.w) A R (GY X S) n s₀ (.forLoop tg (.ref it) body [] X.env) ((model X.prog X.w).den (.forLoop tg (.ref it) body [] X.env))
        (.ret (fun r => ((match r with | .ok f => (.pure f : Sem Flow) | .error e => .raise e).onRaise (cameBack X.env)).wrap K J gd lv) none (gd false) (lv []) c p [] :: fs) s := by
    intro m
    induction m using Nat.strongRecOn with
    | ind m ih =>
      intro i n ys s₀ s σ H hn w st fr hI
      have ee : ∀ (n : Nat) (s₀ : Shared) (x : Value) (s' : Shared), X.xe x s' → Seg (model X.prog X.w) A R (GY X S) n s₀ (.forLoop tg (.ref it) body [] X.env)
          ((do noteFrame x X.env; theTreesLotGoes x : Sem Unit).bind (fun _ => .raise x))
          (.ret (fun r => ((match r with | .ok f => (.pure f : Sem Flow) | .error e => .raise e).onRaise (cameBack X.env)).wrap K J gd lv) none (gd false) (lv []) c p [] :: fs) s' := fun n s₀ x s' hx => by
        rw [Sem.bind_eq_wrap]
        refine seg_wrap ?_
        rw [(gl _).over]
        refine wpAny_bind (wpAny_mono (hp x s' hx) (fun _ s'' hcb => wpAny_theTreesLotGoes ?_) fun y s'' hcb => ?_)
        · exact seg_leaf (.error x) (seg_cameBack g k hcb)
        · exact seg_leaf (.error y) (seg_cameBack g k hcb)
      obtain ⟨acc, cc, r, I⟩ := hI
      show Seg _ A R _ n s₀ _ ((forTurn tg (.ref it) body [] X.env).onRaise (fun x => do noteFrame x X.env; theTreesLotGoes x)) _ s
      rw [Sem.onRaise_eq_wrap]
      unfold forTurn
      refine seg_bind_wrap (wpAny_standAt ?_)
      refine seg_bind_wrap ?_
      rw [(gl _).over]
      rcases turn i m ys σ H w with ⟨stop, qn⟩ | ⟨go, N, hN, step⟩
      · refine wpAny_onRaise (wpAny_mono (T.done X rfl rfl rfl hc i _ s σ H X.xe I (stat fr) st stop) (fun r4 s4 ⟨hr, I4⟩ => ?_) fun x s' hx => wpAny_standAt (ee n s₀ x s' hx))
        subst hr
        refine seg_again rfl ?_
        show Seg _ A R _ n s₀ _ (.pure (.done .next)) _ s4
        exact seg_leaf (.ok .next) (k.ok n ys s₀ s4 .next hn ⟨σ, H, ⟨acc, cc, r, I4⟩, qn⟩)
      · refine wpAny_onRaise (wpAny_mono (T.item X rfl rfl rfl hc i _ s σ H X.xe I (stat fr) st go) (fun r4 s4 ⟨u, hr, h4⟩ => ?_) fun x s' hx => wpAny_standAt (ee n s₀ x s' hx))
        subst hr
        refine seg_bind_wrap ?_
        rw [(gl _).over]
        refine wpAny_mono h4 (fun _ s5 ⟨x, H5, I5, r5, y5, st5, fr5⟩ => ?_) fun x s' hx => ee n s₀ x s' hx
        have I5' := I5.pinned (stat fr5) (T.obj _ _ st5)
        refine seg_bind_wrap ?_
        rw [(gl _).over]
        refine wpAny_mono (hg.run _ s5 σ H5 x u _ I5' r5 (step x H5 y5)) (fun _ s6 ⟨σ6, H6, I6, q6⟩ => ?_) fun x s' hx => ee n s₀ x s' hx
        rw [Sem.bind_eq_wrap', Sem.wrap_wrap]
        have gl2 := gl (fun r => ((match r with | .ok f => (.pure f : Sem Flow) | .error e => .raise e).onRaise (cameBack X.env)).wrap K J gd lv)
        have fpS : ∀ b ∈ fp, b ≠ S := fun b hb e => by
          obtain ⟨_, _, _, _, _, q5⟩ := stat (o := lstObj acc cc) fr b hb
          exact q5 (S, lstObj acc cc) (List.mem_append_right _ List.mem_cons_self) e.symm
        refine hb.run A S (ip ++ pinsAt fp s5.heap) R n ys s₀ _ _ _ _ id id s6 σ6 H6 { D with nx := N, ct := N, bk := D.nx } ⟨gl2.pn, fun q hq => ?_, gl2.apart, gl2.over, gl2.split, gl2.guard, gl2.gd⟩ hn ⟨fun n' ys' s₀' s3 f hn' hs => ?_, fun n' s₀' x s3 hx => ee n' s₀' x s3 hx⟩ ⟨acc, cc, r, I6⟩ q6
        · rcases List.mem_append.mp hq with hq | hq
          · exact g.ip q hq
          · exact fpS _ (of_pinsAt hq).1
        have drop : ∀ {ys : List V} {σ : L2.St} {H : Hp}, GI X S (ip ++ pinsAt fp s5.heap) ys σ H s3 → GI X S ip ys σ H s3 := fun {ys σ H} ⟨a, b, r, I⟩ => ⟨a, b, r, Inv.unpinned (pins := (S, lstObj a b) :: ip) (pl := pinsAt fp s5.heap) I⟩
        have again : ∀ {σ7 : L2.St} {H7 : Hp}, GI X S (ip ++ pinsAt fp s5.heap) ys' σ7 H7 s3 → N ys' σ7 H7 → Seg (model X.prog X.w) A R (GY X S) n' s₀' (.forLoop tg (.ref it) body [] X.env) (.pure (.again (.forLoop tg (.ref it) body [] X.env)))
            (.ret (fun r => ((match r with | .ok f => (.pure f : Sem Flow) | .error e => .raise e).onRaise (cameBack X.env)).wrap K J gd lv) none (gd false) (lv []) c p [] :: fs) s3 := fun {σ7 H7} I7 n7 => by
          obtain ⟨m', hm, w7⟩ := hN ys' σ7 H7 n7
          have I7' := I7
          obtain ⟨a7, b7, r7, J7⟩ := I7'
          refine seg_again rfl (ih m' hm (i + 1) n' ys' s₀' s3 σ7 H7 hn' w7 (T.keep _ _ _ st5 fun b hb o e => (J7.pin (b, o) (List.mem_append_right _ (List.mem_cons_of_mem _ (List.mem_append_right _ (mem_pinsAt hb e))))).1) (fun b hb => ?_) (drop I7))
          obtain ⟨o, e, d⟩ := T.obj _ _ st5 b hb
          exact (J7.pin (b, o) (List.mem_append_right _ (List.mem_cons_of_mem _ (List.mem_append_right _ (mem_pinsAt hb e))))).2.1
        cases f with
        | next =>
          obtain ⟨σ7, H7, I7, n7⟩ := hs
          exact again I7 n7
        | cont =>
          obtain ⟨σ7, H7, I7, n7⟩ := hs
          exact again I7 n7
        | brk =>
          obtain ⟨σ7, H7, I7, q7⟩ := hs
          exact seg_leaf (.ok .next) (k.ok n' ys' s₀' s3 .next hn' ⟨σ7, H7, drop I7, q7⟩)
        | ret v =>
          obtain ⟨x7, σ7, H7, I7, r7, q7⟩ := hs
          exact seg_leaf (.ok (.ret v)) (k.ok n' ys' s₀' s3 (.ret v) hn' ⟨x7, σ7, H7, drop I7, r7, q7⟩)
  exact loop m0 0 n ys s₀ s2 σ H2 hn w0 st2 (fun b hb => (f2 b hb).1) ⟨acc, cc, r, I2⟩
end
end LS
set_option maxHeartbeats 8000000
namespace LS
open PySem PySem.Spec PyProof.Rows L2
abbrev sInCount : Stmt := top i_in_count
abbrev sAnsIn : Stmt := top i_answers_in
theorem gfor_it {J : It} {n : Nat} {G : Hp → Prop} {Y : Nat → Hp → V → Hp → Prop} (w : Walk J n G Y) {g : TG} {tb : TGn} {D : GEnds} {ys : List V} {σ : L2.St} {H : Hp} (Pv : Nat → List V → L2.St → Hp → Prop) (h0 : Pv 0 ys σ H) (hG : ∀ i ys σ H, i ≤ n → Pv i ys σ H → G H)
    (hs : ∀ i ys x σ H H', i < n → Pv i ys σ H → Y i H x H' → g x σ H' fun σ2 H2 => tb { D with nx := Pv (i + 1), ct := Pv (i + 1), bk := D.nx } ys σ2 H2) (hd : ∀ ys σ H, Pv n ys σ H → D.nx ys σ H) :
    ∃ W : Nat → Nat → List V → L2.St → Hp → Prop, (∃ m, W 0 m ys σ H) ∧ ∀ i m ys σ H, W i m ys σ H →
      (J.stop i H ∧ D.nx ys σ H) ∨ (J.go i H ∧ ∃ N : List V → L2.St → Hp → Prop, (∀ ys' σ' H', N ys' σ' H' → ∃ m', m' < m ∧ W (i + 1) m' ys' σ' H') ∧ ∀ x H', J.yld i H x H' → g x σ H' fun σ2 H2 => tb { D with nx := N, ct := N, bk := D.nx } ys σ2 H2) := by
  refine ⟨fun i m ys σ H => m = n - i ∧ i ≤ n ∧ Pv i ys σ H, ⟨n, by simp, Nat.zero_le _, h0⟩, ?_⟩
  rintro i m ys σ H ⟨rfl, hi, p⟩
  have q := hG i ys σ H hi p
  by_cases hlt : i < n
  · exact .inr ⟨w.goes i H hlt q, Pv (i + 1), fun ys' σ' H' p' => ⟨n - (i + 1), by omega, rfl, hlt, p'⟩, fun x H' y => hs i ys x σ H H' hlt p (w.yields i H x H' hlt q y)⟩
  · have e : i = n := by omega
    subst e
    exact .inl ⟨w.stops H q, hd ys σ H p⟩
theorem passE {P : Program} {w : World} {X : Cx} : Passes (L2.CX P w) X E0 := fun _ _ _ _ _ _ _ h => by
  obtain ⟨_, _, _, _, _, _, _, _, _, _, _, _, hW⟩ := h
  exact hW.elim
theorem nostop0 {K : PySem.W.Frag} : NoStop K E0 := fun _ _ _ h => h.elim
/-- the answers that lead in -/
def goodF (es : List Ent) (ms : List Str) : List (List Str) := (allF ms).filter fun ws => decide (wordL es ms ws = "in")
def spGAns (K : PySem.W.Frag) (CR CS : Addr) : SpG := fun vs H Q _ => ∃ (sp : Addr) (es : List Ent) (ms : List Str), vs = [.ref sp] ∧ ModAt K CR CS H sp es ms ∧ ∀ xs H', Same H H' → RowsAt H' ms xs (goodF es ms) → Q xs H'
def spInCount (K : PySem.W.Frag) (CR CS : Addr) : Sp := fun vs H Q _ => ∃ (sp : Addr) (es : List Ent) (ms : List Str), vs = [.ref sp] ∧ ModAt K CR CS H sp es ms ∧ ∀ H', Same H H' → Q (.int (((goodF es ms).length : Nat) : Int)) H'
/-- a generator def as it stands behind the top -/
structure GenK (P : Program) (w : World) (K : PySem.W.Frag) (mg : Str → Option Value) (base : Heap) (k : Nat) (x : Str) (ps : List Str) (sp : SpG) where
  {a : Addr}
  {fd : FuncData}
  G : GFn P w K mg base k a fd ps sp
  g : mg x = some (.ref a)
  kp : PySem.W.keepIn K (.ref a) = true
  b : Binds K fd ps []
section
variable {P : Program} {w : World} {K : PySem.W.Frag} {mg : Str → Option Value} {base : Heap} {CR CS : Addr}
theorem scInCount : FnScope n_in_count ["stack"] (defScope sInCount) := ⟨rfl, rfl, rfl, by decide +kernel, rfl, by decide +kernel, by decide +kernel⟩
theorem scAnsIn : GScope n_answers_in ["stack"] (defScope sAnsIn) := ⟨rfl, rfl, rfl, by decide +kernel, rfl, by decide +kernel, by decide +kernel⟩
theorem ok_ansin {f : Addr} {fd : FuncData} (F : Fun K "answers_in" "answers_in" sAnsIn f fd) (N : LedK P w K mg base CR CS) : GFn P w K mg base 11 f fd ["stack"] (spGAns K CR CS) := by
  obtain ⟨oc, od, kV, doc, pm, an, cdv, ct, osl, rfl, lk, hcd⟩ := F.ex
  refine gfn_of lk hcd scAnsIn (fun vs H Q E h => ?_) (fun A outer s H vs Q E pn hr h => ?_)
  · obtain ⟨sp, es, ms, rfl, _⟩ := h
    rfl
  · obtain ⟨sp, es, ms, rfl, M, k⟩ := h
    refine ⟨_, gss_cons (gs_for owns_gcx rfl (pi_list (pe_call N.Wi.G (hr.mono (by decide)) (by rfl) N.Wi.g N.Wi.kp N.Wi.b .nil pass0 (pa_cons (pe_prop (pv 0) N.T.cl N.PM.pr N.PM.G (hr.mono (by decide)) N.PM.b .nil pass0 rfl) (pa_cons pe_dnewK pa_nil)))) (pg_name (i := 1) scAnsIn.nd rfl (.inl rfl))
        (gss_cons (gs_if (pt_cmpR op_eq (pe_call N.Le.G hr (by rfl) N.Le.g N.Le.kp N.Le.b .nil pass0 (pa_cons (pv 0) (pa_cons (pv 1) pa_nil))) pe_str (nomark _)) (gss_cons (gs_yield (pv 1)) gss_nil) gss_nil) gss_nil)) gss_nil, ?_⟩
    obtain ⟨⟨dx, e, r, m, ms', h1, h2, h3, h4', h5, leg⟩, h6⟩ := id M.e
    refine ⟨_, rfl, sp, dx, _, rfl, h1, sp, es, rfl, M.e, fun t ms2 ht hms => ?_⟩
    obtain rfl := mods_same hms M.mods
    refine fun d nd => ?_
    have S1 : Same H (upd H d (.dK [])) := same_upd nd (Same.refl H)
    have e1 : upd H d (.dK []) d = some (.dK []) := upd_same
    generalize upd H d (.dK []) = H1 at *
    refine ⟨t, d, ms2, [], rfl, same_tup S1 ht, hms.1, M.few, .inl e1, fun z _ => .inl rfl, fun p xs H2 S2 np hp hx => ?_⟩
    rw [withF_nil] at hx
    have S12 := S1.trans S2
    have al := rows_len hx
    have hs2 := sizeLine_eq
    have h4n : (allF ms2).length ≤ 4 ^ 6 := by
      rw [← withF_nil]
      exact Nat.le_trans (withF_len [] ms2) (Nat.pow_le_pow_right (by decide) M.few)
    have h46 : 4 ^ 6 = 4096 := rfl
    refine ⟨p, rfl, ⟨_, SqL.of hp⟩, ?_⟩
    refine gfor_it (walk_list (xs := xs)) (fun i ys σ H' => (∃ a1, σ = [some (.ref sp), a1]) ∧ Same H2 H' ∧ RowsAt H' ms2 ys (((allF ms2).take i).filter fun ws => decide (wordL es ms2 ws = "in"))) ⟨⟨none, rfl⟩, Same.refl H2, rfl⟩ (fun i ys σ H' _ q => SqL.of (q.2.1 _ _ hp)) ?_ ?_
    · rintro i ys v σ H3 H4 hi ⟨⟨a1, rfl⟩, S3, hy⟩ ⟨rfl, hvi⟩
      obtain ⟨ws, a, hwi, rfl, ha⟩ := rows_get (rows_same S3 hx) hvi
      have hw : ws ∈ allF ms2 := List.mem_of_getElem? hwi
      have S13 := S12.trans S3
      have tk : ((allF ms2).take (i + 1)).filter (fun ws => decide (wordL es ms2 ws = "in")) = ((allF ms2).take i).filter (fun ws => decide (wordL es ms2 ws = "in")) ++ if decide (wordL es ms2 ws = "in") = true then [ws] else [] := by
        rw [List.take_add_one, hwi, List.filter_append]
        congr 1
        show List.filter _ [ws] = _
        rw [List.filter_cons, List.filter_nil]
      refine ⟨_, rfl, _, rfl, sp, a, es, tlOf ms2 ws, rfl, (M.same S13).ask ha hw, fun H5 S5 => ?_⟩
      refine ⟨rfl, _, rfl, ?_⟩
      have ew : (decide (V.str (inOut (runs (tlOf ms2 ws) es).1) = V.str "in")) = decide (wordL es ms2 ws = "in") := by
        by_cases q : wordL es ms2 ws = "in"
        · rw [decide_eq_true q, decide_eq_true (show V.str (inOut (runs (tlOf ms2 ws) es).1) = V.str "in" from congrArg V.str q)]
        · rw [decide_eq_false q, decide_eq_false (fun e => q (by injection e))]
      rw [ew]
      have yl := rows_len hy
      have yl2 : ys.length ≤ 4096 := by
        rw [yl]
        refine Nat.le_trans (List.length_filter_le _ _) ?_
        rw [List.length_take]
        omega
      cases q : decide (wordL es ms2 ws = "in") with
      | true =>
        rw [q] at tk
        refine iteT ?_
        refine ⟨by omega, _, rfl, ?_⟩
        refine ⟨⟨_, rfl⟩, S3.trans S5, ?_⟩
        rw [tk, if_pos rfl]
        exact rows_append (rows_same S5 hy) ⟨ws, [], rfl, ⟨a, rfl, S5 _ _ ha⟩, rfl⟩
      | false =>
        rw [q] at tk
        refine iteF ?_
        refine ⟨⟨_, rfl⟩, S3.trans S5, ?_⟩
        rw [tk, if_neg Bool.false_ne_true, List.append_nil]
        exact rows_same S5 hy
    · rintro ys σ H3 ⟨⟨a1, rfl⟩, S3, hy⟩
      rw [al, List.take_length] at hy
      exact k ys H3 (S12.trans S3) hy
theorem ok_incount {f : Addr} {fd : FuncData} (F : Fun K "in_count" "in_count" sInCount f fd) (D : GenK P w K mg base 11 "answers_in" ["stack"] (spGAns K CR CS)) (mL : mg "len" = none) (mT : mg "list" = none) : FnOk P w K mg base CX0 15 f fd ["stack"] (spInCount K CR CS) := by
  refine F.ok scInCount (fun vs H Q E h => ?_) (fun cdv A outer s H vs Q E hr h => ?_)
  · obtain ⟨sp, es, ms, rfl, _⟩ := h
    rfl
  · obtain ⟨sp, es, ms, rfl, M, k⟩ := h
    refine ⟨_, pss_one (ps_ret (pe_callB call_len_seq (by rfl) mL PySem.boot_len (pa_cons (pe_listG (k := 11) (E := E0) (pgen_call D.G (hr.mono (by decide)) (by rfl) D.g D.kp D.b .nil (pa_cons (pv 0) pa_nil)) passE nostop0 hr (by rfl) mT (by decide +kernel)) pa_nil))), ?_⟩
    refine ⟨_, rfl, sp, es, ms, rfl, M, fun xs H' S hx p np => ?_⟩
    refine ⟨p, xs, rfl, .inl (SqL.of upd_same), ?_⟩
    rw [rows_len hx]
    exact k _ (same_upd (S.free np) S)
end
end LS
namespace LS
open PySem PySem.Spec PyProof.Rows L2
abbrev sACount : Stmt := top i_answer_count
def spACount (K : PySem.W.Frag) (CR CS : Addr) : Sp := fun vs H Q _ => ∃ (sp : Addr) (es : List Ent) (ms : List Str), vs = [.ref sp] ∧ ModAt K CR CS H sp es ms ∧ ∀ H', Same H H' → Q (.int ((4 ^ ms.length : Nat) : Int)) H'
section
variable {P : Program} {w : World} {K : PySem.W.Frag} {mg : Str → Option Value} {base : Heap} {CR CS : Addr}
theorem scACount : FnScope n_answer_count ["stack"] (defScope sACount) := ⟨rfl, rfl, rfl, by decide +kernel, rfl, by decide +kernel, by decide +kernel⟩
theorem ok_acount {f : Addr} {fd : FuncData} (F : Fun K "answer_count" "answer_count" sACount f fd) (T : StackK K mg CR CS) (PM : PropK P w K mg base CS "modules" (spSModules K CR CS)) (mL : mg "len" = none) (gR : ∃ a, mg "RESULTS" = some (.ref a) ∧ ∀ H, SqT K H a (resWords.map V.str)) : FnOk P w K mg base CX0 3 f fd ["stack"] (spACount K CR CS) := by
  obtain ⟨aR, gR, hR⟩ := gR
  refine F.ok scACount (fun vs H Q E h => ?_) (fun cdv A outer s H vs Q E hr h => ?_)
  · obtain ⟨sp, es, ms, rfl, _⟩ := h
    rfl
  · obtain ⟨sp, es, ms, rfl, M, k⟩ := h
    refine ⟨_, pss_cons (ps_set (i := 1) scACount.nd rfl (.inl rfl) pe_int)
      (pss_cons (ps_for PassesOwn.never rfl (pi_tup (pe_prop (pv 0) T.cl PM.pr PM.G hr PM.b .nil pass0 rfl)) (pg_name (i := 2) scACount.nd rfl (.inl rfl))
        (pss_one (ps_aug (i := 1) scACount.nd rfl (.inl rfl) (pe_callB call_len_seq (by rfl) mL PySem.boot_len (pa_cons (pe_glob (v := .ref aR) (by rfl) gR rfl) pa_nil)) iop_mul)))
      (pss_one (ps_ret (pv 1)))), ?_⟩
    obtain ⟨⟨dx, e, r, m, ms', h1, h2, h3, h4', h5, leg⟩, h6⟩ := id M.e
    refine ⟨_, rfl, sp, dx, _, rfl, h1, sp, es, rfl, M.e, fun t ms2 ht hms => ?_⟩
    obtain rfl := mods_same hms M.mods
    refine ⟨t, rfl, ⟨_, ht⟩, ?_⟩
    refine for_tup (xs := ms2.map V.str) (fun i σ H' => (∃ a2, σ = [some (.ref sp), some (.int ((4 ^ i : Nat) : Int)), a2]) ∧ H' = H) ⟨⟨none, rfl⟩, rfl⟩ (fun i σ H' _ q => by rw [q.2]; exact ht) ?_ ?_
    · rintro i v σ H3 hvi ⟨⟨a2, rfl⟩, rfl⟩
      refine ⟨_, rfl, aR, _, rfl, .inr (hR H3), _, _, rfl, rfl, .inr ⟨by decide, by decide⟩, ?_⟩
      refine ⟨⟨some v, ?_⟩, rfl⟩
      show [some (V.ref sp), some (V.int (((4 ^ i : Nat) : Int) * 4)), some v] = _
      rw [Nat.pow_succ]
      rfl
    · rintro σ H3 ⟨⟨a2, rfl⟩, rfl⟩
      rw [List.length_map]
      exact ⟨_, rfl, k H3 (Same.refl H3)⟩
end
end LS
namespace LS
open PySem PySem.Spec PyProof.Rows L2
/-! drawn stacks with a rule more; covers as data -/
abbrev dieD : List PyData := [.str "die", .str "die", .str "die", .str "die"]
theorem die_okT : OkT dieD := by
  refine ⟨rfl, fun d hd => ?_⟩
  simp only [dieD, List.mem_cons, List.not_mem_nil, or_false] at hd
  rcases hd with rfl | rfl | rfl | rfl <;> simp [actD]
theorem act_die {tl : Str → Nat} {z : Str} (h : tl z < 4) : actAt tl z dieD = .str "die" := by
  unfold actAt dieD
  have : tl z = 0 ∨ tl z = 1 ∨ tl z = 2 ∨ tl z = 3 := by omega
  rcases this with e | e | e | e <;> rw [e] <;> rfl
theorem wordL_P (es : List Ent) (zs ws : List Str) : wordL es zs ws = wordP (plEs es) zs ws := word_mts (pls_mts es) (can_mts (plEs es)) zs ws
theorem DrawnAt.quiet {K : PySem.W.Frag} {CR CS : Addr} {H : Hp} {x : Addr} {es : List Ent} {ms : List Str} (h : DrawnAt K CR CS H x es ms) (p : Addr) : Quiet (wordL es ms) (wordL (es ++ [.rule p zzS ignD]) (ms ++ [zzS])) ms.length := by
  have nz : zzS ∉ ms := fun q => no_zz (h.sub _ q)
  refine ⟨fun ws hl hw r hr => ?_, word_not_open es ms, word_not_open _ _⟩
  rw [wordL_P, wordL_P, plEs_append]
  show wordP (plEs es ++ [.rule zzS ignD]) _ _ = _
  rw [word_end (tl_end hl nz hr)]
  exact word_tl fun q hq => tl_app hl (h.names q hq)
theorem die_out {p : Addr} {es : List Ent} {ms : List Str} (nz : zzS ∉ ms) {ws : List Str} {r : Str} (hl : ws.length = ms.length) (hr : r ∈ resWords) : wordL (.rule p zzS dieD :: es) (ms ++ [zzS]) (ws ++ [r]) = "out" := by
  unfold wordL inOut runs
  rw [goEs, act_die (tl_end hl nz hr)]
  have e1 : actF (.str "die") 0 (("none" : Str), V.non) (("none" : Str), V.non) = (("bad" : Str), V.int 0) := by
    unfold actF
    rw [if_neg (fun q => by have : inW (.str "die") ["ok", "done"] = false := by decide +kernel
                            rw [this] at q; cases q.1), if_pos ⟨by decide +kernel, by decide +kernel⟩]
  have e2 : endF (.str "die") (("bad" : Str), V.int 0) = true := by
    unfold endF
    rw [show inW (.str "die") ["die"] = true by decide +kernel]
    rfl
  rw [e1, e2, if_pos rfl]
  rfl
theorem snoc_of {n : Nat} {ws : List Str} (h : ws.length = n + 1) : ∃ us r, ws = us ++ [r] ∧ us.length = n := by
  have hne : ws ≠ [] := fun e => by rw [e] at h; cases h
  exact ⟨ws.dropLast, ws.getLast hne, (List.dropLast_concat_getLast hne).symm, by rw [List.length_dropLast, h]; rfl⟩
theorem shut_sett {p : Addr} {es : List Ent} {ms : List Str} (nz : zzS ∉ ms) : settS (wordL (.rule p zzS dieD :: es) (ms ++ [zzS])) (noneT (ms.length + 1)) = "out" :=
  settS_one fun ws hw => by
    obtain ⟨l, m⟩ := fit_vt (vt_none _) hw
    obtain ⟨us, r, rfl, hl⟩ := snoc_of l
    exact die_out nz hl (m r (List.mem_append_right _ List.mem_cons_self))
theorem shut_rows {p : Addr} {es : List Ent} {ms : List Str} (nz : zzS ∉ ms) : ∀ k, rowsF (wordL (.rule p zzS dieD :: es) (ms ++ [zzS])) (ms.length + 1) k = [noneT (ms.length + 1)]
  | 0 => rfl
  | k + 1 => by
    show (rowsF _ _ k).flatMap (behF _ k) = _
    rw [shut_rows nz k, List.flatMap_cons, List.flatMap_nil, List.append_nil]
    refine beh_shut ?_
    rw [shut_sett nz]
    decide +kernel
/-- with a rule of zz ahead that ends it -/
theorem DrawnAt.shut_ {K : PySem.W.Frag} {CR CS : Addr} {H H' : Hp} {x y p : Addr} {es : List Ent} {ms : List Str} (h : DrawnAt K CR CS H x es ms) (he : EntAt K CR CS H' (.stk y (.rule p zzS dieD :: es))) : ModAt K CR CS H' y (.rule p zzS dieD :: es) (ms ++ [zzS]) := by
  have nz : zzS ∉ ms := fun q => no_zz (h.sub _ q)
  have r1 : rulesEs (.rule p zzS dieD :: es) = ((p, zzS, dieD) : RuleI) :: rulesEs es := rfl
  refine ⟨he, fun q hq => ?_, ⟨?_, ?_, fun z => ?_⟩, ?_⟩
  · rw [r1] at hq
    rcases List.mem_cons.mp hq with w | w
    · rw [w]
      exact okT_four die_okT
    · exact h.m.four q w
  · exact List.nodup_append.mpr ⟨h.m.mods.1, by simp, fun a ha b hb e => nz (by rw [List.mem_singleton.mp hb] at e; rw [← e]; exact ha)⟩
  · exact (sub_sorted5 _ (mods_in5 h.m.mods.1 h.m.mods.2.1 h.sub)).2.1
  · rw [r1, List.map_cons, List.mem_cons, List.mem_append, List.mem_singleton, h.m.mods.2.2 z]
    exact Or.comm
  · rw [List.length_append]
    have := h.few
    show ms.length + 1 ≤ 6
    omega
/-! data -/
def resD (ws : List Str) : PyData := .tuple (ws.map .str)
def rowD (f : List Str → Str) (t : Told) : PyData := .tuple [resD (toldW t), .str (settS f t)]
def covD (f : List Str → Str) (L : List Told) : PyData := .list (L.map (rowD f))
theorem strs_dpN {K : PySem.W.Frag} {H : Hp} : ∀ ws : List Str, DpAll K H (ws.map V.str) (ws.map PyData.str)
  | [] => .nil
  | w :: ws => .cons (.str w) (strs_dpN ws)
theorem cov_dps {K : PySem.W.Frag} {H : Hp} {f : List Str → Str} {xs : List V} {L : List Told} (h : CovAt K H f xs L) : DpAll K H xs (L.map (rowD f)) := by
  induction h with
  | nil => exact .nil
  | cons h _ ih =>
    obtain ⟨a, b, rfl, h1, h2⟩ := h
    exact .cons (.tup h1 (.cons (.tup h2 (strs_dpN _)) (.cons (.str _) .nil))) ih
theorem cov_dp {K : PySem.W.Frag} {H : Hp} {f : List Str → Str} {p : Addr} {xs : List V} {L : List Told} (e : H p = some (.lst xs)) (h : CovAt K H f xs L) : Dp K H (.ref p) (covD f L) := .lst (SqL.of e) (cov_dps h)
theorem strs_lay : ∀ ws : List Str, (∀ w ∈ ws, PyData.strOk w = true) → PyData.canLayAll0 (ws.map PyData.str) = true ∧ PyData.depthAll (ws.map PyData.str) ≤ 1
  | [], _ => ⟨by simp [PyData.canLayAll0], by simp [PyData.depthAll]⟩
  | w :: ws, h => by
    obtain ⟨h1, h2⟩ := strs_lay ws fun x hx => h x (List.mem_cons_of_mem _ hx)
    refine ⟨by simp [PyData.canLayAll0, PyData.canLay0, h1, h w List.mem_cons_self], ?_⟩
    simp [PyData.depthAll, PyData.depth]
    omega
theorem res_ok : ∀ w ∈ resWords, PyData.strOk w = true := by decide +kernel
theorem sett_ok (es : List Ent) (ms : List Str) (t : Told) : PyData.strOk (settS (wordL es ms) t) = true := by
  rcases sett_three es ms t with e | e | e <;> rw [e] <;> decide +kernel
theorem rows_lay (es : List Ent) (ms : List Str) {n : Nat} : ∀ L : List Told, (∀ t ∈ L, VT n t) → PyData.canLayAll0 (L.map (rowD (wordL es ms))) = true ∧ PyData.depthAll (L.map (rowD (wordL es ms))) ≤ 10
  | [], _ => ⟨by simp [PyData.canLayAll0], by simp [PyData.depthAll]⟩
  | t :: L, h => by
    obtain ⟨h1, h2⟩ := rows_lay es ms L fun u hu => h u (List.mem_cons_of_mem _ hu)
    obtain ⟨h3, h4⟩ := strs_lay (toldW t) fun w hw => res_ok w ((told_fewW (h t List.mem_cons_self)).2 w hw)
    refine ⟨by simp [PyData.canLayAll0, PyData.canLay0, rowD, resD, h1, h3, sett_ok es ms t], ?_⟩
    simp [PyData.depthAll, PyData.depth, rowD, resD]
    omega
theorem cov_sh (es : List Ent) (ms : List Str) (n k : Nat) : SeqAt.shaped (covD (wordL es ms) (rowsF (wordL es ms) n k)) = true := by
  obtain ⟨h1, h2⟩ := rows_lay es ms (n := n) (rowsF (wordL es ms) n k) (rowsF_vt k)
  show (PyData.canLay0 (covD (wordL es ms) _) && decide (PyData.depth (covD (wordL es ms) _) ≤ 64)) = true
  rw [Bool.and_eq_true]
  refine ⟨by simp only [covD, PyData.canLay0]; exact h1, decide_eq_true ?_⟩
  simp only [covD, PyData.depth]
  omega
theorem strsD_sh (ws : List Str) (h : ∀ w ∈ ws, PyData.strOk w = true) : SeqAt.shaped (.list (ws.map PyData.str)) = true := by
  obtain ⟨h1, h2⟩ := strs_lay ws h
  show (PyData.canLay0 (.list (ws.map PyData.str)) && decide (PyData.depth (.list (ws.map PyData.str)) ≤ 64)) = true
  rw [Bool.and_eq_true]
  refine ⟨by simp only [PyData.canLay0]; exact h1, decide_eq_true ?_⟩
  simp only [PyData.depth]
  omega
theorem names5_strOk : ∀ w ∈ names5, PyData.strOk w = true := by decide +kernel
theorem Quiet.rowD {f g : List Str → Str} {n : Nat} (q : Quiet f g n) {t : Told} (h : VT n t) : rowD g (t ++ [none]) = rowD f t := by
  unfold LS.rowD
  rw [told_snoc, q.sett h okR_none]
theorem Quiet.covD {f g : List Str → Str} {n : Nat} (q : Quiet f g n) : covD g (rowsF g (n + 1) (n + 1)) = covD f (rowsF f n n) := by
  unfold LS.covD
  rw [q.all, List.map_map]
  exact congrArg PyData.list (List.map_congr_left fun t ht => q.rowD (rowsF_vt n t ht))
theorem Quiet.text {f g : List Str → Str} {n : Nat} (q : Quiet f g n) : covText g (rowsF g (n + 1) (n + 1)) = covText f (rowsF f n n) := by
  unfold covText
  rw [q.all, List.map_map]
  refine congrArg (Txt.join "\n") (List.map_congr_left fun t ht => ?_)
  show lineT g (t ++ [none]) = lineT f t
  unfold lineT
  rw [told_snoc, q.sett (rowsF_vt n t ht) okR_none]
/-! counts -/
def cntX (f : List Str → Str) (n : Nat) (x : Str) (L : List Told) : Nat := sumN (L.map (wgtF f n x))
theorem cntX_take {f : List Str → Str} {n : Nat} {x : Str} {L : List Told} {j : Nat} {t : Told} (h : L[j]? = some t) : cntX f n x (L.take (j + 1)) = cntX f n x (L.take j) + wgtF f n x t := by
  unfold cntX
  rw [List.take_add_one, h, List.map_append, sum_app]
  show _ + (wgtF f n x t + 0) = _
  rw [Nat.add_zero]
theorem cnt_in (es : List Ent) (ms : List Str) : cntX (wordL es ms) ms.length "in" (rowsF (wordL es ms) ms.length ms.length) = (goodF es ms).length := by
  unfold cntX goodF
  rw [cnt_all2 (word_not_open es ms), List.countP_eq_length_filter]
theorem cnt_out (es : List Ent) (ms : List Str) : cntX (wordL es ms) ms.length "out" (rowsF (wordL es ms) ms.length ms.length) + (goodF es ms).length = 4 ^ ms.length := by
  rw [← cnt_in]
  unfold cntX
  rw [cnt_all2 (word_not_open es ms), cnt_all2 (word_not_open es ms), ← allF_four ms, List.length_eq_countP_add_countP (fun ws => decide (wordL es ms ws = "in")), Nat.add_comm]
  congr 1
  refine List.countP_congr fun ws _ => ?_
  have two : wordL es ms ws = "in" ∨ wordL es ms ws = "out" := by
    rw [wordL_wd]
    exact wd_two es _
  rcases two with e | e <;> rw [e] <;> decide +kernel
theorem pow_ix {n k : Nat} (hn : n ≤ 3) (hk : k ≤ n) : ([1, 4, 16, 64] : List Int)[n - k]? = some ((4 ^ (n - k) : Nat) : Int) := by
  have : n - k = 0 ∨ n - k = 1 ∨ n - k = 2 ∨ n - k = 3 := by omega
  rcases this with e | e | e | e <;> rw [e] <;> rfl
theorem shut_text {p : Addr} {es : List Ent} {ms : List Str} (nz : zzS ∉ ms) : covText (wordL (.rule p zzS dieD :: es) (ms ++ [zzS])) (rowsF (wordL (.rule p zzS dieD :: es) (ms ++ [zzS])) (ms.length + 1) (ms.length + 1)) = "-: out" := by
  rw [shut_rows nz]
  unfold covText
  show Txt.join "\n" [lineT _ _] = _
  unfold lineT
  rw [shut_sett nz, told_none]
  decide +kernel
theorem shut_data {p : Addr} {es : List Ent} {ms : List Str} (nz : zzS ∉ ms) : covD (wordL (.rule p zzS dieD :: es) (ms ++ [zzS])) (rowsF (wordL (.rule p zzS dieD :: es) (ms ++ [zzS])) (ms.length + 1) (ms.length + 1)) = .list [.tuple [.tuple [], .str "out"]] := by
  rw [shut_rows nz]
  unfold covD
  show PyData.list [rowD _ _] = _
  unfold rowD
  rw [shut_sett nz, told_none]
  rfl
end LS
namespace LS
open PySem PySem.Spec PyProof.Rows L2
/-! a list's place, for xs[i] op= e -/
theorem get_listP {X : Cx} : PGet X (rIxL X.K) := by
  intro pins s σ H x y v u Q I rx ry h
  obtain ⟨p, xs, i, z, rfl, rfl, hq, he, q⟩ := h
  cases rx
  obtain ⟨t, rfl⟩ := ry
  obtain ⟨its, r, pl, hz⟩ := I.list hq
  obtain ⟨j, h1, h2, h3, h4, h5⟩ := atI_get he
  obtain ⟨w, ew, rw'⟩ := r.get h2
  have hl := r.length
  have hn := line63
  have fin : EP X pins σ Q w s := ⟨z, H, I, rw', q⟩
  by_cases h0 : 0 ≤ i
  · have hj : i.toNat = j := by
      rw [seqIndex_of h0 h5] at h1
      exact Option.some.inj h1
    exact wpAny_getItem_list pl.isList h0 (by omega) (by rw [hj]; simpa using ew) fin
  · have hj : (i + (its.toArray.size : Int)).toNat = j := by
      rw [seqIndex_neg (by omega) h4] at h1
      rw [List.size_toArray, ← hl]
      exact Option.some.inj h1
    exact wpAny_getItem_list_neg pl.isList (by omega) (by rw [List.size_toArray] <;> omega) (by omega) (by rw [hj]; simpa using ew) fin
end LS
set_option maxHeartbeats 4000000
/-! sorted(a tuple of texts) -/
namespace LS
open PySem PySem.Spec PyProof.Rows L2
theorem list_sort_strs {prog : Program} {w : World} {A : Around} {E : Value → Shared → Prop} {s : Shared} {a : Addr} {vs : List Value} {ss : List Str} {n : Nat} {P : Fin → Shared → Prop} (ho : s.heap.get? a = some (seqObj "list" vs.toArray n))
    (hS : StrsAre vs ss) (hL : vs.length ≤ sizeLine)
    (h : ∀ (out : Array Value) (ss' : List Str), StrsAre out.toList ss' → ss'.Perm ss → PyProof.Rows.sortedS ss' = true → P (.done (.ret .none)) { s with heap := sortedHeap s.heap a vs out }) :
    wpAny (model prog w) A (Builtin.«list.sort» ⟨[.ref a], []⟩) P E s := by
  refine list_sort_treeKAny strKind_oneLt ho hS.keysOf (fun v₁ v₂ rest e => keyKind_strs (by rw [← e]; exact hS)) hL fun st' hp hs => ?_
  obtain ⟨ss', h1, h2, h3⟩ := sorted_out_str hS hp hs
  exact h _ ss' h1 h2 h3
def rSortedTS (K : PySem.W.Frag) : List V → Hp → VK → Prop := fun vs H Q => ∃ (a : Addr) (ns : List Str), vs = [V.ref a] ∧ SqT K H a (ns.map V.str) ∧ ns.length < 64 ∧
  ∀ (ns' : List Str) (p : Addr), ns'.Perm ns → PyProof.Rows.sortedS ns' = true → H p = none → Q (.ref p) (upd H p (.lst (ns'.map V.str)))
theorem cr_sortedTS {X : Cx} : CallR X (.builtin "sorted") (rSortedTS X.K) := by
  intro pins s σ H vs us Q I r h
  obtain ⟨a, ns, rfl, hs, h64, q⟩ := h
  obtain ⟨its, rv, pt, _⟩ := I.tuple hs
  rw [Vals.ref1 r]
  have hi := rv.strs
  have hl := hi.length
  obtain ⟨o, ho, hc, n, hd⟩ := id pt
  refine Calls.call_function_entry PyProof.Rows.kind_sorted PyProof.Rows.plain_sorted PyProof.Rows.entry_sorted (PyProof.Rows.args_sorted1 _) ?_
  unfold Builtin.«sorted»
  refine wpAny_bind (m := checkCount "sorted" 1 1 _) (wpAny_pure ?_)
  refine wpAny_bind (wpAny_collect_seq a (.inr rfl) ho hc hd (fun h' hk => ?_) (by rw [List.size_toArray, sizeLine_eq]; omega))
  have I1 : Inv X pins σ H { s with heap := h' } := I.kept (t' := s.toks) hk
  have et : its.toArray.toList = its := by simp
  rw [et]
  refine wpAny_bind (wpAny_newList ?_ (by rw [sizeLine_eq]; omega))
  have hoL : (h'.push (seqObj "list" its.toArray 0)).get? h'.objs.size = some (seqObj "list" its.toArray 0) := Heap.get?_push_size _ rfl
  show wpAny _ _ _ _ _ { s with heap := h'.push (seqObj "list" its.toArray 0) }
  refine wpAny_bind (wpAny_holding (wpAny_call_entry PyProof.Rows.slot_list_sort ⟨_, hoL, rfl⟩ PyProof.Rows.entry_list_sort (list_sort_strs (s := { s with heap := h'.push (seqObj "list" its.toArray 0) }) hoL hi (by rw [sizeLine_eq]; omega) fun out ns' a1 a2 a3 => ⟨_, rfl, ?_⟩) (PyProof.Rows.args_list_sort _)))
  obtain ⟨e', he'⟩ := PyProof.Rows.sortedHeap_at (vs := its) (out := out) hoL
  have hlen : (ns'.map V.str).length ≤ sizeLine := by
    rw [List.length_map, a2.length_eq]
    exact Nat.le_trans (Nat.le_of_lt h64) (by decide)
  refine wpAny_pure ⟨_, rfl, .ref h'.objs.size, upd H h'.objs.size (.lst (ns'.map V.str)), I1.laid (t' := s.toks) (fun b u e => ?_) (Nat.le_refl _)
    (show ObjOk X.prog X.w _ _ _ (.lst (ns'.map V.str)) from ⟨hlen, out.toList, e', vals_of_strs a1, by rw [Array.toArray_toList]; exact he'⟩), rfl, q ns' _ a2 a3 (I1.hok.fresh (Nat.le_refl _))⟩
  have hb : b < h'.objs.size := Heap.lt_size e
  rw [PyProof.Rows.sortedHeap_old (Nat.ne_of_lt hb) (by rw [size_push']; exact Nat.lt_succ_of_lt hb)]
  exact Heap.get?_push_of_some _ e
end LS
set_option maxHeartbeats 8000000
namespace LS
open PySem PySem.Spec PyProof.Rows L2 TxS
/-! the law of k67: whole covers counted -/
abbrev sLaw67 : Stmt := top i_law
structure LawK67 (P : Program) (w : World) (K : PySem.W.Frag) (mg : Str → Option Value) (base : Heap) (CR CS CI CX : Addr) where
  C : StkC P w K mg base CR CS CI CX
  D : AddK P w K mg base CR CS CI
  Nm : DefK P w K mg base CX0 2 "_law_names" ["_law_row", "_law_most"] (spNamesS K)
  St : DefK P w K mg base CX0 15 "_law_stack" psLS (spLStack K CR CS 3)
  Cv : DefK P w K mg base CX0 14 "cover" ["stack"] (spCover K CR CS)
  Ct : DefK P w K mg base CX0 15 "cover_text" ["stack"] (spCovText K CR CS)
  Sh : DefK P w K mg base CX0 14 "shortest_cover" ["stack"] (spShortest K CR CS)
  Ac : DefK P w K mg base CX0 3 "answer_count" ["stack"] (spACount K CR CS)
  Ic : DefK P w K mg base CX0 15 "in_count" ["stack"] (spInCount K CR CS)
  len : mg "len" = none
  range : mg "range" = none
  sorted : mg "sorted" = none
  list : mg "list" = none
  int : mg "int" = none
def spLaw67 (K : PySem.W.Frag) : Sp := fun vs H Q _ => ∃ (a : Addr) (ns : List Int), vs = [.ref a] ∧ SqL K H a (ns.map V.int) ∧ ∀ H', Q (.bl true) H'
theorem pt_impR67 {X : Cx} {e : Expr} {t t' : TT} (h : PT X e t) (i : ∀ σ H Q, t' σ H Q → t σ H Q) : PT X e t' := ⟨fun pins s σ H Q I q => h.run pins s σ H Q I (i σ H Q q)⟩
/-- a cover of one row alone: nothing is told in it -/
def tOne (K : PySem.W.Frag) : TT := fun σ H Q => ∃ (p : Addr) (xs : List V) (num : Nat), σ[4]? = some (some (.ref p)) ∧ σ[9]? = some (some (.int ((num : Nat) : Int))) ∧ H p = some (.lst xs) ∧
  (xs.length = 1 → num = 1 ∧ ∃ (a b : Addr) (v : V), xs = [.ref a] ∧ SqT K H a [.ref b, v] ∧ SqT K H b []) ∧ ∀ H', Same H H' → Q false H'
section
variable {P : Program} {w : World} {K : PySem.W.Frag} {mg : Str → Option Value} {base : Heap} {CR CS CI CX f : Addr} {cdv : Value} {A : Around} {outer : List Env} {s : Shared} {HX : Hp} {EX : XK}
theorem scLaw67 : FnScope n_law ["_law_script"] (defScope sLaw67) := ⟨rfl, rfl, rfl, by decide +kernel, rfl, by decide +kernel, by decide +kernel⟩
theorem ok_law67 {fd : FuncData} (F : Fun K "law" "law" sLaw67 f fd) (T : LawK67 P w K mg base CR CS CI CX) : FnOk P w K mg base CX0 16 f fd ["_law_script"] (spLaw67 K) := by
  refine F.ok scLaw67 (fun vs H Q E h => ?_) (fun cdv A outer s H vs Q E hr h => ?_)
  · obtain ⟨a, ns, rfl, _⟩ := h
    rfl
  · obtain ⟨a, ns, rfl, hS, k⟩ := h
    have hu64 : (A.deeper (PyProof.Rows.envOfC "law" (defScope sLaw67) s.heap.objs.size f cdv)).units + 64 < cLine := by have := hr.un; omega
    have hs2 := sizeLine_eq
    refine ⟨_, pss_cons (ps_set (i := 1) scLaw67.nd rfl (.inl rfl) (pe_lst (pa_cons (pv 0) (pa_cons pe_int (pa_cons pe_int (pa_cons pe_int pa_nil))))))
      (pss_cons (ps_for PassesOwn.never rfl (pi_range1 (by rfl) T.range (pa_cons pe_int pa_nil)) (pg_name (i := 2) scLaw67.nd rfl (.inl rfl))
        (pss_cons (ps_set (i := 3) scLaw67.nd rfl (.inl rfl) (pe_call T.St.G hr (by rfl) T.St.g T.St.kp T.St.b .nil pass0 (pa_cons (pv 1) (pa_cons (pe_call T.Nm.G (hr.mono (by decide)) (by rfl) T.Nm.g T.Nm.kp T.Nm.b .nil pass0 (pa_cons (pv 1) (pa_cons pe_int pa_nil))) (pa_cons (pe_lst (pa_cons pe_int pa_nil)) (pa_cons pe_int pa_nil))))))
        (pss_cons (ps_par (i := 4) (j := 5) (by rfl) scLaw67.nd rfl rfl (by decide) rfl rfl (pa_cons (pe_call T.Cv.G (hr.mono (by decide)) (by rfl) T.Cv.g T.Cv.kp T.Cv.b .nil pass0 (pa_cons (pv 3) pa_nil)) (pa_cons (pe_callB call_len_seq (by rfl) T.len PySem.boot_len (pa_cons (pe_prop (pv 3) T.C.T.cl T.C.PM.pr T.C.PM.G (hr.mono (by decide)) T.C.PM.b .nil pass0 rfl) pa_nil)) pa_nil)) (by rfl))
        (pss_cons (ps_set (i := 6) scLaw67.nd rfl (.inl rfl) (pe_lst (pa_cons pe_int (pa_cons pe_int pa_nil))))
        (pss_cons (ps_for PassesOwn.never rfl (pi_list (pv 4)) (pg_tup (by rfl) (pgs_cons (pg_name (i := 7) scLaw67.nd rfl (.inl rfl)) (pgs_cons (pg_name (i := 8) scLaw67.nd rfl (.inl rfl)) pgs_nil)))
          (pss_one (ps_augS (pv 6) (pe_callTy call_int1 (by rfl) T.int (by decide +kernel) (pa_cons (pe_cmpR op_eq (pv 8) pe_str (nomark _)) pa_nil)) get_listP (pe_ix ix_list (pe_lst (pa_cons pe_int (pa_cons pe_int (pa_cons pe_int (pa_cons pe_int pa_nil))))) (pe_op op_sub (pv 5) (pe_callB call_len_seq (by rfl) T.len PySem.boot_len (pa_cons (pv 7) pa_nil))) (fun _ _ => rfl)) ip_add set_list)))
        (pss_cons (ps_if (pt_cmpR (op_neD hu64) (pv 6) (pe_lst (pa_cons (pe_op op_sub (pe_call T.Ac.G (hr.mono (by decide)) (by rfl) T.Ac.g T.Ac.kp T.Ac.b .nil pass0 (pa_cons (pv 3) pa_nil)) (pe_call T.Ic.G hr (by rfl) T.Ic.g T.Ic.kp T.Ic.b .nil pass0 (pa_cons (pv 3) pa_nil))) (pa_cons (pe_call T.Ic.G hr (by rfl) T.Ic.g T.Ic.kp T.Ic.b .nil pass0 (pa_cons (pv 3) pa_nil)) pa_nil))) (nomark _)) (pss_one (ps_ret pe_bl)) pss_nil)
        (pss_cons (ps_asg (pe_call T.Sh.G (hr.mono (by decide)) (by rfl) T.Sh.g T.Sh.kp T.Sh.b .nil pass0 (pa_cons (pv 3) pa_nil)) (pg_tup (by rfl) (pgs_cons (pg_name (i := 9) scLaw67.nd rfl (.inl rfl)) (pgs_cons (pg_name (i := 10) scLaw67.nd rfl (.inl rfl)) pgs_nil))))
        (pss_cons (ps_if (PW.pt (pw_or (pt_cmpR op_gt (pv 9) (pe_callB call_len_seq (by rfl) T.len PySem.boot_len (pa_cons (pv 4) pa_nil)) (nomark _)) (pw_or1 (pt_cmpR (op_neD hu64) (pe_callB cr_sortedTS (by rfl) T.sorted (by decide +kernel) (pa_cons (pv 10) pa_nil)) (pe_callTy call_list_of (by rfl) T.list (by decide +kernel) (pa_cons (pe_prop (pv 3) T.C.T.cl T.C.PM.pr T.C.PM.G (hr.mono (by decide)) T.C.PM.b .nil pass0 rfl) pa_nil)) (nomark _))))) (pss_one (ps_ret pe_bl)) pss_nil)
        (pss_cons (ps_if (PW.pt (pw_or (pt_cmpR op_ne (pe_op op_mod (pe_callTy call_int1 (by rfl) T.int (by decide +kernel) (pa_cons (pv 9) pa_nil)) pe_int) pe_int (nomark _)) (pw_or1 (pt_cmpR op_ne (pe_op op_mod (pe_callTy call_int1 (by rfl) T.int (by decide +kernel) (pa_cons (pe_callB call_len_seq (by rfl) T.len PySem.boot_len (pa_cons (pv 4) pa_nil)) pa_nil)) pe_int) pe_int (nomark _))))) (pss_one (ps_ret pe_bl)) pss_nil)
        (pss_cons (ps_set (i := 11) scLaw67.nd rfl (.inl rfl) (pe_op (op_addI T.D.GA (hr.mono (by decide)) T.D.aA T.D.nA T.D.bA T.D.sf passL) (pv 3) (StX.pe_makeR T.C.MS T.C.GI (hr.mono (by decide)) (by rfl) T.C.T.g passL (pa_cons (pe_make T.C.MR T.C.GR (hr.mono (by decide)) (by rfl) T.C.T.R.g T.C.bR .nil passL (pa_cons pe_str (pa_cons (pe_tup (pa_cons pe_str (pa_cons pe_str (pa_cons pe_str (pa_cons pe_str pa_nil))))) pa_nil))) pa_nil))))
        (pss_cons (ps_if (PW.pt (pw_or (pt_cmpR (op_neD hu64) (pe_call T.Cv.G (hr.mono (by decide)) (by rfl) T.Cv.g T.Cv.kp T.Cv.b .nil pass0 (pa_cons (pv 11) pa_nil)) (pv 4) (nomark _)) (pw_or1 (pt_cmpR op_ne (pe_call T.Ct.G hr (by rfl) T.Ct.g T.Ct.kp T.Ct.b .nil pass0 (pa_cons (pv 11) pa_nil)) (pe_call T.Ct.G hr (by rfl) T.Ct.g T.Ct.kp T.Ct.b .nil pass0 (pa_cons (pv 3) pa_nil)) (nomark _))))) (pss_one (ps_ret pe_bl)) pss_nil)
        (pss_cons (ps_if (PW.pt (pw_and (pt_cmpR op_lt (pv 5) pe_int (nomark _)) (pw_and1 (pt_cmpR op_ne (pe_ix ix_tup (pe_call T.Sh.G (hr.mono (by decide)) (by rfl) T.Sh.g T.Sh.kp T.Sh.b .nil pass0 (pa_cons (pv 11) pa_nil)) pe_int (fun _ _ => rfl)) (pv 9) (nomark _))))) (pss_one (ps_ret pe_bl)) pss_nil)
        (pss_cons (ps_if (pt_impR67 (t' := tOne K) (PW.pt (pw_and (pt_cmpR op_eq (pe_callB call_len_seq (by rfl) T.len PySem.boot_len (pa_cons (pv 4) pa_nil)) pe_int (nomark _)) (pw_and1 (PW.pt (pw_or (pt_cmpR (op_neD hu64) (pe_ix ix_tup (pe_ix ix_list (pv 4) pe_int (fun _ _ => rfl)) pe_int (fun _ _ => rfl)) (pe_tup pa_nil) (nomark _)) (pw_or1 (pt_cmpR op_ne (pv 9) pe_int (nomark _)))))))) (fun σ H Q h => ?_)) (pss_one (ps_ret pe_bl)) pss_nil)
        (pss_cons (ps_set (i := 12) scLaw67.nd rfl (.inl rfl) (pe_op (op_addI T.D.GA (hr.mono (by decide)) T.D.aA T.D.nA T.D.bA T.D.sf passL) (StX.pe_makeR T.C.MS T.C.GI (hr.mono (by decide)) (by rfl) T.C.T.g passL (pa_cons (pe_make T.C.MR T.C.GR (hr.mono (by decide)) (by rfl) T.C.T.R.g T.C.bR .nil passL (pa_cons pe_str (pa_cons (pe_tup (pa_cons pe_str (pa_cons pe_str (pa_cons pe_str (pa_cons pe_str pa_nil))))) pa_nil))) pa_nil)) (pv 3)))
        (pss_one (ps_if (PW.pt (pw_or (pt_cmpR (op_neD hu64) (pe_call T.Cv.G (hr.mono (by decide)) (by rfl) T.Cv.g T.Cv.kp T.Cv.b .nil pass0 (pa_cons (pv 12) pa_nil)) (pe_lst (pa_cons (pe_tup (pa_cons (pe_tup pa_nil) (pa_cons pe_str pa_nil))) pa_nil)) (nomark _)) (pw_or1 (pt_cmpR op_ne (pe_call T.Ct.G hr (by rfl) T.Ct.g T.Ct.kp T.Ct.b .nil pass0 (pa_cons (pv 12) pa_nil)) pe_str (nomark _))))) (pss_one (ps_ret pe_bl)) pss_nil))))))))))))))))
      (pss_one (ps_ret pe_bl))), ?_⟩
    · obtain ⟨p, xs, num, e4, e9, hp, h1, kk⟩ := h
      refine ⟨_, e4, p, xs, rfl, .inl (SqL.of hp), ?_⟩
      refine ⟨rfl, _, rfl, ?_⟩
      refine ite2 (fun hl => ?_) (fun hl => ?_)
      · have hl1 : V.int ((xs.length : Nat) : Int) = V.int 1 := of_decide_eq_true hl
        have hl2 : ((xs.length : Nat) : Int) = 1 := by injection hl1
        obtain ⟨n1, a0, b0, v0, rfl, ha0, hb0⟩ := h1 (by omega)
        refine ⟨_, e4, p, _, 0, _, rfl, rfl, SqL.of hp, rfl, a0, _, 0, _, rfl, rfl, ha0, rfl, Nat.zero_le _, fun e ne => ?_⟩
        have S1 := same_upd (o := .tup []) ne (Same.refl H)
        have e1 : upd H e (.tup []) e = some (.tup []) := upd_same
        generalize upd H e (.tup []) = H1 at *
        refine ⟨.tuple [], .tuple [], .tup (same_tup S1 hb0) .nil, .tup (SqT.of e1) .nil, by decide +kernel, by decide +kernel, ?_⟩
        rw [eqv_self (d := .tuple []) (by decide +kernel)]
        refine ⟨_, rfl, iteF ?_⟩
        refine ⟨_, e9, rfl, _, rfl, ?_⟩
        rw [n1]
        exact kk _ S1
      · exact kk _ (Same.refl H)
    refine ⟨_, rfl, by show 4 ≤ sizeLine; decide, fun r nr => ?_⟩
    have hR0 : RowIs (upd H r (.lst [.ref a, .int 0, .int 0, .int 0])) r a := ⟨0, 0, 0, by decide, upd_same⟩
    have hS0 := seq_new (o := .lst [.ref a, .int 0, .int 0, .int 0]) hS nr
    generalize upd H r (.lst [.ref a, .int 0, .int 0, .int 0]) = H0 at *
    refine ⟨3, rfl, by decide, by decide, ?_⟩
    refine for_it walk_range (fun i σ H' => (∃ x2 x3 x4 x5 x6 x7 x8 x9 x10 x11 x12, σ = [some (.ref a), some (.ref r), x2, x3, x4, x5, x6, x7, x8, x9, x10, x11, x12]) ∧ Drw K H' r a ns) ⟨⟨none, none, none, none, none, none, none, none, none, none, none, rfl⟩, hS0, hR0⟩ (fun _ _ _ _ _ => True.intro) ?_ ?_
    · rintro i v σ H1 H1' hi ⟨⟨x2, x3, x4, x5, x6, x7, x8, x9, x10, x11, x12, rfl⟩, d1⟩ ⟨rfl, rfl⟩
      -- a stack drawn
      refine ⟨_, rfl, _, rfl, r, a, ns, 3, rfl, by decide, by decide, d1, fun nm zs H2 nnm hnm hz hz3 znd z5 d2 B2 => ?_⟩
      refine ⟨by show 1 ≤ sizeLine; decide, fun lf nlf => ?_⟩
      have S3 := same_upd (o := .lst [.int 7]) nlf (Same.refl H2)
      have e3 : upd H2 lf (.lst [.int 7]) lf = some (.lst [.int ((7 : Nat) : Int)]) := upd_same
      have far := far_of d2.1 nlf
      have d3 := drw_new (o := .lst [.int 7]) d2 nlf
      generalize upd H2 lf (.lst [.int 7]) = H3 at *
      refine ⟨r, a, nm, lf, ns, zs, 7, 3, rfl, d3, S3 _ _ hnm, hz, by omega, fun z hz' => names5_word z (z5 z hz'), e3, far, by decide, by decide, by decide, by decide, fun x es c' H4 d4 B4 l4 cn4 en4 dn4 => ?_⟩
      have lr : (rulesEs es).length ≤ 7 := by omega
      obtain ⟨ms, DA⟩ := drawn_at en4 dn4 z5
      have m3 : ms.length ≤ 3 := Nat.le_trans (nodup_le zs ms DA.m.mods.1 fun y hy => by
        obtain ⟨q, hq, rfl⟩ := List.mem_map.mp ((DA.m.mods.2.2 y).mp hy)
        exact (dn4.ok q hq).1) hz3
      have nz : zzS ∉ ms := fun q => no_zz (DA.sub _ q)
      have ents := DA.ents
      have deep := DA.deep
      have inm : ∀ q ∈ rulesEs es, q.2.1 ∈ ms := fun q hq => (DA.m.mods.2.2 _).mpr (List.mem_map.mpr ⟨q, hq, rfl⟩)
      -- its cover
      refine ⟨_, rfl, x, es, ms, rfl, DA.m, fun p xs H5 S5 np hp hc => ?_⟩
      have D5 := DA.same S5
      obtain ⟨⟨dx, e, rr, m, mx, h1, h2, h3, h4', h5, leg⟩, h6⟩ := id D5.m.e
      refine ⟨_, rfl, x, dx, _, rfl, h1, x, es, rfl, D5.m.e, fun t2 ms2 ht2 hms => ?_⟩
      obtain rfl := mods_same hms D5.m.mods
      refine ⟨t2, _, rfl, .inr ht2, ?_⟩
      rw [List.length_map]
      refine ⟨_, _, rfl, ?_⟩
      have hp6 := hp
      have hc6 := hc
      have D6 := D5
      have d6 := d4.same S5
      -- its rows counted
      refine ⟨by show 2 ≤ sizeLine; decide, fun c nc => ?_⟩
      have S7 : Same H5 (upd H5 c (.lst [.int 0, .int 0])) := same_upd nc (Same.refl H5)
      have e7 : upd H5 c (.lst [.int 0, .int 0]) c = some (.lst [.int 0, .int 0]) := upd_same
      generalize upd H5 c (.lst [.int 0, .int 0]) = H7 at *
      have qu := DA.quiet
      have xl := Paired.length hc6
      have vts := rowsF_vt (f := wordL es ms2) (n := ms2.length) ms2.length
      have sts := rows_sett (f := wordL es ms2) (word_not_open es ms2) ms2.length
      have cin := cnt_in es ms2
      have cout := cnt_out es ms2
      have three := rows_three (wordL es ms2) ms2.length
      have one := rows_one (f := wordL es ms2) (n := ms2.length)
      have lrow := lenF_rows (wordL es ms2) ms2.length
      have csh := cov_sh es ms2 ms2.length ms2.length
      have qcov := fun q => (qu q).covD
      have qtext := fun q => (qu q).text
      generalize hL : rowsF (wordL es ms2) ms2.length ms2.length = L at *
      refine ⟨_, rfl, p, rfl, ⟨_, SqL.of (S7 _ _ hp6)⟩, ?_⟩
      refine for_list (xs := xs) (fun j σ G => (∃ y7 y8, σ = [some (.ref a), some (.ref r), some (.int (0 + ((i : Nat) : Int))), some (.ref x), some (.ref p), some (.int ((ms2.length : Nat) : Int)), some (.ref c), y7, y8, x9, x10, x11, x12]) ∧ Same H5 G ∧ G c = some (.lst [.int ((cntX (wordL es ms2) ms2.length "out" (L.take j) : Nat) : Int), .int ((cntX (wordL es ms2) ms2.length "in" (L.take j) : Nat) : Int)]))
        ⟨⟨_, _, rfl⟩, S7, e7⟩ (fun j σ G _ q => SqL.of (q.2.1 _ _ hp6)) ?_ ?_
      · rintro j v σ G hvj ⟨⟨y7, y8, rfl⟩, SG, hcG⟩
        obtain ⟨t, htj, ta, tb, rfl, hta, htb⟩ := paired_get (hc6.same SG) hvj
        have tm := List.mem_of_getElem? htj
        have tw := told_fewW (vts t tm)
        have sn := sts t tm
        refine ⟨ta, _, rfl, hta, rfl, ?_⟩
        refine ⟨_, _, rfl, _, _, rfl, rfl, ?_⟩
        refine ⟨_, rfl, _, rfl, rfl, .inr ⟨_, rfl, ?_⟩⟩
        rw [cntX_take htj, cntX_take htj]
        have two : settS (wordL es ms2) t = "in" ∨ settS (wordL es ms2) t = "out" := by
          rcases sett_three es ms2 t with e | e | e
          · exact .inl e
          · exact .inr e
          · exact absurd e sn
        have fin : ∀ (wd : V) (ix : Int) (jx : Nat) (u v : Nat), ((ix = 1 ∧ jx = 1) ∨ (ix = 0 ∧ jx = 0)) → True := fun _ _ _ _ _ _ => True.intro
        clear fin
        rcases two with e | e
        · have w1 : wgtF (wordL es ms2) ms2.length "out" t = 0 := if_neg (by rw [e]; decide +kernel)
          have w2 : wgtF (wordL es ms2) ms2.length "in" t = 4 ^ (ms2.length - (toldW t).length) := if_pos e
          rw [w1, w2, e, decide_eq_true (rfl : V.str "in" = V.str "in"), if_pos rfl]
          refine ⟨c, _, 1, _, rfl, rfl, SqL.of hcG, rfl, ?_⟩
          refine ⟨by show 4 ≤ sizeLine; decide, fun l4 nl4 => ?_⟩
          have S8 : Same G (upd G l4 (.lst [.int 1, .int 4, .int 16, .int 64])) := same_upd nl4 (Same.refl G)
          have e8 : upd G l4 (.lst [.int 1, .int 4, .int 16, .int 64]) l4 = some (.lst [.int 1, .int 4, .int 16, .int 64]) := upd_same
          generalize upd G l4 (.lst [.int 1, .int 4, .int 16, .int 64]) = G8 at *
          refine ⟨_, rfl, _, rfl, tb, _, rfl, .inr (same_tup S8 htb), _, _, rfl, rfl, ?_⟩
          refine ⟨l4, _, _, .int ((4 ^ (ms2.length - (toldW t).length) : Nat) : Int), rfl, rfl, SqL.of e8, ?_, ?_⟩
          · rw [List.length_map, show ((ms2.length : Nat) : Int) - (((t.filterMap id).length : Nat) : Int) = ((ms2.length - (toldW t).length : Nat) : Int) by have := tw.1; unfold toldW at *; omega]
            refine atI_nat ?_
            have := pow_ix m3 tw.1
            exact (List.getElem?_map (f := V.int) (l := [1, 4, 16, 64])).trans (by rw [this]; rfl)
          refine ⟨_, _, rfl, rfl, ?_⟩
          refine ⟨c, _, 1, 1, rfl, rfl, S8 _ _ hcG, rfl, ?_⟩
          refine ⟨⟨_, _, rfl⟩, same_upd nc (SG.trans S8), ?_⟩
          rw [upd_same]
          rfl
        · have w1 : wgtF (wordL es ms2) ms2.length "in" t = 0 := if_neg (by rw [e]; decide +kernel)
          have w2 : wgtF (wordL es ms2) ms2.length "out" t = 4 ^ (ms2.length - (toldW t).length) := if_pos e
          rw [w1, w2, e, decide_eq_false (show ¬ V.str "out" = V.str "in" from fun q => by injection q with q; exact absurd q (by decide +kernel)), if_neg Bool.false_ne_true]
          refine ⟨c, _, 0, _, rfl, rfl, SqL.of hcG, rfl, ?_⟩
          refine ⟨by show 4 ≤ sizeLine; decide, fun l4 nl4 => ?_⟩
          have S8 : Same G (upd G l4 (.lst [.int 1, .int 4, .int 16, .int 64])) := same_upd nl4 (Same.refl G)
          have e8 : upd G l4 (.lst [.int 1, .int 4, .int 16, .int 64]) l4 = some (.lst [.int 1, .int 4, .int 16, .int 64]) := upd_same
          generalize upd G l4 (.lst [.int 1, .int 4, .int 16, .int 64]) = G8 at *
          refine ⟨_, rfl, _, rfl, tb, _, rfl, .inr (same_tup S8 htb), _, _, rfl, rfl, ?_⟩
          refine ⟨l4, _, _, .int ((4 ^ (ms2.length - (toldW t).length) : Nat) : Int), rfl, rfl, SqL.of e8, ?_, ?_⟩
          · rw [List.length_map, show ((ms2.length : Nat) : Int) - (((t.filterMap id).length : Nat) : Int) = ((ms2.length - (toldW t).length : Nat) : Int) by have := tw.1; unfold toldW at *; omega]
            refine atI_nat ?_
            have := pow_ix m3 tw.1
            exact (List.getElem?_map (f := V.int) (l := [1, 4, 16, 64])).trans (by rw [this]; rfl)
          refine ⟨_, _, rfl, rfl, ?_⟩
          refine ⟨c, _, 0, 0, rfl, rfl, S8 _ _ hcG, rfl, ?_⟩
          refine ⟨⟨_, _, rfl⟩, same_upd nc (SG.trans S8), ?_⟩
          rw [upd_same]
          rfl
      rintro σ H8 ⟨⟨y7, y8, rfl⟩, S8, hc8⟩
      rw [xl, List.take_length, cin] at hc8
      have D8 := D6.same S8
      have d8 := d6.same S8
      -- the counts
      have ec : ((4 ^ ms2.length : Nat) : Int) - (((goodF es ms2).length : Nat) : Int) = ((cntX (wordL es ms2) ms2.length "out" L : Nat) : Int) := by omega
      refine ⟨_, rfl, _, rfl, x, es, ms2, rfl, D8.m, fun H9 S9 => ?_⟩
      refine ⟨_, rfl, x, es, ms2, rfl, (D8.same S9).m, fun H10 S10 => ?_⟩
      refine ⟨_, _, rfl, rfl, ?_⟩
      refine ⟨_, rfl, x, es, ms2, rfl, (D8.same (S9.trans S10)).m, fun H11 S11 => ?_⟩
      refine ⟨by show 2 ≤ sizeLine; decide, fun q1 nq1 => ?_⟩
      dsimp only
      rw [ec]
      have S12 := same_upd (o := .lst [.int ((cntX (wordL es ms2) ms2.length "out" L : Nat) : Int), .int (((goodF es ms2).length : Nat) : Int)]) nq1 (Same.refl H11)
      have e12 : upd H11 q1 (.lst [.int ((cntX (wordL es ms2) ms2.length "out" L : Nat) : Int), .int (((goodF es ms2).length : Nat) : Int)]) q1 = some (.lst [.int ((cntX (wordL es ms2) ms2.length "out" L : Nat) : Int), .int (((goodF es ms2).length : Nat) : Int)]) := upd_same
      generalize upd H11 q1 (.lst [.int ((cntX (wordL es ms2) ms2.length "out" L : Nat) : Int), .int (((goodF es ms2).length : Nat) : Int)]) = H12 at *
      have T12 := S9.trans (S10.trans (S11.trans S12))
      refine ⟨.list ([((cntX (wordL es ms2) ms2.length "out" L : Nat) : Int), (((goodF es ms2).length : Nat) : Int)].map PyData.int), .list ([((cntX (wordL es ms2) ms2.length "out" L : Nat) : Int), (((goodF es ms2).length : Nat) : Int)].map PyData.int), .lst (SqL.of (T12 _ _ hc8)) (ints_dpN [_, _]), .lst (SqL.of e12) (ints_dpN [_, _]), list_sh _, list_sh _, ?_⟩
      rw [eqv_self (list_sh _)]
      refine ⟨_, rfl, iteF ?_⟩
      have D12 := D8.same T12
      have d12 := d8.same T12
      have hp12 := T12 _ _ (S8 _ _ hp6)
      have hc12 := (hc6.same S8).same T12
      -- the shortest
      obtain ⟨o, eo, po, mo⟩ := best_nats (lenF (wordL es ms2) ms2.length) ms2.length
      have le1 : lenF (wordL es ms2) ms2.length o ≤ L.length := by rw [← lrow]; exact mo _ (.refl _)
      have n3 : lenF (wordL es ms2) ms2.length o % 3 = 1 := by rw [lenF_O]; exact lenO_three _ _ _
      refine ⟨_, rfl, x, es, ms2, rfl, D12.m, by omega, fun v H13 S13 hb => ?_⟩
      rw [eo] at hb
      obtain ⟨b, oa, rfl, hb1, hb2⟩ := hb
      refine ⟨b, _, rfl, hb1, rfl, ?_⟩
      refine ⟨_, _, rfl, _, _, rfl, rfl, ?_⟩
      have hp13 := S13 _ _ hp12
      have D13 := D12.same S13
      refine ⟨_, rfl, _, rfl, p, xs, rfl, .inl (SqL.of hp13), _, _, rfl, rfl, _, rfl, ?_⟩
      generalize hnum : lenF (wordL es ms2) ms2.length o = num at *
      rw [decide_eq_false (by rw [xl]; show ¬ ((L.length : Nat) : Int) < ((num : Nat) : Int); omega)]
      refine iteF ?_
      have pn := names_perm po
      have hok : ∀ w ∈ ms2, PyData.strOk w = true := fun w hw => names5_strOk w (DA.sub w hw)
      refine ⟨_, rfl, oa, _, rfl, hb2, by rw [List.length_map, po.length_eq, nats_len]; omega, fun ys q pm so nq => ?_⟩
      have ey : ys = ms2 := sortedS_same ((pm.trans pn).nodup_iff.mpr DA.m.mods.1) DA.m.mods.1 (fun y => (pm.trans pn).mem_iff) so DA.m.mods.2.1
      rw [ey]
      have S14 := same_upd (o := .lst (ms2.map V.str)) nq (Same.refl H13)
      have e14 : upd H13 q (.lst (ms2.map V.str)) q = some (.lst (ms2.map V.str)) := upd_same
      generalize upd H13 q (.lst (ms2.map V.str)) = H14 at *
      have D14 := D13.same S14
      obtain ⟨⟨dx1, e', rr', m', mx', h1', h2', h3', h4'', h5', leg'⟩, h6'⟩ := id D14.m.e
      refine ⟨_, rfl, x, dx1, _, rfl, h1', x, es, rfl, D14.m.e, fun t3 ms3 ht3 hms3 => ?_⟩
      have em : ms3 = ms2 := mods_same hms3 D14.m.mods
      rw [em] at ht3
      refine ⟨t3, _, rfl, .inr ht3, fun l nl => ?_⟩
      have S15 := same_upd (o := .lst (ms2.map V.str)) nl (Same.refl H14)
      have e15 : upd H14 l (.lst (ms2.map V.str)) l = some (.lst (ms2.map V.str)) := upd_same
      generalize upd H14 l (.lst (ms2.map V.str)) = H15 at *
      refine ⟨.list (ms2.map PyData.str), .list (ms2.map PyData.str), .lst (SqL.of (S15 _ _ e14)) (strs_dpN _), .lst (SqL.of e15) (strs_dpN _), strsD_sh _ hok, strsD_sh _ hok, ?_⟩
      rw [eqv_self (strsD_sh _ hok)]
      refine ⟨_, rfl, iteF ?_⟩
      have T15 := S13.trans (S14.trans S15)
      have D15 := D12.same T15
      have d15 := d12.same T15
      have hp15 := T15 _ _ hp12
      have hc15 := hc12.same T15
      -- by three
      refine ⟨_, rfl, .inl ⟨_, rfl, _, _, rfl, rfl, (by show (0 : Int) < 3; decide), ?_⟩⟩
      refine ⟨rfl, _, rfl, ?_⟩
      rw [decide_eq_true (show V.int (((num : Nat) : Int) % 3) = V.int 1 by rw [show ((num : Nat) : Int) % 3 = 1 by omega])]
      refine iteF ?_
      refine ⟨_, rfl, p, xs, rfl, .inl (SqL.of hp15), .inl ⟨_, rfl, _, _, rfl, rfl, (by show (0 : Int) < 3; decide), ?_⟩⟩
      refine ⟨rfl, _, rfl, ?_⟩
      rw [decide_eq_true (show V.int (((xs.length : Nat) : Int) % 3) = V.int 1 by rw [show ((xs.length : Nat) : Int) % 3 = 1 by omega])]
      refine iteF ?_
      -- a rule more that does nothing
      refine ⟨_, rfl, ?_⟩
      refine ⟨by show 4 ≤ sizeLine; decide, fun tq1 nt1 => ?_⟩
      have Sq1 := same_upd (o := .tup [.str "ignore", .str "ignore", .str "ignore", .str "ignore"]) nt1 (Same.refl H15)
      have eq1 : upd H15 tq1 (.tup [.str "ignore", .str "ignore", .str "ignore", .str "ignore"]) tq1 = some (.tup [.str "ignore", .str "ignore", .str "ignore", .str "ignore"]) := upd_same
      generalize upd H15 tq1 (.tup [.str "ignore", .str "ignore", .str "ignore", .str "ignore"]) = Hq1 at *
      intro xr1 dxr1 nxr1 ndr1 hner1
      refine rule_run (dc := .tuple ignD) (ds := ignD) (z := zzS) (by decide +kernel) (by decide +kernel) (.tup (SqT.of eq1) (.cons (.str _) (.cons (.str _) (.cons (.str _) (.cons (.str _) .nil))))) (okT_ctl ign_okT) (okT_acts ign_okT) nxr1 ndr1 hner1 (fun Hr1 Sr1 Rr1 => ?_)
      intro xs1 dxs1 nxs1 nds1 hnes1
      have fit1 : misfit [.rule xr1 zzS ignD] = none := fit_of (zs := [zzS]) (by show 1 ≤ 12; decide) (by show max 0 0 ≤ 2; decide) (by show 1 ≤ 12; decide) (by show 1 ≤ 6; decide) (fun q hq => by rw [List.mem_singleton.mp hq]; exact List.mem_singleton.mpr rfl)
      refine stack_at (es := [.rule xr1 zzS ignD]) ⟨⟨Rr1, okT_okD ign_okT⟩, True.intro⟩ (by show 1 ≤ 1000; decide) nxs1 nds1 hnes1 (fun j hj => by rw [fit1] at hj; cases hj) (fun _ Hs1 Ss1 ens1 => ?_)
      have T1 := Sq1.trans (Sr1.trans Ss1)
      have D16 := D15.same T1
      obtain ⟨dxa, fsa, hxa⟩ := stk_ins D16.m.e
      obtain ⟨dxb, fsb, hxb⟩ := stk_ins ens1
      have fitq : misfit (es ++ [.rule xr1 zzS ignD]) = none := fit_of (zs := ms2 ++ [zzS]) (by rw [List.length_append]; show es.length + 1 ≤ 12; omega) (by rw [depthEs_snoc]; show max (depthEs es) 0 ≤ 2; omega) (by rw [rulesEs_append, List.length_append]; show (rulesEs es).length + 1 ≤ 12; omega) (by rw [List.length_append]; show ms2.length + 1 ≤ 6; omega) (fun q hq => by
        rw [rulesEs_append] at hq
        rcases List.mem_append.mp hq with w | w
        · exact List.mem_append_left _ (inm q w)
        · rw [List.mem_singleton.mp w]
          exact List.mem_append_right _ List.mem_cons_self)
      refine ⟨x, xs1, dxa, dxb, fsa, fsb, rfl, rfl, hxa, hxb, x, xs1, es, [.rule xr1 zzS ignD], rfl, D16.m.e, ens1, (fun j hj => by rw [fitq] at hj; cases hj), fun _ xq H17 S17 en17 => ?_⟩
      obtain ⟨Mq, plq, nzq⟩ := DA.end_ en17
      have hlen : (ms2 ++ [zzS]).length = ms2.length + 1 := by rw [List.length_append]; rfl
      have T17 := T1.trans S17
      have D17 := D15.same T17
      have hp17 := T17 _ _ hp15
      have hc17 := hc15.same T17
      -- its cover is the same
      refine ⟨_, rfl, xq, _, _, rfl, Mq, fun pq xsq H18 S18 npq hpq hcq => ?_⟩
      rw [hlen] at hcq
      refine ⟨_, rfl, ?_⟩
      refine ⟨covD (wordL (es ++ [Ent.rule xr1 zzS ignD]) (ms2 ++ [zzS])) (rowsF (wordL (es ++ [Ent.rule xr1 zzS ignD]) (ms2 ++ [zzS])) (ms2.length + 1) (ms2.length + 1)), covD (wordL es ms2) L, cov_dp hpq hcq, cov_dp (S18 _ _ hp17) (hc17.same S18), cov_sh (es ++ [Ent.rule xr1 zzS ignD]) (ms2 ++ [zzS]) (ms2.length + 1) (ms2.length + 1), csh, ?_⟩
      rw [qcov xr1, eqv_self csh]
      refine ⟨_, rfl, iteF ?_⟩
      refine ⟨_, rfl, xq, _, _, rfl, Mq.same S18, by rw [hlen]; omega, fun H19 S19 => ?_⟩
      refine ⟨_, rfl, x, es, ms2, rfl, (D17.same (S18.trans S19)).m, by omega, fun H20 S20 => ?_⟩
      refine ⟨rfl, _, rfl, ?_⟩
      rw [hlen, qtext xr1, hL, decide_eq_true rfl]
      refine iteF ?_
      -- its shortest cover is as short
      refine ⟨_, rfl, _, _, rfl, rfl, _, rfl, ?_⟩
      rw [decide_eq_true (by omega)]
      refine iteT ?_
      obtain ⟨oq, eoq, _, _⟩ := best_nats (lenF (wordL (es ++ [Ent.rule xr1 zzS ignD]) (ms2 ++ [zzS])) (ms2.length + 1)) (ms2.length + 1)
      have T20 := S18.trans (S19.trans S20)
      refine ⟨_, rfl, xq, _, _, rfl, Mq.same T20, by rw [hlen]; omega, fun v H21 S21 hbq => ?_⟩
      rw [hlen, eoq] at hbq
      obtain ⟨bq, oaq, rfl, hbq1, hbq2⟩ := hbq
      refine ⟨bq, _, 0, _, rfl, rfl, hbq1, rfl, _, rfl, ?_⟩
      refine ⟨rfl, _, rfl, ?_⟩
      have ebest := (qu xr1).best eo eoq
      rw [← ebest, decide_eq_true rfl]
      refine iteF ?_
      have T21 := T17.trans (T20.trans S21)
      have hp21 := T21 _ _ hp15
      have hc21 := hc15.same T21
      -- one row alone
      refine ⟨p, xs, num, rfl, rfl, hp21, fun h1 => ⟨by omega, ?_⟩, fun H22 S22 => iteF ?_⟩
      · have eL := one (by omega)
        rw [eL] at hc21
        have et : (noneT ms2.length).filterMap id = [] := told_none ms2.length
        cases hc21 with
        | cons h t =>
          cases t
          obtain ⟨a0, b0, rfl, h2, h3⟩ := h
          rw [et] at h3
          exact ⟨a0, b0, _, rfl, h2, h3⟩
      have T22 := T21.trans S22
      -- a rule ahead that ends it
      refine ⟨by show 4 ≤ sizeLine; decide, fun tq2 nt2 => ?_⟩
      have Sq2 := same_upd (o := .tup [.str "die", .str "die", .str "die", .str "die"]) nt2 (Same.refl H22)
      have eq2 : upd H22 tq2 (.tup [.str "die", .str "die", .str "die", .str "die"]) tq2 = some (.tup [.str "die", .str "die", .str "die", .str "die"]) := upd_same
      generalize upd H22 tq2 (.tup [.str "die", .str "die", .str "die", .str "die"]) = Hq2 at *
      intro xr2 dxr2 nxr2 ndr2 hner2
      refine rule_run (dc := .tuple dieD) (ds := dieD) (z := zzS) (by decide +kernel) (by decide +kernel) (.tup (SqT.of eq2) (.cons (.str _) (.cons (.str _) (.cons (.str _) (.cons (.str _) .nil))))) (okT_ctl die_okT) (okT_acts die_okT) nxr2 ndr2 hner2 (fun Hr2 Sr2 Rr2 => ?_)
      intro xs2 dxs2 nxs2 nds2 hnes2
      have fit2 : misfit [.rule xr2 zzS dieD] = none := fit_of (zs := [zzS]) (by show 1 ≤ 12; decide) (by show max 0 0 ≤ 2; decide) (by show 1 ≤ 12; decide) (by show 1 ≤ 6; decide) (fun q hq => by rw [List.mem_singleton.mp hq]; exact List.mem_singleton.mpr rfl)
      refine stack_at (es := [.rule xr2 zzS dieD]) ⟨⟨Rr2, okT_okD die_okT⟩, True.intro⟩ (by show 1 ≤ 1000; decide) nxs2 nds2 hnes2 (fun j hj => by rw [fit2] at hj; cases hj) (fun _ Hs2 Ss2 ens2 => ?_)
      have T23 := T22.trans (Sq2.trans (Sr2.trans Ss2))
      have D23 := D15.same T23
      obtain ⟨dxc, fsc, hxc⟩ := stk_ins ens2
      obtain ⟨dxd, fsd, hxd⟩ := stk_ins D23.m.e
      have fita : misfit ([.rule xr2 zzS dieD] ++ es) = none := fit_of (zs := zzS :: ms2) (by show es.length + 1 ≤ 12; omega) (by show max 0 (depthEs es) ≤ 2; omega) (by show (rulesEs es).length + 1 ≤ 12; omega) (by show ms2.length + 1 ≤ 6; omega) (fun q hq => by
        rcases List.mem_cons.mp (show q ∈ (xr2, zzS, dieD) :: rulesEs es from hq) with w | w
        · rw [w]
          exact List.mem_cons_self
        · exact List.mem_cons_of_mem _ (inm q w))
      refine ⟨_, rfl, xs2, x, dxc, dxd, fsc, fsd, rfl, rfl, hxc, hxd, xs2, x, [.rule xr2 zzS dieD], es, rfl, ens2, D23.m.e, (fun j hj => by rw [fita] at hj; cases hj), fun _ xa H24 S24 en24 => ?_⟩
      have Ma := DA.shut_ (p := xr2) en24
      have T24 := T23.trans S24
      have sdat := shut_data (p := xr2) (es := es) nz
      have stxt := shut_text (p := xr2) (es := es) nz
      have ssh := cov_sh (Ent.rule xr2 zzS dieD :: es) (ms2 ++ [zzS]) (ms2.length + 1) (ms2.length + 1)
      refine ⟨_, rfl, xa, _, _, rfl, Ma, fun pa xsa H25 S25 npa hpa hca => ?_⟩
      rw [hlen] at hca
      have hda := cov_dp hpa hca
      rw [sdat] at hda ssh
      refine ⟨Nat.zero_le _, fun u1 nu1 => ⟨by show 2 ≤ sizeLine; decide, fun u2 nu2 => ⟨by show 1 ≤ sizeLine; decide, fun u3 nu3 => ?_⟩⟩⟩
      have U1 := same_upd (o := .tup []) nu1 (Same.refl H25)
      have eu1 : upd H25 u1 (.tup []) u1 = some (.tup []) := upd_same
      generalize upd H25 u1 (.tup []) = H26 at *
      have U2 := same_upd (o := .tup [.ref u1, .str "out"]) nu2 (Same.refl H26)
      have eu2 : upd H26 u2 (.tup [.ref u1, .str "out"]) u2 = some (.tup [.ref u1, .str "out"]) := upd_same
      generalize upd H26 u2 (.tup [.ref u1, .str "out"]) = H27 at *
      have U3 := same_upd (o := .lst [.ref u2]) nu3 (Same.refl H27)
      have eu3 : upd H27 u3 (.lst [.ref u2]) u3 = some (.lst [.ref u2]) := upd_same
      generalize upd H27 u3 (.lst [.ref u2]) = H28 at *
      have U := U1.trans (U2.trans U3)
      refine ⟨.list [.tuple [.tuple [], .str "out"]], .list [.tuple [.tuple [], .str "out"]], ?_, .lst (SqL.of eu3) (.cons (.tup (SqT.of (U3 _ _ eu2)) (.cons (.tup (SqT.of ((U2.trans U3) _ _ eu1)) .nil) (.cons (.str _) .nil))) .nil), ssh, ssh, ?_⟩
      · rw [← sdat]
        exact cov_dp (U _ _ hpa) (hca.same U)
      rw [eqv_self ssh]
      refine ⟨_, rfl, iteF ?_⟩
      refine ⟨_, rfl, xa, _, _, rfl, Ma.same (S25.trans U), by rw [hlen]; omega, fun H29 S29 => ?_⟩
      refine ⟨rfl, _, rfl, ?_⟩
      rw [hlen, stxt, decide_eq_true rfl]
      refine iteF ?_
      exact ⟨⟨_, _, _, _, _, _, _, _, _, _, _, rfl⟩, d15.same (T24.trans (S25.trans (U.trans S29)))⟩
    · rintro σ H1 ⟨⟨x2, x3, x4, x5, x6, x7, x8, x9, x10, x11, x12, rfl⟩, d1⟩
      exact k H1
end
end LS
set_option maxHeartbeats 4000000
namespace LS
open PySem L2
section
variable {P : Program} {w : World} {K : PySem.W.Frag} {mg : Str → Option Value} {base : Heap}
theorem scTaken : FnScope ["_law_row", "_law_many", "_law_found", "_law_cell"] ["_law_row", "_law_many"] (defScope sTaken) := ⟨rfl, rfl, rfl, by decide +kernel, rfl, by decide +kernel, by decide +kernel⟩
theorem ok_taken {f : Addr} {fd : FuncData} (F : Fun K "_law_taken" "_law_taken" sTaken f fd) (mL : mg "len" = none) (mI : mg "int" = none) : FnOk P w K mg base CX0 1 f fd ["_law_row", "_law_many"] (spTaken K) := by
  refine F.ok scTaken (fun vs H Q E h => ?_) (fun cdv A outer s H vs Q E hr h => ?_)
  · obtain ⟨r, sc, ns, many, rfl, _⟩ := h
    rfl
  · obtain ⟨r, sc, ns, many, rfl, hm0, hm1, hS, ⟨i, z, b, hi, hR⟩, k⟩ := h
    have hmw : ∀ i : Int, CDivW i many := fun i => wide_div hm0 (b := 63) (by omega) (by decide) (by decide)
    refine ⟨_, pss_cons (ps_if (pt_cmpR op_gt (pe_ix ix_list (pv 0) pe_int (fun _ _ => rfl)) pe_int (nomark _))
        (pss_cons (ps_set (i := 2) scTaken.nd rfl (.inl rfl) (pe_op op_mod (pe_callTy call_int1 (by rfl) mI (by decide +kernel) (pa_cons (pe_ix ix_list (pv 0) pe_int (fun _ _ => rfl)) pa_nil)) (pv 1)))
          (pss_cons (ps_asg (pe_op op_fdivW (pe_ix ix_list (pv 0) pe_int (fun _ _ => rfl)) (pv 1)) (pg_sub (pv 0) pe_int set_list))
          (pss_one (ps_ret (pv 2))))) pss_nil)
      (pss_cons (ps_asg (pe_op op_add (pe_ix ix_list (pv 0) pe_int (fun _ _ => rfl)) pe_int) (pg_sub (pv 0) pe_int set_list))
      (pss_cons (ps_if (pt_cmpR op_gt (pe_ix ix_list (pv 0) pe_int (fun _ _ => rfl)) (pe_callB call_len_seq (by rfl) mL PySem.boot_len (pa_cons (pe_ix ix_list (pv 0) pe_int (fun _ _ => rfl)) pa_nil)) (nomark _))
        (pss_cons (ps_asg (pe_op op_mod (pe_callTy call_int1 (by rfl) mI (by decide +kernel) (pa_cons (pe_op op_add (pe_op op_mul (pe_ix ix_list (pv 0) pe_int (fun _ _ => rfl)) pe_int) pe_int) pa_nil)) pe_int) (pg_sub (pv 0) pe_int set_list))
          (pss_one (ps_ret (pe_op op_mod (pe_callTy call_int1 (by rfl) mI (by decide +kernel) (pa_cons (pe_op op_fdiv (pe_ix ix_list (pv 0) pe_int (fun _ _ => rfl)) pe_int) pa_nil)) (pv 1))))) pss_nil)
      (pss_cons (ps_set (i := 3) scTaken.nd rfl (.inl rfl) (pe_ix ix_list (pe_ix ix_list (pv 0) pe_int (fun _ _ => rfl)) (pe_op op_sub (pe_ix ix_list (pv 0) pe_int (fun _ _ => rfl)) pe_int) (fun _ _ => rfl)))
      (pss_cons (ps_asg (pe_op op_mod (pe_callTy call_int1 (by rfl) mI (by decide +kernel) (pa_cons (pe_op op_add (pe_op op_add (pe_op op_mul (pe_ix ix_list (pv 0) pe_int (fun _ _ => rfl)) pe_int) (pv 3)) pe_int) pa_nil)) pe_int) (pg_sub (pv 0) pe_int set_list))
      (pss_cons (ps_if (pt_cmpR op_ge (pv 3) (pe_op op_pow pe_int pe_int) (nomark _)) (pss_one (ps_asg (pe_op op_fdivW (pv 3) (pv 1)) (pg_sub (pv 0) pe_int set_list))) pss_nil)
      (pss_one (ps_ret (pe_op op_mod (pe_callTy call_int1 (by rfl) mI (by decide +kernel) (pa_cons (pv 3) pa_nil)) (pv 1))))))))), ?_⟩
    have x0 : atI [V.ref sc, .int i, .int z, .int b] 3 = some (.int b) := rfl
    refine ⟨_, rfl, r, _, _, _, rfl, rfl, SqL.of hR, x0, _, _, rfl, rfl, _, rfl, ?_⟩
    refine ite2 (fun hb => ?_) (fun hb => ?_)
    · have y1 : atI [V.ref sc, .int i, .int z, .int (b / many)] 3 = some (.int (b / many)) := rfl
      refine ⟨_, rfl, r, _, _, _, rfl, rfl, SqL.of hR, x0, .inl ⟨_, rfl, _, rfl, _, _, rfl, rfl, hm0, ?_⟩⟩
      refine ⟨_, rfl, r, _, _, _, rfl, rfl, SqL.of hR, x0, _, rfl, _, _, rfl, rfl, hmw _, _, rfl, r, _, _, 3, rfl, rfl, hR, rfl, ?_⟩
      refine ⟨_, rfl, ?_⟩
      exact k _ _ (Int.emod_nonneg _ (by omega)) (Int.emod_lt_of_pos _ hm0) ⟨i, z, b / many, hi, upd_same⟩ fun q hq => upd_ne hq
    · refine ⟨_, rfl, r, _, _, _, rfl, rfl, SqL.of hR, (show atI _ 1 = some (.int i) from rfl), _, _, rfl, rfl, _, rfl, r, _, _, 1, rfl, rfl, hR, rfl, ?_⟩
      show tSeq _ _ _ _ (upd H r (.lst [.ref sc, .int (i + 1), .int z, .int b]))
      have hR1 : upd H r (.lst [.ref sc, .int (i + 1), .int z, .int b]) r = some (.lst [.ref sc, .int (i + 1), .int z, .int b]) := upd_same
      have e1 : ∀ q, q ≠ r → upd H r (.lst [.ref sc, .int (i + 1), .int z, .int b]) q = H q := fun q hq => upd_ne hq
      have hS1 : SqL K (upd H r (.lst [.ref sc, .int (i + 1), .int z, .int b])) sc (ns.map V.int) := seq_but hS ⟨i, z, b, hi, hR⟩ e1
      generalize upd H r (.lst [.ref sc, .int (i + 1), .int z, .int b]) = H1 at *
      refine ⟨_, rfl, r, _, _, _, rfl, rfl, SqL.of hR1, (show atI _ 1 = some (.int (i + 1)) from rfl), _, rfl, r, _, _, _, rfl, rfl, SqL.of hR1, (show atI _ 0 = some (.ref sc) from rfl), sc, _, rfl, .inl hS1, _, _, rfl, rfl, _, rfl, ?_⟩
      refine ite2 (fun hl => ?_) (fun hl => ?_)
      · refine ⟨_, rfl, r, _, _, _, rfl, rfl, SqL.of hR1, (show atI _ 2 = some (.int z) from rfl), _, _, rfl, rfl, .inr ⟨by decide, by decide⟩, _, _, rfl, rfl, .inl ⟨_, rfl, _, _, rfl, rfl, (by show (0 : Int) < 2147483647; decide), _, rfl, r, _, _, 2, rfl, rfl, hR1, rfl, ?_⟩⟩
        refine ⟨_, rfl, r, _, _, _, rfl, rfl, SqL.of upd_same, rfl, _, _, rfl, rfl, ⟨by decide, by decide⟩, .inl ⟨_, rfl, _, rfl, _, _, rfl, rfl, hm0, ?_⟩⟩
        exact k _ _ (Int.emod_nonneg _ (by omega)) (Int.emod_lt_of_pos _ hm0) ⟨i + 1, _, b, by omega, upd_same⟩ fun q hq => (upd_ne hq).trans (e1 q hq)
      · have hl' : (i + 1 : Int) ≤ (ns.length : Int) := by
          have := of_decide_eq_false (Bool.eq_false_iff.mpr hl)
          rw [List.length_map] at this
          omega
        obtain ⟨c, hc⟩ : ∃ c, ns[i.toNat]? = some c := ⟨_, List.getElem?_eq_getElem (by omega)⟩
        have ha : atI (ns.map V.int) (i + 1 - 1) = some (.int c) := by
          rw [show (i + 1 - 1 : Int) = ((i.toNat : Nat) : Int) by omega]
          refine atI_nat ?_
          rw [List.getElem?_map, hc]
          rfl
        refine ⟨_, rfl, r, _, _, _, rfl, rfl, SqL.of hR1, (show atI _ 0 = some (.ref sc) from rfl), _, rfl, r, _, _, _, rfl, rfl, SqL.of hR1, (show atI _ 1 = some (.int (i + 1)) from rfl), _, _, rfl, rfl, sc, _, _, _, rfl, rfl, hS1, ha, ?_⟩
        refine ⟨_, rfl, r, _, _, _, rfl, rfl, SqL.of hR1, (show atI _ 2 = some (.int z) from rfl), _, _, rfl, rfl, .inr ⟨by decide, by decide⟩, _, rfl, _, _, rfl, rfl, _, _, rfl, rfl, .inl ⟨_, rfl, _, _, rfl, rfl, (by show (0 : Int) < 2147483647; decide), _, rfl, r, _, _, 2, rfl, rfl, hR1, rfl, ?_⟩⟩
        show tSeq _ _ _ _ (upd H1 r (.lst [.ref sc, .int (i + 1), .int _, .int b]))
        refine ⟨_, rfl, _, _, rfl, rfl, ⟨by decide, by decide, by decide⟩, _, _, rfl, rfl, _, rfl, ?_⟩
        refine ite2 (fun hc => ?_) (fun hc => ?_)
        · refine ⟨_, rfl, _, rfl, _, _, rfl, rfl, hmw _, _, rfl, r, _, _, 3, rfl, rfl, upd_same, rfl, ?_⟩
          refine ⟨_, rfl, .inl ⟨_, rfl, _, rfl, _, _, rfl, rfl, hm0, ?_⟩⟩
          exact k _ _ (Int.emod_nonneg _ (by omega)) (Int.emod_lt_of_pos _ hm0) ⟨i + 1, _, _, by omega, upd_same⟩ fun q hq => ((upd_ne hq).trans (upd_ne hq)).trans (e1 q hq)
        · refine ⟨_, rfl, .inl ⟨_, rfl, _, rfl, _, _, rfl, rfl, hm0, ?_⟩⟩
          exact k _ _ (Int.emod_nonneg _ (by omega)) (Int.emod_lt_of_pos _ hm0) ⟨i + 1, _, _, by omega, upd_same⟩ fun q hq => (upd_ne hq).trans (e1 q hq)
end
end LS
set_option maxHeartbeats 0
namespace LS
open PySem PySem.Spec PyProof.Rows L2
open LSH
section
variable {w : World} {h : Heap} {K : PySem.W.Frag} {mg : Str → Option Value}
theorem ok_ctlR {P : Program} {base : Heap} {f C : Addr} {fd : FuncData} (F : Fun K "control" "Rule.control" sRCtl f fd) (R : RuleK K mg C) : FnOk P w K mg base CX0 1 f fd ["self"] (spCtlR K C) := by
  refine F.ok (show FnScope ["self"] ["self"] (defScope sRCtl) from ⟨rfl, rfl, rfl, by decide +kernel, rfl, by decide +kernel, by decide +kernel⟩) (fun vs H Q E h => ?_) (fun cdv A outer s H vs Q E hr h => ?_)
  · obtain ⟨p, z, ds, rfl, _⟩ := h
    rfl
  · obtain ⟨p, z, ds, rfl, ⟨dx, a, hp, hd⟩, k⟩ := h
    exact ⟨_, pss_one (ps_ret (pe_fld (pv 0) rfl)), _, rfl, p, C, dx, _, _, rfl, hp, R.cl, R.nC, rule_c, k a hd⟩
theorem facts (X : K.In h) (G : h.Ns mainGlobals mg) (c : SaysL fa fn ts tf exA gets w h K) :
    ∃ fd, Fun K "law" "law" sLaw67 (He.ga K "law") fd ∧ mg "law" = some (.ref (He.ga K "law")) ∧ ∀ (P : Program) (base : Heap), Nonempty (LawK67 P w K mg base (CRn K) (CSn K) (CIn K) (CXn K)) := by
  have cd := c.t.d
  have ex : (exL K).all id = true := c.more
  have exc : ∀ b ∈ exC K, b = true := fun b hb => bools_mem ex (List.mem_append_left _ hb)
  have exl : ∀ (i : Nat) (b : Bool), (exLL K)[i]? = some b → b = true := fun i b e => bools_mem ex (List.mem_append_right _ (List.mem_of_getElem? e))
  have gets_ok : gets.all (fun d => d.ok K) = true := exl 1 _ rfl
  have gg : ∀ {d : GetD}, d ∈ gets → ∃ fd, Fun K d.m d.qual d.st (gAd K d.cls d.m) fd ∧ PropOf K (He.ga K d.cls) d.m (He.ma K (He.ga K d.cls) d.m) (gAd K d.cls d.m) := fun hd => get_of c.get gets_ok hd
  have S := fun (P : Program) (base : Heap) => core_facts (w := w) X G cd (c.t.tab 0) (fun f hf => List.mem_append_left _ hf) (fun d hd => List.mem_append_left _ hd) (fun d hd => gg (List.mem_append_left _ hd)) exc P base
  have fl : ∀ {f : He.Fa}, f ∈ faL → f ∈ fa := fun hf => List.mem_append_right _ hf
  have glo : ∀ {x : Str}, x ∈ globs → mg x = some (.ref (He.ga K x)) := fun hx => He.glo_ok X G (cd.facts (fl (List.mem_append_left _ (List.mem_append_left _ (List.mem_map.mpr ⟨_, hx, rfl⟩)))))
  have gc : ∀ {x : Str}, x ∈ globsC → mg x = some (.ref (He.ga K x)) := fun hx => He.glo_ok X G (cd.facts (List.mem_append_left _ (faC_glob hx)))
  have frl : ∀ {x : Str}, x ∈ frees → mg x = none := fun hx => He.free_ok X G (cd.facts (fl (List.mem_append_left _ (List.mem_append_right _ (List.mem_map.mpr ⟨_, hx, rfl⟩)))))
  have frc : ∀ {x : Str}, x ∈ freesC → mg x = none := fun hx => He.free_ok X G (cd.facts (List.mem_append_left _ (faC_free hx)))
  have mo : ∀ {f : He.Fa}, f ∈ mores → f ∈ fa := fun hx => fl (List.mem_append_right _ hx)
  have ld : ∀ {d : He.DefD}, d ∈ fnL → d ∈ fn := fun hd => List.mem_append_right _ hd
  have lc : ∀ {d : He.DefD}, d ∈ fnC → d ∈ fn := fun hd => List.mem_append_left _ hd
  have RK : RunK K (He.ga K "Run") (He.ga K "Teller") := ⟨He.cls_ok (cd.facts (mo (by simp [mores]))), He.cls_ok (cd.facts (mo (by simp [mores]))), He.noat_ok (cd.facts (mo (by simp [mores]))), He.noat_ok (cd.facts (mo (by simp [mores]))), He.noat_ok (cd.facts (mo (by simp [mores]))), He.noat_ok (cd.facts (mo (by simp [mores]))), He.noat_ok (cd.facts (mo (by simp [mores])))⟩
  have RS : ∃ a, mg "RESULTS" = some (.ref a) ∧ (∀ H, SqT K H a (resWords.map V.str)) ∧ ∃ o, K.lookup a = some o ∧ o.cls = .type "tuple" ∧ o.dict = none :=
    ⟨He.ga K "RESULTS", gc (by decide +kernel), fun H => tup_map resWords ▸ He.tupB_ok (exc _ (List.mem_of_getElem? (i := 1) rfl)) H, tupKB_ok (exl 2 _ rfl)⟩
  have RS2 : ∃ a, mg "RESULTS" = some (.ref a) ∧ ∀ H, SqT K H a (resWords.map V.str) := ⟨RS.choose, RS.choose_spec.1, RS.choose_spec.2.1⟩
  obtain ⟨m1, M_m1⟩ := defM (x := "Teller") (m := "__init__") (q := "Teller.__init__") (st := sTInit) cd (ld (by simp [fnL, sTInit]))
  obtain ⟨m2, M_m2⟩ := defM (x := "Teller") (m := "tell") (q := "Teller.tell") (st := sTTell) cd (ld (by simp [fnL, sTTell]))
  obtain ⟨m3, M_m3⟩ := defM (x := "Run") (m := "__init__") (q := "Run.__init__") (st := sUInit) cd (ld (by simp [fnL, sUInit]))
  obtain ⟨m4, M_m4⟩ := defM (x := "Run") (m := "go_through") (q := "Run.go_through") (st := sUGo) cd (ld (by simp [fnL, sUGo]))
  obtain ⟨m5, M_m5⟩ := defM (x := "Run") (m := "ask") (q := "Run.ask") (st := sUAsk) cd (ld (by simp [fnL, sUAsk]))
  obtain ⟨m6, M_m6⟩ := defM (x := "Run") (m := "change_mark") (q := "Run.change_mark") (st := sUChange) cd (ld (by simp [fnL, sUChange]))
  obtain ⟨m7, M_m7⟩ := defM (x := "Run") (m := "is_end") (q := "Run.is_end") (st := sUEnd) cd (ld (by simp [fnL, sUEnd]))
  obtain ⟨d_run_of, F_run_of⟩ := defF (x := "run_of") (st := sRunOf) cd (ld (by simp [fnL, sRunOf]))
  obtain ⟨d_whole_run, F_whole_run⟩ := defF (x := "whole_run") (st := sWhole) cd (ld (by simp [fnL, sWhole]))
  obtain ⟨d_word_of, F_word_of⟩ := defF (x := "word_of") (st := sWordOf) cd (ld (by simp [fnL, sWordOf]))
  obtain ⟨d_leads, F_leads⟩ := defF (x := "leads") (st := sLeads) cd (ld (by simp [fnL, sLeads]))
  obtain ⟨mA, M_mA⟩ := defM (x := "Stack") (m := "__add__") (q := "Stack.__add__") (st := sSAdd) cd (ld (by simp [fnL, sSAdd]))
  obtain ⟨d_answers_with, F_answers_with⟩ := defF (x := "answers_with") (st := sWith) cd (ld (by simp [fnL, sWith]))
  obtain ⟨d_words_of, F_words_of⟩ := defF (x := "words_of") (st := sWordsOf) cd (ld (by simp [fnL, sWordsOf]))
  obtain ⟨d_with_result, F_with_result⟩ := defF (x := "with_result") (st := sWRes) cd (ld (by simp [fnL, sWRes]))
  obtain ⟨q1, M_q1⟩ := defM (x := "Questions") (m := "__init__") (q := "Questions.__init__") (st := sQInit) cd (ld (by simp [fnL, sQInit]))
  obtain ⟨q2, M_q2⟩ := defM (x := "Questions") (m := "settled_word") (q := "Questions.settled_word") (st := sQSett) cd (ld (by simp [fnL, sQSett]))
  obtain ⟨d_places_of, F_places_of⟩ := defF (x := "places_of") (st := sPlacesOf) cd (ld (by simp [fnL, sPlacesOf]))
  obtain ⟨d_results_told, F_results_told⟩ := defF (x := "results_told") (st := sResTold) cd (ld (by simp [fnL, sResTold]))
  obtain ⟨d_rows_behind, F_rows_behind⟩ := defF (x := "rows_behind") (st := sRowsBeh) cd (ld (by simp [fnL, sRowsBeh]))
  obtain ⟨d_settling_rows, F_settling_rows⟩ := defF (x := "settling_rows") (st := sSettRows) cd (ld (by simp [fnL, sSettRows]))
  obtain ⟨d_cover, F_cover⟩ := defF (x := "cover") (st := sCover) cd (ld (by simp [fnL, sCover]))
  obtain ⟨d_all_orders, F_all_orders⟩ := defF (x := "all_orders") (st := sOrders) cd (ld (by simp [fnL, sOrders]))
  obtain ⟨d_shortest_cover, F_shortest_cover⟩ := defF (x := "shortest_cover") (st := sShortest) cd (ld (by simp [fnL, sShortest]))
  obtain ⟨d_results_text, F_results_text⟩ := defF (x := "results_text") (st := sResText) cd (ld (by simp [fnL, sResText]))
  obtain ⟨d_cover_text, F_cover_text⟩ := defF (x := "cover_text") (st := sCovText) cd (ld (by simp [fnL, sCovText]))
  obtain ⟨d_answer_count, F_answer_count⟩ := defF (x := "answer_count") (st := sACount) cd (ld (by simp [fnL, sACount]))
  obtain ⟨d_answers_in, F_answers_in⟩ := defF (x := "answers_in") (st := sAnsIn) cd (ld (by simp [fnL, sAnsIn]))
  obtain ⟨d_in_count, F_in_count⟩ := defF (x := "in_count") (st := sInCount) cd (ld (by simp [fnL, sInCount]))
  obtain ⟨d__law_taken, F__law_taken⟩ := defF (x := "_law_taken") (st := sTaken) cd (ld (by simp [fnL, sTaken]))
  obtain ⟨d__law_control, F__law_control⟩ := defF (x := "_law_control") (st := sControl) cd (ld (by simp [fnL, sControl]))
  obtain ⟨d__law_names, F__law_names⟩ := defF (x := "_law_names") (st := sNames) cd (ld (by simp [fnL, sNames]))
  obtain ⟨d__law_stack, F__law_stack⟩ := defF (x := "_law_stack") (st := sLStack) cd (ld (by simp [fnL, sLStack]))
  obtain ⟨lw, LW⟩ := defF (x := "law") (st := sLaw67) cd (ld (by simp [fnL, sLaw67]))
  obtain ⟨u1, U1⟩ := defF (x := "rules_of") (st := sRulesOf) cd (lc (by simp [fnC]))
  obtain ⟨g1, G1, p1⟩ := gg (d := ⟨"Stack", "rules", "Stack.rules", sSRules⟩) (by simp [gets, getsC])
  obtain ⟨g2, G2, p2⟩ := gg (d := getC) (by simp [gets])
  have k_m1 : Binds K m1 ["self", "answers"] [] := M_m1.binds fun _ _ _ _ _ _ us hl => match us, hl with | [_, _], _ => rfl
  have k_m2 : Binds K m2 ["self", "module"] [] := M_m2.binds fun _ _ _ _ _ _ us hl => match us, hl with | [_, _], _ => rfl
  have k_m3 : Binds K m3 ["self", "teller"] [] := M_m3.binds fun _ _ _ _ _ _ us hl => match us, hl with | [_, _], _ => rfl
  have k_m4 : Binds K m4 ["self", "stack", "first"] [] := M_m4.binds fun _ _ _ _ _ _ us hl => match us, hl with | [_, _, _], _ => rfl
  have k_m5 : Binds K m5 ["self", "rule", "number"] [] := M_m5.binds fun _ _ _ _ _ _ us hl => match us, hl with | [_, _, _], _ => rfl
  have k_m6 : Binds K m6 ["self", "action", "number", "began"] [] := M_m6.binds fun _ _ _ _ _ _ us hl => match us, hl with | [_, _, _, _], _ => rfl
  have k_m7 : Binds K m7 ["self", "action"] [] := M_m7.binds fun _ _ _ _ _ _ us hl => match us, hl with | [_, _], _ => rfl
  have k_run_of : Binds K d_run_of ["stack", "teller"] [] := F_run_of.binds fun _ _ _ _ _ _ us hl => match us, hl with | [_, _], _ => rfl
  have k_whole_run : Binds K d_whole_run ["stack", "answers"] [] := F_whole_run.binds fun _ _ _ _ _ _ us hl => match us, hl with | [_, _], _ => rfl
  have k_word_of : Binds K d_word_of ["run"] [] := F_word_of.binds fun _ _ _ _ _ _ us hl => match us, hl with | [_], _ => rfl
  have k_leads : Binds K d_leads ["stack", "answers"] [] := F_leads.binds fun _ _ _ _ _ _ us hl => match us, hl with | [_, _], _ => rfl
  have k_mA : Binds K mA ["self", "other"] [] := M_mA.binds fun _ _ _ _ _ _ us hl => match us, hl with | [_, _], _ => rfl
  have k_answers_with : Binds K d_answers_with ["modules", "known"] [] := F_answers_with.binds fun _ _ _ _ _ _ us hl => match us, hl with | [_, _], _ => rfl
  have k_words_of : Binds K d_words_of ["stack"] [] := F_words_of.binds fun _ _ _ _ _ _ us hl => match us, hl with | [_], _ => rfl
  have k_with_result : Binds K d_with_result ["results", "place", "result"] [] := F_with_result.binds fun _ _ _ _ _ _ us hl => match us, hl with | [_, _, _], _ => rfl
  have k_q1 : Binds K q1 ["self", "stack"] [] := M_q1.binds fun _ _ _ _ _ _ us hl => match us, hl with | [_, _], _ => rfl
  have k_q2 : Binds K q2 ["self", "told"] [] := M_q2.binds fun _ _ _ _ _ _ us hl => match us, hl with | [_, _], _ => rfl
  have k_places_of : Binds K d_places_of ["stack"] [] := F_places_of.binds fun _ _ _ _ _ _ us hl => match us, hl with | [_], _ => rfl
  have k_results_told : Binds K d_results_told ["told"] [] := F_results_told.binds fun _ _ _ _ _ _ us hl => match us, hl with | [_], _ => rfl
  have k_rows_behind : Binds K d_rows_behind ["questions", "told", "place"] [] := F_rows_behind.binds fun _ _ _ _ _ _ us hl => match us, hl with | [_, _, _], _ => rfl
  have k_settling_rows : Binds K d_settling_rows ["questions", "places"] [] := F_settling_rows.binds fun _ _ _ _ _ _ us hl => match us, hl with | [_, _], _ => rfl
  have k_cover : Binds K d_cover ["stack"] [] := F_cover.binds fun _ _ _ _ _ _ us hl => match us, hl with | [_], _ => rfl
  have k_all_orders : Binds K d_all_orders ["items"] [] := F_all_orders.binds fun _ _ _ _ _ _ us hl => match us, hl with | [_], _ => rfl
  have k_shortest_cover : Binds K d_shortest_cover ["stack"] [] := F_shortest_cover.binds fun _ _ _ _ _ _ us hl => match us, hl with | [_], _ => rfl
  have k_results_text : Binds K d_results_text ["results"] [] := F_results_text.binds fun _ _ _ _ _ _ us hl => match us, hl with | [_], _ => rfl
  have k_cover_text : Binds K d_cover_text ["stack"] [] := F_cover_text.binds fun _ _ _ _ _ _ us hl => match us, hl with | [_], _ => rfl
  have k_answer_count : Binds K d_answer_count ["stack"] [] := F_answer_count.binds fun _ _ _ _ _ _ us hl => match us, hl with | [_], _ => rfl
  have k_answers_in : Binds K d_answers_in ["stack"] [] := F_answers_in.binds fun _ _ _ _ _ _ us hl => match us, hl with | [_], _ => rfl
  have k_in_count : Binds K d_in_count ["stack"] [] := F_in_count.binds fun _ _ _ _ _ _ us hl => match us, hl with | [_], _ => rfl
  have k__law_taken : Binds K d__law_taken ["_law_row", "_law_many"] [] := F__law_taken.binds fun _ _ _ _ _ _ us hl => match us, hl with | [_, _], _ => rfl
  have k__law_control : Binds K d__law_control ["_law_row"] [] := F__law_control.binds fun _ _ _ _ _ _ us hl => match us, hl with | [_], _ => rfl
  have k__law_names : Binds K d__law_names ["_law_row", "_law_most"] [] := F__law_names.binds fun _ _ _ _ _ _ us hl => match us, hl with | [_, _], _ => rfl
  have k__law_stack : Binds K d__law_stack ["_law_row", "_law_names_here", "_law_left", "_law_depth"] [] := F__law_stack.binds fun _ _ _ _ _ _ us hl => match us, hl with | [_, _, _, _], _ => rfl
  have ku1 : Binds K u1 ["entry"] [] := U1.binds fun _ _ _ _ _ _ us hl => match us, hl with | [_], _ => rfl
  have kg1 : Binds K g1 ["self"] [] := G1.binds fun _ _ _ _ _ _ us hl => match us, hl with | [_], _ => rfl
  have kg2 : Binds K g2 ["self"] [] := G2.binds fun _ _ _ _ _ _ us hl => match us, hl with | [_], _ => rfl
  refine ⟨lw, LW, glo (by decide +kernel), fun P base => ?_⟩
  obtain ⟨c⟩ := S P base
  have eT : Meth K (He.ga K "Teller") "tell" (He.ma K (He.ga K "Teller") "tell") := He.meth_ok (cd.facts (mo (by simp [mores])))
  have eG : Meth K (He.ga K "Run") "go_through" (He.ma K (He.ga K "Run") "go_through") := He.meth_ok (cd.facts (mo (by simp [mores])))
  have eA : Meth K (He.ga K "Run") "ask" (He.ma K (He.ga K "Run") "ask") := He.meth_ok (cd.facts (mo (by simp [mores])))
  have eC : Meth K (He.ga K "Run") "change_mark" (He.ma K (He.ga K "Run") "change_mark") := He.meth_ok (cd.facts (mo (by simp [mores])))
  have eE : Meth K (He.ga K "Run") "is_end" (He.ma K (He.ga K "Run") "is_end") := He.meth_ok (cd.facts (mo (by simp [mores])))
  have MK : MakK P w K mg base (He.ga K "Run") (He.ga K "Teller") := { GU := ok_uinit M_m3 RK, MU := He.mkr_ok (cd.facts (mo (by simp [mores]))), bU := k_m3, gU := glo (by decide +kernel), GT := ok_tinit M_m1 RK, MT := He.mkr_ok (cd.facts (mo (by simp [mores]))), bT := k_m1, gT := glo (by decide +kernel) }
  have DO : DefK P w K mg base CX0 3 "rules_of" ["entry"] (spRulesOf K (CRn K) (CSn K)) := ⟨ok_rulesof U1 c.T G1 kg1 p1, gc (by decide +kernel), U1.kp, ku1⟩
  have GO : GoK P w K mg base (CRn K) (CSn K) (He.ga K "Run") (He.ga K "Teller") := { T := c.T, R := RK, PE := c.PE, O := DO, GA := ok_ask M_m5 RK (ok_tell M_m2 RK) k_m2 eT c.T.R.cl c.PN.G c.PN.b c.PN.pr (ok_ctlR G2 c.T.R) kg2 p2 RS, mA := eA, bA := k_m5, GC := ok_change M_m6 RK, mC := eC, bC := k_m6, GE := ok_end M_m7 RK, mE := eE, bE := k_m7, len := (frc (by decide +kernel)), int := (frc (by decide +kernel)) }
  have D_run_of : DefK P w K mg base CX0 8 "run_of" ["stack", "teller"] (spRunOf K (CRn K) (CSn K) (He.ga K "Run") (He.ga K "Teller")) := ⟨ok_runof F_run_of RK MK (ok_go M_m4 eG k_m4 GO 3) eG k_m4, glo (by decide +kernel), F_run_of.kp, k_run_of⟩
  have D_whole_run : DefK P w K mg base CX0 9 "whole_run" ["stack", "answers"] (spWhole K (CRn K) (CSn K) (He.ga K "Run")) := ⟨ok_whole F_whole_run MK D_run_of.G D_run_of.g D_run_of.kp D_run_of.b, glo (by decide +kernel), F_whole_run.kp, k_whole_run⟩
  have D_word_of : DefK P w K mg base CX0 1 "word_of" ["run"] (spWordOf (He.ga K "Run")) := ⟨ok_wordof F_word_of RK, glo (by decide +kernel), F_word_of.kp, k_word_of⟩
  have D_leads : DefK P w K mg base CX0 10 "leads" ["stack", "answers"] (spLeads K (CRn K) (CSn K)) := ⟨ok_leads F_leads D_whole_run.G D_whole_run.g D_whole_run.kp D_whole_run.b D_word_of.G D_word_of.g D_word_of.kp D_word_of.b, glo (by decide +kernel), F_leads.kp, k_leads⟩
  have eP : Meth K (CSn K) "__add__" (He.ma K (CSn K) "__add__") := He.meth_ok (cd.facts (mo (by simp [mores])))
  have DA : AddK P w K mg base (CRn K) (CSn K) (CIn K) := { GA := ok_sadd M_mA c.T c.MS c.GI, bA := k_mA, aA := eP.1, nA := eP.2, sf := exl 0 _ rfl }
  have D_answers_with : DefK P w K mg base CX0 1 "answers_with" ["modules", "known"] (spWith K) := ⟨ok_with F_answers_with RS2, glo (by decide +kernel), F_answers_with.kp, k_answers_with⟩
  have LD : LedK P w K mg base (CRn K) (CSn K) := ⟨c.T, c.PM, D_leads, D_answers_with⟩
  have D_words_of : DefK P w K mg base CX0 11 "words_of" ["stack"] (spWordsOf K (CRn K) (CSn K)) := ⟨ok_wordsof F_words_of LD (frc (by decide +kernel)), glo (by decide +kernel), F_words_of.kp, k_words_of⟩
  have D_with_result : DefK P w K mg base CX0 1 "with_result" ["results", "place", "result"] (spWResB K) := ⟨ok_wresB F_with_result, glo (by decide +kernel), F_with_result.kp, k_with_result⟩
  have QU : QuK K (He.ga K "Questions") := ⟨He.cls_ok (cd.facts (mo (by simp [mores]))), He.noat_ok (cd.facts (mo (by simp [mores]))), He.noat_ok (cd.facts (mo (by simp [mores]))), He.noat_ok (cd.facts (mo (by simp [mores])))⟩
  have eQ2 : Meth K (He.ga K "Questions") "settled_word" (He.ma K (He.ga K "Questions") "settled_word") := He.meth_ok (cd.facts (mo (by simp [mores])))
  have AQ : AskB P w K mg base (CRn K) (CSn K) (He.ga K "Questions") := { Q := QU, GI := ok_qinit M_q1 QU LD D_words_of (frc (by decide +kernel)), MI := He.mkr_ok (cd.facts (mo (by simp [mores]))), bI := k_q1, gQ := glo (by decide +kernel) }
  have GQ2 := ok_qsett (P := P) (w := w) (base := base) M_q2 eQ2 k_q2 QU D_with_result RS2 (frc (by decide +kernel))
  have D_places_of : DefK P w K mg base CX0 4 "places_of" ["stack"] (spPlacesOf K (CRn K) (CSn K)) := ⟨ok_placesof F_places_of LD (frc (by decide +kernel)) (frl (by decide +kernel)) (frl (by decide +kernel)), glo (by decide +kernel), F_places_of.kp, k_places_of⟩
  have D_results_told : DefK P w K mg base CX0 1 "results_told" ["told"] (spResTold K) := ⟨ok_restold F_results_told (frc (by decide +kernel)), glo (by decide +kernel), F_results_told.kp, k_results_told⟩
  have D_rows_behind : DefK P w K mg base CX0 9 "rows_behind" ["questions", "told", "place"] (spRowsBeh P w K (He.ga K "Questions")) := ⟨ok_rowsbeh F_rows_behind QU GQ2 eQ2 k_q2 D_with_result RS2, glo (by decide +kernel), F_rows_behind.kp, k_rows_behind⟩
  have D_settling_rows : DefK P w K mg base CX0 10 "settling_rows" ["questions", "places"] (spSettRows P w K (He.ga K "Questions")) := ⟨ok_settrows F_settling_rows QU D_rows_behind, glo (by decide +kernel), F_settling_rows.kp, k_settling_rows⟩
  have DT_settling_rows : DefK P w K mg base CX0 10 "settling_rows" ["questions", "places"] (spSettRowsT P w K (He.ga K "Questions")) := ⟨ok_settrowsT F_settling_rows QU D_rows_behind, glo (by decide +kernel), F_settling_rows.kp, k_settling_rows⟩
  have D_cover : DefK P w K mg base CX0 14 "cover" ["stack"] (spCover K (CRn K) (CSn K)) := ⟨ok_cover F_cover AQ D_places_of D_settling_rows D_results_told GQ2 eQ2 k_q2, glo (by decide +kernel), F_cover.kp, k_cover⟩
  have D_all_orders : DefK P w K mg base CX0 1 "all_orders" ["items"] (spOrders K) := ⟨ok_orders F_all_orders, glo (by decide +kernel), F_all_orders.kp, k_all_orders⟩
  have D_shortest_cover : DefK P w K mg base CX0 14 "shortest_cover" ["stack"] (spShortest K (CRn K) (CSn K)) := ⟨ok_shortest F_shortest_cover LD AQ D_places_of DT_settling_rows D_all_orders (He.int_ok X G (cd.facts (mo (by simp [mores])))) (frc (by decide +kernel)) (frc (by decide +kernel)), glo (by decide +kernel), F_shortest_cover.kp, k_shortest_cover⟩
  have D_results_text : DefK P w K mg base CX0 1 "results_text" ["results"] (spResText K) := ⟨ok_restext F_results_text (frc (by decide +kernel)), glo (by decide +kernel), F_results_text.kp, k_results_text⟩
  have D_cover_text : DefK P w K mg base CX0 15 "cover_text" ["stack"] (spCovText K (CRn K) (CSn K)) := ⟨ok_covtext F_cover_text D_cover D_results_text, glo (by decide +kernel), F_cover_text.kp, k_cover_text⟩
  have D_answer_count : DefK P w K mg base CX0 3 "answer_count" ["stack"] (spACount K (CRn K) (CSn K)) := ⟨ok_acount F_answer_count c.T c.PM (frc (by decide +kernel)) RS2, glo (by decide +kernel), F_answer_count.kp, k_answer_count⟩
  have DI : GenK P w K mg base 11 "answers_in" ["stack"] (spGAns K (CRn K) (CSn K)) := ⟨ok_ansin F_answers_in LD, glo (by decide +kernel), F_answers_in.kp, k_answers_in⟩
  have D_in_count : DefK P w K mg base CX0 15 "in_count" ["stack"] (spInCount K (CRn K) (CSn K)) := ⟨ok_incount F_in_count DI (frc (by decide +kernel)) (frl (by decide +kernel)), glo (by decide +kernel), F_in_count.kp, k_in_count⟩
  have T1 : TkK P w K mg base := ⟨ok_taken F__law_taken (frc (by decide +kernel)) (frc (by decide +kernel)), glo (by decide +kernel), F__law_taken.kp, k__law_taken⟩
  have D__law_control : DefK P w K mg base CX0 2 "_law_control" ["_law_row"] (spControl K) := ⟨ok_control F__law_control T1 (frc (by decide +kernel)) (frl (by decide +kernel)), glo (by decide +kernel), F__law_control.kp, k__law_control⟩
  have D__law_names : DefK P w K mg base CX0 2 "_law_names" ["_law_row", "_law_most"] (spNamesS K) := ⟨ok_namesS F__law_names T1, glo (by decide +kernel), F__law_names.kp, k__law_names⟩
  have D__law_stack : DefK P w K mg base CX0 15 "_law_stack" ["_law_row", "_law_names_here", "_law_left", "_law_depth"] (spLStack K (CRn K) (CSn K) 3) := ⟨ok_lstack F__law_stack (glo (by decide +kernel)) k__law_stack T1 D__law_control c DA (frl (by decide +kernel)) (frc (by decide +kernel)) 3, glo (by decide +kernel), F__law_stack.kp, k__law_stack⟩
  exact ⟨{ C := c, D := DA, Nm := D__law_names, St := D__law_stack, Cv := D_cover, Ct := D_cover_text, Sh := D_shortest_cover, Ac := D_answer_count, Ic := D_in_count, len := (frc (by decide +kernel)), range := (frl (by decide +kernel)), sorted := (frc (by decide +kernel)), list := (frl (by decide +kernel)), int := (frc (by decide +kernel)) }⟩
end
end LS
namespace LS
open PySem PySem.Spec PyProof.Rows L2 LSH
theorem law_at {w : World} {mg : Str → Option Value} {f : Addr} {h : Heap} {K : PySem.W.Frag} (X : K.In h) (G : h.Ns mainGlobals mg) (hmg : mg "law" = some (.ref f)) (c : SaysL fa fn ts tf exA gets w h K) :
    LamX.LawAtS rwL w K L2.CX0 16 63 "_law_script" mg f h := by
  obtain ⟨fd, FL, gl, T⟩ := facts X G c
  have e := hmg.symm.trans gl
  cases e
  have bL : Binds K fd ["_law_script"] [] := FL.binds fun _ _ _ _ _ _ us hl => match us, hl with | [_], _ => rfl
  obtain ⟨oc, od, kV, doc, pm, an, cdv, ct, osl, rfl, lk, hcd⟩ := FL.ex
  refine ⟨PySem.W.fnOf "law" "law" (defArgs sLaw67) (defBody sLaw67) (defScope sLaw67) .none kV doc pm an cdv ct, [], spLaw67 K, fun p hp => (nomatch hp), fun p hp => (nomatch hp), fun p hp => (nomatch hp), ?_, ?_, ?_⟩
  · intro s u
    exact .of_eq rfl
  · intro H a ns hl hb hH hS
    exact ⟨a, ns, rfl, hS, fun _ => rfl⟩
  · intro base hK hNs hT
    obtain ⟨t⟩ := T rwL.prog base
    exact ok_law67 FL t
end LS
open PySem PySem.W PySem.Calls PyProof.Rows
theorem PySem.Challenge.cw_loginstacks_k67_whole_covers_counted_holds : PySem.Challenge.rw_loginstacks_k67_whole_covers_counted.Holds := by
  w_on; o_law
  refine HandSHeadRun.head_any (r := OpenLaw.row PySem.Challenge.rw_loginstacks_k67_whole_covers_counted) (q := view (OpenLaw.row PySem.Challenge.rw_loginstacks_k67_whole_covers_counted).prog [LS.i_law]) (H := LSH.hk) (ob := LSH.ob) (M := 20000) (loose := LS.loose) (d := HandSHeadRun.topDef (OpenLaw.row PySem.Challenge.rw_loginstacks_k67_whole_covers_counted).prog LS.i_law) (kwd := []) LSH.ob_eq
    (by kernel_rfl) (fun s => by kernel_rfl) LSH.run (by kernel_rfl) (by kernel_rfl) (by kernel_rfl) (by rfl) (by first | assumption | decide +kernel) (by decide +kernel) ⟨rfl, rfl, rfl, rfl, rfl, by decide +kernel⟩ ?hw ?hc
  case hw => w_witness2
  case hc =>
    refine LamX.walk_ofTsE (l := PySem.Challenge.rw_loginstacks_k67_whole_covers_counted) (n := 63) (k := 16) (x := "_law_script") (CX := fun _ => L2.CX0) rfl (by decide) (by kernel_rfl) ⟨rfl, by decide, by decide⟩ ?F (fun _ _ _ _ _ z => z)
    intro w mg f h Y G hmg0
    obtain ⟨K, KX, c⟩ := Y
    have hmg : mg ("law" : PySem.Str) = some (.ref f) := by
      have e : (HandSHeadRun.topDef (OpenLaw.row PySem.Challenge.rw_loginstacks_k67_whole_covers_counted).prog LS.i_law).name = ("law" : PySem.Str) := by kernel_rfl
      rw [← e]
      exact hmg0
    exact ⟨K, KX, LS.law_at KX G hmg c⟩
