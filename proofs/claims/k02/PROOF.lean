import PyProof.Rows.All
import Wide.All
import OpenK.AllK
import Wide.FinOn
import HandS.Base
import HandS.Call
import HandS.List
import HandS.Comp
import HandS.Ends
import HandS.Dict
import HandS.Iter
import HandS.Text
import HandS.Words
import KE.KIsAll
import KE.KTryMore
import HandS.More
import HandS.Exc
import HandS.ExcInit
import HandS.ClsMeth
import HandS.Walk
import HandS.ExcIs
import HandS.ExcField
import KE.KExcIs
import HandS.IsInst
import HandS.FStr
import HandS.TryOnly
import HandS.WordsExc
import HandS.Property
import HandS.OwnEq
import HandS.Set
import HandS.Strs
import HandS.SetBool
import KE.GoesEnum
import HandS.Star
import HandS.TupAny
import PyProof.EqAt
import PyProof.EqKinds
import PyProof.TupleCall
import HandS.Lambda
import HandS.Deep
import PyProof.ListStr
import HandS.Wide
import HandS.Head0
import HandS.Head1
import HandS.Head2
import HandS.HeadEnd
import HandS.HeadHook1
import HandS.HeadHook2
import HandS.HeadHook3
import HandS.HeadHook4
import HandS.HeadWalk
import HandS.HeadNt
import PySem.Challenge.RW_loginstacks_k02_stacks_validated
set_option Elab.async false
set_option linter.all false
set_option maxRecDepth 100000
set_option maxHeartbeats 4000000
namespace LS
open PySem L2
abbrev rwL : PySem.W.OpenLaw := PySem.Challenge.rw_loginstacks_k02_stacks_validated
def top (i : Nat) : Stmt := PySem.Challenge.pw_loginstacks_k02_stacks_validated.main.body.getD i (.Pass ⟨0, 0, 0, 0⟩)
abbrev i__wall : Nat := 0
abbrev i_is_number : Nat := 2
abbrev i_StackError : Nat := 4
abbrev i_InvalidRule : Nat := 5
abbrev i_InvalidStack : Nat := 6
abbrev i_UnknownRule : Nat := 7
abbrev i_InvalidPlace : Nat := 8
abbrev i_InvalidAnswers : Nat := 9
abbrev i_TooMany : Nat := 10
abbrev i_UnknownModule : Nat := 11
abbrev i_InvalidMode : Nat := 12
abbrev i_UnknownView : Nat := 13
abbrev i_InvalidWeights : Nat := 14
abbrev i_Rule : Nat := 22
abbrev i_is_word : Nat := 23
abbrev i_is_action : Nat := 24
abbrev i_actions_of : Nat := 25
abbrev i_Stack : Nat := 31
abbrev i_rules_of : Nat := 32
abbrev i_depth_of : Nat := 33
abbrev i_first_misfit : Nat := 34
abbrev i_check_numbers : Nat := 35
abbrev i_entries_left : Nat := 36
abbrev i__law_taken : Nat := 38
abbrev i__law_raised : Nat := 39
abbrev i__law_flat : Nat := 40
abbrev i__law_nested : Nat := 41
abbrev i_law : Nat := 42
def loose : List PySem.Str := (["_wall", "is_number", "StackError", "InvalidRule", "InvalidStack", "UnknownRule", "InvalidPlace", "InvalidAnswers", "TooMany", "UnknownModule", "InvalidMode", "UnknownView", "InvalidWeights", "LETTERS", "LONGEST_WORD", "RESULTS", "ACTIONS", "LONGEST_JUMP", "CONTROLS", "Rule"] : List PySem.Str) ++ (["is_word", "is_action", "actions_of", "MOST_ENTRIES", "MOST_RULES", "MOST_MODULES", "MOST_DEPTH", "Stack", "rules_of", "depth_of", "first_misfit", "check_numbers", "entries_left", "_law_taken", "_law_raised", "_law_flat", "_law_nested"] : List PySem.Str)
abbrev n__wall : List PySem.Str := ["k"]
abbrev n_is_number : List PySem.Str := ["value", "least", "most"]
abbrev n_InvalidRule___init__ : List PySem.Str := ["self", "part"]
abbrev j_InvalidRule___init__ : Nat := 0
abbrev n_InvalidStack___init__ : List PySem.Str := ["self", "index"]
abbrev j_InvalidStack___init__ : Nat := 0
abbrev n_UnknownRule___init__ : List PySem.Str := ["self", "index"]
abbrev j_UnknownRule___init__ : Nat := 0
abbrev n_InvalidAnswers___init__ : List PySem.Str := ["self", "name"]
abbrev j_InvalidAnswers___init__ : Nat := 0
abbrev n_InvalidWeights___init__ : List PySem.Str := ["self", "name"]
abbrev j_InvalidWeights___init__ : Nat := 0
abbrev n_Rule___init__ : List PySem.Str := ["self", "module", "control", "actions"]
abbrev j_Rule___init__ : Nat := 0
abbrev n_Rule_module : List PySem.Str := ["self"]
abbrev j_Rule_module : Nat := 1
abbrev n_Rule_control : List PySem.Str := ["self"]
abbrev j_Rule_control : Nat := 2
abbrev n_Rule_kind : List PySem.Str := ["self", "word"]
abbrev j_Rule_kind : Nat := 3
abbrev n_Rule___eq__ : List PySem.Str := ["self", "other"]
abbrev j_Rule___eq__ : Nat := 4
abbrev n_is_word : List PySem.Str := ["value", "letter"]
abbrev n_is_action : List PySem.Str := ["value"]
abbrev n_actions_of : List PySem.Str := ["control", "action"]
abbrev n_Stack___init__ : List PySem.Str := ["self", "entries", "misfit", "entry", "rule"]
abbrev j_Stack___init__ : Nat := 0
abbrev n_Stack_entries : List PySem.Str := ["self"]
abbrev j_Stack_entries : Nat := 1
abbrev n_Stack_rules : List PySem.Str := ["self"]
abbrev j_Stack_rules : Nat := 2
abbrev n_Stack_modules : List PySem.Str := ["self"]
abbrev j_Stack_modules : Nat := 3
abbrev n_Stack___len__ : List PySem.Str := ["self"]
abbrev j_Stack___len__ : Nat := 4
abbrev n_Stack___getitem__ : List PySem.Str := ["self", "at"]
abbrev j_Stack___getitem__ : Nat := 5
abbrev n_Stack___iter__ : List PySem.Str := ["self"]
abbrev j_Stack___iter__ : Nat := 6
abbrev n_Stack___add__ : List PySem.Str := ["self", "other", "entries"]
abbrev j_Stack___add__ : Nat := 7
abbrev n_Stack___eq__ : List PySem.Str := ["self", "other"]
abbrev j_Stack___eq__ : Nat := 8
abbrev n_Stack_without : List PySem.Str := ["self", "numbers", "entries"]
abbrev j_Stack_without : Nat := 9
abbrev n_Stack_spliced : List PySem.Str := ["self", "index", "count", "entries"]
abbrev j_Stack_spliced : Nat := 10
abbrev n_rules_of : List PySem.Str := ["entry"]
abbrev n_depth_of : List PySem.Str := ["entry", "inner"]
abbrev n_first_misfit : List PySem.Str := ["entries", "rules", "index", "entry", "rule"]
abbrev n_check_numbers : List PySem.Str := ["numbers", "many", "index", "number"]
abbrev n_entries_left : List PySem.Str := ["stack", "numbers", "first", "left", "number", "entry", "inner"]
abbrev n__law_taken : List PySem.Str := ["_law_row", "_law_many", "_law_found", "_law_cell"]
abbrev n__law_raised : List PySem.Str := ["_law_work", "e", "_law_kinds", "_law_at"]
abbrev n__law_flat : List PySem.Str := ["_law_many", "_law_first", "_law_found", "_law_k"]
abbrev n__law_nested : List PySem.Str := ["_law_deep", "_law_found", "_law_turn"]
abbrev n_law : List PySem.Str := ["_law_script", "_law_row", "_law_many", "_law_stack", "_law_more", "_law_word", "_law_deep", "_law_inner", "_law_six", "_law_wrapped"]
abbrev sTaken : Stmt := top i__law_taken
end LS
namespace LS
open PySem L2 PySem.Spec PyProof.Rows
/-! ### x in a tuple of data -/
def rInT (K : PySem.W.Frag) : R2 := fun x y H Q => ∃ d ds, Dp K H x d ∧ Dp K H y (.tuple ds) ∧ SeqAt.shaped d = true ∧ SeqAt.shaped (.tuple ds) = true ∧ Q (.bl (ds.any fun z => PyData.eqv z d)) H
theorem canLay_tup {ds : List PyData} (h : SeqAt.shaped (.tuple ds) = true) : PyData.canLayAll0 ds = true := SeqAt.canLay_of_shaped h
theorem room_tup {X : Cx} {d : PyData} {n : Nat} (sd : SeqAt.shaped d = true) (hu : X.A.units + 65 < cLine) : X.A.units + 1 + min n d.depth < cLine := by
  have h : d.depth ≤ 64 := by
    unfold SeqAt.shaped at sd
    rw [Bool.and_eq_true] at sd
    exact of_decide_eq_true sd.2
  have h2 : min n d.depth ≤ d.depth := Nat.min_le_right _ _
  omega
theorem op_inT {X : Cx} (hu : X.A.units + 65 < cLine) : OpR X (compareOp .In) (rInT X.K) := by
  intro pins s σ H x y v u Q I rx ry h
  obtain ⟨d, ds, hd, he, sd, se, q⟩ := h
  obtain ⟨as, r1⟩ := Dp.reads I d x v hd rx
  obtain ⟨bs, r2⟩ := Dp.reads I (.tuple ds) y u he ry
  exact SeqAt.in_tuple_reads r2 r1 (canLay_tup se) (SeqAt.canLay_of_shaped sd) (room_tup sd hu) ⟨.bl _, H, I, rfl, q⟩
/-! ### D.get(s), D a dict of the module with text keys -/
def KGet (K : PySem.W.Frag) (w : World) (a : Addr) (z : Str) (v : V) : Prop :=
  ∃ es n r, K.lookup a = some ⟨.type "dict", none, .dict es n, #[]⟩ ∧ PySem.W.KeysLit w.params es.toList ∧ (a == sysModules) = false ∧ PySem.W.nsIn K a z = some r ∧ (∀ u, r = some u → RelV v u) ∧ (r = none → v = .non)
def KIsD (K : PySem.W.Frag) (w : World) (a : Addr) : Prop := ∃ es n, K.lookup a = some ⟨.type "dict", none, .dict es n, #[]⟩ ∧ PySem.W.KeysLit w.params es.toList
def tKGet (K : PySem.W.Frag) (w : World) (td ty : TE) : TE := fun σ H Q => td σ H fun x H1 => ∃ a, x = .ref a ∧ KIsD K w a ∧ ty σ H1 fun y H2 => ∃ z v, y = .str z ∧ KGet K w a z v ∧ Q v H2
theorem pe_kdget {X : Cx} {o e : Expr} {apos cpos : Pos} {td ty : TE} (ho : PE X o td) (he : PE X e ty) (m : M1 X o "get" apos e cpos) : PE X (.Call (.Attribute o "get" apos) [e] [] cpos) (tKGet X.K X.w td ty) := by
  refine ⟨fun pins s σ H Q I h => ?_⟩
  refine wpAny_Call_method m.base m.few m.line PySem.F.plainAttrs_dict PySem.F.slot_dict_get PySem.F.type_dict_get (thn (ho.run pins s σ H _ I h) fun u s1 ⟨x, H1, I1, rx, a, ex, ⟨es, n, hl, hk⟩, q1⟩ => ?_)
  subst ex
  obtain rfl : u = Value.ref a := rx
  have hm := PySem.W.mapOf_K (prog := X.prog) (w := X.w) I1.kIn hl hk
  refine ⟨hm.typeIs, fun b q => ?_, ?_⟩
  · cases q
    exact ⟨_, I1.kIn _ _ hl, rfl⟩
  rw [m.trees]
  refine Calls.callWith_builtin rfl (Calls.evalArgs_plain (Calls.spliced_cons (thn (he.run pins s1 σ H1 _ I1 q1) fun iv s2 ⟨y, H2, I2, ry, z, v, ey, ⟨es', n', r, hl', hk', hsm, hns, h1, h2⟩, q2⟩ => Calls.spliced_nil ?_)))
  subst ey
  obtain ⟨t, rfl⟩ := ry
  have hm' := PySem.W.mapOf_K (prog := X.prog) (w := X.w) I2.kIn hl' hk'
  refine call_meetsIn PySem.F.slot_dict_get hm'.typeIs PySem.F.entry_dict_get (PySem.F.args_dict_get_2 _ _) (meets_dict_get (strKind X.prog X.w) a (strKind_is X.prog X.w z t) hsm) ⟨_, hm', ?_⟩
  have e := PySem.W.find_K hl' hns
  rw [e]
  cases r with
  | none =>
    have hv : v = V.non := h2 rfl
    subst hv
    exact ⟨.non, H2, I2.tok _, rfl, q2⟩
  | some u => exact ⟨v, H2, I2.tok _, h1 u rfl, q2⟩
/-! ### for x in D, D a dict of the module with text keys -/
def Itkk (zs : List Str) : It := ⟨fun i _ => i < zs.length, fun i H x H' => H' = H ∧ ∃ z, zs[i]? = some z ∧ x = .str z, fun i _ => zs.length ≤ i⟩
def KKeys (K : PySem.W.Frag) (d : Addr) (zs : List Str) : Prop :=
  ∃ es n, K.lookup d = some ⟨.type "dict", none, .dict es n, #[]⟩ ∧ (d == sysModules) = false ∧ es.size = zs.length ∧ ∀ (i : Nat) (z : Str), zs[i]? = some z → ∃ (en : DictEntry) (t : Tok), es[i]? = some en ∧ en.key = .str z t
section
variable {P : Program} {w : World} {K : PySem.W.Frag} {tg : Expr} {d : Addr} {es : Array DictEntry} {n : Nat} {zs : List Str}
theorem turn_kkeys (it : Addr) (hl : K.lookup d = some ⟨.type "dict", none, .dict es n, #[]⟩) (hsz : es.size = zs.length) (hz : ∀ (i : Nat) (z : Str), zs[i]? = some z → ∃ (en : DictEntry) (t : Tok), es[i]? = some en ∧ en.key = .str z t) :
    Turn P w K tg (Itkk zs) [it] it (fun i h => h.IsKeyIter it d i zs.length n) where
  mem := by simp
  obj := fun i h st b hb => by
    have e : b = it := by simpa using hb
    subst e
    obtain ⟨oi, e, c, dd⟩ := st
    exact ⟨oi, e, fun v z => by rw [dd] at z; cases z⟩
  keep := fun i h h' st k => st.at fun oi e => k it (by simp) oi e
  item := by
    intro X hP hw hK hc i pins s σ H E I hf st hg
    subst hP hw hK
    have hi : i < zs.length := hg
    obtain ⟨f0, f1, f2, f3, f4, f5⟩ := hf it (by simp)
    have hgd := I.kIn d _ hl
    have hkv : zs[i]? = some zs[i] := List.getElem?_eq_getElem hi
    obtain ⟨en, t, hen, hkey⟩ := hz i _ hkv
    refine next_key_item st hgd rfl hsz hen fun h' st' sb => ?_
    have I1 : Inv X pins σ H { s with heap := h' } := I.turned (t' := s.toks) (fun b ob hb e => (sb.2 b hb).trans e) f0 f1 f3 f4 f5
    obtain ⟨oi, e, c, dd⟩ := id st'
    exact ⟨en.key, rfl, go_of (s := { s with heap := h' }) e c dd (by decide) ⟨.str zs[i], H, I1, ⟨t, hkey⟩, ⟨rfl, zs[i], hkv, rfl⟩, st', fun b hb => (hf b hb).1⟩⟩
  done := by
    intro X hP hw hK hc i pins s σ H E I hf st hg
    subst hP hw hK
    have hi : zs.length ≤ i := hg
    obtain ⟨f0, f1, f2, f3, f4, f5⟩ := hf it (by simp)
    have hgd := I.kIn d _ hl
    exact next_key_end (I.ok.hd hc) st hgd rfl hsz hi fun h' eb => ⟨rfl, I.turned (t' := s.toks) (fun b ob hb e => eb b ob hb e) f0 f1 f3 f4 f5⟩
  self := fun A i s Q E st h => by
    refine wpAny_pyIter_slot st.typeIs F.slot_dict_keyiterator_iter (wpAny_call_entry F.slot_dict_keyiterator_iter st.typeIs F.entry_dict_keyiterator_iter ?_ (F.args_dict_keyiterator_iter_1 _))
    show wpAny _ _ (ret (.ref it)) _ _ s
    exact wpAny_pure ⟨_, rfl, "dict_keyiterator", _, st.typeIs, F.slot_dict_keyiterator_next.lookup, h⟩
end
def iKK (K : PySem.W.Frag) (te : TE) : TI := fun σ H R => te σ H fun x H1 => ∃ d zs, x = .ref d ∧ KKeys K d zs ∧ R (Itkk zs) H1
theorem pi_kkeys {X : Cx} {tg e : Expr} {te : TE} (he : PE X e te) : PI X tg e (iKK X.K te) := by
  refine ⟨fun pins s σ H R I h => ?_⟩
  refine thn (he.run pins s σ H _ I h) fun u s1 ⟨x, H1, I1, rx, d, zs, ex, ⟨es, n, hl, hs, hsz, hz⟩, q⟩ => ?_
  subst ex
  obtain rfl : u = Value.ref d := rx
  refine iter_keys hs (I1.kIn d _ hl) ⟨rfl, rfl, rfl⟩ rfl (pi_one (tk := s1.toks) I1 _ (turn_kkeys _ hl hsz hz) ⟨_, Heap.get?_push_size _ rfl, rfl, ?_⟩ q)
  rw [hsz] <;> rfl
theorem walk_kk {zs : List Str} : Walk (Itkk zs) zs.length (fun _ => True) (fun i H x H' => H' = H ∧ ∃ z, zs[i]? = some z ∧ x = .str z) :=
  ⟨fun _ _ hi _ => hi, fun _ _ => Nat.le_refl _, fun _ _ _ _ _ _ y => y⟩
/-! ### B.__init__(self, ..), B an own exception class that inherits it -/
theorem pe_seinit {X : Cx} {x : Str} {C0 : Addr} {mc : Value} {e : Expr} {es : List Expr} {ta : TA} {p1 p2 pos : Pos} {pl : Sem Bool} (hg : Gl X x) (hm : X.mg x = some (.ref C0)) (r : ClX.CRead X.K C0 mc)
    (vV : PySem.W.findCls X.K (.ref C0) mc "__init__" = some (.val (.builtin "ValueError.__init__"))) (ha : PA X (e :: es) ta) (hdb : (x == ("__debug__" : Str)) = false := by decide)
    (hc : eval (.Call (.Attribute (.Name x p1) "__init__" p2) (e :: es) [] pos) X.env = (do
      let ov ← eval (.Name x p1) X.env
      standAt p2.atName
      let (f, first) ← holding [ov] (getMethod ov "__init__" pl)
      callWith pos f first (backTo pos (starEach (e :: es) X.env)) (backToKw pos (keywordEach [] X.env))) := by rfl)
    (he : starEach (e :: es) X.env = (false, eval e X.env) :: starEach es X.env := by rfl) (hpl : (backTo pos (starEach es X.env)).any (·.1) = false := by rfl) :
    PE X (.Call (.Attribute (.Name x p1) "__init__" p2) (e :: es) [] pos) (tVeI X.K ta) := by
  refine ⟨fun pins s σ H Q I h => ?_⟩
  refine PySem.W.methodCall_KW (ld_glob I hg hm ?_ hdb) hc
  refine PySem.W.method_cls I.kIn r.ga ?_
  refine PySem.W.cls_value I.kIn r.rd vV (by rfl) ?_
  show wpAny _ _ (callWith pos (Value.builtin "ValueError.__init__") [] (backTo pos (starEach (e :: es) X.env)) []) _ _ _
  refine PyProof.Rows.callWith_method1 (thn (ha.run pos pins _ σ H _ (I.tok _) h) fun us s1 ⟨vs, H1, I1, r1, a, C, ws, ev, hl, T, ea, q⟩ => ?_) he hpl
  subst ev
  cases r1 with
  | @cons _ u0 _ ur ra rw' =>
    obtain rfl : u0 = Value.ref a := ra
    have hlen : ur.length ≤ sizeLine := by
      rw [← Paired.length rw', sizeLine_eq]
      omega
    exact oinit_ok T I1 ea hlen fun s' J => ⟨.non, H1, J, rfl, q⟩
end LS
namespace LS
open PySem L2 PySem.Spec PyProof.Rows
theorem isC {K : PySem.W.Frag} {D : Addr} (h : PySem.W.hasDictIn K D = true) : (PySem.W.clsIn K D).isSome = true := by
  obtain ⟨cd, e, _⟩ := PySem.W.any_some h
  rw [e]
  rfl
/-- isinstance(e, c), e the exception that the suite holds, which has a dict of its own -/
def rIsD (K : PySem.W.Frag) (a : Addr) (cls : Value) (d : Option Addr) : List V → Hp → VK → Prop := fun xs H Q => ∃ (D : Addr) (c : V) (cv : Value) (b : Bool) (dd : Addr) (fs : List (Str × V)), cls = .ref D ∧ ExcC K D ∧ d = some dd ∧ H dd = some (.xd fs) ∧ xs = [.ref a, c] ∧
  (∀ u, RelV c u → u = cv) ∧ PySem.W.kitOne K (.ref D) cv = some b ∧ Q (.bl b) H
theorem call_isD {X : Cx} {a : Addr} {cls : Value} {d : Option Addr} {oe : Obj} {pn : List (Addr × Obj)} (hz : Zc cls d oe) (hf : ∃ vs, oe.data = .fields vs) : CallR (X.suite a ((a, oe) :: pn)) (.builtin "isinstance") (rIsD X.K a cls d) := by
  intro pins s σ H xs us Q I r h
  obtain ⟨D, c, cv, b, dd, fs, rfl, C, rfl, hdd, rfl, hcv, e, q⟩ := h
  cases r with
  | cons rx rr =>
    cases rr with
    | cons rt rr =>
      cases rr
      cases rx
      have ec := hcv _ rt
      subst ec
      obtain ⟨hget, _⟩ := I.pin (a, oe) (List.mem_append.mpr (.inl List.mem_cons_self))
      obtain ⟨vs, hv⟩ := hf
      have hx : ObjOk X.prog X.w H s.heap dd (.xd fs) := I.hok dd _ hdd
      obtain ⟨mA, hns, hr⟩ := hx
      obtain ⟨od, ho, hl⟩ := lookIn_ns hns
      have J : PySem.W.InstAt s.heap a oe D (some od) := ⟨hget, hz.1, by unfold PySem.W.notCls; rw [hv] <;> rfl, by rw [hz.2]; exact ho⟩
      exact PySem.W.kia_one (PySem.W.kitx_exc (isC C.hd) C.hg C.hk C.hs C.ha C.hn C.ht C.hm) I.kIn J e (fun z => nomatch z) fun tk => ⟨.bl b, H, I.kept (t' := tk) fun _ _ z => z, rfl, q⟩
/-! ### xs.count(x) of flat items -/
theorem count_eqU {x : V} : ∀ {xs : List V} {us : List Value}, Vals xs us → xs.all flatV = true → us.countP (eqU x) = xs.countP (fun y => eqV y x)
  | _, _, .nil, _ => rfl
  | y :: xs, u :: us, .cons r t, f => by
    rw [List.all_cons, Bool.and_eq_true] at f
    rw [List.countP_cons, List.countP_cons, eqU_of r f.1, count_eqU t f.2]
def rCntF (K : PySem.W.Frag) : V → List V → Hp → VK → Prop := fun x vs H Q => ∃ (p : Addr) (xs : List V) (k : V), x = .ref p ∧ vs = [k] ∧ SqL K H p xs ∧ flatV k = true ∧ xs.all flatV = true ∧ Q (.int ((xs.countP (fun y => eqV y k) : Nat) : Int)) H
theorem mt_countF {X : Cx} : MtR X "list.count" (rCntF X.K) := by
  intro pins s σ H x xs v us Q I rx rxs h
  obtain ⟨p, ns, k, rfl, rfl, hs, fk, fx, q⟩ := h
  cases rx
  obtain ⟨u, rfl, ru⟩ := rxs.one
  obtain ⟨its, rv, ⟨⟨cls, dd, data, sl⟩, n, ho, hc, hdn, hd⟩, hlen⟩ := I.list hs
  simp only at hc hd
  subst hc hd
  refine call_meets PySem.F.slot_list_count ⟨_, ho, rfl⟩ PySem.F.entry_list_count (PySem.F.args_list_count_2 _ _)
    (SeqAt.list_countAt p its.toArray n dd sl u (eqU k)) ⟨ho, fun y hy => mem_eqAt ru fk rv fx y (by simpa using hy), ?_⟩
  have ec : its.toArray.toList.countP (eqU k) = ns.countP (fun y => eqV y k) := count_eqU rv fx
  exact ⟨.int ((ns.countP (fun y => eqV y k) : Nat) : Int), H, I.tok _, ⟨s.toks, congrArg (fun m : Nat => Value.int (m : Int) s.toks) ec⟩, q⟩
end LS
namespace LS
open PySem L2
/-- none, a truth value, an int, a text, a tuple -/
def NoList : PyData → Prop
  | .list _ => False
  | .dict _ => False
  | _ => True
def tyN : PyData → String
  | .none => "NoneType"
  | .bool _ => "bool"
  | .int _ => "int"
  | .str _ => "str"
  | .list _ => "list"
  | .tuple _ => "tuple"
  | .dict _ => "dict"
theorem ty_of {K : PySem.W.Frag} {H : Hp} {v : V} {d : PyData} (h : Dp K H v d) (n : NoList d) : TyX K H v (.type (tyN d)) := by
  cases h with
  | non => exact .base .non
  | bl b => exact .base (.bl b)
  | int i => exact .base (.int i)
  | str x => exact .base (.str x)
  | lst a b => exact n.elim
  | tup a b =>
    rcases a with (q | ⟨o, q⟩) | ⟨o, its, m, hk, hc, _⟩
    · exact .base (.tup q)
    · exact .fTuple q
    · exact .kTuple hk hc
def isStr : PyData → Bool
  | .str _ => true
  | _ => false
def isInt : PyData → Bool
  | .int _ => true
  | .bool _ => true
  | _ => false
def isBool : PyData → Bool
  | .bool _ => true
  | _ => false
def isTup : PyData → Bool
  | .tuple _ => true
  | _ => false
theorem kit_of7 {t : String} {g : PyData → Bool} (h0 : kitB "NoneType" t = some (g .none)) (h1 : ∀ b, kitB "bool" t = some (g (.bool b))) (h2 : ∀ i, kitB "int" t = some (g (.int i))) (h3 : ∀ z, kitB "str" t = some (g (.str z)))
    (h4 : ∀ z, kitB "list" t = some (g (.list z))) (h5 : ∀ z, kitB "tuple" t = some (g (.tuple z))) (h6 : ∀ z, kitB "dict" t = some (g (.dict z))) (d : PyData) : kitB (tyN d) t = some (g d) := by
  cases d with
  | none => exact h0
  | bool b => exact h1 b
  | int i => exact h2 i
  | str z => exact h3 z
  | list z => exact h4 z
  | tuple z => exact h5 z
  | dict z => exact h6 z
theorem kit_str (d : PyData) : kitB (tyN d) "str" = some (isStr d) := kit_of7 (by decide +kernel) (fun _ => (by decide +kernel : kitB "bool" "str" = some false)) (fun _ => (by decide +kernel : kitB "int" "str" = some false)) (fun _ => (by decide +kernel : kitB "str" "str" = some true))
  (fun _ => (by decide +kernel : kitB "list" "str" = some false)) (fun _ => (by decide +kernel : kitB "tuple" "str" = some false)) (fun _ => (by decide +kernel : kitB "dict" "str" = some false)) d
theorem kit_int (d : PyData) : kitB (tyN d) "int" = some (isInt d) := kit_of7 (by decide +kernel) (fun _ => (by decide +kernel : kitB "bool" "int" = some true)) (fun _ => (by decide +kernel : kitB "int" "int" = some true)) (fun _ => (by decide +kernel : kitB "str" "int" = some false))
  (fun _ => (by decide +kernel : kitB "list" "int" = some false)) (fun _ => (by decide +kernel : kitB "tuple" "int" = some false)) (fun _ => (by decide +kernel : kitB "dict" "int" = some false)) d
theorem kit_bool (d : PyData) : kitB (tyN d) "bool" = some (isBool d) := kit_of7 (by decide +kernel) (fun _ => (by decide +kernel : kitB "bool" "bool" = some true)) (fun _ => (by decide +kernel : kitB "int" "bool" = some false)) (fun _ => (by decide +kernel : kitB "str" "bool" = some false))
  (fun _ => (by decide +kernel : kitB "list" "bool" = some false)) (fun _ => (by decide +kernel : kitB "tuple" "bool" = some false)) (fun _ => (by decide +kernel : kitB "dict" "bool" = some false)) d
theorem kit_tup (d : PyData) : kitB (tyN d) "tuple" = some (isTup d) := kit_of7 (by decide +kernel) (fun _ => (by decide +kernel : kitB "bool" "tuple" = some false)) (fun _ => (by decide +kernel : kitB "int" "tuple" = some false)) (fun _ => (by decide +kernel : kitB "str" "tuple" = some false))
  (fun _ => (by decide +kernel : kitB "list" "tuple" = some false)) (fun _ => (by decide +kernel : kitB "tuple" "tuple" = some true)) (fun _ => (by decide +kernel : kitB "dict" "tuple" = some false)) d
/-- all but p stands -/
def SameBut (p : Addr) (H H' : Hp) : Prop := ∀ b o, b ≠ p → H b = some o → H' b = some o
mutual
/-- no list, no dict at any depth -/
def noLs : PyData → Bool
  | .list _ => false
  | .dict _ => false
  | .tuple ds => noLss ds
  | _ => true
def noLss : List PyData → Bool
  | [] => true
  | d :: ds => noLs d && noLss ds
end
theorem noList_of {d : PyData} (h : noLs d = true) : NoList d := by
  cases d with
  | list _ => cases h
  | dict _ => cases h
  | _ => exact True.intro
theorem pss_false {X : Cx} {l : List Stmt} : PSs X l (fun _ _ _ => False) := ⟨fun _ _ _ _ _ _ h => h.elim⟩
theorem same_upd {H H1 : Hp} {D : Addr} {o : HO} (hD : H D = none) (S : Same H H1) : Same H (upd H1 D o) := fun b u e => by
  rw [upd_ne (ne_of_none e hD)]
  exact S b u e
end LS
namespace LS
open PySem L2
abbrev sWord : Stmt := top i_is_word
abbrev sAction : Stmt := top i_is_action
abbrev sActs : Stmt := top i_actions_of
abbrev letters : Str := "abcdefghijklmnopqrstuvwxyz"
abbrev actWords : List Str := ["ok", "bad", "die", "done", "ignore", "reset"]
abbrev resWords : List Str := ["yes", "no", "skip", "gone"]
def isWordS (z : Str) : Bool := decide (1 ≤ z.length) && decide (z.length ≤ 8) && z.cps.toList.all fun c => decide (c ∈ letters.cps.toList)
def isWord : PyData → Bool
  | .str z => isWordS z
  | _ => false
def isAction : PyData → Bool
  | .int i => decide (1 ≤ i) && decide (i ≤ 9)
  | d => (actWords.map PyData.str).any fun z => PyData.eqv z d
/-- what the top has written of rules.py -/
structure RulesK (K : PySem.W.Frag) (w : World) (mg : Str → Option Value) : Prop where
  letters : ∃ t, mg "LETTERS" = some (.str letters t)
  longest : ∃ t, mg "LONGEST_WORD" = some (.int 8 t)
  jump : ∃ t, mg "LONGEST_JUMP" = some (.int 9 t)
  acts : ∃ a, mg "ACTIONS" = some (.ref a) ∧ ∀ H, SqT K H a (actWords.map V.str)
  ress : ∃ a, mg "RESULTS" = some (.ref a) ∧ ∀ H, SqT K H a (resWords.map V.str)
  isi : mg "isinstance" = none
  str : mg "str" = none
  int : mg "int" = none
  bool : mg "bool" = none
  tuple : mg "tuple" = none
  len : mg "len" = none
  all : mg "all" = none
def spWord (K : PySem.W.Frag) : Sp := fun vs H Q _ => ∃ (v : V) (d : PyData), vs = [v] ∧ Dp K H v d ∧ NoList d ∧ (∀ z, d = .str z → z.length ≤ 1000) ∧ ∀ H', Same H H' → Q (.bl (isWord d)) H'
section
variable {P : Program} {w : World} {K : PySem.W.Frag} {mg : Str → Option Value} {base : Heap}
theorem scWord : FnScope ["value", "letter"] ["value"] (defScope sWord) := ⟨rfl, rfl, rfl, by decide +kernel, rfl, by decide +kernel, by decide +kernel⟩
theorem pick_upto {α β : Type} {f : α → β} {l : List α} {i : Nat} {c : α} (h : l[i]? = some c) : (l.take i).map f ++ [f c] = (l.take (i + 1)).map f := by
  rw [List.take_add_one, h, List.map_append]
  rfl
theorem yes_of {σ : St} {H : Hp} {A B : Bool → Hp → Prop} (h : A true H) : tYes σ H fun b H3 => if b = true then A b H3 else B b H3 := by
  show (if true = true then A true H else B true H)
  rw [if_pos rfl]
  exact h
theorem ok_word {f : Addr} {fd : FuncData} (F : Fun K "is_word" "is_word" sWord f fd) (T : RulesK K w mg) : FnOk P w K mg base CX0 1 f fd ["value"] (spWord K) := by
  obtain ⟨tl, gl⟩ := T.letters
  obtain ⟨tw, gw⟩ := T.longest
  refine F.ok scWord (fun vs H Q E h => ?_) (fun cdv A outer s H vs Q E hr h => ?_)
  · obtain ⟨v, d, rfl, _⟩ := h
    rfl
  · obtain ⟨v, d, rfl, hd, hn, hlen, k⟩ := h
    refine ⟨_, pss_cons (ps_if (PW.pt (pw_or (pt_not (pt_val (pe_callB call_isi (by rfl) T.isi (by decide +kernel) (pa_cons (pv 0) (pa_cons (pe_bltn (by rfl) T.str (by decide +kernel) (v := .ty "str") rfl) pa_nil)))))
          (pw_or1 (pt_not (pt_chain op_le op_le pe_int (pe_callB call_len_str (by rfl) T.len PySem.boot_len (pa_cons (pv 0) pa_nil)) (pe_glob (v := .int 8) (by rfl) gw ⟨tw, rfl⟩)))))) (pss_one (ps_ret pe_bl)) pss_nil)
      (pss_one (ps_ret (pe_callB (cr_all rfl) (by rfl) T.all (by decide +kernel) (pa_cons
        (pe_lc (own := [("letter", 1)]) (g := gName 1) (by rfl) scWord.nd (pi_str (pv 0)) (blkOk_by (own := [("letter", 1)]) (N := ["value", "letter"]) (sc := defScope sWord) (by decide +kernel))
          (fun _ _ _ _ _ => pg_name (i := 1) scWord.nd rfl (Or.inl rfl)) (fun _ _ _ _ _ => pts_nil) (fun _ _ _ _ _ => pe_cmpR op_in_sign (pv 1) (pe_glob (v := .str letters) (by rfl) gl ⟨tl, rfl⟩) (by rfl))) pa_nil)))), ?_⟩
    have hS : ∀ z : Str, d = .str z ∨ ¬ d = .str z := fun z => Classical.em _
    by_cases hstr : ∃ z, d = .str z
    · obtain ⟨z, rfl⟩ := hstr
      cases hd
      have hz1 : z.length ≤ 1000 := hlen z rfl
      have hz2 : z.length ≤ sizeLine := Nat.le_of_lt (small1000 hz1)
      refine ⟨_, rfl, .str z, .ty "str", .type "str", .type "str", true, rfl, .ty _, .base (.str z), kit_ty (by decide +kernel), _, rfl, ?_⟩
      refine iteF ?_
      refine ⟨_, rfl, z, rfl, hz2, _, _, rfl, rfl, _, rfl, ?_⟩
      refine ite2 (fun h1 => ?_) (fun h1 => ?_)
      · refine ⟨_, _, rfl, rfl, _, rfl, ?_⟩
        by_cases h2 : ((z.length : Nat) : Int) ≤ 8
        · rw [decide_eq_true h2]
          refine iteF ?_
          refine ⟨_, rfl, z, rfl, fun D hD => ?_⟩
          have hsz : z.cps.size = z.length := by simp [Str.length]
          refine lc_it walk_str (fun i H' => Same H (fun b => if b = D then none else H' b) ∧ H' D = some (.lst ((z.cps.toList.take i).map fun c => .bl (decide (c ∈ letters.cps.toList))))) ⟨?_, upd_same⟩ (fun _ _ _ _ => True.intro) ?_ ?_
          · intro b o e
            have hb : b ≠ D := ne_of_none e hD
            show (if b = D then none else upd H D (.lst []) b) = some o
            rw [if_neg hb, upd_ne hb]
            exact e
          · rintro i x H1 H2 hi ⟨hS1, hL⟩ ⟨rfl, c, hc, rfl⟩
            refine ⟨rfl, ?_⟩
            refine yes_of ?_
            refine ⟨_, rfl, c, letters, rfl, rfl, _, hL, ?_, ?_, ?_⟩
            · rw [List.length_map, List.length_take]
              have hs2 := sizeLine_eq
              omega
            · intro b o e
              have hb : b ≠ D := ne_of_none e hD
              have q := hS1 b o e
              have q : (if b = D then none else H2 b) = some o := q
              rw [if_neg hb] at q
              show (if b = D then none else upd H2 D _ b) = some o
              rw [if_neg hb, upd_ne hb]
              exact q
            · rw [upd_same]
              refine congrArg (fun l => some (HO.lst l)) ?_
              exact pick_upto (f := fun c => V.bl (decide (c ∈ letters.cps.toList))) (by rw [Array.getElem?_toList]; exact hc)
          · rintro H1 ⟨hS1, hL⟩
            refine ⟨D, z.cps.toList.map fun c => decide (c ∈ letters.cps.toList), rfl, .inl (.inl ?_), ?_⟩
            · rw [hL, List.map_map, ← Array.length_toList, List.take_length]
              rfl
            · have e : isWord (.str z) = (z.cps.toList.map fun c => decide (c ∈ letters.cps.toList)).all id := by
                show isWordS z = _
                unfold isWordS
                rw [decide_eq_true (show 1 ≤ z.length by have := of_decide_eq_true h1; omega), decide_eq_true (show z.length ≤ 8 by omega), List.all_map]
                rfl
              rw [← e]
              refine k _ fun b o e => ?_
              have q := hS1 b o e
              have q : (if b = D then none else H1 b) = some o := q
              rw [if_neg (ne_of_none e hD)] at q
              exact q
        · rw [decide_eq_false h2]
          refine iteT ?_
          have e : isWord (.str z) = false := by
            show isWordS z = _
            unfold isWordS
            rw [decide_eq_false (show ¬ z.length ≤ 8 by omega), Bool.and_false, Bool.false_and]
          have q := k H (Same.refl H)
          rw [e] at q
          exact q
      · have h1' : ¬ 1 ≤ z.length := fun h => h1 (decide_eq_true (by omega))
        refine ⟨_, rfl, ?_⟩
        refine iteT ?_
        have e : isWord (.str z) = false := by
          show isWordS z = _
          unfold isWordS
          rw [decide_eq_false h1', Bool.false_and, Bool.false_and]
        have q := k H (Same.refl H)
        rw [e] at q
        exact q
    · have hk : PySem.W.kitOne K (.type (tyN d)) (.type "str") = some false := by
        refine kit_ty ?_
        rw [kit_str]
        cases d with
        | str z => exact (hstr ⟨z, rfl⟩).elim
        | _ => rfl
      have e : isWord d = false := by
        cases d with
        | str z => exact (hstr ⟨z, rfl⟩).elim
        | _ => rfl
      refine ⟨_, rfl, v, .ty "str", _, _, false, rfl, .ty _, ty_of hd hn, hk, _, rfl, ?_⟩
      refine iteT ?_
      have q := k H (Same.refl H)
      rw [e] at q
      exact q
end
end LS
namespace LS
open PySem L2
abbrev sNum : Stmt := top i_is_number
/-- an int, no truth value, between two others -/
def isNum (a b : Int) : PyData → Bool
  | .int i => decide (a ≤ i) && decide (i ≤ b)
  | _ => false
def spNum (K : PySem.W.Frag) : Sp := fun vs H Q _ => ∃ (v : V) (d : PyData) (a b : Int), vs = [v, .int a, .int b] ∧ Dp K H v d ∧ NoList d ∧ Q (.bl (isNum a b d)) H
structure NumK (mg : Str → Option Value) : Prop where
  isi : mg "isinstance" = none
  int : mg "int" = none
  bool : mg "bool" = none
/-- a def of the module, with its promise -/
structure DefK (P : Program) (w : World) (K : PySem.W.Frag) (mg : Str → Option Value) (base : Heap) (CX : CXT) (k : Nat) (x : Str) (ps : List Str) (sp : Sp) where
  {a : Addr}
  {fd : FuncData}
  G : FnOk P w K mg base CX k a fd ps sp
  g : mg x = some (.ref a)
  kp : PySem.W.keepIn K (.ref a) = true
  b : Binds K fd ps []
section
variable {P : Program} {w : World} {K : PySem.W.Frag} {mg : Str → Option Value} {base : Heap}
theorem scNum : FnScope ["value", "least", "most"] ["value", "least", "most"] (defScope sNum) := ⟨rfl, rfl, rfl, by decide +kernel, rfl, by decide +kernel, by decide +kernel⟩
theorem ok_num {f : Addr} {fd : FuncData} (F : Fun K "is_number" "is_number" sNum f fd) (T : NumK mg) : FnOk P w K mg base CX0 1 f fd ["value", "least", "most"] (spNum K) := by
  refine F.ok scNum (fun vs H Q E h => ?_) (fun cdv A outer s H vs Q E hr h => ?_)
  · obtain ⟨v, d, a, b, rfl, _⟩ := h
    rfl
  · obtain ⟨v, d, a, b, rfl, hd, hn, k⟩ := h
    refine ⟨_, pss_one (ps_ret (pe_and (pe_callB call_isi (by rfl) T.isi (by decide +kernel) (pa_cons (pv 0) (pa_cons (pe_bltn (by rfl) T.int (by decide +kernel) (v := .ty "int") rfl) pa_nil)))
      (pe_and (pe_not (pe_callB call_isi (by rfl) T.isi (by decide +kernel) (pa_cons (pv 0) (pa_cons (pe_bltn (by rfl) T.bool (by decide +kernel) (v := .ty "bool") rfl) pa_nil))))
      (pe_one (pe_chain op_le op_le (pv 1) (pv 0) (pv 2)))))), ?_⟩
    refine ⟨_, rfl, v, .ty "int", _, _, isInt d, rfl, .ty _, ty_of hd hn, kit_ty (kit_int d), _, rfl, ?_⟩
    refine ite2 (fun h1 => ?_) (fun h1 => ?_)
    · refine ⟨_, rfl, v, .ty "bool", _, _, isBool d, rfl, .ty _, ty_of hd hn, kit_ty (kit_bool d), _, rfl, _, rfl, ?_⟩
      refine ite2 (fun h2 => ?_) (fun h2 => ?_)
      · obtain ⟨i, rfl⟩ : ∃ i, d = .int i := by
          cases d with
          | int i => exact ⟨i, rfl⟩
          | bool b => cases h2
          | _ => cases h1
        cases hd
        refine ⟨_, rfl, _, rfl, _, _, rfl, rfl, _, rfl, ?_⟩
        have e : isNum a b (.int i) = (decide (a ≤ i) && decide (i ≤ b)) := rfl
        rw [e] at k
        refine ite2 (fun h3 => ?_) (fun h3 => ?_)
        · refine ⟨_, rfl, _, _, rfl, rfl, ?_⟩
          rw [h3, Bool.true_and] at k
          exact k
        · rw [Bool.eq_false_iff.mpr h3, Bool.false_and] at k
          exact k
      · have e : isNum a b d = false := by
          cases d with
          | int i => exact (h2 rfl).elim
          | _ => rfl
        rw [e] at k
        exact k
    · have e : isNum a b d = false := by
        cases d with
        | int i => exact (h1 rfl).elim
        | _ => rfl
      rw [e] at k
      exact k
end
end LS
namespace LS
open PySem L2
theorem same_tup {K : PySem.W.Frag} {H H' : Hp} {a : Addr} {xs : List V} (e : Same H H') (h : SqT K H a xs) : SqT K H' a xs := by
  rcases h with (h | ⟨o, h⟩) | h
  · exact .inl (.inl (e _ _ h))
  · exact .inl (.inr ⟨o, e _ _ h⟩)
  · exact .inr h
mutual
theorem same_dp {K : PySem.W.Frag} {H H' : Hp} (e : Same H H') : ∀ (d : PyData) (v : V), Dp K H v d → Dp K H' v d
  | .none, _, h => by cases h; exact .non
  | .bool _, _, h => by cases h; exact .bl _
  | .int _, _, h => by cases h; exact .int _
  | .str _, _, h => by cases h; exact .str _
  | .list ds, _, h => by
    cases h with
    | lst hs ha => exact .lst (e.seq hs) (same_dps e ds _ ha)
  | .tuple ds, _, h => by
    cases h with
    | tup hs ha => exact .tup (same_tup e hs) (same_dps e ds _ ha)
  | .dict _, _, h => by cases h
theorem same_dps {K : PySem.W.Frag} {H H' : Hp} (e : Same H H') : ∀ (ds : List PyData) (vs : List V), DpAll K H vs ds → DpAll K H' vs ds
  | [], _, h => by cases h; exact .nil
  | d :: ds, _, h => by
    cases h with
    | cons h1 h2 => exact .cons (same_dp e d _ h1) (same_dps e ds _ h2)
end
theorem dps_len {K : PySem.W.Frag} {H : Hp} : ∀ {vs : List V} {ds : List PyData}, DpAll K H vs ds → vs.length = ds.length
  | _, _, .nil => rfl
  | _, _, .cons _ t => congrArg (· + 1) (dps_len t)
theorem dps_get {K : PySem.W.Frag} {H : Hp} : ∀ {vs : List V} {ds : List PyData} {i : Nat} {v : V}, DpAll K H vs ds → vs[i]? = some v → ∃ d, ds[i]? = some d ∧ Dp K H v d
  | _, _, _, _, .nil, e => by simp at e
  | _, _, 0, _, .cons r _, e => by simp at e; subst e; exact ⟨_, rfl, r⟩
  | _, _, i + 1, _, .cons _ t, e => by
    obtain ⟨d, h1, h2⟩ := dps_get (i := i) t (by simpa using e)
    exact ⟨d, by simpa using h1, h2⟩
/-- few, flat or nearly so -/
def Mild (d : PyData) : Prop := NoList d ∧ SeqAt.shaped d = true ∧ ∀ z, d = .str z → z.length ≤ 1000
theorem words_dp {K : PySem.W.Frag} {H : Hp} : ∀ zs : List Str, DpAll K H (zs.map V.str) (zs.map PyData.str)
  | [] => .nil
  | z :: zs => .cons (.str z) (words_dp zs)
def spAction (K : PySem.W.Frag) : Sp := fun vs H Q _ => ∃ (v : V) (d : PyData), vs = [v] ∧ Dp K H v d ∧ Mild d ∧ Q (.bl (isAction d)) H
section
variable {P : Program} {w : World} {K : PySem.W.Frag} {mg : Str → Option Value} {base : Heap}
theorem scAction : FnScope ["value"] ["value"] (defScope sAction) := ⟨rfl, rfl, rfl, by decide +kernel, rfl, by decide +kernel, by decide +kernel⟩
theorem isAction_eq (d : PyData) : isAction d = (isNum 1 9 d || (actWords.map PyData.str).any fun z => PyData.eqv z d) := by
  cases d with
  | int i =>
    have e : ((actWords.map PyData.str).any fun z => PyData.eqv z (.int i)) = false := by
      refine Bool.eq_false_iff.mpr fun h => ?_
      obtain ⟨z, hz, e⟩ := List.any_eq_true.mp h
      obtain ⟨s, _, rfl⟩ := List.mem_map.mp hz
      simp [PyData.eqv] at e
    rw [e, Bool.or_false]
    rfl
  | _ => rfl
theorem ok_action {f : Addr} {fd : FuncData} (F : Fun K "is_action" "is_action" sAction f fd) (T : RulesK K w mg) (N : DefK P w K mg base CX0 1 "is_number" ["value", "least", "most"] (spNum K)) : FnOk P w K mg base CX0 2 f fd ["value"] (spAction K) := by
  obtain ⟨tj, gj⟩ := T.jump
  obtain ⟨aa, ga, ha⟩ := T.acts
  refine F.ok scAction (fun vs H Q E h => ?_) (fun cdv A outer s H vs Q E hr h => ?_)
  · obtain ⟨v, d, rfl, _⟩ := h
    rfl
  · obtain ⟨v, d, rfl, hd, ⟨hn, hsh, hz⟩, k⟩ := h
    have hu : (A.deeper (PyProof.Rows.envOfC "is_action" (defScope sAction) s.heap.objs.size f cdv)).units + 65 < cLine := by have := hr.un; omega
    refine ⟨_, pss_one (ps_ret (pe_or (pe_call N.G hr (by rfl) N.g N.kp N.b .nil pass0 (pa_cons (pv 0) (pa_cons pe_int (pa_cons (pe_glob (v := .int 9) (by rfl) gj ⟨tj, rfl⟩) pa_nil))))
      (pe_one (pe_cmpR (op_inT hu) (pv 0) (pe_glob (v := .ref aa) (by rfl) ga rfl) (by rfl))))), ?_⟩
    rw [isAction_eq] at k
    refine ⟨_, rfl, v, d, 1, 9, rfl, hd, hn, _, rfl, ?_⟩
    refine ite2 (fun h1 => ?_) (fun h1 => ?_)
    · rw [h1, Bool.true_or] at k
      exact k
    · rw [Bool.eq_false_iff.mpr h1, Bool.false_or] at k
      exact ⟨_, rfl, d, actWords.map PyData.str, hd, .tup (ha H) (words_dp _), hsh, by decide +kernel, k⟩
end
end LS
namespace LS
open PySem L2
abbrev tReq : List Str := ["ok", "bad", "ignore", "bad"]
abbrev tRqs : List Str := ["ok", "die", "ignore", "die"]
abbrev tSuf : List Str := ["done", "ignore", "ignore", "ignore"]
abbrev tOpt : List Str := ["ok", "ignore", "ignore", "ignore"]
def ctrlTab : List (Str × List Str) := [("required", tReq), ("requisite", tRqs), ("sufficient", tSuf), ("optional", tOpt)]
def CtrlEs (K : PySem.W.Frag) : List DictEntry → List (Str × List Str) → Prop
  | [], [] => True
  | e :: es, r :: rs => (∃ t a, e.key = .str r.1 t ∧ e.val = .ref a ∧ ∀ H, SqT K H a (r.2.map V.str)) ∧ CtrlEs K es rs
  | _, _ => False
structure CtrlK (K : PySem.W.Frag) (w : World) (mg : Str → Option Value) (dC : Addr) : Prop where
  g : mg "CONTROLS" = some (.ref dC)
  sys : (dC == sysModules) = false
  ex : ∃ es n, K.lookup dC = some ⟨.type "dict", none, .dict es n, #[]⟩ ∧ PySem.W.KeysLit w.params es.toList ∧ CtrlEs K es.toList ctrlTab
def looked (z : Str) (rs : List (Str × List Str)) : Option (List Str) := (rs.find? fun r => decide (r.1 = z)).map (·.2)
theorem ctrl_find {K : PySem.W.Frag} {z : Str} : ∀ {es : List DictEntry} {rs : List (Str × List Str)}, CtrlEs K es rs →
    es.any (·.refKey) = false ∧ ((looked z rs = none ∧ es.find? (·.key.isStr z) = none) ∨ ∃ acts e a, looked z rs = some acts ∧ es.find? (·.key.isStr z) = some e ∧ e.val = .ref a ∧ ∀ H, SqT K H a (acts.map V.str))
  | [], [], _ => ⟨rfl, .inl ⟨rfl, rfl⟩⟩
  | e :: es, r :: rs, ⟨⟨t, a, hk, hv, hs⟩, h⟩ => by
    obtain ⟨h1, h2⟩ := ctrl_find (z := z) h
    have hr : e.refKey = false := by unfold DictEntry.refKey; rw [hk]
    have hi : e.key.isStr z = decide (r.1 = z) := by
      rw [hk]
      show (r.1 == z) = decide (r.1 = z)
      by_cases q : r.1 = z
      · rw [decide_eq_true q]
        exact beq_iff_eq.mpr q
      · rw [decide_eq_false q]
        exact beq_eq_false_iff_ne.mpr q
    refine ⟨by rw [List.any_cons, hr, h1]; rfl, ?_⟩
    unfold looked
    rw [List.find?_cons, List.find?_cons, hi]
    by_cases q : r.1 = z
    · rw [decide_eq_true q]
      exact .inr ⟨r.2, e, a, rfl, rfl, hv, hs⟩
    · rw [decide_eq_false q]
      exact h2
theorem ctrl_ns {K : PySem.W.Frag} {w : World} {mg : Str → Option Value} {dC : Addr} (T : CtrlK K w mg dC) (z : Str) :
    (looked z ctrlTab = none ∧ KGet K w dC z .non) ∨ ∃ acts a, looked z ctrlTab = some acts ∧ KGet K w dC z (.ref a) ∧ ∀ H, SqT K H a (acts.map V.str) := by
  obtain ⟨es, n, hl, hk, hc⟩ := T.ex
  obtain ⟨h1, h2⟩ := ctrl_find (z := z) hc
  rcases h2 with ⟨e1, e2⟩ | ⟨acts, e, a, e1, e2, e3, e4⟩
  · refine .inl ⟨e1, es, n, none, hl, hk, T.sys, ?_, fun u q => (nomatch q), fun _ => rfl⟩
    unfold PySem.W.nsIn
    rw [hl]
    simp [e2, h1]
  · refine .inr ⟨acts, a, e1, ⟨es, n, some (.ref a), hl, hk, T.sys, ?_, fun u q => ?_, fun q => (nomatch q)⟩, e4⟩
    · unfold PySem.W.nsIn
      rw [hl]
      simp [e2, e3]
    · cases q
      rfl
def actsOf : PyData → Option (List PyData)
  | .str z => (looked z ctrlTab).map (·.map PyData.str)
  | .tuple ds => if ds.length = 4 ∧ ds.all isAction = true then some ds else none
  | _ => none
/-- a control: a flat thing, or a tuple of mild things -/
def Ctl (d : PyData) : Prop := NoList d ∧ ∀ ds, d = .tuple ds → ds.length ≤ 1000 ∧ ∀ e ∈ ds, Mild e
def spActs (K : PySem.W.Frag) : Sp := fun vs H Q _ => ∃ (v : V) (d : PyData), vs = [v] ∧ Dp K H v d ∧ Ctl d ∧
  ∀ (c : V) (H' : Hp), Same H H' → (actsOf d = none → c = .non) → (∀ ds, actsOf d = some ds → ∃ a, c = .ref a ∧ Dp K H' c (.tuple ds)) → Q c H'
section
variable {P : Program} {w : World} {K : PySem.W.Frag} {mg : Str → Option Value} {base : Heap}
theorem scActs : FnScope ["control", "action"] ["control"] (defScope sActs) := ⟨rfl, rfl, rfl, by decide +kernel, rfl, by decide +kernel, by decide +kernel⟩
theorem ok_acts {f fA dC : Addr} {fd fdA : FuncData} (F : Fun K "actions_of" "actions_of" sActs f fd) (T : RulesK K w mg) (D : CtrlK K w mg dC) (FA : Fun K "is_action" "is_action" sAction fA fdA) (gA : mg "is_action" = some (.ref fA)) (bA : Binds K fdA ["value"] []) (N : DefK P w K mg base CX0 1 "is_number" ["value", "least", "most"] (spNum K)) :
    FnOk P w K mg base CX0 3 f fd ["control"] (spActs K) := by
  have GA : FnOk P w K mg base CX0 2 fA fdA ["value"] (spAction K) := ok_action FA T N
  obtain ⟨ar, gr, hR⟩ := T.ress
  refine F.ok scActs (fun vs H Q E h => ?_) (fun cdv A outer s H vs Q E hr h => ?_)
  · obtain ⟨v, d, rfl, _⟩ := h
    rfl
  · obtain ⟨v, d, rfl, hd, ⟨hn, hc⟩, k⟩ := h
    refine ⟨_, pss_cons (ps_if (pt_val (pe_callB call_isi (by rfl) T.isi (by decide +kernel) (pa_cons (pv 0) (pa_cons (pe_bltn (by rfl) T.str (by decide +kernel) (v := .ty "str") rfl) pa_nil))))
          (pss_one (ps_ret (pe_kdget (pe_glob (v := .ref dC) (by rfl) D.g rfl) (pv 0) ⟨rfl, rfl, rfl, rfl⟩))) pss_nil)
      (pss_cons (ps_if (PW.pt (pw_or (pt_not (pt_val (pe_callB call_isi (by rfl) T.isi (by decide +kernel) (pa_cons (pv 0) (pa_cons (pe_bltn (by rfl) T.tuple (by decide +kernel) (v := .ty "tuple") rfl) pa_nil)))))
          (pw_or1 (pt_cmpR op_ne (pe_callB call_len_seq (by rfl) T.len PySem.boot_len (pa_cons (pv 0) pa_nil)) (pe_callB call_len_seq (by rfl) T.len PySem.boot_len (pa_cons (pe_glob (v := .ref ar) (by rfl) gr rfl) pa_nil)) (nomark _)))))
          (pss_one (ps_ret pe_non)) pss_nil)
      (pss_cons (ps_if (pt_not (pt_val (pe_callB (cr_all rfl) (by rfl) T.all (by decide +kernel) (pa_cons
            (pe_lc (own := [("action", 1)]) (g := gName 1) (by rfl) scActs.nd (pi_tup (pv 0)) (blkOk_by (own := [("action", 1)]) (N := ["control", "action"]) (sc := defScope sActs) (by decide +kernel))
              (fun _ _ _ _ _ => pg_name (i := 1) scActs.nd rfl (Or.inl rfl)) (fun _ _ _ _ _ => pts_nil) (fun _ _ _ _ _ => pe_call GA hr (by rfl) gA FA.kp bA .nil pass0 (pa_cons (pv 1) pa_nil))) pa_nil))))
          (pss_one (ps_ret pe_non)) pss_nil)
      (pss_one (ps_ret (pv 0))))), ?_⟩
    refine ⟨_, rfl, v, .ty "str", _, _, isStr d, rfl, .ty _, ty_of hd hn, kit_ty (kit_str d), _, rfl, ?_⟩
    refine ite2 (fun h1 => ?_) (fun h1 => ?_)
    · obtain ⟨z, rfl⟩ : ∃ z, d = .str z := by
        cases d with
        | str z => exact ⟨z, rfl⟩
        | _ => cases h1
      cases hd
      obtain ⟨es, n, hl, hk, _⟩ := D.ex
      refine ⟨dC, rfl, ⟨es, n, hl, hk⟩, _, rfl, z, ?_⟩
      rcases ctrl_ns D z with ⟨e1, e2⟩ | ⟨acts, a, e1, e2, e3⟩
      · refine ⟨.non, rfl, e2, k _ _ (Same.refl H) (fun _ => rfl) fun ds q => ?_⟩
        have q : (looked z ctrlTab).map (·.map PyData.str) = some ds := q
        rw [e1] at q
        cases q
      · refine ⟨.ref a, rfl, e2, k _ _ (Same.refl H) (fun q => ?_) fun ds q => ⟨a, rfl, ?_⟩⟩
        · have q : (looked z ctrlTab).map (·.map PyData.str) = none := q
          rw [e1] at q
          cases q
        · have q : (looked z ctrlTab).map (·.map PyData.str) = some ds := q
          rw [e1] at q
          cases q
          exact .tup (e3 H) (words_dp _)
    · refine ⟨_, rfl, v, .ty "tuple", _, _, isTup d, rfl, .ty _, ty_of hd hn, kit_ty (kit_tup d), _, rfl, ?_⟩
      by_cases ht : ∃ ds, d = .tuple ds
      · obtain ⟨ds, rfl⟩ := ht
        obtain ⟨hlen, hm⟩ := hc ds rfl
        refine iteF ?_
        have hd0 := hd
        cases hd with
        | @tup a xs _ hs ha =>
          have hxl : xs.length = ds.length := dps_len ha
          refine ⟨_, rfl, a, xs, rfl, .inr hs, ar, _, rfl, .inr (hR H), rfl, _, rfl, ?_⟩
          show if (!decide (V.int ((xs.length : Nat) : Int) = V.int ((4 : Nat) : Int))) = true then _ else _
          by_cases h4 : ds.length = 4
          · rw [decide_eq_true (by rw [hxl, h4])]
            refine iteF ?_
            refine ⟨_, rfl, a, rfl, ⟨_, hs⟩, fun B hB => ?_⟩
            refine lc_it walk_tup (fun i H' => Same H H' ∧ H' B = some (.lst ((ds.take i).map fun e => .bl (isAction e)))) ⟨same_upd hB (Same.refl H), upd_same⟩ (fun _ _ _ h => same_tup h.1 hs) ?_ ?_
            · rintro i x H1 H2 hi ⟨hS1, hL⟩ ⟨rfl, hx⟩
              obtain ⟨e, he, hxe⟩ := dps_get ha hx
              refine ⟨rfl, yes_of ?_⟩
              refine ⟨_, rfl, x, e, rfl, same_dp hS1 e x hxe, hm e (List.mem_of_getElem? he), _, hL, ?_, same_upd hB hS1, ?_⟩
              · rw [List.length_map, List.length_take]
                have hs2 := sizeLine_eq
                omega
              · rw [upd_same]
                exact congrArg (fun l => some (HO.lst l)) (pick_upto (f := fun e => V.bl (isAction e)) he)
            · rintro H1 ⟨hS1, hL⟩
              refine ⟨B, ds.map isAction, rfl, .inl (.inl ?_), _, rfl, ?_⟩
              · rw [hL, List.map_map, hxl, List.take_length]
                rfl
              · rw [List.all_map]
                have e0 : ds.all (id ∘ isAction) = ds.all isAction := rfl
                rw [e0]
                have e1 : actsOf (.tuple ds) = if ds.all isAction = true then some ds else none := by
                  show (if ds.length = 4 ∧ ds.all isAction = true then some ds else none) = _
                  by_cases q : ds.all isAction = true
                  · rw [if_pos q, if_pos ⟨h4, q⟩]
                  · rw [if_neg q, if_neg (fun z => q z.2)]
                rw [e1] at k
                cases hall : ds.all isAction with
                | true =>
                  rw [hall] at k
                  refine iteF ?_
                  refine ⟨_, rfl, k _ H1 hS1 (fun q => (nomatch q)) fun ds' q => ?_⟩
                  cases q
                  exact ⟨a, rfl, same_dp hS1 _ _ hd0⟩
                | false =>
                  rw [hall] at k
                  refine iteT ?_
                  exact k _ H1 hS1 (fun _ => rfl) fun ds' q => (nomatch q)
          · rw [decide_eq_false (fun q => h4 (by rw [← hxl]; exact Int.ofNat.inj (V.int.inj q)))]
            refine iteT ?_
            have e1 : actsOf (.tuple ds) = none := if_neg fun z => h4 z.1
            rw [e1] at k
            exact k _ H (Same.refl H) (fun _ => rfl) fun ds' q => (nomatch q)
      · have e1 : actsOf d = none := by
          cases d with
          | str z => exact (h1 rfl).elim
          | tuple ds => exact (ht ⟨ds, rfl⟩).elim
          | _ => rfl
        have e2 : isTup d = false := by
          cases d with
          | tuple ds => exact (ht ⟨ds, rfl⟩).elim
          | _ => rfl
        rw [e2]
        rw [e1] at k
        refine iteT ?_
        exact k _ H (Same.refl H) (fun _ => rfl) fun ds' q => (nomatch q)
end
end LS
namespace LS
open PySem L2
/-- StackError: a class over ValueError without an __init__ of its own -/
structure BaseX (K : PySem.W.Frag) (mg : Str → Option Value) (C0 : Addr) : Prop where
  g : mg "StackError" = some (.ref C0)
  rd : ∃ mc, ClX.CRead K C0 mc ∧ PySem.W.findCls K (.ref C0) mc "__init__" = some (.val (.builtin "ValueError.__init__"))
/-- an own exception class at C -/
structure ExK (K : PySem.W.Frag) (mg : Str → Option Value) (x : Str) (C : Addr) : Prop where
  g : mg x = some (.ref C)
  oex : OexC K C
  exc : ExcC K C
  xf : XfC K C
/-- __init__(self, z): the base's, then self.f = z; t: the text ahead of z -/
def spXInit (K : PySem.W.Frag) (f t : Str) : Sp := fun vs H Q _ => ∃ (a C : Addr) (z : Str), vs = [.ref a, .str z] ∧ z.length ≤ sizeLine ∧ (Str.empty ++ t ++ z).length ≤ sizeLine ∧
  OexC K C ∧ PySem.W.findIn K (.ref C) f = some none ∧ H a = some (exo a C none) ∧
  ∀ dx, H dx = none → dx ≠ a → Q .non (upd (upd H dx (exd dx [(f, .str z)])) a (exo a C (some dx)))
abbrev sIRInit : Stmt := inClass (top i_InvalidRule) 0
abbrev tIR : Str := "a rule cannot have this "
section
variable {P : Program} {w : World} {K : PySem.W.Frag} {mg : Str → Option Value} {base : Heap}
theorem scIR : FnScope ["self", "part"] ["self", "part"] (defScope sIRInit) := ⟨rfl, rfl, rfl, by decide +kernel, rfl, by decide +kernel, by decide +kernel⟩
theorem ok_irinit {f C0 : Addr} {fd : FuncData} (F : Fun K "__init__" "InvalidRule.__init__" sIRInit f fd) (B : BaseX K mg C0) : FnOk P w K mg base CX0 1 f fd ["self", "part"] (spXInit K "part" tIR) := by
  obtain ⟨mc, rd, vV⟩ := B.rd
  refine F.ok scIR (fun vs H Q E h => ?_) (fun cdv A outer s H vs Q E hr h => ?_)
  · obtain ⟨a, C, v, rfl, _⟩ := h
    rfl
  · obtain ⟨a, C, z, rfl, hz1, hz2, T, hno, ha, k⟩ := h
    refine ⟨_, pss_cons (ps_expr (pe_seinit (by rfl) B.g rd vV (pa_cons (pv 0) (pa_cons (pe_joined (PJ.cons pe_str (PJ.cons (pe_fmt (pv 1)) PJ.nil))) pa_nil)))) (pss_one (ps_ost (pv 0) (pv 1))), ?_⟩
    refine ⟨_, rfl, _, rfl, by decide, _, rfl, .inl ⟨z, rfl, hz1, z, rfl, hz2, a, C, _, rfl, by show 1 ≤ 1000; decide, T, ha, ?_⟩⟩
    exact ⟨_, rfl, _, rfl, a, C, rfl, T, hno, .inl ⟨ha, k⟩⟩
/-- what raising leaves: the error's own dict, new -/
theorem raise_heap {H : Hp} {a C dx : Addr} {fs : List (Str × V)} (hna : H a = none) (hdx : upd H a (exo a C none) dx = none) : upd (del (upd (upd (upd H a (exo a C none)) dx (exd dx fs)) a (exo a C (some dx))) a) dx (.xd fs) = upd H dx (.xd fs) := by
  have hne : dx ≠ a := fun e => by
    rw [e, upd_same] at hdx
    cases hdx
  funext b
  by_cases h1 : b = dx
  · rw [h1, upd_same, upd_same]
  · rw [upd_ne h1, upd_ne h1]
    by_cases h2 : b = a
    · rw [h2, del_same, hna]
    · rw [del_ne h2, upd_ne h2, upd_ne h1, upd_ne h2]
/-- X(z), X an own error whose __init__ keeps spXInit: behind it the error has a new dict -/
theorem mkX_run {C : Addr} {f t z : Str} {H : Hp} {Q : XK} (hz1 : z.length ≤ sizeLine) (hz2 : (Str.empty ++ t ++ z).length ≤ sizeLine) (T : OexC K C) (hno : PySem.W.findIn K (.ref C) f = some none)
    (k : ∀ d, H d = none → Q (.ref C) (some d) (upd H d (.xd [(f, .str z)]))) {σ : St} : tMkO C (spXInit K f t) [] (tCons (tC (.str z)) tNil) σ H Q := by
  refine ⟨by show 1 ≤ 1000; decide, fun a ha => ⟨a, C, z, rfl, hz1, hz2, T, hno, upd_same, fun dx hdx hne => ⟨rfl, dx, [(f, .str z)], upd_same, ?_, ?_, ?_⟩⟩⟩
  · rw [upd_ne hne, upd_same]
  · rw [upd_ne hne] at hdx
    exact hdx
  · have e := raise_heap (fs := [(f, V.str z)]) (C := C) ha hdx
    rw [e]
    rw [upd_ne hne] at hdx
    exact k dx hdx
end
end LS
namespace LS
open PySem L2
abbrev sRInit : Stmt := inClass (top i_Rule) 0
abbrev sRKind : Stmt := inClass (top i_Rule) 3
abbrev sREq : Stmt := inClass (top i_Rule) 4
def ruleF (z : Str) (a : Addr) : List (Str × V) := [("_module", .str z), ("_control", .ref a)]
/-- at p a rule: module z, actions ds -/
def RuleAt (K : PySem.W.Frag) (C : Addr) (H : Hp) (p : Addr) (z : Str) (ds : List PyData) : Prop := ∃ dx a, H p = some (.ins C dx (ruleF z a)) ∧ Dp K H (.ref a) (.tuple ds)
structure RuleK (K : PySem.W.Frag) (mg : Str → Option Value) (C : Addr) : Prop where
  g : mg "Rule" = some (.ref C)
  cl : Cls K C
  nM : NoAttr K C "_module"
  nC : NoAttr K C "_control"
def spRInit (K : PySem.W.Frag) (C CI : Addr) : Sp := fun vs H Q E => ∃ (p dx : Addr) (m c : V) (dm dc : PyData), vs = [.ref p, m, c] ∧ H p = some (.ins C dx []) ∧ Dp K H m dm ∧ NoList dm ∧ (∀ z, dm = .str z → z.length ≤ 1000) ∧ Dp K H c dc ∧ Ctl dc ∧
  (isWord dm = false → ∀ d H', Same H H' → H d = none → H' d = some (.xd [("part", .str "module")]) → E (.ref CI) (some d) H') ∧
  (isWord dm = true → actsOf dc = none → ∀ d H', Same H H' → H d = none → H' d = some (.xd [("part", .str "control")]) → E (.ref CI) (some d) H') ∧
  (∀ z ds H', dm = .str z → isWord dm = true → actsOf dc = some ds → SameBut p H H' → RuleAt K C H' p z ds → Q .non H')
theorem Same.free' {H H' : Hp} (e : Same H H') {l : Addr} (h : H' l = none) : H l = none := e.free h
section
variable {P : Program} {w : World} {K : PySem.W.Frag} {mg : Str → Option Value} {base : Heap}
theorem scRInit : FnScope ["self", "module", "control", "actions"] ["self", "module", "control"] (defScope sRInit) := ⟨rfl, rfl, rfl, by decide +kernel, rfl, by decide +kernel, by decide +kernel⟩
theorem word_str {d : PyData} (h : isWord d = true) : ∃ z, d = .str z ∧ isWordS z = true := by
  cases d with
  | str z => exact ⟨z, rfl, h⟩
  | _ => cases h
theorem rule_put (m c : V) : putF "_control" c (putF "_module" m []) = ([("_module", m), ("_control", c)] : List (Str × V)) := by
  show (if ("_module" : Str) = "_control" then [(("_control" : Str), c)] else (("_module" : Str), m) :: putF "_control" c []) = _
  rw [if_neg (by decide +kernel)]
  rfl
/-- data does not lean on an instance -/
theorem but_tup {K : PySem.W.Frag} {C dx : Addr} {fs : List (Str × V)} {H H' : Hp} {p a : Addr} {xs : List V} (hp : H p = some (.ins C dx fs)) (e : SameBut p H H') (h : SqT K H a xs) : SqT K H' a xs := by
  have ne : ∀ {o : HO}, H a = some o → (∀ C dx fs, o ≠ .ins C dx fs) → a ≠ p := fun {o} q n z => by
    rw [z, hp] at q
    exact n C dx fs (Option.some.inj q).symm
  rcases h with (h | ⟨o, h⟩) | h
  · exact .inl (.inl (e _ _ (ne h fun _ _ _ z => nomatch z) h))
  · exact .inl (.inr ⟨o, e _ _ (ne h fun _ _ _ z => nomatch z) h⟩)
  · exact .inr h
theorem but_lst {K : PySem.W.Frag} {C dx : Addr} {fs : List (Str × V)} {H H' : Hp} {p a : Addr} {xs : List V} (hp : H p = some (.ins C dx fs)) (e : SameBut p H H') (h : SqL K H a xs) : SqL K H' a xs := by
  have ne : ∀ {o : HO}, H a = some o → (∀ C dx fs, o ≠ .ins C dx fs) → a ≠ p := fun {o} q n z => by
    rw [z, hp] at q
    exact n C dx fs (Option.some.inj q).symm
  rcases h with (h | ⟨o, h⟩) | h
  · exact .inl (.inl (e _ _ (ne h fun _ _ _ z => nomatch z) h))
  · exact .inl (.inr ⟨o, e _ _ (ne h fun _ _ _ z => nomatch z) h⟩)
  · exact .inr h
mutual
theorem same_but {K : PySem.W.Frag} {C dx : Addr} {fs : List (Str × V)} {H H' : Hp} {p : Addr} (hp : H p = some (.ins C dx fs)) (e : SameBut p H H') : ∀ (d : PyData) (v : V), Dp K H v d → Dp K H' v d
  | .none, _, h => by cases h; exact .non
  | .bool _, _, h => by cases h; exact .bl _
  | .int _, _, h => by cases h; exact .int _
  | .str _, _, h => by cases h; exact .str _
  | .list ds, _, h => by
    cases h with
    | lst hs ha => exact .lst (but_lst hp e hs) (same_buts hp e ds _ ha)
  | .tuple ds, _, h => by
    cases h with
    | tup hs ha => exact .tup (but_tup hp e hs) (same_buts hp e ds _ ha)
  | .dict _, _, h => by cases h
theorem same_buts {K : PySem.W.Frag} {C dx : Addr} {fs : List (Str × V)} {H H' : Hp} {p : Addr} (hp : H p = some (.ins C dx fs)) (e : SameBut p H H') : ∀ (ds : List PyData) (vs : List V), DpAll K H vs ds → DpAll K H' vs ds
  | [], _, h => by cases h; exact .nil
  | d :: ds, _, h => by
    cases h with
    | cons h1 h2 => exact .cons (same_but hp e d _ h1) (same_buts hp e ds _ h2)
end
theorem ok_rinit {f fI fW fO dC CI C fA : Addr} {fd fdI fdW fdO fdA : FuncData} {C0 : Addr} (F : Fun K "__init__" "Rule.__init__" sRInit f fd) (R : RuleK K mg C) (T : RulesK K w mg) (D : CtrlK K w mg dC)
    (FW : Fun K "is_word" "is_word" sWord fW fdW) (gW : mg "is_word" = some (.ref fW)) (bW : Binds K fdW ["value"] [])
    (FO : Fun K "actions_of" "actions_of" sActs fO fdO) (gO : mg "actions_of" = some (.ref fO)) (bO : Binds K fdO ["control"] [])
    (FA : Fun K "is_action" "is_action" sAction fA fdA) (gA : mg "is_action" = some (.ref fA)) (bA : Binds K fdA ["value"] [])
    (X : ExK K mg "InvalidRule" CI) (nP : PySem.W.findIn K (.ref CI) "part" = some none) (B : BaseX K mg C0)
    (FI : Fun K "__init__" "InvalidRule.__init__" sIRInit fI fdI) (bI : Binds K fdI ["self", "part"] []) (N : DefK P w K mg base CX0 1 "is_number" ["value", "least", "most"] (spNum K)) (iC : PySem.W.findIn K (.ref CI) "__init__" = some (some (.ref fI))) (tI : PySem.W.typeIn K (.ref fI) = some (.type "function")) :
    FnOk P w K mg base (L2.CX P w) 4 f fd ["self", "module", "control"] (spRInit K C CI) := by
  have GW : FnOk P w K mg base CX0 1 fW fdW ["value"] (spWord K) := ok_word FW T
  have GO : FnOk P w K mg base CX0 3 fO fdO ["control"] (spActs K) := ok_acts FO T D FA gA bA N
  have GI : FnOk P w K mg base CX0 1 fI fdI ["self", "part"] (spXInit K "part" tIR) := ok_irinit FI B
  refine F.okX scRInit (fun vs H Q E h => ?_) (fun cdv A outer s H vs Q E hr h => ?_)
  · obtain ⟨p, dx, m, c, dm, dc, rfl, _⟩ := h
    rfl
  · obtain ⟨p, dx, m, c, dm, dc, rfl, hp, hm, nm, lm, hc, kc, e1, e2, k⟩ := h
    refine ⟨_, pss_cons (ps_if (pt_not (pt_val (pe_call GW (hr.mono (by decide)) (by rfl) gW FW.kp bW .nil pass0 (pa_cons (pv 1) pa_nil))))
          (pss_one (ps_raise rfl (takes_of rfl rfl rfl rfl) (pmk_oex X.oex iC tI GI (hr.mono (by decide)) bI .nil pass0 (by rfl) X.g (pa_cons pe_str pa_nil)))) pss_nil)
      (pss_cons (ps_set (i := 3) scRInit.nd rfl (.inl rfl) (pe_call GO hr (by rfl) gO FO.kp bO .nil pass0 (pa_cons (pv 2) pa_nil)))
      (pss_cons (ps_if (pt_cmpR op_isN (pv 3) pe_non (nomark _))
          (pss_one (ps_raise rfl (takes_of rfl rfl rfl rfl) (pmk_oex X.oex iC tI GI (hr.mono (by decide)) bI .nil pass0 (by rfl) X.g (pa_cons pe_str pa_nil)))) pss_nil)
      (pss_cons (ps_fld (pv 0) (pv 1) rfl) (pss_one (ps_fld (pv 0) (pv 3) rfl))))), ?_⟩
    refine ⟨_, rfl, m, dm, rfl, hm, nm, lm, fun H1 S1 => ⟨_, rfl, ?_⟩⟩
    refine ite2 (fun h1 => ?_) (fun h1 => ?_)
    · have h1' : isWord dm = false := by
        cases q : isWord dm with
        | false => rfl
        | true => rw [q] at h1; cases h1
      refine mkX_run (by decide +kernel) (by decide +kernel) X.oex nP fun d hd => ?_
      exact e1 h1' d _ (same_upd (S1.free hd) S1) (S1.free hd) upd_same
    · have h1' : isWord dm = true := by
        cases q : isWord dm with
        | true => rfl
        | false => rw [q] at h1; exact (h1 rfl).elim
      refine ⟨_, rfl, c, dc, rfl, same_dp S1 dc c hc, kc, fun a H2 S2 k1 k2 => ?_⟩
      have S3 : Same H H2 := S1.trans S2
      cases q : actsOf dc with
      | none =>
        cases k1 q
        refine ⟨_, rfl, rfl, _, rfl, ?_⟩
        refine iteT ?_
        refine mkX_run (by decide +kernel) (by decide +kernel) X.oex nP fun d hd => ?_
        exact e2 h1' q d _ (same_upd (S3.free hd) S3) (S3.free hd) upd_same
      | some ds =>
        obtain ⟨t, rfl, hdt⟩ := k2 ds q
        obtain ⟨z, rfl, _⟩ := word_str h1'
        cases hm
        refine ⟨_, rfl, rfl, _, rfl, ?_⟩
        refine iteF ?_
        have hp2 := S3 _ _ hp
        refine ⟨_, rfl, _, rfl, p, C, dx, _, rfl, hp2, R.cl, R.nM, (by show 0 < 1000; decide), _, rfl, _, rfl, p, C, dx, _, rfl, upd_same, R.cl, R.nC, (by show 1 < 1000; decide), ?_⟩
        refine k z ds _ rfl h1' q (fun b o hb e => ?_) ⟨dx, t, ?_, ?_⟩
        · rw [upd_ne hb, upd_ne hb]
          exact S3 b o e
        · rw [upd_same, rule_put]
          rfl
        · refine same_but hp2 ?_ _ _ hdt
          intro b o hb e
          rw [upd_ne hb, upd_ne hb]
          exact e
end
end LS
namespace LSK
open PySem PySem.Spec PyProof.Rows PySem.SeqAt PySem.W
section
variable {M : Model} {prog : Program} {w : World} {A : Around} {E : Value → Shared → Prop} {s : Shared} {K : Frag} {x y C f : Addr} {ox oy : Obj} {od od' : Option Obj}
theorem boundNe {args : List Value} {Q : Option Value → Shared → Prop} (X : K.In s.heap) (I : InstAt s.heap x ox C od) (hs : findIn K (.ref C) "__ne__" = some (some (.builtin "object.__ne__")))
    (h : wpAny M A (call (.builtin "object.__ne__") (.ref x :: args)) (fun v => Q (some v)) E s) : wpAny M A (callSpecialIfBound? (.ref x) "__ne__" args) Q E s := by
  simp only [callSpecialIfBound?, bindSpecialIfBound?]
  refine wpAny_holding (wpAny_bind (wpAny_bind (wpAny_bind (I.type.here ((looks_findIn X hs).here ?_)))))
  refine wpAny_bind (wpAny_askSetting (wpAny_ite ?_))
  have last : wpAny M A (call (.builtin "object.__ne__") ([.ref x] ++ args) >>= fun v => pure (some v)) Q E s := wpAny_bind (wpAny_mono h (fun v s' q => wpAny_pure q) fun _ _ q => q)
  split
  · exact wpAny_bind (wpAny_of_eq (F.cmp_object.ne.bind _) (wpAny_pure (by exact last)))
  · exact wpAny_tryCatch (wpAny_bind (wpAny_of_eq (F.cmp_object.ne.bind _) (wpAny_pure (by exact last))))
theorem entryNe (X : K.In s.heap) (I : InstAt s.heap x ox C od) (he : findIn K (.ref C) "__eq__" = some (some (.ref f))) (hf : isFn K (.ref f) = true) (hu : A.units < cLine) {Q : Fin → Shared → Prop}
    (hcall : wpAny (model prog w) A (call (.ref f) [.ref x, .ref y]) (fun v s' => ∃ b, v = .bool b ∧ Q (.done (.ret (.bool (!b)))) s') E s) : wpAny (model prog w) A (Builtin.«object.__ne__» ⟨[.ref x, .ref y], []⟩) Q E s := by
  unfold Builtin.«object.__ne__»
  repeat (first
    | with_reducible refine wpAny_cRoomFor hu ?_
    | (refine wpAny_bind (m := callSpecialIfBound? (.ref x) (Str.ofString "__eq__") [.ref y]) (ifBound_K X I he hf (wpAny_mono hcall (fun r s' hr => by
          obtain ⟨b, rfl, hq⟩ := hr
          repeat (first | exact hq | exact wpAny_pure hq | exact wpAny_truthy_bool hq | (refine wpAny_bind (m := truthy (.bool _)) (wpAny_truthy_bool ?_)) | wp_step)) fun _ _ e => e)))
    | wp_step)
theorem tryNe (X : K.In s.heap) (I : InstAt s.heap x ox C od) (hn : findIn K (.ref C) "__ne__" = some (some (.builtin "object.__ne__"))) (he : findIn K (.ref C) "__eq__" = some (some (.ref f))) (hf : isFn K (.ref f) = true)
    (hm : mroIn K C (.type "object") = some true) (hu : A.units + 1 < cLine) {Q : Option Value → Shared → Prop}
    (hcall : wpAny (model prog w) A.in1 (call (.ref f) [.ref x, .ref y]) (fun v s' => ∃ b, v = .bool b ∧ Q (some (.bool (!b))) s') E s) : wpAny (model prog w) A (tryCompare (.ref x) "__ne__" (.ref y)) Q E s := by
  simp only [tryCompare]
  refine wpAny_bind (boundNe X I hn (wpAny_call (codeAny_call_builtin F.cmp_object.ne.plain F.cmpEntry_ne
    (check_slot F.cmpKind_ne F.cmpSplit_ne (I.type.andThen (looks_mroIn X hm)) (F.cmpArgs_ne _ _) (entryNe (A := A.in1) X I he hf hu (wpAny_mono hcall (fun v s' hv => ?_) fun _ _ e => e))))))
  obtain ⟨b, rfl, hq⟩ := hv
  first | exact ⟨b, rfl, wpAny_pure hq⟩ | exact ⟨b, rfl, wpAny_pure (wpAny_pure hq)⟩ | exact ⟨b, rfl, hq⟩
theorem richNe (X : K.In s.heap) (I : InstAt s.heap x ox C od) (J : InstAt s.heap y oy C od') (hn : findIn K (.ref C) "__ne__" = some (some (.builtin "object.__ne__"))) (he : findIn K (.ref C) "__eq__" = some (some (.ref f))) (hf : isFn K (.ref f) = true)
    (hm : mroIn K C (.type "object") = some true) (hu : A.units + 1 < cLine) {Q : Value → Shared → Prop}
    (hcall : wpAny (model prog w) A.in1 (call (.ref f) [.ref x, .ref y]) (fun v s' => ∃ b, v = .bool b ∧ Q (.bool (!b)) s') E s) : wpAny (model prog w) A (richCompare .NotEq (.ref x) (.ref y)) Q E s := by
  unfold richCompare
  simp only [oneThing_ref]
  refine wpAny_holding (wpAny_bind (wpAny_cRoomFor (Nat.lt_of_succ_lt hu) ?_))
  rw [cmpInfo_NotEq]
  dsimp only
  refine wpAny_bind (I.type.here (wpAny_bind (J.type.here ?_)))
  rw [show (Value.ref C != Value.ref C) = false from by simp]
  simp only [Bool.false_eq_true, if_false]
  refine wpAny_bind (wpAny_pure ?_)
  simp only [Bool.false_eq_true, if_false]
  refine wpAny_bind (tryNe X I hn he hf hm hu (wpAny_mono hcall (fun v s' hv => ?_) fun _ _ e => e))
  obtain ⟨b, rfl, hq⟩ := hv
  first | exact ⟨b, rfl, wpAny_pure hq⟩ | exact ⟨b, rfl, wpAny_pure (wpAny_pure hq)⟩
end
end LSK
namespace LS
open PySem L2
/-- two instances of C by the own ==, whose promise is sp -/
def rEqI (C : Addr) (sp : Sp) (neg : Bool) : R2 := fun x y H Q => ∃ a b dx dy fs gs, x = .ref a ∧ y = .ref b ∧ H a = some (.ins C dx fs) ∧ H b = some (.ins C dy gs) ∧ sp [.ref a, .ref b] H (fun v H' => ∃ k, v = .bl k ∧ Q (.bl (if neg then !k else k)) H') E0
section
variable {X : Cx} {n : Nat} {C f : Addr} {fd : FuncData} {ps : List Str} {sp : Sp}
theorem op_eqI (F : FnOk X.prog X.w X.K X.mg X.base CX0 n f fd ps sp) (hr : Room n X.A) (hs : PySem.W.findIn X.K (.ref C) "__eq__" = some (some (.ref f))) (hf : PySem.W.isFn X.K (.ref f) = true) (hb : Binds X.K fd ps []) :
    OpR X (compareOp .Eq) (rEqI C sp false) := by
  intro pins s σ H x y v u Q I rx ry h
  obtain ⟨a, b, dx, dy, fs, gs, rfl, rfl, ha, hb', hsp⟩ := h
  cases rx
  cases ry
  obtain ⟨mA, J, _⟩ := ins_get I.hok ha
  obtain ⟨mB, J', _⟩ := ins_get I.hok hb'
  obtain ⟨od, J, _⟩ := J.look
  obtain ⟨od', J', _⟩ := J'.look
  obtain ⟨m, hF⟩ := I.fr
  show wpAny (model X.prog X.w) X.A (richCompare .Eq (.ref a) (.ref b)) (EP X pins σ Q) X.xe s
  refine PySem.W.cmp_K (op := .Eq) (tb := .ref C) hr.units0 hF I.ok.mod.kin J J'.type (by simp [PySem.W.notFirst]) hs hf ?_
  refine wpAny_mono (run_fn (us := [.ref a, .ref b]) (vs := [.ref a, .ref b]) F hr hb .nil pass0 I (.cons rfl (.cons rfl .nil)) hsp) (fun v s' z => ?_) fun _ _ e => e
  obtain ⟨r, H', I', rv, kk, er, q⟩ := z
  subst er
  cases rv
  rw [if_neg Bool.false_ne_true] at q
  exact ⟨.bl kk, H', I', rfl, q⟩
theorem op_neI (F : FnOk X.prog X.w X.K X.mg X.base CX0 n f fd ps sp) (hr : Room (n + 1) X.A) (hs : PySem.W.findIn X.K (.ref C) "__eq__" = some (some (.ref f))) (hf : PySem.W.isFn X.K (.ref f) = true) (hb : Binds X.K fd ps [])
    (hn : PySem.W.findIn X.K (.ref C) "__ne__" = some (some (.builtin "object.__ne__"))) (hm : PySem.W.mroIn X.K C (.type "object") = some true) : OpR X (compareOp .NotEq) (rEqI C sp true) := by
  intro pins s σ H x y v u Q I rx ry h
  obtain ⟨a, b, dx, dy, fs, gs, rfl, rfl, ha, hb', hsp⟩ := h
  cases rx
  cases ry
  obtain ⟨mA, J, _⟩ := ins_get I.hok ha
  obtain ⟨mB, J', _⟩ := ins_get I.hok hb'
  obtain ⟨od, J, _⟩ := J.look
  obtain ⟨od', J', _⟩ := J'.look
  show wpAny (model X.prog X.w) X.A (richCompare .NotEq (.ref a) (.ref b)) (EP X pins σ Q) X.xe s
  refine LSK.richNe I.kIn J J' hn hs hf hm (by have := hr.un; omega) ?_
  have hl := F.len _ _ _ _ hsp
  refine wpAny_call (codeAny_mono (F.run X.A.in1 X.stack s H ⟨[.ref a, .ref b], []⟩ [.ref a, .ref b] [.ref a, .ref b] _ E0 hr.in1 I.env0.in1 (by
    have q := hb s [.ref a, .ref b] I.kIn (by simpa using hl)
    simpa using q) (.cons rfl (.cons rfl .nil)) hsp) fun r s' hq => ?_)
  cases r with
  | error e => exact (show False from hq).elim
  | ok fl =>
    cases fl with
    | ret w =>
      obtain ⟨z, H', I', rz, kk, ez, q⟩ := I.after hq
      subst ez
      cases rz
      rw [if_pos rfl] at q
      exact ⟨kk, rfl, .bl (!kk), H', I', rfl, q⟩
    | next => exact False.elim hq
    | brk => exact False.elim hq
    | cont => exact False.elim hq
end
def kindV (ds : List PyData) : V := match ctrlTab.find? (fun r => PyData.eqv (.tuple (r.2.map PyData.str)) (.tuple ds)) with
  | some r => .str r.1
  | none => .non
/-- equal rules -/
def eqRule (z z' : Str) (ds ds' : List PyData) : Bool := decide (z = z') && PyData.eqv (.tuple ds) (.tuple ds')
def spREq (K : PySem.W.Frag) (C : Addr) : Sp := fun vs H Q _ => ∃ (p q : Addr) (z z' : Str) (ds ds' : List PyData), vs = [.ref p, .ref q] ∧ RuleAt K C H p z ds ∧ RuleAt K C H q z' ds' ∧ SeqAt.shaped (.tuple ds) = true ∧ SeqAt.shaped (.tuple ds') = true ∧
  Q (.bl (eqRule z z' ds ds')) H
def spKind (K : PySem.W.Frag) (C : Addr) : Sp := fun vs H Q _ => ∃ (p : Addr) (z : Str) (ds : List PyData), vs = [.ref p] ∧ RuleAt K C H p z ds ∧ SeqAt.shaped (.tuple ds) = true ∧ Q (kindV ds) H
structure InstK (K : PySem.W.Frag) (C : Addr) : Prop where
  ha : PySem.W.findIn K (.ref C) "__class__" = some (some (.builtin "object.__class__"))
  hn : PySem.W.specialIn K (.builtin "object.__class__") "__get__" = some (some (.builtin "getset_descriptor.__get__"))
  ht : PySem.W.takesIn K (.builtin "object.__class__") = some true
  hm : PySem.W.mroIn K C (.type "object") = some true
theorem kit_self {K : PySem.W.Frag} {C : Addr} : PySem.W.kitOne K (.ref C) (.ref C) = some true := by
  unfold PySem.W.kitOne
  rw [if_pos (by simp)]
theorem rule_m {z : Str} {a : Addr} : (ruleF z a).lookup ("_module" : Str) = some (.str z) := by
  show ([(("_module" : Str), V.str z), (("_control" : Str), V.ref a)] : List (Str × V)).lookup ("_module" : Str) = some (.str z)
  simp [List.lookup]
theorem rule_c {z : Str} {a : Addr} : (ruleF z a).lookup ("_control" : Str) = some (.ref a) := by
  show ([(("_module" : Str), V.str z), (("_control" : Str), V.ref a)] : List (Str × V)).lookup ("_control" : Str) = some (.ref a)
  have e : (("_control" : Str) == ("_module" : Str)) = false := by decide +kernel
  simp [List.lookup, e]
section
variable {P : Program} {w : World} {K : PySem.W.Frag} {mg : Str → Option Value} {base : Heap}
theorem scREq : FnScope ["self", "other"] ["self", "other"] (defScope sREq) := ⟨rfl, rfl, rfl, by decide +kernel, rfl, by decide +kernel, by decide +kernel⟩
theorem ok_req {f C : Addr} {fd : FuncData} (F : Fun K "__eq__" "Rule.__eq__" sREq f fd) (R : RuleK K mg C) (N : InstK K C) (isi : mg "isinstance" = none) : FnOk P w K mg base CX0 1 f fd ["self", "other"] (spREq K C) := by
  refine F.ok scREq (fun vs H Q E h => ?_) (fun cdv A outer s H vs Q E hr h => ?_)
  · obtain ⟨p, q, z, z', ds, ds', rfl, _⟩ := h
    rfl
  · obtain ⟨p, q, z, z', ds, ds', rfl, ⟨dx, a, hp, hd⟩, ⟨dy, b, hq, hd'⟩, s1, s2, k⟩ := h
    have hu : (A.deeper (PyProof.Rows.envOfC "Rule.__eq__" (defScope sREq) s.heap.objs.size f cdv)).units + 64 < cLine := by have := hr.un; omega
    refine ⟨_, pss_one (ps_ret (pe_and (pe_callB call_isi (by rfl) isi (by decide +kernel) (pa_cons (pv 1) (pa_cons (pe_glob (v := .ref C) (by rfl) R.g rfl) pa_nil)))
      (pe_and (pe_cmpR op_eq (pe_fld (pv 0) rfl) (pe_fld (pv 1) rfl) (nomark _)) (pe_one (pe_cmpR (op_eqD hu) (pe_fld (pv 0) rfl) (pe_fld (pv 1) rfl) (nomark _)))))), ?_⟩
    refine ⟨_, rfl, .ref q, .ref C, .ref C, .ref C, true, rfl, .own C, .base (.ins hq R.cl N.ha N.hn N.ht N.hm), kit_self, _, rfl, ?_⟩
    refine iteT ?_
    refine ⟨_, rfl, p, C, dx, _, _, rfl, hp, R.cl, R.nM, rule_m, _, rfl, q, C, dy, _, _, rfl, hq, R.cl, R.nM, rule_m, rfl, _, rfl, ?_⟩
    have e : decide (V.str z = V.str z') = decide (z = z') := by
      by_cases h : z = z'
      · rw [h]
        simp
      · rw [decide_eq_false h, decide_eq_false (fun q => h (V.str.inj q))]
    rw [e]
    refine ite2 (fun h => ?_) (fun h => ?_)
    · refine ⟨_, rfl, p, C, dx, _, _, rfl, hp, R.cl, R.nC, rule_c, _, rfl, q, C, dy, _, _, rfl, hq, R.cl, R.nC, rule_c, _, _, hd, hd', s1, s2, ?_⟩
      unfold eqRule at k
      rw [h, Bool.true_and] at k
      exact k
    · unfold eqRule at k
      rw [Bool.eq_false_iff.mpr h, Bool.false_and] at k
      exact k
theorem scRKind : FnScope ["self", "word"] ["self"] (defScope sRKind) := ⟨rfl, rfl, rfl, by decide +kernel, rfl, by decide +kernel, by decide +kernel⟩
theorem ctrl_keys {K : PySem.W.Frag} : ∀ {es : List DictEntry} {rs : List (Str × List Str)}, CtrlEs K es rs → es.length = rs.length ∧ ∀ (i : Nat) (z : Str), (rs.map (·.1))[i]? = some z → ∃ (en : DictEntry) (t : Tok), es[i]? = some en ∧ en.key = .str z t
  | [], [], _ => ⟨rfl, fun i z h => by simp at h⟩
  | e :: es, r :: rs, ⟨⟨t, a, hk, hv, hs⟩, h⟩ => by
    obtain ⟨h1, h2⟩ := ctrl_keys h
    refine ⟨congrArg (· + 1) h1, fun i z hz => ?_⟩
    cases i with
    | zero =>
      simp at hz
      subst hz
      exact ⟨e, t, rfl, hk⟩
    | succ i => exact h2 i z (by simpa using hz)
theorem kget_dct {dC : Addr} {z : Str} {a : Addr} (h : KGet K w dC z (.ref a)) : KDct K w dC z (.ref a) := by
  obtain ⟨es, n, r, hl, hk, _, hns, h1, h2⟩ := h
  cases r with
  | none => cases h2 rfl
  | some u => exact ⟨es, n, u, hl, hk, hns, h1 u rfl⟩
theorem looked_at : ∀ (i : Nat) (r : Str × List Str), ctrlTab[i]? = some r → looked r.1 ctrlTab = some r.2
  | 0, r, h => by cases h; decide +kernel
  | 1, r, h => by cases h; decide +kernel
  | 2, r, h => by cases h; decide +kernel
  | 3, r, h => by cases h; decide +kernel
  | i + 4, r, h => by
    have q := (List.getElem?_eq_some_iff.mp h).1
    have e : ctrlTab.length = 4 := rfl
    omega
theorem ok_kind {f C dC : Addr} {fd : FuncData} (F : Fun K "kind" "Rule.kind" sRKind f fd) (R : RuleK K mg C) (D : CtrlK K w mg dC) : FnOk P w K mg base CX0 1 f fd ["self"] (spKind K C) := by
  refine F.ok scRKind (fun vs H Q E h => ?_) (fun cdv A outer s H vs Q E hr h => ?_)
  · obtain ⟨p, z, ds, rfl, _⟩ := h
    rfl
  · obtain ⟨p, z, ds, rfl, ⟨dx, a, hp, hd⟩, s1, k⟩ := h
    have hu : (A.deeper (PyProof.Rows.envOfC "Rule.kind" (defScope sRKind) s.heap.objs.size f cdv)).units + 64 < cLine := by have := hr.un; omega
    refine ⟨_, pss_cons (ps_for PassesOwn.never rfl (pi_kkeys (pe_glob (v := .ref dC) (by rfl) D.g rfl)) (pg_name (i := 1) scRKind.nd rfl (Or.inl rfl))
        (pss_one (ps_if (pt_cmpR (op_eqD hu) (pe_ix ix_kdict (pe_glob (v := .ref dC) (by rfl) D.g rfl) (pv 1) (fun _ _ => rfl)) (pe_fld (pv 0) rfl) (nomark _)) (pss_one (ps_ret (pv 1))) pss_nil)))
      (pss_one (ps_ret pe_non)), ?_⟩
    obtain ⟨es, n, hl, hk, hc⟩ := D.ex
    obtain ⟨c1, c2⟩ := ctrl_keys hc
    refine ⟨dC, ctrlTab.map (·.1), rfl, ⟨es, n, hl, D.sys, by rw [← Array.length_toList, c1, List.length_map], fun i z hz => ?_⟩, ?_⟩
    · obtain ⟨en, t, e1, e2⟩ := c2 i z hz
      exact ⟨en, t, by rw [← Array.getElem?_toList]; exact e1, e2⟩
    refine for_it walk_kk (fun i σ H' => H' = H ∧ (∃ v, σ = [some (.ref p), v]) ∧ (ctrlTab.take i).find? (fun r => PyData.eqv (.tuple (r.2.map PyData.str)) (.tuple ds)) = none) ⟨rfl, ⟨none, rfl⟩, rfl⟩ (fun _ _ _ _ _ => True.intro) ?_ ?_
    · rintro i x σ H1 H2 hi ⟨rfl, ⟨v, rfl⟩, hf⟩ ⟨rfl, zz, hz, rfl⟩
      obtain ⟨r, hr1, rfl⟩ : ∃ r, ctrlTab[i]? = some r ∧ r.1 = zz := by
        rw [List.getElem?_map] at hz
        cases e : ctrlTab[i]? with
        | none => rw [e] at hz; cases hz
        | some r => rw [e] at hz; exact ⟨r, rfl, Option.some.inj hz⟩
      have hlk := looked_at i r hr1
      obtain ⟨acts, ta, e1, e2, e3⟩ : ∃ acts ta, looked r.1 ctrlTab = some acts ∧ KGet K w dC r.1 (.ref ta) ∧ ∀ H, SqT K H ta (acts.map V.str) := by
        rcases ctrl_ns D r.1 with ⟨q, _⟩ | q
        · rw [hlk] at q
          cases q
        · exact q
      rw [hlk] at e1
      cases e1
      have hsh : SeqAt.shaped (.tuple (r.2.map PyData.str)) = true := by
        have all4 : ∀ r ∈ ctrlTab, SeqAt.shaped (.tuple (r.2.map PyData.str)) = true := by decide +kernel
        exact all4 r (List.mem_of_getElem? hr1)
      refine ⟨_, rfl, dC, r.1, .ref ta, rfl, rfl, kget_dct e2, _, rfl, p, C, dx, _, _, rfl, hp, R.cl, R.nC, rule_c, _, _, .tup (e3 H2) (words_dp _), hd, hsh, s1, _, rfl, ?_⟩
      have ft : (ctrlTab.take (i + 1)).find? (fun r => PyData.eqv (.tuple (r.2.map PyData.str)) (.tuple ds)) = if PyData.eqv (.tuple (r.2.map PyData.str)) (.tuple ds) = true then some r else none := by
        rw [List.take_add_one, hr1, List.find?_append, hf]
        rw [Option.none_or, Option.toList_some, List.find?_cons]
        cases PyData.eqv (.tuple (r.2.map PyData.str)) (.tuple ds) <;> rfl
      refine ite2 (fun h => ?_) (fun h => ?_)
      · refine ⟨_, rfl, ?_⟩
        rw [if_pos h] at ft
        have e : ctrlTab.find? (fun r => PyData.eqv (.tuple (r.2.map PyData.str)) (.tuple ds)) = some r := by
          rw [← List.take_append_drop (i + 1) ctrlTab, List.find?_append, ft]
          rfl
        unfold kindV at k
        rw [e] at k
        exact k
      · rw [if_neg h] at ft
        exact ⟨rfl, ⟨_, rfl⟩, ft⟩
    · rintro σ H1 ⟨rfl, ⟨v, rfl⟩, hf⟩
      have e : ctrlTab.find? (fun r => PyData.eqv (.tuple (r.2.map PyData.str)) (.tuple ds)) = none := hf
      unfold kindV at k
      rw [e] at k
      exact k
end
end LS
namespace TxS
open PySem PySem.Spec PyProof.Rows L2 PpSet
/-! sets of texts, their members told as a list without repeats -/
def kT (e : Int × Value) : Str := match e.2 with
  | .str x _ => x
  | _ => Str.empty
def OkT (w : World) (e : Int × Value) : Prop := ∃ x t, e = (hashStr w x, Value.str x t)
/-- what stands at a: the texts of l, each once, in a table that can be walked -/
structure TxD (w : World) (es : Array (Int × Value)) (t : SetTable) (l : List Str) : Prop where
  ok : ∀ e ∈ es.toList, OkT w e
  mem : (es.toList.map kT).Perm l
  nd : l.Nodup
  small : es.size < scanBound
  fits : t.fits es.size = true
  ris : Ris t.place.toList
  led : w.params.followText "set-order" = true ∨ t.led = true
def Tx (w : World) (h : Heap) (a : Addr) (l : List Str) : Prop := ∃ o es ep t, h.get? a = some o ∧ o.ExactSet ∧ o.data = .set es ep t ∧ TxD w es t l
def addT (l : List Str) (x : Str) : List Str := if x ∈ l then l else l ++ [x]
section
variable {P : Program} {w : World} {A : Around} {E : Value → Shared → Prop} {s : Shared} {a : Addr} {l : List Str}
theorem okT_is {e : Int × Value} (g : OkT w e) (x : Str) : (strKind P w).is x e.2 = true ↔ kT e = x := by
  obtain ⟨y, t, rfl⟩ := g
  show ((y == x) = true) ↔ y = x
  exact beq_iff_eq
theorem okT_elems {xs : List (Int × Value)} (g : ∀ e ∈ xs, OkT w e) : ElemsOf (strKind P w) xs := fun e he => by
  obtain ⟨x, t, rfl⟩ := g e he
  exact ⟨⟨x, (okT_is (P := P) ⟨x, t, rfl⟩ x).2 rfl, rfl⟩, rfl⟩
theorem TxD.len {es : Array (Int × Value)} {t : SetTable} (D : TxD w es t l) : es.size = l.length := by
  have h := D.mem.length_eq
  rw [List.length_map, Array.length_toList] at h
  exact h
theorem TxD.has {es : Array (Int × Value)} {t : SetTable} (D : TxD w es t l) (x : Str) : x ∈ l ↔ ∃ e ∈ es.toList, (strKind P w).is x e.2 = true := by
  rw [← D.mem.mem_iff, List.mem_map]
  exact ⟨fun ⟨e, he, q⟩ => ⟨e, he, (okT_is (D.ok e he) x).2 q⟩, fun ⟨e, he, q⟩ => ⟨e, he, (okT_is (D.ok e he) x).1 q⟩⟩
/-- storing the table with one text more, and anew if it is too full -/
theorem tx_store {g : Bool → Sem Unit} (hg : ∀ (b : Bool) (s₁ : Shared) (Q' : Unit → Shared → Prop), Q' () s₁ → wpAny (model P w) A (g b) Q' E s₁) {o : Obj} {es es1 : Array (Int × Value)} {ep : Nat} {t t2 : SetTable} {wasDummy : Bool} {R : Option Bool → Shared → Prop}
    (ho : s.heap.get? a = some o) (hex : o.ExactSet) (hd : o.data = .set es ep t) (D : TxD w es1 t2 l) (hR : ∀ h', Heap.SameBut a s.heap h' → Tx w h' a l → R (some true) { s with heap := h' }) :
    wpAny (model P w) A (do
        storeSet a es1 t2
        if (!wasDummy && t2.tooFull) = true then do
            g (relayAll t2 es1 (SetTable.grown es1.size)).2.2
            storeSet a (relayAll t2 es1 (SetTable.grown es1.size)).1 (relayAll t2 es1 (SetTable.grown es1.size)).2.1
            pure (some true)
          else pure (some true)) R E s := by
  have at1 := store_at (es' := es1) (t' := t2) ho hd
  have same1 := Heap.SameBut.update s.heap a (Obj.putSet es1 t2)
  refine wpAny_bind (wpAny_storeSet_of ho hd ?_ (fits_of_scanBound D.small))
  split
  · have c1 := relayAll_perm t2 es1 (SetTable.grown es1.size)
    have c2 := relayAll_fits t2 es1 (SetTable.grown es1.size)
    have c3 := relayAll_ris t2 es1 (SetTable.grown es1.size)
    have c4 := relayAll_led t2 es1 (SetTable.grown es1.size)
    generalize relayAll t2 es1 (SetTable.grown es1.size) = Y at c1 c2 c3 c4 ⊢
    rcases Y with ⟨ys, ty, _⟩
    dsimp only at c1 c2 c3 c4 ⊢
    have hz : ys.size = es1.size := by
      have q := c1.length_eq
      rw [Array.length_toList, Array.length_toList] at q
      exact q
    have D2 : TxD w ys ty l := ⟨fun e he => D.ok e (c1.mem_iff.mp he), (c1.map kT).trans D.mem, D.nd, by rw [hz]; exact D.small, c2, c3, D.led.imp id fun q => by rw [c4]; exact q⟩
    have at2 := store_at (es' := ys) (t' := ty) at1 rfl
    exact wpAny_bind (hg _ _ _ (wpAny_bind (wpAny_storeSet_of at1 rfl (wpAny_pure (hR _ (same1.trans (Heap.SameBut.update _ a _)) ⟨_, ys, _, ty, at2, hex, rfl, D2⟩)) (fits_of_scanBound D2.small))))
  · exact wpAny_pure (hR _ same1 ⟨_, es1, _, t2, at1, hex, rfl, D⟩)
theorem tx_hashed {x : Str} {tk : Tok} {Q : Bool → Shared → Prop} (R : Tx w s.heap a l) (room : l.length + 1 < scanBound) (hQ : ∀ b h', Heap.SameBut a s.heap h' → Tx w h' a (addT l x) → Q b { s with heap := h' }) :
    wpAny (model P w) A (setAddHashed a (.str x tk) ((strKind P w).hash x)) Q E s := by
  obtain ⟨o, es, ep, t, ho, hex, hd, D⟩ := R
  have self : (strKind P w).is x (.str x tk) = true := (okT_is (P := P) (w := w) (e := (hashStr w x, .str x tk)) ⟨x, tk, rfl⟩ x).2 rfl
  have scn : (Value.str x tk).scannable = true := rfl
  have els : ElemsOf (strKind P w) es.toList := okT_elems D.ok
  unfold setAddHashed setAddHashedIn
  refine wpAny_holding (wpAny_bind (wpAny_setState_of ho hd D.fits ?_))
  dsimp only
  rw [byScan_of scn D.small els]
  simp only [↓reduceIte]
  unfold setAddByScan
  refine wpAny_bind (wpAny_bind (wpAny_rule (wpAny_bind (wpAny_setScan_of self ho hd D.fits els ?_))))
  cases there : List.findIdx? (fun e => (strKind P w).is x e.2) es.toList with
  | some j =>
    obtain ⟨hj, pj, _⟩ := List.findIdx?_eq_some_iff_getElem.mp there
    have hin : x ∈ l := (D.has (P := P) x).2 ⟨_, List.getElem_mem hj, pj⟩
    have e : addT l x = l := if_pos hin
    rw [e] at hQ
    exact wpAny_pure (wpAny_pure (hQ _ _ (Heap.SameBut.refl a s.heap) ⟨o, es, ep, t, ho, hex, hd, D⟩))
  | none =>
    have hout : x ∉ l := fun z => by
      obtain ⟨e, he, q⟩ := (D.has (P := P) x).1 z
      have c := List.findIdx?_eq_none_iff.mp there e he
      rw [q] at c
      cases c
    have e : addT l x = l ++ [x] := if_neg hout
    rw [e] at hQ
    dsimp only
    have gives : ∀ (b : Bool) {s₁ : Shared} {Q' : Unit → Shared → Prop}, Q' () s₁ → wpAny (model P w) A (match b with | true => rule "set.scan.the-table-gave-way" | false => pure ()) Q' E s₁ := fun b s₁ Q' q => by
      cases b
      · exact wpAny_pure q
      · exact wpAny_rule q
    have c1 := layNew_perm t es ((strKind P w).hash x) (.str x tk)
    have c2 := layNew_fits t es ((strKind P w).hash x) (.str x tk)
    have c3 := layNew_ris t es ((strKind P w).hash x) (.str x tk) D.ris
    have c4 := layNew_led t es ((strKind P w).hash x) (.str x tk)
    generalize layNew t es ((strKind P w).hash x) (.str x tk) = Y at c1 c2 c3 c4 ⊢
    rcases Y with ⟨ys, ty, was, _⟩
    dsimp only at c1 c2 c3 c4 ⊢
    rw [Array.toList_push] at c1
    have pk : (ys.toList.map kT).Perm (l ++ [x]) := by
      have q := c1.map kT
      rw [List.map_append] at q
      exact q.trans (List.Perm.append_right _ D.mem)
    have hz : ys.size = l.length + 1 := by
      have q := pk.length_eq
      rw [List.length_map, Array.length_toList, List.length_append] at q
      exact q
    have mk : ∀ tz : SetTable, tz.fits ys.size = true → Ris tz.place.toList → (w.params.followText "set-order" = true ∨ tz.led = true) → TxD w ys tz (l ++ [x]) := fun tz f r d =>
      ⟨fun e he => by
        rcases List.mem_append.mp (c1.mem_iff.mp he) with z | z
        · exact D.ok e z
        · rw [List.mem_singleton.mp z]
          exact ⟨x, tk, rfl⟩, pk, List.nodup_append.mpr ⟨D.nd, (by simp), fun u hu v hv => by rw [List.mem_singleton.mp hv]; exact fun q => hout (q ▸ hu)⟩, by rw [hz]; exact room, f, r, d⟩
    have dl : w.params.followText "set-order" = true ∨ ty.led = true := D.led.imp id fun q => by rw [c4]; exact q
    refine wpAny_bind (gives _ ?_)
    split
    · refine wpAny_bind ?_
      rw [hashByValue_scannable 8 scn]
      refine wpAny_pure (tx_store (fun b s₁ Q' q => ?_) ho hex hd (mk _ ?_ ?_ ?_) fun h' sb r => ?_)
      · cases b
        · exact wpAny_pure q
        · exact wpAny_rule q
      · first | (split <;> first | exact c2 | exact SetTable.fits_plain_off c2) | exact c2
      · first | (split <;> exact c3) | exact c3
      · first | (split <;> exact dl) | exact dl
      · dsimp only
        exact wpAny_pure (hQ _ h' sb r)
    · refine wpAny_bind (wpAny_pure ?_)
      simp only [↓reduceIte]
      refine tx_store (fun b s₁ Q' q => ?_) ho hex hd (mk _ c2 c3 dl) fun h' sb r => ?_
      · cases b
        · exact wpAny_pure q
        · exact wpAny_rule q
      · dsimp only
        exact wpAny_pure (hQ _ h' sb r)
theorem Tx.type_ (R : Tx w s.heap a l) : s.TypeIs (.ref a) "set" := by
  obtain ⟨o, _, _, _, ho, hex, _⟩ := R
  exact ⟨o, ho, hex.1⟩
theorem tx_add {x : Str} {tk : Tok} {Q : Value → Shared → Prop} (R : Tx w s.heap a l) (room : l.length + 1 < scanBound) (hQ : ∀ h', Heap.SameBut a s.heap h' → Tx w h' a (addT l x) → Q .none { s with heap := h', toks := s.toks + 1 }) :
    wpAny (model P w) A (call (.builtin "set.add") [.ref a, .str x tk]) Q E s := by
  have self : (strKind P w).is x (.str x tk) = true := (okT_is (P := P) (w := w) (e := (hashStr w x, .str x tk)) ⟨x, tk, rfl⟩ x).2 rfl
  refine wpAny_call_entry F.slot_set_add R.type_ F.entry_set_add ?_ (F.args_set_add_2 _ _)
  unfold Builtin.«set.add» Builtin.Frozenset.oneOther Builtin.Frozenset.addrOf setAdd
  simp only [List.isEmpty_nil, bind_assoc]
  refine wpAny_bind (wpAny_pure ?_)
  try dsimp only
  refine wpAny_bind (wpAny_pure ?_)
  try dsimp only
  refine wpAny_bind (wpAny_holding (wpAny_bind ((strKind P w).pyHash self ?_)))
  refine tx_hashed (s := { s with toks := s.toks + 1 }) R room fun b h' sb r => ?_
  exact wpAny_pure ⟨_, rfl, hQ h' sb r⟩
theorem tx_fresh {h : Heap} : Tx w (h.push { cls := .type "set", dict := none, data := .set #[] 0 (.fresh 0 0 (!w.params.followText "set-order")) }) h.objs.size [] := by
  refine ⟨_, #[], 0, _, Heap.get?_push_size _ rfl, ⟨rfl, rfl, rfl⟩, rfl, ⟨fun e he => (by simp at he), .nil, .nil, by decide, by rfl, List.Pairwise.nil, ?_⟩⟩
  show _ ∨ (!w.params.followText "set-order") = true
  cases w.params.followText "set-order" with
  | false => exact .inr rfl
  | true => exact .inl rfl
end
/-- the set at a -/
def TxO (w : World) (a : Addr) (l : List Str) : HO := .ext fun h => Tx w h a l
theorem txO_new {w : World} {P : Program} {H : Hp} {h : Heap} {a : Addr} {l : List Str} (R : Tx w h a l) : ObjOk P w H h a (TxO w a l) := by
  obtain ⟨o, es, ep, t, ho, r⟩ := id R
  exact ⟨R, ⟨o, ho⟩, fun h1 h2 p k => let ⟨o, es, ep, t, ho, r⟩ := p; ⟨o, es, ep, t, k o ho, r⟩⟩
section
variable {X : Cx}
theorem txO_get {pins : List (Addr × Obj)} {σ : L2.St} {H : Hp} {s : Shared} {a : Addr} {l : List Str} (I : Inv X pins σ H s) (ha : H a = some (TxO X.w a l)) : Tx X.w s.heap a l := (I.hok a _ ha).1
theorem txO_add {pins : List (Addr × Obj)} {σ : L2.St} {H : Hp} {s : Shared} {E : Value → Shared → Prop} {a : Addr} {l : List Str} {x : Str} {tk : Tok} {Q : Value → Shared → Prop} (I : Inv X pins σ H s) (ha : H a = some (TxO X.w a l)) (room : l.length + 1 < scanBound)
    (h : ∀ s', Inv X pins σ (upd H a (TxO X.w a (addT l x))) s' → Q .none s') : wpAny (model X.prog X.w) X.A (call (.builtin "set.add") [.ref a, .str x tk]) Q E s := by
  refine tx_add (txO_get I ha) room fun h' sb R => h _ (I.write (e := a) (t' := s.toks + 1) (by rw [ha]; trivial) (.inl rfl) (fun b u hb hu => (sb.2 b hb).trans hu) ?_ (txO_new R))
  obtain ⟨o, _, _, _, ho, _⟩ := R
  exact ⟨o, ho⟩
/-- one turn's end: an element that is taken goes into the set at D -/
def turnT (w : World) (D : Addr) (te : TE) (σ : L2.St) (Nx : Hp → Prop) : Bool → Hp → Prop
  | true, H => te σ H fun y H1 => ∃ z l, y = .str z ∧ H1 D = some (TxO w D l) ∧ l.length + 1 < scanBound ∧ Nx (upd H1 D (TxO w D (addT l z)))
  | false, H => Nx H
/-- {elt for target in iter if ..}, elt a text: D the new set -/
def tScT (w : World) (wi : TI) (g : TG) (tt : TT) (te : TE) (vs : List Nat) : TE := fun σ H Q => wi σ H fun J H1 => ∀ D, H1 D = none → ∃ W : Nat → Nat → Hp → Prop, (∃ m, W 0 m (upd H1 D (TxO w D []))) ∧ ∀ i m H2, W i m H2 →
  (J.stop i H2 ∧ Q (.ref D) H2) ∨ (J.go i H2 ∧ ∃ Nx : Hp → Prop, (∀ H3, Nx H3 → ∃ m', m' < m ∧ W (i + 1) m' H3) ∧ ∀ x H3, J.yld i H2 x H3 → g x (wipe σ vs) H3 fun σ4 H4 => wipe σ4 vs = wipe σ vs ∧ tt σ4 H4 fun b H5 => turnT w D te σ4 Nx b H5)
end
end TxS
namespace TxS
open PySem PySem.Spec PyProof.Rows L2 PpSet
section
variable {X : Cx} {elt tg iter : Expr} {ifs : List Expr} {scope : Scope} {own : List (Str × Nat)} {pos : Pos} {wi : TI} {g : TG} {tt : TT} {te : TE}
theorem pe_scT (hc : X.calm = true) (hN : X.N.Nodup) (hi : PI X tg iter wi) (ok : BlkOk X.N X.env.scope scope own)
    (hg : ∀ (s : Shared) (H : Hp) (C : Addr) (cl : List (Str × Addr)) (fp : List Addr), PG (X.blk s H scope (compEnvC scope cl C X.env) fp) tg g)
    (ht : ∀ (s : Shared) (H : Hp) (C : Addr) (cl : List (Str × Addr)) (fp : List Addr), PTs (X.blk s H scope (compEnvC scope cl C X.env) fp) ifs tt)
    (he : ∀ (s : Shared) (H : Hp) (C : Addr) (cl : List (Str × Addr)) (fp : List Addr), PE (X.blk s H scope (compEnvC scope cl C X.env) fp) elt te) (hs : ∀ x, foldedSetIterable iter X.env x = pure x := by intro _; rfl) :
    PE X (.SetComp elt [⟨tg, iter, ifs, 0⟩] scope pos) (tScT X.w wi g tt te (own.map (·.2))) := by
  refine ⟨fun pins s σ H Q I h => ?_⟩
  rw [eval_SetComp]
  have free : ∀ y ∈ scope.names, y.2 = .free → ∃ c, X.env.cells.lookup y.1 = some c := fun y hy e => I.ok.has _ (ok.free y hy e)
  refine wpAny_comprehension_free (use := none) rfl hs (closure_ok free) ok.kind (fun y hy e => by rw [ok.uniq y hy, e]) (thn (hi.run pins s σ H _ I h) fun xv s1 hx => thn hx fun itv s2 h2 => ?_)
  obtain ⟨it, fp, tn, J, H2, rfl, I2, T, st2, f2, q⟩ := h2
  refine newSet_ok (newEnv_comp ?_)
  generalize hD : s2.heap.objs.size = D
  have noD : H2 D = none := I2.hok.fresh (Nat.le_of_eq hD)
  obtain ⟨W, ⟨m0, w0⟩, turn⟩ := q D noD
  -- the new set stands
  generalize hs3 : ({ s2 with heap := s2.heap.push { cls := .type "set", dict := none, data := .set #[] 0 (.fresh 0 0 (!X.w.params.followText "set-order")) } } : Shared) = s3
  have hp3 : s3.heap = s2.heap.push { cls := .type "set", dict := none, data := .set #[] 0 (.fresh 0 0 (!X.w.params.followText "set-order")) } := by rw [← hs3]
  have old3 : ∀ {b : Addr} {o : Obj}, s2.heap.get? b = some o → s3.heap.get? b = some o := fun e => by rw [hp3]; exact Heap.get?_push_of_some _ e
  have J3 : Inv X pins σ (upd H2 D (TxO X.w D [])) s3 := by
    rw [← hs3]
    refine I2.laid (t' := s2.toks) (fun b o e => Heap.get?_push_of_some _ e) (Nat.le_of_eq hD) ?_
    rw [← hD]
    exact txO_new tx_fresh
  have low : ∀ b ∈ fp, b < s2.heap.objs.size := fun b hb => let ⟨o, e, _⟩ := T.obj _ _ st2 b hb; Heap.lt_size e
  generalize hH3 : upd H2 D (TxO X.w D []) = H3 at w0 J3
  have f3 : ∀ b ∈ fp, FpOk X pins H3 b ∧ b < s3.heap.objs.size := fun b hb => by
    have q1 := low b hb
    have q2 : b ≠ D := by rw [← hD]; exact Nat.ne_of_lt q1
    refine ⟨⟨by rw [← hH3, upd_ne q2]; exact (f2 b hb).1, (f2 b hb).2⟩, ?_⟩
    rw [hp3, Heap.size_push]
    exact Nat.lt_succ_of_lt q1
  have st3 : tn 0 s3.heap := T.keep _ _ _ st2 fun b _ o e => old3 e
  have J4 := block_start J3 ok hN f3
  have pg := hg s3 H3 s3.heap.objs.size (cellsFrom (s3.heap.objs.size + 1) scope.names (cloFrom X.env.cells scope.names [])) fp
  have pt := ht s3 H3 s3.heap.objs.size (cellsFrom (s3.heap.objs.size + 1) scope.names (cloFrom X.env.cells scope.names [])) fp
  have pe := he s3 H3 s3.heap.objs.size (cellsFrom (s3.heap.objs.size + 1) scope.names (cloFrom X.env.cells scope.names [])) fp
  show codeAny _ _ (.compStart (.SetComp elt [⟨tg, iter, ifs, 0⟩] scope pos) 0 (.ref it) (.ref D) (compEnvC scope (cellsFrom (s3.heap.objs.size + 1) scope.names (cloFrom X.env.cells scope.names [])) s3.heap.objs.size X.env))
    (compPost (model X.prog X.w) X.A X.xe none (EP X pins σ Q) (.ref D) s3.heap.objs.size) { s3 with heap := pushCells (s3.heap.push { cls := .type "dict", data := .dict #[] }) scope.names }
  generalize hce : compEnvC scope (cellsFrom (s3.heap.objs.size + 1) scope.names (cloFrom X.env.cells scope.names [])) s3.heap.objs.size X.env = ce at J4 pg pt pe ⊢
  have own_ : ce.locals = s3.heap.objs.size := by rw [← hce] <;> rfl
  generalize hs4 : ({ s3 with heap := pushCells (s3.heap.push { cls := .type "dict", data := .dict #[] }) scope.names } : Shared) = s4 at J4 ⊢
  have st4 : tn 0 s4.heap := T.keep _ _ _ st3 fun b _ o e => by rw [← hs4]; exact pushCells_keeps _ _ _ _ (Heap.get?_push_of_some _ e)
  let Y : Cx := X.blk s3 H3 scope ce fp
  have stay : ∀ {τ : L2.St} {G : Hp} {s' : Shared}, Inv Y [] τ G s' → (∀ b ∈ fp, G b = none) → ∀ b ∈ fp, FpOk Y [] G b := fun {τ G s'} K1 hn b hb =>
    ⟨hn b hb, (K1.ok.exf b hb).1, K1.ok.exfs b hb, .inl hb, fun x c e => (K1.ok.exf b hb).2 x c e, fun p hp => by
      have z : p ∈ ([] : List (Addr × Obj)) ++ [] := hp
      simp at z⟩
  let Held : Nat → Shared → Prop := fun n s' => ∃ i G, Inv Y [] (wipe σ (own.map (·.2))) G s' ∧ tn i s'.heap ∧ (∀ b ∈ fp, G b = none) ∧ W i n G
  have loop : codeAny (model X.prog X.w) X.A (.compLoop (.SetComp elt [⟨tg, iter, ifs, 0⟩] scope pos) 0 (.ref it) (.ref D) ce) (compPost (model X.prog X.w) X.A X.xe none (EP X pins σ Q) (.ref D) s3.heap.objs.size) s4 := by
    refine compLoopS_any Held ?_ m0 ⟨0, H3, J4, st4, fun b hb => (f3 b hb).1.1, w0⟩
    rintro n s5 ⟨i, H5, J5, st5, n5, w5⟩
    rcases turn i n H5 w5 with ⟨stop, fin⟩ | ⟨go, Nx, hNx, step⟩
    · refine thnF (T.done Y rfl rfl rfl hc i [] s5 _ H5 (fun _ _ => False) J5 (stay J5 n5) st5 stop) fun r s6 ⟨hr, J6⟩ => ?_
      subst hr
      have J7 : Inv X pins σ H5 s6 := J3.call' (ch := fp) J6.os J6.base J6.hok J6.bare fun b hb => ⟨(f3 b hb).1.2.2.2.1, (f3 b hb).1.2.1, (f3 b hb).1.2.2.2.2.1, (f3 b hb).1.2.2.2.2.2⟩
      have none5 : H5 s3.heap.objs.size = none := by
        rw [← own_]
        exact J6.free
      obtain ⟨m, hn, _⟩ := J6.loc
      obtain ⟨g0, g1, g2, g3, g4, g5⟩ := J3.fpOk (Nat.le_refl _) none5
      have hn' : s6.heap.Ns s3.heap.objs.size m := by
        rw [← own_]
        exact hn
      exact ⟨m, hn', fun h'' sb => ⟨.ref D, H5, J7.turned (t' := s6.toks) (fun b o hb e => (sb.2 b hb).trans e) g0 g1 g3 g4 g5, rfl, fin⟩⟩
    · refine thnF (T.item Y rfl rfl rfl hc i [] s5 _ H5 (fun _ _ => False) J5 (stay J5 n5) st5 go) fun r s6 ⟨u, hr, h6⟩ => ?_
      subst hr
      refine thnF h6 fun _ s7 ⟨x, H7, J7, r7, y7, st7, n7⟩ => ?_
      refine thnF (pg.run _ s7 _ H7 x u _ (J7.pinned (stay J7 n7) (T.obj _ _ st7)) r7 (step x H7 y7)) fun _ s8 ⟨σ8, H8, J8, hw8, q8⟩ => ?_
      refine thnF (pt.run _ s8 σ8 H8 _ J8 q8) fun b s9 ⟨H9, J9, q9⟩ => ?_
      have turned : ∀ {s' : Shared} {G : Hp}, Inv Y ([] ++ pinsAt fp s7.heap) σ8 G s' → Nx G → ∃ m, m < n ∧ Held m s' := fun {s' G} K1 nx => by
        obtain ⟨m', hm, w'⟩ := hNx G nx
        have pin7 : ∀ b ∈ fp, ∀ o, s7.heap.get? b = some o → s'.heap.get? b = some o ∧ G b = none := fun b hb o e => by
          obtain ⟨z1, z2, _⟩ := K1.pin (b, o) (List.mem_append_right _ (List.mem_append_right _ (mem_pinsAt hb e)))
          exact ⟨z1, z2⟩
        have hl : (wipe σ (own.map (·.2))).length = σ8.length := by rw [← hw8, wipe_length]
        refine ⟨m', hm, i + 1, G, (K1.unpinned (pins := [])).weak hl (fun j v e => ?_), T.keep _ _ _ st7 fun b hb o e => (pin7 b hb o e).1, fun b hb => ?_, w'⟩
        · rw [← hw8] at e
          exact (wipe_some e).1
        · obtain ⟨o, e, _⟩ := T.obj _ _ st7 b hb
          exact (pin7 b hb o e).2
      cases b with
      | false => exact turned J9 q9
      | true =>
        refine thnF (pe.run _ s9 σ8 H9 _ J9 q9) fun z s10 ⟨yv, H10, J10, r10, zz, l0, ey, hD10, room, nx⟩ => ?_
        subst ey
        obtain ⟨tk, rfl⟩ := r10
        exact txO_add (X := Y) J10 hD10 room fun s11 J11 => turned J11 nx
  exact codeAny_compStart_set loop (T.self X.A 0 _ _ _ st4 loop)
end
end TxS
namespace TxS
open PySem PySem.Spec PyProof.Rows L2 PpSet
section
variable {P : Program} {w : World} {A : Around} {E : Value → Shared → Prop} {s : Shared} {a : Addr} {l : List Str}
theorem strs_kT : ∀ (vs : List Value), (∀ v ∈ vs, ∃ x t, v = Value.str x t) → StrsAre vs (vs.map fun v => kT (0, v))
  | [], _ => .nil
  | v :: vs, h => by
    obtain ⟨x, t, rfl⟩ := h v List.mem_cons_self
    exact .cons x t (strs_kT vs fun u hu => h u (List.mem_cons_of_mem _ hu))
/-- sorted(set of texts) -/
theorem tx_sorted {Q : Value → Shared → Prop} (R : Tx w s.heap a l) (hh : A.handled = none) (h64 : l.length < 64)
    (hQ : ∀ s' p (out : Array Value) (c : Nat) (ys : List Str), (∀ b o, s.heap.get? b = some o → s'.heap.get? b = some o) → s'.gens = s.gens → s'.os = s.os → s.heap.objs.size ≤ p →
      s'.heap.get? p = some (seqObj "list" out c) → StrsAre out.toList ys → ys.Perm l → sortedS ys = true → Q (.ref p) s') : wpAny (model P w) A (call (.builtin "sorted") [.ref a]) Q E s := by
  obtain ⟨o, es, ep, t, ho, hex, hd, D⟩ := R
  refine Calls.call_function_entry kind_sorted plain_sorted entry_sorted (args_sorted1 _) ?_
  unfold Builtin.«sorted»
  refine wpAny_bind (m := checkCount "sorted" 1 1 _) (wpAny_pure (wpAny_bind (collect_set (A := A.in1) hh ⟨o, ho, hex.1, hd⟩ D.fits D.small D.ris D.led fun s1 vs keep1 size1 gens1 os1 pm => ?_)))
  have texts : StrsAre vs (vs.map fun v => kT (0, v)) := strs_kT vs fun v hv => by
    obtain ⟨e, he, rfl⟩ := List.mem_map.mp (pm.mem_iff.mp hv)
    obtain ⟨x, t, rfl⟩ := D.ok e he
    exact ⟨x, t, rfl⟩
  have many : vs.length < 64 := by
    have q := pm.length_eq
    have z : es.toList.length = l.length := by rw [← D.len]; exact Array.length_toList
    rw [List.length_map, z] at q
    omega
  have perm : (vs.map fun v => kT (0, v)).Perm l := by
    have q := pm.map fun v => kT (0, v)
    rw [List.map_map] at q
    exact q.trans D.mem
  refine wpAny_bind (wpAny_newList ?_ (by rw [sizeLine_eq]; omega))
  have hoL : (s1.heap.push (seqObj "list" vs.toArray 0)).get? s1.heap.objs.size = some (seqObj "list" vs.toArray 0) := Heap.get?_push_size _ rfl
  refine wpAny_bind (wpAny_holding (wpAny_call_entry slot_list_sort ⟨_, hoL, rfl⟩ entry_list_sort (list_sort_treeK strKind_oneLt hoL texts.keysOf (fun v₁ v₂ rest e => keyKind_strs (by rw [← e]; exact texts)) many
    fun st' a1 a2 => ⟨_, rfl, ?_⟩) (args_list_sort _)))
  obtain ⟨ys, b1, b2, b3⟩ := sorted_out_str texts a1 a2
  obtain ⟨c, hc⟩ := sortedHeap_at (vs := vs) (out := (arrOf st').map (·.2)) hoL
  refine wpAny_pure ⟨_, rfl, hQ _ s1.heap.objs.size _ c ys (fun b u e => ?_) gens1 os1 size1 hc b1 (b2.trans perm) b3⟩
  have old := keep1 b u e
  have lt := Heap.lt_size old
  show (sortedHeap (s1.heap.push (seqObj "list" vs.toArray 0)) s1.heap.objs.size vs ((arrOf st').map (·.2))).get? b = some u
  rw [sortedHeap_old (Nat.ne_of_lt lt) (by rw [size_push']; exact Nat.lt_succ_of_lt lt)]
  exact Heap.get?_push_of_some _ old
end
section
variable {X : Cx}
def rSortedTx (w : World) : List V → Hp → VK → Prop := fun vs H Q => ∃ (a : Addr) (l : List Str), vs = [V.ref a] ∧ H a = some (TxO w a l) ∧ l.length < 64 ∧
  ∀ (ys : List Str) (p : Addr), ys.Perm l → sortedS ys = true → H p = none → Q (.ref p) (upd H p (.lst (ys.map V.str)))
theorem cr_sortedTx (hc : X.calm = true) : CallR X (.builtin "sorted") (rSortedTx X.w) := by
  intro pins s σ H vs us Q I r h
  obtain ⟨a, l, rfl, ha, h64, q⟩ := h
  rw [Vals.ref1 r]
  refine tx_sorted (txO_get I ha) (I.ok.hd hc) h64 fun s' p out c ys keep g o hp hg hi pm srt => ?_
  have many : (ys.map V.str).length ≤ sizeLine := by rw [List.length_map, pm.length_eq, sizeLine_eq]; omega
  have new : H p = none := I.hok.fresh hp
  have J : Inv X pins σ (upd H p (.lst (ys.map V.str))) { s with heap := s'.heap, gens := s'.gens, drawn := s'.drawn, toks := s'.toks } :=
    I.call (ch := []) (Un.laid keep hp new) (I.hok.laid keep hp ⟨many, out.toList, c, vals_of_strs hi, hg⟩) (by rw [g]; exact I.bare) (fun _ z => nomatch z)
  have e : s' = { s with heap := s'.heap, gens := s'.gens, drawn := s'.drawn, toks := s'.toks } := by
    rcases s' with ⟨h1, h2, h3, h4, h5⟩
    rcases s with ⟨k1, k2, k3, k4, k5⟩
    cases o
    rfl
  rw [e]
  exact ⟨.ref p, _, J, rfl, q ys p pm srt new⟩
def rLenTx (w : World) : List V → Hp → VK → Prop := fun vs H Q => ∃ (a : Addr) (l : List Str), vs = [V.ref a] ∧ H a = some (TxO w a l) ∧ Q (.int l.length) H
theorem cr_lenTx : CallR X (.builtin "len") (rLenTx X.w) := by
  intro pins s σ H vs us Q I r h
  obtain ⟨a, l, rfl, ha, q⟩ := h
  rw [Vals.ref1 r]
  obtain ⟨o, es, ep, t, ho, hex, hd, D⟩ := txO_get I ha
  have small := fits_of_scanBound D.small
  have hl := line63
  exact call_len_set ho hex hd D.fits (by omega) ⟨.int l.length, H, I.tok _, ⟨_, by rw [D.len]⟩, q⟩
end
/-- a set comprehension over what is walked: Pv by the turn and the heap (the new set at D within) -/
theorem sc_it {J : It} {n : Nat} {G : Hp → Prop} {Y : Nat → Hp → V → Hp → Prop} {w0 : World} (w : Walk J n G Y) {g : TG} {tt : TT} {te : TE} {vs : List Nat} {σ : L2.St} {H1 : Hp} {D : Addr} {Qd : Hp → Prop} (Pv : Nat → Hp → Prop) (h0 : Pv 0 (upd H1 D (TxO w0 D []))) (hG : ∀ i H, i ≤ n → Pv i H → G H)
    (hs : ∀ i x H H', i < n → Pv i H → Y i H x H' → g x (wipe σ vs) H' fun σ2 H2 => wipe σ2 vs = wipe σ vs ∧ tt σ2 H2 fun b H3 => turnT w0 D te σ2 (Pv (i + 1)) b H3) (hd : ∀ H, Pv n H → Qd H) :
    ∃ W : Nat → Nat → Hp → Prop, (∃ m, W 0 m (upd H1 D (TxO w0 D []))) ∧ ∀ i m H, W i m H →
      (J.stop i H ∧ Qd H) ∨ (J.go i H ∧ ∃ Nx : Hp → Prop, (∀ H', Nx H' → ∃ m', m' < m ∧ W (i + 1) m' H') ∧ ∀ x H', J.yld i H x H' → g x (wipe σ vs) H' fun σ2 H2 => wipe σ2 vs = wipe σ vs ∧ tt σ2 H2 fun b H3 => turnT w0 D te σ2 Nx b H3) := by
  refine ⟨fun i m H => m = n - i ∧ i ≤ n ∧ Pv i H, ⟨n, (Nat.sub_zero n).symm, Nat.zero_le n, h0⟩, fun i m H ⟨em, hi, p⟩ => ?_⟩
  have stands := hG i H hi p
  rcases Nat.lt_or_ge i n with lt | ge
  · exact .inr ⟨w.goes i H lt stands, Pv (i + 1), fun H' p' => ⟨n - (i + 1), by omega, rfl, lt, p'⟩, fun x H' y => hs i x H H' lt p (w.yields i H x H' lt stands y)⟩
  · obtain rfl : i = n := Nat.le_antisymm hi ge
    exact .inl ⟨w.stops H stands, hd H p⟩
end TxS
/-! enumerate(tuple), walked -/
namespace PySem
theorem meets_enum1 {v : Value} {o : Obj} {H : Heap → Prop} (B : Begins v o H) :
    Meets (Builtin.«enumerate.__new__» ⟨[.type "enumerate", v], []⟩) (fun _ R s => H s.heap ∧
      R (.ok (.ret (.ref (s.heap.push o).objs.size))) { s with heap := (s.heap.push o).push { cls := .type "enumerate", data := .fields #[.none, .bool false, .ref s.heap.objs.size, rawInt 0, .none, .none] } }) :=
  .of_wp fun prog w A R s h => by
    rcases s with ⟨hp, g, d, tk, os⟩
    rcases h with ⟨h1, h⟩
    have hsub := sub_enumerate
    have begin_ : ∀ {A' : Around} {E : Value → Shared → Prop} {Q : Value → Shared → Prop}, Q (.ref hp.objs.size) ⟨hp.push o, g, d, tk, os⟩ → wpAny (model prog w) A' (pyIter v) Q E ⟨hp, g, d, tk, os⟩ :=
      fun q => B.iter prog w _ _ ⟨hp, g, d, tk, os⟩ _ h1 q
    wp_walk using begin_
    refine wpAny_stack_any fun st => wpAny_pure ?_
    split
    · rename_i c _ _ _ _ _
      cases (c == Value.type "enumerate") <;>
      · wp_walk using begin_
        exact ⟨_, rfl, h⟩
    · wp_walk using begin_
      exact ⟨_, rfl, h⟩
theorem call_enum1 {prog : Program} {w : World} {A : Around} {E : Value → Shared → Prop} {s : Shared} {v : Value} {o : Obj} {H : Heap → Prop} {Q : Value → Shared → Prop} (B : Begins v o H) (h1 : H s.heap)
    (h : ∀ h', IsEnum h' (s.heap.objs.size + 1) s.heap.objs.size 0 .none → h'.get? s.heap.objs.size = some o → (∀ b u, s.heap.get? b = some u → h'.get? b = some u) → Q (.ref (s.heap.objs.size + 1)) { s with heap := h' }) :
    wpAny (model prog w) A (call (.type "enumerate") [v]) Q E s := by
  refine callType_new F.called_enumerate (by decide) (F.typeCall_enumerate_1 _) (F.newCall_enumerate_1 _) (fun obj => F.args_object_init_2 obj _) F.entry_enumerate_new (meets_enum1 B) ⟨h1, ?_⟩
  have size1 : (s.heap.push o).objs.size = s.heap.objs.size + 1 := Heap.size_push ..
  show _ ∧ _
  rw [size1]
  have made : IsEnum ((s.heap.push o).push { cls := .type "enumerate", data := .fields #[.none, .bool false, .ref s.heap.objs.size, rawInt 0, .none, .none] }) (s.heap.objs.size + 1) s.heap.objs.size 0 .none := by
    have q := Heap.get?_push_size (s.heap.push o) (o := { cls := .type "enumerate", data := .fields #[.none, .bool false, .ref s.heap.objs.size, rawInt 0, .none, .none] }) rfl
    rw [size1] at q
    exact q
  exact ⟨⟨_, made, rfl⟩, h _ made (Heap.get?_push_of_some _ (Heap.get?_push_size _ B.free)) fun b u x => Heap.get?_push_of_some _ (Heap.get?_push_of_some _ x)⟩
end PySem
namespace L2
open PySem PySem.Spec PyProof.Rows
/-- the tuple at a, each item in a new pair behind its place -/
def IteT (K : PySem.W.Frag) (a : Addr) : It :=
  ⟨fun i H => ∃ (xs : List V) (x : V), SqT K H a xs ∧ xs[i]? = some x, fun i H v H' => ∃ T x, v = .ref T ∧ H T = none ∧ H' = upd H T (.tup [.int (i : Nat), x]) ∧ ∀ xs, SqT K H a xs → xs[i]? = some x, fun i H => ∃ xs : List V, SqT K H a xs ∧ xs.length = i⟩
theorem turn_enumT {P : Program} {w : World} {K : PySem.W.Frag} {elts : List Expr} {kk : Nat} {tpos : Pos} (a e it : Addr) :
    Turn P w K (.Tuple elts kk tpos) (IteT K a) [e, it] e (fun i h => (∃ old, IsEnum h e it ((i : Nat) : Int) old) ∧ h.IsTupleIter it a i ∧ e ≠ it ∧ a ≠ it ∧ a ≠ e) where
  mem := by simp
  obj := fun i h ⟨⟨old, he⟩, ⟨o, ho, hc, hd⟩, _⟩ b hb => by
    rcases List.mem_cons.mp hb with z | z
    · rw [z]
      exact ⟨_, he, fun v q => nomatch q⟩
    · rw [List.mem_singleton.mp z]
      exact ⟨o, ho, fun v q => by rw [hd] at q; cases q⟩
  keep := fun i h h' ⟨⟨old, he⟩, hi, hne⟩ k => ⟨⟨old, k e (by simp) _ he⟩, hi.at fun o q => k it (by simp) o q, hne⟩
  item := by
    intro X hP hw hK hc i pins s σ H E I hf st hg
    subst hP hw hK
    obtain ⟨⟨old, he⟩, hit, hne, hai, hae⟩ := st
    obtain ⟨xs, x, hq, hx⟩ := hg
    obtain ⟨its, rv, p, hz⟩ := I.tuple hq
    obtain ⟨u, hu, ru⟩ := rv.get hx
    have el : e < s.heap.objs.size := Heap.lt_size he
    have il : it < s.heap.objs.size := let ⟨_, q, _⟩ := hit; Heap.lt_size q
    have inRange : i < its.toArray.size := by
      have q := (List.getElem?_eq_some_iff.mp hu).1
      simpa using q
    have D := Draws.tuple (prog := X.prog) (w := X.w) (A := X.A.in1) (I.ok.hd hc) it a hai its.toArray
    refine wpAny_pyNext_enum_itemD D he ⟨hit, (show s.heap.IsTuple a its.toArray from p)⟩ inRange hne (by simp [hne, Ne.symm hae]) fun y h' tk hy ho hst hT hsz hk => ?_
    have ey : y = u := by
      have q : its.toArray[i]? = some u := by simpa using hu
      rw [hy] at q
      exact Option.some.inj q
    subst ey
    refine ⟨_, rfl, wpAny_letOwnedTupleGo_enum (s := { s with heap := h', toks := tk + 1 }) ho fun h'' he' sb => ?_⟩
    have hT2 : h''.get? s.heap.objs.size = some { cls := .type "tuple", data := .seq #[.int i tk, y] } := (sb.2 _ (Nat.ne_of_gt el)).trans hT
    have new : ObjOk X.prog X.w (upd H s.heap.objs.size (.tup [.int (i : Nat), x])) h'' s.heap.objs.size (.tup [.int (i : Nat), x]) :=
      ⟨by show 2 ≤ sizeLine; decide, [.int i tk, y], .cons ⟨_, rfl⟩ (.cons ru .nil), ⟨_, hT2, rfl, _, rfl⟩⟩
    have I1 : Inv X pins σ (upd H s.heap.objs.size (.tup [.int (i : Nat), x])) { s with heap := h'', toks := tk + 1 } :=
      I.turnedNew (ch := [e, it]) (fun b ob hb q => (sb.2 b (fun z => hb (by simp [z]))).trans (hk b ob (fun z => hb (by simp [z])) (fun z => hb (by simp [z])) q)) hf (Nat.le_refl _) new
    refine ⟨.ref s.heap.objs.size, _, I1, rfl, ⟨_, x, rfl, I.hok.fresh (Nat.le_refl _), rfl, fun ys hy => by rw [I.tuple_inj hy hq]; exact hx⟩, ⟨⟨y, ?_⟩, hst.1.at fun o q => (sb.2 it (Ne.symm hne)).trans q, hne, hai, hae⟩, fun b hb => ?_⟩
    · rw [show ((i + 1 : Nat) : Int) = (i : Int) + 1 by omega]
      exact he'
    · have below : b < s.heap.objs.size := by
        rcases List.mem_cons.mp hb with z | z
        · rw [z]
          exact el
        · rw [List.mem_singleton.mp z]
          exact il
      rw [upd_ne (Nat.ne_of_lt below)]
      exact (hf b hb).1
  done := by
    intro X hP hw hK hc i pins s σ H E I hf st hg
    subst hP hw hK
    obtain ⟨⟨old, he⟩, hit, hne, hai, hae⟩ := st
    obtain ⟨xs, hq, hx⟩ := hg
    obtain ⟨its, rv, p, hz⟩ := I.tuple hq
    obtain ⟨f0, f1, f2, f3, f4, f5⟩ := hf it (by simp)
    have D := Draws.tuple (prog := X.prog) (w := X.w) (A := X.A.in1) (I.ok.hd hc) it a hai its.toArray
    have en : its.toArray.size = i := by
      have q := rv.length
      rw [← hx, q]
      exact List.size_toArray
    refine wpAny_pyNext_enum_endD D he ⟨by rw [en]; exact hit, (show s.heap.IsTuple a its.toArray from p)⟩ fun h' eb => ⟨rfl, I.turned (t' := s.toks) (fun b o hb q => eb b o hb q) f0 f1 f3 f4 f5⟩
  self := fun A i s Q E ⟨⟨_, he⟩, _⟩ h => wpAny_pyIter_enum he h
def iEnumT (K : PySem.W.Frag) (ta : TA) : TI := fun σ H R => ta σ H fun vs H1 => ∃ a xs, vs = [.ref a] ∧ SqT K H1 a xs ∧ R (IteT K a) H1
theorem pi_enumT {X : Cx} {e : Expr} {ta : TA} {p pos tpos : Pos} {elts : List Expr} {kk : Nat} (hg : Gl X "enumerate") (hm : X.mg "enumerate" = none) (ha : PA X [e] ta) (hs : starEach [e] X.env = [(false, eval e X.env)] := by rfl) :
    PI X (.Tuple elts kk tpos) (.Call (.Name "enumerate" p) [e] [] pos) (iEnumT X.K ta) := by
  refine ⟨fun pins s σ H R I h => ?_⟩
  refine Call_ (ld_blt I hg hm boot_enumerate (PyProof.Rows.callWith_type1 (thn (ha.run pos pins s σ H _ I h) fun us s1 ⟨vs, H1, I1, r1, a, xs, ex, hq, q⟩ => ?_) hs rfl))
  subst ex
  rw [Vals.ref1 r1]
  obtain ⟨its, rv, p', hz⟩ := I1.tuple hq
  have hlt : a < s1.heap.objs.size := let ⟨_, q, _⟩ := p'; Heap.lt_size q
  refine call_enum1 (begins_tuple a its.toArray) (show s1.heap.IsTuple a its.toArray from p') fun h' he hit hk => wpAny_pyIter_enum he ?_
  have I2 : Inv X pins σ H1 { s1 with heap := h' } := I1.kept (t' := s1.toks) hk
  refine ⟨s1.heap.objs.size + 1, [s1.heap.objs.size + 1, s1.heap.objs.size], _, _, H1, rfl, I2, turn_enumT a (s1.heap.objs.size + 1) s1.heap.objs.size, ⟨⟨.none, he⟩, ⟨_, hit, rfl, rfl⟩, Nat.succ_ne_self _, Nat.ne_of_lt hlt, Nat.ne_of_lt (Nat.lt_succ_of_lt hlt)⟩, fun b hb => ?_, q⟩
  have above : s1.heap.objs.size ≤ b := by
    rcases List.mem_cons.mp hb with z | z
    · rw [z]
      exact Nat.le_succ _
    · rw [List.mem_singleton.mp z]
      exact Nat.le_refl _
  exact I1.fpOk above (I1.hok.fresh above)
theorem walk_enumT {K : PySem.W.Frag} {a : Addr} {xs : List V} : Walk (IteT K a) xs.length (fun H => SqT K H a xs) (YPair (fun i => some (.int (i : Nat))) (fun i => xs[i]?)) := by
  refine ⟨fun i _ hi q => ⟨xs, xs[i], q, by simp [hi]⟩, fun _ q => ⟨xs, q, rfl⟩, fun i H v H' _ q y => ?_⟩
  obtain ⟨T, x, h1, h2, h3, h4⟩ := y
  exact ⟨T, .int (i : Nat), x, h1, h2, h3, rfl, h4 xs q⟩
end L2
/-! C() and C(*y) by a positional promise of __init__ -/
namespace StX
open PySem PySem.Spec PyProof.Rows L2
section
variable {X : Cx} {CX : CXT} {k : Nat} {f C : Addr} {sp : Sp} {E : XK} {x : Str} {e : Expr} {te : TE} {p sp_ pos : Pos}
theorem pe_makeR0 (M : Mk X.K C f) (F : FnR X.prog X.w X.K X.mg X.base CX k f sp) (hr : Room (k + 1) X.A) (hg : Gl X x) (hm : X.mg x = some (.ref C)) (hx : Passes CX X E) (hdb : (x == ("__debug__" : Str)) = false := by decide) :
    PE X (.Call (.Name x p) [] [] pos) (tMakeR C sp E tNil) :=
  ⟨fun pins s σ H Q I h => wpAny_Call_Name_kw (ld_glob I hg hm (PySem.W.callWith_K0 I.kIn M.kp (run_makeR (us := []) M F hr hx I .nil h)) hdb)⟩
/-- C(*y): the items of y, a tuple or a list -/
def tMakeS (K : PySem.W.Frag) (C : Addr) (sp : Sp) (E : XK) (te : TE) : TE := fun σ H Q => te σ H fun y H1 => ∃ a xs, y = V.ref a ∧ (SqT K H1 a xs ∨ SqL K H1 a xs) ∧ ∀ x dx, H1 x = Option.none → H1 dx = Option.none → dx ≠ x →
  sp (V.ref x :: xs) (upd (upd H1 dx (.own x)) x (.ins C dx [])) (fun v H2 => v = .non ∧ Q (.ref x) H2) E
theorem pe_makeS (M : Mk X.K C f) (F : FnR X.prog X.w X.K X.mg X.base CX k f sp) (hr : Room (k + 1) X.A) (hg : Gl X x) (hm : X.mg x = some (.ref C)) (hx : Passes CX X E) (he : PE X e te) (hdb : (x == ("__debug__" : Str)) = false := by decide)
    (hst : starEach [.Starred e sp_] X.env = [(true, eval e X.env)] := by rfl) : PE X (.Call (.Name x p) [.Starred e sp_] [] pos) (tMakeS X.K C sp E te) := by
  refine ⟨fun pins s σ H Q I h => wpAny_Call_Name_kw (ld_glob I hg hm ?_ hdb)⟩
  refine PySem.W.callWith_S (h₀ := X.base) I.ok.mod.kin M.kp (thn (he.run pins s σ H _ I h) fun v s1 ⟨y, H1, I1, ry, a, xs, ey, hxs, q⟩ => ?_) hst
  subst ey
  obtain rfl : v = Value.ref a := ry
  exact star_any I1 hxs fun us s2 I2 rv => ⟨I2.kIn, run_makeR M F hr hx I2 rv q⟩
end
end StX
namespace LS
open PySem L2
/-! stacks: what stands in the heap -/
/-- an entry: a rule (where it stands, its module, its actions) or a stack of entries -/
inductive Ent where
  | rule (p : Addr) (z : Str) (ds : List PyData)
  | stk (p : Addr) (es : List Ent)
def Ent.at_ : Ent → Addr
  | .rule p _ _ => p
  | .stk p _ => p
abbrev RuleI : Type := Addr × Str × List PyData
mutual
def rulesE : Ent → List RuleI
  | .rule p z ds => [(p, z, ds)]
  | .stk _ es => rulesEs es
def rulesEs : List Ent → List RuleI
  | [] => []
  | e :: es => rulesE e ++ rulesEs es
end
mutual
def depthE : Ent → Nat
  | .rule _ _ _ => 0
  | .stk _ es => 1 + depthEs es
def depthEs : List Ent → Nat
  | [] => 0
  | e :: es => max (depthE e) (depthEs es)
end
def refR (r : RuleI) : V := .ref r.1
def refE (e : Ent) : V := .ref e.at_
/-- the ascending names of the modules -/
def ModsOf (ms : List Str) (rs : List RuleI) : Prop := ms.Nodup ∧ PyProof.Rows.sortedS ms = true ∧ ∀ x, x ∈ ms ↔ x ∈ rs.map fun r => r.2.1
/-- what may be a stack's entries -/
structure Legal (es : List Ent) : Prop where
  few : es.length ≤ 12
  rules : (rulesEs es).length ≤ 12
  deep : depthEs es ≤ 2
def stackF (e r m : Addr) : List (Str × V) := [("_entries", .ref e), ("_rules", .ref r), ("_modules", .ref m)]
/-- shaped data without lists -/
def okD (ds : List PyData) : Bool := SeqAt.shaped (.tuple ds) && noLss ds
theorem okD_sh {ds : List PyData} (h : okD ds = true) : SeqAt.shaped (.tuple ds) = true := (Bool.and_eq_true_iff.mp h).1
theorem okD_nl {ds : List PyData} (h : okD ds = true) : noLss ds = true := (Bool.and_eq_true_iff.mp h).2
mutual
def EntAt (K : PySem.W.Frag) (CR CS : Addr) (H : Hp) : Ent → Prop
  | .rule p z ds => RuleAt K CR H p z ds ∧ okD ds = true
  | .stk p es => (∃ dx e r m ms, H p = some (.ins CS dx (stackF e r m)) ∧ SqT K H e (es.map refE) ∧ SqT K H r ((rulesEs es).map refR) ∧ SqT K H m (ms.map V.str) ∧ ModsOf ms (rulesEs es) ∧ Legal es) ∧ EntsAt K CR CS H es
def EntsAt (K : PySem.W.Frag) (CR CS : Addr) (H : Hp) : List Ent → Prop
  | [] => True
  | e :: es => EntAt K CR CS H e ∧ EntsAt K CR CS H es
end
theorem RuleAt.ext {K : PySem.W.Frag} {C : Addr} {H H' : Hp} {p : Addr} {z : Str} {ds : List PyData} (h : RuleAt K C H p z ds) (S : Same H H') : RuleAt K C H' p z ds := by
  obtain ⟨dx, a, hp, hd⟩ := h
  exact ⟨dx, a, S _ _ hp, same_dp S _ _ hd⟩
mutual
theorem ent_same {K : PySem.W.Frag} {CR CS : Addr} {H H' : Hp} (S : Same H H') : ∀ e : Ent, EntAt K CR CS H e → EntAt K CR CS H' e
  | .rule _ _ _, h => ⟨h.1.ext S, h.2⟩
  | .stk _ es, ⟨⟨dx, e, r, m, ms, h1, h2, h3, h4, h5⟩, h6⟩ => ⟨⟨dx, e, r, m, ms, S _ _ h1, same_tup S h2, same_tup S h3, same_tup S h4, h5⟩, ents_same S es h6⟩
theorem ents_same {K : PySem.W.Frag} {CR CS : Addr} {H H' : Hp} (S : Same H H') : ∀ es : List Ent, EntsAt K CR CS H es → EntsAt K CR CS H' es
  | [], _ => True.intro
  | e :: es, ⟨h1, h2⟩ => ⟨ent_same S e h1, ents_same S es h2⟩
end
theorem ents_get {K : PySem.W.Frag} {CR CS : Addr} {H : Hp} : ∀ {es : List Ent} {i : Nat} {e : Ent}, EntsAt K CR CS H es → es[i]? = some e → EntAt K CR CS H e
  | [], _, _, _, h => by simp at h
  | e :: es, 0, _, ⟨h1, _⟩, h => by simp at h; subst h; exact h1
  | e :: es, i + 1, _, ⟨_, h2⟩, h => ents_get h2 (by simpa using h)
structure StackK (K : PySem.W.Frag) (mg : Str → Option Value) (CR CS : Addr) : Prop where
  R : RuleK K mg CR
  NR : InstK K CR
  g : mg "Stack" = some (.ref CS)
  cl : Cls K CS
  N : InstK K CS
  nE : NoAttr K CS "_entries"
  nR : NoAttr K CS "_rules"
  nM : NoAttr K CS "_modules"
  rs : PySem.W.kitOne K (.ref CR) (.ref CS) = some false
  isi : mg "isinstance" = none
abbrev sRulesOf : Stmt := top i_rules_of
abbrev sDepthOf : Stmt := top i_depth_of
abbrev sSRules : Stmt := inClass (top i_Stack) 2
abbrev sSEntries : Stmt := inClass (top i_Stack) 1
abbrev sSModules : Stmt := inClass (top i_Stack) 3
theorem st_e {e r m : Addr} : (stackF e r m).lookup ("_entries" : Str) = some (.ref e) := by
  show ([(("_entries" : Str), V.ref e), (("_rules" : Str), V.ref r), (("_modules" : Str), V.ref m)] : List (Str × V)).lookup ("_entries" : Str) = some (.ref e)
  simp [List.lookup]
theorem st_r {e r m : Addr} : (stackF e r m).lookup ("_rules" : Str) = some (.ref r) := by
  show ([(("_entries" : Str), V.ref e), (("_rules" : Str), V.ref r), (("_modules" : Str), V.ref m)] : List (Str × V)).lookup ("_rules" : Str) = some (.ref r)
  have h1 : (("_rules" : Str) == ("_entries" : Str)) = false := by decide +kernel
  simp [List.lookup, h1]
theorem st_m {e r m : Addr} : (stackF e r m).lookup ("_modules" : Str) = some (.ref m) := by
  show ([(("_entries" : Str), V.ref e), (("_rules" : Str), V.ref r), (("_modules" : Str), V.ref m)] : List (Str × V)).lookup ("_modules" : Str) = some (.ref m)
  have h1 : (("_modules" : Str) == ("_entries" : Str)) = false := by decide +kernel
  have h2 : (("_modules" : Str) == ("_rules" : Str)) = false := by decide +kernel
  simp [List.lookup, h1, h2]
/-- the getters -/
def spSEntries (K : PySem.W.Frag) (CR CS : Addr) : Sp := fun vs H Q _ => ∃ (p : Addr) (es : List Ent), vs = [.ref p] ∧ EntAt K CR CS H (.stk p es) ∧ ∀ t, SqT K H t (es.map refE) → Q (.ref t) H
def spSRules (K : PySem.W.Frag) (CR CS : Addr) : Sp := fun vs H Q _ => ∃ (p : Addr) (es : List Ent), vs = [.ref p] ∧ EntAt K CR CS H (.stk p es) ∧ ∀ t, SqT K H t ((rulesEs es).map refR) → Q (.ref t) H
def spSModules (K : PySem.W.Frag) (CR CS : Addr) : Sp := fun vs H Q _ => ∃ (p : Addr) (es : List Ent), vs = [.ref p] ∧ EntAt K CR CS H (.stk p es) ∧ ∀ t ms, SqT K H t (ms.map V.str) → ModsOf ms (rulesEs es) → Q (.ref t) H
def spRulesOf (K : PySem.W.Frag) (CR CS : Addr) : Sp := fun vs H Q _ => ∃ e : Ent, vs = [refE e] ∧ EntAt K CR CS H e ∧ ∀ t H', Same H H' → SqT K H' t ((rulesE e).map refR) → Q (.ref t) H'
section
variable {P : Program} {w : World} {K : PySem.W.Frag} {mg : Str → Option Value} {base : Heap} {CR CS : Addr}
theorem scSE : FnScope ["self"] ["self"] (defScope sSEntries) := ⟨rfl, rfl, rfl, by decide +kernel, rfl, by decide +kernel, by decide +kernel⟩
theorem scSR : FnScope ["self"] ["self"] (defScope sSRules) := ⟨rfl, rfl, rfl, by decide +kernel, rfl, by decide +kernel, by decide +kernel⟩
theorem scSM : FnScope ["self"] ["self"] (defScope sSModules) := ⟨rfl, rfl, rfl, by decide +kernel, rfl, by decide +kernel, by decide +kernel⟩
theorem ok_sentries {f : Addr} {fd : FuncData} (F : Fun K "entries" "Stack.entries" sSEntries f fd) (T : StackK K mg CR CS) : FnOk P w K mg base CX0 1 f fd ["self"] (spSEntries K CR CS) := by
  refine F.ok scSE (fun vs H Q E h => ?_) (fun cdv A outer s H vs Q E hr h => ?_)
  · obtain ⟨p, es, rfl, _⟩ := h
    rfl
  · obtain ⟨p, es, rfl, ⟨⟨dx, e, r, m, ms, h1, h2, h3, h4, h5⟩, h6⟩, k⟩ := h
    exact ⟨_, pss_one (ps_ret (pe_fld (pv 0) rfl)), _, rfl, p, CS, dx, _, _, rfl, h1, T.cl, T.nE, st_e, k e h2⟩
theorem ok_srules {f : Addr} {fd : FuncData} (F : Fun K "rules" "Stack.rules" sSRules f fd) (T : StackK K mg CR CS) : FnOk P w K mg base CX0 1 f fd ["self"] (spSRules K CR CS) := by
  refine F.ok scSR (fun vs H Q E h => ?_) (fun cdv A outer s H vs Q E hr h => ?_)
  · obtain ⟨p, es, rfl, _⟩ := h
    rfl
  · obtain ⟨p, es, rfl, ⟨⟨dx, e, r, m, ms, h1, h2, h3, h4, h5⟩, h6⟩, k⟩ := h
    exact ⟨_, pss_one (ps_ret (pe_fld (pv 0) rfl)), _, rfl, p, CS, dx, _, _, rfl, h1, T.cl, T.nR, st_r, k r h3⟩
theorem ok_smodules {f : Addr} {fd : FuncData} (F : Fun K "modules" "Stack.modules" sSModules f fd) (T : StackK K mg CR CS) : FnOk P w K mg base CX0 1 f fd ["self"] (spSModules K CR CS) := by
  refine F.ok scSM (fun vs H Q E h => ?_) (fun cdv A outer s H vs Q E hr h => ?_)
  · obtain ⟨p, es, rfl, _⟩ := h
    rfl
  · obtain ⟨p, es, rfl, ⟨⟨dx, e, r, m, ms, h1, h2, h3, h4, h5⟩, h6⟩, k⟩ := h
    exact ⟨_, pss_one (ps_ret (pe_fld (pv 0) rfl)), _, rfl, p, CS, dx, _, _, rfl, h1, T.cl, T.nM, st_m, k m ms h4 h5.1⟩
theorem scRO : FnScope ["entry"] ["entry"] (defScope sRulesOf) := ⟨rfl, rfl, rfl, by decide +kernel, rfl, by decide +kernel, by decide +kernel⟩
/-- the class of an entry, and whether it is Stack -/
theorem ent_cls {H : Hp} {e : Ent} (T : StackK K mg CR CS) (h : EntAt K CR CS H e) : ∃ t, TyX K H (refE e) t ∧ PySem.W.kitOne K t (.ref CS) = some (match e with | .stk _ _ => true | .rule _ _ _ => false) := by
  cases e with
  | rule p z ds =>
    obtain ⟨⟨dx, a, hp, _⟩, _⟩ := h
    exact ⟨.ref CR, .base (.ins hp T.R.cl T.NR.ha T.NR.hn T.NR.ht T.NR.hm), T.rs⟩
  | stk p es =>
    obtain ⟨⟨dx, e, r, m, ms, h1, _⟩, _⟩ := h
    exact ⟨.ref CS, .base (.ins h1 T.cl T.N.ha T.N.hn T.N.ht T.N.hm), kit_self⟩
theorem ok_rulesof {f fR pR : Addr} {fd fdR : FuncData} (F : Fun K "rules_of" "rules_of" sRulesOf f fd) (T : StackK K mg CR CS) (FR : Fun K "rules" "Stack.rules" sSRules fR fdR) (bR : Binds K fdR ["self"] []) (pR_ : PropOf K CS "rules" pR fR) :
    FnOk P w K mg base CX0 3 f fd ["entry"] (spRulesOf K CR CS) := by
  have GR : FnOk P w K mg base CX0 1 fR fdR ["self"] (spSRules K CR CS) := ok_srules FR T
  refine F.ok scRO (fun vs H Q E h => ?_) (fun cdv A outer s H vs Q E hr h => ?_)
  · obtain ⟨e, rfl, _⟩ := h
    rfl
  · obtain ⟨e, rfl, he, k⟩ := h
    refine ⟨_, pss_cons (ps_if (pt_val (pe_callB call_isi (by rfl) T.isi (by decide +kernel) (pa_cons (pv 0) (pa_cons (pe_glob (v := .ref CS) (by rfl) T.g rfl) pa_nil))))
        (pss_one (ps_ret (pe_prop (pv 0) T.cl pR_ GR hr bR .nil pass0 rfl))) pss_nil)
      (pss_one (ps_ret (pe_tup (pa_cons (pv 0) pa_nil)))), ?_⟩
    obtain ⟨t, ht, hk⟩ := ent_cls T he
    refine ⟨_, rfl, refE e, .ref CS, t, .ref CS, _, rfl, .own CS, ht, hk, _, rfl, ?_⟩
    cases e with
    | stk p es =>
      refine iteT ?_
      obtain ⟨⟨dx, e1, r, m, ms, h1, h2, h3, h4, h5⟩, h6⟩ := id he
      exact ⟨_, rfl, p, dx, _, rfl, h1, p, es, rfl, he, fun q hq => k q H (Same.refl H) hq⟩
    | rule p z ds =>
      refine iteF ?_
      refine ⟨_, rfl, by show 1 ≤ sizeLine; decide, fun q hq => k q _ (same_upd hq (Same.refl H)) (SqT.of upd_same)⟩
end
end LS
namespace LS
open PySem L2
/-- how deep an entry of depth at most n is -/
def spDepth (K : PySem.W.Frag) (CR CS : Addr) (n : Nat) : Sp := fun vs H Q _ => ∃ e : Ent, vs = [refE e] ∧ EntAt K CR CS H e ∧ depthE e ≤ n ∧ ∀ H', Same H H' → Q (.int (depthE e : Nat)) H'
abbrev nDepth : List Str := ["entry", "inner"]
def depths (es : List Ent) : List Int := es.map fun e => ((depthE e : Nat) : Int)
theorem depthEs_max : ∀ es : List Ent, (∀ y ∈ (0 : Int) :: depths es, y ≤ ((depthEs es : Nat) : Int)) ∧ ((depthEs es : Nat) : Int) ∈ (0 : Int) :: depths es
  | [] => ⟨fun y hy => by
      rw [show depths [] = [] from rfl, List.mem_singleton] at hy
      rw [hy]
      exact Int.le_refl _, List.mem_cons_self⟩
  | e :: es => by
    obtain ⟨h1, h2⟩ := depthEs_max es
    have hd : depths (e :: es) = ((depthE e : Nat) : Int) :: depths es := rfl
    have hm : depthEs (e :: es) = max (depthE e) (depthEs es) := rfl
    rw [hd, hm]
    refine ⟨fun y hy => ?_, ?_⟩
    · rcases List.mem_cons.mp hy with z | z
      · rw [z]
        omega
      · rcases List.mem_cons.mp z with z | z
        · rw [z]
          omega
        · have := h1 y (List.mem_cons_of_mem _ z)
          omega
    · rcases Nat.le_total (depthE e) (depthEs es) with q | q
      · rw [Nat.max_eq_right q]
        rcases List.mem_cons.mp h2 with z | z
        · rw [z]
          exact List.mem_cons_self
        · exact List.mem_cons_of_mem _ (List.mem_cons_of_mem _ z)
      · rw [Nat.max_eq_left q]
        exact List.mem_cons_of_mem _ List.mem_cons_self
theorem depthEs_get : ∀ {es : List Ent} {i : Nat} {e : Ent}, es[i]? = some e → depthE e ≤ depthEs es
  | [], _, _, h => by simp at h
  | e :: es, 0, _, h => by simp at h; subst h; exact Nat.le_max_left _ _
  | e :: es, i + 1, _, h => Nat.le_trans (depthEs_get (by simpa using h)) (Nat.le_max_right _ _)
section
variable {P : Program} {w : World} {K : PySem.W.Frag} {mg : Str → Option Value} {base : Heap} {CR CS : Addr}
theorem scDO : FnScope nDepth ["entry"] (defScope sDepthOf) := ⟨rfl, rfl, rfl, by decide +kernel, rfl, by decide +kernel, by decide +kernel⟩
theorem ok_depth {f fE pE : Addr} {fd fdE : FuncData} (F : Fun K "depth_of" "depth_of" sDepthOf f fd) (gD : mg "depth_of" = some (.ref f)) (bD : Binds K fd ["entry"] []) (T : StackK K mg CR CS) (FE : Fun K "entries" "Stack.entries" sSEntries fE fdE) (bE : Binds K fdE ["self"] []) (pE_ : PropOf K CS "entries" pE fE) (mM : mg "max" = none) :
    ∀ n : Nat, FnOk P w K mg base CX0 (n + 3) f fd ["entry"] (spDepth K CR CS n) := by
  have GE : FnOk P w K mg base CX0 1 fE fdE ["self"] (spSEntries K CR CS) := ok_sentries FE T
  intro n
  induction n with
  | zero =>
    refine F.ok scDO (fun vs H Q E h => ?_) (fun cdv A outer s H vs Q E hr h => ?_)
    · obtain ⟨e, rfl, _⟩ := h
      rfl
    · obtain ⟨e, rfl, he, hn, k⟩ := h
      cases e with
      | stk p es =>
        have q : 1 + depthEs es ≤ 0 := hn
        omega
      | rule p z ds =>
        refine ⟨_, pss_cons (ps_if (pt_val (pe_callB call_isi (by rfl) T.isi (by decide +kernel) (pa_cons (pv 0) (pa_cons (pe_glob (v := .ref CS) (by rfl) T.g rfl) pa_nil)))) pss_false pss_nil) (pss_one (ps_ret pe_int)), ?_⟩
        obtain ⟨t, ht, hk⟩ := ent_cls T he
        refine ⟨_, rfl, refE (.rule p z ds), .ref CS, t, .ref CS, _, rfl, .own CS, ht, hk, _, rfl, ?_⟩
        refine iteF ?_
        exact k H (Same.refl H)
  | succ n ih =>
    refine F.ok scDO (fun vs H Q E h => ?_) (fun cdv A outer s H vs Q E hr h => ?_)
    · obtain ⟨e, rfl, _⟩ := h
      rfl
    · obtain ⟨e, rfl, he, hn, k⟩ := h
      refine ⟨_, pss_cons (ps_if (pt_val (pe_callB call_isi (by rfl) T.isi (by decide +kernel) (pa_cons (pv 0) (pa_cons (pe_glob (v := .ref CS) (by rfl) T.g rfl) pa_nil))))
          (pss_one (ps_ret (pe_op op_add pe_int (pe_callB (cr_max (by rfl)) (by rfl) mM PyProof.Rows.boot_max (pa_cons (pe_op op_cat (pe_lst (pa_cons pe_int pa_nil))
            (pe_lc (own := [("inner", 1)]) (g := gName 1) (by rfl) scDO.nd (pi_tup (pe_prop (pv 0) T.cl pE_ GE (hr.mono (by omega)) bE .nil pass0 rfl)) (blkOk_by (own := [("inner", 1)]) (N := nDepth) (sc := defScope sDepthOf) (by decide +kernel))
              (fun _ _ _ _ _ => pg_name (i := 1) scDO.nd rfl (Or.inl rfl)) (fun _ _ _ _ _ => pts_nil) (fun _ _ _ _ _ => pe_call ih hr (by rfl) gD F.kp bD .nil pass0 (pa_cons (pv 1) pa_nil)))) pa_nil))))) pss_nil)
        (pss_one (ps_ret pe_int)), ?_⟩
      obtain ⟨t, ht, hk⟩ := ent_cls T he
      refine ⟨_, rfl, refE e, .ref CS, t, .ref CS, _, rfl, .own CS, ht, hk, _, rfl, ?_⟩
      cases e with
      | rule p z ds =>
        refine iteF ?_
        exact k H (Same.refl H)
      | stk p es =>
        refine iteT ?_
        obtain ⟨⟨dx, e1, r, m, ms, h1, h2, h3, h4, h5, leg⟩, h6⟩ := id he
        refine ⟨by show 1 ≤ sizeLine; decide, fun l0 n0 => ?_⟩
        have S0 : Same H (upd H l0 (.lst [.int 0])) := same_upd n0 (Same.refl H)
        have e0 : upd H l0 (.lst [.int 0]) l0 = some (.lst [.int 0]) := upd_same
        generalize upd H l0 (.lst [.int 0]) = H1 at *
        have he1 := ent_same S0 _ he
        refine ⟨_, rfl, p, dx, _, rfl, S0 _ _ h1, p, es, rfl, he1, fun te hte => ?_⟩
        refine ⟨te, rfl, ⟨_, hte⟩, fun B nB => ?_⟩
        refine lc_it walk_tup (fun i H' => Same H1 H' ∧ H' B = some (.lst ((depths (es.take i)).map V.int))) ⟨same_upd nB (Same.refl H1), upd_same⟩ (fun i H' _ q => same_tup q.1 hte) ?_ ?_
        · rintro i x H2 H3 hi ⟨S2, hB⟩ ⟨rfl, hx⟩
          rw [List.length_map] at hi
          obtain ⟨ei, hei⟩ : ∃ ei, es[i]? = some ei := ⟨_, List.getElem?_eq_getElem hi⟩
          rw [List.getElem?_map, hei] at hx
          cases hx
          have hd : depthE ei ≤ n := by
            have q1 := depthEs_get hei
            have q2 : 1 + depthEs es ≤ n + 1 := hn
            omega
          refine ⟨rfl, _, rfl, ei, rfl, ent_same S2 _ (ents_get he1.2 hei), hd, fun H4 S4 => ?_⟩
          refine ⟨_, S4 _ _ hB, ?_, ?_, ?_⟩
          · have q := leg.few
            have hs2 := sizeLine_eq
            have q3 : (depths (es.take i)).length ≤ es.length := by
              unfold depths
              rw [List.length_map, List.length_take]
              exact Nat.min_le_right _ _
            rw [List.length_map]
            omega
          · exact same_upd nB (S2.trans S4)
          · rw [upd_same, List.take_add_one, hei]
            unfold depths
            rw [List.map_append, List.map_append]
            rfl
        · rintro H2 ⟨S2, hB⟩
          rw [List.length_map, List.take_length] at hB
          have q := leg.few
          have hs2 := sizeLine_eq
          refine ⟨l0, B, _, _, rfl, rfl, S2 _ _ e0, hB, by rw [List.length_map]; unfold depths; rw [List.length_map]; show 1 + es.length ≤ sizeLine; omega, fun l3 n3 => ?_⟩
          obtain ⟨mx1, mx2⟩ := depthEs_max es
          refine ⟨l3, (0 : Int) :: depths es, rfl, SqL.of upd_same, by simp, fun mm hm1 hm2 => ?_⟩
          have em : mm = ((depthEs es : Nat) : Int) := by
            have a1 := mx1 mm hm1
            have a2 := hm2 _ mx2
            omega
          refine ⟨1, mm, rfl, rfl, ?_⟩
          have ed : ((depthE (.stk p es) : Nat) : Int) = 1 + mm := by
            rw [em]
            show ((1 + depthEs es : Nat) : Int) = _
            omega
          have z := k _ (same_upd (o := .lst ([V.int 0] ++ (depths es).map V.int)) (S0.free (S2.free n3)) (S0.trans S2))
          rw [ed] at z
          exact z
end
end LS
/-! xs.extend(a tuple) -/
namespace PySem
open AutoSeq1
theorem extend_tuple (l b : Addr) (items items2 : Array Value) (n n2 : Nat) (dct : Option Addr) (sl : Array (Option Value)) (few : ¬ (!items.isEmpty && Builtin.List.listTooLong (items.size + items2.size)) = true) (z1 : items.size ≤ sizeLine) (z2 : items.size + items2.size ≤ sizeLine + 1) :
    Meets (Builtin.«list.extend» ⟨[.ref l, .ref b], []⟩) (fun _ R s => s.heap.get? l = some { cls := .type "list", dict := none, data := .seq items n, slots := #[] } ∧ s.heap.get? b = some { cls := .type "tuple", dict := dct, data := .seq items2 n2, slots := sl } ∧
      R (.ok (.ret Value.none)) { s with heap := s.heap.update l (Obj.mapSeq fun x => x ++ items2), toks := s.toks }) :=
  .of_wp fun prog w A R s h => by
    rcases s with ⟨hp, g, d, tk, os⟩
    rcases h with ⟨hl, hb, h⟩
    have f1 := idx_int
    have f2 := sub_tuple_tuple
    have f3 := sub_list_list
    have f4 := sub_tuple_list
    have f5 := sub_list_tuple
    have z3 : (items ++ items2).size ≤ sizeLine + 1 := by
      rw [Array.size_append]
      exact z2
    wp_walk using (wpAny_updateSeq hl rfl (hz := z1) (_hz' := z3)), wpAny_loadPart' hl, wpAny_loadPart' hb
    exact ⟨_, rfl, h⟩
end PySem
namespace L2
open PySem PySem.Spec PyProof.Rows
section
variable {X : Cx}
def rExtendT (K : PySem.W.Frag) : V → List V → Hp → VK → Prop := fun x vs H Q => ∃ (l b : Addr) (xs zs : List V), x = .ref l ∧ vs = [.ref b] ∧ H l = some (.lst xs) ∧ SqT K H b zs ∧ xs.length + zs.length ≤ sizeLine ∧ Q .non (upd H l (.lst (xs ++ zs)))
theorem mt_extendT : MtM X "list.extend" (rExtendT X.K) := by
  intro pins s σ H x vs v us Q I rx rv h
  obtain ⟨l, b, xs, zs, rfl, rfl, hH, hB, hz, q⟩ := h
  cases rx
  obtain ⟨u, rfl, ru⟩ := rv.one
  cases ru
  obtain ⟨z, its, n, r, hl, e⟩ := I.lstM hH
  obtain ⟨its2, r2, ⟨⟨oc, od, dt, sl⟩, e2, c2, n2, d2⟩, _⟩ := I.tuple hB
  cases (show oc = Value.type "tuple" from c2)
  cases (show dt = Data.seq its2.toArray n2 from d2)
  have l1 : its.length = xs.length := r.length.symm
  have l2 : its2.length = zs.length := r2.length.symm
  have sum : its.toArray.size + its2.toArray.size ≤ sizeLine := by
    rw [List.size_toArray, List.size_toArray, l1, l2]
    exact hz
  have few : ¬ (!its.toArray.isEmpty && Builtin.List.listTooLong (its.toArray.size + its2.toArray.size)) = true := by
    rw [notLongL sum, Bool.and_false]
    exact Bool.false_ne_true
  refine call_meets F.slot_list_extend ⟨_, e, rfl⟩ F.entry_list_extend (F.args_list_extend_2 _ _) (extend_tuple l b its.toArray its2.toArray n n2 od sl few (by rw [List.size_toArray, l1]; omega) (by omega)) ⟨e, e2, ?_⟩
  exact ⟨.non, _, I.lset (its' := its ++ its2) hH e (by simp) (r.append r2) (by rw [List.length_append]; exact hz), rfl, q⟩
end
end L2
namespace LS
open PySem L2 TxS
abbrev sMisfit : Stmt := top i_first_misfit
abbrev nMisfit : List Str := ["entries", "rules", "index", "entry", "rule"]
/-- the modules' names, each once, as they come -/
def distinct (rs : List RuleI) : List Str := (rs.map fun r => r.2.1).foldl addT []
/-- the i-th entry cannot stand there -/
def badAt (es : List Ent) (i : Nat) (e : Ent) : Bool := decide (12 ≤ i) || decide (3 ≤ depthE e) || (decide (12 < (rulesEs (es.take (i + 1))).length) || decide (6 < (distinct (rulesEs (es.take (i + 1)))).length))
def badI (es : List Ent) (i : Nat) : Bool := match es[i]? with
  | some e => badAt es i e
  | none => false
def misfit (es : List Ent) : Option Nat := (List.range es.length).find? (badI es)
def optV : Option Nat → V
  | none => .non
  | some i => .int (i : Nat)
def spMisfit (K : PySem.W.Frag) (CR CS : Addr) : Sp := fun vs H Q _ => ∃ (t : Addr) (es : List Ent), vs = [.ref t] ∧ SqT K H t (es.map refE) ∧ EntsAt K CR CS H es ∧ ∀ H', Same H H' → Q (optV (misfit es)) H'
structure MisK (mg : Str → Option Value) : Prop where
  mE : ∃ t, mg "MOST_ENTRIES" = some (.int 12 t)
  mR : ∃ t, mg "MOST_RULES" = some (.int 12 t)
  mM : ∃ t, mg "MOST_MODULES" = some (.int 6 t)
  mD : ∃ t, mg "MOST_DEPTH" = some (.int 3 t)
  en : mg "enumerate" = none
  len : mg "len" = none
  max : mg "max" = none
theorem rulesEs_append : ∀ (a b : List Ent), rulesEs (a ++ b) = rulesEs a ++ rulesEs b
  | [], _ => rfl
  | e :: a, b => by
    show rulesE e ++ rulesEs (a ++ b) = (rulesE e ++ rulesEs a) ++ rulesEs b
    rw [rulesEs_append a b, List.append_assoc]
theorem rulesEs_step {es : List Ent} {i : Nat} {e : Ent} (h : es[i]? = some e) : rulesEs (es.take (i + 1)) = rulesEs (es.take i) ++ rulesE e := by
  rw [List.take_add_one, h, rulesEs_append]
  show _ = _
  refine congrArg _ ?_
  show rulesE e ++ [] = _
  rw [List.append_nil]
theorem distinct_snoc (rs : List RuleI) (r : RuleI) : distinct (rs ++ [r]) = addT (distinct rs) r.2.1 := by
  unfold distinct
  rw [List.map_append, List.foldl_append]
  rfl
theorem addT_len (l : List Str) (x : Str) : (addT l x).length ≤ l.length + 1 := by
  unfold addT
  split
  · omega
  · rw [List.length_append]
    exact Nat.le_refl _
theorem distinct_len : ∀ n (rs : List RuleI), rs.length = n → (distinct rs).length ≤ n
  | 0, rs, h => by
    have e : rs = [] := List.length_eq_zero_iff.mp h
    rw [e]
    exact Nat.le_refl _
  | n + 1, rs, h => by
    have hne : rs ≠ [] := fun z => by rw [z] at h; cases h
    have e := (List.dropLast_concat_getLast hne).symm
    rw [e, distinct_snoc]
    have q := distinct_len n rs.dropLast (by rw [List.length_dropLast, h]; rfl)
    have q2 := addT_len (distinct rs.dropLast) (rs.getLast hne).2.1
    omega
/-- the depth and the rules of an entry that stands -/
theorem ent_bounds {K : PySem.W.Frag} {CR CS : Addr} {H : Hp} {e : Ent} (h : EntAt K CR CS H e) : depthE e ≤ 3 ∧ (rulesE e).length ≤ 12 := by
  cases e with
  | rule p z ds => exact ⟨Nat.zero_le _, by show 1 ≤ 12; decide⟩
  | stk p es =>
    obtain ⟨⟨dx, e1, r, m, ms, h1, h2, h3, h4, h5, leg⟩, h6⟩ := h
    exact ⟨by have q := leg.deep; show 1 + depthEs es ≤ 3; omega, leg.rules⟩
mutual
/-- each rule of an entry stands -/
theorem rules_at {K : PySem.W.Frag} {CR CS : Addr} {H : Hp} : ∀ (e : Ent), EntAt K CR CS H e → ∀ r ∈ rulesE e, RuleAt K CR H r.1 r.2.1 r.2.2
  | .rule p z ds, h, r, hr => by
    have e : r = (p, z, ds) := List.mem_singleton.mp hr
    rw [e]
    exact h.1
  | .stk _ es, h, r, hr => rules_ats es h.2 r hr
theorem rules_ats {K : PySem.W.Frag} {CR CS : Addr} {H : Hp} : ∀ (es : List Ent), EntsAt K CR CS H es → ∀ r ∈ rulesEs es, RuleAt K CR H r.1 r.2.1 r.2.2
  | [], _, r, hr => nomatch hr
  | e :: es, h, r, hr => by
    rcases List.mem_append.mp hr with z | z
    · exact rules_at e h.1 r z
    · exact rules_ats es h.2 r z
end
def spMod (K : PySem.W.Frag) (C : Addr) : Sp := fun vs H Q _ => ∃ (p : Addr) (z : Str) (ds : List PyData), vs = [.ref p] ∧ RuleAt K C H p z ds ∧ Q (.str z) H
abbrev sRMod : Stmt := inClass (top i_Rule) 1
theorem scRMod : FnScope ["self"] ["self"] (defScope sRMod) := ⟨rfl, rfl, rfl, by decide +kernel, rfl, by decide +kernel, by decide +kernel⟩
theorem ok_mod {P : Program} {w : World} {K : PySem.W.Frag} {mg : Str → Option Value} {base : Heap} {f C : Addr} {fd : FuncData} (F : Fun K "module" "Rule.module" sRMod f fd) (R : RuleK K mg C) : FnOk P w K mg base CX0 1 f fd ["self"] (spMod K C) := by
  refine F.ok scRMod (fun vs H Q E h => ?_) (fun cdv A outer s H vs Q E hr h => ?_)
  · obtain ⟨p, z, ds, rfl, _⟩ := h
    rfl
  · obtain ⟨p, z, ds, rfl, ⟨dx, a, hp, hd⟩, k⟩ := h
    exact ⟨_, pss_one (ps_ret (pe_fld (pv 0) rfl)), _, rfl, p, C, dx, _, _, rfl, hp, R.cl, R.nM, rule_m, k⟩
end LS
set_option maxHeartbeats 8000000
namespace LS
open PySem L2 TxS
section
variable {P : Program} {w : World} {K : PySem.W.Frag} {mg : Str → Option Value} {base : Heap} {CR CS : Addr}
theorem scMF : FnScope nMisfit ["entries"] (defScope sMisfit) := ⟨rfl, rfl, rfl, by decide +kernel, rfl, by decide +kernel, by decide +kernel⟩
theorem bad_some {es : List Ent} {i : Nat} {e : Ent} (h : es[i]? = some e) : badI es i = badAt es i e := by
  unfold badI
  rw [h]
theorem find_snoc {es : List Ent} {i : Nat} {e : Ent} (h : es[i]? = some e) (hn : (List.range i).find? (badI es) = none) :
    (badAt es i e = true → misfit es = some i) ∧ (badAt es i e = false → (List.range (i + 1)).find? (badI es) = none) := by
  have one : (List.range (i + 1)).find? (badI es) = if badAt es i e = true then some i else none := by
    rw [List.range_succ, List.find?_append, hn, Option.none_or, List.find?_cons, bad_some h]
    cases badAt es i e <;> rfl
  refine ⟨fun hb => ?_, fun hb => ?_⟩
  · have hi := (List.getElem?_eq_some_iff.mp h).1
    unfold misfit
    have e1 : List.range es.length = List.range (i + 1) ++ (List.range (es.length - (i + 1))).map (i + 1 + ·) := by
      rw [← List.range_add]
      congr 1
      omega
    rw [e1, List.find?_append, one, if_pos hb]
    rfl
  · rw [one, hb]
    exact if_neg Bool.false_ne_true
theorem any_rule {H : Hp} {e : Ent} (T : StackK K mg CR CS) (sr : PySem.W.kitOne K (.ref CS) (.ref CR) = some false) (h : EntAt K CR CS H e) : ∃ t, TyX K H (refE e) t ∧ PySem.W.kitAny K t [.ref CR, .ref CS] = some true := by
  cases e with
  | rule p z ds =>
    obtain ⟨⟨dx, a, hp, _⟩, _⟩ := h
    refine ⟨.ref CR, .base (.ins hp T.R.cl T.NR.ha T.NR.hn T.NR.ht T.NR.hm), ?_⟩
    unfold PySem.W.kitAny
    rw [kit_self]
  | stk p es =>
    obtain ⟨⟨dx, e, r, m, ms, h1, _⟩, _⟩ := h
    refine ⟨.ref CS, .base (.ins h1 T.cl T.N.ha T.N.hn T.N.ht T.N.hm), ?_⟩
    unfold PySem.W.kitAny
    rw [sr]
    unfold PySem.W.kitAny
    rw [kit_self]
theorem ok_misfit {f fD fO fE pE fM pM fR pR : Addr} {fd fdD fdO fdE fdM fdR : FuncData} (F : Fun K "first_misfit" "first_misfit" sMisfit f fd) (T : StackK K mg CR CS) (M : MisK mg) (gR : mg "Rule" = some (.ref CR)) (sr : PySem.W.kitOne K (.ref CS) (.ref CR) = some false)
    (FD : Fun K "depth_of" "depth_of" sDepthOf fD fdD) (gD : mg "depth_of" = some (.ref fD)) (bD : Binds K fdD ["entry"] []) (FE : Fun K "entries" "Stack.entries" sSEntries fE fdE) (bE : Binds K fdE ["self"] []) (pE_ : PropOf K CS "entries" pE fE)
    (FO : Fun K "rules_of" "rules_of" sRulesOf fO fdO) (gO : mg "rules_of" = some (.ref fO)) (bO : Binds K fdO ["entry"] []) (FR : Fun K "rules" "Stack.rules" sSRules fR fdR) (bR : Binds K fdR ["self"] []) (pR_ : PropOf K CS "rules" pR fR)
    (FM : Fun K "module" "Rule.module" sRMod fM fdM) (bM : Binds K fdM ["self"] []) (pM_ : PropOf K CR "module" pM fM) : FnOk P w K mg base CX0 7 f fd ["entries"] (spMisfit K CR CS) := by
  have GD : FnOk P w K mg base CX0 6 fD fdD ["entry"] (spDepth K CR CS 3) := ok_depth FD gD bD T FE bE pE_ M.max 3
  have GO : FnOk P w K mg base CX0 3 fO fdO ["entry"] (spRulesOf K CR CS) := ok_rulesof FO T FR bR pR_
  have GM : FnOk P w K mg base CX0 1 fM fdM ["self"] (spMod K CR) := ok_mod FM T.R
  obtain ⟨tE, mE⟩ := M.mE
  obtain ⟨tR, mR⟩ := M.mR
  obtain ⟨tM, mM⟩ := M.mM
  obtain ⟨tD, mD⟩ := M.mD
  refine F.ok scMF (fun vs H Q E h => ?_) (fun cdv A outer s H vs Q E hr h => ?_)
  · obtain ⟨t, es, rfl, _⟩ := h
    rfl
  · obtain ⟨t, es, rfl, ht, hes, k⟩ := h
    refine ⟨_, pss_cons (ps_set (i := 1) scMF.nd rfl (.inl rfl) (pe_lst pa_nil))
      (pss_cons (ps_for PassesOwn.never rfl (pi_enumT (by rfl) M.en (pa_cons (pv 0) pa_nil)) (pg_tup (by rfl) (pgs_cons (pg_name (i := 2) scMF.nd rfl (.inl rfl)) (pgs_cons (pg_name (i := 3) scMF.nd rfl (.inl rfl)) pgs_nil)))
        (pss_cons (ps_if (PW.pt (pw_or (pt_cmpR op_ge (pv 2) (pe_glob (v := .int 12) (by rfl) mE ⟨tE, rfl⟩) (nomark _)) (pw_or (pt_not (pt_val (pe_callB call_isiT (by rfl) T.isi (by decide +kernel) (pa_cons (pv 3) (pa_cons (pe_tup (pa_cons (pe_glob (v := .ref CR) (by rfl) gR rfl) (pa_cons (pe_glob (v := .ref CS) (by rfl) T.g rfl) pa_nil))) pa_nil)))))
              (pw_or1 (pt_cmpR op_ge (pe_call GD hr (by rfl) gD FD.kp bD .nil pass0 (pa_cons (pv 3) pa_nil)) (pe_glob (v := .int 3) (by rfl) mD ⟨tD, rfl⟩) (nomark _)))))) (pss_one (ps_ret (pv 2))) pss_nil)
        (pss_cons (ps_expr (pe_bm PySem.F.plainAttrs_list PySem.F.slot_list_extend PySem.F.type_list_extend mt_extendT (pv 1) (pa_cons (pe_call GO (hr.mono (by decide)) (by rfl) gO FO.kp bO .nil pass0 (pa_cons (pv 3) pa_nil)) pa_nil)))
        (pss_one (ps_if (PW.pt (pw_or (pt_cmpR op_gt (pe_callB call_len (by rfl) M.len PySem.boot_len (pa_cons (pv 1) pa_nil)) (pe_glob (v := .int 12) (by rfl) mR ⟨tR, rfl⟩) (nomark _))
            (pw_or1 (pt_cmpR op_gt (pe_callB cr_lenTx (by rfl) M.len PySem.boot_len (pa_cons (pe_scT (own := [("rule", 4)]) (g := gName 4) (by rfl) scMF.nd (pi_list (pv 1)) (blkOk_by (own := [("rule", 4)]) (N := nMisfit) (sc := defScope sMisfit) (by decide +kernel))
              (fun _ _ _ _ _ => pg_name (i := 4) scMF.nd rfl (Or.inl rfl)) (fun _ _ _ _ _ => pts_nil) (fun _ _ _ _ _ => pe_prop (pv 4) T.R.cl pM_ GM (hr.mono (by decide)) bM .nil pass0 rfl)) pa_nil)) (pe_glob (v := .int 6) (by rfl) mM ⟨tM, rfl⟩) (nomark _))))) (pss_one (ps_ret (pv 2))) pss_nil)))))
      (pss_one (ps_ret pe_non))), ?_⟩
    refine ⟨Nat.zero_le _, fun l nl => ?_⟩
    have S0 : Same H (upd H l (.lst [])) := same_upd nl (Same.refl H)
    have e0 : upd H l (.lst []) l = some (.lst []) := upd_same
    generalize upd H l (.lst []) = H0 at *
    refine ⟨.ref t, rfl, t, _, rfl, same_tup S0 ht, ?_⟩
    refine for_it walk_enumT (fun i σ H' => Same H H' ∧ H' l = some (.lst ((rulesEs (es.take i)).map refR)) ∧ (∃ a b c, σ = [some (.ref t), some (.ref l), a, b, c]) ∧ (List.range i).find? (badI es) = none ∧ (rulesEs (es.take i)).length ≤ 12)
      ⟨S0, e0, ⟨none, none, none, rfl⟩, rfl, Nat.zero_le _⟩ (fun i σ H' _ q => same_tup q.1 ht) ?_ ?_
    · rintro i x σ H1 H2 hi ⟨S1, hl, ⟨a, b, c, rfl⟩, hnone, hfew⟩ ⟨T1, x1, y1, rfl, nT, rfl, ex1, ey1⟩
      cases ex1
      rw [List.length_map] at hi
      obtain ⟨e, he⟩ : ∃ e, es[i]? = some e := ⟨_, List.getElem?_eq_getElem hi⟩
      have ey2 : (es.map refE)[i]? = some y1 := ey1
      rw [List.getElem?_map, he] at ey2
      cases ey2
      have S2 : Same H1 (upd H1 T1 (.tup [.int (i : Nat), refE e])) := same_upd nT (Same.refl H1)
      have hT1 : upd H1 T1 (.tup [.int (i : Nat), refE e]) T1 = some (.tup [.int (i : Nat), refE e]) := upd_same
      generalize upd H1 T1 (.tup [.int (i : Nat), refE e]) = H2 at *
      have S12 := S1.trans S2
      have hen := ents_get (ents_same S12 es hes) he
      obtain ⟨bd, br⟩ := ent_bounds hen
      have st := rulesEs_step he
      obtain ⟨f1, f2⟩ := find_snoc he hnone
      refine ⟨T1, _, rfl, SqT.of hT1, rfl, ?_⟩
      refine ⟨_, _, rfl, _, _, rfl, rfl, ?_⟩
      refine ⟨_, rfl, _, _, rfl, rfl, _, rfl, ?_⟩
      have ret : ∀ G, Same H G → badAt es i e = true → Q (.int (i : Nat)) G := fun G SG hb => by
        have q := k G SG
        rw [f1 hb] at q
        exact q
      refine ite2 (fun h1 => ?_) (fun h1 => ?_)
      · refine ⟨_, rfl, ret _ S12 ?_⟩
        have q : (12 : Int) ≤ ((i : Nat) : Int) := of_decide_eq_true h1
        unfold badAt
        rw [decide_eq_true (show 12 ≤ i by omega)]
        rfl
      have n1 : decide (12 ≤ i) = false := decide_eq_false fun q => h1 (decide_eq_true (by omega))
      refine ⟨_, rfl, by show 2 ≤ sizeLine; decide, fun T2 nT2 => ?_⟩
      have S3 : Same H2 (upd H2 T2 (.tup [.ref CR, .ref CS])) := same_upd nT2 (Same.refl H2)
      have hT2 : upd H2 T2 (.tup [.ref CR, .ref CS]) T2 = some (.tup [.ref CR, .ref CS]) := upd_same
      generalize upd H2 T2 (.tup [.ref CR, .ref CS]) = H3 at *
      have S13 := S12.trans S3
      obtain ⟨tc, htc, hk⟩ := any_rule T sr (ent_same S3 _ hen)
      refine ⟨refE e, T2, _, tc, [.ref CR, .ref CS], true, rfl, hT2, .cons (.own CR) (.cons (.own CS) .nil), htc, hk, _, rfl, ?_⟩
      refine iteF ?_
      refine ⟨_, rfl, e, rfl, ent_same S3 _ hen, bd, fun H4 S4 => ?_⟩
      have S14 := S13.trans S4
      have h3 := ent_same S4 _ (ent_same S3 _ hen)
      refine ⟨_, _, rfl, rfl, _, rfl, ?_⟩
      refine ite2 (fun h2 => ?_) (fun h2 => ?_)
      · refine ⟨_, rfl, ret _ S14 ?_⟩
        have q : (3 : Int) ≤ ((depthE e : Nat) : Int) := of_decide_eq_true h2
        unfold badAt
        rw [n1, decide_eq_true (show 3 ≤ depthE e by omega)]
        rfl
      have n2 : decide (3 ≤ depthE e) = false := decide_eq_false fun q => h2 (decide_eq_true (by omega))
      have hl4 : H4 l = some (.lst ((rulesEs (es.take i)).map refR)) := S4 _ _ (S3 _ _ (S2 _ _ hl))
      refine ⟨_, rfl, .inl ⟨rfl, _, SqL.of hl4⟩, _, rfl, e, rfl, h3, fun q H5 S5 hq => ?_⟩
      have S15 := S14.trans S5
      have hs2 := sizeLine_eq
      refine ⟨l, q, _, _, rfl, rfl, S5 _ _ hl4, hq, by rw [List.length_map, List.length_map]; omega, ?_⟩
      rw [← List.map_append, ← st]
      have nl5 : H l = none := nl
      have S6 : Same H (upd H5 l (.lst ((rulesEs (es.take (i + 1))).map refR))) := same_upd nl5 S15
      have hl6 : upd H5 l (.lst ((rulesEs (es.take (i + 1))).map refR)) l = some (.lst ((rulesEs (es.take (i + 1))).map refR)) := upd_same
      generalize upd H5 l (.lst ((rulesEs (es.take (i + 1))).map refR)) = H6 at *
      have many : (rulesEs (es.take (i + 1))).length ≤ 24 := by
        rw [st, List.length_append]
        omega
      refine ⟨_, rfl, _, _, rfl, .inl ⟨_, SqL.of hl6, rfl⟩, _, _, rfl, rfl, _, rfl, ?_⟩
      refine ite2 (fun h4 => ?_) (fun h4 => ?_)
      · refine ⟨_, rfl, ret _ S6 ?_⟩
        have q : (12 : Int) < (((rulesEs (es.take (i + 1))).map refR).length : Int) := of_decide_eq_true h4
        rw [List.length_map] at q
        unfold badAt
        rw [n1, n2, decide_eq_true (show 12 < (rulesEs (es.take (i + 1))).length by omega)]
        rfl
      have n3 : decide (12 < (rulesEs (es.take (i + 1))).length) = false := decide_eq_false fun q => h4 (decide_eq_true (by rw [List.length_map]; omega))
      refine ⟨_, rfl, l, rfl, ⟨_, SqL.of hl6⟩, fun D nD => ?_⟩
      refine sc_it walk_list (fun j G => Same H6 G ∧ G D = some (TxO w D (distinct ((rulesEs (es.take (i + 1))).take j)))) ⟨same_upd nD (Same.refl H6), upd_same⟩ (fun j G _ z => z.1.seq (SqL.of hl6)) ?_ ?_
      · rintro j x G1 G2 hj ⟨SG, hD⟩ ⟨rfl, hx⟩
        rw [List.length_map] at hj
        obtain ⟨r, hr⟩ : ∃ r, (rulesEs (es.take (i + 1)))[j]? = some r := ⟨_, List.getElem?_eq_getElem hj⟩
        rw [List.getElem?_map, hr] at hx
        cases hx
        have hmem : r ∈ rulesEs es := by
          have q1 := List.mem_of_getElem? hr
          rw [← List.take_append_drop (i + 1) es, rulesEs_append]
          exact List.mem_append_left _ q1
        have ra := (rules_ats es (ents_same (S6.trans SG) es hes) r hmem)
        obtain ⟨dx, ad, hp, hd⟩ := id ra
        refine ⟨rfl, ?_⟩
        refine ⟨_, rfl, r.1, dx, _, rfl, hp, r.1, r.2.1, r.2.2, rfl, ra, r.2.1, _, rfl, hD, ?_, same_upd nD SG, ?_⟩
        · have q1 := distinct_len _ ((rulesEs (es.take (i + 1))).take j) rfl
          rw [List.length_take] at q1
          have q2 : scanBound = 4096 := rfl
          omega
        · have e9 : (rulesEs (es.take (i + 1))).take (j + 1) = (rulesEs (es.take (i + 1))).take j ++ [r] := by
            generalize rulesEs (es.take (i + 1)) = rs at hr
            rw [List.take_add_one, hr]
            rfl
          rw [upd_same, e9, distinct_snoc]
          rfl
      · rintro G1 ⟨SG, hD⟩
        rw [List.length_map, List.take_length] at hD
        refine ⟨D, _, rfl, hD, _, _, rfl, rfl, _, rfl, ?_⟩
        refine ite2 (fun h5 => ?_) (fun h5 => ?_)
        · refine ⟨_, rfl, ret _ (S6.trans SG) ?_⟩
          have q : (6 : Int) < ((distinct (rulesEs (es.take (i + 1)))).length : Int) := of_decide_eq_true h5
          unfold badAt
          rw [n1, n2, n3, decide_eq_true (show 6 < (distinct (rulesEs (es.take (i + 1)))).length by omega)]
          rfl
        · have n4 : decide (6 < (distinct (rulesEs (es.take (i + 1)))).length) = false := decide_eq_false fun q => h5 (decide_eq_true (by omega))
          refine ⟨S6.trans SG, SG _ _ hl6, ⟨_, _, _, rfl⟩, f2 ?_, Nat.le_of_not_lt (of_decide_eq_false n3)⟩
          unfold badAt
          rw [n1, n2, n3, n4]
          rfl
    · rintro σ H1 ⟨S1, hl, ⟨a, b, c, rfl⟩, hnone, hfew⟩
      have q := k H1 S1
      rw [List.length_map] at hnone
      have e : misfit es = none := hnone
      rw [e] at q
      exact q
end
end LS
namespace LS
open PySem L2 TxS
theorem cx_new {P : Program} {w : World} : CXNew (L2.CX P w) := fun outer s H h2 p rest E e s' kp hp hn z => StX.cxUp outer s H { s with heap := h2 } (upd H p (.tup rest)) E e s' (Un.laid kp hp hn) kp rfl z
/-! an own error with a number -/
def spXInitN (K : PySem.W.Frag) (f : Str) : Sp := fun vs H Q _ => ∃ (a C : Addr) (i : Nat), vs = [.ref a, .int (i : Nat)] ∧ i < 64 ∧
  OexC K C ∧ PySem.W.findIn K (.ref C) f = some none ∧ H a = some (exo a C none) ∧
  ∀ dx, H dx = none → dx ≠ a → Q .non (upd (upd H dx (exd dx [(f, .int (i : Nat))])) a (exo a C (some dx)))
abbrev sISInit : Stmt := inClass (top i_InvalidStack) 0
abbrev tIS : Str := "a stack cannot have the entry "
theorem small_text : ∀ i : Fin 64, ((i.val : Nat) : Int).natAbs.log2 < 1920 ∧ (Str.empty ++ tIS ++ (toString ((i.val : Nat) : Int) : Str)).length ≤ 1000 := by decide +kernel
theorem misfit_le {es : List Ent} {i : Nat} (h : misfit es = some i) : i ≤ 12 := by
  unfold misfit at h
  have hm := List.mem_of_find?_eq_some h
  rw [List.mem_range] at hm
  refine Nat.le_of_not_lt fun q => ?_
  have h12 : 12 < es.length := Nat.lt_trans q hm
  have b12 : badI es 12 = true := by
    rw [bad_some (List.getElem?_eq_getElem h12)]
    rfl
  obtain ⟨_, as, bs, e1, e2⟩ := List.find?_eq_some_iff_append.mp h
  have mem : 12 ∈ as := by
    have r1 : (List.range es.length)[12]? = some 12 := by rw [List.getElem?_range h12]
    have la : as.length = i := by
      have r2 : (List.range es.length)[as.length]? = some i := by rw [e1]; simp
      have r3 := (List.getElem?_eq_some_iff.mp r2)
      obtain ⟨q1, q2⟩ := r3
      rw [List.getElem_range] at q2
      exact q2
    rw [e1, List.getElem?_append_left (by omega)] at r1
    exact List.mem_of_getElem? r1
  have z := e2 12 mem
  rw [b12] at z
  cases z
section
variable {P : Program} {w : World} {K : PySem.W.Frag} {mg : Str → Option Value} {base : Heap}
theorem scIS : FnScope ["self", "index"] ["self", "index"] (defScope sISInit) := ⟨rfl, rfl, rfl, by decide +kernel, rfl, by decide +kernel, by decide +kernel⟩
theorem ok_isinit {f C0 : Addr} {fd : FuncData} (F : Fun K "__init__" "InvalidStack.__init__" sISInit f fd) (B : BaseX K mg C0) : FnOk P w K mg base CX0 1 f fd ["self", "index"] (spXInitN K "index") := by
  obtain ⟨mc, rd, vV⟩ := B.rd
  refine F.ok scIS (fun vs H Q E h => ?_) (fun cdv A outer s H vs Q E hr h => ?_)
  · obtain ⟨a, C, v, rfl, _⟩ := h
    rfl
  · obtain ⟨a, C, i, rfl, hi, T, hno, ha, k⟩ := h
    obtain ⟨b1, b2⟩ := small_text ⟨i, hi⟩
    refine ⟨_, pss_cons (ps_expr (pe_seinit (by rfl) B.g rd vV (pa_cons (pv 0) (pa_cons (pe_joined (PJ.cons pe_str (PJ.cons (pe_fmt (pv 1)) PJ.nil))) pa_nil)))) (pss_one (ps_ost (pv 0) (pv 1))), ?_⟩
    have hs2 := sizeLine_eq
    refine ⟨_, rfl, _, rfl, by decide, _, rfl, .inr ⟨((i : Nat) : Int), rfl, b1, _, rfl, by exact Nat.le_trans b2 (by omega), a, C, _, rfl, by show 1 ≤ 1000; decide, T, ha, ?_⟩⟩
    exact ⟨_, rfl, _, rfl, a, C, rfl, T, hno, .inl ⟨ha, k⟩⟩
theorem mkXN_run {C : Addr} {f : Str} {i : Nat} {H : Hp} {Q : XK} (hi : i < 64) (T : OexC K C) (hno : PySem.W.findIn K (.ref C) f = some none)
    (k : ∀ d, H d = none → Q (.ref C) (some d) (upd H d (.xd [(f, .int (i : Nat))]))) {σ : St} {ta : TA} (h : ∀ G : List V → Hp → Prop, G [.int (i : Nat)] H → ta σ H G) : tMkO C (spXInitN K f) [] ta σ H Q := by
  refine h _ ⟨by show 1 ≤ 1000; decide, fun a ha => ⟨a, C, i, rfl, hi, T, hno, upd_same, fun dx hdx hne => ⟨rfl, dx, [(f, .int (i : Nat))], upd_same, ?_, ?_, ?_⟩⟩⟩
  · rw [upd_ne hne, upd_same]
  · rw [upd_ne hne] at hdx
    exact hdx
  · have e := raise_heap (fs := [(f, V.int (i : Nat))]) (C := C) ha hdx
    rw [e]
    rw [upd_ne hne] at hdx
    exact k dx hdx
end
/-! comprehensions of two clauses -/
theorem in_it {J : It} {n : Nat} {G : Hp → Prop} {Y : Nat → Hp → V → Hp → Prop} (w : Walk J n G Y) {g : TG} {te : TE} {vs : List Nat} {σ : St} {H1 : Hp} {D : Addr} {Nx : Hp → Prop} (Pv : Nat → Hp → Prop) (h0 : Pv 0 H1) (hG : ∀ i H, i ≤ n → Pv i H → G H)
    (hs : ∀ i x H H', i < n → Pv i H → Y i H x H' → g x (wipe σ vs) H' fun σ2 H2 => wipe σ2 vs = wipe σ vs ∧ te σ2 H2 fun y H4 => ∃ acc, H4 D = some (.lst acc) ∧ acc.length < sizeLine ∧ Pv (i + 1) (upd H4 D (.lst (acc ++ [y])))) (hd : ∀ H, Pv n H → Nx H) :
    ∃ W : Nat → Nat → Hp → Prop, (∃ m, W 0 m H1) ∧ ∀ i m H, W i m H → (J.stop i H ∧ Nx H) ∨ (J.go i H ∧ ∃ N1 : Hp → Prop, (∀ H', N1 H' → ∃ m', m' < m ∧ W (i + 1) m' H') ∧ ∀ x H', J.yld i H x H' → g x (wipe σ vs) H' fun σ2 H2 => wipe σ2 vs = wipe σ vs ∧
      tYes σ2 H2 fun b H3 => if b = true then te σ2 H3 fun y H4 => ∃ acc, H4 D = some (.lst acc) ∧ acc.length < sizeLine ∧ N1 (upd H4 D (.lst (acc ++ [y]))) else N1 H3) := by
  refine ⟨fun i m H => m = n - i ∧ i ≤ n ∧ Pv i H, ⟨n, (Nat.sub_zero n).symm, Nat.zero_le n, h0⟩, fun i m H ⟨em, hi, p⟩ => ?_⟩
  have stands := hG i H hi p
  rcases Nat.lt_or_ge i n with lt | ge
  · exact .inr ⟨w.goes i H lt stands, Pv (i + 1), fun H' p' => ⟨n - (i + 1), by omega, rfl, lt, p'⟩, fun x H' y => hs i x H H' lt p (w.yields i H x H' lt stands y)⟩
  · obtain rfl : i = n := Nat.le_antisymm hi ge
    exact .inl ⟨w.stops H stands, hd H p⟩
end LS
namespace LS
open PySem L2 TxS
theorem out_it {J : It} {n : Nat} {G : Hp → Prop} {Y : Nat → Hp → V → Hp → Prop} (w : Walk J n G Y) {g : TG} {vs : List Nat} {σ : St} {H1 : Hp} {D : Addr} {Qd : Hp → Prop} {Body : St → Hp → (Hp → Prop) → Prop} (Pv : Nat → Hp → Prop) (h0 : Pv 0 (upd H1 D (.lst []))) (hG : ∀ i H, i ≤ n → Pv i H → G H)
    (hs : ∀ i x H H', i < n → Pv i H → Y i H x H' → g x (wipe σ vs) H' fun σ2 H2 => wipe σ2 vs = wipe σ vs ∧ Body σ2 H2 (Pv (i + 1))) (hd : ∀ H, Pv n H → Qd H) :
    ∃ W : Nat → Nat → Hp → Prop, (∃ m, W 0 m (upd H1 D (.lst []))) ∧ ∀ i m H, W i m H → (J.stop i H ∧ Qd H) ∨ (J.go i H ∧ ∃ Nx : Hp → Prop, (∀ H', Nx H' → ∃ m', m' < m ∧ W (i + 1) m' H') ∧ ∀ x H', J.yld i H x H' → g x (wipe σ vs) H' fun σ2 H2 => wipe σ2 vs = wipe σ vs ∧
      tYes σ2 H2 fun b H3 => if b = true then Body σ2 H3 Nx else Nx H3) := by
  refine ⟨fun i m H => m = n - i ∧ i ≤ n ∧ Pv i H, ⟨n, (Nat.sub_zero n).symm, Nat.zero_le n, h0⟩, fun i m H ⟨em, hi, p⟩ => ?_⟩
  have stands := hG i H hi p
  rcases Nat.lt_or_ge i n with lt | ge
  · exact .inr ⟨w.goes i H lt stands, Pv (i + 1), fun H' p' => ⟨n - (i + 1), by omega, rfl, lt, p'⟩, fun x H' y => hs i x H H' lt p (w.yields i H x H' lt stands y)⟩
  · obtain rfl : i = n := Nat.le_antisymm hi ge
    exact .inl ⟨w.stops H stands, hd H p⟩
theorem addT_mem {l : List Str} {x y : Str} : x ∈ addT l y ↔ x ∈ l ∨ x = y := by
  unfold addT
  split
  · rename_i h
    exact ⟨.inl, fun z => z.elim id fun e => e ▸ h⟩
  · rw [List.mem_append, List.mem_singleton]
theorem addT_nodup {l : List Str} {y : Str} (h : l.Nodup) : (addT l y).Nodup := by
  unfold addT
  split
  · exact h
  · rename_i hn
    refine List.nodup_append.mpr ⟨h, by simp, fun u hu v hv q => ?_⟩
    rw [List.mem_singleton.mp hv] at q
    exact hn (q ▸ hu)
theorem distinct_is : ∀ n (rs : List RuleI), rs.length = n → (distinct rs).Nodup ∧ ∀ x, x ∈ distinct rs ↔ x ∈ rs.map fun r => r.2.1
  | 0, rs, h => by
    have e : rs = [] := List.length_eq_zero_iff.mp h
    rw [e]
    exact ⟨.nil, fun x => Iff.rfl⟩
  | n + 1, rs, h => by
    have hne : rs ≠ [] := fun z => by rw [z] at h; cases h
    obtain ⟨q1, q2⟩ := distinct_is n rs.dropLast (by rw [List.length_dropLast, h]; rfl)
    have e := (List.dropLast_concat_getLast hne).symm
    generalize rs.getLast hne = r at e
    rw [e, distinct_snoc]
    refine ⟨addT_nodup q1, fun x => ?_⟩
    rw [addT_mem, q2 x, List.map_append, List.mem_append]
    exact or_congr_right List.mem_singleton.symm
theorem mods_of {ys : List Str} {rs : List RuleI} (h : ys.Perm (distinct rs)) (hs : PyProof.Rows.sortedS ys = true) : ModsOf ys rs := by
  obtain ⟨q1, q2⟩ := distinct_is _ rs rfl
  exact ⟨h.nodup_iff.mpr q1, hs, fun x => by rw [h.mem_iff, q2 x]⟩
/-- nothing is amiss: they may be a stack's entries -/
theorem legal_of {es : List Ent} (h : misfit es = none) : Legal es := by
  have all : ∀ i e, es[i]? = some e → badAt es i e = false := fun i e he => by
    have hi := (List.getElem?_eq_some_iff.mp he).1
    have q := List.find?_eq_none.mp h i (List.mem_range.mpr hi)
    rw [bad_some he] at q
    cases z : badAt es i e with
    | false => rfl
    | true => exact (q z).elim
  have parts : ∀ i e, es[i]? = some e → i < 12 ∧ depthE e < 3 ∧ (rulesEs (es.take (i + 1))).length ≤ 12 := fun i e he => by
    have q := all i e he
    unfold badAt at q
    simp only [Bool.or_eq_false_iff, decide_eq_false_iff_not] at q
    obtain ⟨⟨q1, q2⟩, q3, q4⟩ := q
    omega
  have deep : ∀ l : List Ent, (∀ e ∈ l, depthE e < 3) → depthEs l ≤ 2 := fun l => by
    induction l with
    | nil => intro _; exact Nat.zero_le _
    | cons e l ih =>
      intro hl
      have q1 := hl e List.mem_cons_self
      have q2 := ih fun x hx => hl x (List.mem_cons_of_mem _ hx)
      show max (depthE e) (depthEs l) ≤ 2
      omega
  refine ⟨?_, ?_, deep es fun e he => ?_⟩
  · refine Nat.le_of_not_lt fun q => ?_
    have := (parts 12 _ (List.getElem?_eq_getElem q)).1
    omega
  · cases hl : es.length with
    | zero =>
      rw [List.length_eq_zero_iff.mp hl]
      exact Nat.zero_le _
    | succ n =>
      have hn : n < es.length := by omega
      have q := (parts n _ (List.getElem?_eq_getElem hn)).2.2
      rw [← hl, List.take_length] at q
      exact q
  · obtain ⟨i, hi⟩ := List.getElem?_of_mem he
    exact (parts i e hi).2.1
end LS
namespace LS
open PySem L2 TxS
abbrev sSInit : Stmt := inClass (top i_Stack) 0
theorem bind_sinit (kV doc pm cdv ct : Value) (an : Option Addr) (u : Value) : ∀ (rest : List Value), bindArgs (PySem.W.fnOf "__init__" "Stack.__init__" (defArgs sSInit) (defBody sSInit) (defScope sSInit) .none kV doc pm an cdv ct) ⟨u :: rest, []⟩ = (newTuple rest >>= fun t => pure [(("self" : Str), u), (("entries" : Str), t)])
  | [] => rfl
  | r :: rs => rfl
mutual
theorem ent_but {K : PySem.W.Frag} {CR CS C p dx : Addr} {H H' : Hp} (hp : H p = some (.ins C dx [])) (S : SameBut p H H') : ∀ e : Ent, EntAt K CR CS H e → EntAt K CR CS H' e
  | .rule q z ds, h => by
    obtain ⟨⟨d1, a, hq, hd⟩, hs⟩ := h
    have ne : q ≠ p := fun z => by rw [z, hp] at hq; cases hq
    exact ⟨⟨d1, a, S _ _ ne hq, same_but hp S _ _ hd⟩, hs⟩
  | .stk q es, ⟨⟨d1, e, r, m, ms, h1, h2, h3, h4, h5⟩, h6⟩ => by
    have ne : q ≠ p := fun z => by rw [z, hp] at h1; cases h1
    exact ⟨⟨d1, e, r, m, ms, S _ _ ne h1, but_tup hp S h2, but_tup hp S h3, but_tup hp S h4, h5⟩, ents_but hp S es h6⟩
theorem ents_but {K : PySem.W.Frag} {CR CS C p dx : Addr} {H H' : Hp} (hp : H p = some (.ins C dx [])) (S : SameBut p H H') : ∀ es : List Ent, EntsAt K CR CS H es → EntsAt K CR CS H' es
  | [], _ => True.intro
  | e :: es, ⟨h1, h2⟩ => ⟨ent_but hp S e h1, ents_but hp S es h2⟩
end
theorem tup_lst {K : PySem.W.Frag} {H : Hp} {q B : Addr} {xs l l' : List V} (hB : H B = some (.lst l)) (h : SqT K H q xs) : SqT K (upd H B (.lst l')) q xs := by
  have ne : ∀ {o : HO}, H q = some o → (∀ l, o ≠ .lst l) → q ≠ B := fun {o} e n z => by
    rw [z, hB] at e
    exact n _ (Option.some.inj e).symm
  rcases h with (h | ⟨o, h⟩) | h
  · exact .inl (.inl (by rw [upd_ne (ne h fun _ z => nomatch z)]; exact h))
  · exact .inl (.inr ⟨o, by rw [upd_ne (ne h fun _ z => nomatch z)]; exact h⟩)
  · exact .inr h
theorem stack_put (e r m : V) : putF "_modules" m (putF "_rules" r (putF "_entries" e [])) = ([("_entries", e), ("_rules", r), ("_modules", m)] : List (Str × V)) := by
  show (if ("_entries" : Str) = "_modules" then _ else _) = _
  rw [if_neg (by decide +kernel)]
  show _ :: (if ("_rules" : Str) = "_modules" then _ else _) = _
  rw [if_neg (by decide +kernel)]
  rfl
theorem stack_put2 (e r : V) : putF "_rules" r (putF "_entries" e []) = ([("_entries", e), ("_rules", r)] : List (Str × V)) := by
  show (if ("_entries" : Str) = "_rules" then _ else _) = _
  rw [if_neg (by decide +kernel)]
  rfl
end LS
namespace LS
open PySem L2 TxS
abbrev nSInit : List Str := ["self", "entries", "misfit", "entry", "rule"]
/-- Stack.__init__ over the tuple of its entries -/
def spSInit (K : PySem.W.Frag) (CR CS CI : Addr) : Sp := fun vs H Q E => ∃ (p dx t : Addr) (es : List Ent), vs = [.ref p, .ref t] ∧ H p = some (.ins CS dx []) ∧ SqT K H t (es.map refE) ∧ EntsAt K CR CS H es ∧
  (∀ i, misfit es = some i → ∀ d H', Same H H' → H d = none → H' d = some (.xd [("index", .int (i : Nat))]) → E (.ref CI) (some d) H') ∧
  (misfit es = none → ∀ H', SameBut p H H' → EntAt K CR CS H' (.stk p es) → Q .non H')
section
variable {P : Program} {w : World} {K : PySem.W.Frag} {mg : Str → Option Value} {base : Heap} {CR CS : Addr}
theorem scSI : FnScope nSInit ["self", "entries"] (defScope sSInit) := ⟨rfl, rfl, rfl, by decide +kernel, rfl, by decide +kernel, by decide +kernel⟩
theorem ok_sinit {f fX fI fO fM pM CI C0 : Addr} {fd fdX fdI fdO fdM fdR : FuncData} {fR pR : Addr} (F : Fun K "__init__" "Stack.__init__" sSInit f fd) (T : StackK K mg CR CS) (GX : FnOk P w K mg base CX0 7 fX fdX ["entries"] (spMisfit K CR CS)) (gX : mg "first_misfit" = some (.ref fX)) (kX : PySem.W.keepIn K (.ref fX) = true) (bX : Binds K fdX ["entries"] [])
    (XI : ExK K mg "InvalidStack" CI) (nI : PySem.W.findIn K (.ref CI) "index" = some none) (B : BaseX K mg C0) (FI : Fun K "__init__" "InvalidStack.__init__" sISInit fI fdI) (bI : Binds K fdI ["self", "index"] []) (iC : PySem.W.findIn K (.ref CI) "__init__" = some (some (.ref fI))) (tI : PySem.W.typeIn K (.ref fI) = some (.type "function"))
    (FO : Fun K "rules_of" "rules_of" sRulesOf fO fdO) (gO : mg "rules_of" = some (.ref fO)) (bO : Binds K fdO ["entry"] []) (FR : Fun K "rules" "Stack.rules" sSRules fR fdR) (bR : Binds K fdR ["self"] []) (pR_ : PropOf K CS "rules" pR fR)
    (FM : Fun K "module" "Rule.module" sRMod fM fdM) (bM : Binds K fdM ["self"] []) (pM_ : PropOf K CR "module" pM fM) (mT : mg "tuple" = none) (mS : mg "sorted" = none) :
    FnR P w K mg base (L2.CX P w) 8 f (fun vs H Q E => ∃ v rest, vs = v :: rest ∧ rest.length ≤ 1000 ∧ ∀ p, H p = none → spSInit K CR CS CI [v, .ref p] (upd H p (.tup rest)) Q E) := by
  have GO : FnOk P w K mg base CX0 3 fO fdO ["entry"] (spRulesOf K CR CS) := ok_rulesof FO T FR bR pR_
  have GM : FnOk P w K mg base CX0 1 fM fdM ["self"] (spMod K CR) := ok_mod FM T.R
  have GI : FnOk P w K mg base CX0 1 fI fdI ["self", "index"] (spXInitN K "index") := ok_isinit FI B
  obtain ⟨oc, od, kV, doc, pm, an, cdv, ct, osl, rfl, lk, hcd⟩ := F.ex
  have hs2 := sizeLine_eq
  refine fn_ofV lk hcd scSI (nmax := 1000) (by omega) (fun u rest _ => bind_sinit kV doc pm cdv ct an u rest) cx_new fun A outer s H vs Q E hr h => ?_
  obtain ⟨p, dx, t, es, rfl, hp, ht, hes, e1, k⟩ := h
  refine ⟨_, pss_cons (ps_set (i := 2) scSI.nd rfl (.inl rfl) (pe_call GX hr (by rfl) gX kX bX .nil pass0 (pa_cons (pv 1) pa_nil)))
    (pss_cons (ps_if (pt_cmpR op_notN (pv 2) pe_non (nomark _))
        (pss_one (ps_raise rfl (takes_of rfl rfl rfl rfl) (pmk_oex XI.oex iC tI GI (hr.mono (by decide)) bI .nil pass0 (by rfl) XI.g (pa_cons (pv 2) pa_nil)))) pss_nil)
    (pss_cons (ps_fld (pv 0) (pv 1) rfl)
    (pss_cons (ps_fld (pv 0) (pe_callTy call_tuple_of (by rfl) mT (by decide +kernel) (pa_cons (pe_lc2 (wi1 := iTup K (tCall (spRulesOf K CR CS) [] E0 (tCons (tVar 3) tNil))) (own := [("entry", 3), ("rule", 4)]) (vs1 := [4]) (g := gName 3) (g1 := gName 4) (by rfl) scSI.nd (pi_tup (pv 1)) (blkOk_by (own := [("entry", 3), ("rule", 4)]) (N := nSInit) (sc := defScope sSInit) (by decide +kernel)) (by decide)
        (fun _ _ _ _ _ => pg_name (i := 3) scSI.nd rfl (Or.inl rfl)) (fun _ _ _ _ _ => pts_nil) (fun _ _ _ _ _ => pi_tup (pe_call GO (hr.mono (by decide)) (by rfl) gO FO.kp bO .nil pass0 (pa_cons (pv 3) pa_nil))) (fun _ _ _ _ _ => pg_name (i := 4) scSI.nd rfl (Or.inl rfl)) (fun _ _ _ _ _ => pts_nil) (fun _ _ _ _ _ => pv 4)) pa_nil)) rfl)
    (pss_one (ps_fld (pv 0) (pe_callTy call_tuple_of (by rfl) mT (by decide +kernel) (pa_cons (pe_callB (cr_sortedTx (by rfl)) (by rfl) mS (by decide +kernel) (pa_cons (pe_scT (own := [("rule", 4)]) (g := gName 4) (by rfl) scSI.nd (pi_tup (pe_fld (pv 0) rfl)) (blkOk_by (own := [("rule", 4)]) (N := nSInit) (sc := defScope sSInit) (by decide +kernel))
        (fun _ _ _ _ _ => pg_name (i := 4) scSI.nd rfl (Or.inl rfl)) (fun _ _ _ _ _ => pts_nil) (fun _ _ _ _ _ => pe_prop (pv 4) T.R.cl pM_ GM (hr.mono (by decide)) bM .nil pass0 rfl)) pa_nil)) pa_nil)) rfl))))), ?_⟩
  refine ⟨_, rfl, t, es, rfl, ht, hes, fun H1 S1 => ?_⟩
  refine ⟨_, rfl, rfl, _, rfl, ?_⟩
  cases hm : misfit es with
  | some i =>
    have hi := misfit_le hm
    refine iteT ?_
    refine mkXN_run (by omega) XI.oex nI (fun d hd => ?_) (fun G g => ⟨_, rfl, g⟩)
    exact e1 i hm d _ (same_upd (S1.free hd) S1) (S1.free hd) upd_same
  | none =>
    refine iteF ?_
    have leg := legal_of hm
    have hp1 := S1 _ _ hp
    refine ⟨_, rfl, _, rfl, p, CS, dx, _, rfl, hp1, T.cl, T.nE, (by show 0 < 1000; decide), ?_⟩
    -- the fields, one by one
    have B1 : SameBut p H (upd H1 p (.ins CS dx (putF "_entries" (.ref t) []))) := fun b o hb e => by rw [upd_ne hb]; exact S1 _ _ e
    have hA : upd H1 p (.ins CS dx (putF "_entries" (.ref t) [])) p = some (.ins CS dx (putF "_entries" (.ref t) [])) := upd_same
    generalize upd H1 p (.ins CS dx (putF "_entries" (.ref t) [])) = HA at *
    have htA : SqT K HA t (es.map refE) := but_tup hp B1 ht
    have heA : EntsAt K CR CS HA es := ents_but hp B1 es hes
    refine ⟨_, rfl, t, rfl, ⟨_, htA⟩, fun Bx nB => ?_⟩
    refine out_it walk_tup (fun i G => Same HA G ∧ G Bx = some (.lst ((rulesEs (es.take i)).map refR))) ⟨same_upd nB (Same.refl HA), upd_same⟩ (fun i G _ q => same_tup q.1 htA) ?_ ?_
    · rintro i x G1 G2 hi ⟨SG, hB⟩ ⟨rfl, hx⟩
      rw [List.length_map] at hi
      obtain ⟨e, he⟩ : ∃ e, es[i]? = some e := ⟨_, List.getElem?_eq_getElem hi⟩
      rw [List.getElem?_map, he] at hx
      cases hx
      have st := rulesEs_step he
      have hen := ents_get (ents_same SG es heA) he
      have few := (ent_bounds hen).2
      have fewA : (rulesEs (es.take i)).length ≤ 12 := by
        have q := leg.rules
        rw [← List.take_append_drop i es, rulesEs_append, List.length_append] at q
        omega
      refine ⟨rfl, _, rfl, e, rfl, hen, fun q G3 S3 hq => ?_⟩
      refine ⟨q, rfl, ⟨_, hq⟩, ?_⟩
      refine in_it walk_tup (fun j G => Same HA G ∧ SqT K G q ((rulesE e).map refR) ∧ G Bx = some (.lst ((rulesEs (es.take i) ++ (rulesE e).take j).map refR))) ⟨SG.trans S3, hq, by rw [List.take_zero, List.append_nil]; exact S3 _ _ hB⟩ (fun j G _ z => z.2.1) ?_ ?_
      · rintro j x G4 G5 hj ⟨S4, hq4, hB4⟩ ⟨rfl, hx⟩
        rw [List.length_map] at hj
        obtain ⟨r, hr⟩ : ∃ r, (rulesE e)[j]? = some r := ⟨_, List.getElem?_eq_getElem hj⟩
        rw [List.getElem?_map, hr] at hx
        cases hx
        refine ⟨rfl, _, rfl, _, hB4, ?_, same_upd nB S4, tup_lst hB4 hq4, ?_⟩
        · rw [List.length_map, List.length_append, List.length_take]
          omega
        · rw [upd_same, List.take_add_one, hr, ← List.append_assoc]
          generalize rulesEs (es.take i) ++ (rulesE e).take j = L
          show _ = some (HO.lst ((L ++ [r]).map refR))
          rw [List.map_append]
          rfl
      · rintro G4 ⟨S4, hq4, hB4⟩
        rw [List.length_map, List.take_length, ← st] at hB4
        exact ⟨S4, hB4⟩
    rintro G1 ⟨SG, hB⟩
    rw [List.length_map, List.take_length] at hB
    refine ⟨Bx, _, rfl, .inl ⟨SqL.of hB, fun r nr => ?_⟩⟩
    have S5 : Same HA (upd G1 r (.tup ((rulesEs es).map refR))) := same_upd (SG.free nr) SG
    have hr5 : upd G1 r (.tup ((rulesEs es).map refR)) r = some (.tup ((rulesEs es).map refR)) := upd_same
    generalize upd G1 r (.tup ((rulesEs es).map refR)) = H5 at *
    have hp5 := S5 _ _ hA
    refine ⟨_, rfl, p, CS, dx, _, rfl, hp5, T.cl, T.nR, (by show 1 < 1000; decide), ?_⟩
    have B5 : SameBut p H (upd H5 p (.ins CS dx (putF "_rules" (.ref r) (putF "_entries" (.ref t) [])))) := fun b o hb e => by rw [upd_ne hb]; exact S5 _ _ (B1 b o hb e)
    have rp : r ≠ p := fun z => by rw [z, hp5] at hr5; cases hr5
    have h6p : upd H5 p (.ins CS dx (putF "_rules" (.ref r) (putF "_entries" (.ref t) []))) p = some (.ins CS dx [("_entries", .ref t), ("_rules", .ref r)]) := by rw [upd_same, stack_put2]
    have h6r : upd H5 p (.ins CS dx (putF "_rules" (.ref r) (putF "_entries" (.ref t) []))) r = some (.tup ((rulesEs es).map refR)) := by rw [upd_ne rp]; exact hr5
    have e6 := stack_put2 (.ref t) (.ref r)
    generalize upd H5 p (.ins CS dx (putF "_rules" (.ref r) (putF "_entries" (.ref t) []))) = H6 at *
    have he6 : EntsAt K CR CS H6 es := ents_but hp B5 es hes
    have lr : ([(("_entries" : Str), V.ref t), (("_rules" : Str), V.ref r)] : List (Str × V)).lookup ("_rules" : Str) = some (.ref r) := by
      have h1 : (("_rules" : Str) == ("_entries" : Str)) = false := by decide +kernel
      simp [List.lookup, h1]
    refine ⟨_, rfl, p, CS, dx, _, _, rfl, h6p, T.cl, T.nR, lr, ?_⟩
    refine ⟨r, rfl, ⟨_, SqT.of h6r⟩, fun D nD => ?_⟩
    refine sc_it walk_tup (fun j G => Same H6 G ∧ G D = some (TxO w D (distinct ((rulesEs es).take j)))) ⟨same_upd nD (Same.refl H6), upd_same⟩ (fun j G _ z => same_tup z.1 (SqT.of h6r)) ?_ ?_
    · rintro j x G1 G2 hj ⟨SG, hD⟩ ⟨rfl, hx⟩
      rw [List.length_map] at hj
      obtain ⟨ri, hri⟩ : ∃ ri, (rulesEs es)[j]? = some ri := ⟨_, List.getElem?_eq_getElem hj⟩
      rw [List.getElem?_map, hri] at hx
      cases hx
      have ra := rules_ats es (ents_same SG es he6) ri (List.mem_of_getElem? hri)
      obtain ⟨d1, ad, hpr, hd⟩ := id ra
      refine ⟨rfl, ?_⟩
      refine ⟨_, rfl, ri.1, d1, _, rfl, hpr, ri.1, ri.2.1, ri.2.2, rfl, ra, ri.2.1, _, rfl, hD, ?_, same_upd nD SG, ?_⟩
      · have q1 := distinct_len _ ((rulesEs es).take j) rfl
        rw [List.length_take] at q1
        have q2 : scanBound = 4096 := rfl
        have q3 := leg.rules
        omega
      · rw [upd_same, List.take_add_one, hri]
        show _ = some (TxO w D (distinct ((rulesEs es).take j ++ [ri])))
        rw [distinct_snoc]
        rfl
    rintro G1 ⟨SG, hD⟩
    rw [List.length_map, List.take_length] at hD
    refine ⟨D, _, rfl, hD, ?_, fun ys q perm srt nq => ?_⟩
    · have q1 := distinct_len _ (rulesEs es) rfl
      have q3 := leg.rules
      omega
    have S7 : Same H6 (upd G1 q (.lst (ys.map V.str))) := same_upd (SG.free nq) SG
    have hq7 : upd G1 q (.lst (ys.map V.str)) q = some (.lst (ys.map V.str)) := upd_same
    generalize upd G1 q (.lst (ys.map V.str)) = H7 at *
    refine ⟨q, _, rfl, .inl ⟨SqL.of hq7, fun m nm => ?_⟩⟩
    have S8 : Same H6 (upd H7 m (.tup (ys.map V.str))) := same_upd (S7.free nm) S7
    have hm8 : upd H7 m (.tup (ys.map V.str)) m = some (.tup (ys.map V.str)) := upd_same
    generalize upd H7 m (.tup (ys.map V.str)) = H8 at *
    have hp8 := S8 _ _ h6p
    refine ⟨_, rfl, p, CS, dx, _, rfl, hp8, T.cl, T.nM, (by show 2 < 1000; decide), ?_⟩
    have mp : m ≠ p := fun z => by rw [z, hp8] at hm8; cases hm8
    have B9 : SameBut p H (upd H8 p (.ins CS dx (putF "_modules" (.ref m) [("_entries", .ref t), ("_rules", .ref r)]))) := fun b o hb e => by rw [upd_ne hb]; exact S8 _ _ (B5 b o hb e)
    refine k hm _ B9 ⟨⟨dx, t, r, m, ys, ?_, but_tup hp B9 ht, ?_, ?_, mods_of perm srt, leg⟩, ents_but hp B9 es hes⟩
    · rw [upd_same]
      have z := stack_put (.ref t) (.ref r) (.ref m)
      rw [e6] at z
      rw [z]
      rfl
    · exact SqT.of (by rw [upd_ne rp]; exact S8 _ _ h6r)
    · exact SqT.of (by rw [upd_ne mp]; exact hm8)
end
end LS
set_option maxHeartbeats 4000000
namespace LS
open PySem L2
/-! len(o), o[i], a + b by own methods -/
section
variable {X : Cx} {CX : CXT} {n : Nat} {C f : Addr} {fd : FuncData} {ps : List Str} {sp : Sp} {E : XK}
/-- an own method called by the machine, one level in -/
theorem call_in1 {pins : List (Addr × Obj)} {σ : St} {H : Hp} {s : Shared} {Q : VK} {us : List Value} {vs : List V} (F : FnOk X.prog X.w X.K X.mg X.base CX0 n f fd ps sp) (hr : Room (n + 1) X.A) (hb : Binds X.K fd ps []) (I : Inv X pins σ H s) (r : Vals vs us) (h : sp vs H Q E0) :
    wpAny (model X.prog X.w) X.A.in1 (call (.ref f) us) (EP X pins σ Q) X.xe s := by
  have hl : us.length = ps.length := by rw [← r.length]; exact F.len _ _ _ _ h
  refine wpAny_call (codeAny_mono (F.run X.A.in1 X.stack s H ⟨us, []⟩ us vs Q E0 hr.in1 I.env0.in1 (by
    have q := hb s us I.kIn (by simpa using hl)
    simpa using q) r h) fun r s' hq => ?_)
  cases r with
  | error e => exact (show False from hq).elim
  | ok fl =>
    cases fl with
    | ret w =>
      obtain ⟨z, H', I', rz, q⟩ := I.after hq
      exact ⟨z, H', I', rz, q⟩
    | next => exact False.elim hq
    | brk => exact False.elim hq
    | cont => exact False.elim hq
def rLenI (C : Addr) (sp : Sp) : List V → Hp → VK → Prop := fun vs H Q => ∃ a dx fs, vs = [.ref a] ∧ H a = some (.ins C dx fs) ∧ sp [.ref a] H (fun v H' => ∃ k : Nat, v = .int (k : Nat) ∧ k ≤ sizeLine ∧ Q v H') E0
theorem cr_lenI (F : FnOk X.prog X.w X.K X.mg X.base CX0 n f fd ps sp) (hr : Room (n + 1) X.A) (hs : PySem.W.findIn X.K (.ref C) "__len__" = some (some (.ref f))) (hf : PySem.W.isFn X.K (.ref f) = true) (hb : Binds X.K fd ps []) : CallR X (.builtin "len") (rLenI C sp) := by
  intro pins s σ H vs us Q I r h
  obtain ⟨a, dx, fs, rfl, ha, hsp⟩ := h
  rw [Vals.ref1 r]
  obtain ⟨mA, J, _⟩ := ins_get I.hok ha
  obtain ⟨od, J, _⟩ := J.look
  obtain ⟨m, hF⟩ := I.fr
  refine PySem.W.len_K hF I.ok.mod.kin J hs hf (wpAny_mono (call_in1 (us := [.ref a]) (vs := [.ref a]) F hr hb I (.cons rfl .nil) hsp) (fun v s' z => ?_) fun _ _ e => e)
  obtain ⟨r1, H', I', rv, k, er, hk, q⟩ := z
  subst er
  obtain ⟨tk, rfl⟩ := rv
  have hl := line63
  exact ⟨by omega, .int (k : Nat), H', I'.tok _, ⟨_, rfl⟩, q⟩
def rGetI (C : Addr) (sp : Sp) : R2 := fun x y H Q => ∃ a dx fs, x = .ref a ∧ H a = some (.ins C dx fs) ∧ sp [.ref a, y] H Q E0
def rAddI (C : Addr) (sp : Sp) (E : XK) : R2 := fun x y H Q => ∃ a b dx dy fs gs, x = .ref a ∧ y = .ref b ∧ H a = some (.ins C dx fs) ∧ H b = some (.ins C dy gs) ∧ sp [.ref a, .ref b] H Q E
theorem cmp_back {v : V} {u : Value} {Q : Value → Shared → Prop} {s : Shared} (r : RelV v u) (q : Q u s) : PySem.W.CmpBack Q u s := by
  cases u with
  | notImplemented => cases v <;> cases r <;> rename_i h <;> cases h
  | _ => exact q
theorem op_addI (F : FnOk X.prog X.w X.K X.mg X.base CX n f fd ps sp) (hr : Room n X.A) (hs : PySem.W.findIn X.K (.ref C) "__add__" = some (some (.ref f))) (hf : PySem.W.isFn X.K (.ref f) = true) (hb : Binds X.K fd ps []) (hc : PySem.W.selfFirst X.K C = true) (hx : Passes CX X E) :
    OpR X (binaryOp .Add) (rAddI C sp E) := by
  intro pins s σ H x y v u Q I rx ry h
  obtain ⟨a, b, dx, dy, fs, gs, rfl, rfl, ha, hb', hsp⟩ := h
  cases rx
  cases ry
  obtain ⟨mA, J, _⟩ := ins_get I.hok ha
  obtain ⟨mB, J', _⟩ := ins_get I.hok hb'
  obtain ⟨od, J, _⟩ := J.look
  obtain ⟨od', J', _⟩ := J'.look
  obtain ⟨m, hF⟩ := I.fr
  refine PySem.W.binop_K hF I.ok.mod.kin J J'.type hc hs hf (wpAny_mono (run_fn (us := [.ref a, .ref b]) (vs := [.ref a, .ref b]) F hr hb .nil hx I (.cons rfl (.cons rfl .nil)) hsp) (fun v s' z => ?_) fun _ _ e => e)
  obtain ⟨r, H', I', rv, q⟩ := z
  exact cmp_back rv ⟨r, H', I', rv, q⟩
theorem pe_getI {o i : Expr} {to ti : TE} {pos : Pos} (F : FnOk X.prog X.w X.K X.mg X.base CX0 n f fd ps sp) (hr : Room (n + 1) X.A) (hs : PySem.W.findIn X.K (.ref C) "__getitem__" = some (some (.ref f))) (hn : PySem.W.fnIn X.K f = true) (hf : PySem.W.isFn X.K (.ref f) = true) (hb : Binds X.K fd ps [])
    (ho : PE X o to) (hi : PE X i ti) (hsl : ∀ (a : Addr) (v : Value), subscripted i true (.ref a) v = runValue (.builtin "lifetime.subscript" ⟨[.ref a, v], []⟩) := by intro _ _; with_unfolding_all rfl) : PE X (.Subscript o i pos) (tOp (rGetI C sp) to ti) := by
  refine ⟨fun pins s σ H Q I h => PyProof.Rows.Subscript_ (binT ho hi I h fun v u s2 x y H2 I2 rx ry q => ?_)⟩
  obtain ⟨a, dx, fs, rfl, ha, hsp⟩ := q
  cases rx
  obtain ⟨mA, J, _⟩ := ins_get I2.hok ha
  obtain ⟨od, J, _⟩ := J.look
  obtain ⟨m, hF⟩ := I2.fr
  exact PySem.W.sub_K hF I2.ok.mod.kin J hs hn hf (call_in1 (us := [.ref a, u]) (vs := [.ref a, y]) F hr hb I2 (.cons rfl (.cons ry .nil)) hsp) (hsl a u)
end
end LS
namespace LS
open PySem L2
abbrev sSLen : Stmt := inClass (top i_Stack) 4
abbrev sSGet : Stmt := inClass (top i_Stack) 5
abbrev sSAdd : Stmt := inClass (top i_Stack) 7
def spSLen (K : PySem.W.Frag) (CR CS : Addr) : Sp := fun vs H Q _ => ∃ (p : Addr) (es : List Ent), vs = [.ref p] ∧ EntAt K CR CS H (.stk p es) ∧ Q (.int (es.length : Nat)) H
def spSGet (K : PySem.W.Frag) (CR CS : Addr) : Sp := fun vs H Q _ => ∃ (p : Addr) (es : List Ent) (i : Int) (e : Ent), vs = [.ref p, .int i] ∧ EntAt K CR CS H (.stk p es) ∧ atI es i = some e ∧ Q (refE e) H
theorem atI_map {α β : Type} {g : α → β} {xs : List α} {i : Int} {x : α} (h : atI xs i = some x) : atI (xs.map g) i = some (g x) := by
  unfold atI at h ⊢
  rw [List.length_map]
  cases q : ixN xs.length i with
  | none => rw [q] at h; cases h
  | some j =>
    rw [q] at h
    have h' : xs[j]? = some x := h
    show (xs.map g)[j]? = some (g x)
    rw [List.getElem?_map, h']
    rfl
section
variable {P : Program} {w : World} {K : PySem.W.Frag} {mg : Str → Option Value} {base : Heap} {CR CS : Addr}
theorem scSL : FnScope ["self"] ["self"] (defScope sSLen) := ⟨rfl, rfl, rfl, by decide +kernel, rfl, by decide +kernel, by decide +kernel⟩
theorem scSG : FnScope ["self", "at"] ["self", "at"] (defScope sSGet) := ⟨rfl, rfl, rfl, by decide +kernel, rfl, by decide +kernel, by decide +kernel⟩
theorem ok_slen {f : Addr} {fd : FuncData} (F : Fun K "__len__" "Stack.__len__" sSLen f fd) (T : StackK K mg CR CS) (mL : mg "len" = none) : FnOk P w K mg base CX0 1 f fd ["self"] (spSLen K CR CS) := by
  refine F.ok scSL (fun vs H Q E h => ?_) (fun cdv A outer s H vs Q E hr h => ?_)
  · obtain ⟨p, es, rfl, _⟩ := h
    rfl
  · obtain ⟨p, es, rfl, ⟨⟨dx, e, r, m, ms, h1, h2, h3, h4, h5⟩, h6⟩, k⟩ := h
    refine ⟨_, pss_one (ps_ret (pe_callB call_len_seq (by rfl) mL PySem.boot_len (pa_cons (pe_fld (pv 0) rfl) pa_nil))), ?_⟩
    refine ⟨_, rfl, p, CS, dx, _, _, rfl, h1, T.cl, T.nE, st_e, e, _, rfl, .inr h2, ?_⟩
    rw [List.length_map]
    exact k
theorem ok_sget {f : Addr} {fd : FuncData} (F : Fun K "__getitem__" "Stack.__getitem__" sSGet f fd) (T : StackK K mg CR CS) : FnOk P w K mg base CX0 1 f fd ["self", "at"] (spSGet K CR CS) := by
  refine F.ok scSG (fun vs H Q E h => ?_) (fun cdv A outer s H vs Q E hr h => ?_)
  · obtain ⟨p, es, i, e, rfl, _⟩ := h
    rfl
  · obtain ⟨p, es, i, en, rfl, ⟨⟨dx, e, r, m, ms, h1, h2, h3, h4, h5⟩, h6⟩, ha, k⟩ := h
    refine ⟨_, pss_one (ps_ret (pe_ix ix_tup (pe_fld (pv 0) rfl) (pv 1) (fun _ _ => rfl))), ?_⟩
    exact ⟨_, rfl, p, CS, dx, _, _, rfl, h1, T.cl, T.nE, st_e, _, rfl, e, _, i, _, rfl, rfl, h2, atI_map ha, k⟩
end
end LS
namespace LS
open PySem L2
theorem entsAt_append {K : PySem.W.Frag} {CR CS : Addr} {H : Hp} : ∀ {a b : List Ent}, EntsAt K CR CS H a → EntsAt K CR CS H b → EntsAt K CR CS H (a ++ b)
  | [], _, _, h => h
  | e :: a, b, ⟨h1, h2⟩, h => ⟨h1, entsAt_append h2 h⟩
/-- Stack(*es), Stack(e, ..): the new stack at x, or the error -/
theorem stack_at {K : PySem.W.Frag} {CR CS CI : Addr} {H : Hp} {G : Hp → Prop} {E : XK} {es : List Ent} {x dx : Addr} (he : EntsAt K CR CS H es) (few : es.length ≤ 1000) (nx : H x = none) (nd : H dx = none) (hne : dx ≠ x)
    (e1 : ∀ i, misfit es = some i → ∀ d H', Same H H' → H d = none → H' d = some (.xd [("index", .int (i : Nat))]) → E (.ref CI) (some d) H') (k : misfit es = none → ∀ H', Same H H' → EntAt K CR CS H' (.stk x es) → G H') :
    ∃ v rest, (V.ref x :: es.map refE) = v :: rest ∧ rest.length ≤ 1000 ∧ ∀ p, (upd (upd H dx (.own x)) x (.ins CS dx [])) p = none → spSInit K CR CS CI [v, .ref p] (upd (upd (upd H dx (.own x)) x (.ins CS dx [])) p (.tup rest)) (fun v H2 => v = .non ∧ G H2) E := by
  have S0 : Same H (upd (upd H dx (.own x)) x (.ins CS dx [])) := same_upd nx (same_upd nd (Same.refl H))
  have hx : upd (upd H dx (.own x)) x (.ins CS dx []) x = some (.ins CS dx []) := upd_same
  refine ⟨_, _, rfl, by rw [List.length_map]; exact few, fun t nt => ?_⟩
  generalize upd (upd H dx (.own x)) x (.ins CS dx []) = H0 at *
  have S1 : Same H0 (upd H0 t (.tup (es.map refE))) := same_upd nt (Same.refl H0)
  have ht : upd H0 t (.tup (es.map refE)) t = some (.tup (es.map refE)) := upd_same
  generalize upd H0 t (.tup (es.map refE)) = H1 at *
  have S01 := S0.trans S1
  refine ⟨x, dx, t, es, rfl, S1 _ _ hx, SqT.of ht, ents_same S01 es he, fun i hi d H' S nd' hd => ?_, fun hm H' B en => ⟨rfl, ?_⟩⟩
  · exact e1 i hi d H' (S01.trans S) (S01.free nd') hd
  · exact k hm H' (fun b o e => B b o (ne_of_none e nx) (S01 _ _ e)) en
theorem rule_run {K : PySem.W.Frag} {C CI : Addr} {H : Hp} {G : Hp → Prop} {E : XK} {c : V} {dc : PyData} {z : Str} {ds : List PyData} {x dx : Addr} (hw : isWordS z = true) (hz : z.length ≤ 1000) (hc : Dp K H c dc) (kc : Ctl dc) (ha : actsOf dc = some ds)
    (nx : H x = none) (nd : H dx = none) (hne : dx ≠ x) (k : ∀ H', Same H H' → RuleAt K C H' x z ds → G H') :
    spRInit K C CI (.ref x :: ([V.str z, c] ++ [])) (upd (upd H dx (.own x)) x (.ins C dx [])) (fun v H2 => v = .non ∧ G H2) E := by
  have S0 : Same H (upd (upd H dx (.own x)) x (.ins C dx [])) := same_upd nx (same_upd nd (Same.refl H))
  refine ⟨x, dx, .str z, c, .str z, dc, rfl, upd_same, .str z, True.intro, fun y q => by cases q; exact hz, same_dp S0 _ _ hc, kc, ?_, ?_, ?_⟩
  · intro h
    rw [show isWord (.str z) = isWordS z from rfl, hw] at h
    cases h
  · intro _ h
    rw [ha] at h
    cases h
  · intro z' ds' H3 e _ ha' SB RA
    cases e
    rw [ha] at ha'
    cases ha'
    exact ⟨rfl, k H3 (fun b o h => SB b o (ne_of_none h nx) (S0 b o h)) RA⟩
def spSAdd (K : PySem.W.Frag) (CR CS CI : Addr) : Sp := fun vs H Q E => ∃ (p q : Addr) (es fs : List Ent), vs = [.ref p, .ref q] ∧ EntAt K CR CS H (.stk p es) ∧ EntAt K CR CS H (.stk q fs) ∧
  (∀ i, misfit (es ++ fs) = some i → ∀ d H', Same H H' → H d = none → H' d = some (.xd [("index", .int (i : Nat))]) → E (.ref CI) (some d) H') ∧
  (misfit (es ++ fs) = none → ∀ x H', Same H H' → EntAt K CR CS H' (.stk x (es ++ fs)) → Q (.ref x) H')
section
variable {P : Program} {w : World} {K : PySem.W.Frag} {mg : Str → Option Value} {base : Heap} {CR CS CI : Addr}
abbrev nSAdd : List Str := ["self", "other", "entries"]
theorem scSA : FnScope nSAdd ["self", "other"] (defScope sSAdd) := ⟨rfl, rfl, rfl, by decide +kernel, rfl, by decide +kernel, by decide +kernel⟩
theorem ok_sadd {f fI : Addr} {fd : FuncData} (F : Fun K "__add__" "Stack.__add__" sSAdd f fd) (T : StackK K mg CR CS) (M : Mk K CS fI)
    (GI : FnR P w K mg base (L2.CX P w) 8 fI (fun vs H Q E => ∃ v rest, vs = v :: rest ∧ rest.length ≤ 1000 ∧ ∀ p, H p = none → spSInit K CR CS CI [v, .ref p] (upd H p (.tup rest)) Q E)) :
    FnOk P w K mg base (L2.CX P w) 10 f fd ["self", "other"] (spSAdd K CR CS CI) := by
  refine F.okX scSA (fun vs H Q E h => ?_) (fun cdv A outer s H vs Q E hr h => ?_)
  · obtain ⟨p, q, es, fs, rfl, _⟩ := h
    rfl
  · obtain ⟨p, q, es, fs, rfl, he, hf, e1, k⟩ := h
    have hs2 := sizeLine_eq
    refine ⟨_, pss_cons (ps_if (pt_not (pt_val (pe_callB call_isi (by rfl) T.isi (by decide +kernel) (pa_cons (pv 1) (pa_cons (pe_glob (v := .ref CS) (by rfl) T.g rfl) pa_nil))))) pss_false pss_nil)
      (pss_cons (ps_set (i := 2) scSA.nd rfl (.inl rfl) (pe_op op_catA (pe_fld (pv 0) rfl) (pe_fld (pv 1) rfl)))
      (pss_one (ps_ret (StX.pe_makeS M GI hr (by rfl) T.g (passes_call (takes_of rfl rfl rfl rfl) (fun _ _ _ _ h => h)) (pv 2))))), ?_⟩
    obtain ⟨t, ht, hk⟩ := ent_cls T hf
    obtain ⟨⟨dx, e, r, m, ms, h1, h2, h3, h4, h5, l1⟩, h6⟩ := id he
    obtain ⟨⟨dx', e', r', m', ms', h1', h2', h3', h4', h5', l2⟩, h6'⟩ := id hf
    have f1 := l1.few
    have f2 := l2.few
    refine ⟨_, rfl, refE (.stk q fs), .ref CS, t, .ref CS, _, rfl, .own CS, ht, hk, _, rfl, ?_⟩
    refine iteF ?_
    refine ⟨_, rfl, p, CS, dx, _, _, rfl, h1, T.cl, T.nE, st_e, _, rfl, q, CS, dx', _, _, rfl, h1', T.cl, T.nE, st_e, ?_⟩
    have fin : ∀ (t : Addr) (H1 : Hp), Same H H1 → SqT K H1 t ((es ++ fs).map refE) → StX.tMakeS K CS (fun vs H Q E => ∃ v rest, vs = v :: rest ∧ rest.length ≤ 1000 ∧ ∀ p, H p = none → spSInit K CR CS CI [v, .ref p] (upd H p (.tup rest)) Q E) E (tVar 2) [some (.ref p), some (.ref q), some (.ref t)] H1 Q := fun t H1 S1 hT => by
      refine ⟨.ref t, rfl, t, _, rfl, .inl hT, fun x dx nx nd hne => ?_⟩
      exact stack_at (G := fun H' => Q (.ref x) H') (entsAt_append (ents_same S1 es h6) (ents_same S1 fs h6')) (by rw [List.length_append]; omega) nx nd hne
        (fun i hi d H' S nd' hd => e1 i hi d H' (S1.trans S) (S1.free nd') hd) (fun hm H' S en => k hm x H' (S1.trans S) en)
    refine ⟨e, e', _, _, rfl, rfl, h2, h2', by rw [List.length_map, List.length_map]; omega, fun z => ?_, fun z z' => ?_, fun z z' p3 n3 => ?_⟩
    · refine fin e' H (Same.refl H) ?_
      rw [List.map_append, z]
      exact h2'
    · refine fin e H (Same.refl H) ?_
      rw [List.map_append, z', List.append_nil]
      exact h2
    · refine fin p3 _ (same_upd n3 (Same.refl H)) ?_
      rw [List.map_append]
      exact SqT.of upd_same
end
end LS
/-! == inside tuples by own methods, true or false -/
namespace GQ
open PySem PySem.SeqAt
open AutoSeq1 (wpAny_loadPart')
open MeetsSeq MeetsSeq2 MeetsSeq3 SeqRoads2
section
variable {prog : Program} {w : World} {A : Around} {R : Result → Shared → Prop}
theorem all_cut {e : Nat → Bool} {m i : Nat} (hi : i < m) (he : e i = false) : (List.range m).all e = false := by
  refine Bool.eq_false_iff.mpr fun h => ?_
  rw [List.all_eq_true] at h
  have q := h i (List.mem_range.mpr hi)
  rw [he] at q
  cases q
theorem all_yes {e : Nat → Bool} {m : Nat} (h : ∀ j, j < m → e j = true) : (List.range m).all e = true := List.all_eq_true.mpr fun j hj => h j (List.mem_range.mp hj)
theorem tuple_eqB (l b : Addr) (items items2 : Array Value) (n n2 : Nat) (dd dd2 : Option Addr) (sl sl2 : Array (Option Value)) (e : Nat → Bool) (I : Shared → Prop)
    (turn : ∀ i (h1 : i < items.size) (h2 : i < items2.size) s, I s → wpAny (model prog w) A.in1 (eqBool items[i] items2[i]) (fun r s' => r = e i ∧ I s') (fun e s' => R (.error e) s') s)
    (fin : ∀ s, I s → R (.ok (.ret (.bool ((List.range (min items.size items2.size)).all e && items.size == items2.size)))) s) {s : Shared} (hl1 : s.heap.get? l = some { cls := .type "tuple", dict := dd, data := .seq items n, slots := sl })
    (hb1 : s.heap.get? b = some { cls := .type "tuple", dict := dd2, data := .seq items2 n2, slots := sl2 }) (h : I s) :
    wpAny (model prog w) A.in1 (Builtin.«tuple.__eq__» ⟨[.ref l, .ref b], []⟩) (FinOf prog w A R) (fun e s' => R (.error e) s') s := by
  have f2 := AutoSeq1.sub_tuple_tuple
  have hZ : (items.toList.zip items2.toList).length = min items.size items2.size := by simp
  have h0 := h
  obtain ⟨hp, g, d, tk, os⟩ := s
  wp_walk using wpAny_loadPart' hl1, wpAny_loadPart' hb1, wpAny_forIn_list _ (fun rest b s' => b.1 = none ∧ ∃ i, rest = (items.toList.zip items2.toList).drop i ∧ i ≤ min items.size items2.size ∧ (∀ j, j < i → e j = true) ∧ I s') _
  case turn =>
    rintro ⟨y, x⟩ rest b s' ⟨hb', i, hz, hi, hE, hI⟩
    have hlt : i < (items.toList.zip items2.toList).length := by
      rcases Nat.lt_or_ge i (items.toList.zip items2.toList).length with h' | h'
      · exact h'
      · rw [List.drop_of_length_le h'] at hz; cases hz
    have hm : i < min items.size items2.size := hZ ▸ hlt
    have h1 : i < items.size := Nat.lt_of_lt_of_le hm (Nat.min_le_left _ _)
    have h2 : i < items2.size := Nat.lt_of_lt_of_le hm (Nat.min_le_right _ _)
    rw [List.drop_eq_getElem_cons hlt] at hz
    injection hz with hyx hrest
    have hy : y = items[i] := by have := congrArg Prod.fst hyx; simpa using this
    have hx : x = items2[i] := by have := congrArg Prod.snd hyx; simpa using this
    subst hy hx
    refine wpAny_bind (wpAny_mono (turn i h1 h2 s' hI) (fun r s2 q2 => ?_) fun _ _ x => x)
    obtain ⟨hr, q2⟩ := q2
    subst hr
    cases hy : e i with
    | true =>
      wp_walk
      exact ⟨rfl, i + 1, hrest, hm, fun j hj => by
        by_cases q : j = i
        · rw [q]; exact hy
        · exact hE j (by omega), q2⟩
    | false =>
      wp_walk
      have hR := fin s2 q2
      rw [all_cut hm hy] at hR
      simpa using hR
  case fin =>
    rintro ⟨b1, b2⟩ s' ⟨hb', i, hz, hi, hE, hI⟩
    simp only at hb'
    subst hb'
    have hge : min items.size items2.size ≤ i := by
      rcases Nat.lt_or_ge i (items.toList.zip items2.toList).length with h' | h'
      · rw [List.drop_eq_getElem_cons h'] at hz; cases hz
      · exact hZ ▸ h'
    have hi' : i = min items.size items2.size := by omega
    have hR := fin s' hI
    rw [all_yes fun j hj => hE j (hi' ▸ hj), Bool.true_and] at hR
    wp_walk
    simpa [Builtin.Tuple.tupleCompareSizes] using hR
  case h =>
    exact ⟨rfl, 0, rfl, Nat.zero_le _, fun j hj => (nomatch hj), h0⟩
end
section
variable {prog : Program} {w : World} {A : Around} {E : Value → Shared → Prop} {s : Shared}
theorem rc_tupB {l b : Addr} {items items2 : Array Value} {Q : Value → Shared → Prop} (hu : A.units < cLine) (e : Nat → Bool) (I : Shared → Prop) (hl : s.heap.IsTuple l items) (hb : s.heap.IsTuple b items2)
    (turn : ∀ i (h1 : i < items.size) (h2 : i < items2.size) s, I s → wpAny (model prog w) A.in1 (eqBool items[i] items2[i]) (fun r s' => r = e i ∧ I s') E s)
    (fin : ∀ s, I s → Q (.bool ((List.range (min items.size items2.size)).all e && items.size == items2.size)) s) (h : I s) : wpAny (model prog w) A (richCompare .Eq (.ref l) (.ref b)) Q E s := by
  obtain ⟨⟨cls, dd, data, sl⟩, ho, hc, n, hd⟩ := id hl
  obtain ⟨⟨cls2, dd2, data2, sl2⟩, ho2, hc2, n2, hd2⟩ := id hb
  simp only at hc hd hc2 hd2
  subst hc hd hc2 hd2
  refine wpAny_richCompare_same_room (op := .Eq) ⟨_, ho, rfl⟩ ⟨_, ho2, rfl⟩ F.slot_tuple_eq (call_here F.slot_tuple_eq ⟨_, ho, rfl⟩ F.entry_tuple_eq (F.args_tuple_eq_2 _ _) ?_) hu
  exact tuple_eqB (R := wants (fun v s' => v ≠ .notImplemented ∧ Q v s') E) l b items items2 n n2 dd dd2 sl sl2 e I turn (fun s' q => ⟨(fun x => nomatch x), fin s' q⟩) ho ho2 h
end
end GQ
namespace L2
open PySem PySem.Spec PyProof.Rows
abbrev Eqb := V → V → Bool → Hp → Prop
def MonB (D : Eqb) : Prop := ∀ x y b H H', Ext H H' → D x y b H → D x y b H'
def EqB (X : Cx) (n : Nat) (D : Eqb) : Prop :=
  ∀ (A : Around) (pins : List (Addr × Obj)) (s : Shared) (σ : St) (H : Hp) (x y : V) (b : Bool) (u v : Value), Sub X n A → Inv X pins σ H s → RelV x u → RelV y v → D x y b H →
    wpAny (model X.prog X.w) A (eqBool u v) (fun r s' => r = b ∧ ∃ H', Inv X pins σ H' s' ∧ Ext H H') X.xe s
def RcB (X : Cx) (n : Nat) (D : Eqb) : Prop :=
  ∀ (A : Around) (pins : List (Addr × Obj)) (s : Shared) (σ : St) (H : Hp) (x y : V) (b : Bool) (u v : Value), Sub X n A → Inv X pins σ H s → RelV x u → RelV y v → D x y b H →
    wpAny (model X.prog X.w) A (richCompare .Eq u v) (fun r s' => r = .bool b ∧ ∃ H', Inv X pins σ H' s' ∧ Ext H H') X.xe s
section
variable {X : Cx} {n m : Nat} {D D' : Eqb}
theorem EqB.mono (h : EqB X n D) (hn : n ≤ m) : EqB X m D := fun A pins s σ H x y b u v sb => h A pins s σ H x y b u v (sb.mono hn)
theorem RcB.mono (h : RcB X n D) (hn : n ≤ m) : RcB X m D := fun A pins s σ H x y b u v sb => h A pins s σ H x y b u v (sb.mono hn)
theorem RcB.imp (h : RcB X n D) (hd : ∀ x y b H, D' x y b H → D x y b H) : RcB X n D' := fun A pins s σ H x y b u v sb I rx ry d => h A pins s σ H x y b u v sb I rx ry (hd x y b H d)
theorem RcB.or (h : RcB X n D) (h' : RcB X n D') : RcB X n (fun x y b H => D x y b H ∨ D' x y b H) := fun A pins s σ H x y b u v sb I rx ry d => by
  rcases d with d | d
  · exact h A pins s σ H x y b u v sb I rx ry d
  · exact h' A pins s σ H x y b u v sb I rx ry d
/-- item by item -/
def PrB (D : Eqb) (xs ys : List V) (e : Nat → Bool) (H : Hp) : Prop := ∀ (i : Nat) x y, xs[i]? = some x → ys[i]? = some y → D x y (e i) H
theorem turnB (hD : MonB D) (h : EqB X n D) {A : Around} (sb : Sub X (n + 1) A) {pins : List (Addr × Obj)} {σ : St} {H : Hp} {xs ys : List V} {e : Nat → Bool} {its its2 : List Value} (p : PrB D xs ys e H) (r : Vals xs its) (r2 : Vals ys its2)
    (i : Nat) (h1 : i < its.toArray.size) (h2 : i < its2.toArray.size) (s' : Shared) (l : LoopI X pins σ H s') :
    wpAny (model X.prog X.w) A.in1 (eqBool its.toArray[i] its2.toArray[i]) (fun r s2 => r = e i ∧ LoopI X pins σ H s2) X.xe s' := by
  obtain ⟨H1, I1, e1⟩ := l
  have g1 : its[i]? = some its.toArray[i] := by
    have h1' : i < its.length := by simpa using h1
    rw [List.getElem?_eq_getElem h1'] <;> simp
  have g2 : its2[i]? = some its2.toArray[i] := by
    have h2' : i < its2.length := by simpa using h2
    rw [List.getElem?_eq_getElem h2'] <;> simp
  have k1 : i < xs.length := by rw [r.length]; simpa using h1
  have k2 : i < ys.length := by rw [r2.length]; simpa using h2
  obtain ⟨u, hu, ru⟩ := r.get (List.getElem?_eq_getElem k1)
  obtain ⟨v, hv, rv⟩ := r2.get (List.getElem?_eq_getElem k2)
  rw [g1] at hu
  rw [g2] at hv
  rw [Option.some.inj hu, Option.some.inj hv]
  refine wpAny_mono (h A.in1 pins s' σ H1 _ _ _ u v sb.in1 I1 ru rv (hD _ _ _ _ _ e1 (p i _ _ (List.getElem?_eq_getElem k1) (List.getElem?_eq_getElem k2)))) (fun r s2 q => ?_) fun _ _ x => x
  obtain ⟨hr, H2, I2, e2⟩ := q
  exact ⟨hr, H2, I2, e1.trans e2⟩
def DTupB (K : PySem.W.Frag) (D : Eqb) : Eqb := fun x y r H => ∃ (a b : Addr) (xs ys : List V) (e : Nat → Bool), x = .ref a ∧ y = .ref b ∧ SqT K H a xs ∧ SqT K H b ys ∧ PrB D xs ys e H ∧ r = ((List.range (min xs.length ys.length)).all e && xs.length == ys.length)
theorem rcB_tup (hD : MonB D) (h : EqB X n D) : RcB X (n + 1) (DTupB X.K D) := by
  intro A pins s σ H x y r0 u v sb I rx ry d
  obtain ⟨a, b, xs, ys, e, rfl, rfl, ha, hb, p, rfl⟩ := d
  cases rx
  cases ry
  obtain ⟨its, r, t1, z⟩ := I.tuple ha
  obtain ⟨its2, r2, t2, z2⟩ := I.tuple hb
  have l1 : its.toArray.size = xs.length := by rw [List.size_toArray, ← r.length]
  have l2 : its2.toArray.size = ys.length := by rw [List.size_toArray, ← r2.length]
  refine GQ.rc_tupB sb.room.units0 e (fun s' => LoopI X pins σ H s') t1 t2 (fun i h1 h2 s' q => turnB hD h sb p r r2 i h1 h2 s' q) (fun s' q => ⟨by rw [l1, l2], q⟩) ⟨H, I, Ext.rfl'⟩
/-- an instance of the class at C, whose text has its own ==, and another instance -/
def DInsB (K : PySem.W.Frag) (C : Addr) (R : Addr → Addr → Bool → Hp → Prop) : Eqb := fun x y r H => ∃ a b C' dx dy fs gs, x = .ref a ∧ y = .ref b ∧ H a = some (.ins C dx fs) ∧ H b = some (.ins C' dy gs) ∧ PySem.W.notFirst K C (.ref C') = true ∧ R a b r H
def spEqB (R : Addr → Addr → Bool → Hp → Prop) : Sp := fun vs H Q _ => ∃ a b r, vs = [.ref a, .ref b] ∧ R a b r H ∧ ∀ H', Ext H H' → Q (.bl r) H'
theorem rcB_ins {CX : CXT} {C f : Addr} {fd : FuncData} {ps : List Str} {R : Addr → Addr → Bool → Hp → Prop} {E : XK} (F : FnOk X.prog X.w X.K X.mg X.base CX n f fd ps (spEqB R))
    (hs : PySem.W.findIn X.K (.ref C) "__eq__" = some (some (.ref f))) (hf : PySem.W.isFn X.K (.ref f) = true) (hb : Binds X.K fd ps []) (hx : Passes CX X E) : RcB X n (DInsB X.K C R) := by
  intro A pins s σ H x y r0 u v sb I rx ry d
  obtain ⟨a, b, C', dx, dy, fs, gs, rfl, rfl, ha, hb', hn, hr⟩ := d
  cases rx
  cases ry
  obtain ⟨mA, J, _⟩ := ins_get I.hok ha
  obtain ⟨mB, J', _⟩ := ins_get I.hok hb'
  obtain ⟨od, J, _⟩ := J.look
  obtain ⟨od', J', _⟩ := J'.look
  obtain ⟨m, hF⟩ := I.fr
  refine PySem.W.cmp_K (op := .Eq) (tb := .ref C') sb.room.units0 hF I.ok.mod.kin J J'.type hn hs hf ?_
  have hsp : spEqB R [.ref a, .ref b] H (fun v H' => v = .bl r0 ∧ Ext H H') E := ⟨a, b, r0, rfl, hr, fun H' e => ⟨rfl, e⟩⟩
  have e0 : Env0 X.prog X.w X.K X.mg X.base A X.stack s H := by
    have e := I.env0
    exact ⟨by rw [sb.fr]; exact e.frames, e.mod, e.bs, e.bsz, e.funs, e.frf, e.hok, e.bare⟩
  have hl := F.len _ _ _ _ hsp
  have r2 : Vals [V.ref a, V.ref b] [Value.ref a, Value.ref b] := .cons rfl (.cons rfl .nil)
  refine wpAny_call (codeAny_mono (F.run A X.stack s H ⟨[.ref a, .ref b], []⟩ [.ref a, .ref b] [.ref a, .ref b] _ E sb.room e0 (by
    have := hb s [.ref a, .ref b] I.kIn (by simpa using hl)
    simpa using this) r2 hsp) fun r s' hq => ?_)
  cases r with
  | error e => exact hx pins σ H s e s' I hq
  | ok fl =>
    cases fl with
    | ret w =>
      obtain ⟨z, H', I', rz, ez, ex⟩ := I.after hq
      subst ez
      cases rz
      exact ⟨rfl, H', I', ex⟩
    | next => exact False.elim hq
    | brk => exact False.elim hq
    | cont => exact False.elim hq
theorem RcB.eqB (h : RcB X n D) (hr : ∀ x y b H, D x y b H → ∃ a b', x = .ref a ∧ y = .ref b') (ht : ∀ a b H, D (.ref a) (.ref a) b H → b = true) : EqB X n D := by
  intro A pins s σ H x y r0 u v sb I rx ry d
  obtain ⟨a, b, rfl, rfl⟩ := hr _ _ _ _ d
  cases rx
  cases ry
  by_cases hab : a = b
  · subst hab
    exact SeqAt.EqAt.same (A := A) (s := s) (.ref a) X.prog X.w X.xe _ ⟨(ht _ _ _ d).symm, H, I, Ext.rfl'⟩
  · refine GQ.eqBool_refG hab (wpAny_mono (h A pins s σ H (.ref a) (.ref b) r0 _ _ sb I rfl rfl d) (fun r s' q => ?_) fun _ _ x => x)
    obtain ⟨hr', q⟩ := q
    exact ⟨r0, hr', rfl, q⟩
/-- x == y as an expression -/
def rEqB (D : Eqb) : R2 := fun x y H Q => ∃ b, D x y b H ∧ ∀ H', Ext H H' → Q (.bl b) H'
theorem op_eqB (h : RcB X n D) (hr : Room n X.A) : OpR X (compareOp .Eq) (rEqB D) := by
  intro pins s σ H x y v u Q I rx ry hq
  obtain ⟨b, d, q⟩ := hq
  show wpAny (model X.prog X.w) X.A (richCompare .Eq v u) (EP X pins σ Q) X.xe s
  refine wpAny_mono (h X.A pins s σ H x y b v u ⟨hr, rfl⟩ I rx ry d) (fun r s' z => ?_) fun _ _ x => x
  obtain ⟨hr', H', I', e⟩ := z
  subst hr'
  exact ⟨.bl b, H', I', rfl, q H' e⟩
end
end L2
namespace LS
open PySem L2
/-! == of stacks and of entries -/
mutual
def eqS : Ent → Ent → Bool
  | .rule _ z ds, .rule _ z' ds' => eqRule z z' ds ds'
  | .stk _ es, .stk _ fs => eqEs es fs
  | _, _ => false
def eqEs : List Ent → List Ent → Bool
  | [], [] => true
  | e :: es, f :: fs => (decide (e.at_ = f.at_) || eqS e f) && eqEs es fs
  | _, _ => false
end
/-- as == inside a tuple sees it: the same object is equal to itself -/
def eqE (e f : Ent) : Bool := decide (e.at_ = f.at_) || eqS e f
def eqAtN (es fs : List Ent) (i : Nat) : Bool := match es[i]?, fs[i]? with
  | some e, some f => eqE e f
  | _, _ => true
theorem eqEs_all : ∀ es fs : List Ent, ((List.range (min es.length fs.length)).all (eqAtN es fs) && es.length == fs.length) = eqEs es fs
  | [], [] => by simp [eqEs]
  | [], f :: fs => by simp [eqEs]
  | e :: es, [] => by simp [eqEs]
  | e :: es, f :: fs => by
    have ih := eqEs_all es fs
    rw [eqEs, ← ih]
    have h1 : min (e :: es).length (f :: fs).length = min es.length fs.length + 1 := by
      show min (es.length + 1) (fs.length + 1) = _
      omega
    have h2 : ((e :: es).length == (f :: fs).length) = (es.length == fs.length) := by simp
    have h3 : (List.map Nat.succ (List.range (min es.length fs.length))).all (eqAtN (e :: es) (f :: fs)) = (List.range (min es.length fs.length)).all (eqAtN es fs) := by
      rw [List.all_map]
      rfl
    rw [h1, h2, List.range_succ_eq_map, List.all_cons, h3, Bool.and_assoc]
    rfl
/-- further facts of the two classes -/
structure EqK (K : PySem.W.Frag) (CR CS : Addr) : Prop where
  sr : PySem.W.kitOne K (.ref CS) (.ref CR) = some false
  n1 : PySem.W.notFirst K CR (.ref CS) = true
  n2 : PySem.W.notFirst K CS (.ref CR) = true
theorem notFirst_self {K : PySem.W.Frag} {C : Addr} : PySem.W.notFirst K C (.ref C) = true := by simp [PySem.W.notFirst]
def DRc (K : PySem.W.Frag) (CR CS : Addr) (d : Nat) : Eqb := fun x y r H => ∃ e1 e2, x = refE e1 ∧ y = refE e2 ∧ EntAt K CR CS H e1 ∧ EntAt K CR CS H e2 ∧ depthE e1 ≤ d ∧ r = eqS e1 e2
def DEnt (K : PySem.W.Frag) (CR CS : Addr) (d : Nat) : Eqb := fun x y r H => ∃ e1 e2, x = refE e1 ∧ y = refE e2 ∧ EntAt K CR CS H e1 ∧ EntAt K CR CS H e2 ∧ depthE e1 ≤ d ∧ r = eqE e1 e2
theorem mon_ent {K : PySem.W.Frag} {CR CS : Addr} {d : Nat} : MonB (DEnt K CR CS d) := fun x y b H H' e h => by
  obtain ⟨e1, e2, h1, h2, h3, h4, h5, h6⟩ := h
  exact ⟨e1, e2, h1, h2, ent_same e _ h3, ent_same e _ h4, h5, h6⟩
theorem eqB_ent {X : Cx} {n : Nat} {CR CS : Addr} {d : Nat} (h : RcB X n (DRc X.K CR CS d)) : EqB X n (DEnt X.K CR CS d) := by
  intro A pins s σ H x y r0 u v sb I rx ry hd
  obtain ⟨e1, e2, rfl, rfl, h1, h2, h3, rfl⟩ := hd
  cases rx
  cases ry
  by_cases hab : e1.at_ = e2.at_
  · have e : eqE e1 e2 = true := by
      unfold eqE
      rw [decide_eq_true hab, Bool.true_or]
    rw [hab]
    exact SeqAt.EqAt.same (A := A) (s := s) (.ref e2.at_) X.prog X.w X.xe _ ⟨e.symm, H, I, Ext.rfl'⟩
  · have e : eqE e1 e2 = eqS e1 e2 := by
      unfold eqE
      rw [decide_eq_false hab, Bool.false_or]
    refine GQ.eqBool_refG hab (PySem.wpAny_mono (h A pins s σ H (refE e1) (refE e2) (eqS e1 e2) _ _ sb I rfl rfl ⟨e1, e2, rfl, rfl, h1, h2, h3, rfl⟩) (fun r s' q => ?_) fun _ _ x => x)
    obtain ⟨hr', q⟩ := q
    exact ⟨eqS e1 e2, hr', e.symm, q⟩
/-- what Rule.__eq__ answers -/
def RR (K : PySem.W.Frag) (CR CS : Addr) : Addr → Addr → Bool → Hp → Prop := fun a b r H => ∃ z ds e2, EntAt K CR CS H (.rule a z ds) ∧ EntAt K CR CS H e2 ∧ e2.at_ = b ∧ r = eqS (.rule a z ds) e2
def RS (K : PySem.W.Frag) (CR CS : Addr) (d : Nat) : Addr → Addr → Bool → Hp → Prop := fun a b r H => ∃ es e2, EntAt K CR CS H (.stk a es) ∧ EntAt K CR CS H e2 ∧ e2.at_ = b ∧ depthEs es ≤ d ∧ r = eqS (.stk a es) e2
abbrev sSEq : Stmt := inClass (top i_Stack) 8
section
variable {P : Program} {w : World} {K : PySem.W.Frag} {mg : Str → Option Value} {base : Heap} {CR CS : Addr}
/-- the class of an entry, and whether it is Rule -/
theorem ent_clsR {H : Hp} {e : Ent} (T : StackK K mg CR CS) (Z : EqK K CR CS) (h : EntAt K CR CS H e) : ∃ t, TyX K H (refE e) t ∧ PySem.W.kitOne K t (.ref CR) = some (match e with | .stk _ _ => false | .rule _ _ _ => true) := by
  cases e with
  | rule p z ds =>
    obtain ⟨⟨dx, a, hp, _⟩, _⟩ := h
    exact ⟨.ref CR, .base (.ins hp T.R.cl T.NR.ha T.NR.hn T.NR.ht T.NR.hm), kit_self⟩
  | stk p es =>
    obtain ⟨⟨dx, e, r, m, ms, h1, _⟩, _⟩ := h
    exact ⟨.ref CS, .base (.ins h1 T.cl T.N.ha T.N.hn T.N.ht T.N.hm), Z.sr⟩
theorem ok_reqB {f : Addr} {fd : FuncData} (F : Fun K "__eq__" "Rule.__eq__" sREq f fd) (T : StackK K mg CR CS) (Z : EqK K CR CS) : FnOk P w K mg base CX0 1 f fd ["self", "other"] (spEqB (RR K CR CS)) := by
  refine F.ok scREq (fun vs H Q E h => ?_) (fun cdv A outer s H vs Q E hr h => ?_)
  · obtain ⟨a, b, r, rfl, _⟩ := h
    rfl
  · obtain ⟨p, q, r, rfl, ⟨z, ds, e2, h1, h2, rfl, rfl⟩, k⟩ := h
    have hu : (A.deeper (PyProof.Rows.envOfC "Rule.__eq__" (defScope sREq) s.heap.objs.size f cdv)).units + 64 < cLine := by have := hr.un; omega
    refine ⟨_, pss_one (ps_ret (pe_and (pe_callB call_isi (by rfl) T.isi (by decide +kernel) (pa_cons (pv 1) (pa_cons (pe_glob (v := .ref CR) (by rfl) T.R.g rfl) pa_nil)))
      (pe_and (pe_cmpR op_eq (pe_fld (pv 0) rfl) (pe_fld (pv 1) rfl) (nomark _)) (pe_one (pe_cmpR (op_eqD hu) (pe_fld (pv 0) rfl) (pe_fld (pv 1) rfl) (nomark _)))))), ?_⟩
    obtain ⟨t, ht, hk⟩ := ent_clsR T Z h2
    refine ⟨_, rfl, refE e2, .ref CR, t, .ref CR, _, rfl, .own CR, ht, hk, _, rfl, ?_⟩
    cases e2 with
    | stk p2 es2 =>
      refine iteF ?_
      exact k H (Same.refl H)
    | rule p2 z' ds' =>
      refine iteT ?_
      obtain ⟨⟨dx, a, hp, hd⟩, s1⟩ := h1
      obtain ⟨⟨dy, b, hq, hd'⟩, s2⟩ := h2
      have k : Q (.bl (eqRule z z' ds ds')) H := k H (Same.refl H)
      refine ⟨_, rfl, p, CR, dx, _, _, rfl, hp, T.R.cl, T.R.nM, rule_m, _, rfl, p2, CR, dy, _, _, rfl, hq, T.R.cl, T.R.nM, rule_m, rfl, _, rfl, ?_⟩
      have e : decide (V.str z = V.str z') = decide (z = z') := by
        by_cases h : z = z'
        · rw [h]
          simp
        · rw [decide_eq_false h, decide_eq_false (fun q => h (V.str.inj q))]
      rw [e]
      refine ite2 (fun h => ?_) (fun h => ?_)
      · refine ⟨_, rfl, p, CR, dx, _, _, rfl, hp, T.R.cl, T.R.nC, rule_c, _, rfl, p2, CR, dy, _, _, rfl, hq, T.R.cl, T.R.nC, rule_c, _, _, hd, hd', okD_sh s1, okD_sh s2, ?_⟩
        unfold eqRule at k
        rw [h, Bool.true_and] at k
        exact k
      · unfold eqRule at k
        rw [Bool.eq_false_iff.mpr h, Bool.false_and] at k
        exact k
/-- the own == of both classes, as attributes -/
structure OwnEqK (P : Program) (w : World) (K : PySem.W.Frag) (mg : Str → Option Value) (base : Heap) (C : Addr) (k : Nat) (sp : Sp) where
  {a : Addr}
  {fd : FuncData}
  G : FnOk P w K mg base CX0 k a fd ["self", "other"] sp
  b : Binds K fd ["self", "other"] []
  eq : PySem.W.findIn K (.ref C) "__eq__" = some (some (.ref a))
  fn : PySem.W.isFn K (.ref a) = true
theorem rc_rule {X : Cx} (T : StackK X.K X.mg CR CS) (Z : EqK X.K CR CS) (GR : OwnEqK X.prog X.w X.K X.mg X.base CR 1 (spEqB (RR X.K CR CS))) (d : Nat) :
    RcB X 1 (fun x y r H => ∃ p z ds e2, x = .ref p ∧ y = refE e2 ∧ EntAt X.K CR CS H (.rule p z ds) ∧ EntAt X.K CR CS H e2 ∧ r = eqS (.rule p z ds) e2) :=
  (rcB_ins (C := CR) GR.G GR.eq GR.fn GR.b pass0).imp fun x y b H h => by
    obtain ⟨p, z, ds, e2, rfl, rfl, h1, h2, rfl⟩ := h
    obtain ⟨⟨dx, a, hp, hd⟩, _⟩ := id h1
    cases e2 with
    | rule p2 z' ds' =>
      obtain ⟨⟨dy, b, hq, _⟩, _⟩ := id h2
      exact ⟨p, p2, CR, dx, dy, _, _, rfl, rfl, hp, hq, notFirst_self, z, ds, _, h1, h2, rfl, rfl⟩
    | stk p2 es =>
      obtain ⟨⟨dy, e, r, m, ms, hq, _⟩, _⟩ := id h2
      exact ⟨p, p2, CS, dx, dy, _, _, rfl, rfl, hp, hq, Z.n1, z, ds, _, h1, h2, rfl, rfl⟩
theorem rc_stk {X : Cx} {n d : Nat} (T : StackK X.K X.mg CR CS) (Z : EqK X.K CR CS) (GS : OwnEqK X.prog X.w X.K X.mg X.base CS n (spEqB (RS X.K CR CS d))) :
    RcB X n (fun x y r H => ∃ p es e2, x = .ref p ∧ y = refE e2 ∧ EntAt X.K CR CS H (.stk p es) ∧ EntAt X.K CR CS H e2 ∧ depthEs es ≤ d ∧ r = eqS (.stk p es) e2) :=
  (rcB_ins (C := CS) GS.G GS.eq GS.fn GS.b pass0).imp fun x y b H h => by
    obtain ⟨p, es, e2, rfl, rfl, h1, h2, h3, rfl⟩ := h
    obtain ⟨⟨dx, e, r, m, ms, hp, _⟩, _⟩ := id h1
    cases e2 with
    | rule p2 z' ds' =>
      obtain ⟨⟨dy, b, hq, _⟩, _⟩ := id h2
      exact ⟨p, p2, CR, dx, dy, _, _, rfl, rfl, hp, hq, Z.n2, es, _, h1, h2, rfl, h3, rfl⟩
    | stk p2 es =>
      obtain ⟨⟨dy, e, r, m, ms, hq, _⟩, _⟩ := id h2
      exact ⟨p, p2, CS, dx, dy, _, _, rfl, rfl, hp, hq, notFirst_self, _, _, h1, h2, rfl, h3, rfl⟩
theorem scSEq : FnScope ["self", "other"] ["self", "other"] (defScope sSEq) := ⟨rfl, rfl, rfl, by decide +kernel, rfl, by decide +kernel, by decide +kernel⟩
theorem depthEs_mem {es : List Ent} {i : Nat} {e : Ent} (h : es[i]? = some e) : depthE e ≤ depthEs es := depthEs_get h
theorem ok_seqB {f : Addr} {fd : FuncData} (F : Fun K "__eq__" "Stack.__eq__" sSEq f fd) (b : Binds K fd ["self", "other"] []) (eq : PySem.W.findIn K (.ref CS) "__eq__" = some (some (.ref f))) (fn : PySem.W.isFn K (.ref f) = true)
    (T : StackK K mg CR CS) (Z : EqK K CR CS) (GR : OwnEqK P w K mg base CR 1 (spEqB (RR K CR CS))) : ∀ d : Nat, FnOk P w K mg base CX0 (2 * d + 3) f fd ["self", "other"] (spEqB (RS K CR CS d)) := by
  intro d
  have step : ∀ (d n : Nat), (∀ X : Cx, X.prog = P → X.w = w → X.K = K → X.mg = mg → X.base = base → RcB X n (DRc X.K CR CS d)) → FnOk P w K mg base CX0 (n + 2) f fd ["self", "other"] (spEqB (RS K CR CS d)) := by
    intro d n hrc
    refine F.ok scSEq (fun vs H Q E h => ?_) (fun cdv A outer s H vs Q E hr h => ?_)
    · obtain ⟨a, b, r, rfl, _⟩ := h
      rfl
    · obtain ⟨p, q, r, rfl, ⟨es, e2, h1, h2, rfl, hd, rfl⟩, k⟩ := h
      refine ⟨_, pss_one (ps_ret (pe_and (pe_callB call_isi (by rfl) T.isi (by decide +kernel) (pa_cons (pv 1) (pa_cons (pe_glob (v := .ref CS) (by rfl) T.g rfl) pa_nil)))
        (pe_one (pe_cmpR (op_eqB (rcB_tup mon_ent (eqB_ent (hrc _ rfl rfl rfl rfl rfl))) hr) (pe_fld (pv 0) rfl) (pe_fld (pv 1) rfl) (nomark _))))), ?_⟩
      obtain ⟨t, ht, hk⟩ := ent_cls T h2
      refine ⟨_, rfl, refE e2, .ref CS, t, .ref CS, _, rfl, .own CS, ht, hk, _, rfl, ?_⟩
      cases e2 with
      | rule p2 z' ds' =>
        refine iteF ?_
        exact k H (Same.refl H)
      | stk p2 fs =>
        refine iteT ?_
        obtain ⟨⟨dx, e, r, m, ms, a1, a2, a3, a4, a5, l1⟩, a6⟩ := id h1
        obtain ⟨⟨dx', e', r', m', ms', b1, b2, b3, b4, b5, l2⟩, b6⟩ := id h2
        refine ⟨_, rfl, p, CS, dx, _, _, rfl, a1, T.cl, T.nE, st_e, _, rfl, p2, CS, dx', _, _, rfl, b1, T.cl, T.nE, st_e, ?_⟩
        refine ⟨_, ⟨e, e', _, _, eqAtN es fs, rfl, rfl, a2, b2, ?_, rfl⟩, fun H' S => ?_⟩
        · intro i x y hx hy
          rw [List.getElem?_map] at hx hy
          cases qx : es[i]? with
          | none => rw [qx] at hx; cases hx
          | some e1 =>
            cases qy : fs[i]? with
            | none => rw [qy] at hy; cases hy
            | some e2 =>
              rw [qx] at hx
              rw [qy] at hy
              cases hx
              cases hy
              refine ⟨e1, e2, rfl, rfl, ents_get a6 qx, ents_get b6 qy, Nat.le_trans (depthEs_mem qx) hd, ?_⟩
              unfold eqAtN
              rw [qx, qy]
        · rw [List.length_map, List.length_map, eqEs_all es fs]
          exact k H' S
  induction d with
  | zero =>
    refine step 0 1 fun X e1 e2 e3 e4 e5 => ?_
    subst e1 e2 e3 e4 e5
    refine (rc_rule T Z GR 0).imp fun x y b H h => ?_
    obtain ⟨e1, e2, rfl, rfl, h1, h2, h3, rfl⟩ := h
    cases e1 with
    | rule p z ds => exact ⟨p, z, ds, e2, rfl, rfl, h1, h2, rfl⟩
    | stk p es =>
      have q : 1 + depthEs es ≤ 0 := h3
      omega
  | succ d ih =>
    refine step (d + 1) (2 * d + 3) fun X e1 e2 e3 e4 e5 => ?_
    subst e1 e2 e3 e4 e5
    refine (((rc_rule T Z GR 0).mono (by omega)).or (rc_stk T Z ⟨ih, b, eq, fn⟩)).imp fun x y b H h => ?_
    obtain ⟨e1, e2, rfl, rfl, h1, h2, h3, rfl⟩ := h
    cases e1 with
    | rule p z ds => exact .inl ⟨p, z, ds, e2, rfl, rfl, h1, h2, rfl⟩
    | stk p es =>
      have q : 1 + depthEs es ≤ d + 1 := h3
      exact .inr ⟨p, es, e2, rfl, rfl, h1, h2, by omega, rfl⟩
end
end LS
namespace LS
open PySem L2
/-- a drawing row: the script, how far, two numbers -/
def RowIs (H : Hp) (r sc : Addr) : Prop := ∃ i s b : Int, 0 ≤ i ∧ H r = some (.lst [.ref sc, .int i, .int s, .int b])
/-- a drawn number: some k below many; the row is another one, all else stands -/
def spTaken (K : PySem.W.Frag) : Sp := fun vs H Q _ => ∃ (r sc : Addr) (ns : List Int) (many : Int), vs = [.ref r, .int many] ∧ 0 < many ∧ many < 9223372036854775808 ∧ SqL K H sc (ns.map V.int) ∧ RowIs H r sc ∧
  ∀ (k : Int) (H' : Hp), 0 ≤ k → k < many → RowIs H' r sc → (∀ q, q ≠ r → H' q = H q) → Q (.int k) H'
theorem seq_but {K : PySem.W.Frag} {H H' : Hp} {r sc : Addr} {ns : List Int} (hs : SqL K H sc (ns.map V.int)) (hr : RowIs H r sc) (e : ∀ q, q ≠ r → H' q = H q) : SqL K H' sc (ns.map V.int) := by
  obtain ⟨i, s, b, _, hr⟩ := hr
  by_cases h : sc = r
  · subst h
    rcases hs with (q | ⟨o, q⟩) | q
    · rw [hr] at q
      cases ns with
      | nil => simp at q
      | cons n ns => simp at q
    · rw [hr] at q
      cases q
    · exact .inr q
  · rcases hs with (q | ⟨o, q⟩) | q
    · exact .inl (.inl (by rw [e _ h]; exact q))
    · exact .inl (.inr ⟨o, by rw [e _ h]; exact q⟩)
    · exact .inr q
/-- the drawing row at r, the script at sc -/
def Drw (K : PySem.W.Frag) (H : Hp) (r sc : Addr) (ns : List Int) : Prop := SqL K H sc (ns.map V.int) ∧ RowIs H r sc
theorem row_tup {K : PySem.W.Frag} {H H' : Hp} {r sc a : Addr} {xs : List V} (hr : RowIs H r sc) (e : SameBut r H H') (h : SqT K H a xs) : SqT K H' a xs := by
  obtain ⟨i, s, b, _, hr⟩ := hr
  have ne : ∀ {o : HO}, H a = some o → (∀ l, o ≠ .lst l) → a ≠ r := fun {o} q n z => by
    rw [z, hr] at q
    exact n _ (Option.some.inj q).symm
  rcases h with (h | ⟨o, h⟩) | h
  · exact .inl (.inl (e _ _ (ne h fun _ z => nomatch z) h))
  · exact .inl (.inr ⟨o, e _ _ (ne h fun _ z => nomatch z) h⟩)
  · exact .inr h
mutual
theorem row_dp {K : PySem.W.Frag} {H H' : Hp} {r sc : Addr} (hr : RowIs H r sc) (e : SameBut r H H') : ∀ (d : PyData) (v : V), noLs d = true → Dp K H v d → Dp K H' v d
  | .none, _, _, h => by cases h; exact .non
  | .bool _, _, _, h => by cases h; exact .bl _
  | .int _, _, _, h => by cases h; exact .int _
  | .str _, _, _, h => by cases h; exact .str _
  | .list ds, _, n, h => nomatch n
  | .tuple ds, _, n, h => by
    cases h with
    | tup hs ha => exact .tup (row_tup hr e hs) (row_dps hr e ds _ n ha)
  | .dict _, _, n, h => nomatch n
theorem row_dps {K : PySem.W.Frag} {H H' : Hp} {r sc : Addr} (hr : RowIs H r sc) (e : SameBut r H H') : ∀ (ds : List PyData) (vs : List V), noLss ds = true → DpAll K H vs ds → DpAll K H' vs ds
  | [], _, _, h => by cases h; exact .nil
  | d :: ds, _, n, h => by
    cases h with
    | cons h1 h2 =>
      obtain ⟨n1, n2⟩ := Bool.and_eq_true_iff.mp (show (noLs d && noLss ds) = true from n)
      exact .cons (row_dp hr e d _ n1 h1) (row_dps hr e ds _ n2 h2)
end
theorem row_ne {H : Hp} {r sc q : Addr} {o : HO} (hr : RowIs H r sc) (hq : H q = some o) (n : ∀ a, o ≠ .lst (.ref sc :: a)) : q ≠ r := fun z => by
  obtain ⟨i, s, b, _, hr⟩ := hr
  rw [z, hr] at hq
  exact n _ (Option.some.inj hq).symm
theorem row_new {H : Hp} {r sc q : Addr} {o : HO} (hr : RowIs H r sc) (hq : H q = none) : RowIs (upd H q o) r sc := by
  obtain ⟨i, s, b, h0, hr⟩ := hr
  exact ⟨i, s, b, h0, by rw [upd_ne (ne_of_none hr hq)]; exact hr⟩
theorem seq_new {K : PySem.W.Frag} {H : Hp} {sc q : Addr} {xs : List V} {o : HO} (hs : SqL K H sc xs) (hq : H q = none) : SqL K (upd H q o) sc xs := (same_upd hq (Same.refl H)).seq hs
theorem seq_row {K : PySem.W.Frag} {H H' : Hp} {r sc : Addr} {ns : List Int} (hs : SqL K H sc (ns.map V.int)) (hr : RowIs H r sc) (e : SameBut r H H') : SqL K H' sc (ns.map V.int) := by
  obtain ⟨i, s, b, _, hr⟩ := hr
  have ne : ∀ {o : HO}, H sc = some o → (∀ l, o ≠ .lst (.ref sc :: l)) → sc ≠ r := fun {o} q n z => by
    have q2 := q
    rw [z, hr] at q2
    exact n _ (Option.some.inj q2).symm
  rcases hs with (q | ⟨o, q⟩) | q
  · refine .inl (.inl (e _ _ (ne q fun l z => ?_) q))
    cases ns with
    | nil => simp at z
    | cons n ns => simp at z
  · exact .inl (.inr ⟨o, e _ _ (ne q fun l z => nomatch z) q⟩)
  · exact .inr q
theorem but_of {r : Addr} {H H' : Hp} (e : ∀ q, q ≠ r → H' q = H q) : SameBut r H H' := fun b o hb q => (e b hb).trans q
theorem SameBut.trans {r : Addr} {H H1 H2 : Hp} (a : SameBut r H H1) (b : SameBut r H1 H2) : SameBut r H H2 := fun c o h q => b c o h (a c o h q)
theorem SameBut.of {r : Addr} {H H1 : Hp} (a : Same H H1) : SameBut r H H1 := fun c o _ q => a c o q
theorem SameBut.new {r p : Addr} {H H1 : Hp} {o : HO} (a : SameBut r H H1) (n : H p = none) : SameBut r H (upd H1 p o) := fun c u h q => by
  rw [upd_ne (ne_of_none q n)]
  exact a c u h q
theorem row_same {H H' : Hp} {r sc : Addr} (h : RowIs H r sc) (e : Same H H') : RowIs H' r sc := by
  obtain ⟨i, s, b, h0, h⟩ := h
  exact ⟨i, s, b, h0, e _ _ h⟩
theorem Drw.same {K : PySem.W.Frag} {H H' : Hp} {r sc : Addr} {ns : List Int} (h : Drw K H r sc ns) (e : Same H H') : Drw K H' r sc ns := ⟨e.seq h.1, row_same h.2 e⟩
/-- a new list is not the script -/
def Far (K : PySem.W.Frag) (l sc : Addr) (xs : List V) : Prop := l ≠ sc ∨ ∀ H, SqL K H sc xs
theorem far_of {K : PySem.W.Frag} {H : Hp} {l sc : Addr} {xs : List V} (h : SqL K H sc xs) (n : H l = none) : Far K l sc xs := by
  rcases h with (h | ⟨o, h⟩) | h
  · exact .inl fun e => by rw [e, h] at n; cases n
  · exact .inl fun e => by rw [e, h] at n; cases n
  · exact .inr fun _ => .inr h
theorem far_upd {K : PySem.W.Frag} {H : Hp} {l sc : Addr} {xs : List V} {o : HO} (F : Far K l sc xs) (h : SqL K H sc xs) : SqL K (upd H l o) sc xs := by
  rcases F with ne | F
  · rcases h with (h | ⟨z, h⟩) | h
    · exact .inl (.inl (by rw [upd_ne (Ne.symm ne)]; exact h))
    · exact .inl (.inr ⟨z, by rw [upd_ne (Ne.symm ne)]; exact h⟩)
    · exact .inr h
  · exact F _
theorem ext_tup {K : PySem.W.Frag} {H H' : Hp} {a : Addr} {xs : List V} (e : LamX.ExtN H H') (h : SqT K H a xs) : SqT K H' a xs := by
  rcases h with (h | ⟨o, h⟩) | h
  · exact .inl (.inl (e _ _ h fun _ z => nomatch z))
  · exact .inl (.inr ⟨o, e _ _ h fun _ z => nomatch z⟩)
  · exact .inr h
theorem ext_lst {K : PySem.W.Frag} {H H' : Hp} {a : Addr} {xs : List V} (e : LamX.ExtN H H') (h : SqL K H a xs) : SqL K H' a xs := by
  rcases h with (h | ⟨o, h⟩) | h
  · exact .inl (.inl (e _ _ h fun _ z => nomatch z))
  · exact .inl (.inr ⟨o, e _ _ h fun _ z => nomatch z⟩)
  · exact .inr h
mutual
theorem ext_dp {K : PySem.W.Frag} {H H' : Hp} (e : LamX.ExtN H H') : ∀ (d : PyData) (v : V), Dp K H v d → Dp K H' v d
  | .none, _, h => by cases h; exact .non
  | .bool _, _, h => by cases h; exact .bl _
  | .int _, _, h => by cases h; exact .int _
  | .str _, _, h => by cases h; exact .str _
  | .list ds, _, h => by
    cases h with
    | lst hs ha => exact .lst (ext_lst e hs) (ext_dps e ds _ ha)
  | .tuple ds, _, h => by
    cases h with
    | tup hs ha => exact .tup (ext_tup e hs) (ext_dps e ds _ ha)
  | .dict _, _, h => by cases h
theorem ext_dps {K : PySem.W.Frag} {H H' : Hp} (e : LamX.ExtN H H') : ∀ (ds : List PyData) (vs : List V), DpAll K H vs ds → DpAll K H' vs ds
  | [], _, h => by cases h; exact .nil
  | d :: ds, _, h => by
    cases h with
    | cons h1 h2 => exact .cons (ext_dp e d _ h1) (ext_dps e ds _ h2)
end
/-- tables of code stay when the row changes -/
theorem tabs_row {T : List (Addr × Str)} {H H' : Hp} {r sc : Addr} (t : LamX.Tabs T H) (R : RowIs H r sc) (B : ∀ q, q ≠ r → H' q = H q) : LamX.Tabs T H' := fun p hp => by
  obtain ⟨ps, h1, h2, h3⟩ := t p hp
  refine ⟨ps, by rw [B _ (row_ne R h1 fun _ z => nomatch z)]; exact h1, h2, fun pos cv hc => ?_⟩
  obtain ⟨c, e1, e2⟩ := h3 pos cv hc
  exact ⟨c, e1, by rw [B _ (row_ne R e2 fun _ z => nomatch z)]; exact e2⟩
end LS
set_option maxHeartbeats 8000000
namespace LS
open PySem L2 TxS
/-! stacks when the drawing row changes -/
theorem row_ins {H H' : Hp} {r sc p : Addr} {o : HO} (R : RowIs H r sc) (e : SameBut r H H') (h : H p = some o) (n : ∀ xs, o ≠ .lst xs) : H' p = some o := e _ _ (row_ne R h fun a => n _) h
mutual
theorem ent_row {K : PySem.W.Frag} {CR CS : Addr} {H H' : Hp} {r sc : Addr} (R : RowIs H r sc) (e : SameBut r H H') : ∀ x : Ent, EntAt K CR CS H x → EntAt K CR CS H' x
  | .rule p z ds, ⟨⟨dx, a, hp, hd⟩, h2⟩ => ⟨⟨dx, a, row_ins R e hp (fun _ z => nomatch z), row_dp R e (.tuple ds) (.ref a) (okD_nl h2) hd⟩, h2⟩
  | .stk p es, ⟨⟨dx, q, rr, m, ms, h1, h2, h3, h4, h5⟩, h6⟩ => ⟨⟨dx, q, rr, m, ms, row_ins R e h1 (fun _ z => nomatch z), row_tup R e h2, row_tup R e h3, row_tup R e h4, h5⟩, ents_row R e es h6⟩
theorem ents_row {K : PySem.W.Frag} {CR CS : Addr} {H H' : Hp} {r sc : Addr} (R : RowIs H r sc) (e : SameBut r H H') : ∀ es : List Ent, EntsAt K CR CS H es → EntsAt K CR CS H' es
  | [], _ => True.intro
  | x :: es, ⟨h1, h2⟩ => ⟨ent_row R e x h1, ents_row R e es h2⟩
end
theorem misfit_at {es : List Ent} {i : Nat} (h1 : misfit (es.take i) = none) {e : Ent} (h2 : es[i]? = some e) (h3 : badAt es i e = true) : misfit es = some i := by
  have hi : i < es.length := (List.getElem?_eq_some_iff.mp h2).1
  have hn : (List.range i).find? (badI es) = none := by
    refine List.find?_eq_none.mpr fun j hj => ?_
    rw [List.mem_range] at hj
    have q := List.find?_eq_none.mp h1 j (List.mem_range.mpr (by rw [List.length_take]; omega))
    have hj2 : j < es.length := by omega
    have e1 : (es.take i)[j]? = some es[j] := by rw [List.getElem?_take, if_pos hj, List.getElem?_eq_getElem hj2]
    rw [bad_some e1] at q
    rw [bad_some (List.getElem?_eq_getElem hj2)]
    have e2 : (es.take i).take (j + 1) = es.take (j + 1) := by rw [List.take_take, Nat.min_eq_left (by omega)]
    unfold badAt at q ⊢
    rw [e2] at q
    exact q
  exact (find_snoc h2 hn).1 h3
theorem stk_ins {K : PySem.W.Frag} {CR CS : Addr} {H : Hp} {p : Addr} {es : List Ent} (h : EntAt K CR CS H (.stk p es)) : ∃ dx fs, H p = some (.ins CS dx fs) := by
  obtain ⟨⟨dx, e, r, m, ms, h1, _⟩, _⟩ := h
  exact ⟨dx, _, h1⟩
mutual
theorem ent_ext {K : PySem.W.Frag} {CR CS : Addr} {H H' : Hp} (e : LamX.ExtN H H') : ∀ x : Ent, EntAt K CR CS H x → EntAt K CR CS H' x
  | .rule p z ds, ⟨⟨dx, a, hp, hd⟩, h2⟩ => ⟨⟨dx, a, e _ _ hp (fun _ z => nomatch z), ext_dp e _ _ hd⟩, h2⟩
  | .stk p es, ⟨⟨dx, q, rr, m, ms, h1, h2, h3, h4, h5⟩, h6⟩ => ⟨⟨dx, q, rr, m, ms, e _ _ h1 (fun _ z => nomatch z), ext_tup e h2, ext_tup e h3, ext_tup e h4, h5⟩, ents_ext e es h6⟩
theorem ents_ext {K : PySem.W.Frag} {CR CS : Addr} {H H' : Hp} (e : LamX.ExtN H H') : ∀ es : List Ent, EntsAt K CR CS H es → EntsAt K CR CS H' es
  | [], _ => True.intro
  | x :: es, ⟨h1, h2⟩ => ⟨ent_ext e x h1, ents_ext e es h2⟩
end
theorem Drw.ext {K : PySem.W.Frag} {H H' : Hp} {r sc : Addr} {ns : List Int} (h : Drw K H r sc ns) (e : LamX.ExtN H H') : Drw K H' r sc ns := by
  obtain ⟨h1, i, s, b, h0, h2⟩ := h
  exact ⟨ext_lst e h1, i, s, b, h0, e _ _ h2 (fun _ z => nomatch z)⟩
/-- the drawing row, the script, the tables of code -/
def Bs (K : PySem.W.Frag) (H : Hp) (r sc : Addr) (ns : List Int) (TT : List (Addr × Str)) : Prop := Drw K H r sc ns ∧ LamX.Tabs TT H
theorem Bs.same {K : PySem.W.Frag} {H H' : Hp} {r sc : Addr} {ns : List Int} {TT : List (Addr × Str)} (h : Bs K H r sc ns TT) (S : Same H H') : Bs K H' r sc ns TT := ⟨h.1.same S, h.2.ext S⟩
theorem Bs.row {K : PySem.W.Frag} {H H' : Hp} {r sc : Addr} {ns : List Int} {TT : List (Addr × Str)} (h : Bs K H r sc ns TT) (R : RowIs H' r sc) (B : ∀ q, q ≠ r → H' q = H q) : Bs K H' r sc ns TT := ⟨⟨seq_but h.1.1 h.1.2 B, R⟩, tabs_row h.2 h.1.2 B⟩
end LS
set_option maxHeartbeats 4000000
namespace LS
open PySem PyProof.Rows
theorem pw_rising : ∀ (l : List Str) (p : Str), risingS p l = true → (p :: l).Pairwise (fun a b => a.cps.toList ≤ b.cps.toList)
  | [], p, _ => List.pairwise_singleton _ _
  | x :: r, p, h => by
    have h' : (!Spec.ltCps x.cps.toList p.cps.toList && risingS x r) = true := h
    rw [Bool.and_eq_true, Bool.not_eq_true', ltCps_eq] at h'
    have h1 : p.cps.toList ≤ x.cps.toList := List.not_lt.mp (of_decide_eq_false h'.1)
    have h2 := pw_rising r x h'.2
    refine List.pairwise_cons.mpr ⟨fun y hy => ?_, h2⟩
    rcases List.mem_cons.mp hy with rfl | hy
    · exact h1
    · exact List.le_trans h1 ((List.pairwise_cons.mp h2).1 y hy)
theorem pw_sorted {l : List Str} (h : sortedS l = true) : l.Pairwise (fun a b => a.cps.toList ≤ b.cps.toList) := by
  cases l with
  | nil => exact .nil
  | cons x r => exact pw_rising r x h
theorem str_of_list {a b : Str} (h : a.cps.toList = b.cps.toList) : a = b := by
  cases a with
  | mk x =>
    cases b with
    | mk y =>
      have e : x = y := Array.toList_inj.mp h
      rw [e]
theorem sortedS_uniq {l m : List Str} (p : l.Perm m) (h1 : sortedS l = true) (h2 : sortedS m = true) : l = m :=
  List.Perm.eq_of_pairwise (le := fun a b : Str => a.cps.toList ≤ b.cps.toList) (fun a b _ _ x y => str_of_list (List.le_antisymm x y)) (pw_sorted h1) (pw_sorted h2) p
theorem sortedS_same {l m : List Str} (n1 : l.Nodup) (n2 : m.Nodup) (h : ∀ x, x ∈ l ↔ x ∈ m) (h1 : sortedS l = true) (h2 : sortedS m = true) : l = m :=
  sortedS_uniq ((List.perm_ext_iff_of_nodup n1 n2).mpr h) h1 h2
theorem nodup_le : ∀ (L l : List Str), l.Nodup → (∀ x ∈ l, x ∈ L) → l.length ≤ L.length
  | [], l, _, h => by
    cases l with
    | nil => exact Nat.le_refl _
    | cons x l => exact nomatch h x List.mem_cons_self
  | a :: L, l, hn, h => by
    by_cases ha : a ∈ l
    · have q := nodup_le L (l.erase a) (hn.erase a) fun x hx => by
        obtain ⟨h1, h2⟩ := (hn.mem_erase_iff).mp hx
        rcases List.mem_cons.mp (h x h2) with z | z
        · exact (h1 z).elim
        · exact z
      have e := List.length_erase_of_mem ha
      have p := List.length_pos_of_mem ha
      rw [List.length_cons]
      omega
    · have q := nodup_le L l hn fun x hx => by
        rcases List.mem_cons.mp (h x hx) with z | z
        · exact (ha (z ▸ hx)).elim
        · exact z
      rw [List.length_cons]
      omega
end LS
namespace LS
open PySem L2
abbrev sRaised : Stmt := top i__law_raised
/-- the classes of errors that the law knows -/
structure ErrK (K : PySem.W.Frag) (mg : Str → Option Value) (CS CI : Addr) : Prop where
  gS : mg "StackError" = some (.ref CS)
  gVE : mg "ValueError" = none
  isi : mg "isinstance" = none
  exc : ExcC K CI
  xf : XfC K CI
  nP : PySem.W.findIn K (.ref CI) "part" = some none
  ve : PySem.W.kitOne K (.ref CI) (.type "ValueError") = some true
  exm : PySem.W.exmOne K (.ref CI) (.ref CS) = some true
  gI : mg "InvalidRule" = some (.ref CI)
  c1 : ∃ C, mg "InvalidStack" = some (.ref C) ∧ PySem.W.kitOne K (.ref CI) (.ref C) = some false
  c2 : ∃ C, mg "InvalidAnswers" = some (.ref C) ∧ PySem.W.kitOne K (.ref CI) (.ref C) = some false
  c3 : ∃ C, mg "InvalidWeights" = some (.ref C) ∧ PySem.W.kitOne K (.ref CI) (.ref C) = some false
  c4 : ∃ C, mg "UnknownRule" = some (.ref C) ∧ PySem.W.kitOne K (.ref CI) (.ref C) = some false
  c5 : ∃ C, mg "InvalidPlace" = some (.ref C) ∧ PySem.W.kitOne K (.ref CI) (.ref C) = some false
  c6 : ∃ C, mg "TooMany" = some (.ref C) ∧ PySem.W.kitOne K (.ref CI) (.ref C) = some false
  c7 : ∃ C, mg "UnknownModule" = some (.ref C) ∧ PySem.W.kitOne K (.ref CI) (.ref C) = some false
  c8 : ∃ C, mg "InvalidMode" = some (.ref C) ∧ PySem.W.kitOne K (.ref CI) (.ref C) = some false
  c9 : ∃ C, mg "UnknownView" = some (.ref C) ∧ PySem.W.kitOne K (.ref CI) (.ref C) = some false
/-- what the law's helper makes of a call: nothing raised: None; an InvalidRule: its part in a new tuple -/
def TRaised (CI : Addr) : (XK → Hp → VK → Prop) → Hp → VK → Prop := fun tl H Q =>
  tl (fun cls d H' => cls = .ref CI ∧ ∃ dd z, d = some dd ∧ H' dd = some (.xd [("part", .str z)]) ∧ ∀ H'' p, Same H' H'' → H'' p = some (.tup [.str "rule", .str z]) → Q (.ref p) H'') H fun _ H1 => Q .non H1
section
variable {X : Cx} {CS CI : Addr}
abbrev nRaised : List Str := ["_law_work", "e", "_law_kinds", "_law_at"]
theorem scRaised : FnScope nRaised ["_law_work"] (defScope sRaised) := ⟨rfl, rfl, rfl, by decide +kernel, rfl, by decide +kernel, by decide +kernel⟩
abbrev zR (X : Cx) (g : Addr) (cdg : Value) (s : Shared) (H : Hp) : Cx := (cxOf C8.CX0 X.prog X.w X.K X.mg X.base nRaised "_law_raised" (defScope sRaised) g cdg X.A X.stack s H C8.E0).nox
def suiteOf : List Stmt → List Stmt
  | .Try _ [.ExceptHandler _ _ s _] _ _ _ :: _ => s
  | _ => []
def tIs (K : PySem.W.Frag) (a : Addr) (cls : Value) (d : Option Addr) (c : V) : TE := tCB (rIsD K a cls d) (tCons (tVar 1) (tCons (tC c) tNil))
def tIs3 (K : PySem.W.Frag) (a : Addr) (cls : Value) (d : Option Addr) (c1 c2 c3 : Addr) : TE := tLst (tCons (tIs K a cls d (.ref c1)) (tCons (tIs K a cls d (.ref c2)) (tCons (tIs K a cls d (.ref c3)) tNil)))
def tsR (K : PySem.W.Frag) (CI D1 D2 D3 D4 D5 D6 D7 D8 D9 : Addr) (a : Addr) (cls : Value) (d : Option Addr) : TS :=
  tSeq (tAsg (tIs3 K a cls d CI D1 D2) (gName 2)) (tSeq (tAsg (tOp rCat (tVar 2) (tIs3 K a cls d D3 D4 D5)) (gName 2)) (tSeq (tAsg (tOp rCat (tVar 2) (tIs3 K a cls d D6 D7 D8)) (gName 2))
    (tSeq (tDrop (tBM K "list" rAppend (tVar 2) (tCons (tIs K a cls d (.ref D9)) tNil)))
    (tSeq (tIfS (tOr (tTest (tOp rNe (tBM K "list" (rCntF K) (tVar 2) (tCons (tC (.bl true)) tNil)) (tC (.int 1)))) (tNot (tB (tIs K a cls d (.ty "ValueError"))))) tNever tNext)
    (tSeq (tAsg (tBM K "list" (rIndexD K) (tVar 2) (tCons (tC (.bl true)) tNil)) (gName 3))
    (tSeq (tIfS (tTest (tOp rEq (tVar 3) (tC (.int 0)))) (tRet (tTup (tCons (tC (.str "rule")) (tCons (tXf a cls d CI "part" (tVar 1)) tNil)))) tNext) tNever))))))
theorem is_run {K : PySem.W.Frag} {a dd : Addr} {fs : List (Str × V)} {c : V} {cv : Value} {b : Bool} {σ : St} {H : Hp} {Q : VK} (h1 : σ[1]? = some (some (.ref a))) (hx : ExcC K CI) (hd : H dd = some (.xd fs)) (hc : ∀ u, RelV c u → u = cv)
    (hk : PySem.W.kitOne K (.ref CI) cv = some b) (q : Q (.bl b) H) : tIs K a (.ref CI) (some dd) c σ H Q := ⟨.ref a, h1, CI, c, cv, b, dd, fs, rfl, hx, rfl, hd, rfl, hc, hk, q⟩
theorem part_at {z : Str} : ([(("part" : Str), V.str z)] : List (Str × V)).lookup ("part" : Str) = some (.str z) := by simp [List.lookup]
theorem seq_set {te : TE} {i : Nat} {u : TS} {D : Ends} {σ : St} {H : Hp} (h : te σ H fun x H1 => u D (σ.set i (some x)) H1) : tSeq (tAsg te (gName i)) u D σ H := h
/-- the slots are as many as the names -/
theorem pss_len {Y : Cx} {l : List Stmt} {t : TS} (h : PSs Y l t) : PSs Y l (fun D σ H => σ.length = Y.N.length → t D σ H) := ⟨fun pins s σ H D I q => h.run pins s σ H D I (q I.len)⟩
theorem suite_raised {g : Addr} {cdg : Value} {s : Shared} {H : Hp} (T : ErrK X.K X.mg CS CI) (hu : X.A.units + 200 < cLine) : ∃ ts : Addr → Value → Option Addr → TS,
    (∀ (a : Addr) (oe : Obj) (cls : Value) (d : Option Addr) (pn : List (Addr × Obj)), Zc cls d oe → (∃ vs, oe.data = .fields vs) → PSs ((zR X g cdg s H).suite a ((a, oe) :: pn)) (suiteOf (defBody sRaised)) (ts a cls d)) ∧
    ∀ (a dd : Addr) (z : Str) (D : Ends) (H' : Hp) (f : St), H' dd = some (.xd [("part", .str z)]) → (∀ H'' p, Same H' H'' → H'' p = some (.tup [.str "rule", .str z]) → D.rt (.ref p) H'') → f.length = 4 → ts a (.ref CI) (some dd) D (f.set 1 (some (.ref a))) H' := by
  obtain ⟨D1, g1, k1⟩ := T.c1
  obtain ⟨D2, g2, k2⟩ := T.c2
  obtain ⟨D3, g3, k3⟩ := T.c3
  obtain ⟨D4, g4, k4⟩ := T.c4
  obtain ⟨D5, g5, k5⟩ := T.c5
  obtain ⟨D6, g6, k6⟩ := T.c6
  obtain ⟨D7, g7, k7⟩ := T.c7
  obtain ⟨D8, g8, k8⟩ := T.c8
  obtain ⟨D9, g9, k9⟩ := T.c9
  have hu1 : ∀ a : Addr, ((X.A.deeper (PyProof.Rows.envOfC "_law_raised" (defScope sRaised) s.heap.objs.size g cdg)).mark (some (.ref a))).units + 65 < cLine := fun a => by
    show X.A.units + 3 + 65 < cLine
    omega
  have isE : ∀ (a : Addr) (oe : Obj) (cls : Value) (d : Option Addr) (pn : List (Addr × Obj)), Zc cls d oe → (∃ vs, oe.data = .fields vs) → ∀ {c : Str} {C : Addr} {p1 p2 p3 p4 : Pos}, Gl (zR X g cdg s H) c → X.mg c = some (.ref C) → (hd : (c == ("__debug__" : Str)) = false := by decide) →
      PE ((zR X g cdg s H).suite a ((a, oe) :: pn)) (.Call (.Name "isinstance" p1) [.Name "e" p2, .Name c p3] [] p4) (tCB (rIsD X.K a cls d) (tCons (tVar 1) (tCons (tC (.ref C)) tNil))) := fun a oe cls d pn hz hf c C p1 p2 p3 p4 hg hm hd =>
    pe_callB (call_isD (X := zR X g cdg s H) hz hf) (by rfl) T.isi (by decide +kernel) (pa_cons (pv 1) (pa_cons (pe_glob (v := .ref C) hg hm rfl hd) pa_nil))
  have isV : ∀ (a : Addr) (oe : Obj) (cls : Value) (d : Option Addr) (pn : List (Addr × Obj)), Zc cls d oe → (∃ vs, oe.data = .fields vs) → ∀ {p1 p2 p3 p4 : Pos},
      PE ((zR X g cdg s H).suite a ((a, oe) :: pn)) (.Call (.Name "isinstance" p1) [.Name "e" p2, .Name "ValueError" p3] [] p4) (tCB (rIsD X.K a cls d) (tCons (tVar 1) (tCons (tC (.ty "ValueError")) tNil))) := fun a oe cls d pn hz hf p1 p2 p3 p4 =>
    pe_callB (call_isD (X := zR X g cdg s H) hz hf) (by rfl) T.isi (by decide +kernel) (pa_cons (pv 1) (pa_cons (pe_bltn (v := .ty "ValueError") (by rfl) T.gVE (by decide +kernel) rfl) pa_nil))
  refine ⟨tsR X.K CI D1 D2 D3 D4 D5 D6 D7 D8 D9, fun a oe cls d pn hz hf => (pss_cons (ps_set (i := 2) scRaised.nd rfl (.inl rfl) (pe_lst (pa_cons (isE a oe cls d pn hz hf (by rfl) T.gI) (pa_cons (isE a oe cls d pn hz hf (by rfl) g1) (pa_cons (isE a oe cls d pn hz hf (by rfl) g2) pa_nil)))))
        (pss_cons (ps_set (i := 2) scRaised.nd rfl (.inl rfl) (pe_op op_cat (pv 2) (pe_lst (pa_cons (isE a oe cls d pn hz hf (by rfl) g3) (pa_cons (isE a oe cls d pn hz hf (by rfl) g4) (pa_cons (isE a oe cls d pn hz hf (by rfl) g5) pa_nil))))))
        (pss_cons (ps_set (i := 2) scRaised.nd rfl (.inl rfl) (pe_op op_cat (pv 2) (pe_lst (pa_cons (isE a oe cls d pn hz hf (by rfl) g6) (pa_cons (isE a oe cls d pn hz hf (by rfl) g7) (pa_cons (isE a oe cls d pn hz hf (by rfl) g8) pa_nil))))))
        (pss_cons (ps_expr (pe_bm PySem.F.plainAttrs_list PySem.F.slot_list_append PySem.F.type_list_append mt_append (pv 2) (pa_cons (isE a oe cls d pn hz hf (by rfl) g9) pa_nil)))
        (pss_cons (ps_if (PW.pt (pw_or (pt_cmpR op_ne (pe_bm PySem.F.plainAttrs_list PySem.F.slot_list_count PySem.F.type_list_count mt_countF (pv 2) (pa_cons pe_bl pa_nil)) pe_int (nomark _)) (pw_or1 (pt_not (pt_val (isV a oe cls d pn hz hf)))))) pss_never pss_nil)
        (pss_cons (ps_set (i := 3) scRaised.nd rfl (.inl rfl) (pe_bm PySem.F.plainAttrs_list PySem.F.slot_list_index PySem.F.type_list_index (mt_indexD (hu1 a)) (pv 2) (pa_cons pe_bl pa_nil)))
        (pss_cons (ps_if (pt_cmpR op_eq (pv 3) pe_int (nomark _)) (pss_one (ps_ret (pe_tup (pa_cons pe_str (pa_cons (pe_xf (X := zR X g cdg s H) T.xf T.nP hz hf (pv 1)) pa_nil))))) pss_nil)
        pss_never))))))), ?_⟩
  intro a dd z D H' f hdd hk hf4
  obtain ⟨s0, s1, s2, s3, rfl⟩ : ∃ s0 s1 s2 s3, f = [s0, s1, s2, s3] := match f, hf4 with
    | [s0, s1, s2, s3], _ => ⟨s0, s1, s2, s3, rfl⟩
  have F3 : ∀ {σ : St} {H : Hp} {Q : VK} {c1 c2 c3 : Addr} {b1 b2 b3 : Bool}, σ[1]? = some (some (.ref a)) → H dd = some (.xd [("part", .str z)]) → PySem.W.kitOne X.K (.ref CI) (.ref c1) = some b1 → PySem.W.kitOne X.K (.ref CI) (.ref c2) = some b2 → PySem.W.kitOne X.K (.ref CI) (.ref c3) = some b3 →
      (∀ l, H l = none → Q (.ref l) (upd H l (.lst [.bl b1, .bl b2, .bl b3]))) → tIs3 X.K a (.ref CI) (some dd) c1 c2 c3 σ H Q := fun {σ H Q c1 c2 c3 b1 b2 b3} h1 hd k1 k2 k3 q =>
    is_run h1 T.exc hd (fun _ r => r) k1 (is_run h1 T.exc hd (fun _ r => r) k2 (is_run h1 T.exc hd (fun _ r => r) k3 ⟨by show 3 ≤ sizeLine; decide, q⟩))
  show tsR X.K CI D1 D2 D3 D4 D5 D6 D7 D8 D9 a (.ref CI) (some dd) D [s0, some (.ref a), s2, s3] H'
  unfold tsR
  refine seq_set (F3 rfl hdd kit_self k1 k2 fun l1 n1 => ?_)
  have S1 : Same H' (upd H' l1 (.lst [.bl true, .bl false, .bl false])) := same_upd n1 (Same.refl _)
  have e1 : upd H' l1 (.lst [.bl true, .bl false, .bl false]) l1 = some (.lst [.bl true, .bl false, .bl false]) := upd_same
  generalize upd H' l1 (.lst [.bl true, .bl false, .bl false]) = H1 at *
  refine ⟨_, rfl, F3 rfl (S1 _ _ hdd) k3 k4 k5 fun l2 n2 => ?_⟩
  have S2 : Same H1 (upd H1 l2 (.lst [.bl false, .bl false, .bl false])) := same_upd n2 (Same.refl _)
  have e2 : upd H1 l2 (.lst [.bl false, .bl false, .bl false]) l2 = some (.lst [.bl false, .bl false, .bl false]) := upd_same
  generalize upd H1 l2 (.lst [.bl false, .bl false, .bl false]) = H2 at *
  refine ⟨l1, l2, _, _, rfl, rfl, S2 _ _ e1, e2, by show 6 ≤ sizeLine; decide, fun l3 n3 => ?_⟩
  have S3 : Same H2 (upd H2 l3 (.lst ([V.bl true, .bl false, .bl false] ++ [V.bl false, .bl false, .bl false]))) := same_upd n3 (Same.refl _)
  have e3 : upd H2 l3 (.lst ([V.bl true, .bl false, .bl false] ++ [V.bl false, .bl false, .bl false])) l3 = some (.lst ([V.bl true, .bl false, .bl false] ++ [V.bl false, .bl false, .bl false])) := upd_same
  generalize upd H2 l3 (.lst ([V.bl true, .bl false, .bl false] ++ [V.bl false, .bl false, .bl false])) = H3 at *
  have T3 : Same H' H3 := (S1.trans S2).trans S3
  refine ⟨_, rfl, F3 rfl (T3 _ _ hdd) k6 k7 k8 fun l4 n4 => ?_⟩
  have S4 : Same H3 (upd H3 l4 (.lst [.bl false, .bl false, .bl false])) := same_upd n4 (Same.refl _)
  have e4 : upd H3 l4 (.lst [.bl false, .bl false, .bl false]) l4 = some (.lst [.bl false, .bl false, .bl false]) := upd_same
  generalize upd H3 l4 (.lst [.bl false, .bl false, .bl false]) = H4 at *
  refine ⟨l3, l4, _, _, rfl, rfl, S4 _ _ e3, e4, by show 9 ≤ sizeLine; decide, fun l5 n5 => ?_⟩
  have T4 : Same H' H4 := T3.trans S4
  have n5' : H' l5 = none := T4.free n5
  have T5 : Same H' (upd H4 l5 (.lst ([V.bl true, .bl false, .bl false] ++ [V.bl false, .bl false, .bl false] ++ [V.bl false, .bl false, .bl false]))) := same_upd n5' T4
  have e5 : upd H4 l5 (.lst ([V.bl true, .bl false, .bl false] ++ [V.bl false, .bl false, .bl false] ++ [V.bl false, .bl false, .bl false])) l5 = some (.lst ([V.bl true, .bl false, .bl false] ++ [V.bl false, .bl false, .bl false] ++ [V.bl false, .bl false, .bl false])) := upd_same
  generalize upd H4 l5 (.lst ([V.bl true, .bl false, .bl false] ++ [V.bl false, .bl false, .bl false] ++ [V.bl false, .bl false, .bl false])) = H5 at *
  refine ⟨_, rfl, .inl ⟨rfl, _, SqL.of e5⟩, is_run rfl T.exc (T5 _ _ hdd) (fun _ r => r) k9 ⟨l5, _, _, rfl, rfl, e5, by show 9 < sizeLine; decide, ?_⟩⟩
  have T6 : Same H' (upd H5 l5 (.lst ([V.bl true, .bl false, .bl false] ++ [V.bl false, .bl false, .bl false] ++ [V.bl false, .bl false, .bl false] ++ [V.bl false]))) := same_upd n5' T5
  have e6 : upd H5 l5 (.lst ([V.bl true, .bl false, .bl false] ++ [V.bl false, .bl false, .bl false] ++ [V.bl false, .bl false, .bl false] ++ [V.bl false])) l5 = some (.lst ([true, false, false, false, false, false, false, false, false, false].map V.bl)) := upd_same
  generalize upd H5 l5 (.lst ([V.bl true, .bl false, .bl false] ++ [V.bl false, .bl false, .bl false] ++ [V.bl false, .bl false, .bl false] ++ [V.bl false])) = H6 at *
  refine ⟨_, rfl, .inl ⟨rfl, _, SqL.of e6⟩, l5, _, .bl true, rfl, rfl, SqL.of e6, rfl, rfl, rfl, _, rfl, ?_⟩
  refine iteF ?_
  refine is_run rfl T.exc (T6 _ _ hdd) (fun _ r => r) T.ve ⟨_, rfl, ?_⟩
  refine iteF ?_
  have dps : ∀ bs : List Bool, DpAll X.K H6 (bs.map V.bl) (bs.map PyData.bool) := fun bs => by
    induction bs with
    | nil => exact .nil
    | cons b bs ih => exact .cons (.bl b) ih
  refine ⟨_, rfl, .inl ⟨rfl, _, SqL.of e6⟩, l5, .bl true, .bool true, _, 0, .bool true, rfl, rfl, .lst (SqL.of e6) (dps _), .bl true, by decide +kernel, by decide +kernel, rfl, rfl, fun m z' hm => (nomatch hm), ?_⟩
  refine ⟨_, rfl, rfl, _, rfl, ?_⟩
  refine iteT ?_
  refine ⟨_, rfl, rfl, rfl, dd, _, .str z, rfl, T6 _ _ hdd, part_at, by show 2 ≤ sizeLine; decide, fun p hp => ?_⟩
  exact hk _ p (same_upd (T6.free hp) T6) upd_same
theorem gives_raised {g : Addr} {cdg : Value} {q : Str} (T : ErrK X.K X.mg CS CI) (hu : X.A.units + 200 < cLine) : LamX.GivesTo X nRaised "_law_raised" (defScope sRaised) g cdg (defBody sRaised) "_law_work" q (TRaised CI) := by
  intro f c' s H Q tl act hc h
  obtain ⟨ts, h1, h2⟩ := suite_raised (g := g) (cdg := cdg) (s := s) (H := H) T hu
  refine ⟨_, pss_cons (ps_try_as (i := 1) (X := zR X g cdg s H) (c := .ref CS) (ts := fun a cls d D σ H => σ.length = nRaised.length → ts a cls d D σ H) (Wout := fun _ _ _ _ => False)
      (tb := fun W D σ H => ∃ Ech : XK, (∀ cls d σ' H', Ech cls d H' → W cls d σ' H') ∧ σ[0]? = some (some (.ref f)) ∧ H c' = some (LamX.CodeO c' q) ∧ tl Ech H fun _ H1 => D.nx σ H1)
      rfl rfl scRaised.nd rfl rfl ⟨rfl, by decide, .inl T.gS⟩ LamX.takes0 (fun W pn xe tk _ => ?_) (fun a oe cls d pn hz hf => pss_len (h1 a oe cls d pn hz hf))) (pss_one (ps_ret pe_non)), ?_⟩
  · refine ⟨fun pins s' σ H' D I h' => ?_⟩
    obtain ⟨Ech, hW, h1, h2, h3⟩ := h'
    exact (pss_one (ps_expr (act W pn xe Ech _ _ tk hW))).run pins s' σ H' D I ⟨h1, h2, h3⟩
  · refine ⟨fun cls d H' => cls = .ref CI ∧ ∃ dd z, d = some dd ∧ H' dd = some (.xd [("part", .str z)]) ∧ ∀ H'' p, Same H' H'' → H'' p = some (.tup [.str "rule", .str z]) → Q (.ref p) H'', ?_, rfl, hc, h⟩
    rintro cls d σ' H' ⟨rfl, dd, z, rfl, hdd, hk⟩
    refine ⟨true, T.exm, fun _ a ha => ?_, fun z => (nomatch z)⟩
    intro hl
    rw [List.length_set] at hl
    exact h2 a dd z _ H' σ' hdd (fun H'' p S e => hk H'' p S e) hl
end
end LS
set_option maxHeartbeats 8000000
namespace LS
open PySem L2
/-- the helper's classes as an InvalidStack meets them (C0: InvalidRule) -/
structure ErrS (K : PySem.W.Frag) (mg : Str → Option Value) (CS CI C0 : Addr) : Prop where
  gS : mg "StackError" = some (.ref CS)
  gVE : mg "ValueError" = none
  isi : mg "isinstance" = none
  exc : ExcC K CI
  xf : XfC K CI
  nP : PySem.W.findIn K (.ref CI) "index" = some none
  ve : PySem.W.kitOne K (.ref CI) (.type "ValueError") = some true
  exm : PySem.W.exmOne K (.ref CI) (.ref CS) = some true
  gI : mg "InvalidStack" = some (.ref CI)
  c0 : mg "InvalidRule" = some (.ref C0) ∧ PySem.W.kitOne K (.ref CI) (.ref C0) = some false
  c2 : ∃ C, mg "InvalidAnswers" = some (.ref C) ∧ PySem.W.kitOne K (.ref CI) (.ref C) = some false
  c3 : ∃ C, mg "InvalidWeights" = some (.ref C) ∧ PySem.W.kitOne K (.ref CI) (.ref C) = some false
  c4 : ∃ C, mg "UnknownRule" = some (.ref C) ∧ PySem.W.kitOne K (.ref CI) (.ref C) = some false
  c5 : ∃ C, mg "InvalidPlace" = some (.ref C) ∧ PySem.W.kitOne K (.ref CI) (.ref C) = some false
  c6 : ∃ C, mg "TooMany" = some (.ref C) ∧ PySem.W.kitOne K (.ref CI) (.ref C) = some false
  c7 : ∃ C, mg "UnknownModule" = some (.ref C) ∧ PySem.W.kitOne K (.ref CI) (.ref C) = some false
  c8 : ∃ C, mg "InvalidMode" = some (.ref C) ∧ PySem.W.kitOne K (.ref CI) (.ref C) = some false
  c9 : ∃ C, mg "UnknownView" = some (.ref C) ∧ PySem.W.kitOne K (.ref CI) (.ref C) = some false
section
variable {X : Cx} {CS CI C0 : Addr}
def tsS (K : PySem.W.Frag) (CI C0 D2 D3 D4 D5 D6 D7 D8 D9 : Addr) (a : Addr) (cls : Value) (d : Option Addr) : TS :=
  tSeq (tAsg (tIs3 K a cls d C0 CI D2) (gName 2)) (tSeq (tAsg (tOp rCat (tVar 2) (tIs3 K a cls d D3 D4 D5)) (gName 2)) (tSeq (tAsg (tOp rCat (tVar 2) (tIs3 K a cls d D6 D7 D8)) (gName 2))
    (tSeq (tDrop (tBM K "list" rAppend (tVar 2) (tCons (tIs K a cls d (.ref D9)) tNil)))
    (tSeq (tIfS (tOr (tTest (tOp rNe (tBM K "list" (rCntF K) (tVar 2) (tCons (tC (.bl true)) tNil)) (tC (.int 1)))) (tNot (tB (tIs K a cls d (.ty "ValueError"))))) tNever tNext)
    (tSeq (tAsg (tBM K "list" (rIndexD K) (tVar 2) (tCons (tC (.bl true)) tNil)) (gName 3))
    (tSeq (tIfS (tTest (tOp rEq (tVar 3) (tC (.int 0)))) tNever tNext)
    (tSeq (tIfS (tTest (tOp (rInT K) (tVar 3) (tTup (tCons (tC (.int 1)) (tCons (tC (.int 4)) tNil))))) (tRet (tTup (tCons (tOp (rIxL K) (tLst (tCons (tC (.str "")) (tCons (tC (.str "stack")) (tCons (tC (.str "")) (tCons (tC (.str "")) (tCons (tC (.str "number")) tNil)))))) (tVar 3)) (tCons (tXf a cls d CI "index" (tVar 1)) tNil)))) tNext) tNever)))))))
theorem suite_stack {g : Addr} {cdg : Value} {s : Shared} {H : Hp} (T : ErrS X.K X.mg CS CI C0) (hu : X.A.units + 200 < cLine) : ∃ ts : Addr → Value → Option Addr → TS,
    (∀ (a : Addr) (oe : Obj) (cls : Value) (d : Option Addr) (pn : List (Addr × Obj)), Zc cls d oe → (∃ vs, oe.data = .fields vs) → PSs ((zR X g cdg s H).suite a ((a, oe) :: pn)) (suiteOf (defBody sRaised)) (ts a cls d)) ∧
    ∀ (a dd : Addr) (i : Int) (D : Ends) (H' : Hp) (f : St), H' dd = some (.xd [("index", .int i)]) → (∀ H'' p, Same H' H'' → H'' p = some (.tup [.str "stack", .int i]) → D.rt (.ref p) H'') → f.length = 4 → ts a (.ref CI) (some dd) D (f.set 1 (some (.ref a))) H' := by
  obtain ⟨g0, k0⟩ := T.c0
  obtain ⟨D2, g2, k2⟩ := T.c2
  obtain ⟨D3, g3, k3⟩ := T.c3
  obtain ⟨D4, g4, k4⟩ := T.c4
  obtain ⟨D5, g5, k5⟩ := T.c5
  obtain ⟨D6, g6, k6⟩ := T.c6
  obtain ⟨D7, g7, k7⟩ := T.c7
  obtain ⟨D8, g8, k8⟩ := T.c8
  obtain ⟨D9, g9, k9⟩ := T.c9
  have hu1 : ∀ a : Addr, ((X.A.deeper (PyProof.Rows.envOfC "_law_raised" (defScope sRaised) s.heap.objs.size g cdg)).mark (some (.ref a))).units + 65 < cLine := fun a => by
    show X.A.units + 3 + 65 < cLine
    omega
  have isE : ∀ (a : Addr) (oe : Obj) (cls : Value) (d : Option Addr) (pn : List (Addr × Obj)), Zc cls d oe → (∃ vs, oe.data = .fields vs) → ∀ {c : Str} {C : Addr} {p1 p2 p3 p4 : Pos}, Gl (zR X g cdg s H) c → X.mg c = some (.ref C) → (hd : (c == ("__debug__" : Str)) = false := by decide) →
      PE ((zR X g cdg s H).suite a ((a, oe) :: pn)) (.Call (.Name "isinstance" p1) [.Name "e" p2, .Name c p3] [] p4) (tCB (rIsD X.K a cls d) (tCons (tVar 1) (tCons (tC (.ref C)) tNil))) := fun a oe cls d pn hz hf c C p1 p2 p3 p4 hg hm hd =>
    pe_callB (call_isD (X := zR X g cdg s H) hz hf) (by rfl) T.isi (by decide +kernel) (pa_cons (pv 1) (pa_cons (pe_glob (v := .ref C) hg hm rfl hd) pa_nil))
  have isV : ∀ (a : Addr) (oe : Obj) (cls : Value) (d : Option Addr) (pn : List (Addr × Obj)), Zc cls d oe → (∃ vs, oe.data = .fields vs) → ∀ {p1 p2 p3 p4 : Pos},
      PE ((zR X g cdg s H).suite a ((a, oe) :: pn)) (.Call (.Name "isinstance" p1) [.Name "e" p2, .Name "ValueError" p3] [] p4) (tCB (rIsD X.K a cls d) (tCons (tVar 1) (tCons (tC (.ty "ValueError")) tNil))) := fun a oe cls d pn hz hf p1 p2 p3 p4 =>
    pe_callB (call_isD (X := zR X g cdg s H) hz hf) (by rfl) T.isi (by decide +kernel) (pa_cons (pv 1) (pa_cons (pe_bltn (v := .ty "ValueError") (by rfl) T.gVE (by decide +kernel) rfl) pa_nil))
  refine ⟨tsS X.K CI C0 D2 D3 D4 D5 D6 D7 D8 D9, fun a oe cls d pn hz hf => (pss_cons (ps_set (i := 2) scRaised.nd rfl (.inl rfl) (pe_lst (pa_cons (isE a oe cls d pn hz hf (by rfl) g0) (pa_cons (isE a oe cls d pn hz hf (by rfl) T.gI) (pa_cons (isE a oe cls d pn hz hf (by rfl) g2) pa_nil)))))
        (pss_cons (ps_set (i := 2) scRaised.nd rfl (.inl rfl) (pe_op op_cat (pv 2) (pe_lst (pa_cons (isE a oe cls d pn hz hf (by rfl) g3) (pa_cons (isE a oe cls d pn hz hf (by rfl) g4) (pa_cons (isE a oe cls d pn hz hf (by rfl) g5) pa_nil))))))
        (pss_cons (ps_set (i := 2) scRaised.nd rfl (.inl rfl) (pe_op op_cat (pv 2) (pe_lst (pa_cons (isE a oe cls d pn hz hf (by rfl) g6) (pa_cons (isE a oe cls d pn hz hf (by rfl) g7) (pa_cons (isE a oe cls d pn hz hf (by rfl) g8) pa_nil))))))
        (pss_cons (ps_expr (pe_bm PySem.F.plainAttrs_list PySem.F.slot_list_append PySem.F.type_list_append mt_append (pv 2) (pa_cons (isE a oe cls d pn hz hf (by rfl) g9) pa_nil)))
        (pss_cons (ps_if (PW.pt (pw_or (pt_cmpR op_ne (pe_bm PySem.F.plainAttrs_list PySem.F.slot_list_count PySem.F.type_list_count mt_countF (pv 2) (pa_cons pe_bl pa_nil)) pe_int (nomark _)) (pw_or1 (pt_not (pt_val (isV a oe cls d pn hz hf)))))) pss_never pss_nil)
        (pss_cons (ps_set (i := 3) scRaised.nd rfl (.inl rfl) (pe_bm PySem.F.plainAttrs_list PySem.F.slot_list_index PySem.F.type_list_index (mt_indexD (hu1 a)) (pv 2) (pa_cons pe_bl pa_nil)))
        (pss_cons (ps_if (pt_cmpR op_eq (pv 3) pe_int (nomark _)) pss_never pss_nil)
        (pss_cons (ps_if (pt_cmpR (op_inT (hu1 a)) (pv 3) (pe_tup (pa_cons pe_int (pa_cons pe_int pa_nil))) (by with_unfolding_all rfl)) (pss_one (ps_ret (pe_tup (pa_cons (pe_ix ix_list (pe_lst (pa_cons pe_str (pa_cons pe_str (pa_cons pe_str (pa_cons pe_str (pa_cons pe_str pa_nil)))))) (pv 3) (fun _ _ => rfl)) (pa_cons (pe_xf (X := zR X g cdg s H) T.xf T.nP hz hf (pv 1)) pa_nil))))) pss_nil)
        pss_never)))))))), ?_⟩
  intro a dd i D H' f hdd hk hf4
  obtain ⟨s0, s1, s2, s3, rfl⟩ : ∃ s0 s1 s2 s3, f = [s0, s1, s2, s3] := match f, hf4 with
    | [s0, s1, s2, s3], _ => ⟨s0, s1, s2, s3, rfl⟩
  have F3 : ∀ {σ : St} {H : Hp} {Q : VK} {c1 c2 c3 : Addr} {b1 b2 b3 : Bool}, σ[1]? = some (some (.ref a)) → H dd = some (.xd [("index", .int i)]) → PySem.W.kitOne X.K (.ref CI) (.ref c1) = some b1 → PySem.W.kitOne X.K (.ref CI) (.ref c2) = some b2 → PySem.W.kitOne X.K (.ref CI) (.ref c3) = some b3 →
      (∀ l, H l = none → Q (.ref l) (upd H l (.lst [.bl b1, .bl b2, .bl b3]))) → tIs3 X.K a (.ref CI) (some dd) c1 c2 c3 σ H Q := fun {σ H Q c1 c2 c3 b1 b2 b3} h1 hd k1 k2 k3 q =>
    is_run h1 T.exc hd (fun _ r => r) k1 (is_run h1 T.exc hd (fun _ r => r) k2 (is_run h1 T.exc hd (fun _ r => r) k3 ⟨by show 3 ≤ sizeLine; decide, q⟩))
  show tsS X.K CI C0 D2 D3 D4 D5 D6 D7 D8 D9 a (.ref CI) (some dd) D [s0, some (.ref a), s2, s3] H'
  unfold tsS
  refine seq_set (F3 rfl hdd k0 kit_self k2 fun l1 n1 => ?_)
  have S1 : Same H' (upd H' l1 (.lst [.bl false, .bl true, .bl false])) := same_upd n1 (Same.refl _)
  have e1 : upd H' l1 (.lst [.bl false, .bl true, .bl false]) l1 = some (.lst [.bl false, .bl true, .bl false]) := upd_same
  generalize upd H' l1 (.lst [.bl false, .bl true, .bl false]) = H1 at *
  refine ⟨_, rfl, F3 rfl (S1 _ _ hdd) k3 k4 k5 fun l2 n2 => ?_⟩
  have S2 : Same H1 (upd H1 l2 (.lst [.bl false, .bl false, .bl false])) := same_upd n2 (Same.refl _)
  have e2 : upd H1 l2 (.lst [.bl false, .bl false, .bl false]) l2 = some (.lst [.bl false, .bl false, .bl false]) := upd_same
  generalize upd H1 l2 (.lst [.bl false, .bl false, .bl false]) = H2 at *
  refine ⟨l1, l2, _, _, rfl, rfl, S2 _ _ e1, e2, by show 6 ≤ sizeLine; decide, fun l3 n3 => ?_⟩
  have S3 : Same H2 (upd H2 l3 (.lst ([V.bl false, .bl true, .bl false] ++ [V.bl false, .bl false, .bl false]))) := same_upd n3 (Same.refl _)
  have e3 : upd H2 l3 (.lst ([V.bl false, .bl true, .bl false] ++ [V.bl false, .bl false, .bl false])) l3 = some (.lst ([V.bl false, .bl true, .bl false] ++ [V.bl false, .bl false, .bl false])) := upd_same
  generalize upd H2 l3 (.lst ([V.bl false, .bl true, .bl false] ++ [V.bl false, .bl false, .bl false])) = H3 at *
  have T3 : Same H' H3 := (S1.trans S2).trans S3
  refine ⟨_, rfl, F3 rfl (T3 _ _ hdd) k6 k7 k8 fun l4 n4 => ?_⟩
  have S4 : Same H3 (upd H3 l4 (.lst [.bl false, .bl false, .bl false])) := same_upd n4 (Same.refl _)
  have e4 : upd H3 l4 (.lst [.bl false, .bl false, .bl false]) l4 = some (.lst [.bl false, .bl false, .bl false]) := upd_same
  generalize upd H3 l4 (.lst [.bl false, .bl false, .bl false]) = H4 at *
  refine ⟨l3, l4, _, _, rfl, rfl, S4 _ _ e3, e4, by show 9 ≤ sizeLine; decide, fun l5 n5 => ?_⟩
  have T4 : Same H' H4 := T3.trans S4
  have n5' : H' l5 = none := T4.free n5
  have T5 : Same H' (upd H4 l5 (.lst ([V.bl false, .bl true, .bl false] ++ [V.bl false, .bl false, .bl false] ++ [V.bl false, .bl false, .bl false]))) := same_upd n5' T4
  have e5 : upd H4 l5 (.lst ([V.bl false, .bl true, .bl false] ++ [V.bl false, .bl false, .bl false] ++ [V.bl false, .bl false, .bl false])) l5 = some (.lst ([V.bl false, .bl true, .bl false] ++ [V.bl false, .bl false, .bl false] ++ [V.bl false, .bl false, .bl false])) := upd_same
  generalize upd H4 l5 (.lst ([V.bl false, .bl true, .bl false] ++ [V.bl false, .bl false, .bl false] ++ [V.bl false, .bl false, .bl false])) = H5 at *
  refine ⟨_, rfl, .inl ⟨rfl, _, SqL.of e5⟩, is_run rfl T.exc (T5 _ _ hdd) (fun _ r => r) k9 ⟨l5, _, _, rfl, rfl, e5, by show 9 < sizeLine; decide, ?_⟩⟩
  have T6 : Same H' (upd H5 l5 (.lst ([V.bl false, .bl true, .bl false] ++ [V.bl false, .bl false, .bl false] ++ [V.bl false, .bl false, .bl false] ++ [V.bl false]))) := same_upd n5' T5
  have e6 : upd H5 l5 (.lst ([V.bl false, .bl true, .bl false] ++ [V.bl false, .bl false, .bl false] ++ [V.bl false, .bl false, .bl false] ++ [V.bl false])) l5 = some (.lst ([false, true, false, false, false, false, false, false, false, false].map V.bl)) := upd_same
  generalize upd H5 l5 (.lst ([V.bl false, .bl true, .bl false] ++ [V.bl false, .bl false, .bl false] ++ [V.bl false, .bl false, .bl false] ++ [V.bl false])) = H6 at *
  refine ⟨_, rfl, .inl ⟨rfl, _, SqL.of e6⟩, l5, _, .bl true, rfl, rfl, SqL.of e6, rfl, rfl, rfl, _, rfl, ?_⟩
  refine iteF ?_
  refine is_run rfl T.exc (T6 _ _ hdd) (fun _ r => r) T.ve ⟨_, rfl, ?_⟩
  refine iteF ?_
  have dps : ∀ bs : List Bool, DpAll X.K H6 (bs.map V.bl) (bs.map PyData.bool) := fun bs => by
    induction bs with
    | nil => exact .nil
    | cons b bs ih => exact .cons (.bl b) ih
  refine ⟨_, rfl, .inl ⟨rfl, _, SqL.of e6⟩, l5, .bl true, .bool true, _, 1, .bool true, rfl, rfl, .lst (SqL.of e6) (dps _), .bl true, by decide +kernel, by decide +kernel, rfl, rfl, fun m z' hm => ?_, ?_⟩
  · match m, hm with
    | 0, _ => exact fun q => by cases q; decide +kernel
  refine ⟨_, rfl, rfl, _, rfl, ?_⟩
  refine iteF ?_
  refine ⟨_, rfl, by show 2 ≤ sizeLine; decide, fun t7 n7 => ?_⟩
  have n7' : H' t7 = none := T6.free n7
  have T7 : Same H' (upd H6 t7 (.tup [.int 1, .int 4])) := same_upd n7' T6
  have e7 : upd H6 t7 (.tup [.int 1, .int 4]) t7 = some (.tup [.int 1, .int 4]) := upd_same
  generalize upd H6 t7 (.tup [.int 1, .int 4]) = H7 at *
  refine ⟨.int 1, [.int 1, .int 4], .int _, .tup (SqT.of e7) (.cons (.int _) (.cons (.int _) .nil)), by decide +kernel, by decide +kernel, _, rfl, ?_⟩
  rw [show ([PyData.int 1, PyData.int 4].any fun z => PyData.eqv z (PyData.int 1)) = true by decide +kernel]
  refine iteT ?_
  refine ⟨by show 5 ≤ sizeLine; decide, fun l8 n8 => ?_⟩
  have n8' : H' l8 = none := T7.free n8
  have T8 : Same H' (upd H7 l8 (.lst [.str "", .str "stack", .str "", .str "", .str "number"])) := same_upd n8' T7
  have e8 : upd H7 l8 (.lst [.str "", .str "stack", .str "", .str "", .str "number"]) l8 = some (.lst [.str "", .str "stack", .str "", .str "", .str "number"]) := upd_same
  generalize upd H7 l8 (.lst [.str "", .str "stack", .str "", .str "", .str "number"]) = H8 at *
  have at1 : ([(("index" : Str), V.int i)] : List (Str × V)).lookup ("index" : Str) = some (.int i) := by simp [List.lookup]
  refine ⟨_, rfl, l8, _, 1, .str "stack", rfl, rfl, SqL.of e8, atI_nat (j := 1) rfl, ?_⟩
  refine ⟨_, rfl, rfl, rfl, dd, _, .int i, rfl, T8 _ _ hdd, at1, by show 2 ≤ sizeLine; decide, fun p hp => ?_⟩
  exact hk _ p (same_upd (T8.free hp) T8) upd_same
/-- what the helper makes of a call that may raise an InvalidStack -/
def TRaisedS (CI : Addr) : (XK → Hp → VK → Prop) → Hp → VK → Prop := fun tl H Q =>
  tl (fun cls d H' => cls = .ref CI ∧ ∃ dd i, d = some dd ∧ H' dd = some (.xd [("index", .int i)]) ∧ ∀ H'' p, Same H' H'' → H'' p = some (.tup [.str "stack", .int i]) → Q (.ref p) H'') H fun _ H1 => Q .non H1
theorem gives_stack {g : Addr} {cdg : Value} {q : Str} (T : ErrS X.K X.mg CS CI C0) (hu : X.A.units + 200 < cLine) : LamX.GivesTo X nRaised "_law_raised" (defScope sRaised) g cdg (defBody sRaised) "_law_work" q (TRaisedS CI) := by
  intro f c' s H Q tl act hc h
  obtain ⟨ts, h1, h2⟩ := suite_stack (g := g) (cdg := cdg) (s := s) (H := H) T hu
  refine ⟨_, pss_cons (ps_try_as (i := 1) (X := zR X g cdg s H) (c := .ref CS) (ts := fun a cls d D σ H => σ.length = nRaised.length → ts a cls d D σ H) (Wout := fun _ _ _ _ => False)
      (tb := fun W D σ H => ∃ Ech : XK, (∀ cls d σ' H', Ech cls d H' → W cls d σ' H') ∧ σ[0]? = some (some (.ref f)) ∧ H c' = some (LamX.CodeO c' q) ∧ tl Ech H fun _ H1 => D.nx σ H1)
      rfl rfl scRaised.nd rfl rfl ⟨rfl, by decide, .inl T.gS⟩ LamX.takes0 (fun W pn xe tk _ => ?_) (fun a oe cls d pn hz hf => pss_len (h1 a oe cls d pn hz hf))) (pss_one (ps_ret pe_non)), ?_⟩
  · refine ⟨fun pins s' σ H' D I h' => ?_⟩
    obtain ⟨Ech, hW, h1, h2, h3⟩ := h'
    exact (pss_one (ps_expr (act W pn xe Ech _ _ tk hW))).run pins s' σ H' D I ⟨h1, h2, h3⟩
  · refine ⟨fun cls d H' => cls = .ref CI ∧ ∃ dd i, d = some dd ∧ H' dd = some (.xd [("index", .int i)]) ∧ ∀ H'' p, Same H' H'' → H'' p = some (.tup [.str "stack", .int i]) → Q (.ref p) H'', ?_, rfl, hc, h⟩
    rintro cls d σ' H' ⟨rfl, dd, i, rfl, hdd, hk⟩
    refine ⟨true, T.exm, fun _ a ha => ?_, fun z => (nomatch z)⟩
    intro hl
    rw [List.length_set] at hl
    exact h2 a dd i _ H' σ' hdd (fun H'' p S e => hk H'' p S e) hl
end
end LS
set_option maxHeartbeats 4000000
namespace LS
open PySem L2 TxS
abbrev abc : List Str := ["a", "b", "c", "d", "e", "f"]
/-- rules alone, their modules among six names -/
def Flat (es : List Ent) : Prop := ∀ e ∈ es, ∃ p z ds, e = .rule p z ds ∧ z ∈ abc
theorem flat_rules : ∀ {es : List Ent}, Flat es → (rulesEs es).length = es.length ∧ ∀ x ∈ (rulesEs es).map (fun r => r.2.1), x ∈ abc
  | [], _ => ⟨rfl, fun x hx => nomatch hx⟩
  | e :: es, h => by
    obtain ⟨h1, h2⟩ := flat_rules (es := es) fun x hx => h x (List.mem_cons_of_mem _ hx)
    obtain ⟨p, z, ds, rfl, hz⟩ := h e List.mem_cons_self
    refine ⟨by show ([(p, z, ds)] ++ rulesEs es).length = es.length + 1; rw [List.length_append, h1]; show 1 + es.length = _; omega, fun x hx => ?_⟩
    have hx' : x ∈ ([(p, z, ds)] ++ rulesEs es).map (fun r => r.2.1) := hx
    rw [List.map_append] at hx'
    rcases List.mem_append.mp hx' with q | q
    · rw [List.mem_singleton.mp q]
      exact hz
    · exact h2 x q
theorem flat_fit {es : List Ent} (h : Flat es) (few : es.length ≤ 12) : misfit es = none := by
  refine List.find?_eq_none.mpr fun i hi => ?_
  rw [List.mem_range] at hi
  rw [bad_some (List.getElem?_eq_getElem hi)]
  have ht : Flat (es.take (i + 1)) := fun e he => h e (List.mem_of_mem_take he)
  obtain ⟨h1, h2⟩ := flat_rules ht
  obtain ⟨p, z, ds, e, _⟩ := h _ (List.getElem_mem hi)
  obtain ⟨q1, q2⟩ := distinct_is _ (rulesEs (es.take (i + 1))) rfl
  have q3 := nodup_le abc _ q1 fun x hx => h2 x ((q2 x).mp hx)
  have q4 : (distinct (rulesEs (es.take (i + 1)))).length ≤ 6 := q3
  have q5 : (rulesEs (es.take (i + 1))).length ≤ 12 := by
    rw [h1, List.length_take]
    omega
  have q6 : depthE es[i] = 0 := by rw [e]; rfl
  unfold badAt
  rw [decide_eq_false (show ¬ 12 ≤ i by omega), decide_eq_false (show ¬ 3 ≤ depthE es[i] by omega), decide_eq_false (show ¬ 12 < (rulesEs (es.take (i + 1))).length by omega), decide_eq_false (show ¬ 6 < (distinct (rulesEs (es.take (i + 1)))).length by omega)]
  decide
/-- more than twelve: the thirteenth is amiss -/
theorem flat_over {es : List Ent} (h : Flat es) (many : 12 < es.length) : misfit es = some 12 := by
  have hn : (List.range 12).find? (badI es) = none := by
    refine List.find?_eq_none.mpr fun i hi => ?_
    rw [List.mem_range] at hi
    have hi2 : i < es.length := by omega
    have q := List.find?_eq_none.mp (flat_fit (es := es.take 12) (fun e he => h e (List.mem_of_mem_take he)) (by rw [List.length_take]; omega)) i (List.mem_range.mpr (by rw [List.length_take]; omega))
    have e1 : (es.take 12)[i]? = some es[i] := by rw [List.getElem?_take, if_pos hi, List.getElem?_eq_getElem hi2]
    rw [bad_some e1] at q
    rw [bad_some (List.getElem?_eq_getElem hi2)]
    have e2 : (es.take 12).take (i + 1) = es.take (i + 1) := by rw [List.take_take, Nat.min_eq_left (by omega)]
    unfold badAt at q ⊢
    rw [e2] at q
    exact q
  exact (find_snoc (List.getElem?_eq_getElem many) hn).1 rfl
end LS
set_option maxHeartbeats 8000000
namespace LS
open PySem L2 TxS
abbrev sFlat : Stmt := top i__law_flat
abbrev nFlat : List Str := ["_law_many", "_law_first", "_law_found", "_law_k"]
abbrev reqD : List PyData := tReq.map PyData.str
theorem letter_at {j : Int} (h0 : 0 ≤ j) (h6 : j < 6) : ∃ c, atI ("abcdefgh" : Str).cps.toList j = some c ∧ c = 97 + j.toNat ∧ isWordS ⟨#[c]⟩ = true ∧ (⟨#[c]⟩ : Str) ∈ abc := by
  have all6 : ∀ k : Fin 6, ("abcdefgh" : Str).cps.toList[k.val]? = some (97 + k.val) ∧ isWordS ⟨#[97 + k.val]⟩ = true ∧ (⟨#[97 + k.val]⟩ : Str) ∈ abc := by decide +kernel
  obtain ⟨k, rfl⟩ : ∃ k : Nat, j = (k : Nat) := ⟨j.toNat, by omega⟩
  obtain ⟨q1, q2, q3⟩ := all6 ⟨k, by omega⟩
  exact ⟨97 + k, atI_nat (j := k) q1, by rw [Int.toNat_natCast], q2, q3⟩
/-- required rules, their modules' names in turn from m on -/
def FlatAt (m : Int) (es : List Ent) : Prop := ∀ (i : Nat) (e : Ent), es[i]? = some e → ∃ p : Addr, e = Ent.rule p ⟨#[97 + ((m + (i : Nat)) % 6).toNat]⟩ reqD
theorem FlatAt.flat {m : Int} {es : List Ent} (h : FlatAt m es) : Flat es := fun e he => by
  obtain ⟨i, hi⟩ := List.getElem?_of_mem he
  obtain ⟨p, rfl⟩ := h i e hi
  obtain ⟨c, _, rfl, _, q⟩ := letter_at (j := (m + (i : Nat)) % 6) (by omega) (by omega)
  exact ⟨p, _, _, rfl, q⟩
theorem FlatAt.snoc {m : Int} {es : List Ent} {p : Addr} (h : FlatAt m es) : FlatAt m (es ++ [Ent.rule p ⟨#[97 + ((m + (es.length : Nat)) % 6).toNat]⟩ reqD]) := fun i e he => by
  rcases Nat.lt_trichotomy i es.length with q | q | q
  · rw [List.getElem?_append_left q] at he
    exact h i e he
  · rw [q, List.getElem?_concat_length] at he
    cases he
    exact ⟨p, by rw [q]⟩
  · rw [List.getElem?_eq_none (by rw [List.length_append]; show es.length + 1 ≤ i; omega)] at he
    cases he
def spFlat (K : PySem.W.Frag) (CR CS : Addr) : Sp := fun vs H Q _ => ∃ (n : Nat) (m : Int), vs = [.int (n : Nat), .int m] ∧ n ≤ 12 ∧ ∀ (x : Addr) (es : List Ent) H', Same H H' → EntAt K CR CS H' (.stk x es) → es.length = n →
  FlatAt m es → Q (.ref x) H'
section
variable {P : Program} {w : World} {K : PySem.W.Frag} {mg : Str → Option Value} {base : Heap} {CR CS CI CX : Addr}
theorem req_acts : actsOf (.str "required") = some reqD ∧ True ∧ True ∧ True := ⟨by
  show (looked "required" ctrlTab).map (·.map PyData.str) = _
  rw [show looked "required" ctrlTab = some tReq by decide +kernel]
  rfl, True.intro, True.intro, True.intro⟩
theorem scFl : FnScope nFlat ["_law_many", "_law_first"] (defScope sFlat) := ⟨rfl, rfl, rfl, by decide +kernel, rfl, by decide +kernel, by decide +kernel⟩
theorem ok_flat {f fI fR fA : Addr} {fd fdR fdA : FuncData} (F : Fun K "_law_flat" "_law_flat" sFlat f fd) (T : StackK K mg CR CS) (M : Mk K CS fI)
    (GI : FnR P w K mg base (L2.CX P w) 8 fI (fun vs H Q E => ∃ v rest, vs = v :: rest ∧ rest.length ≤ 1000 ∧ ∀ p, H p = none → spSInit K CR CS CI [v, .ref p] (upd H p (.tup rest)) Q E))
    (MR : Mk K CR fR) (GR : FnOk P w K mg base (L2.CX P w) 4 fR fdR ["self", "module", "control"] (spRInit K CR CX)) (bR : Binds K fdR ["self", "module", "control"] [])
    (GA : FnOk P w K mg base (L2.CX P w) 10 fA fdA ["self", "other"] (spSAdd K CR CS CI)) (bA : Binds K fdA ["self", "other"] []) (aA : PySem.W.findIn K (.ref CS) "__add__" = some (some (.ref fA))) (nA : PySem.W.isFn K (.ref fA) = true) (sf : PySem.W.selfFirst K CS = true) (mR : mg "range" = none) :
    FnOk P w K mg base CX0 11 f fd ["_law_many", "_law_first"] (spFlat K CR CS) := by
  refine F.ok scFl (fun vs H Q E h => ?_) (fun cdv A outer s H vs Q E hr h => ?_)
  · obtain ⟨n, m, rfl, _⟩ := h
    rfl
  · obtain ⟨n, m, rfl, hn, k⟩ := h
    refine ⟨_, pss_cons (ps_set (i := 2) scFl.nd rfl (.inl rfl) (StX.pe_makeR0 M GI (hr.mono (by decide)) (by rfl) T.g passL))
      (pss_cons (ps_for PassesOwn.never rfl (pi_range1 (by rfl) mR (pa_cons (pv 0) pa_nil)) (pg_name (i := 3) scFl.nd rfl (Or.inl rfl))
        (pss_one (ps_set (i := 2) scFl.nd rfl (.inl rfl) (pe_op (op_addI GA hr aA nA bA sf passL) (pv 2) (StX.pe_makeR M GI (hr.mono (by decide)) (by rfl) T.g passL
          (pa_cons (pe_make MR GR (hr.mono (by decide)) (by rfl) T.R.g bR .nil passL (pa_cons (pe_ix ix_str pe_str (pe_op op_mod (pe_op op_add (pv 1) (pv 3)) pe_int) (fun _ _ => rfl)) (pa_cons pe_str pa_nil))) pa_nil))))))
      (pss_one (ps_ret (pv 2)))), ?_⟩
    intro x dx nx nd hne
    refine stack_at (es := []) True.intro (Nat.zero_le _) nx nd hne (fun i hi => nomatch hi) (fun _ H1 S1 en1 => ?_)
    have hs2 := sizeLine_eq
    obtain ⟨ac1, _, _, _⟩ := req_acts
    refine ⟨_, rfl, (n : Nat), rfl, by omega, by omega, ?_⟩
    rw [Int.toNat_natCast]
    refine for_it walk_range (fun i σ H' => Same H H' ∧ ∃ x es b, σ = [some (.int (n : Nat)), some (.int m), some (.ref x), b] ∧ EntAt K CR CS H' (.stk x es) ∧ es.length = i ∧ FlatAt m es) ⟨S1, x, [], none, rfl, en1, rfl, fun i e he => by simp at he⟩ (fun _ _ _ _ _ => True.intro) ?_ ?_
    · rintro i v σ H2 H3 hi ⟨S2, x1, es, b, rfl, en2, hlen, hfl⟩ ⟨rfl, rfl⟩
      obtain ⟨c, hc1, hc2, hc3, hc4⟩ := letter_at (j := (m + (0 + (i : Nat))) % 6) (by omega) (by omega)
      refine ⟨_, rfl, _, rfl, _, rfl, m, _, rfl, rfl, _, 6, rfl, rfl, (by show (0 : Int) < 6; decide), "abcdefgh", _, c, rfl, rfl, by decide +kernel, hc1, ?_⟩
      intro xr dxr nxr ndr hner
      refine rule_run (dc := .str "required") hc3 (by show 1 ≤ 1000; decide) (.str _) ⟨True.intro, fun ds e => (nomatch e)⟩ ac1 nxr ndr hner (fun H4 S4 R4 => ?_)
      intro xs dxs nxs nds hnes
      have hone : Flat [Ent.rule xr ⟨#[c]⟩ reqD] := fun e he => by rw [List.mem_singleton.mp he]; exact ⟨xr, _, _, rfl, hc4⟩
      have fit1 : misfit [Ent.rule xr ⟨#[c]⟩ reqD] = none := flat_fit hone (by show 1 ≤ 12; decide)
      refine stack_at (es := [Ent.rule xr ⟨#[c]⟩ reqD]) ⟨⟨R4, by decide +kernel⟩, True.intro⟩ (by show 1 ≤ 1000; decide) nxs nds hnes (fun i hi => by rw [fit1] at hi; cases hi) (fun _ H5 S5 en5 => ?_)
      have S45 := S4.trans S5
      have en2' := ent_same S45 _ en2
      obtain ⟨⟨d1, q1, q2, q3, q4, q5, q6⟩, q7⟩ := id en2'
      obtain ⟨⟨d2, r1, r2, r3, r4, r5, r6⟩, r7⟩ := id en5
      have eqs : Ent.rule xr ⟨#[c]⟩ reqD = Ent.rule xr ⟨#[97 + ((m + (es.length : Nat)) % 6).toNat]⟩ reqD := by rw [hc2, hlen, Int.zero_add]
      have nfl : FlatAt m (es ++ [Ent.rule xr ⟨#[c]⟩ reqD]) := by rw [eqs]; exact hfl.snoc
      have fit2 : misfit (es ++ [Ent.rule xr ⟨#[c]⟩ reqD]) = none := flat_fit nfl.flat (by rw [List.length_append, hlen]; show i + 1 ≤ 12; omega)
      refine ⟨x1, xs, d1, d2, _, _, rfl, rfl, q5, r5, x1, xs, es, _, rfl, en2', en5, (fun i hi => by rw [fit2] at hi; cases hi), fun _ xn H6 S6 en6 => ?_⟩
      exact ⟨S2.trans (S45.trans S6), xn, _, _, rfl, en6, by rw [List.length_append, hlen]; rfl, nfl⟩
    · rintro σ H2 ⟨S2, x1, es, b, rfl, en2, hlen, hfl⟩
      exact ⟨_, rfl, k x1 es H2 S2 en2 hlen hfl⟩
end
end LS
namespace LS
open PySem L2 TxS
/-- a stack so deep about one rule -/
def Nest (d : Nat) (e : Ent) : Prop := depthE e = d ∧ (∃ p, rulesE e = [(p, ("a" : Str), reqD)]) ∧ ∃ x es, e = Ent.stk x es
theorem one_fit {e : Ent} {p : Addr} {z : Str} {ds : List PyData} (hd : depthE e < 3) (hr : rulesE e = [(p, z, ds)]) : misfit [e] = none := by
  refine List.find?_eq_none.mpr fun i hi => ?_
  rw [List.mem_range] at hi
  have e0 : i = 0 := by
    have q : i < 1 := hi
    omega
  subst e0
  rw [bad_some (e := e) rfl]
  have q1 : rulesEs ([e].take (0 + 1)) = [(p, z, ds)] := by
    show rulesE e ++ [] = _
    rw [List.append_nil, hr]
  unfold badAt
  rw [q1, decide_eq_false (show ¬ 3 ≤ depthE e by omega)]
  have q2 := distinct_len 1 [(p, z, ds)] rfl
  rw [decide_eq_false (show ¬ 6 < (distinct [(p, z, ds)]).length by omega), decide_eq_false (show ¬ 12 < [(p, z, ds)].length by show ¬ 12 < 1; omega)]
  decide
abbrev sNested : Stmt := top i__law_nested
abbrev nNested : List Str := ["_law_deep", "_law_found", "_law_turn"]
def spNested (K : PySem.W.Frag) (CR CS : Addr) : Sp := fun vs H Q _ => ∃ (d : Nat), vs = [.int (d : Nat)] ∧ 1 ≤ d ∧ d ≤ 3 ∧ ∀ (e : Ent) H', Same H H' → EntAt K CR CS H' e → Nest d e → Q (refE e) H'
section
variable {P : Program} {w : World} {K : PySem.W.Frag} {mg : Str → Option Value} {base : Heap} {CR CS CI CX : Addr}
theorem scNe : FnScope nNested ["_law_deep"] (defScope sNested) := ⟨rfl, rfl, rfl, by decide +kernel, rfl, by decide +kernel, by decide +kernel⟩
theorem ok_nested {f fI fR : Addr} {fd fdR : FuncData} (F : Fun K "_law_nested" "_law_nested" sNested f fd) (T : StackK K mg CR CS) (M : Mk K CS fI)
    (GI : FnR P w K mg base (L2.CX P w) 8 fI (fun vs H Q E => ∃ v rest, vs = v :: rest ∧ rest.length ≤ 1000 ∧ ∀ p, H p = none → spSInit K CR CS CI [v, .ref p] (upd H p (.tup rest)) Q E))
    (MR : Mk K CR fR) (GR : FnOk P w K mg base (L2.CX P w) 4 fR fdR ["self", "module", "control"] (spRInit K CR CX)) (bR : Binds K fdR ["self", "module", "control"] []) (mR : mg "range" = none) :
    FnOk P w K mg base CX0 10 f fd ["_law_deep"] (spNested K CR CS) := by
  refine F.ok scNe (fun vs H Q E h => ?_) (fun cdv A outer s H vs Q E hr h => ?_)
  · obtain ⟨d, rfl, _⟩ := h
    rfl
  · obtain ⟨d, rfl, hd1, hd3, k⟩ := h
    refine ⟨_, pss_cons (ps_set (i := 1) scNe.nd rfl (.inl rfl) (StX.pe_makeR M GI hr (by rfl) T.g passL (pa_cons (pe_make MR GR (hr.mono (by decide)) (by rfl) T.R.g bR .nil passL (pa_cons pe_str (pa_cons pe_str pa_nil))) pa_nil)))
      (pss_cons (ps_for PassesOwn.never rfl (pi_range1 (by rfl) mR (pa_cons (pe_op op_sub (pv 0) pe_int) pa_nil)) (pg_name (i := 2) scNe.nd rfl (Or.inl rfl))
        (pss_one (ps_set (i := 1) scNe.nd rfl (.inl rfl) (StX.pe_makeR M GI hr (by rfl) T.g passL (pa_cons (pv 1) pa_nil)))))
      (pss_one (ps_ret (pv 1)))), ?_⟩
    obtain ⟨ac1, _, _, _⟩ := req_acts
    intro xr dxr nxr ndr hner
    refine rule_run (dc := .str "required") (by decide +kernel) (by decide +kernel) (.str _) ⟨True.intro, fun ds e => (nomatch e)⟩ ac1 nxr ndr hner (fun H4 S4 R4 => ?_)
    intro xs dxs nxs nds hnes
    have fit1 : misfit [Ent.rule xr ("a" : Str) reqD] = none := one_fit (p := xr) (z := "a") (ds := reqD) (by show 0 < 3; decide) rfl
    refine stack_at (es := [Ent.rule xr ("a" : Str) reqD]) ⟨⟨R4, by decide +kernel⟩, True.intro⟩ (by show 1 ≤ 1000; decide) nxs nds hnes (fun i hi => by rw [fit1] at hi; cases hi) (fun _ H5 S5 en5 => ?_)
    refine ⟨_, rfl, (d : Nat), 1, rfl, rfl, ((d : Nat) : Int) - 1, rfl, by omega, by omega, ?_⟩
    refine for_it walk_range (fun i σ H' => Same H H' ∧ ∃ e b, σ = [some (.int (d : Nat)), some (refE e), b] ∧ EntAt K CR CS H' e ∧ Nest (i + 1) e) ⟨S4.trans S5, _, none, rfl, en5, rfl, ⟨xr, rfl⟩, xs, _, rfl⟩ (fun _ _ _ _ _ => True.intro) ?_ ?_
    · rintro i v σ H2 H3 hi ⟨S2, e, b, rfl, en2, hdep, ⟨p, hrl⟩, hst⟩ ⟨rfl, rfl⟩
      have fit2 : misfit [e] = none := one_fit (by omega) hrl
      refine ⟨_, rfl, ?_⟩
      intro y dy ny ndy hney
      refine stack_at (es := [e]) ⟨en2, True.intro⟩ (by show 1 ≤ 1000; decide) ny ndy hney (fun i hi => by rw [fit2] at hi; cases hi) (fun _ H6 S6 en6 => ?_)
      refine ⟨S2.trans S6, _, _, rfl, en6, ?_, ⟨p, ?_⟩, y, _, rfl⟩
      · show 1 + max (depthE e) 0 = _
        omega
      · show rulesE e ++ [] = _
        rw [List.append_nil, hrl]
    · rintro σ H2 ⟨S2, e, b, rfl, en2, hn⟩
      have ed : (((d : Nat) : Int) - 1).toNat + 1 = d := by omega
      rw [ed] at hn
      exact ⟨_, rfl, k e H2 S2 en2 hn⟩
end
end LS
set_option maxHeartbeats 4000000
/-! sorted(text) -/
namespace TxS
open PySem PySem.Spec PyProof.Rows L2 PpSet
section
variable {P : Program} {w : World} {A : Around} {E : Value → Shared → Prop} {s : Shared} {x : Str} {t : Tok}
theorem collect_str {Q : List Value → Shared → Prop} (hh : A.handled = none) (hn : x.cps.size ≤ sizeLine)
    (hQ : ∀ (h' : Heap) (tk : Nat) (acc : Array Value), (∀ b o, s.heap.get? b = some o → h'.get? b = some o) → s.heap.objs.size ≤ h'.objs.size → ItemsOf (SignAt x) acc x.cps.size → Q acc.toList { s with heap := h', toks := tk }) :
    wpAny (model P w) A (collect (.str x t)) Q E s := by
  unfold collect
  refine wpAny_bind (wpAny_runValue (codeAny_builtin F.entry_proto_collect ?_))
  rw [Around.under_plainId F.plain_proto_collect _]
  show wpAny _ A.in1 (newList [] >>= fun l => again (.builtin "list.__iadd__" ⟨[l, .str x t], []⟩)) _ _ s
  refine wpAny_bind (wpAny_newObj_type ?_)
  refine wpAny_pure ⟨plainId_quiet F.plain_list_iadd _, codeAny_builtin F.entry_list_iadd ?_⟩
  rw [Around.under_plainId F.plain_list_iadd _]
  show wpAny _ A.in1 (Builtin.List.listExtendWith (.ref s.heap.objs.size) (.str x t) (.ref s.heap.objs.size)) _ _ _
  have hS : (s.heap.push { cls := .type "list", data := .seq ([] : List Value).toArray }).get? s.heap.objs.size = some { cls := .type "list", data := .seq #[] 0 } := Heap.get?_push_size _ rfl
  refine wpAny_mono (wpAny_extend_str (A := A) (hn := hn) (R := fun rr s' => rr = .ok (.ret (.ref s.heap.objs.size)) ∧ ∃ (h' : Heap) (tk : Nat) (acc : Array Value) (c' : Nat), s' = { s with heap := h', toks := tk } ∧
      (∀ b o, s.heap.get? b = some o → h'.get? b = some o) ∧ h'.get? s.heap.objs.size = some { cls := .type "list", dict := none, data := .seq acc c', slots := #[] } ∧ ItemsOf (SignAt x) acc x.cps.size)
    (s := { s with heap := s.heap.push { cls := .type "list", data := .seq ([] : List Value).toArray } }) hh x t _ _ 0 hS
    (fun h' tk acc c' hk e hi => ⟨rfl, h', tk, acc, c', rfl, fun b o q => hk b o (Nat.ne_of_lt (Heap.lt_size q)) (Heap.get?_push_of_some _ q), e, hi⟩)) (fun fin s' h => ?_) (fun e s' h => ?_)
  · cases fin with
    | done f =>
      obtain ⟨e, h', tk, acc, c', rfl, hk, hS', hi⟩ := h
      cases e
      show wpAny _ A (load s.heap.objs.size >>= _) _ _ _
      exact wpAny_bind (wpAny_load hS' (wpAny_pure (hQ h' tk acc hk (Nat.le_of_lt (Heap.lt_size hS')) hi)))
    | again c' =>
      refine ⟨h.1, codeAny_mono h.2 fun rr s'' hr' => ?_⟩
      obtain ⟨rfl, h', tk, acc, c', rfl, hk, hS', hi⟩ := hr'
      show wpAny _ A (load s.heap.objs.size >>= _) _ _ _
      exact wpAny_bind (wpAny_load hS' (wpAny_pure (hQ h' tk acc hk (Nat.le_of_lt (Heap.lt_size hS')) hi)))
  · exact absurd h.1 (by simp)
/-- the signs of a text, each a text -/
def signs (x : Str) : List Str := x.cps.toList.map fun c => ⟨#[c]⟩
theorem signs_list : ∀ (vs : List Value) (cs : List Nat), vs.length = cs.length → (∀ (j : Nat) (v : Value), vs[j]? = some v → ∃ c u, cs[j]? = some c ∧ v = .str ⟨#[c]⟩ u) → StrsAre vs (cs.map fun c => (⟨#[c]⟩ : Str))
  | [], [], _, _ => .nil
  | [], c :: cs, h, _ => nomatch h
  | v :: vs, [], h, _ => nomatch h
  | v :: vs, c :: cs, h, k => by
    obtain ⟨c', u, e1, rfl⟩ := k 0 v rfl
    have e1' : some c = some c' := e1
    cases e1'
    exact .cons _ u (signs_list vs cs (Nat.succ.inj h) fun j v hj => k (j + 1) v hj)
theorem signs_of {x : Str} {acc : Array Value} (h : ItemsOf (SignAt x) acc x.cps.size) : StrsAre acc.toList (signs x) := by
  refine signs_list _ _ (by rw [Array.length_toList, Array.length_toList, h.1]) fun j v hj => ?_
  obtain ⟨c, u, e1, e2⟩ := h.2 j v (by rw [← Array.getElem?_toList]; exact hj)
  exact ⟨c, u, by rw [Array.getElem?_toList]; exact e1, e2⟩
theorem str_sorted {Q : Value → Shared → Prop} (hh : A.handled = none) (h64 : x.length < 64)
    (hQ : ∀ s' p (out : Array Value) (c : Nat) (ys : List Str), (∀ b o, s.heap.get? b = some o → s'.heap.get? b = some o) → s'.gens = s.gens → s'.os = s.os → s.heap.objs.size ≤ p →
      s'.heap.get? p = some (seqObj "list" out c) → StrsAre out.toList ys → ys.Perm (signs x) → sortedS ys = true → Q (.ref p) s') : wpAny (model P w) A (call (.builtin "sorted") [.str x t]) Q E s := by
  refine Calls.call_function_entry kind_sorted plain_sorted entry_sorted (args_sorted1 _) ?_
  unfold Builtin.«sorted»
  have hz : x.cps.size ≤ sizeLine := by
    have : x.cps.size < 64 := h64
    rw [sizeLine_eq]
    omega
  refine wpAny_bind (m := checkCount "sorted" 1 1 _) (wpAny_pure (wpAny_bind (collect_str (A := A.in1) hh hz fun h1 tk acc keep1 size1 items => ?_)))
  have texts := signs_of items
  generalize acc.toList = vs at *
  have many : vs.length < 64 := by
    have q := texts.length
    have z : (signs x).length = x.cps.size := by unfold signs; rw [List.length_map, Array.length_toList]
    have : x.cps.size < 64 := h64
    omega
  refine wpAny_bind (wpAny_newList ?_ (by rw [sizeLine_eq]; omega))
  have hoL : (h1.push (seqObj "list" vs.toArray 0)).get? h1.objs.size = some (seqObj "list" vs.toArray 0) := Heap.get?_push_size _ rfl
  refine wpAny_bind (wpAny_holding (wpAny_call_entry slot_list_sort ⟨_, hoL, rfl⟩ entry_list_sort (list_sort_treeK strKind_oneLt hoL texts.keysOf (fun v₁ v₂ rest e => keyKind_strs (by rw [← e]; exact texts)) many
    fun st' a1 a2 => ⟨_, rfl, ?_⟩) (args_list_sort _)))
  obtain ⟨ys, b1, b2, b3⟩ := sorted_out_str texts a1 a2
  obtain ⟨c, hc⟩ := sortedHeap_at (vs := vs) (out := (arrOf st').map (·.2)) hoL
  refine wpAny_pure ⟨_, rfl, hQ _ h1.objs.size _ c ys (fun b u e => ?_) rfl rfl size1 hc b1 b2 b3⟩
  have old := keep1 b u e
  have lt := Heap.lt_size old
  show (sortedHeap (h1.push (seqObj "list" vs.toArray 0)) h1.objs.size vs ((arrOf st').map (·.2))).get? b = some u
  rw [sortedHeap_old (Nat.ne_of_lt lt) (by rw [size_push']; exact Nat.lt_succ_of_lt lt)]
  exact Heap.get?_push_of_some _ old
end
section
variable {X : Cx}
def rSortedStr : List V → Hp → VK → Prop := fun vs H Q => ∃ (x : Str), vs = [V.str x] ∧ x.length < 64 ∧
  ∀ (ys : List Str) (p : Addr), ys.Perm (signs x) → sortedS ys = true → H p = none → Q (.ref p) (upd H p (.lst (ys.map V.str)))
theorem cr_sortedStr (hc : X.calm = true) : CallR X (.builtin "sorted") rSortedStr := by
  intro pins s σ H vs us Q I r h
  obtain ⟨x, rfl, h64, q⟩ := h
  obtain ⟨t, rfl⟩ : ∃ t, us = [Value.str x t] := by
    cases r with
    | cons h1 h2 =>
      cases h2
      obtain ⟨t, rfl⟩ := h1
      exact ⟨t, rfl⟩
  refine str_sorted (I.ok.hd hc) h64 fun s' p out c ys keep g o hp hg hi pm srt => ?_
  have many : (ys.map V.str).length ≤ sizeLine := by
    have z : (signs x).length = x.cps.size := by unfold signs; rw [List.length_map, Array.length_toList]
    have : x.cps.size < 64 := h64
    rw [List.length_map, pm.length_eq, z, sizeLine_eq]
    omega
  have new : H p = none := I.hok.fresh hp
  have J : Inv X pins σ (upd H p (.lst (ys.map V.str))) { s with heap := s'.heap, gens := s'.gens, drawn := s'.drawn, toks := s'.toks } :=
    I.call (ch := []) (Un.laid keep hp new) (I.hok.laid keep hp ⟨many, out.toList, c, vals_of_strs hi, hg⟩) (by rw [g]; exact I.bare) (fun _ z => nomatch z)
  have e : s' = { s with heap := s'.heap, gens := s'.gens, drawn := s'.drawn, toks := s'.toks } := by
    rcases s' with ⟨h1, h2, h3, h4, h5⟩
    rcases s with ⟨k1, k2, k3, k4, k5⟩
    cases o
    rfl
  rw [e]
  exact ⟨.ref p, _, J, rfl, q ys p pm srt new⟩
end
end TxS
/-! two tuples of the very same objects are equal: no own == is called -/
namespace L2
open PySem PySem.Spec PyProof.Rows
theorem vals_refs : ∀ {ps : List Addr} {us : List Value}, Vals (ps.map V.ref) us → us = ps.map Value.ref
  | [], _, h => by
    rw [List.map_nil] at h
    cases h
    rfl
  | p :: ps, _, h => by
    rw [List.map_cons] at h
    cases h with
    | cons h1 h2 =>
      cases h1
      rw [vals_refs h2]
      rfl
section
variable {X : Cx}
def rEqSame (K : PySem.W.Frag) : R2 := fun x y H Q => ∃ (a b : Addr) (ps : List Addr), x = .ref a ∧ y = .ref b ∧ SqT K H a (ps.map V.ref) ∧ SqT K H b (ps.map V.ref) ∧ Q (.bl true) H
theorem op_eqSame (hu : X.A.units < cLine) : OpR X (compareOp .Eq) (rEqSame X.K) := by
  intro pins s σ H x y v u Q I rx ry h
  obtain ⟨a, b, ps, rfl, rfl, ha, hb, q⟩ := h
  cases rx
  cases ry
  obtain ⟨xs, r1, t1, _⟩ := I.tuple ha
  obtain ⟨ys, r2, t2, _⟩ := I.tuple hb
  have e1 := vals_refs r1
  have e2 := vals_refs r2
  subst e1
  subst e2
  have z := SeqAt.RcAt.tuples (A := X.A) (e := fun _ => true) (show s.heap.IsTuple a (ps.map Value.ref).toArray from t1) (show s.heap.IsTuple b (ps.map Value.ref).toArray from t2) hu fun j h1 h2 => SeqAt.EqAt.same _
  have hb : ((List.range (min (ps.map Value.ref).toArray.size (ps.map Value.ref).toArray.size)).all (fun _ => true) && (ps.map Value.ref).toArray.size == (ps.map Value.ref).toArray.size) = true := by simp
  rw [hb] at z
  exact z X.prog X.w _ _ ⟨.bl true, H, I, rfl, q⟩
/-- tuples of other lengths whose common part has nothing in common to compare: () and any other -/
def rEqNil (K : PySem.W.Frag) : R2 := fun x y H Q => ∃ (a b : Addr) (xs ys : List V), x = .ref a ∧ y = .ref b ∧ SqT K H a xs ∧ SqT K H b ys ∧ (xs = [] ∨ ys = []) ∧ Q (.bl (decide (xs.length = ys.length))) H
theorem op_eqNil (hu : X.A.units < cLine) : OpR X (compareOp .Eq) (rEqNil X.K) := by
  intro pins s σ H x y v u Q I rx ry h
  obtain ⟨a, b, xs, ys, rfl, rfl, ha, hb, hn, q⟩ := h
  cases rx
  cases ry
  obtain ⟨us, r1, t1, _⟩ := I.tuple ha
  obtain ⟨ws, r2, t2, _⟩ := I.tuple hb
  have l1 := r1.length
  have l2 := r2.length
  have none_ : min us.toArray.size ws.toArray.size = 0 := by
    rw [List.size_toArray, List.size_toArray]
    rcases hn with e | e
    · rw [e] at l1
      have : us.length = 0 := l1.symm
      omega
    · rw [e] at l2
      have : ws.length = 0 := l2.symm
      omega
  have z := SeqAt.RcAt.tuples (A := X.A) (e := fun _ => true) (show s.heap.IsTuple a us.toArray from t1) (show s.heap.IsTuple b ws.toArray from t2) hu fun j h1 h2 => absurd (show j < min us.toArray.size ws.toArray.size by omega) (by omega)
  rw [none_] at z
  have hb : ((List.range 0).all (fun _ => true) && us.toArray.size == ws.toArray.size) = decide (xs.length = ys.length) := by
    rw [List.size_toArray, List.size_toArray, l1, l2]
    simp
    rfl
  rw [hb] at z
  exact z X.prog X.w _ _ ⟨.bl _, H, I, rfl, q⟩
end
end L2
namespace LS
open PySem L2 TxS
/-! what does not fit -/
theorem flat_app {a b : List Ent} (h1 : Flat a) (h2 : Flat b) : Flat (a ++ b) := fun e he => (List.mem_append.mp he).elim (h1 e) (h2 e)
theorem flat_depth : ∀ {es : List Ent}, Flat es → depthEs es = 0
  | [], _ => rfl
  | e :: es, h => by
    obtain ⟨p, z, ds, rfl, _⟩ := h e List.mem_cons_self
    show max 0 (depthEs es) = 0
    rw [flat_depth fun x hx => h x (List.mem_cons_of_mem _ hx)]
    rfl
theorem flat_distinct {es : List Ent} (h : Flat es) : (distinct (rulesEs es)).length ≤ 6 := by
  obtain ⟨h1, h2⟩ := flat_rules h
  obtain ⟨q1, q2⟩ := distinct_is _ (rulesEs es) rfl
  exact nodup_le abc _ q1 fun x hx => h2 x ((q2 x).mp hx)
theorem one_stk {x : Addr} {es : List Ent} (h : Flat es) (few : es.length ≤ 12) : misfit [Ent.stk x es] = none := by
  refine List.find?_eq_none.mpr fun i hi => ?_
  rw [List.mem_range] at hi
  have e0 : i = 0 := by
    have q : i < 1 := hi
    omega
  subst e0
  rw [bad_some (e := Ent.stk x es) rfl]
  have q1 : rulesEs ([Ent.stk x es].take (0 + 1)) = rulesEs es := by
    show rulesEs es ++ [] = _
    rw [List.append_nil]
  unfold badAt
  have q2 := flat_distinct h
  have q3 : depthE (Ent.stk x es) = 1 := by show 1 + depthEs es = 1; rw [flat_depth h]
  rw [q1, q3, decide_eq_false (show ¬ 6 < (distinct (rulesEs es)).length by omega), decide_eq_false (show ¬ 12 < (rulesEs es).length by rw [(flat_rules h).1]; omega)]
  decide
theorem two_stk {x y : Addr} {es fs : List Ent} (h1 : Flat es) (h2 : Flat fs) (f1 : es.length ≤ 12) (f2 : fs.length ≤ 12) : misfit [Ent.stk x es, Ent.stk y fs] = if es.length + fs.length > 12 then some 1 else none := by
  have q1 : rulesEs [Ent.stk x es, Ent.stk y fs] = rulesEs (es ++ fs) := by
    show rulesEs es ++ (rulesEs fs ++ []) = _
    rw [List.append_nil, rulesEs_append]
  have q2 : (rulesEs (es ++ fs)).length = es.length + fs.length := by rw [(flat_rules (flat_app h1 h2)).1, List.length_append]
  have q3 := flat_distinct (flat_app h1 h2)
  have q4 : depthE (Ent.stk y fs) = 1 := by show 1 + depthEs fs = 1; rw [flat_depth h2]
  by_cases hb : es.length + fs.length > 12
  · rw [if_pos hb]
    refine misfit_at (i := 1) (e := Ent.stk y fs) (one_stk h1 f1) rfl ?_
    unfold badAt
    rw [show [Ent.stk x es, Ent.stk y fs].take (1 + 1) = [Ent.stk x es, Ent.stk y fs] from rfl, q1, q2, decide_eq_true (show 12 < es.length + fs.length by omega)]
    simp
  · rw [if_neg hb]
    refine List.find?_eq_none.mpr fun i hi => ?_
    rw [List.mem_range] at hi
    have q : i = 0 ∨ i = 1 := by
      have q : i < 2 := hi
      omega
    rcases q with rfl | rfl
    · have q := List.find?_eq_none.mp (one_stk (x := x) h1 f1) 0 (List.mem_range.mpr Nat.zero_lt_one)
      exact q
    · rw [bad_some (e := Ent.stk y fs) rfl]
      unfold badAt
      rw [show [Ent.stk x es, Ent.stk y fs].take (1 + 1) = [Ent.stk x es, Ent.stk y fs] from rfl, q1, q2, q4, decide_eq_false (show ¬ 12 < es.length + fs.length by omega), decide_eq_false (show ¬ 6 < (distinct (rulesEs (es ++ fs))).length by omega)]
      decide
theorem rule_fit {p : Addr} {z : Str} {ds : List PyData} : misfit [Ent.rule p z ds] = none := one_fit (p := p) (z := z) (ds := ds) (by show 0 < 3; decide) rfl
theorem rule_nest {p : Addr} {ds : List PyData} {e : Ent} {d : Nat} (h : Nest d e) (h3 : d ≤ 3) : misfit [Ent.rule p "a" ds, e] = if d = 3 then some 1 else none := by
  obtain ⟨hd, ⟨p2, hr⟩, _⟩ := h
  have q1 : rulesEs [Ent.rule p "a" ds, e] = [(p, ("a" : Str), ds), (p2, ("a" : Str), reqD)] := by
    show [(p, ("a" : Str), ds)] ++ (rulesE e ++ []) = _
    rw [hr]
    rfl
  by_cases hb : d = 3
  · rw [if_pos hb]
    refine misfit_at (i := 1) (e := e) rule_fit rfl ?_
    unfold badAt
    rw [hd, hb]
    simp
  · rw [if_neg hb]
    refine List.find?_eq_none.mpr fun i hi => ?_
    rw [List.mem_range] at hi
    have q : i = 0 ∨ i = 1 := by
      have q : i < 2 := hi
      omega
    rcases q with rfl | rfl
    · have q := List.find?_eq_none.mp (rule_fit (p := p) (z := "a") (ds := ds)) 0 (List.mem_range.mpr Nat.zero_lt_one)
      exact q
    · rw [bad_some (e := e) rfl]
      unfold badAt
      rw [show [Ent.rule p "a" ds, e].take (1 + 1) = [Ent.rule p "a" ds, e] from rfl, q1, hd]
      have q2 := distinct_len 2 [(p, ("a" : Str), ds), (p2, ("a" : Str), reqD)] rfl
      rw [decide_eq_false (show ¬ 6 < (distinct [(p, ("a" : Str), ds), (p2, ("a" : Str), reqD)]).length by omega), decide_eq_false (show ¬ 3 ≤ d by omega)]
      simp
/-! the names of flat stacks -/
theorem flat_get {m : Int} {es : List Ent} (h : FlatAt m es) : rulesEs es = (List.range es.length).map fun i => ((es.getD i (.rule 0 "" [])).at_, (⟨#[97 + ((m + (i : Nat)) % 6).toNat]⟩ : Str), reqD) := by
  induction es generalizing m with
  | nil => rfl
  | cons e es ih =>
    have h' : FlatAt (m + 1) es := fun i x hx => by
      obtain ⟨p, rfl⟩ := h (i + 1) x hx
      exact ⟨p, by rw [show m + 1 + (i : Nat) = m + ((i + 1 : Nat) : Int) by omega]⟩
    obtain ⟨p, rfl⟩ := h 0 e rfl
    rw [List.length_cons, List.range_succ_eq_map, List.map_cons, List.map_map]
    show [(p, _, reqD)] ++ rulesEs es = _
    rw [ih h']
    refine congrArg (List.cons _) (List.map_congr_left fun i _ => ?_)
    show (_, (⟨#[97 + ((m + 1 + (i : Nat)) % 6).toNat]⟩ : Str), reqD) = (_, (⟨#[97 + ((m + ((i + 1 : Nat) : Int)) % 6).toNat]⟩ : Str), reqD)
    rw [show m + 1 + (i : Nat) = m + ((i + 1 : Nat) : Int) by omega]
    rfl
theorem flat_refs {m : Int} {es : List Ent} (h : FlatAt m es) : (rulesEs es).map refR = es.map refE := by
  rw [flat_get h, List.map_map]
  refine List.ext_getElem? fun i => ?_
  rw [List.getElem?_map, List.getElem?_map]
  by_cases hi : i < es.length
  · rw [List.getElem?_range hi, List.getElem?_eq_getElem hi]
    show some (V.ref (es.getD i (.rule 0 "" [])).at_) = some (V.ref es[i].at_)
    rw [List.getD_eq_getElem?_getD, List.getElem?_eq_getElem hi]
    rfl
  · rw [List.getElem?_eq_none (by rw [List.length_range]; omega), List.getElem?_eq_none (by omega)]
    rfl
theorem prefix_signs : ∀ n : Fin 13, signs (cutS ("abcdef" : Str) none (some ((n.val : Nat) : Int))) = (List.range (min n.val 6)).map fun i => (⟨#[97 + i]⟩ : Str) := by decide +kernel
theorem flat_names {es : List Ent} (h : FlatAt 0 es) (hn : es.length ≤ 12) (x : Str) : x ∈ (rulesEs es).map (fun r => r.2.1) ↔ x ∈ signs (cutS ("abcdef" : Str) none (some ((es.length : Nat) : Int))) := by
  rw [prefix_signs ⟨es.length, by omega⟩, flat_get h, List.map_map, List.mem_map, List.mem_map]
  constructor
  · rintro ⟨i, hi, rfl⟩
    rw [List.mem_range] at hi
    refine ⟨i % 6, List.mem_range.mpr ?_, ?_⟩
    · show i % 6 < min es.length 6
      omega
    · show _ = (⟨#[97 + (((0 : Int) + (i : Nat)) % 6).toNat]⟩ : Str)
      rw [show (((0 : Int) + (i : Nat)) % 6).toNat = i % 6 by omega]
  · rintro ⟨i, hi, rfl⟩
    have hi' : i < min es.length 6 := List.mem_range.mp hi
    refine ⟨i, List.mem_range.mpr (by omega), ?_⟩
    show (⟨#[97 + (((0 : Int) + (i : Nat)) % 6).toNat]⟩ : Str) = _
    rw [show (((0 : Int) + (i : Nat)) % 6).toNat = i by omega]
theorem signs_nodup : ∀ n : Fin 13, (signs (cutS ("abcdef" : Str) none (some ((n.val : Nat) : Int)))).Nodup := by decide +kernel
theorem flat_mods {es : List Ent} (h : FlatAt 0 es) (hn : es.length ≤ 12) {ms ys : List Str} (hm : ModsOf ms (rulesEs es)) (hp : ys.Perm (signs (cutS ("abcdef" : Str) none (some ((es.length : Nat) : Int))))) (hs : PyProof.Rows.sortedS ys = true) : ms = ys := by
  obtain ⟨n1, s1, m1⟩ := hm
  have n2 : ys.Nodup := hp.nodup_iff.mpr (signs_nodup ⟨es.length, by omega⟩)
  refine sortedS_same n1 n2 (fun x => ?_) s1 hs
  rw [m1 x, flat_names h hn x, hp.mem_iff]
/-- six and another name -/
theorem six_more {es : List Ent} (h : FlatAt 0 es) (h6 : es.length = 6) {p : Addr} {z : Str} {ds : List PyData} (hz : z ∉ abc) : misfit (es ++ [Ent.rule p z ds]) = some 6 := by
  have e1 : (es ++ [Ent.rule p z ds]).take 6 = es := by rw [← h6]; exact List.take_left
  refine misfit_at (i := 6) (e := Ent.rule p z ds) (by rw [e1]; exact flat_fit h.flat (by omega)) (by rw [← h6]; exact List.getElem?_concat_length) ?_
  have e2 : (es ++ [Ent.rule p z ds]).take (6 + 1) = es ++ [Ent.rule p z ds] := List.take_of_length_le (by rw [List.length_append, h6]; exact Nat.le_refl 7)
  obtain ⟨q1, q2⟩ := distinct_is _ (rulesEs (es ++ [Ent.rule p z ds])) rfl
  have sub : ∀ x ∈ abc ++ [z], x ∈ distinct (rulesEs (es ++ [Ent.rule p z ds])) := fun x hx => by
    rw [q2 x, rulesEs_append, List.map_append]
    rcases List.mem_append.mp hx with hx | hx
    · refine List.mem_append_left _ ((flat_names h (by omega) x).mpr ?_)
      rw [h6]
      have all6 : ∀ y ∈ abc, y ∈ signs (cutS ("abcdef" : Str) none (some ((6 : Nat) : Int))) := by decide +kernel
      exact all6 x hx
    · rw [List.mem_singleton.mp hx]
      exact List.mem_append_right _ List.mem_cons_self
  have nd : (abc ++ [z]).Nodup := by
    refine List.nodup_append.mpr ⟨by decide +kernel, (List.pairwise_singleton _ _), fun a ha b hb => ?_⟩
    rw [List.mem_singleton.mp hb]
    exact fun e => hz (e ▸ ha)
  have many := nodup_le (distinct (rulesEs (es ++ [Ent.rule p z ds]))) (abc ++ [z]) nd sub
  have many : 7 ≤ (distinct (rulesEs (es ++ [Ent.rule p z ds]))).length := many
  unfold badAt
  rw [e2, decide_eq_true (show 6 < (distinct (rulesEs (es ++ [Ent.rule p z ds]))).length by omega)]
  simp
/-! equal stacks -/
theorem eqEs_refl : ∀ es : List Ent, eqEs es es = true
  | [] => by simp [eqEs]
  | e :: es => by
    rw [eqEs, eqEs_refl es, decide_eq_true rfl]
    rfl
theorem req_eqv : PyData.eqv (.tuple reqD) (.tuple reqD) = true := by decide +kernel
theorem eqRule_req {z : Str} : eqRule z z reqD reqD = true := by
  unfold eqRule
  rw [decide_eq_true rfl, req_eqv]
  rfl
theorem wrapped_ne {m : Int} {x y : Addr} {es : List Ent} (h : FlatAt m es) (hy : ∀ e ∈ es, e.at_ ≠ y) : eqS (.stk x [.stk y es]) (.stk y es) = false := by
  cases es with
  | nil => simp [eqS, eqEs]
  | cons e es =>
    obtain ⟨p, rfl⟩ := h 0 e rfl
    have q : y ≠ p := fun z => hy _ List.mem_cons_self z.symm
    show eqEs [Ent.stk y _] (Ent.rule p _ _ :: es) = false
    rw [eqEs]
    show ((decide (y = p) || eqS (Ent.stk y _) (Ent.rule p _ _)) && _) = false
    rw [decide_eq_false q]
    simp [eqS]
end LS
set_option maxHeartbeats 8000000
namespace LS
open PySem L2 TxS
/-- a getter and its property -/
structure PropK (P : Program) (w : World) (K : PySem.W.Frag) (mg : Str → Option Value) (base : Heap) (C : Addr) (f : Str) (sp : Sp) where
  {a p : Addr}
  {fd : FuncData}
  G : FnOk P w K mg base CX0 1 a fd ["self"] sp
  b : Binds K fd ["self"] []
  pr : PropOf K C f p a
abbrev initS (K : PySem.W.Frag) (CR CS CI : Addr) : Sp := fun vs H Q E => ∃ v rest, vs = v :: rest ∧ rest.length ≤ 1000 ∧ ∀ p, H p = none → spSInit K CR CS CI [v, .ref p] (upd H p (.tup rest)) Q E
/-- what the top has of rules and stacks, by promises -/
structure StkC (P : Program) (w : World) (K : PySem.W.Frag) (mg : Str → Option Value) (base : Heap) (CR CS CI CX : Addr) where
  T : StackK K mg CR CS
  Z : EqK K CR CS
  {fI : Addr}
  GI : FnR P w K mg base (L2.CX P w) 8 fI (initS K CR CS CI)
  MS : Mk K CS fI
  {fR : Addr}
  {fdR : FuncData}
  GR : FnOk P w K mg base (L2.CX P w) 4 fR fdR ["self", "module", "control"] (spRInit K CR CX)
  MR : Mk K CR fR
  bR : Binds K fdR ["self", "module", "control"] []
  PE : PropK P w K mg base CS "entries" (spSEntries K CR CS)
  PR : PropK P w K mg base CS "rules" (spSRules K CR CS)
  PM : PropK P w K mg base CS "modules" (spSModules K CR CS)
  PN : PropK P w K mg base CR "module" (spMod K CR)
  ER : OwnEqK P w K mg base CR 1 (spEqB (RR K CR CS))
  ES : ∀ d, OwnEqK P w K mg base CS (2 * d + 3) (spEqB (RS K CR CS d))
  neR : PySem.W.findIn K (.ref CR) "__ne__" = some (some (.builtin "object.__ne__"))
  neS : PySem.W.findIn K (.ref CS) "__ne__" = some (some (.builtin "object.__ne__"))
/-- + of stacks -/
structure AddK (P : Program) (w : World) (K : PySem.W.Frag) (mg : Str → Option Value) (base : Heap) (CR CS CI : Addr) where
  {fA : Addr}
  {fdA : FuncData}
  GA : FnOk P w K mg base (L2.CX P w) 10 fA fdA ["self", "other"] (spSAdd K CR CS CI)
  bA : Binds K fdA ["self", "other"] []
  aA : PySem.W.findIn K (.ref CS) "__add__" = some (some (.ref fA))
  nA : PySem.W.isFn K (.ref fA) = true
  sf : PySem.W.selfFirst K CS = true
/-- and of +, len, [] of stacks -/
structure StkT (P : Program) (w : World) (K : PySem.W.Frag) (mg : Str → Option Value) (base : Heap) (CR CS CI CX : Addr) extends StkC P w K mg base CR CS CI CX, AddK P w K mg base CR CS CI where
  {fL : Addr}
  {fdL : FuncData}
  GL : FnOk P w K mg base CX0 1 fL fdL ["self"] (spSLen K CR CS)
  bL : Binds K fdL ["self"] []
  aL : PySem.W.findIn K (.ref CS) "__len__" = some (some (.ref fL))
  nL : PySem.W.isFn K (.ref fL) = true
  {fG : Addr}
  {fdG : FuncData}
  GG : FnOk P w K mg base CX0 1 fG fdG ["self", "at"] (spSGet K CR CS)
  bG : Binds K fdG ["self", "at"] []
  aG : PySem.W.findIn K (.ref CS) "__getitem__" = some (some (.ref fG))
  nG : PySem.W.isFn K (.ref fG) = true
  iG : PySem.W.fnIn K fG = true
end LS
namespace LS
open PySem L2 TxS
/-- the helper of raised errors, where it stands -/
structure RaisedK (K : PySem.W.Frag) (mg : Str → Option Value) where
  {f : Addr}
  {oc kV doc pm cdv ct : Value}
  {od an : Option Addr}
  {osl : Array (Option Value)}
  lk : K.lookup f = some ⟨oc, od, .func (PySem.W.fnOf "_law_raised" "_law_raised" (defArgs sRaised) (defBody sRaised) (defScope sRaised) .none kV doc pm an cdv ct), osl⟩
  cd : PySem.W.codeIn K cdv "_law_raised" = true
  g : mg "_law_raised" = some (.ref f)
  k : PySem.W.keepIn K (.ref f) = true
  b : Binds K (PySem.W.fnOf "_law_raised" "_law_raised" (defArgs sRaised) (defBody sRaised) (defScope sRaised) .none kV doc pm an cdv ct) ["_law_work"] []
structure LawT (P : Program) (w : World) (K : PySem.W.Frag) (mg : Str → Option Value) (base : Heap) (CR CS CI CX CE : Addr) where
  S : StkT P w K mg base CR CS CI CX
  E : ErrS K mg CE CI CX
  Z : RaisedK K mg
  Fl : DefK P w K mg base CX0 11 "_law_flat" ["_law_many", "_law_first"] (spFlat K CR CS)
  Ne : DefK P w K mg base CX0 10 "_law_nested" ["_law_deep"] (spNested K CR CS)
  Tk : DefK P w K mg base CX0 1 "_law_taken" ["_law_row", "_law_many"] (spTaken K)
  len : mg "len" = none
  sorted : mg "sorted" = none
  list : mg "list" = none
abbrev sLaw : Stmt := top i_law
abbrev nLaw : List Str := ["_law_script", "_law_row", "_law_many", "_law_word", "_law_deep", "_law_wrapped", "_law_inner", "_law_more", "_law_six", "_law_stack"]
def stL (k : Nat) : Stmt := (defBody sLaw).getD k (.Pass ⟨0, 0, 0, 0⟩)
def spLaw (K : PySem.W.Frag) (PT : Addr) : Sp := fun vs H Q _ => ∃ (a : Addr) (ns : List Int), vs = [.ref a] ∧ SqL K H a (ns.map V.int) ∧ H PT = some (.tbl #[]) ∧ ∀ H', Q (.bl true) H'
section
variable {P : Program} {w : World} {K : PySem.W.Frag} {mg : Str → Option Value} {base : Heap} {CR CS CI CX CE f c0 PT : Addr} {A : Around} {outer : List Env} {s : Shared} {HX : Hp} {EX : XK}
theorem scLaw : FnScope nLaw ["_law_script"] (defScope sLaw) := ⟨rfl, rfl, rfl, by decide +kernel, rfl, by decide +kernel, by decide +kernel⟩
abbrev cxL (P : Program) (w : World) (K : PySem.W.Frag) (mg : Str → Option Value) (base : Heap) (f c0 : Addr) (A : Around) (outer : List Env) (s : Shared) (HX : Hp) (EX : XK) : Cx := (cxOf CX0 P w K mg base nLaw "law" (defScope sLaw) f (.ref c0) A outer s HX EX).nox
/-- the one table of the law's lambdas -/
abbrev TB1 (P : Program) (w : World) (K : PySem.W.Frag) (mg : Str → Option Value) (base : Heap) (f c0 : Addr) (A : Around) (outer : List Env) (s : Shared) (HX : Hp) (EX : XK) (PT : Addr) : List (Addr × Str) := [(PT, (cxL P w K mg base f c0 A outer s HX EX).env.qual ++ "<lambda>")]
theorem grp0 (T : LawT P w K mg base CR CS CI CX CE) (hr : Room 13 (cxL P w K mg base f c0 A outer s HX EX).A) {rest : List Stmt} {u : TS} (hu : PSs (cxL P w K mg base f c0 A outer s HX EX) rest u) :
    ∃ t, PSs (cxL P w K mg base f c0 A outer s HX EX) (stL 0 :: stL 1 :: stL 2 :: rest) t ∧ ∀ (D : Ends) (H : Hp) (sc : Addr) (ns : List Int), SqL K H sc (ns.map V.int) → H PT = some (.tbl #[]) →
      (∀ (r y : Addr) (n : Nat) (es : List Ent) (H' : Hp), Bs K H' r sc ns (TB1 P w K mg base f c0 A outer s HX EX PT) → n ≤ 12 → es.length = n → FlatAt 0 es → EntAt K CR CS H' (.stk y es) → u D [some (.ref sc), some (.ref r), some (.int (n : Nat)), none, none, none, none, none, none, some (.ref y)] H') →
      t D (L2.start nLaw [.ref sc]) H := by
  refine ⟨_, pss_cons (ps_set (i := 1) scLaw.nd rfl (.inl rfl) (pe_lst (pa_cons (pv 0) (pa_cons pe_int (pa_cons pe_int (pa_cons pe_int pa_nil))))))
    (pss_cons (ps_set (i := 2) scLaw.nd rfl (.inl rfl) (pe_call T.Tk.G (hr.mono (by decide)) (by rfl) T.Tk.g T.Tk.kp T.Tk.b .nil pass0 (pa_cons (pv 1) (pa_cons pe_int pa_nil))))
    (pss_cons (ps_set (i := 9) scLaw.nd rfl (.inr rfl) (pe_call T.Fl.G (hr.mono (by decide)) (by rfl) T.Fl.g T.Fl.kp T.Fl.b .nil pass0 (pa_cons (pv 2) (pa_cons pe_int pa_nil)))) hu)), ?_⟩
  intro D H sc ns hS hPT k
  refine ⟨_, rfl, by show 4 ≤ sizeLine; decide, fun r nr => ?_⟩
  have S0 : Same H (upd H r (.lst [.ref sc, .int 0, .int 0, .int 0])) := same_upd nr (Same.refl H)
  have b0 : Bs K (upd H r (.lst [.ref sc, .int 0, .int 0, .int 0])) r sc ns (TB1 P w K mg base f c0 A outer s HX EX PT) := ⟨⟨S0.seq hS, 0, 0, 0, by decide, upd_same⟩, fun p hp => by rw [List.mem_singleton.mp hp]; exact LamX.TabS.nil (S0 _ _ hPT)⟩
  refine ⟨_, rfl, r, sc, ns, _, rfl, (by decide), (by decide), b0.1.1, b0.1.2, fun j H1 j0 j1 R1 B1 => ?_⟩
  have b1 := b0.row R1 B1
  obtain ⟨n, rfl⟩ : ∃ n : Nat, j = (n : Nat) := ⟨j.toNat, by omega⟩
  refine ⟨_, rfl, n, 0, rfl, by omega, fun y es H2 S2 en hl fl => ?_⟩
  exact k r y n es H2 (b1.same S2) (by omega) hl fl en
end
end LS
namespace LS
open PySem L2 TxS
section
variable {P : Program} {w : World} {K : PySem.W.Frag} {mg : Str → Option Value} {base : Heap} {CR CS CI CX CE f c0 PT : Addr} {A : Around} {outer : List Env} {s : Shared} {HX : Hp} {EX : XK}
abbrev sl (sc r : Addr) (n : Nat) (a3 a4 a5 a6 a7 a8 : Option V) (y : Addr) : St := [some (.ref sc), some (.ref r), some (.int (n : Nat)), a3, a4, a5, a6, a7, a8, some (.ref y)]
/-- lists of the first letters, as data -/
theorem few_data : ∀ n : Fin 13, SeqAt.shaped (.list ((signs (cutS ("abcdef" : Str) none (some ((n.val : Nat) : Int)))).map PyData.str)) = true ∧ PyData.eqv (.list ((signs (cutS ("abcdef" : Str) none (some ((n.val : Nat) : Int)))).map PyData.str)) (.list ((signs (cutS ("abcdef" : Str) none (some ((n.val : Nat) : Int)))).map PyData.str)) = true ∧ PyProof.Rows.sortedS (signs (cutS ("abcdef" : Str) none (some ((n.val : Nat) : Int)))) = true := by decide +kernel
theorem grp1 (T : LawT P w K mg base CR CS CI CX CE) (TBb : LamX.TabB base mg c0 PT) (hr : Room 13 (cxL P w K mg base f c0 A outer s HX EX).A) {rest : List Stmt} {u : TS} (hu : PSs (cxL P w K mg base f c0 A outer s HX EX) rest u) :
    ∃ t, PSs (cxL P w K mg base f c0 A outer s HX EX) (stL 3 :: stL 4 :: stL 5 :: rest) t ∧ ∀ (D : Ends) (H : Hp) (sc r y : Addr) (ns : List Int) (n : Nat) (es : List Ent) (a3 a4 a5 a6 a7 a8 : Option V), Bs K H r sc ns (TB1 P w K mg base f c0 A outer s HX EX PT) → n ≤ 12 → es.length = n → FlatAt 0 es → EntAt K CR CS H (.stk y es) → 
      (∀ H2, Same H H2 → u D (sl sc r n a3 a4 a5 a6 a7 a8 y) H2) →
      t D (sl sc r n a3 a4 a5 a6 a7 a8 y) H := by
  have hu64 : (cxL P w K mg base f c0 A outer s HX EX).A.units + 64 < cLine := by have := hr.un; omega
  refine ⟨_, pss_cons (ps_if (pt_cmpR op_ne (pe_callB (cr_lenI T.S.GL (hr.mono (by decide)) T.S.aL T.S.nL T.S.bL) (by rfl) T.len PySem.boot_len (pa_cons (pv 9) pa_nil)) (pv 2) (nomark _)) pss_false pss_nil)
    (pss_cons (ps_if (pt_cmpR op_ne (pe_callB call_len_seq (by rfl) T.len PySem.boot_len (pa_cons (pe_prop (pv 9) T.S.T.cl T.S.PR.pr T.S.PR.G (hr.mono (by decide)) T.S.PR.b .nil pass0 rfl) pa_nil)) (pv 2) (nomark _)) pss_false pss_nil)
    (pss_cons (ps_if (pt_cmpR (op_neD hu64) (pe_callTy call_list_of (by rfl) T.list (by decide +kernel) (pa_cons (pe_prop (pv 9) T.S.T.cl T.S.PM.pr T.S.PM.G (hr.mono (by decide)) T.S.PM.b .nil pass0 rfl) pa_nil)) (pe_callB (cr_sortedStr rfl) (by rfl) T.sorted (by decide +kernel) (pa_cons (pe_slice sl_str pe_str po_none (po_some (pv 2))) pa_nil)) (nomark _)) pss_false pss_nil) hu)), ?_⟩
  intro D H sc r y ns n es a3 a4 a5 a6 a7 a8 b hn hl fl en k
  obtain ⟨dx, fs, hy⟩ := stk_ins en
  have hs2 := sizeLine_eq
  refine ⟨_, rfl, y, dx, fs, rfl, hy, y, es, rfl, en, es.length, rfl, by omega, _, rfl, rfl, _, rfl, ?_⟩
  rw [hl, decide_eq_true rfl]
  refine iteF ?_
  refine ⟨_, rfl, y, dx, fs, rfl, hy, y, es, rfl, en, fun t ht => ?_⟩
  refine ⟨t, _, rfl, .inr ht, _, rfl, rfl, _, rfl, ?_⟩
  rw [List.length_map, (flat_rules fl.flat).1, hl, decide_eq_true rfl]
  refine iteF ?_
  refine ⟨_, rfl, y, dx, fs, rfl, hy, y, es, rfl, en, fun t ms ht hm => ?_⟩
  refine ⟨t, _, rfl, .inr ht, fun l nl => ?_⟩
  have S1 : Same H (upd H l (.lst (ms.map V.str))) := same_upd nl (Same.refl H)
  have hl1 : upd H l (.lst (ms.map V.str)) l = some (.lst (ms.map V.str)) := upd_same
  generalize upd H l (.lst (ms.map V.str)) = H1 at *
  refine ⟨_, rfl, _, rfl, _, rfl, by decide +kernel, _, rfl, ?_, fun ys p hp hs np => ?_⟩
  · exact Nat.lt_of_le_of_lt (cutS_length _ _ _) (by decide +kernel)
  have hms : ms = ys := flat_mods fl (by omega) hm (by rw [hl]; exact hp) hs
  obtain ⟨q1, q2, q3⟩ := few_data ⟨n, by omega⟩
  have hys : ys = signs (cutS ("abcdef" : Str) none (some ((n : Nat) : Int))) := sortedS_uniq hp hs q3
  subst hms
  subst hys
  have S2 : Same H1 (upd H1 p (.lst ((signs (cutS ("abcdef" : Str) none (some ((n : Nat) : Int)))).map V.str))) := same_upd np (Same.refl H1)
  refine ⟨_, _, .lst (SqL.of (S2 _ _ hl1)) (words_dp _), .lst (SqL.of upd_same) (words_dp _), q1, q1, _, rfl, ?_⟩
  rw [q2]
  refine iteF ?_
  exact k _ (S1.trans S2)
end
end LS
namespace LS
open PySem L2 TxS
section
variable {P : Program} {w : World} {K : PySem.W.Frag} {mg : Str → Option Value} {base : Heap} {CR CS CI CX CE f c0 PT : Addr} {A : Around} {outer : List Env} {s : Shared} {HX : Hp} {EX : XK}
/-- what the helper answers: None, or the pair of "stack" and the index -/
def wordD : Option Nat → PyData
  | none => .none
  | some i => .tuple [.str "stack", .int (i : Nat)]
theorem word_sh (o : Option Nat) : SeqAt.shaped (wordD o) = true := by
  cases o with
  | none => decide +kernel
  | some i =>
    have q : PyData.strOk (Str.ofString "stack") = true := by decide +kernel
    simp [wordD, SeqAt.shaped, PyData.canLay0, PyData.canLayAll0, PyData.depth, PyData.depthAll, q]
theorem word_eqv (o : Option Nat) : PyData.eqv (wordD o) (wordD o) = true := by
  cases o with
  | none => decide +kernel
  | some i =>
    show (PyData.eqv (.str "stack") (.str "stack") && (PyData.eqv (.int (i : Nat)) (.int (i : Nat)) && true)) = true
    simp [PyData.eqv]
theorem word_at {K : PySem.W.Frag} {H : Hp} {p : Addr} {i : Nat} (h : H p = some (.tup [.str "stack", .int (i : Nat)])) : Dp K H (.ref p) (wordD (some i)) := .tup (SqT.of h) (.cons (.str _) (.cons (.int _) .nil))
theorem grp2 (T : LawT P w K mg base CR CS CI CX CE) (TBb : LamX.TabB base mg c0 PT) (hr : Room 13 (cxL P w K mg base f c0 A outer s HX EX).A) {rest : List Stmt} {u : TS} (hu : PSs (cxL P w K mg base f c0 A outer s HX EX) rest u) :
    ∃ t, PSs (cxL P w K mg base f c0 A outer s HX EX) (stL 6 :: rest) t ∧ ∀ (D : Ends) (H : Hp) (sc r y : Addr) (ns : List Int) (n : Nat) (es : List Ent) (a3 a4 a5 a6 a7 a8 : Option V), Bs K H r sc ns (TB1 P w K mg base f c0 A outer s HX EX PT) → n ≤ 12 → es.length = n → FlatAt 0 es → EntAt K CR CS H (.stk y es) → 
      (∀ (y2 : Addr) (m2 : Int) (fs : List Ent) (H2 : Hp), Bs K H2 r sc ns (TB1 P w K mg base f c0 A outer s HX EX PT) → EntAt K CR CS H2 (.stk y es) →  FlatAt m2 fs → fs.length ≤ 12 → EntAt K CR CS H2 (.stk y2 fs) → u D (sl sc r n a3 a4 a5 a6 (some (.ref y2)) a8 y) H2) →
      t D (sl sc r n a3 a4 a5 a6 a7 a8 y) H := by
  refine ⟨_, pss_cons (ps_set (i := 7) scLaw.nd rfl (.inr rfl) (pe_call T.Fl.G (hr.mono (by decide)) (by rfl) T.Fl.g T.Fl.kp T.Fl.b .nil pass0 (pa_cons (pe_op op_add pe_int (pe_call T.Tk.G (hr.mono (by decide)) (by rfl) T.Tk.g T.Tk.kp T.Tk.b .nil pass0 (pa_cons (pv 1) (pa_cons pe_int pa_nil)))) (pa_cons (pe_call T.Tk.G (hr.mono (by decide)) (by rfl) T.Tk.g T.Tk.kp T.Tk.b .nil pass0 (pa_cons (pv 1) (pa_cons pe_int pa_nil))) pa_nil)))) hu, ?_⟩
  intro D H sc r y ns n es a3 a4 a5 a6 a7 a8 b hn hl fl en k
  refine ⟨_, rfl, r, sc, ns, _, rfl, (by decide), (by decide), b.1.1, b.1.2, fun j1 H1 j10 j11 R1 B1 => ?_⟩
  have b1 := b.row R1 B1
  have en1 := ent_row b.1.2 (but_of B1) _ en
  refine ⟨_, _, rfl, rfl, ?_⟩
  refine ⟨_, rfl, r, sc, ns, _, rfl, (by decide), (by decide), b1.1.1, b1.1.2, fun j2 H2 j20 j21 R2 B2 => ?_⟩
  have b2 := b1.row R2 B2
  have en2 := ent_row b1.1.2 (but_of B2) _ en1
  obtain ⟨n2, hn2⟩ : ∃ n2 : Nat, 1 + j1 = (n2 : Nat) := ⟨(1 + j1).toNat, by omega⟩
  refine ⟨n2, j2, ?_, by omega, fun y2 fs H3 S3 en3 hl3 fl3 => ?_⟩
  · show [V.int (1 + j1), V.int j2] = _
    rw [hn2]
  · exact k y2 j2 fs H3 (b2.same S3) (ent_same S3 _ en2) fl3 (by omega) en3
theorem grp3a (T : LawT P w K mg base CR CS CI CX CE) (TBb : LamX.TabB base mg c0 PT) (hr : Room 13 (cxL P w K mg base f c0 A outer s HX EX).A) {rest : List Stmt} {u : TS} (hu : PSs (cxL P w K mg base f c0 A outer s HX EX) rest u) :
    ∃ t, PSs (cxL P w K mg base f c0 A outer s HX EX) (stL 7 :: rest) t ∧ ∀ (D : Ends) (H : Hp) (sc r y : Addr) (ns : List Int) (n : Nat) (es : List Ent) (a3 a4 a5 a6 a8 : Option V) (y2 : Addr) (m2 : Int) (fs : List Ent), Bs K H r sc ns (TB1 P w K mg base f c0 A outer s HX EX PT) → n ≤ 12 → es.length = n → FlatAt 0 es → EntAt K CR CS H (.stk y es) → FlatAt m2 fs → fs.length ≤ 12 → EntAt K CR CS H (.stk y2 fs) →
      (∀ (v : V) (H2 : Hp), Bs K H2 r sc ns (TB1 P w K mg base f c0 A outer s HX EX PT) → EntAt K CR CS H2 (.stk y es) →  EntAt K CR CS H2 (.stk y2 fs) → Dp K H2 v (wordD (if n + fs.length > 12 then some 12 else none)) → u D (sl sc r n (some v) a4 a5 a6 (some (.ref y2)) a8 y) H2) →
      t D (sl sc r n a3 a4 a5 a6 (some (.ref y2)) a8 y) H := by
  refine ⟨_, pss_cons (ps_set (i := 3) scLaw.nd rfl (.inl rfl) (LamX.pe_lamcall (T := (TB1 P w K mg base f c0 A outer s HX EX PT)) (TT := TRaisedS CI) (k := 11) (c := c0) (P := PT) (Ng := nRaised) (a := "_law_work") (t := fun E => tOp (rAddI CS (spSAdd K CR CS CI) E) (tVar 9) (tVar 7)) (by rfl) T.Z.g T.Z.k T.Z.lk T.Z.cd T.Z.b scRaised rfl (Or.inl rfl) (gives_stack (CS := CE) (CI := CI) (C0 := CX) T.E (by have := hr.un; omega)) TBb rfl (by exact List.mem_singleton.mpr rfl) (fun p hp _ => by rw [List.mem_singleton.mp hp]) hr (LamX.lamS_by (sc := defScope sLaw) (by decide +kernel)) rfl (fun _ _ _ _ _ => rfl) (fun A outer s H E f c' hr2 => pe_op (op_addI T.S.GA (hr2.mono (by decide)) T.S.aA T.S.nA T.S.bA T.S.sf (passes_call (takes_of rfl rfl rfl rfl) (fun _ _ _ _ h => h))) (pv 9) (pv 7)))) hu, ?_⟩
  intro D H sc r y ns n es a3 a4 a5 a6 a8 y2 m2 fs b hn hl fl en fl2 hl2 en2 k
  refine ⟨b.2, fun H1 e1 tb1 => ?_⟩
  have d1 := b.1.ext e1
  have en1 := ent_ext e1 _ en
  have en21 := ent_ext e1 _ en2
  obtain ⟨dx, gs, hy⟩ := stk_ins en1
  obtain ⟨dx2, gs2, hy2⟩ := stk_ins en21
  have flat2 := flat_app fl.flat fl2.flat
  have len2 : (es ++ fs).length = n + fs.length := by rw [List.length_append, hl]
  refine ⟨_, rfl, _, rfl, y, y2, dx, dx2, _, _, rfl, rfl, hy, hy2, y, y2, es, fs, rfl, en1, en21, ?_, ?_⟩
  · intro i hi d H3 S3 nd hd
    have big : n + fs.length > 12 := by
      by_cases q : n + fs.length > 12
      · exact q
      · rw [flat_fit flat2 (by omega)] at hi
        cases hi
    have e12 : i = 12 := by
      rw [flat_over flat2 (by omega)] at hi
      exact (Option.some.inj hi).symm
    subst e12
    refine ⟨rfl, d, _, rfl, hd, fun H4 p S4 hp => ?_⟩
    have S := S3.trans S4
    refine k (.ref p) H4 (⟨d1.same S, tb1.ext S⟩) (ent_same S _ en1) (ent_same S _ en21) ?_
    rw [if_pos big]
    exact word_at hp
  · intro hm x H3 S3 _
    have small : ¬ n + fs.length > 12 := fun q => by
      rw [flat_over flat2 (by omega)] at hm
      cases hm
    refine k .non H3 (⟨d1.same S3, tb1.ext S3⟩) (ent_same S3 _ en1) (ent_same S3 _ en21) ?_
    rw [if_neg small]
    exact .non
theorem grp3b (T : LawT P w K mg base CR CS CI CX CE) (TBb : LamX.TabB base mg c0 PT) (hr : Room 13 (cxL P w K mg base f c0 A outer s HX EX).A) {rest : List Stmt} {u : TS} (hu : PSs (cxL P w K mg base f c0 A outer s HX EX) rest u) :
    ∃ t, PSs (cxL P w K mg base f c0 A outer s HX EX) (stL 8 :: rest) t ∧ ∀ (D : Ends) (H : Hp) (sc r y : Addr) (ns : List Int) (n : Nat) (es : List Ent) (a4 a5 a6 a8 : Option V) (y2 : Addr) (m2 : Int) (fs : List Ent) (v : V), Bs K H r sc ns (TB1 P w K mg base f c0 A outer s HX EX PT) → n ≤ 12 → es.length = n → FlatAt 0 es → EntAt K CR CS H (.stk y es) → FlatAt m2 fs → fs.length ≤ 12 → EntAt K CR CS H (.stk y2 fs) → Dp K H v (wordD (if n + fs.length > 12 then some 12 else none)) →
      (∀ (H2 : Hp), Same H H2 → u D (sl sc r n (some v) a4 a5 a6 (some (.ref y2)) a8 y) H2) →
      t D (sl sc r n (some v) a4 a5 a6 (some (.ref y2)) a8 y) H := by
  have hu64 : (cxL P w K mg base f c0 A outer s HX EX).A.units + 64 < cLine := by have := hr.un; omega
  refine ⟨_, pss_cons (ps_if (pt_cmpR (op_neD hu64) (pv 3) (pe_ifExp (pt_cmpR op_gt (pe_op op_add (pv 2) (pe_callB (cr_lenI T.S.GL (hr.mono (by decide)) T.S.aL T.S.nL T.S.bL) (by rfl) T.len PySem.boot_len (pa_cons (pv 7) pa_nil))) pe_int (nomark _)) (pe_tup (pa_cons pe_str (pa_cons pe_int pa_nil))) pe_non) (nomark _)) pss_false pss_nil) hu, ?_⟩
  intro D H sc r y ns n es a4 a5 a6 a8 y2 m2 fs v b hn hl fl en fl2 hl2 en2 hv k
  obtain ⟨dx2, gs2, hy2⟩ := stk_ins en2
  have hs2 := sizeLine_eq
  refine ⟨_, rfl, _, rfl, _, rfl, y2, dx2, _, rfl, hy2, y2, fs, rfl, en2, fs.length, rfl, by omega, _, _, rfl, rfl, _, _, rfl, rfl, _, rfl, ?_⟩
  refine ite2 (fun h => ?_) (fun h => ?_)
  · have big : n + fs.length > 12 := by
      have q : (12 : Int) < (n : Nat) + (fs.length : Nat) := of_decide_eq_true h
      omega
    rw [if_pos big] at hv
    refine ⟨by show 2 ≤ sizeLine; decide, fun p np => ?_⟩
    have S1 : Same H (upd H p (.tup [.str "stack", .int 12])) := same_upd np (Same.refl H)
    refine ⟨_, _, same_dp S1 _ _ hv, word_at (i := 12) upd_same, word_sh _, word_sh _, _, rfl, ?_⟩
    rw [word_eqv]
    refine iteF ?_
    exact k _ S1
  · have small : ¬ n + fs.length > 12 := fun q => h (decide_eq_true (by show (12 : Int) < (n : Nat) + (fs.length : Nat); omega))
    rw [if_neg small] at hv
    refine ⟨wordD none, wordD none, hv, .non, word_sh none, word_sh none, _, rfl, ?_⟩
    rw [word_eqv]
    refine iteF ?_
    exact k _ (Same.refl H)
theorem grp4 (T : LawT P w K mg base CR CS CI CX CE) (TBb : LamX.TabB base mg c0 PT) (hr : Room 13 (cxL P w K mg base f c0 A outer s HX EX).A) {rest : List Stmt} {u : TS} (hu : PSs (cxL P w K mg base f c0 A outer s HX EX) rest u) :
    ∃ t, PSs (cxL P w K mg base f c0 A outer s HX EX) (stL 9 :: rest) t ∧ ∀ (D : Ends) (H : Hp) (sc r y : Addr) (ns : List Int) (n : Nat) (es : List Ent) (a3 a4 a5 a6 a8 : Option V) (y2 : Addr) (m2 : Int) (fs : List Ent), Bs K H r sc ns (TB1 P w K mg base f c0 A outer s HX EX PT) → n ≤ 12 → es.length = n → FlatAt 0 es → EntAt K CR CS H (.stk y es) → FlatAt m2 fs → fs.length ≤ 12 → EntAt K CR CS H (.stk y2 fs) →
      (∀ (H2 : Hp), Bs K H2 r sc ns (TB1 P w K mg base f c0 A outer s HX EX PT) → EntAt K CR CS H2 (.stk y es) →  u D (sl sc r n a3 a4 a5 a6 (some (.ref y2)) a8 y) H2) →
      t D (sl sc r n a3 a4 a5 a6 (some (.ref y2)) a8 y) H := by
  have hu64 : (cxL P w K mg base f c0 A outer s HX EX).A.units + 64 < cLine := by have := hr.un; omega
  refine ⟨_, pss_cons (ps_if (pt_cmpR (op_neD hu64) (LamX.pe_lamcall (T := (TB1 P w K mg base f c0 A outer s HX EX PT)) (TT := TRaisedS CI) (k := 11) (c := c0) (P := PT) (Ng := nRaised) (a := "_law_work") (t := fun E => StX.tMakeR CS (initS K CR CS CI) E (tCons (tVar 9) (tCons (tVar 7) tNil))) (by rfl) T.Z.g T.Z.k T.Z.lk T.Z.cd T.Z.b scRaised rfl (Or.inl rfl) (gives_stack (CS := CE) (CI := CI) (C0 := CX) T.E (by have := hr.un; omega)) TBb rfl (by exact List.mem_singleton.mpr rfl) (fun p hp _ => by rw [List.mem_singleton.mp hp]) hr (LamX.lamS_by (sc := defScope sLaw) (by decide +kernel)) rfl (fun _ _ _ _ _ => rfl) (fun A outer s H E f c' hr2 => StX.pe_makeR T.S.MS T.S.GI (hr2.mono (by decide)) (by rfl) T.S.T.g (passes_call (takes_of rfl rfl rfl rfl) (fun _ _ _ _ h => h)) (pa_cons (pv 9) (pa_cons (pv 7) pa_nil)))) (pe_ifExp (pt_cmpR op_gt (pe_op op_add (pv 2) (pe_callB (cr_lenI T.S.GL (hr.mono (by decide)) T.S.aL T.S.nL T.S.bL) (by rfl) T.len PySem.boot_len (pa_cons (pv 7) pa_nil))) pe_int (nomark _)) (pe_tup (pa_cons pe_str (pa_cons pe_int pa_nil))) pe_non) (nomark _)) pss_false pss_nil) hu, ?_⟩
  intro D H sc r y ns n es a3 a4 a5 a6 a8 y2 m2 fs b hn hl fl en fl2 hl2 en2 k
  have hs2 := sizeLine_eq
  have two := two_stk (x := y) (y := y2) fl.flat fl2.flat (by omega) hl2
  rw [hl] at two
  refine ⟨b.2, fun H1 e1 tb1 => ?_⟩
  have d1 := b.1.ext e1
  have en1 := ent_ext e1 _ en
  have en21 := ent_ext e1 _ en2
  refine ⟨_, rfl, _, rfl, fun x dx nx nd hne => ?_⟩
  refine stack_at (es := [Ent.stk y es, Ent.stk y2 fs]) ⟨en1, en21, True.intro⟩ (by show 2 ≤ 1000; decide) nx nd hne ?_ ?_
  · intro i hi d H3 S3 nd3 hd
    refine ⟨rfl, d, _, rfl, hd, fun H4 p S4 hp => ?_⟩
    have S := S3.trans S4
    have big : n + fs.length > 12 := by
      by_cases q : n + fs.length > 12
      · exact q
      · rw [two, if_neg q] at hi
        cases hi
    have ei : i = 1 := by
      rw [two, if_pos big] at hi
      exact (Option.some.inj hi).symm
    subst ei
    have en22 := ent_same S _ en21
    obtain ⟨dx2, gs2, hy2⟩ := stk_ins en22
    refine ⟨_, rfl, _, rfl, y2, dx2, _, rfl, hy2, y2, fs, rfl, en22, fs.length, rfl, by omega, _, _, rfl, rfl, _, _, rfl, rfl, _, rfl, ?_⟩
    rw [decide_eq_true (show (12 : Int) < (n : Nat) + (fs.length : Nat) by omega)]
    refine iteT ?_
    refine ⟨by show 2 ≤ sizeLine; decide, fun p2 np2 => ?_⟩
    have S1 : Same H4 (upd H4 p2 (.tup [.str "stack", .int 1])) := same_upd np2 (Same.refl H4)
    refine ⟨_, _, same_dp S1 _ _ (word_at (i := 1) hp), word_at (i := 1) upd_same, word_sh _, word_sh _, _, rfl, ?_⟩
    rw [word_eqv]
    refine iteF ?_
    have SS := S.trans S1
    exact k _ ⟨d1.same SS, tb1.ext SS⟩ (ent_same SS _ en1)
  · intro hm H3 S3 _
    have small : ¬ n + fs.length > 12 := fun q => by
      rw [two, if_pos q] at hm
      cases hm
    have en22 := ent_same S3 _ en21
    obtain ⟨dx2, gs2, hy2⟩ := stk_ins en22
    refine ⟨_, rfl, _, rfl, y2, dx2, _, rfl, hy2, y2, fs, rfl, en22, fs.length, rfl, by omega, _, _, rfl, rfl, _, _, rfl, rfl, _, rfl, ?_⟩
    rw [decide_eq_false (show ¬ (12 : Int) < (n : Nat) + (fs.length : Nat) by omega)]
    refine iteF ?_
    refine ⟨.none, .none, .non, .non, word_sh none, word_sh none, _, rfl, ?_⟩
    rw [show PyData.eqv .none .none = true from word_eqv none]
    refine iteF ?_
    exact k _ ⟨d1.same S3, tb1.ext S3⟩ (ent_same S3 _ en1)
end
end LS
namespace LS
open PySem L2 TxS
section
variable {P : Program} {w : World} {K : PySem.W.Frag} {mg : Str → Option Value} {base : Heap} {CR CS CI CX CE f c0 PT : Addr} {A : Around} {outer : List Env} {s : Shared} {HX : Hp} {EX : XK}
abbrev optD : List PyData := tOpt.map PyData.str
theorem opt_acts : actsOf (.str "optional") = some optD := by
  show (looked "optional" ctrlTab).map (·.map PyData.str) = _
  rw [show looked "optional" ctrlTab = some tOpt by decide +kernel]
  rfl
theorem grp5 (T : LawT P w K mg base CR CS CI CX CE) (TBb : LamX.TabB base mg c0 PT) (hr : Room 13 (cxL P w K mg base f c0 A outer s HX EX).A) {rest : List Stmt} {u : TS} (hu : PSs (cxL P w K mg base f c0 A outer s HX EX) rest u) :
    ∃ t, PSs (cxL P w K mg base f c0 A outer s HX EX) (stL 10 :: stL 11 :: rest) t ∧ ∀ (D : Ends) (H : Hp) (sc r y : Addr) (ns : List Int) (n : Nat) (es : List Ent) (a3 a4 a5 a6 a7 a8 : Option V), Bs K H r sc ns (TB1 P w K mg base f c0 A outer s HX EX PT) → n ≤ 12 → es.length = n → FlatAt 0 es → EntAt K CR CS H (.stk y es) → 
      (∀ (d : Nat) (e : Ent) (H2 : Hp), Bs K H2 r sc ns (TB1 P w K mg base f c0 A outer s HX EX PT) → EntAt K CR CS H2 (.stk y es) →  d ≤ 3 → Nest d e → EntAt K CR CS H2 e → u D (sl sc r n a3 (some (.int (d : Nat))) a5 (some (refE e)) a7 a8 y) H2) →
      t D (sl sc r n a3 a4 a5 a6 a7 a8 y) H := by
  refine ⟨_, pss_cons (ps_set (i := 4) scLaw.nd rfl (.inl rfl) (pe_op op_add pe_int (pe_call T.Tk.G (hr.mono (by decide)) (by rfl) T.Tk.g T.Tk.kp T.Tk.b .nil pass0 (pa_cons (pv 1) (pa_cons pe_int pa_nil)))))
    (pss_cons (ps_set (i := 6) scLaw.nd rfl (.inr rfl) (pe_call T.Ne.G (hr.mono (by decide)) (by rfl) T.Ne.g T.Ne.kp T.Ne.b .nil pass0 (pa_cons (pv 4) pa_nil))) hu), ?_⟩
  intro D H sc r y ns n es a3 a4 a5 a6 a7 a8 b hn hl fl en k
  refine ⟨_, rfl, r, sc, ns, _, rfl, (by decide), (by decide), b.1.1, b.1.2, fun j1 H1 j10 j11 R1 B1 => ?_⟩
  have b1 := b.row R1 B1
  have en1 := ent_row b.1.2 (but_of B1) _ en
  obtain ⟨d, hd⟩ : ∃ d : Nat, 1 + j1 = (d : Nat) := ⟨(1 + j1).toNat, by omega⟩
  refine ⟨_, _, rfl, rfl, ?_⟩
  refine ⟨_, rfl, d, ?_, by omega, by omega, fun e H2 S2 en2 nest => ?_⟩
  · show [V.int (1 + j1)] = _
    rw [hd]
  · have q := k d e H2 (b1.same S2) (ent_same S2 _ en1) (by omega) nest en2
    rw [← hd] at q
    exact q
theorem grp6 (T : LawT P w K mg base CR CS CI CX CE) (TBb : LamX.TabB base mg c0 PT) (hr : Room 13 (cxL P w K mg base f c0 A outer s HX EX).A) {rest : List Stmt} {u : TS} (hu : PSs (cxL P w K mg base f c0 A outer s HX EX) rest u) :
    ∃ t, PSs (cxL P w K mg base f c0 A outer s HX EX) (stL 12 :: rest) t ∧ ∀ (D : Ends) (H : Hp) (sc r y : Addr) (ns : List Int) (n : Nat) (es : List Ent) (a3 a5 a7 a8 : Option V) (d : Nat) (e : Ent), Bs K H r sc ns (TB1 P w K mg base f c0 A outer s HX EX PT) → n ≤ 12 → es.length = n → FlatAt 0 es → EntAt K CR CS H (.stk y es) → d ≤ 3 → Nest d e → EntAt K CR CS H e →
      (∀ (H2 : Hp), Bs K H2 r sc ns (TB1 P w K mg base f c0 A outer s HX EX PT) → EntAt K CR CS H2 (.stk y es) →  u D (sl sc r n a3 (some (.int (d : Nat))) a5 (some (refE e)) a7 a8 y) H2) →
      t D (sl sc r n a3 (some (.int (d : Nat))) a5 (some (refE e)) a7 a8 y) H := by
  have hu64 : (cxL P w K mg base f c0 A outer s HX EX).A.units + 64 < cLine := by have := hr.un; omega
  refine ⟨_, pss_cons (ps_if (pt_cmpR (op_neD hu64) (LamX.pe_lamcall (T := (TB1 P w K mg base f c0 A outer s HX EX PT)) (TT := TRaisedS CI) (k := 11) (c := c0) (P := PT) (Ng := nRaised) (a := "_law_work") (t := fun E => StX.tMakeR CS (initS K CR CS CI) E (tCons (tMake CR (spRInit K CR CX) [] E (tCons (tC (.str "a")) (tCons (tC (.str "optional")) tNil))) (tCons (tVar 6) tNil))) (by rfl) T.Z.g T.Z.k T.Z.lk T.Z.cd T.Z.b scRaised rfl (Or.inl rfl) (gives_stack (CS := CE) (CI := CI) (C0 := CX) T.E (by have := hr.un; omega)) TBb rfl (by exact List.mem_singleton.mpr rfl) (fun p hp _ => by rw [List.mem_singleton.mp hp]) hr (LamX.lamS_by (sc := defScope sLaw) (by decide +kernel)) rfl (fun _ _ _ _ _ => rfl) (fun A outer s H E f c' hr2 => StX.pe_makeR T.S.MS T.S.GI (hr2.mono (by decide)) (by rfl) T.S.T.g (passes_call (takes_of rfl rfl rfl rfl) (fun _ _ _ _ h => h)) (pa_cons (pe_make T.S.MR T.S.GR (hr2.mono (by decide)) (by rfl) T.S.T.R.g T.S.bR .nil (passes_call (takes_of rfl rfl rfl rfl) (fun _ _ _ _ h => h)) (pa_cons pe_str (pa_cons pe_str pa_nil))) (pa_cons (pv 6) pa_nil)))) (pe_ifExp (pt_cmpR op_eq (pv 4) pe_int (nomark _)) (pe_tup (pa_cons pe_str (pa_cons pe_int pa_nil))) pe_non) (nomark _)) pss_false pss_nil) hu, ?_⟩
  intro D H sc r y ns n es a3 a5 a7 a8 d e b hn hl fl en hd nest ene k
  refine ⟨b.2, fun H1 e1 tb1 => ?_⟩
  have d1 := b.1.ext e1
  have en1 := ent_ext e1 _ en
  have ene1 := ent_ext e1 _ ene
  intro xr dxr nxr ndr hner
  refine rule_run (dc := .str "optional") (by decide +kernel) (by decide +kernel) (.str _) ⟨True.intro, fun ds e => (nomatch e)⟩ opt_acts nxr ndr hner (fun H4 S4 R4 => ?_)
  refine ⟨_, rfl, fun x dx nx nd hne => ?_⟩
  have fit := rule_nest (p := xr) (ds := optD) nest hd
  have deq : decide (V.int (d : Nat) = V.int 3) = decide (d = 3) := by
    by_cases q : d = 3
    · rw [q]
      rfl
    · rw [decide_eq_false q, decide_eq_false fun z => q (by have := V.int.inj z; omega)]
  refine stack_at (es := [Ent.rule xr "a" optD, e]) ⟨⟨R4, by decide +kernel⟩, ent_same S4 _ ene1, True.intro⟩ (by show 2 ≤ 1000; decide) nx nd hne ?_ ?_
  · intro i hi dd H3 S3 nd3 hdd
    refine ⟨rfl, dd, _, rfl, hdd, fun H5 p S5 hp => ?_⟩
    have S := (S4.trans S3).trans S5
    have big : d = 3 := by
      by_cases q : d = 3
      · exact q
      · rw [fit, if_neg q] at hi
        cases hi
    have ei : i = 1 := by
      rw [fit, if_pos big] at hi
      exact (Option.some.inj hi).symm
    subst ei
    refine ⟨_, rfl, rfl, _, rfl, ?_⟩
    rw [deq, decide_eq_true big]
    refine iteT ?_
    refine ⟨by show 2 ≤ sizeLine; decide, fun p2 np2 => ?_⟩
    have S1 : Same H5 (upd H5 p2 (.tup [.str "stack", .int 1])) := same_upd np2 (Same.refl H5)
    refine ⟨_, _, same_dp S1 _ _ (word_at (i := 1) hp), word_at (i := 1) upd_same, word_sh _, word_sh _, _, rfl, ?_⟩
    rw [word_eqv]
    refine iteF ?_
    have SS := S.trans S1
    exact k _ ⟨d1.same SS, tb1.ext SS⟩ (ent_same SS _ en1)
  · intro hm H3 S3 _
    have S := S4.trans S3
    have small : ¬ d = 3 := fun q => by
      rw [fit, if_pos q] at hm
      cases hm
    refine ⟨_, rfl, rfl, _, rfl, ?_⟩
    rw [deq, decide_eq_false small]
    refine iteF ?_
    refine ⟨.none, .none, .non, .non, word_sh none, word_sh none, _, rfl, ?_⟩
    rw [show PyData.eqv .none .none = true from word_eqv none]
    refine iteF ?_
    exact k _ ⟨d1.same S, tb1.ext S⟩ (ent_same S _ en1)
theorem grp7a (T : LawT P w K mg base CR CS CI CX CE) (TBb : LamX.TabB base mg c0 PT) (hr : Room 13 (cxL P w K mg base f c0 A outer s HX EX).A) {rest : List Stmt} {u : TS} (hu : PSs (cxL P w K mg base f c0 A outer s HX EX) rest u) :
    ∃ t, PSs (cxL P w K mg base f c0 A outer s HX EX) (stL 13 :: rest) t ∧ ∀ (D : Ends) (H : Hp) (sc r y : Addr) (ns : List Int) (n : Nat) (es : List Ent) (a3 a4 a5 a6 a7 a8 : Option V), Bs K H r sc ns (TB1 P w K mg base f c0 A outer s HX EX PT) → n ≤ 12 → es.length = n → FlatAt 0 es → EntAt K CR CS H (.stk y es) → 
      (∀ (y6 : Addr) (gs : List Ent) (H2 : Hp), Bs K H2 r sc ns (TB1 P w K mg base f c0 A outer s HX EX PT) → EntAt K CR CS H2 (.stk y es) →  FlatAt 0 gs → gs.length = 6 → EntAt K CR CS H2 (.stk y6 gs) → u D (sl sc r n a3 a4 a5 a6 a7 (some (.ref y6)) y) H2) →
      t D (sl sc r n a3 a4 a5 a6 a7 a8 y) H := by
  refine ⟨_, pss_cons (ps_set (i := 8) scLaw.nd rfl (.inr rfl) (pe_call T.Fl.G (hr.mono (by decide)) (by rfl) T.Fl.g T.Fl.kp T.Fl.b .nil pass0 (pa_cons pe_int (pa_cons pe_int pa_nil)))) hu, ?_⟩
  intro D H sc r y ns n es a3 a4 a5 a6 a7 a8 b hn hl fl en k
  refine ⟨6, 0, rfl, by decide, fun y6 gs H2 S2 en6 hl6 fl6 => ?_⟩
  exact k y6 gs H2 (b.same S2) (ent_same S2 _ en) fl6 hl6 en6
theorem grp7b (T : LawT P w K mg base CR CS CI CX CE) (TBb : LamX.TabB base mg c0 PT) (hr : Room 13 (cxL P w K mg base f c0 A outer s HX EX).A) {rest : List Stmt} {u : TS} (hu : PSs (cxL P w K mg base f c0 A outer s HX EX) rest u) :
    ∃ t, PSs (cxL P w K mg base f c0 A outer s HX EX) (stL 14 :: rest) t ∧ ∀ (D : Ends) (H : Hp) (sc r y : Addr) (ns : List Int) (n : Nat) (es : List Ent) (a3 a4 a5 a6 a7 : Option V) (y6 : Addr) (gs : List Ent), Bs K H r sc ns (TB1 P w K mg base f c0 A outer s HX EX PT) → n ≤ 12 → es.length = n → FlatAt 0 es → EntAt K CR CS H (.stk y es) → FlatAt 0 gs → gs.length = 6 → EntAt K CR CS H (.stk y6 gs) →
      (∀ (H2 : Hp), Bs K H2 r sc ns (TB1 P w K mg base f c0 A outer s HX EX PT) → EntAt K CR CS H2 (.stk y es) →  u D (sl sc r n a3 a4 a5 a6 a7 (some (.ref y6)) y) H2) →
      t D (sl sc r n a3 a4 a5 a6 a7 (some (.ref y6)) y) H := by
  have hu64 : (cxL P w K mg base f c0 A outer s HX EX).A.units + 64 < cLine := by have := hr.un; omega
  refine ⟨_, pss_cons (ps_if (pt_cmpR (op_neD hu64) (LamX.pe_lamcall (T := (TB1 P w K mg base f c0 A outer s HX EX PT)) (TT := TRaisedS CI) (k := 11) (c := c0) (P := PT) (Ng := nRaised) (a := "_law_work") (t := fun E => tOp (rAddI CS (spSAdd K CR CS CI) E) (tVar 8) (StX.tMakeR CS (initS K CR CS CI) E (tCons (tMake CR (spRInit K CR CX) [] E (tCons (tC (.str "zz")) (tCons (tC (.str "required")) tNil))) tNil))) (by rfl) T.Z.g T.Z.k T.Z.lk T.Z.cd T.Z.b scRaised rfl (Or.inl rfl) (gives_stack (CS := CE) (CI := CI) (C0 := CX) T.E (by have := hr.un; omega)) TBb rfl (by exact List.mem_singleton.mpr rfl) (fun p hp _ => by rw [List.mem_singleton.mp hp]) hr (LamX.lamS_by (sc := defScope sLaw) (by decide +kernel)) rfl (fun _ _ _ _ _ => rfl) (fun A outer s H E f c' hr2 => pe_op (op_addI T.S.GA (hr2.mono (by decide)) T.S.aA T.S.nA T.S.bA T.S.sf (passes_call (takes_of rfl rfl rfl rfl) (fun _ _ _ _ h => h))) (pv 8) (StX.pe_makeR T.S.MS T.S.GI (hr2.mono (by decide)) (by rfl) T.S.T.g (passes_call (takes_of rfl rfl rfl rfl) (fun _ _ _ _ h => h)) (pa_cons (pe_make T.S.MR T.S.GR (hr2.mono (by decide)) (by rfl) T.S.T.R.g T.S.bR .nil (passes_call (takes_of rfl rfl rfl rfl) (fun _ _ _ _ h => h)) (pa_cons pe_str (pa_cons pe_str pa_nil))) pa_nil)))) (pe_tup (pa_cons pe_str (pa_cons pe_int pa_nil))) (nomark _)) pss_false pss_nil) hu, ?_⟩
  intro D H sc r y ns n es a3 a4 a5 a6 a7 y6 gs b hn hl fl en fl6 hl6 en6 k
  obtain ⟨ac1, _, _, _⟩ := req_acts
  refine ⟨b.2, fun H1 e1 tb1 => ?_⟩
  have d1 := b.1.ext e1
  have en1 := ent_ext e1 _ en
  have en61 := ent_ext e1 _ en6
  refine ⟨_, rfl, fun xr dxr nxr ndr hner => ?_⟩
  refine rule_run (dc := .str "required") (by decide +kernel) (by decide +kernel) (.str _) ⟨True.intro, fun ds e => (nomatch e)⟩ ac1 nxr ndr hner (fun H4 S4 R4 => ?_)
  intro x dx nx nd hne
  refine stack_at (es := [Ent.rule xr "zz" reqD]) ⟨⟨R4, by decide +kernel⟩, True.intro⟩ (by show 1 ≤ 1000; decide) nx nd hne (fun i hi => by rw [rule_fit] at hi; cases hi) (fun _ H5 S5 en5 => ?_)
  have en65 := ent_same (S4.trans S5) _ en61
  obtain ⟨dx6, gs6, hy6⟩ := stk_ins en65
  obtain ⟨dx5, gs5, hy5⟩ := stk_ins en5
  have over := six_more fl6 hl6 (p := xr) (z := "zz") (ds := reqD) (by decide +kernel)
  refine ⟨y6, x, dx6, dx5, _, _, rfl, rfl, hy6, hy5, y6, x, gs, _, rfl, en65, en5, ?_, ?_⟩
  · intro i hi dd H3 S3 nd3 hdd
    refine ⟨rfl, dd, _, rfl, hdd, fun H6 p S6 hp => ?_⟩
    have ei : i = 6 := by
      rw [over] at hi
      exact (Option.some.inj hi).symm
    subst ei
    refine ⟨by show 2 ≤ sizeLine; decide, fun p2 np2 => ?_⟩
    have S1 : Same H6 (upd H6 p2 (.tup [.str "stack", .int 6])) := same_upd np2 (Same.refl H6)
    refine ⟨_, _, same_dp S1 _ _ (word_at (i := 6) hp), word_at (i := 6) upd_same, word_sh _, word_sh _, _, rfl, ?_⟩
    rw [word_eqv]
    refine iteF ?_
    have SS := (((S4.trans S5).trans S3).trans S6).trans S1
    exact k _ ⟨d1.same SS, tb1.ext SS⟩ (ent_same SS _ en1)
  · intro hm
    rw [over] at hm
    cases hm
end
end LS
namespace LS
open PySem L2 TxS
section
variable {P : Program} {w : World} {K : PySem.W.Frag} {mg : Str → Option Value} {base : Heap} {CR CS CI CX CE f c0 PT : Addr} {A : Around} {outer : List Env} {s : Shared} {HX : Hp} {EX : XK}
theorem cr_ne_cs (Z : EqK K CR CS) : CR ≠ CS := fun e => by
  have q := Z.sr
  rw [e, kit_self] at q
  cases q
theorem flat_ne {H : Hp} {m : Int} {y : Addr} {es : List Ent} (Z : EqK K CR CS) (h : FlatAt m es) (he : EntAt K CR CS H (.stk y es)) : ∀ e ∈ es, e.at_ ≠ y := fun e hm z => by
  obtain ⟨i, hi⟩ := List.getElem?_of_mem hm
  obtain ⟨p, rfl⟩ := h i e hi
  obtain ⟨dx, fs, hy⟩ := stk_ins he
  obtain ⟨⟨dx2, a, hp, _⟩, _⟩ := ents_get he.2 hi
  have z : p = y := z
  rw [z, hy] at hp
  cases hp
  exact cr_ne_cs Z rfl
theorem grp8 (T : LawT P w K mg base CR CS CI CX CE) (TBb : LamX.TabB base mg c0 PT) (hr : Room 13 (cxL P w K mg base f c0 A outer s HX EX).A) {rest : List Stmt} {u : TS} (hu : PSs (cxL P w K mg base f c0 A outer s HX EX) rest u) :
    ∃ t, PSs (cxL P w K mg base f c0 A outer s HX EX) (stL 15 :: rest) t ∧ ∀ (D : Ends) (H : Hp) (sc r y : Addr) (ns : List Int) (n : Nat) (es : List Ent) (a3 a4 a5 a6 a7 a8 : Option V), Bs K H r sc ns (TB1 P w K mg base f c0 A outer s HX EX PT) → n ≤ 12 → es.length = n → FlatAt 0 es → EntAt K CR CS H (.stk y es) → 
      (∀ (H2 : Hp), Same H H2 → u D (sl sc r n a3 a4 a5 a6 a7 a8 y) H2) →
      t D (sl sc r n a3 a4 a5 a6 a7 a8 y) H := by
  refine ⟨_, pss_cons (ps_if (PW.pt (pw_and (pt_cmpR op_gt (pv 2) pe_int (nomark _)) (pw_and1 (PW.pt (pw_or
        (pt_cmpR (op_neI T.S.ER.G (hr.mono (by decide)) T.S.ER.eq T.S.ER.fn T.S.ER.b T.S.neR T.S.T.NR.hm) (pe_getI T.S.GG (hr.mono (by decide)) T.S.aG T.S.iG T.S.nG T.S.bG (pv 9) (pe_op op_sub (pv 2) pe_int)) (pe_ix ix_tup (pe_prop (pv 9) T.S.T.cl T.S.PR.pr T.S.PR.G (hr.mono (by decide)) T.S.PR.b .nil pass0 rfl) (pe_op op_sub (pv 2) pe_int) (fun _ _ => rfl)) (nomark _))
        (pw_or1 (pt_cmpR op_ne (pe_prop (pe_getI T.S.GG (hr.mono (by decide)) T.S.aG T.S.iG T.S.nG T.S.bG (pv 9) pe_int) T.S.T.R.cl T.S.PN.pr T.S.PN.G (hr.mono (by decide)) T.S.PN.b .nil pass0 rfl) pe_str (nomark _)))))))) pss_false pss_nil) hu, ?_⟩
  intro D H sc r y ns n es a3 a4 a5 a6 a7 a8 b hn hl fl en k
  obtain ⟨dy, fy, hy⟩ := stk_ins en
  refine ⟨_, rfl, _, _, rfl, rfl, _, rfl, ?_⟩
  refine ite2 (fun h0 => ?_) (fun _ => k H (Same.refl H))
  have hn0 : (0 : Int) < (n : Nat) := of_decide_eq_true h0
  obtain ⟨e, he⟩ : ∃ e, es[n - 1]? = some e := ⟨_, List.getElem?_eq_getElem (by omega)⟩
  obtain ⟨p, rfl⟩ := fl (n - 1) e he
  have ati : ∀ {α : Type} {xs : List α} {x : α}, xs[n - 1]? = some x → atI xs ((n : Nat) - 1 : Int) = some x := fun hx => by
    have q := atI_nat hx
    rw [show ((n - 1 : Nat) : Int) = (n : Nat) - 1 by omega] at q
    exact q
  refine ⟨_, rfl, _, rfl, _, _, rfl, rfl, y, dy, fy, rfl, hy, y, es, _, _, rfl, en, ati he, ?_⟩
  refine ⟨_, rfl, y, dy, fy, rfl, hy, y, es, rfl, en, fun t ht => ?_⟩
  rw [flat_refs fl] at ht
  have he2 : (es.map refE)[n - 1]? = some (V.ref p) := by
    rw [List.getElem?_map, he]
    rfl
  refine ⟨_, rfl, _, _, rfl, rfl, t, _, _, _, rfl, rfl, ht, ati he2, ?_⟩
  have enp := ents_get en.2 he
  obtain ⟨⟨dp, a, hp, hd⟩, hok⟩ := id enp
  refine ⟨p, p, dp, dp, _, _, rfl, rfl, hp, hp, p, p, _, rfl, ⟨_, _, _, enp, enp, rfl, rfl⟩, fun H1 S1 => ⟨_, rfl, _, rfl, ?_⟩⟩
  rw [if_pos rfl, show eqS (Ent.rule p (⟨#[97 + ((0 + ((n - 1 : Nat) : Int)) % 6).toNat]⟩ : Str) reqD) (Ent.rule p (⟨#[97 + ((0 + ((n - 1 : Nat) : Int)) % 6).toNat]⟩ : Str) reqD) = true from eqRule_req]
  refine iteF ?_
  have en1 := ent_same S1 _ en
  obtain ⟨dy1, fy1, hy1⟩ := stk_ins en1
  obtain ⟨e0, he0⟩ : ∃ e, es[0]? = some e := ⟨_, List.getElem?_eq_getElem (by omega)⟩
  obtain ⟨p0, rfl⟩ := fl 0 e0 he0
  have enp0 := ents_get en1.2 he0
  obtain ⟨⟨dp0, a0, hp0, hd0⟩, hok0⟩ := id enp0
  refine ⟨_, rfl, y, dy1, fy1, rfl, hy1, y, es, _, _, rfl, en1, (atI_nat (j := 0) he0 : atI es (0 : Int) = _), ?_⟩
  refine ⟨p0, dp0, _, rfl, hp0, p0, _, _, rfl, enp0.1, rfl, _, rfl, ?_⟩
  rw [show decide (V.str (⟨#[97 + ((0 + ((0 : Nat) : Int)) % 6).toNat]⟩ : Str) = V.str ("a" : Str)) = true by decide +kernel]
  refine iteF ?_
  exact k H1 S1
theorem grp9 (T : LawT P w K mg base CR CS CI CX CE) (TBb : LamX.TabB base mg c0 PT) (hr : Room 13 (cxL P w K mg base f c0 A outer s HX EX).A)  :
    ∃ t, PSs (cxL P w K mg base f c0 A outer s HX EX) (stL 16 :: stL 17 :: []) t ∧ ∀ (D : Ends) (H : Hp) (sc r y : Addr) (ns : List Int) (n : Nat) (es : List Ent) (a3 a4 a5 a6 a7 a8 : Option V), Bs K H r sc ns (TB1 P w K mg base f c0 A outer s HX EX PT) → n ≤ 12 → es.length = n → FlatAt 0 es → EntAt K CR CS H (.stk y es) → 
      (∀ (H2 : Hp), D.rt (.bl true) H2) →
      t D (sl sc r n a3 a4 a5 a6 a7 a8 y) H := by
  have hu : (cxL P w K mg base f c0 A outer s HX EX).A.units < cLine := by have := hr.un; omega
  refine ⟨_, pss_cons (ps_set (i := 5) scLaw.nd rfl (.inl rfl) (StX.pe_makeR T.S.MS T.S.GI (hr.mono (by decide)) (by rfl) T.S.T.g passL (pa_cons (pv 9) pa_nil)))
    (pss_one (ps_ret (pe_and (pe_cmpR op_eq (pe_callB (cr_lenI T.S.GL (hr.mono (by decide)) T.S.aL T.S.nL T.S.bL) (by rfl) T.len PySem.boot_len (pa_cons (pv 5) pa_nil)) pe_int (nomark _)) (pe_and (pe_cmpR (op_eqB (rc_stk T.S.T T.S.Z (T.S.ES 0)) (hr.mono (by decide))) (pe_getI T.S.GG (hr.mono (by decide)) T.S.aG T.S.iG T.S.nG T.S.bG (pv 5) pe_int) (pv 9) (nomark _))
      (pe_and (pe_cmpR (op_eqSame hu) (pe_prop (pv 5) T.S.T.cl T.S.PR.pr T.S.PR.G (hr.mono (by decide)) T.S.PR.b .nil pass0 rfl) (pe_prop (pv 9) T.S.T.cl T.S.PR.pr T.S.PR.G (hr.mono (by decide)) T.S.PR.b .nil pass0 rfl) (nomark _)) (pe_one (pe_cmpR (op_neI (T.S.ES 1).G (hr.mono (by decide)) (T.S.ES 1).eq (T.S.ES 1).fn (T.S.ES 1).b T.S.neS T.S.T.N.hm) (pv 5) (pv 9) (nomark _)))))))), ?_⟩
  intro D H sc r y ns n es a3 a4 a5 a6 a7 a8 b hn hl fl en k
  have hs2 := sizeLine_eq
  have fit := one_stk (x := y) fl.flat (by omega)
  refine ⟨_, rfl, fun x dx nx nd hne => ?_⟩
  refine stack_at (es := [Ent.stk y es]) ⟨en, True.intro⟩ (by show 1 ≤ 1000; decide) nx nd hne (fun i hi => by rw [fit] at hi; cases hi) (fun _ H1 S1 enx => ?_)
  have en1 := ent_same S1 _ en
  obtain ⟨dx1, fx1, hx1⟩ := stk_ins enx
  obtain ⟨dy1, fy1, hy1⟩ := stk_ins en1
  refine ⟨_, rfl, x, dx1, fx1, rfl, hx1, x, _, rfl, enx, 1, rfl, by omega, rfl, _, rfl, ?_⟩
  rw [show decide (V.int (([Ent.stk y es].length : Nat) : Int) = V.int 1) = true from rfl]
  refine iteT ?_
  refine ⟨_, rfl, x, dx1, fx1, rfl, hx1, x, _, _, _, rfl, enx, (atI_nat (j := 0) (xs := [Ent.stk y es]) rfl : atI [Ent.stk y es] (0 : Int) = _), ?_⟩
  refine ⟨_, rfl, _, ⟨y, es, Ent.stk y es, rfl, rfl, en1, en1, Nat.le_of_eq (flat_depth fl.flat), rfl⟩, fun H2 S2 => ⟨_, rfl, ?_⟩⟩
  rw [show eqS (Ent.stk y es) (Ent.stk y es) = true from eqEs_refl es]
  refine iteT ?_
  have en2 := ent_same S2 _ en1
  have enx2 := ent_same S2 _ enx
  obtain ⟨dx2, fx2, hx2⟩ := stk_ins enx2
  obtain ⟨dy2, fy2, hy2⟩ := stk_ins en2
  refine ⟨_, rfl, x, dx2, fx2, rfl, hx2, x, _, rfl, enx2, fun t1 ht1 => ?_⟩
  refine ⟨_, rfl, y, dy2, fy2, rfl, hy2, y, _, rfl, en2, fun t2 ht2 => ?_⟩
  have er : rulesEs [Ent.stk y es] = rulesEs es := by
    show rulesEs es ++ [] = _
    rw [List.append_nil]
  rw [er] at ht1
  have ep : (rulesEs es).map refR = ((rulesEs es).map fun z => z.1).map V.ref := by
    rw [List.map_map]
    rfl
  rw [ep] at ht1 ht2
  refine ⟨t1, t2, _, rfl, rfl, ht1, ht2, _, rfl, ?_⟩
  refine iteT ?_
  refine ⟨_, rfl, _, rfl, x, y, dx2, dy2, _, _, rfl, rfl, hx2, hy2, x, y, _, rfl, ⟨_, _, enx2, en2, rfl, ?_, rfl⟩, fun H3 S3 => ⟨_, rfl, ?_⟩⟩
  · show max (1 + depthEs es) 0 ≤ 1
    rw [flat_depth fl.flat]
    decide
  · rw [wrapped_ne fl (flat_ne T.S.Z fl en2)]
    exact k H3
theorem ok_law {fl c PT : Addr} {oc kV doc pm ct : Value} {od an : Option Addr} {osl : Array (Option Value)} (T : LawT P w K mg base CR CS CI CX CE)
    (lk : K.lookup fl = some ⟨oc, od, .func (PySem.W.fnOf "law" "law" (defArgs sLaw) (defBody sLaw) (defScope sLaw) .none kV doc pm an (.ref c) ct), osl⟩) (hcd : PySem.W.codeIn K (.ref c) "law" = true) (TB : LamX.TabB base mg c PT) :
    FnOk P w K mg base CX0 14 fl (PySem.W.fnOf "law" "law" (defArgs sLaw) (defBody sLaw) (defScope sLaw) .none kV doc pm an (.ref c) ct) ["_law_script"] (spLaw K PT) := by
  refine fn_of lk hcd scLaw (fun vs H Q E h => ?_) (fun A outer s H vs Q E hr h => ?_)
  · obtain ⟨a, ns, rfl, _⟩ := h
    rfl
  · obtain ⟨a, ns, rfl, hS, hPT, k⟩ := h
    obtain ⟨t9, p9, q9⟩ := grp9 (f := fl) (c0 := c) (outer := outer) (s := s) (HX := H) (EX := E) T TB hr
    obtain ⟨t8, p8, q8⟩ := grp8 T TB hr p9
    obtain ⟨t7b, p7b, q7b⟩ := grp7b T TB hr p8
    obtain ⟨t7a, p7a, q7a⟩ := grp7a T TB hr p7b
    obtain ⟨t6, p6, q6⟩ := grp6 T TB hr p7a
    obtain ⟨t5, p5, q5⟩ := grp5 T TB hr p6
    obtain ⟨t4, p4, q4⟩ := grp4 T TB hr p5
    obtain ⟨t3b, p3b, q3b⟩ := grp3b T TB hr p4
    obtain ⟨t3a, p3a, q3a⟩ := grp3a T TB hr p3b
    obtain ⟨t2, p2, q2⟩ := grp2 T TB hr p3a
    obtain ⟨t1, p1, q1⟩ := grp1 T TB hr p2
    obtain ⟨t0, p0, q0⟩ := grp0 (PT := PT) T hr p1
    refine ⟨t0, p0.nox, ?_⟩
    refine q0 _ H a ns hS hPT fun r y n es H1 b1 hn hl fl e1 => ?_
    refine q1 _ H1 a r y ns n es _ _ _ _ _ _ b1 hn hl fl e1 fun H2 S2 => ?_
    have b2 := b1.same S2
    have e2 := ent_same S2 _ e1
    refine q2 _ H2 a r y ns n es _ _ _ _ _ _ b2 hn hl fl e2 fun y2 m2 fs H3 b3 e3 fl2 hl2 f3 => ?_
    refine q3a _ H3 a r y ns n es _ _ _ _ _ y2 m2 fs b3 hn hl fl e3 fl2 hl2 f3 fun v H4 b4 e4 f4 hv => ?_
    refine q3b _ H4 a r y ns n es _ _ _ _ y2 m2 fs v b4 hn hl fl e4 fl2 hl2 f4 hv fun H5 S5 => ?_
    refine q4 _ H5 a r y ns n es _ _ _ _ _ y2 m2 fs (b4.same S5) hn hl fl (ent_same S5 _ e4) fl2 hl2 (ent_same S5 _ f4) fun H6 b6 e6 => ?_
    refine q5 _ H6 a r y ns n es _ _ _ _ _ _ b6 hn hl fl e6 fun d e H7 b7 e7 hd nest ene => ?_
    refine q6 _ H7 a r y ns n es _ _ _ _ d e b7 hn hl fl e7 hd nest ene fun H8 b8 e8 => ?_
    refine q7a _ H8 a r y ns n es _ _ _ _ _ _ b8 hn hl fl e8 fun y6 gs H9 b9 e9 fl6 hl6 e69 => ?_
    refine q7b _ H9 a r y ns n es _ _ _ _ _ y6 gs b9 hn hl fl e9 fl6 hl6 e69 fun H10 b10 e10 => ?_
    refine q8 _ H10 a r y ns n es _ _ _ _ _ _ b10 hn hl fl e10 fun H11 S11 => ?_
    exact q9 _ H11 a r y ns n es _ _ _ _ _ _ (b10.same S11) hn hl fl (ent_same S11 _ e10) k
end
end LS
set_option maxHeartbeats 4000000
namespace LS
open PySem L2
section
variable {P : Program} {w : World} {K : PySem.W.Frag} {mg : Str → Option Value} {base : Heap}
theorem scTaken : FnScope ["_law_row", "_law_many", "_law_found", "_law_cell"] ["_law_row", "_law_many"] (defScope sTaken) := ⟨rfl, rfl, rfl, by decide +kernel, rfl, by decide +kernel, by decide +kernel⟩
theorem ok_taken {f : Addr} {fd : FuncData} (F : Fun K "_law_taken" "_law_taken" sTaken f fd) (mL : mg "len" = none) (mI : mg "int" = none) : FnOk P w K mg base CX0 1 f fd ["_law_row", "_law_many"] (spTaken K) := by
  refine F.ok scTaken (fun vs H Q E h => ?_) (fun cdv A outer s H vs Q E hr h => ?_)
  · obtain ⟨r, sc, ns, many, rfl, _⟩ := h
    rfl
  · obtain ⟨r, sc, ns, many, rfl, hm0, hm1, hS, ⟨i, z, b, hi, hR⟩, k⟩ := h
    have hmw : ∀ i : Int, CDivW i many := fun i => wide_div hm0 (b := 63) (by omega) (by decide) (by decide)
    refine ⟨_, pss_cons (ps_if (pt_cmpR op_gt (pe_ix ix_list (pv 0) pe_int (fun _ _ => rfl)) pe_int (nomark _))
        (pss_cons (ps_set (i := 2) scTaken.nd rfl (.inl rfl) (pe_op op_mod (pe_callTy call_int1 (by rfl) mI (by decide +kernel) (pa_cons (pe_ix ix_list (pv 0) pe_int (fun _ _ => rfl)) pa_nil)) (pv 1)))
          (pss_cons (ps_asg (pe_op op_fdivW (pe_ix ix_list (pv 0) pe_int (fun _ _ => rfl)) (pv 1)) (pg_sub (pv 0) pe_int set_list))
          (pss_one (ps_ret (pv 2))))) pss_nil)
      (pss_cons (ps_asg (pe_op op_add (pe_ix ix_list (pv 0) pe_int (fun _ _ => rfl)) pe_int) (pg_sub (pv 0) pe_int set_list))
      (pss_cons (ps_if (pt_cmpR op_gt (pe_ix ix_list (pv 0) pe_int (fun _ _ => rfl)) (pe_callB call_len_seq (by rfl) mL PySem.boot_len (pa_cons (pe_ix ix_list (pv 0) pe_int (fun _ _ => rfl)) pa_nil)) (nomark _))
        (pss_cons (ps_asg (pe_op op_mod (pe_callTy call_int1 (by rfl) mI (by decide +kernel) (pa_cons (pe_op op_add (pe_op op_mul (pe_ix ix_list (pv 0) pe_int (fun _ _ => rfl)) pe_int) pe_int) pa_nil)) pe_int) (pg_sub (pv 0) pe_int set_list))
          (pss_one (ps_ret (pe_op op_mod (pe_callTy call_int1 (by rfl) mI (by decide +kernel) (pa_cons (pe_op op_fdiv (pe_ix ix_list (pv 0) pe_int (fun _ _ => rfl)) pe_int) pa_nil)) (pv 1))))) pss_nil)
      (pss_cons (ps_set (i := 3) scTaken.nd rfl (.inl rfl) (pe_ix ix_list (pe_ix ix_list (pv 0) pe_int (fun _ _ => rfl)) (pe_op op_sub (pe_ix ix_list (pv 0) pe_int (fun _ _ => rfl)) pe_int) (fun _ _ => rfl)))
      (pss_cons (ps_asg (pe_op op_mod (pe_callTy call_int1 (by rfl) mI (by decide +kernel) (pa_cons (pe_op op_add (pe_op op_add (pe_op op_mul (pe_ix ix_list (pv 0) pe_int (fun _ _ => rfl)) pe_int) (pv 3)) pe_int) pa_nil)) pe_int) (pg_sub (pv 0) pe_int set_list))
      (pss_cons (ps_asg (pe_ifExp (pt_cmpR op_ge (pv 3) (pe_op op_pow pe_int pe_int) (nomark _)) (pe_op op_fdivW (pv 3) (pv 1)) pe_int) (pg_sub (pv 0) pe_int set_list))
      (pss_one (ps_ret (pe_op op_mod (pe_callTy call_int1 (by rfl) mI (by decide +kernel) (pa_cons (pv 3) pa_nil)) (pv 1))))))))), ?_⟩
    have x0 : atI [V.ref sc, .int i, .int z, .int b] 3 = some (.int b) := rfl
    refine ⟨_, rfl, r, _, _, _, rfl, rfl, SqL.of hR, x0, _, _, rfl, rfl, _, rfl, ?_⟩
    refine ite2 (fun hb => ?_) (fun hb => ?_)
    · have y1 : atI [V.ref sc, .int i, .int z, .int (b / many)] 3 = some (.int (b / many)) := rfl
      refine ⟨_, rfl, r, _, _, _, rfl, rfl, SqL.of hR, x0, .inl ⟨_, rfl, _, rfl, _, _, rfl, rfl, hm0, ?_⟩⟩
      refine ⟨_, rfl, r, _, _, _, rfl, rfl, SqL.of hR, x0, _, rfl, _, _, rfl, rfl, hmw _, _, rfl, r, _, _, 3, rfl, rfl, hR, rfl, ?_⟩
      refine ⟨_, rfl, ?_⟩
      exact k _ _ (Int.emod_nonneg _ (by omega)) (Int.emod_lt_of_pos _ hm0) ⟨i, z, b / many, hi, upd_same⟩ fun q hq => upd_ne hq
    · refine ⟨_, rfl, r, _, _, _, rfl, rfl, SqL.of hR, (show atI _ 1 = some (.int i) from rfl), _, _, rfl, rfl, _, rfl, r, _, _, 1, rfl, rfl, hR, rfl, ?_⟩
      show tSeq _ _ _ _ (upd H r (.lst [.ref sc, .int (i + 1), .int z, .int b]))
      have hR1 : upd H r (.lst [.ref sc, .int (i + 1), .int z, .int b]) r = some (.lst [.ref sc, .int (i + 1), .int z, .int b]) := upd_same
      have e1 : ∀ q, q ≠ r → upd H r (.lst [.ref sc, .int (i + 1), .int z, .int b]) q = H q := fun q hq => upd_ne hq
      have hS1 : SqL K (upd H r (.lst [.ref sc, .int (i + 1), .int z, .int b])) sc (ns.map V.int) := seq_but hS ⟨i, z, b, hi, hR⟩ e1
      generalize upd H r (.lst [.ref sc, .int (i + 1), .int z, .int b]) = H1 at *
      refine ⟨_, rfl, r, _, _, _, rfl, rfl, SqL.of hR1, (show atI _ 1 = some (.int (i + 1)) from rfl), _, rfl, r, _, _, _, rfl, rfl, SqL.of hR1, (show atI _ 0 = some (.ref sc) from rfl), sc, _, rfl, .inl hS1, _, _, rfl, rfl, _, rfl, ?_⟩
      refine ite2 (fun hl => ?_) (fun hl => ?_)
      · refine ⟨_, rfl, r, _, _, _, rfl, rfl, SqL.of hR1, (show atI _ 2 = some (.int z) from rfl), _, _, rfl, rfl, .inr ⟨by decide, by decide⟩, _, _, rfl, rfl, .inl ⟨_, rfl, _, _, rfl, rfl, (by show (0 : Int) < 2147483647; decide), _, rfl, r, _, _, 2, rfl, rfl, hR1, rfl, ?_⟩⟩
        refine ⟨_, rfl, r, _, _, _, rfl, rfl, SqL.of upd_same, rfl, _, _, rfl, rfl, ⟨by decide, by decide⟩, .inl ⟨_, rfl, _, rfl, _, _, rfl, rfl, hm0, ?_⟩⟩
        exact k _ _ (Int.emod_nonneg _ (by omega)) (Int.emod_lt_of_pos _ hm0) ⟨i + 1, _, b, by omega, upd_same⟩ fun q hq => (upd_ne hq).trans (e1 q hq)
      · have hl' : (i + 1 : Int) ≤ (ns.length : Int) := by
          have := of_decide_eq_false (Bool.eq_false_iff.mpr hl)
          rw [List.length_map] at this
          omega
        obtain ⟨c, hc⟩ : ∃ c, ns[i.toNat]? = some c := ⟨_, List.getElem?_eq_getElem (by omega)⟩
        have ha : atI (ns.map V.int) (i + 1 - 1) = some (.int c) := by
          rw [show (i + 1 - 1 : Int) = ((i.toNat : Nat) : Int) by omega]
          refine atI_nat ?_
          rw [List.getElem?_map, hc]
          rfl
        refine ⟨_, rfl, r, _, _, _, rfl, rfl, SqL.of hR1, (show atI _ 0 = some (.ref sc) from rfl), _, rfl, r, _, _, _, rfl, rfl, SqL.of hR1, (show atI _ 1 = some (.int (i + 1)) from rfl), _, _, rfl, rfl, sc, _, _, _, rfl, rfl, hS1, ha, ?_⟩
        refine ⟨_, rfl, r, _, _, _, rfl, rfl, SqL.of hR1, (show atI _ 2 = some (.int z) from rfl), _, _, rfl, rfl, .inr ⟨by decide, by decide⟩, _, rfl, _, _, rfl, rfl, _, _, rfl, rfl, .inl ⟨_, rfl, _, _, rfl, rfl, (by show (0 : Int) < 2147483647; decide), _, rfl, r, _, _, 2, rfl, rfl, hR1, rfl, ?_⟩⟩
        show tSeq _ _ _ _ (upd H1 r (.lst [.ref sc, .int (i + 1), .int _, .int b]))
        refine ⟨_, rfl, _, _, rfl, rfl, ⟨by decide, by decide, by decide⟩, _, _, rfl, rfl, _, rfl, ?_⟩
        refine ite2 (fun hc => ?_) (fun hc => ?_)
        · refine ⟨_, rfl, _, rfl, _, _, rfl, rfl, hmw _, _, rfl, r, _, _, 3, rfl, rfl, upd_same, rfl, ?_⟩
          refine ⟨_, rfl, .inl ⟨_, rfl, _, rfl, _, _, rfl, rfl, hm0, ?_⟩⟩
          exact k _ _ (Int.emod_nonneg _ (by omega)) (Int.emod_lt_of_pos _ hm0) ⟨i + 1, _, _, by omega, upd_same⟩ fun q hq => ((upd_ne hq).trans (upd_ne hq)).trans (e1 q hq)
        · refine ⟨_, rfl, r, _, _, 3, rfl, rfl, upd_same, rfl, ?_⟩
          refine ⟨_, rfl, .inl ⟨_, rfl, _, rfl, _, _, rfl, rfl, hm0, ?_⟩⟩
          exact k _ _ (Int.emod_nonneg _ (by omega)) (Int.emod_lt_of_pos _ hm0) ⟨i + 1, _, _, by omega, upd_same⟩ fun q hq => ((upd_ne hq).trans (upd_ne hq)).trans (e1 q hq)
end
end LS
set_option maxHeartbeats 0
namespace LS
open PySem PySem.Spec PyProof.Rows L2
/-! ### a getter of a property, found by the class and the name -/
def gAd (K : PySem.W.Frag) (x m : Str) : Addr := match PySem.W.recIn K (He.ma K (He.ga K x) m) "property" with
  | some (.ref g :: _) => g
  | _ => 0
def fnA (K : PySem.W.Frag) (a : Addr) : He.FnW := match K.lookup a with
  | some ⟨_, _, .func fd, _⟩ => some (fd.name, fd.qualname, fd.params, fd.body, fd.scope, fd.globals, fd.closure, fd.builtins)
  | _ => none
structure GetD where
  cls : Str
  m : Str
  qual : Str
  st : Stmt
def GetD.val (d : GetD) : He.FnW := some (d.m, d.qual, defArgs d.st, .stmts (defBody d.st), defScope d.st, mainGlobals, [], builtinsNs)
def GetD.ok (K : PySem.W.Frag) (d : GetD) : Bool := PySem.W.keepIn K (.ref (gAd K d.cls d.m)) && ((match K.lookup (gAd K d.cls d.m) with
  | some ⟨_, _, .func fd, _⟩ => PySem.W.codeIn K fd.code d.qual && (match fd.defaults with
    | .none => true
    | _ => false)
  | _ => false) && (He.eqO (PySem.W.findIn K (.ref (He.ga K d.cls)) d.m) (some (some (.ref (He.ma K (He.ga K d.cls) d.m)))) && (He.eqO (PySem.W.specialIn K (.ref (He.ma K (He.ga K d.cls) d.m)) "__get__") (some (some (.builtin "property.__get__"))) &&
    (decide (PySem.W.takesIn K (.ref (He.ma K (He.ga K d.cls) d.m)) = some true) && (match PySem.W.recIn K (He.ma K (He.ga K d.cls) d.m) "property" with
      | some (.ref _ :: _) => true
      | _ => false)))))
theorem GetD.fun_ {K : PySem.W.Frag} {d : GetD} (e : fnA K (gAd K d.cls d.m) = d.val) (c : d.ok K = true) : ∃ fd, Fun K d.m d.qual d.st (gAd K d.cls d.m) fd ∧ PropOf K (He.ga K d.cls) d.m (He.ma K (He.ga K d.cls) d.m) (gAd K d.cls d.m) := by
  obtain ⟨kp, c⟩ := He.ba c
  obtain ⟨c2, c⟩ := He.ba c
  obtain ⟨c3, c⟩ := He.ba c
  obtain ⟨c4, c⟩ := He.ba c
  obtain ⟨c5, c6⟩ := He.ba c
  have pr : PropOf K (He.ga K d.cls) d.m (He.ma K (He.ga K d.cls) d.m) (gAd K d.cls d.m) := by
    refine ⟨He.eqO_ok c3, He.eqO_ok c4, of_decide_eq_true c5, ?_⟩
    unfold gAd
    split at c6
    · rename_i g r q
      exact ⟨r, by rw [q]⟩
    · cases c6
  unfold fnA at e
  cases q : K.lookup (gAd K d.cls d.m) with
  | none =>
    rw [q] at c2
    cases c2
  | some o =>
    obtain ⟨oc, od, dt, osl⟩ := o
    rw [q] at c2 e
    cases dt with
    | func fd =>
      obtain ⟨n1, n2, n3, n4, n5, n6, n7, n8, n9, n10, n11, n12, n13, n14, n15⟩ := fd
      have e2 : (some (n1, n2, n3, n4, n5, n6, n7, n15) : He.FnW) = some (d.m, d.qual, defArgs d.st, .stmts (defBody d.st), defScope d.st, mainGlobals, [], builtinsNs) := e
      simp only [Option.some.injEq, Prod.mk.injEq] at e2
      obtain ⟨h1, h2, h3, h4, h5, h6, h7, h8⟩ := e2
      subst h1 h2 h3 h4 h5 h6 h7 h8
      cases n8 with
      | none =>
        have k1 : (PySem.W.codeIn K n13 d.qual && true) = true := c2
        rw [Bool.and_true] at k1
        exact ⟨_, ⟨⟨oc, od, n9, n10, n11, n12, n13, n14, osl, rfl, q, k1⟩, kp⟩, pr⟩
      | _ =>
        have k1 : (PySem.W.codeIn K n13 d.qual && false) = true := c2
        rw [Bool.and_false] at k1
        cases k1
    | _ => cases c2
/-! ### a def without defaults -/
theorem funD_fun {K : PySem.W.Frag} {x qual : Str} {st : Stmt} {f : Addr} {fd : FuncData} (F : FunD K x qual (defArgs st) (defBody st) (defScope st) [] [] f fd) : Fun K x qual st f fd := by
  obtain ⟨oc, od, dV, kV, doc, pm, an, cdv, ct, osl, rfl, lk, hcd, hd, hk⟩ := F.ex
  rcases hd with ⟨_, rfl⟩ | ⟨h, _⟩
  · exact ⟨⟨oc, od, kV, doc, pm, an, cdv, ct, osl, rfl, lk, hcd⟩, F.kp⟩
  · exact (h rfl).elim
/-- what the top's names reach, and the place of the settings -/
def asL (g : Addr → Option Obj) (n : Nat) : List Addr := He.asD g n ++ [cStatics]
def kL (n : Nat) (g : Addr → Option Obj) : PySem.W.Frag := He.frT g (asL g n)
abbrev AlL : Type := (He.AlT × Bool) × List He.FnW
/-- the head's facts: names, defs, tables, a Bool of one's own, empty tables of code, getters -/
structure SaysL (fa : List He.Fa) (fn : List He.DefD) (ts : List He.Tab) (tf : List He.Defn) (ex : PySem.W.Frag → Bool) (gets : List GetD) (w : World) (h : Heap) (K : PySem.W.Frag) : Prop where
  t : He.SaysT fa fn ts w K
  more : ex K = true
  tab : ∀ p ∈ tf, PySem.W.codeHdIn K (He.cT K p).1 (He.cT K p).2 = true ∧ K.lookup (He.cT K p).2 = none ∧ h.get? (He.cT K p).2 = some { cls := .none, data := .fields #[] }
  get : (gets.map fun d => fnA K (gAd K d.cls d.m)) = gets.map GetD.val
section
variable {n : Nat} {fa : List He.Fa} {fn : List He.DefD} {ts : List He.Tab} {tf : List He.Defn} {ex : PySem.W.Frag → Bool} {gets : List GetD} {w : World}
theorem tabs_of {g : Addr → Option Obj} {as : List Addr} (h : He.tabsB g tf (He.frT g as) = true) (p : He.Defn) (hp : p ∈ tf) :
    PySem.W.codeHdIn (He.frT g as) (He.cT (He.frT g as) p).1 (He.cT (He.frT g as) p).2 = true ∧ (He.frT g as).lookup (He.cT (He.frT g as) p).2 = none ∧ g (He.cT (He.frT g as) p).2 = some { cls := .none, data := .fields #[] } := by
  obtain ⟨h1, h2⟩ := He.ba (List.all_eq_true.mp h p hp)
  split at h2
  · rename_i o q
    exact ⟨h1, He.frT_none q h2, by rw [q, He.emptyTab_eq h2]⟩
  · cases h2
def obsG (n : Nat) (fa : List He.Fa) (fn : List He.DefD) (ts : List He.Tab) (tf : List He.Defn) (ex : PySem.W.Frag → Bool) (gets : List GetD) (g : Addr → Option Obj) : AlL :=
  ((He.obsT fa fn ts (kL n g), ex (kL n g) && He.tabsB g tf (kL n g)), gets.map fun d => fnA (kL n g) (gAd (kL n g) d.cls d.m))
def valG (fn : List He.DefD) (ts : List He.Tab) (gets : List GetD) (w : World) : AlL := ((He.valT fn ts w, true), gets.map GetD.val)
theorem saysL_of {h : Heap} (e : obsG n fa fn ts tf ex gets h.get? = valG fn ts gets w) : ∃ K : PySem.W.Frag, K.In h ∧ SaysL fa fn ts tf ex gets w h K := by
  obtain ⟨e1, e2⟩ := Prod.mk.inj e
  obtain ⟨e3, e4⟩ := Prod.mk.inj e1
  obtain ⟨e5, e6⟩ := He.ba e4
  exact ⟨kL n h.get?, He.frT_in, e3, e5, fun p hp => tabs_of e6 p hp, e2⟩
end
def hookG (n : Nat) (fa : List He.Fa) (fn : List He.DefD) (ts : List He.Tab) (tf : List He.Defn) (ex : PySem.W.Frag → Bool) (gets : List GetD) : PySem.W.Hook where
  α := AlL
  obs := fun s => obsG n fa fn ts tf ex gets s.heap.get?
  val := fun w => valG fn ts gets w
  says := fun w h => ∃ K : PySem.W.Frag, K.In h ∧ SaysL fa fn ts tf ex gets w h K
  of := fun _ _ e => saysL_of e
  keeps := fun _ _ _ ⟨K, hK, c⟩ k => ⟨K, PySem.W.Frag.In.keeps hK k, c.t, c.more, fun p hp => ⟨(c.tab p hp).1, (c.tab p hp).2.1, k _ _ (c.tab p hp).2.2⟩, c.get⟩
theorem obsG_eq {n : Nat} {fa : List He.Fa} {fn : List He.DefD} {ts : List He.Tab} {tf : List He.Defn} {ex : PySem.W.Frag → Bool} {gets : List GetD} {g : Addr → Option Obj} {s : Shared} (h : ∀ a, g a = s.heap.get? a) : obsG n fa fn ts tf ex gets g = (hookG n fa fn ts tf ex gets).obs s := by
  have e : g = s.heap.get? := funext h
  rw [e] <;> rfl
def dGl (x : Str) (st : Stmt) : He.DefD := ⟨(x, none), x, x, defArgs st, defBody st, defScope st, [], []⟩
def dMe (c m q : Str) (st : Stmt) : He.DefD := ⟨(c, some m), m, q, defArgs st, defBody st, defScope st, [], []⟩
theorem all_get {l : List Bool} (h : l.all id = true) (i : Nat) {b : Bool} (e : l[i]? = some b) : b = true := List.all_eq_true.mp h b (List.mem_of_getElem? e)
section
variable {w : World} {h : Heap} {K : PySem.W.Frag} {mg : Str → Option Value}
theorem tup_map (xs : List Str) : (xs.map He.Dv.str).map (He.Dv.v K) = xs.map V.str := by
  rw [List.map_map]
  rfl
theorem defF {fa : List He.Fa} {fn : List He.DefD} {x : Str} {st : Stmt} (c : He.SaysD fa fn K) (hm : dGl x st ∈ fn) : ∃ fd, Fun K x x st (He.ga K x) fd := by
  obtain ⟨fd, F⟩ := c.defs hm
  exact ⟨fd, funD_fun F⟩
theorem defM {fa : List He.Fa} {fn : List He.DefD} {x m q : Str} {st : Stmt} (c : He.SaysD fa fn K) (hm : dMe x m q st ∈ fn) : ∃ fd, Fun K m q st (He.ma K (He.ga K x) m) fd := by
  obtain ⟨fd, F⟩ := c.defs hm
  exact ⟨fd, funD_fun F⟩
end
end LS
namespace LS
open PySem PySem.Spec PyProof.Rows L2
/-! ### Bools of an exception class -/
def oexB (K : PySem.W.Frag) (C : Addr) : Bool := (match K.lookup C with
  | some ⟨.type t, _, .cls ⟨_, _, .ref C' :: bm, _, _, hd, _, _, _, _, del⟩, sl⟩ => decide (t = "type") && (decide (C' = C) && (PySem.HandSPX.refsVE bm && (hd && (!del && (decide (sl.size = 6) && eqO1 (sl[4]? ) "ValueError.__new__")))))
  | _ => false) && (He.eqO (PySem.W.findIn K (.ref C) "__setattr__") (some (some (.builtin "object.__setattr__"))) && (decide (PySem.W.subIn K (.ref C) (.type "BaseException") = some true) && (decide (PySem.W.typeIn K (.ref C) = some (.type "type")) && PySem.W.keepIn K (.ref C))))
where eqO1 (o : Option (Option Value)) (id : String) : Bool := match o with
  | some (some (.builtin i)) => decide (i = id)
  | _ => false
theorem oexB_ok {K : PySem.W.Frag} {C : Addr} (h : oexB K C = true) : OexC K C := by
  obtain ⟨h1, h⟩ := He.ba h
  obtain ⟨h2, h⟩ := He.ba h
  obtain ⟨h3, h⟩ := He.ba h
  obtain ⟨h4, h5⟩ := He.ba h
  refine ⟨?_, He.eqO_ok h2, of_decide_eq_true h3, of_decide_eq_true h4, h5⟩
  cases q : K.lookup C with
  | none =>
    rw [q] at h1
    cases h1
  | some o =>
    obtain ⟨oc, od, dt, osl⟩ := o
    rw [q] at h1
    cases oc with
    | type t =>
      cases dt with
      | cls cd =>
        obtain ⟨nm, bs, mro, N, qn, hd, sn, sub, ab, col, del⟩ := cd
        cases mro with
        | nil => cases h1
        | cons v bm =>
          cases v with
          | ref C' =>
            obtain ⟨k1, k⟩ := He.ba (show (decide (t = "type") && (decide (C' = C) && (PySem.HandSPX.refsVE bm && (hd && (!del && (decide (osl.size = 6) && oexB.eqO1 (osl[4]?) "ValueError.__new__")))))) = true from h1)
            obtain ⟨k2, k⟩ := He.ba k
            obtain ⟨k3, k⟩ := He.ba k
            obtain ⟨k4, k⟩ := He.ba k
            obtain ⟨k5, k⟩ := He.ba k
            obtain ⟨k6, k7⟩ := He.ba k
            cases of_decide_eq_true k1
            cases of_decide_eq_true k2
            cases k4
            cases del with
            | true => cases k5
            | false =>
              obtain ⟨l⟩ := osl
              have k6' : l.length = 6 := of_decide_eq_true k6
              obtain ⟨s0, s1, s2, s3, s4, s5, rfl⟩ : ∃ s0 s1 s2 s3 s4 s5, l = [s0, s1, s2, s3, s4, s5] := match l, k6' with
                | [s0, s1, s2, s3, s4, s5], _ => ⟨s0, s1, s2, s3, s4, s5, rfl⟩
              have k7' : oexB.eqO1 (some s4) "ValueError.__new__" = true := k7
              cases s4 with
              | none => cases k7'
              | some u =>
                cases u with
                | builtin i =>
                  cases of_decide_eq_true (show decide (i = "ValueError.__new__") = true from k7')
                  exact ⟨nm, qn, N, bs, bm, sn, sub, ab, col, od, s0, s1, s2, s3, s5, rfl, k3⟩
                | _ => cases k7'
          | _ => cases h1
      | _ => cases h1
    | _ => cases dt <;> cases h1
def excB (K : PySem.W.Frag) (D : Addr) : Bool := He.eqO (PySem.W.findIn K (.ref D) "__getattribute__") (some (some (.builtin "BaseException.__getattribute__"))) && (He.eqO (PySem.W.findIn K (.ref D) "__getattr__") (some none) && (decide (PySem.W.subIn K (.ref D) (.type "BaseException") = some true) && (PySem.W.hasDictIn K D &&
  (He.eqO (PySem.W.findIn K (.ref D) "__class__") (some (some (.builtin "object.__class__"))) && (He.eqO (PySem.W.specialIn K (.builtin "object.__class__") "__get__") (some (some (.builtin "getset_descriptor.__get__"))) && (decide (PySem.W.takesIn K (.builtin "object.__class__") = some true) && decide (PySem.W.mroIn K D (.type "object") = some true)))))))
theorem excB_ok {K : PySem.W.Frag} {D : Addr} (h : excB K D = true) : ExcC K D := by
  obtain ⟨h1, h⟩ := He.ba h
  obtain ⟨h2, h⟩ := He.ba h
  obtain ⟨h3, h⟩ := He.ba h
  obtain ⟨h4, h⟩ := He.ba h
  obtain ⟨h5, h⟩ := He.ba h
  obtain ⟨h6, h⟩ := He.ba h
  obtain ⟨h7, h8⟩ := He.ba h
  exact ⟨He.eqO_ok h1, He.eqO_ok h2, of_decide_eq_true h3, h4, He.eqO_ok h5, He.eqO_ok h6, of_decide_eq_true h7, of_decide_eq_true h8⟩
def kitB (K : PySem.W.Frag) (C : Addr) (v : Value) (b : Bool) : Bool := decide (PySem.W.kitOne K (.ref C) v = some b)
def baseB (K : PySem.W.Frag) (C : Addr) : Bool := PySem.W.readsIn K C (.type "type") && (He.eqO (PySem.W.specialIn K (.ref C) "__getattribute__") (some (some (.builtin "type.__getattribute__"))) && (match PySem.W.findCls K (.ref C) (.type "type") "__init__" with
  | some (.val (.builtin i)) => decide (i = "ValueError.__init__")
  | _ => false))
theorem baseB_ok {K : PySem.W.Frag} {C : Addr} (h : baseB K C = true) : ∃ mc, ClX.CRead K C mc ∧ PySem.W.findCls K (.ref C) mc "__init__" = some (.val (.builtin "ValueError.__init__")) := by
  obtain ⟨h1, h⟩ := He.ba h
  obtain ⟨h2, h3⟩ := He.ba h
  refine ⟨.type "type", ⟨h1, He.eqO_ok h2⟩, ?_⟩
  split at h3
  · rename_i i q
    rw [q, of_decide_eq_true h3]
  · cases h3
end LS
namespace LS
open PySem PySem.Spec PyProof.Rows L2
/-! ### the controls' table -/
def rowB (K : PySem.W.Frag) : List DictEntry → List (Str × List Str) → Bool
  | [], [] => true
  | e :: es, r :: rs => (match e.key with
    | .str x _ => decide (x = r.1)
    | _ => false) && ((match e.val with
    | .ref a => (match K.lookup a with
      | some ⟨.type c, _, .seq its _, _⟩ => decide (c = "tuple") && (decide (its.size ≤ sizeLine) && He.relAll (r.2.map V.str) its.toList)
      | _ => false)
    | _ => false) && rowB K es rs)
  | _, _ => false
theorem rowB_ok {K : PySem.W.Frag} : ∀ {es : List DictEntry} {rs : List (Str × List Str)}, rowB K es rs = true → CtrlEs K es rs
  | [], [], _ => True.intro
  | [], _ :: _, h => nomatch h
  | _ :: _, [], h => nomatch h
  | e :: es, r :: rs, h => by
    obtain ⟨h1, h⟩ := He.ba (show ((match e.key with
      | .str x _ => decide (x = r.1)
      | _ => false) && ((match e.val with
      | .ref a => (match K.lookup a with
        | some ⟨.type c, _, .seq its _, _⟩ => decide (c = "tuple") && (decide (its.size ≤ sizeLine) && He.relAll (r.2.map V.str) its.toList)
        | _ => false)
      | _ => false) && rowB K es rs)) = true from h)
    obtain ⟨h2, h3⟩ := He.ba h
    refine ⟨?_, rowB_ok h3⟩
    split at h1
    · rename_i x t q1
      cases of_decide_eq_true h1
      split at h2
      · rename_i a q2
        split at h2
        · rename_i c od its n sl q3
          obtain ⟨k1, k⟩ := He.ba h2
          obtain ⟨k2, k3⟩ := He.ba k
          cases of_decide_eq_true k1
          exact ⟨t, a, q1, q2, fun H => .inr ⟨_, its, n, q3, rfl, rfl, of_decide_eq_true k2, He.relAll_ok k3⟩⟩
        · cases h2
      · cases h2
    · cases h1
def ctrlB (K : PySem.W.Frag) (a : Addr) : Bool := match K.lookup a with
  | some ⟨_, _, .dict es _, _⟩ => rowB K es.toList ctrlTab
  | _ => false
theorem ctrlB_ok {K : PySem.W.Frag} {w : World} {mg : Str → Option Value} {a : Addr} (g : mg "CONTROLS" = some (.ref a)) (h : ctrlB K a = true) (d : ∃ es n, KDict K w a es n) : CtrlK K w mg a := by
  obtain ⟨es, n, hd⟩ := d
  refine ⟨g, hd.low, es, n, hd.at_, hd.lit, ?_⟩
  unfold ctrlB at h
  rw [hd.at_] at h
  exact rowB_ok h
end LS
namespace LS
open PySem PySem.Spec PyProof.Rows L2
/-! what every law over stacks takes from the top: rules.py, stacks.py -/
def globsC : List Str := ["Rule", "Stack", "InvalidRule", "InvalidStack", "StackError", "is_number", "is_word", "is_action", "actions_of", "CONTROLS", "ACTIONS", "RESULTS", "rules_of", "depth_of", "first_misfit"]
def freesC : List Str := ["isinstance", "str", "int", "bool", "tuple", "len", "all", "max", "sorted", "enumerate"]
def moresC : List He.Fa := [.str "LETTERS" letters, .int "LONGEST_WORD" 8, .int "LONGEST_JUMP" 9, .int "MOST_ENTRIES" 12, .int "MOST_RULES" 12, .int "MOST_MODULES" 6, .int "MOST_DEPTH" 3, .cls "Rule", .noat "Rule" "_module", .noat "Rule" "_control", .mkr "Rule",
  .cls "Stack", .noat "Stack" "_entries", .noat "Stack" "_rules", .noat "Stack" "_modules", .mkr "Stack", .noat "InvalidRule" "part", .noat "InvalidStack" "index", .meth "Rule" "__eq__", .meth "Stack" "__eq__", .meth "InvalidRule" "__init__", .meth "InvalidStack" "__init__"]
def faC : List He.Fa := globsC.map .glo ++ freesC.map .free ++ moresC
def fnC : List He.DefD := [dGl "is_number" sNum, dGl "is_word" sWord, dGl "is_action" sAction, dGl "actions_of" sActs, dGl "rules_of" sRulesOf, dGl "depth_of" sDepthOf, dGl "first_misfit" sMisfit, dMe "Rule" "__init__" "Rule.__init__" sRInit, dMe "Rule" "__eq__" "Rule.__eq__" sREq,
  dMe "InvalidRule" "__init__" "InvalidRule.__init__" sIRInit, dMe "InvalidStack" "__init__" "InvalidStack.__init__" sISInit, dMe "Stack" "__init__" "Stack.__init__" sSInit, dMe "Stack" "__eq__" "Stack.__eq__" sSEq]
def getsC : List GetD := [⟨"Rule", "module", "Rule.module", sRMod⟩, ⟨"Stack", "entries", "Stack.entries", sSEntries⟩, ⟨"Stack", "rules", "Stack.rules", sSRules⟩, ⟨"Stack", "modules", "Stack.modules", sSModules⟩]
def instB (K : PySem.W.Frag) (C : Addr) : Bool := He.eqO (PySem.W.findIn K (.ref C) "__class__") (some (some (.builtin "object.__class__"))) && (He.eqO (PySem.W.specialIn K (.builtin "object.__class__") "__get__") (some (some (.builtin "getset_descriptor.__get__"))) &&
  (decide (PySem.W.takesIn K (.builtin "object.__class__") = some true) && decide (PySem.W.mroIn K C (.type "object") = some true)))
theorem instB_ok {K : PySem.W.Frag} {C : Addr} (h : instB K C = true) : InstK K C := by
  obtain ⟨h1, h⟩ := He.ba h
  obtain ⟨h2, h⟩ := He.ba h
  obtain ⟨h3, h4⟩ := He.ba h
  exact ⟨He.eqO_ok h1, He.eqO_ok h2, of_decide_eq_true h3, of_decide_eq_true h4⟩
def exOwnB (K : PySem.W.Frag) (x : Str) : Bool := oexB K (He.ga K x) && (excB K (He.ga K x) && xfB K (He.ga K x))
theorem exOwnB_ok {K : PySem.W.Frag} {mg : Str → Option Value} {x : Str} (g : mg x = some (.ref (He.ga K x))) (h : exOwnB K x = true) : ExK K mg x (He.ga K x) := by
  obtain ⟨h1, h⟩ := He.ba h
  obtain ⟨h2, h3⟩ := He.ba h
  exact ⟨g, oexB_ok h1, excB_ok h2, xfB_ok h3⟩
def exC (K : PySem.W.Frag) : List Bool := [He.tupB K "ACTIONS" (actWords.map He.Dv.str), He.tupB K "RESULTS" (resWords.map He.Dv.str), ctrlB K (He.ga K "CONTROLS"), baseB K (He.ga K "StackError"), exOwnB K "InvalidRule", exOwnB K "InvalidStack",
  instB K (He.ga K "Rule"), instB K (He.ga K "Stack"), kitB K (He.ga K "Rule") (.ref (He.ga K "Stack")) false, kitB K (He.ga K "Stack") (.ref (He.ga K "Rule")) false, PySem.W.notFirst K (He.ga K "Rule") (.ref (He.ga K "Stack")), PySem.W.notFirst K (He.ga K "Stack") (.ref (He.ga K "Rule")),
  He.eqO (PySem.W.findIn K (.ref (He.ga K "Rule")) "__ne__") (some (some (.builtin "object.__ne__"))), He.eqO (PySem.W.findIn K (.ref (He.ga K "Stack")) "__ne__") (some (some (.builtin "object.__ne__"))),
  decide (PySem.W.typeIn K (.ref (He.ma K (He.ga K "InvalidRule") "__init__")) = some (.type "function")), decide (PySem.W.typeIn K (.ref (He.ma K (He.ga K "InvalidStack") "__init__")) = some (.type "function")), getsC.all (fun d => d.ok K)]
theorem faC_glob {x : Str} (hx : x ∈ globsC) : He.Fa.glo x ∈ faC := List.mem_append_left _ (List.mem_append_left _ (List.mem_map.mpr ⟨x, hx, rfl⟩))
theorem faC_free {x : Str} (hx : x ∈ freesC) : He.Fa.free x ∈ faC := List.mem_append_left _ (List.mem_append_right _ (List.mem_map.mpr ⟨x, hx, rfl⟩))
theorem faC_more {f : He.Fa} (hx : f ∈ moresC) : f ∈ faC := List.mem_append_right _ hx
section
variable {w : World} {h : Heap} {K : PySem.W.Frag} {mg : Str → Option Value} {fa : List He.Fa} {fn : List He.DefD}
theorem bools_mem {l : List Bool} (h : l.all id = true) {b : Bool} (hb : b ∈ l) : b = true := List.all_eq_true.mp h b hb
/-- a getter among those that the hook read -/
theorem get_of {gets : List GetD} (g : (gets.map fun d => fnA K (gAd K d.cls d.m)) = gets.map GetD.val) (e : gets.all (fun d => d.ok K) = true) {d : GetD} (hd : d ∈ gets) :
    ∃ fd, Fun K d.m d.qual d.st (gAd K d.cls d.m) fd ∧ PropOf K (He.ga K d.cls) d.m (He.ma K (He.ga K d.cls) d.m) (gAd K d.cls d.m) := by
  obtain ⟨i, hi⟩ := List.getElem?_of_mem hd
  have z : (gets.map fun d => fnA K (gAd K d.cls d.m))[i]? = (gets.map GetD.val)[i]? := by rw [g]
  rw [List.getElem?_map, List.getElem?_map, hi] at z
  exact GetD.fun_ (Option.some.inj z) (List.all_eq_true.mp e d hd)
abbrev CRn (K : PySem.W.Frag) : Addr := He.ga K "Rule"
abbrev CSn (K : PySem.W.Frag) : Addr := He.ga K "Stack"
abbrev CIn (K : PySem.W.Frag) : Addr := He.ga K "InvalidStack"
abbrev CXn (K : PySem.W.Frag) : Addr := He.ga K "InvalidRule"
abbrev CEn (K : PySem.W.Frag) : Addr := He.ga K "StackError"
theorem core_facts (X : K.In h) (G : h.Ns mainGlobals mg) (cd : He.SaysD fa fn K) (tab : ∃ es n, KDict K w (He.ga K "CONTROLS") es n) (hfa : ∀ f ∈ faC, f ∈ fa) (hfn : ∀ d ∈ fnC, d ∈ fn)
    (gC : ∀ d ∈ getsC, ∃ fd, Fun K d.m d.qual d.st (gAd K d.cls d.m) fd ∧ PropOf K (He.ga K d.cls) d.m (He.ma K (He.ga K d.cls) d.m) (gAd K d.cls d.m)) (ex : ∀ b ∈ exC K, b = true) (P : Program) (base : Heap) :
    Nonempty (StkC P w K mg base (CRn K) (CSn K) (CIn K) (CXn K)) := by
  have gl : ∀ {x : Str}, x ∈ globsC → mg x = some (.ref (He.ga K x)) := fun hx => He.glo_ok X G (cd.facts (hfa _ (faC_glob hx)))
  have fr : ∀ {x : Str}, x ∈ freesC → mg x = none := fun hx => He.free_ok X G (cd.facts (hfa _ (faC_free hx)))
  have mo : ∀ {f : He.Fa}, f ∈ moresC → f ∈ fa := fun hx => hfa _ (faC_more hx)
  have at_ : ∀ (i : Nat) (b : Bool), (exC K)[i]? = some b → b = true := fun i b e => ex b (List.mem_of_getElem? e)
  have RU : RuleK K mg (CRn K) := ⟨gl (by decide +kernel), He.cls_ok (cd.facts (mo (by simp [moresC]))), He.noat_ok (cd.facts (mo (by simp [moresC]))), He.noat_ok (cd.facts (mo (by simp [moresC])))⟩
  have NR := instB_ok (at_ 6 _ rfl)
  have NS := instB_ok (at_ 7 _ rfl)
  have kRS : PySem.W.kitOne K (.ref (CRn K)) (.ref (CSn K)) = some false := of_decide_eq_true (at_ 8 _ rfl)
  have kSR : PySem.W.kitOne K (.ref (CSn K)) (.ref (CRn K)) = some false := of_decide_eq_true (at_ 9 _ rfl)
  have TS : StackK K mg (CRn K) (CSn K) := ⟨RU, NR, gl (by decide +kernel), He.cls_ok (cd.facts (mo (by simp [moresC]))), NS, He.noat_ok (cd.facts (mo (by simp [moresC]))), He.noat_ok (cd.facts (mo (by simp [moresC]))), He.noat_ok (cd.facts (mo (by simp [moresC]))), kRS, fr (by decide +kernel)⟩
  have TZ : EqK K (CRn K) (CSn K) := ⟨kSR, at_ 10 _ rfl, at_ 11 _ rfl⟩
  have TT : RulesK K w mg := ⟨He.str_ok X G (cd.facts (mo (by simp [moresC]))), He.int_ok X G (cd.facts (mo (by simp [moresC]))), He.int_ok X G (cd.facts (mo (by simp [moresC]))), ⟨_, gl (by decide +kernel), fun H => tup_map actWords ▸ He.tupB_ok (at_ 0 _ rfl) H⟩, ⟨_, gl (by decide +kernel), fun H => tup_map resWords ▸ He.tupB_ok (at_ 1 _ rfl) H⟩,
    fr (by decide +kernel), fr (by decide +kernel), fr (by decide +kernel), fr (by decide +kernel), fr (by decide +kernel), fr (by decide +kernel), fr (by decide +kernel)⟩
  have TN : NumK mg := ⟨fr (by decide +kernel), fr (by decide +kernel), fr (by decide +kernel)⟩
  have TM : MisK mg := ⟨He.int_ok X G (cd.facts (mo (by simp [moresC]))), He.int_ok X G (cd.facts (mo (by simp [moresC]))), He.int_ok X G (cd.facts (mo (by simp [moresC]))), He.int_ok X G (cd.facts (mo (by simp [moresC]))), fr (by decide +kernel), fr (by decide +kernel), fr (by decide +kernel)⟩
  have DD : CtrlK K w mg (He.ga K "CONTROLS") := ctrlB_ok (gl (by decide +kernel)) (at_ 2 _ rfl) tab
  have BB : BaseX K mg (CEn K) := ⟨gl (by decide +kernel), baseB_ok (at_ 3 _ rfl)⟩
  have XR : ExK K mg "InvalidRule" (CXn K) := exOwnB_ok (gl (by decide +kernel)) (at_ 4 _ rfl)
  have XS : ExK K mg "InvalidStack" (CIn K) := exOwnB_ok (gl (by decide +kernel)) (at_ 5 _ rfl)
  have nP : PySem.W.findIn K (.ref (CXn K)) "part" = some none := He.noat_ok (cd.facts (mo (by simp [moresC])))
  have nI : PySem.W.findIn K (.ref (CIn K)) "index" = some none := He.noat_ok (cd.facts (mo (by simp [moresC])))
  obtain ⟨fdN, FN⟩ := defF (x := "is_number") (st := sNum) cd (hfn _ (by simp [fnC]))
  obtain ⟨fdW, FW⟩ := defF (x := "is_word") (st := sWord) cd (hfn _ (by simp [fnC]))
  obtain ⟨fdA, FA⟩ := defF (x := "is_action") (st := sAction) cd (hfn _ (by simp [fnC]))
  obtain ⟨fdO, FO⟩ := defF (x := "actions_of") (st := sActs) cd (hfn _ (by simp [fnC]))
  obtain ⟨fdU, FU⟩ := defF (x := "rules_of") (st := sRulesOf) cd (hfn _ (by simp [fnC]))
  obtain ⟨fdD, FD⟩ := defF (x := "depth_of") (st := sDepthOf) cd (hfn _ (by simp [fnC]))
  obtain ⟨fdM, FM⟩ := defF (x := "first_misfit") (st := sMisfit) cd (hfn _ (by simp [fnC]))
  obtain ⟨fdI, FI⟩ := defM (x := "Rule") (m := "__init__") (q := "Rule.__init__") (st := sRInit) cd (hfn _ (by simp [fnC]))
  obtain ⟨fdE, FE⟩ := defM (x := "Rule") (m := "__eq__") (q := "Rule.__eq__") (st := sREq) cd (hfn _ (by simp [fnC]))
  obtain ⟨fdX, FX⟩ := defM (x := "InvalidRule") (m := "__init__") (q := "InvalidRule.__init__") (st := sIRInit) cd (hfn _ (by simp [fnC]))
  obtain ⟨fdY, FY⟩ := defM (x := "InvalidStack") (m := "__init__") (q := "InvalidStack.__init__") (st := sISInit) cd (hfn _ (by simp [fnC]))
  obtain ⟨fdJ, FJ⟩ := defM (x := "Stack") (m := "__init__") (q := "Stack.__init__") (st := sSInit) cd (hfn _ (by simp [fnC]))
  obtain ⟨fdQ, FQ⟩ := defM (x := "Stack") (m := "__eq__") (q := "Stack.__eq__") (st := sSEq) cd (hfn _ (by simp [fnC]))
  obtain ⟨fd1, F1, P1⟩ := gC ⟨"Rule", "module", "Rule.module", sRMod⟩ (by simp [getsC])
  obtain ⟨fd2, F2, P2⟩ := gC ⟨"Stack", "entries", "Stack.entries", sSEntries⟩ (by simp [getsC])
  obtain ⟨fd3, F3, P3⟩ := gC ⟨"Stack", "rules", "Stack.rules", sSRules⟩ (by simp [getsC])
  obtain ⟨fd4, F4, P4⟩ := gC ⟨"Stack", "modules", "Stack.modules", sSModules⟩ (by simp [getsC])
  have bN : Binds K fdN ["value", "least", "most"] [] := FN.binds fun _ _ _ _ _ _ us hl => match us, hl with | [_, _, _], _ => rfl
  have bW : Binds K fdW ["value"] [] := FW.binds fun _ _ _ _ _ _ us hl => match us, hl with | [_], _ => rfl
  have bA : Binds K fdA ["value"] [] := FA.binds fun _ _ _ _ _ _ us hl => match us, hl with | [_], _ => rfl
  have bO : Binds K fdO ["control"] [] := FO.binds fun _ _ _ _ _ _ us hl => match us, hl with | [_], _ => rfl
  have bU : Binds K fdU ["entry"] [] := FU.binds fun _ _ _ _ _ _ us hl => match us, hl with | [_], _ => rfl
  have bD : Binds K fdD ["entry"] [] := FD.binds fun _ _ _ _ _ _ us hl => match us, hl with | [_], _ => rfl
  have bM : Binds K fdM ["entries"] [] := FM.binds fun _ _ _ _ _ _ us hl => match us, hl with | [_], _ => rfl
  have bI : Binds K fdI ["self", "module", "control"] [] := FI.binds fun _ _ _ _ _ _ us hl => match us, hl with | [_, _, _], _ => rfl
  have bE : Binds K fdE ["self", "other"] [] := FE.binds fun _ _ _ _ _ _ us hl => match us, hl with | [_, _], _ => rfl
  have bX : Binds K fdX ["self", "part"] [] := FX.binds fun _ _ _ _ _ _ us hl => match us, hl with | [_, _], _ => rfl
  have bY : Binds K fdY ["self", "index"] [] := FY.binds fun _ _ _ _ _ _ us hl => match us, hl with | [_, _], _ => rfl
  have bQ : Binds K fdQ ["self", "other"] [] := FQ.binds fun _ _ _ _ _ _ us hl => match us, hl with | [_, _], _ => rfl
  have b1 : Binds K fd1 ["self"] [] := F1.binds fun _ _ _ _ _ _ us hl => match us, hl with | [_], _ => rfl
  have b2 : Binds K fd2 ["self"] [] := F2.binds fun _ _ _ _ _ _ us hl => match us, hl with | [_], _ => rfl
  have b3 : Binds K fd3 ["self"] [] := F3.binds fun _ _ _ _ _ _ us hl => match us, hl with | [_], _ => rfl
  have b4 : Binds K fd4 ["self"] [] := F4.binds fun _ _ _ _ _ _ us hl => match us, hl with | [_], _ => rfl
  have mE : Meth K (CRn K) "__eq__" (He.ma K (CRn K) "__eq__") := He.meth_ok (cd.facts (mo (by simp [moresC])))
  have mQ : Meth K (CSn K) "__eq__" (He.ma K (CSn K) "__eq__") := He.meth_ok (cd.facts (mo (by simp [moresC])))
  have mX : Meth K (CXn K) "__init__" (He.ma K (CXn K) "__init__") := He.meth_ok (cd.facts (mo (by simp [moresC])))
  have mY : Meth K (CIn K) "__init__" (He.ma K (CIn K) "__init__") := He.meth_ok (cd.facts (mo (by simp [moresC])))
  have DN : DefK P w K mg base CX0 1 "is_number" ["value", "least", "most"] (spNum K) := ⟨ok_num FN TN, gl (by decide +kernel), FN.kp, bN⟩
  have GX : FnOk P w K mg base CX0 7 (He.ga K "first_misfit") fdM ["entries"] (spMisfit K (CRn K) (CSn K)) := ok_misfit FM TS TM (gl (by decide +kernel)) kSR FD (gl (by decide +kernel)) bD F2 b2 P2 FU (gl (by decide +kernel)) bU F3 b3 P3 F1 b1 P1
  have ER : OwnEqK P w K mg base (CRn K) 1 (spEqB (RR K (CRn K) (CSn K))) := ⟨ok_reqB FE TS TZ, bE, mE.1, mE.2⟩
  exact ⟨{ T := TS, Z := TZ,
           GI := ok_sinit FJ TS GX (gl (by decide +kernel)) FM.kp bM XS nI BB FY bY mY.at_ (of_decide_eq_true (at_ 15 _ rfl)) FU (gl (by decide +kernel)) bU F3 b3 P3 F1 b1 P1 (fr (by decide +kernel)) (fr (by decide +kernel)),
           MS := He.mkr_ok (cd.facts (mo (by simp [moresC]))),
           GR := ok_rinit FI RU TT DD FW (gl (by decide +kernel)) bW FO (gl (by decide +kernel)) bO FA (gl (by decide +kernel)) bA XR nP BB FX bX DN mX.at_ (of_decide_eq_true (at_ 14 _ rfl)),
           MR := He.mkr_ok (cd.facts (mo (by simp [moresC]))), bR := bI,
           PE := ⟨ok_sentries F2 TS, b2, P2⟩, PR := ⟨ok_srules F3 TS, b3, P3⟩, PM := ⟨ok_smodules F4 TS, b4, P4⟩, PN := ⟨ok_mod F1 RU, b1, P1⟩,
           ER := ER, ES := fun d => ⟨ok_seqB FQ bQ mQ.1 mQ.2 TS TZ ER d, bQ, mQ.1, mQ.2⟩, neR := He.eqO_ok (at_ 12 _ rfl), neS := He.eqO_ok (at_ 13 _ rfl) }⟩
end
end LS
namespace LS
open PySem PySem.Spec PyProof.Rows L2
def excNames : List Str := ["InvalidAnswers", "InvalidWeights", "UnknownRule", "InvalidPlace", "TooMany", "UnknownModule", "InvalidMode", "UnknownView"]
def globs : List Str := (["_law_taken", "_law_raised", "_law_flat", "_law_nested", "law"] : List Str) ++ excNames
def frees : List Str := ["ValueError", "range", "list"]
def mores : List He.Fa := [.exm "InvalidStack" "StackError" true, .meth "Stack" "__len__", .meth "Stack" "__getitem__", .meth "Stack" "__add__"]
def faL : List He.Fa := globs.map .glo ++ frees.map .free ++ mores
def fa : List He.Fa := faC ++ faL
def fnL : List He.DefD := [dGl "_law_taken" sTaken, dGl "_law_raised" sRaised, dGl "_law_flat" sFlat, dGl "_law_nested" sNested, dGl "law" sLaw, dMe "Stack" "__len__" "Stack.__len__" sSLen, dMe "Stack" "__getitem__" "Stack.__getitem__" sSGet, dMe "Stack" "__add__" "Stack.__add__" sSAdd]
def fn : List He.DefD := fnC ++ fnL
def gets : List GetD := getsC
def ts : List He.Tab := [((fun K => He.ga K "CONTROLS"), ctrlTab.map (·.1))]
def tf : List He.Defn := [("law", none)]
def exLL (K : PySem.W.Frag) : List Bool := [PySem.W.selfFirst K (CSn K), PySem.W.fnIn K (He.ma K (CSn K) "__getitem__"), kitB K (CIn K) (.type "ValueError") true, kitB K (CIn K) (.ref (CXn K)) false, excNames.all (fun x => kitB K (CIn K) (.ref (He.ga K x)) false)]
def exL (K : PySem.W.Frag) : List Bool := exC K ++ exLL K
def exA (K : PySem.W.Frag) : Bool := (exL K).all id
abbrev hk : PySem.W.Hook := hookG 5 fa fn ts tf exA gets
def ob (s : PySem.W.SharedT) : AlL := obsG 5 fa fn ts tf exA gets (HandSHeadRun.getT s)
theorem ob_eq (s : PySem.W.SharedT) : ob s = hk.obs s.abs := obsG_eq (HandSHeadRun.getT_eq s)
section
variable {w : World} {h : Heap} {K : PySem.W.Frag} {mg : Str → Option Value}
theorem facts (X : K.In h) (G : h.Ns mainGlobals mg) (c : SaysL fa fn ts tf exA gets w h K) :
    ∃ fd, Fun K "law" "law" sLaw (He.ga K "law") fd ∧ mg "law" = some (.ref (He.ga K "law")) ∧ ∀ (P : Program) (base : Heap), Nonempty (LawT P w K mg base (CRn K) (CSn K) (CIn K) (CXn K) (CEn K)) := by
  have cd := c.t.d
  have ex : (exL K).all id = true := c.more
  have exc : ∀ b ∈ exC K, b = true := fun b hb => bools_mem ex (List.mem_append_left _ hb)
  have exl : ∀ (i : Nat) (b : Bool), (exLL K)[i]? = some b → b = true := fun i b e => bools_mem ex (List.mem_append_right _ (List.mem_of_getElem? e))
  have gets_ok : gets.all (fun d => d.ok K) = true := exc _ (List.mem_of_getElem? (i := 16) rfl)
  have S := fun (P : Program) (base : Heap) => core_facts (w := w) X G cd (c.t.tab 0) (fun f hf => List.mem_append_left _ hf) (fun d hd => List.mem_append_left _ hd) (fun d hd => get_of c.get gets_ok hd) exc P base
  have fl : ∀ {f : He.Fa}, f ∈ faL → f ∈ fa := fun hf => List.mem_append_right _ hf
  have glo : ∀ {x : Str}, x ∈ globs → mg x = some (.ref (He.ga K x)) := fun hx => He.glo_ok X G (cd.facts (fl (List.mem_append_left _ (List.mem_append_left _ (List.mem_map.mpr ⟨_, hx, rfl⟩)))))
  have gc : ∀ {x : Str}, x ∈ globsC → mg x = some (.ref (He.ga K x)) := fun hx => He.glo_ok X G (cd.facts (List.mem_append_left _ (faC_glob hx)))
  have frl : ∀ {x : Str}, x ∈ frees → mg x = none := fun hx => He.free_ok X G (cd.facts (fl (List.mem_append_left _ (List.mem_append_right _ (List.mem_map.mpr ⟨_, hx, rfl⟩)))))
  have frc : ∀ {x : Str}, x ∈ freesC → mg x = none := fun hx => He.free_ok X G (cd.facts (List.mem_append_left _ (faC_free hx)))
  have mo : ∀ {f : He.Fa}, f ∈ mores → f ∈ fa := fun hx => fl (List.mem_append_right _ hx)
  have ld : ∀ {d : He.DefD}, d ∈ fnL → d ∈ fn := fun hd => List.mem_append_right _ hd
  have kit : ∀ {x : Str}, x ∈ excNames → ∃ C, mg x = some (.ref C) ∧ PySem.W.kitOne K (.ref (CIn K)) (.ref C) = some false := fun {x} hx => ⟨_, glo (List.mem_append_right _ hx), of_decide_eq_true (List.all_eq_true.mp (exl 4 _ rfl) x hx)⟩
  have XS : ExK K mg "InvalidStack" (CIn K) := exOwnB_ok (gc (by decide +kernel)) (exc _ (List.mem_of_getElem? (i := 5) rfl))
  have nI : PySem.W.findIn K (.ref (CIn K)) "index" = some none := He.noat_ok (cd.facts (List.mem_append_left _ (faC_more (by simp [moresC]))))
  have EE : ErrS K mg (CEn K) (CIn K) (CXn K) := ⟨gc (by decide +kernel), frl (by decide +kernel), frc (by decide +kernel), XS.exc, XS.xf, nI, of_decide_eq_true (exl 2 _ rfl), He.exm_ok (cd.facts (mo (by simp [mores]))), gc (by decide +kernel),
    ⟨gc (by decide +kernel), of_decide_eq_true (exl 3 _ rfl)⟩, kit (by decide +kernel), kit (by decide +kernel), kit (by decide +kernel), kit (by decide +kernel), kit (by decide +kernel), kit (by decide +kernel), kit (by decide +kernel), kit (by decide +kernel)⟩
  obtain ⟨fdT, FT⟩ := defF (x := "_law_taken") (st := sTaken) cd (ld (by simp [fnL]))
  obtain ⟨fdZ, FZ⟩ := defF (x := "_law_raised") (st := sRaised) cd (ld (by simp [fnL]))
  obtain ⟨fdF, FF⟩ := defF (x := "_law_flat") (st := sFlat) cd (ld (by simp [fnL]))
  obtain ⟨fdN, FN⟩ := defF (x := "_law_nested") (st := sNested) cd (ld (by simp [fnL]))
  obtain ⟨fdL, FL⟩ := defF (x := "law") (st := sLaw) cd (ld (by simp [fnL]))
  obtain ⟨fdn, Fn⟩ := defM (x := "Stack") (m := "__len__") (q := "Stack.__len__") (st := sSLen) cd (ld (by simp [fnL]))
  obtain ⟨fdg, Fg⟩ := defM (x := "Stack") (m := "__getitem__") (q := "Stack.__getitem__") (st := sSGet) cd (ld (by simp [fnL]))
  obtain ⟨fda, Fa⟩ := defM (x := "Stack") (m := "__add__") (q := "Stack.__add__") (st := sSAdd) cd (ld (by simp [fnL]))
  have bT : Binds K fdT ["_law_row", "_law_many"] [] := FT.binds fun _ _ _ _ _ _ us hl => match us, hl with | [_, _], _ => rfl
  have bZ : Binds K fdZ ["_law_work"] [] := FZ.binds fun _ _ _ _ _ _ us hl => match us, hl with | [_], _ => rfl
  have bF : Binds K fdF ["_law_many", "_law_first"] [] := FF.binds fun _ _ _ _ _ _ us hl => match us, hl with | [_, _], _ => rfl
  have bN : Binds K fdN ["_law_deep"] [] := FN.binds fun _ _ _ _ _ _ us hl => match us, hl with | [_], _ => rfl
  have bn : Binds K fdn ["self"] [] := Fn.binds fun _ _ _ _ _ _ us hl => match us, hl with | [_], _ => rfl
  have bg : Binds K fdg ["self", "at"] [] := Fg.binds fun _ _ _ _ _ _ us hl => match us, hl with | [_, _], _ => rfl
  have ba : Binds K fda ["self", "other"] [] := Fa.binds fun _ _ _ _ _ _ us hl => match us, hl with | [_, _], _ => rfl
  have mn : Meth K (CSn K) "__len__" (He.ma K (CSn K) "__len__") := He.meth_ok (cd.facts (mo (by simp [mores])))
  have mgt : Meth K (CSn K) "__getitem__" (He.ma K (CSn K) "__getitem__") := He.meth_ok (cd.facts (mo (by simp [mores])))
  have ma : Meth K (CSn K) "__add__" (He.ma K (CSn K) "__add__") := He.meth_ok (cd.facts (mo (by simp [mores])))
  refine ⟨fdL, FL, glo (by decide +kernel), fun P base => ?_⟩
  obtain ⟨c⟩ := S P base
  obtain ⟨ocZ, odZ, kVZ, docZ, pmZ, anZ, cdvZ, ctZ, oslZ, rfl, lkZ, hcdZ⟩ := FZ.ex
  have GA : FnOk P w K mg base (L2.CX P w) 10 (He.ma K (CSn K) "__add__") fda ["self", "other"] (spSAdd K (CRn K) (CSn K) (CIn K)) := ok_sadd Fa c.T c.MS c.GI
  have sf : PySem.W.selfFirst K (CSn K) = true := exl 0 _ rfl
  exact ⟨{ S := { c with GA := GA, bA := ba, aA := ma.1, nA := ma.2, sf := sf, GL := ok_slen Fn c.T (frc (by decide +kernel)), bL := bn, aL := mn.1, nL := mn.2, GG := ok_sget Fg c.T, bG := bg, aG := mgt.1, nG := mgt.2, iG := exl 1 _ rfl },
           E := EE, Z := ⟨lkZ, hcdZ, glo (by decide +kernel), FZ.kp, bZ⟩,
           Fl := ⟨ok_flat FF c.T c.MS c.GI c.MR c.GR c.bR GA ba ma.1 ma.2 sf (frl (by decide +kernel)), glo (by decide +kernel), FF.kp, bF⟩,
           Ne := ⟨ok_nested FN c.T c.MS c.GI c.MR c.GR c.bR (frl (by decide +kernel)), glo (by decide +kernel), FN.kp, bN⟩,
           Tk := ⟨ok_taken FT (frc (by decide +kernel)) (frc (by decide +kernel)), glo (by decide +kernel), FT.kp, bT⟩,
           len := frc (by decide +kernel), sorted := frc (by decide +kernel), list := frl (by decide +kernel) }⟩
end
end LS
namespace LS
open PySem PySem.Spec PyProof.Rows L2
abbrev R : PySem.W.OpenRow := PySem.W.OpenLaw.row rwL
theorem run (w : World) : HandSHeadRun.RunEq R (PySem.W.view R.prog [i_law]) hk ob 5000 loose w := by
  refine PySem.W.byRow2 "special-get-raises" (P := fun w => HandSHeadRun.RunEq R (PySem.W.view R.prog [i_law]) hk ob 5000 loose w) (fun w => ?_) (fun w => ?_) w
  · intro os
    kernel_rfl
  · intro os
    kernel_rfl
end LS
namespace LS
open PySem PySem.Spec PyProof.Rows L2
theorem law_at {w : World} {mg : Str → Option Value} {f : Addr} {h : Heap} {K : PySem.W.Frag} (X : K.In h) (G : h.Ns mainGlobals mg) (hmg : mg "law" = some (.ref f)) (c : SaysL fa fn ts tf exA gets w h K) :
    LamX.LawAtS rwL w K L2.CX0 14 63 "_law_script" mg f h := by
  obtain ⟨fd, FL, gl, T⟩ := facts X G c
  have e := hmg.symm.trans gl
  cases e
  obtain ⟨oc, od, kV, doc, pm, an, cdv, ct, osl, rfl, lk, hcd⟩ := FL.ex
  obtain ⟨cc, rfl⟩ := He.codeIn_ref hcd
  have ec := He.codeOf_eq (p := ("law", none)) lk rfl
  obtain ⟨t1, t2, t3⟩ := c.tab ("law", none) (List.mem_singleton.mpr rfl)
  have ecT : He.cT K ("law", none) = (cc, He.tabOf K cc) := by
    show (He.codeOf K ("law", none), He.tabOf K (He.codeOf K ("law", none))) = _
    rw [ec]
  rw [ecT] at t1 t2 t3
  refine ⟨PySem.W.fnOf "law" "law" (defArgs sLaw) (defBody sLaw) (defScope sLaw) .none kV doc pm an (.ref cc) ct, [(cc, He.tabOf K cc)], spLaw K (He.tabOf K cc), ?_, ?_, ?_, ?_, ?_, ?_⟩
  · intro p hp
    cases List.mem_singleton.mp hp
    exact t3
  · intro p hp
    cases List.mem_singleton.mp hp
    exact t2
  · intro p hp
    cases List.mem_singleton.mp hp
    exact PySem.W.codeHd_of_K X t1
  · intro s u
    exact .of_eq rfl
  · intro H a ns hl hb hH hS
    exact ⟨a, ns, rfl, hS, hH (cc, He.tabOf K cc) (List.mem_singleton.mpr rfl), fun _ => rfl⟩
  · intro base hK hNs hT
    obtain ⟨t⟩ := T rwL.prog base
    exact ok_law t lk hcd (hT (cc, He.tabOf K cc) (List.mem_singleton.mpr rfl))
end LS
open PySem PySem.W PySem.Calls PyProof.Rows
theorem PySem.Challenge.cw_loginstacks_k02_stacks_validated_holds : PySem.Challenge.rw_loginstacks_k02_stacks_validated.Holds := by
  w_on; o_law
  refine HandSHeadRun.head_any (r := OpenLaw.row PySem.Challenge.rw_loginstacks_k02_stacks_validated) (q := view (OpenLaw.row PySem.Challenge.rw_loginstacks_k02_stacks_validated).prog [LS.i_law]) (H := LS.hk) (ob := LS.ob) (M := 5000) (loose := LS.loose) (d := HandSHeadRun.topDef (OpenLaw.row PySem.Challenge.rw_loginstacks_k02_stacks_validated).prog LS.i_law) (kwd := []) LS.ob_eq
    (by kernel_rfl) (fun s => by kernel_rfl) LS.run (by kernel_rfl) (by kernel_rfl) (by kernel_rfl) (by rfl) (by first | assumption | decide +kernel) (by decide +kernel) ⟨rfl, rfl, rfl, rfl, rfl, by decide +kernel⟩ ?hw ?hc
  case hw => w_witness2
  case hc =>
    refine LamX.walk_ofTsE (l := PySem.Challenge.rw_loginstacks_k02_stacks_validated) (n := 63) (k := 14) (x := "_law_script") (CX := fun _ => L2.CX0) rfl (by decide) (by kernel_rfl) ⟨rfl, by decide, by decide⟩ ?F (fun _ _ _ _ _ z => z)
    intro w mg f h Y G hmg0
    obtain ⟨K, KX, c⟩ := Y
    have hmg : mg ("law" : PySem.Str) = some (.ref f) := by
      have e : (HandSHeadRun.topDef (OpenLaw.row PySem.Challenge.rw_loginstacks_k02_stacks_validated).prog LS.i_law).name = ("law" : PySem.Str) := by kernel_rfl
      rw [← e]
      exact hmg0
    exact ⟨K, KX, LS.law_at KX G hmg c⟩
