import PyProof.Rows.All
import Wide.All
import OpenK.AllK
import Wide.FinOn
import HandS.Base
import HandS.Call
import HandS.List
import HandS.Comp
import HandS.Ends
import HandS.Dict
import HandS.Iter
import HandS.Text
import HandS.Words
import HandS.IsInst
import HandS.Walk
import HandS.Lambda
import HandS.Wide
import KE.KIsAll
import KE.KTryMore
import HandS.More
import HandS.Exc
import HandS.ExcInit
import HandS.ClsMeth
import HandS.ExcIs
import HandS.ExcField
import KE.KExcIs
import HandS.FStr
import HandS.TryOnly
import HandS.WordsExc
import HandS.Property
import HandS.OwnEq
import HandS.WordsList
import HandS.Deep
import HandS.Head0
import HandS.Head1
import HandS.Head2
import HandS.HeadEnd
import HandS.HeadHook1
import HandS.HeadHook2
import HandS.HeadHook3
import HandS.HeadHook4
import HandS.HeadWalk
import HandS.HeadNt
import PySem.Challenge.RW_loginstacks_k01_rules_validated
set_option Elab.async false
set_option linter.all false
set_option maxRecDepth 100000
set_option maxHeartbeats 4000000
namespace LS
open PySem L2
abbrev rwL : PySem.W.OpenLaw := PySem.Challenge.rw_loginstacks_k01_rules_validated
def top (i : Nat) : Stmt := PySem.Challenge.pw_loginstacks_k01_rules_validated.main.body.getD i (.Pass ⟨0, 0, 0, 0⟩)
abbrev i_is_number : Nat := 1
abbrev i_StackError : Nat := 3
abbrev i_InvalidRule : Nat := 4
abbrev i_InvalidStack : Nat := 5
abbrev i_UnknownRule : Nat := 6
abbrev i_InvalidPlace : Nat := 7
abbrev i_InvalidAnswers : Nat := 8
abbrev i_TooMany : Nat := 9
abbrev i_UnknownModule : Nat := 10
abbrev i_InvalidMode : Nat := 11
abbrev i_UnknownView : Nat := 12
abbrev i_InvalidWeights : Nat := 13
abbrev i_Rule : Nat := 21
abbrev i_is_word : Nat := 22
abbrev i_is_action : Nat := 23
abbrev i_actions_of : Nat := 24
abbrev i__law_taken : Nat := 26
abbrev i__law_raised : Nat := 27
abbrev i__law_odd : Nat := 28
abbrev i__law_acts : Nat := 29
abbrev i_law : Nat := 30
def loose : List PySem.Str := (["is_number", "StackError", "InvalidRule", "InvalidStack", "UnknownRule", "InvalidPlace", "InvalidAnswers", "TooMany", "UnknownModule", "InvalidMode", "UnknownView", "InvalidWeights", "LETTERS", "LONGEST_WORD", "RESULTS", "ACTIONS", "LONGEST_JUMP", "CONTROLS", "Rule", "is_word"] : List PySem.Str) ++ (["is_action", "actions_of", "_law_taken", "_law_raised", "_law_odd", "_law_acts"] : List PySem.Str)
abbrev n_is_number : List PySem.Str := ["value", "least", "most"]
abbrev n_InvalidRule___init__ : List PySem.Str := ["self", "part"]
abbrev j_InvalidRule___init__ : Nat := 0
abbrev n_InvalidStack___init__ : List PySem.Str := ["self", "index"]
abbrev j_InvalidStack___init__ : Nat := 0
abbrev n_UnknownRule___init__ : List PySem.Str := ["self", "index"]
abbrev j_UnknownRule___init__ : Nat := 0
abbrev n_InvalidAnswers___init__ : List PySem.Str := ["self", "name"]
abbrev j_InvalidAnswers___init__ : Nat := 0
abbrev n_InvalidWeights___init__ : List PySem.Str := ["self", "name"]
abbrev j_InvalidWeights___init__ : Nat := 0
abbrev n_Rule___init__ : List PySem.Str := ["self", "module", "control", "actions"]
abbrev j_Rule___init__ : Nat := 0
abbrev n_Rule_module : List PySem.Str := ["self"]
abbrev j_Rule_module : Nat := 1
abbrev n_Rule_control : List PySem.Str := ["self"]
abbrev j_Rule_control : Nat := 2
abbrev n_Rule_kind : List PySem.Str := ["self", "word"]
abbrev j_Rule_kind : Nat := 3
abbrev n_Rule___eq__ : List PySem.Str := ["self", "other"]
abbrev j_Rule___eq__ : Nat := 4
abbrev n_is_word : List PySem.Str := ["value", "letter"]
abbrev n_is_action : List PySem.Str := ["value"]
abbrev n_actions_of : List PySem.Str := ["control", "action"]
abbrev n__law_taken : List PySem.Str := ["_law_row", "_law_many", "_law_found", "_law_cell"]
abbrev n__law_raised : List PySem.Str := ["_law_work", "e", "_law_kinds", "_law_at"]
abbrev n__law_odd : List PySem.Str := ["_law_row"]
abbrev n__law_acts : List PySem.Str := ["_law_row", "_law_good", "_law_acts_here", "_law_way", "_law_k"]
abbrev n_law : List PySem.Str := ["_law_script", "_law_row", "_law_name", "_law_control", "_law_can", "_law_is_name", "_law_due", "_law_words", "_law_rule", "_law_kinds", "_law_word", "_law_one"]
abbrev sTaken : Stmt := top i__law_taken
end LS
namespace LS
open PySem L2
/-- none, a truth value, an int, a text, a tuple -/
def NoList : PyData → Prop
  | .list _ => False
  | .dict _ => False
  | _ => True
def tyN : PyData → String
  | .none => "NoneType"
  | .bool _ => "bool"
  | .int _ => "int"
  | .str _ => "str"
  | .list _ => "list"
  | .tuple _ => "tuple"
  | .dict _ => "dict"
theorem ty_of {K : PySem.W.Frag} {H : Hp} {v : V} {d : PyData} (h : Dp K H v d) (n : NoList d) : TyX K H v (.type (tyN d)) := by
  cases h with
  | non => exact .base .non
  | bl b => exact .base (.bl b)
  | int i => exact .base (.int i)
  | str x => exact .base (.str x)
  | lst a b => exact n.elim
  | tup a b =>
    rcases a with (q | ⟨o, q⟩) | ⟨o, its, m, hk, hc, _⟩
    · exact .base (.tup q)
    · exact .fTuple q
    · exact .kTuple hk hc
def isStr : PyData → Bool
  | .str _ => true
  | _ => false
def isInt : PyData → Bool
  | .int _ => true
  | .bool _ => true
  | _ => false
def isBool : PyData → Bool
  | .bool _ => true
  | _ => false
def isTup : PyData → Bool
  | .tuple _ => true
  | _ => false
theorem kit_of7 {t : String} {g : PyData → Bool} (h0 : kitB "NoneType" t = some (g .none)) (h1 : ∀ b, kitB "bool" t = some (g (.bool b))) (h2 : ∀ i, kitB "int" t = some (g (.int i))) (h3 : ∀ z, kitB "str" t = some (g (.str z)))
    (h4 : ∀ z, kitB "list" t = some (g (.list z))) (h5 : ∀ z, kitB "tuple" t = some (g (.tuple z))) (h6 : ∀ z, kitB "dict" t = some (g (.dict z))) (d : PyData) : kitB (tyN d) t = some (g d) := by
  cases d with
  | none => exact h0
  | bool b => exact h1 b
  | int i => exact h2 i
  | str z => exact h3 z
  | list z => exact h4 z
  | tuple z => exact h5 z
  | dict z => exact h6 z
theorem kit_str (d : PyData) : kitB (tyN d) "str" = some (isStr d) := kit_of7 (by decide +kernel) (fun _ => (by decide +kernel : kitB "bool" "str" = some false)) (fun _ => (by decide +kernel : kitB "int" "str" = some false)) (fun _ => (by decide +kernel : kitB "str" "str" = some true))
  (fun _ => (by decide +kernel : kitB "list" "str" = some false)) (fun _ => (by decide +kernel : kitB "tuple" "str" = some false)) (fun _ => (by decide +kernel : kitB "dict" "str" = some false)) d
theorem kit_int (d : PyData) : kitB (tyN d) "int" = some (isInt d) := kit_of7 (by decide +kernel) (fun _ => (by decide +kernel : kitB "bool" "int" = some true)) (fun _ => (by decide +kernel : kitB "int" "int" = some true)) (fun _ => (by decide +kernel : kitB "str" "int" = some false))
  (fun _ => (by decide +kernel : kitB "list" "int" = some false)) (fun _ => (by decide +kernel : kitB "tuple" "int" = some false)) (fun _ => (by decide +kernel : kitB "dict" "int" = some false)) d
theorem kit_bool (d : PyData) : kitB (tyN d) "bool" = some (isBool d) := kit_of7 (by decide +kernel) (fun _ => (by decide +kernel : kitB "bool" "bool" = some true)) (fun _ => (by decide +kernel : kitB "int" "bool" = some false)) (fun _ => (by decide +kernel : kitB "str" "bool" = some false))
  (fun _ => (by decide +kernel : kitB "list" "bool" = some false)) (fun _ => (by decide +kernel : kitB "tuple" "bool" = some false)) (fun _ => (by decide +kernel : kitB "dict" "bool" = some false)) d
theorem kit_tup (d : PyData) : kitB (tyN d) "tuple" = some (isTup d) := kit_of7 (by decide +kernel) (fun _ => (by decide +kernel : kitB "bool" "tuple" = some false)) (fun _ => (by decide +kernel : kitB "int" "tuple" = some false)) (fun _ => (by decide +kernel : kitB "str" "tuple" = some false))
  (fun _ => (by decide +kernel : kitB "list" "tuple" = some false)) (fun _ => (by decide +kernel : kitB "tuple" "tuple" = some true)) (fun _ => (by decide +kernel : kitB "dict" "tuple" = some false)) d
/-- all but p stands -/
def SameBut (p : Addr) (H H' : Hp) : Prop := ∀ b o, b ≠ p → H b = some o → H' b = some o
mutual
/-- no list, no dict at any depth -/
def noLs : PyData → Bool
  | .list _ => false
  | .dict _ => false
  | .tuple ds => noLss ds
  | _ => true
def noLss : List PyData → Bool
  | [] => true
  | d :: ds => noLs d && noLss ds
end
theorem noList_of {d : PyData} (h : noLs d = true) : NoList d := by
  cases d with
  | list _ => cases h
  | dict _ => cases h
  | _ => exact True.intro
theorem pss_false {X : Cx} {l : List Stmt} : PSs X l (fun _ _ _ => False) := ⟨fun _ _ _ _ _ _ h => h.elim⟩
theorem same_upd {H H1 : Hp} {D : Addr} {o : HO} (hD : H D = none) (S : Same H H1) : Same H (upd H1 D o) := fun b u e => by
  rw [upd_ne (ne_of_none e hD)]
  exact S b u e
end LS
namespace LS
open PySem L2
/-- a drawing row: the script, how far, two numbers -/
def RowIs (H : Hp) (r sc : Addr) : Prop := ∃ i s b : Int, 0 ≤ i ∧ H r = some (.lst [.ref sc, .int i, .int s, .int b])
/-- a drawn number: some k below many; the row is another one, all else stands -/
def spTaken (K : PySem.W.Frag) : Sp := fun vs H Q _ => ∃ (r sc : Addr) (ns : List Int) (many : Int), vs = [.ref r, .int many] ∧ 0 < many ∧ many < 9223372036854775808 ∧ SqL K H sc (ns.map V.int) ∧ RowIs H r sc ∧
  ∀ (k : Int) (H' : Hp), 0 ≤ k → k < many → RowIs H' r sc → (∀ q, q ≠ r → H' q = H q) → Q (.int k) H'
theorem seq_but {K : PySem.W.Frag} {H H' : Hp} {r sc : Addr} {ns : List Int} (hs : SqL K H sc (ns.map V.int)) (hr : RowIs H r sc) (e : ∀ q, q ≠ r → H' q = H q) : SqL K H' sc (ns.map V.int) := by
  obtain ⟨i, s, b, _, hr⟩ := hr
  by_cases h : sc = r
  · subst h
    rcases hs with (q | ⟨o, q⟩) | q
    · rw [hr] at q
      cases ns with
      | nil => simp at q
      | cons n ns => simp at q
    · rw [hr] at q
      cases q
    · exact .inr q
  · rcases hs with (q | ⟨o, q⟩) | q
    · exact .inl (.inl (by rw [e _ h]; exact q))
    · exact .inl (.inr ⟨o, by rw [e _ h]; exact q⟩)
    · exact .inr q
/-- the drawing row at r, the script at sc -/
def Drw (K : PySem.W.Frag) (H : Hp) (r sc : Addr) (ns : List Int) : Prop := SqL K H sc (ns.map V.int) ∧ RowIs H r sc
theorem row_tup {K : PySem.W.Frag} {H H' : Hp} {r sc a : Addr} {xs : List V} (hr : RowIs H r sc) (e : SameBut r H H') (h : SqT K H a xs) : SqT K H' a xs := by
  obtain ⟨i, s, b, _, hr⟩ := hr
  have ne : ∀ {o : HO}, H a = some o → (∀ l, o ≠ .lst l) → a ≠ r := fun {o} q n z => by
    rw [z, hr] at q
    exact n _ (Option.some.inj q).symm
  rcases h with (h | ⟨o, h⟩) | h
  · exact .inl (.inl (e _ _ (ne h fun _ z => nomatch z) h))
  · exact .inl (.inr ⟨o, e _ _ (ne h fun _ z => nomatch z) h⟩)
  · exact .inr h
mutual
theorem row_dp {K : PySem.W.Frag} {H H' : Hp} {r sc : Addr} (hr : RowIs H r sc) (e : SameBut r H H') : ∀ (d : PyData) (v : V), noLs d = true → Dp K H v d → Dp K H' v d
  | .none, _, _, h => by cases h; exact .non
  | .bool _, _, _, h => by cases h; exact .bl _
  | .int _, _, _, h => by cases h; exact .int _
  | .str _, _, _, h => by cases h; exact .str _
  | .list ds, _, n, h => nomatch n
  | .tuple ds, _, n, h => by
    cases h with
    | tup hs ha => exact .tup (row_tup hr e hs) (row_dps hr e ds _ n ha)
  | .dict _, _, n, h => nomatch n
theorem row_dps {K : PySem.W.Frag} {H H' : Hp} {r sc : Addr} (hr : RowIs H r sc) (e : SameBut r H H') : ∀ (ds : List PyData) (vs : List V), noLss ds = true → DpAll K H vs ds → DpAll K H' vs ds
  | [], _, _, h => by cases h; exact .nil
  | d :: ds, _, n, h => by
    cases h with
    | cons h1 h2 =>
      obtain ⟨n1, n2⟩ := Bool.and_eq_true_iff.mp (show (noLs d && noLss ds) = true from n)
      exact .cons (row_dp hr e d _ n1 h1) (row_dps hr e ds _ n2 h2)
end
theorem row_ne {H : Hp} {r sc q : Addr} {o : HO} (hr : RowIs H r sc) (hq : H q = some o) (n : ∀ a, o ≠ .lst (.ref sc :: a)) : q ≠ r := fun z => by
  obtain ⟨i, s, b, _, hr⟩ := hr
  rw [z, hr] at hq
  exact n _ (Option.some.inj hq).symm
theorem row_new {H : Hp} {r sc q : Addr} {o : HO} (hr : RowIs H r sc) (hq : H q = none) : RowIs (upd H q o) r sc := by
  obtain ⟨i, s, b, h0, hr⟩ := hr
  exact ⟨i, s, b, h0, by rw [upd_ne (ne_of_none hr hq)]; exact hr⟩
theorem seq_new {K : PySem.W.Frag} {H : Hp} {sc q : Addr} {xs : List V} {o : HO} (hs : SqL K H sc xs) (hq : H q = none) : SqL K (upd H q o) sc xs := (same_upd hq (Same.refl H)).seq hs
theorem seq_row {K : PySem.W.Frag} {H H' : Hp} {r sc : Addr} {ns : List Int} (hs : SqL K H sc (ns.map V.int)) (hr : RowIs H r sc) (e : SameBut r H H') : SqL K H' sc (ns.map V.int) := by
  obtain ⟨i, s, b, _, hr⟩ := hr
  have ne : ∀ {o : HO}, H sc = some o → (∀ l, o ≠ .lst (.ref sc :: l)) → sc ≠ r := fun {o} q n z => by
    have q2 := q
    rw [z, hr] at q2
    exact n _ (Option.some.inj q2).symm
  rcases hs with (q | ⟨o, q⟩) | q
  · refine .inl (.inl (e _ _ (ne q fun l z => ?_) q))
    cases ns with
    | nil => simp at z
    | cons n ns => simp at z
  · exact .inl (.inr ⟨o, e _ _ (ne q fun l z => nomatch z) q⟩)
  · exact .inr q
theorem but_of {r : Addr} {H H' : Hp} (e : ∀ q, q ≠ r → H' q = H q) : SameBut r H H' := fun b o hb q => (e b hb).trans q
theorem SameBut.trans {r : Addr} {H H1 H2 : Hp} (a : SameBut r H H1) (b : SameBut r H1 H2) : SameBut r H H2 := fun c o h q => b c o h (a c o h q)
theorem SameBut.of {r : Addr} {H H1 : Hp} (a : Same H H1) : SameBut r H H1 := fun c o _ q => a c o q
theorem SameBut.new {r p : Addr} {H H1 : Hp} {o : HO} (a : SameBut r H H1) (n : H p = none) : SameBut r H (upd H1 p o) := fun c u h q => by
  rw [upd_ne (ne_of_none q n)]
  exact a c u h q
theorem row_same {H H' : Hp} {r sc : Addr} (h : RowIs H r sc) (e : Same H H') : RowIs H' r sc := by
  obtain ⟨i, s, b, h0, h⟩ := h
  exact ⟨i, s, b, h0, e _ _ h⟩
theorem Drw.same {K : PySem.W.Frag} {H H' : Hp} {r sc : Addr} {ns : List Int} (h : Drw K H r sc ns) (e : Same H H') : Drw K H' r sc ns := ⟨e.seq h.1, row_same h.2 e⟩
/-- a new list is not the script -/
def Far (K : PySem.W.Frag) (l sc : Addr) (xs : List V) : Prop := l ≠ sc ∨ ∀ H, SqL K H sc xs
theorem far_of {K : PySem.W.Frag} {H : Hp} {l sc : Addr} {xs : List V} (h : SqL K H sc xs) (n : H l = none) : Far K l sc xs := by
  rcases h with (h | ⟨o, h⟩) | h
  · exact .inl fun e => by rw [e, h] at n; cases n
  · exact .inl fun e => by rw [e, h] at n; cases n
  · exact .inr fun _ => .inr h
theorem far_upd {K : PySem.W.Frag} {H : Hp} {l sc : Addr} {xs : List V} {o : HO} (F : Far K l sc xs) (h : SqL K H sc xs) : SqL K (upd H l o) sc xs := by
  rcases F with ne | F
  · rcases h with (h | ⟨z, h⟩) | h
    · exact .inl (.inl (by rw [upd_ne (Ne.symm ne)]; exact h))
    · exact .inl (.inr ⟨z, by rw [upd_ne (Ne.symm ne)]; exact h⟩)
    · exact .inr h
  · exact F _
theorem ext_tup {K : PySem.W.Frag} {H H' : Hp} {a : Addr} {xs : List V} (e : LamX.ExtN H H') (h : SqT K H a xs) : SqT K H' a xs := by
  rcases h with (h | ⟨o, h⟩) | h
  · exact .inl (.inl (e _ _ h fun _ z => nomatch z))
  · exact .inl (.inr ⟨o, e _ _ h fun _ z => nomatch z⟩)
  · exact .inr h
theorem ext_lst {K : PySem.W.Frag} {H H' : Hp} {a : Addr} {xs : List V} (e : LamX.ExtN H H') (h : SqL K H a xs) : SqL K H' a xs := by
  rcases h with (h | ⟨o, h⟩) | h
  · exact .inl (.inl (e _ _ h fun _ z => nomatch z))
  · exact .inl (.inr ⟨o, e _ _ h fun _ z => nomatch z⟩)
  · exact .inr h
mutual
theorem ext_dp {K : PySem.W.Frag} {H H' : Hp} (e : LamX.ExtN H H') : ∀ (d : PyData) (v : V), Dp K H v d → Dp K H' v d
  | .none, _, h => by cases h; exact .non
  | .bool _, _, h => by cases h; exact .bl _
  | .int _, _, h => by cases h; exact .int _
  | .str _, _, h => by cases h; exact .str _
  | .list ds, _, h => by
    cases h with
    | lst hs ha => exact .lst (ext_lst e hs) (ext_dps e ds _ ha)
  | .tuple ds, _, h => by
    cases h with
    | tup hs ha => exact .tup (ext_tup e hs) (ext_dps e ds _ ha)
  | .dict _, _, h => by cases h
theorem ext_dps {K : PySem.W.Frag} {H H' : Hp} (e : LamX.ExtN H H') : ∀ (ds : List PyData) (vs : List V), DpAll K H vs ds → DpAll K H' vs ds
  | [], _, h => by cases h; exact .nil
  | d :: ds, _, h => by
    cases h with
    | cons h1 h2 => exact .cons (ext_dp e d _ h1) (ext_dps e ds _ h2)
end
/-- tables of code stay when the row changes -/
theorem tabs_row {T : List (Addr × Str)} {H H' : Hp} {r sc : Addr} (t : LamX.Tabs T H) (R : RowIs H r sc) (B : ∀ q, q ≠ r → H' q = H q) : LamX.Tabs T H' := fun p hp => by
  obtain ⟨ps, h1, h2, h3⟩ := t p hp
  refine ⟨ps, by rw [B _ (row_ne R h1 fun _ z => nomatch z)]; exact h1, h2, fun pos cv hc => ?_⟩
  obtain ⟨c, e1, e2⟩ := h3 pos cv hc
  exact ⟨c, e1, by rw [B _ (row_ne R e2 fun _ z => nomatch z)]; exact e2⟩
end LS
namespace LS
open PySem L2
section
variable {P : Program} {w : World} {K : PySem.W.Frag} {mg : Str → Option Value} {base : Heap}
theorem scTaken : FnScope ["_law_row", "_law_many", "_law_found", "_law_cell"] ["_law_row", "_law_many"] (defScope sTaken) := ⟨rfl, rfl, rfl, by decide +kernel, rfl, by decide +kernel, by decide +kernel⟩
theorem ok_taken {f : Addr} {fd : FuncData} (F : Fun K "_law_taken" "_law_taken" sTaken f fd) (mL : mg "len" = none) (mI : mg "int" = none) : FnOk P w K mg base CX0 1 f fd ["_law_row", "_law_many"] (spTaken K) := by
  refine F.ok scTaken (fun vs H Q E h => ?_) (fun cdv A outer s H vs Q E hr h => ?_)
  · obtain ⟨r, sc, ns, many, rfl, _⟩ := h
    rfl
  · obtain ⟨r, sc, ns, many, rfl, hm0, hm1, hS, ⟨i, z, b, hi, hR⟩, k⟩ := h
    have hmw : ∀ i : Int, CDivW i many := fun i => wide_div hm0 (b := 63) (by omega) (by decide) (by decide)
    refine ⟨_, pss_cons (ps_if (pt_cmpR op_gt (pe_ix ix_list (pv 0) pe_int (fun _ _ => rfl)) pe_int (nomark _))
        (pss_cons (ps_set (i := 2) scTaken.nd rfl (.inl rfl) (pe_op op_mod (pe_callTy call_int1 (by rfl) mI (by decide +kernel) (pa_cons (pe_ix ix_list (pv 0) pe_int (fun _ _ => rfl)) pa_nil)) (pv 1)))
          (pss_cons (ps_asg (pe_op op_fdivW (pe_ix ix_list (pv 0) pe_int (fun _ _ => rfl)) (pv 1)) (pg_sub (pv 0) pe_int set_list))
          (pss_one (ps_ret (pv 2))))) pss_nil)
      (pss_cons (ps_asg (pe_op op_add (pe_ix ix_list (pv 0) pe_int (fun _ _ => rfl)) pe_int) (pg_sub (pv 0) pe_int set_list))
      (pss_cons (ps_if (pt_cmpR op_gt (pe_ix ix_list (pv 0) pe_int (fun _ _ => rfl)) (pe_callB call_len_seq (by rfl) mL PySem.boot_len (pa_cons (pe_ix ix_list (pv 0) pe_int (fun _ _ => rfl)) pa_nil)) (nomark _))
        (pss_cons (ps_asg (pe_op op_mod (pe_callTy call_int1 (by rfl) mI (by decide +kernel) (pa_cons (pe_op op_add (pe_op op_mul (pe_ix ix_list (pv 0) pe_int (fun _ _ => rfl)) pe_int) pe_int) pa_nil)) pe_int) (pg_sub (pv 0) pe_int set_list))
          (pss_one (ps_ret (pe_op op_mod (pe_callTy call_int1 (by rfl) mI (by decide +kernel) (pa_cons (pe_op op_fdiv (pe_ix ix_list (pv 0) pe_int (fun _ _ => rfl)) pe_int) pa_nil)) (pv 1))))) pss_nil)
      (pss_cons (ps_set (i := 3) scTaken.nd rfl (.inl rfl) (pe_ix ix_list (pe_ix ix_list (pv 0) pe_int (fun _ _ => rfl)) (pe_op op_sub (pe_ix ix_list (pv 0) pe_int (fun _ _ => rfl)) pe_int) (fun _ _ => rfl)))
      (pss_cons (ps_asg (pe_op op_mod (pe_callTy call_int1 (by rfl) mI (by decide +kernel) (pa_cons (pe_op op_add (pe_op op_add (pe_op op_mul (pe_ix ix_list (pv 0) pe_int (fun _ _ => rfl)) pe_int) (pv 3)) pe_int) pa_nil)) pe_int) (pg_sub (pv 0) pe_int set_list))
      (pss_cons (ps_asg (pe_ifExp (pt_cmpR op_ge (pv 3) (pe_op op_pow pe_int pe_int) (nomark _)) (pe_op op_fdivW (pv 3) (pv 1)) pe_int) (pg_sub (pv 0) pe_int set_list))
      (pss_one (ps_ret (pe_op op_mod (pe_callTy call_int1 (by rfl) mI (by decide +kernel) (pa_cons (pv 3) pa_nil)) (pv 1))))))))), ?_⟩
    have x0 : atI [V.ref sc, .int i, .int z, .int b] 3 = some (.int b) := rfl
    refine ⟨_, rfl, r, _, _, _, rfl, rfl, SqL.of hR, x0, _, _, rfl, rfl, _, rfl, ?_⟩
    refine ite2 (fun hb => ?_) (fun hb => ?_)
    · have y1 : atI [V.ref sc, .int i, .int z, .int (b / many)] 3 = some (.int (b / many)) := rfl
      refine ⟨_, rfl, r, _, _, _, rfl, rfl, SqL.of hR, x0, .inl ⟨_, rfl, _, rfl, _, _, rfl, rfl, hm0, ?_⟩⟩
      refine ⟨_, rfl, r, _, _, _, rfl, rfl, SqL.of hR, x0, _, rfl, _, _, rfl, rfl, hmw _, _, rfl, r, _, _, 3, rfl, rfl, hR, rfl, ?_⟩
      refine ⟨_, rfl, ?_⟩
      exact k _ _ (Int.emod_nonneg _ (by omega)) (Int.emod_lt_of_pos _ hm0) ⟨i, z, b / many, hi, upd_same⟩ fun q hq => upd_ne hq
    · refine ⟨_, rfl, r, _, _, _, rfl, rfl, SqL.of hR, (show atI _ 1 = some (.int i) from rfl), _, _, rfl, rfl, _, rfl, r, _, _, 1, rfl, rfl, hR, rfl, ?_⟩
      show tSeq _ _ _ _ (upd H r (.lst [.ref sc, .int (i + 1), .int z, .int b]))
      have hR1 : upd H r (.lst [.ref sc, .int (i + 1), .int z, .int b]) r = some (.lst [.ref sc, .int (i + 1), .int z, .int b]) := upd_same
      have e1 : ∀ q, q ≠ r → upd H r (.lst [.ref sc, .int (i + 1), .int z, .int b]) q = H q := fun q hq => upd_ne hq
      have hS1 : SqL K (upd H r (.lst [.ref sc, .int (i + 1), .int z, .int b])) sc (ns.map V.int) := seq_but hS ⟨i, z, b, hi, hR⟩ e1
      generalize upd H r (.lst [.ref sc, .int (i + 1), .int z, .int b]) = H1 at *
      refine ⟨_, rfl, r, _, _, _, rfl, rfl, SqL.of hR1, (show atI _ 1 = some (.int (i + 1)) from rfl), _, rfl, r, _, _, _, rfl, rfl, SqL.of hR1, (show atI _ 0 = some (.ref sc) from rfl), sc, _, rfl, .inl hS1, _, _, rfl, rfl, _, rfl, ?_⟩
      refine ite2 (fun hl => ?_) (fun hl => ?_)
      · refine ⟨_, rfl, r, _, _, _, rfl, rfl, SqL.of hR1, (show atI _ 2 = some (.int z) from rfl), _, _, rfl, rfl, .inr ⟨by decide, by decide⟩, _, _, rfl, rfl, .inl ⟨_, rfl, _, _, rfl, rfl, (by show (0 : Int) < 2147483647; decide), _, rfl, r, _, _, 2, rfl, rfl, hR1, rfl, ?_⟩⟩
        refine ⟨_, rfl, r, _, _, _, rfl, rfl, SqL.of upd_same, rfl, _, _, rfl, rfl, ⟨by decide, by decide⟩, .inl ⟨_, rfl, _, rfl, _, _, rfl, rfl, hm0, ?_⟩⟩
        exact k _ _ (Int.emod_nonneg _ (by omega)) (Int.emod_lt_of_pos _ hm0) ⟨i + 1, _, b, by omega, upd_same⟩ fun q hq => (upd_ne hq).trans (e1 q hq)
      · have hl' : (i + 1 : Int) ≤ (ns.length : Int) := by
          have := of_decide_eq_false (Bool.eq_false_iff.mpr hl)
          rw [List.length_map] at this
          omega
        obtain ⟨c, hc⟩ : ∃ c, ns[i.toNat]? = some c := ⟨_, List.getElem?_eq_getElem (by omega)⟩
        have ha : atI (ns.map V.int) (i + 1 - 1) = some (.int c) := by
          rw [show (i + 1 - 1 : Int) = ((i.toNat : Nat) : Int) by omega]
          refine atI_nat ?_
          rw [List.getElem?_map, hc]
          rfl
        refine ⟨_, rfl, r, _, _, _, rfl, rfl, SqL.of hR1, (show atI _ 0 = some (.ref sc) from rfl), _, rfl, r, _, _, _, rfl, rfl, SqL.of hR1, (show atI _ 1 = some (.int (i + 1)) from rfl), _, _, rfl, rfl, sc, _, _, _, rfl, rfl, hS1, ha, ?_⟩
        refine ⟨_, rfl, r, _, _, _, rfl, rfl, SqL.of hR1, (show atI _ 2 = some (.int z) from rfl), _, _, rfl, rfl, .inr ⟨by decide, by decide⟩, _, rfl, _, _, rfl, rfl, _, _, rfl, rfl, .inl ⟨_, rfl, _, _, rfl, rfl, (by show (0 : Int) < 2147483647; decide), _, rfl, r, _, _, 2, rfl, rfl, hR1, rfl, ?_⟩⟩
        show tSeq _ _ _ _ (upd H1 r (.lst [.ref sc, .int (i + 1), .int _, .int b]))
        refine ⟨_, rfl, _, _, rfl, rfl, ⟨by decide, by decide, by decide⟩, _, _, rfl, rfl, _, rfl, ?_⟩
        refine ite2 (fun hc => ?_) (fun hc => ?_)
        · refine ⟨_, rfl, _, rfl, _, _, rfl, rfl, hmw _, _, rfl, r, _, _, 3, rfl, rfl, upd_same, rfl, ?_⟩
          refine ⟨_, rfl, .inl ⟨_, rfl, _, rfl, _, _, rfl, rfl, hm0, ?_⟩⟩
          exact k _ _ (Int.emod_nonneg _ (by omega)) (Int.emod_lt_of_pos _ hm0) ⟨i + 1, _, _, by omega, upd_same⟩ fun q hq => ((upd_ne hq).trans (upd_ne hq)).trans (e1 q hq)
        · refine ⟨_, rfl, r, _, _, 3, rfl, rfl, upd_same, rfl, ?_⟩
          refine ⟨_, rfl, .inl ⟨_, rfl, _, rfl, _, _, rfl, rfl, hm0, ?_⟩⟩
          exact k _ _ (Int.emod_nonneg _ (by omega)) (Int.emod_lt_of_pos _ hm0) ⟨i + 1, _, _, by omega, upd_same⟩ fun q hq => ((upd_ne hq).trans (upd_ne hq)).trans (e1 q hq)
end
end LS
namespace LS
open PySem L2 PySem.Spec PyProof.Rows
/-! ### x in a tuple of data -/
def rInT (K : PySem.W.Frag) : R2 := fun x y H Q => ∃ d ds, Dp K H x d ∧ Dp K H y (.tuple ds) ∧ SeqAt.shaped d = true ∧ SeqAt.shaped (.tuple ds) = true ∧ Q (.bl (ds.any fun z => PyData.eqv z d)) H
theorem canLay_tup {ds : List PyData} (h : SeqAt.shaped (.tuple ds) = true) : PyData.canLayAll0 ds = true := SeqAt.canLay_of_shaped h
theorem room_tup {X : Cx} {d : PyData} {n : Nat} (sd : SeqAt.shaped d = true) (hu : X.A.units + 65 < cLine) : X.A.units + 1 + min n d.depth < cLine := by
  have h : d.depth ≤ 64 := by
    unfold SeqAt.shaped at sd
    rw [Bool.and_eq_true] at sd
    exact of_decide_eq_true sd.2
  have h2 : min n d.depth ≤ d.depth := Nat.min_le_right _ _
  omega
theorem op_inT {X : Cx} (hu : X.A.units + 65 < cLine) : OpR X (compareOp .In) (rInT X.K) := by
  intro pins s σ H x y v u Q I rx ry h
  obtain ⟨d, ds, hd, he, sd, se, q⟩ := h
  obtain ⟨as, r1⟩ := Dp.reads I d x v hd rx
  obtain ⟨bs, r2⟩ := Dp.reads I (.tuple ds) y u he ry
  exact SeqAt.in_tuple_reads r2 r1 (canLay_tup se) (SeqAt.canLay_of_shaped sd) (room_tup sd hu) ⟨.bl _, H, I, rfl, q⟩
/-! ### D.get(s), D a dict of the module with text keys -/
def KGet (K : PySem.W.Frag) (w : World) (a : Addr) (z : Str) (v : V) : Prop :=
  ∃ es n r, K.lookup a = some ⟨.type "dict", none, .dict es n, #[]⟩ ∧ PySem.W.KeysLit w.params es.toList ∧ (a == sysModules) = false ∧ PySem.W.nsIn K a z = some r ∧ (∀ u, r = some u → RelV v u) ∧ (r = none → v = .non)
def KIsD (K : PySem.W.Frag) (w : World) (a : Addr) : Prop := ∃ es n, K.lookup a = some ⟨.type "dict", none, .dict es n, #[]⟩ ∧ PySem.W.KeysLit w.params es.toList
def tKGet (K : PySem.W.Frag) (w : World) (td ty : TE) : TE := fun σ H Q => td σ H fun x H1 => ∃ a, x = .ref a ∧ KIsD K w a ∧ ty σ H1 fun y H2 => ∃ z v, y = .str z ∧ KGet K w a z v ∧ Q v H2
theorem pe_kdget {X : Cx} {o e : Expr} {apos cpos : Pos} {td ty : TE} (ho : PE X o td) (he : PE X e ty) (m : M1 X o "get" apos e cpos) : PE X (.Call (.Attribute o "get" apos) [e] [] cpos) (tKGet X.K X.w td ty) := by
  refine ⟨fun pins s σ H Q I h => ?_⟩
  refine wpAny_Call_method m.base m.few m.line PySem.F.plainAttrs_dict PySem.F.slot_dict_get PySem.F.type_dict_get (thn (ho.run pins s σ H _ I h) fun u s1 ⟨x, H1, I1, rx, a, ex, ⟨es, n, hl, hk⟩, q1⟩ => ?_)
  subst ex
  obtain rfl : u = Value.ref a := rx
  have hm := PySem.W.mapOf_K (prog := X.prog) (w := X.w) I1.kIn hl hk
  refine ⟨hm.typeIs, fun b q => ?_, ?_⟩
  · cases q
    exact ⟨_, I1.kIn _ _ hl, rfl⟩
  rw [m.trees]
  refine Calls.callWith_builtin rfl (Calls.evalArgs_plain (Calls.spliced_cons (thn (he.run pins s1 σ H1 _ I1 q1) fun iv s2 ⟨y, H2, I2, ry, z, v, ey, ⟨es', n', r, hl', hk', hsm, hns, h1, h2⟩, q2⟩ => Calls.spliced_nil ?_)))
  subst ey
  obtain ⟨t, rfl⟩ := ry
  have hm' := PySem.W.mapOf_K (prog := X.prog) (w := X.w) I2.kIn hl' hk'
  refine call_meetsIn PySem.F.slot_dict_get hm'.typeIs PySem.F.entry_dict_get (PySem.F.args_dict_get_2 _ _) (meets_dict_get (strKind X.prog X.w) a (strKind_is X.prog X.w z t) hsm) ⟨_, hm', ?_⟩
  have e := PySem.W.find_K hl' hns
  rw [e]
  cases r with
  | none =>
    have hv : v = V.non := h2 rfl
    subst hv
    exact ⟨.non, H2, I2.tok _, rfl, q2⟩
  | some u => exact ⟨v, H2, I2.tok _, h1 u rfl, q2⟩
/-! ### for x in D, D a dict of the module with text keys -/
def Itkk (zs : List Str) : It := ⟨fun i _ => i < zs.length, fun i H x H' => H' = H ∧ ∃ z, zs[i]? = some z ∧ x = .str z, fun i _ => zs.length ≤ i⟩
def KKeys (K : PySem.W.Frag) (d : Addr) (zs : List Str) : Prop :=
  ∃ es n, K.lookup d = some ⟨.type "dict", none, .dict es n, #[]⟩ ∧ (d == sysModules) = false ∧ es.size = zs.length ∧ ∀ (i : Nat) (z : Str), zs[i]? = some z → ∃ (en : DictEntry) (t : Tok), es[i]? = some en ∧ en.key = .str z t
section
variable {P : Program} {w : World} {K : PySem.W.Frag} {tg : Expr} {d : Addr} {es : Array DictEntry} {n : Nat} {zs : List Str}
theorem turn_kkeys (it : Addr) (hl : K.lookup d = some ⟨.type "dict", none, .dict es n, #[]⟩) (hsz : es.size = zs.length) (hz : ∀ (i : Nat) (z : Str), zs[i]? = some z → ∃ (en : DictEntry) (t : Tok), es[i]? = some en ∧ en.key = .str z t) :
    Turn P w K tg (Itkk zs) [it] it (fun i h => h.IsKeyIter it d i zs.length n) where
  mem := by simp
  obj := fun i h st b hb => by
    have e : b = it := by simpa using hb
    subst e
    obtain ⟨oi, e, c, dd⟩ := st
    exact ⟨oi, e, fun v z => by rw [dd] at z; cases z⟩
  keep := fun i h h' st k => st.at fun oi e => k it (by simp) oi e
  item := by
    intro X hP hw hK hc i pins s σ H E I hf st hg
    subst hP hw hK
    have hi : i < zs.length := hg
    obtain ⟨f0, f1, f2, f3, f4, f5⟩ := hf it (by simp)
    have hgd := I.kIn d _ hl
    have hkv : zs[i]? = some zs[i] := List.getElem?_eq_getElem hi
    obtain ⟨en, t, hen, hkey⟩ := hz i _ hkv
    refine next_key_item st hgd rfl hsz hen fun h' st' sb => ?_
    have I1 : Inv X pins σ H { s with heap := h' } := I.turned (t' := s.toks) (fun b ob hb e => (sb.2 b hb).trans e) f0 f1 f3 f4 f5
    obtain ⟨oi, e, c, dd⟩ := id st'
    exact ⟨en.key, rfl, go_of (s := { s with heap := h' }) e c dd (by decide) ⟨.str zs[i], H, I1, ⟨t, hkey⟩, ⟨rfl, zs[i], hkv, rfl⟩, st', fun b hb => (hf b hb).1⟩⟩
  done := by
    intro X hP hw hK hc i pins s σ H E I hf st hg
    subst hP hw hK
    have hi : zs.length ≤ i := hg
    obtain ⟨f0, f1, f2, f3, f4, f5⟩ := hf it (by simp)
    have hgd := I.kIn d _ hl
    exact next_key_end (I.ok.hd hc) st hgd rfl hsz hi fun h' eb => ⟨rfl, I.turned (t' := s.toks) (fun b ob hb e => eb b ob hb e) f0 f1 f3 f4 f5⟩
  self := fun A i s Q E st h => by
    refine wpAny_pyIter_slot st.typeIs F.slot_dict_keyiterator_iter (wpAny_call_entry F.slot_dict_keyiterator_iter st.typeIs F.entry_dict_keyiterator_iter ?_ (F.args_dict_keyiterator_iter_1 _))
    show wpAny _ _ (ret (.ref it)) _ _ s
    exact wpAny_pure ⟨_, rfl, "dict_keyiterator", _, st.typeIs, F.slot_dict_keyiterator_next.lookup, h⟩
end
def iKK (K : PySem.W.Frag) (te : TE) : TI := fun σ H R => te σ H fun x H1 => ∃ d zs, x = .ref d ∧ KKeys K d zs ∧ R (Itkk zs) H1
theorem pi_kkeys {X : Cx} {tg e : Expr} {te : TE} (he : PE X e te) : PI X tg e (iKK X.K te) := by
  refine ⟨fun pins s σ H R I h => ?_⟩
  refine thn (he.run pins s σ H _ I h) fun u s1 ⟨x, H1, I1, rx, d, zs, ex, ⟨es, n, hl, hs, hsz, hz⟩, q⟩ => ?_
  subst ex
  obtain rfl : u = Value.ref d := rx
  refine iter_keys hs (I1.kIn d _ hl) ⟨rfl, rfl, rfl⟩ rfl (pi_one (tk := s1.toks) I1 _ (turn_kkeys _ hl hsz hz) ⟨_, Heap.get?_push_size _ rfl, rfl, ?_⟩ q)
  rw [hsz] <;> rfl
theorem walk_kk {zs : List Str} : Walk (Itkk zs) zs.length (fun _ => True) (fun i H x H' => H' = H ∧ ∃ z, zs[i]? = some z ∧ x = .str z) :=
  ⟨fun _ _ hi _ => hi, fun _ _ => Nat.le_refl _, fun _ _ _ _ _ _ y => y⟩
/-! ### B.__init__(self, ..), B an own exception class that inherits it -/
theorem pe_seinit {X : Cx} {x : Str} {C0 : Addr} {mc : Value} {e : Expr} {es : List Expr} {ta : TA} {p1 p2 pos : Pos} {pl : Sem Bool} (hg : Gl X x) (hm : X.mg x = some (.ref C0)) (r : ClX.CRead X.K C0 mc)
    (vV : PySem.W.findCls X.K (.ref C0) mc "__init__" = some (.val (.builtin "ValueError.__init__"))) (ha : PA X (e :: es) ta) (hdb : (x == ("__debug__" : Str)) = false := by decide)
    (hc : eval (.Call (.Attribute (.Name x p1) "__init__" p2) (e :: es) [] pos) X.env = (do
      let ov ← eval (.Name x p1) X.env
      standAt p2.atName
      let (f, first) ← holding [ov] (getMethod ov "__init__" pl)
      callWith pos f first (backTo pos (starEach (e :: es) X.env)) (backToKw pos (keywordEach [] X.env))) := by rfl)
    (he : starEach (e :: es) X.env = (false, eval e X.env) :: starEach es X.env := by rfl) (hpl : (backTo pos (starEach es X.env)).any (·.1) = false := by rfl) :
    PE X (.Call (.Attribute (.Name x p1) "__init__" p2) (e :: es) [] pos) (tVeI X.K ta) := by
  refine ⟨fun pins s σ H Q I h => ?_⟩
  refine PySem.W.methodCall_KW (ld_glob I hg hm ?_ hdb) hc
  refine PySem.W.method_cls I.kIn r.ga ?_
  refine PySem.W.cls_value I.kIn r.rd vV (by rfl) ?_
  show wpAny _ _ (callWith pos (Value.builtin "ValueError.__init__") [] (backTo pos (starEach (e :: es) X.env)) []) _ _ _
  refine PyProof.Rows.callWith_method1 (thn (ha.run pos pins _ σ H _ (I.tok _) h) fun us s1 ⟨vs, H1, I1, r1, a, C, ws, ev, hl, T, ea, q⟩ => ?_) he hpl
  subst ev
  cases r1 with
  | @cons _ u0 _ ur ra rw' =>
    obtain rfl : u0 = Value.ref a := ra
    have hlen : ur.length ≤ sizeLine := by
      rw [← Paired.length rw', sizeLine_eq]
      omega
    exact oinit_ok T I1 ea hlen fun s' J => ⟨.non, H1, J, rfl, q⟩
end LS
namespace LS
open PySem L2 PySem.Spec PyProof.Rows
theorem isC {K : PySem.W.Frag} {D : Addr} (h : PySem.W.hasDictIn K D = true) : (PySem.W.clsIn K D).isSome = true := by
  obtain ⟨cd, e, _⟩ := PySem.W.any_some h
  rw [e]
  rfl
/-- isinstance(e, c), e the exception that the suite holds, which has a dict of its own -/
def rIsD (K : PySem.W.Frag) (a : Addr) (cls : Value) (d : Option Addr) : List V → Hp → VK → Prop := fun xs H Q => ∃ (D : Addr) (c : V) (cv : Value) (b : Bool) (dd : Addr) (fs : List (Str × V)), cls = .ref D ∧ ExcC K D ∧ d = some dd ∧ H dd = some (.xd fs) ∧ xs = [.ref a, c] ∧
  (∀ u, RelV c u → u = cv) ∧ PySem.W.kitOne K (.ref D) cv = some b ∧ Q (.bl b) H
theorem call_isD {X : Cx} {a : Addr} {cls : Value} {d : Option Addr} {oe : Obj} {pn : List (Addr × Obj)} (hz : Zc cls d oe) (hf : ∃ vs, oe.data = .fields vs) : CallR (X.suite a ((a, oe) :: pn)) (.builtin "isinstance") (rIsD X.K a cls d) := by
  intro pins s σ H xs us Q I r h
  obtain ⟨D, c, cv, b, dd, fs, rfl, C, rfl, hdd, rfl, hcv, e, q⟩ := h
  cases r with
  | cons rx rr =>
    cases rr with
    | cons rt rr =>
      cases rr
      cases rx
      have ec := hcv _ rt
      subst ec
      obtain ⟨hget, _⟩ := I.pin (a, oe) (List.mem_append.mpr (.inl List.mem_cons_self))
      obtain ⟨vs, hv⟩ := hf
      have hx : ObjOk X.prog X.w H s.heap dd (.xd fs) := I.hok dd _ hdd
      obtain ⟨mA, hns, hr⟩ := hx
      obtain ⟨od, ho, hl⟩ := lookIn_ns hns
      have J : PySem.W.InstAt s.heap a oe D (some od) := ⟨hget, hz.1, by unfold PySem.W.notCls; rw [hv] <;> rfl, by rw [hz.2]; exact ho⟩
      exact PySem.W.kia_one (PySem.W.kitx_exc (isC C.hd) C.hg C.hk C.hs C.ha C.hn C.ht C.hm) I.kIn J e (fun z => nomatch z) fun tk => ⟨.bl b, H, I.kept (t' := tk) fun _ _ z => z, rfl, q⟩
/-! ### xs.count(x) of flat items -/
theorem count_eqU {x : V} : ∀ {xs : List V} {us : List Value}, Vals xs us → xs.all flatV = true → us.countP (eqU x) = xs.countP (fun y => eqV y x)
  | _, _, .nil, _ => rfl
  | y :: xs, u :: us, .cons r t, f => by
    rw [List.all_cons, Bool.and_eq_true] at f
    rw [List.countP_cons, List.countP_cons, eqU_of r f.1, count_eqU t f.2]
def rCntF (K : PySem.W.Frag) : V → List V → Hp → VK → Prop := fun x vs H Q => ∃ (p : Addr) (xs : List V) (k : V), x = .ref p ∧ vs = [k] ∧ SqL K H p xs ∧ flatV k = true ∧ xs.all flatV = true ∧ Q (.int ((xs.countP (fun y => eqV y k) : Nat) : Int)) H
theorem mt_countF {X : Cx} : MtR X "list.count" (rCntF X.K) := by
  intro pins s σ H x xs v us Q I rx rxs h
  obtain ⟨p, ns, k, rfl, rfl, hs, fk, fx, q⟩ := h
  cases rx
  obtain ⟨u, rfl, ru⟩ := rxs.one
  obtain ⟨its, rv, ⟨⟨cls, dd, data, sl⟩, n, ho, hc, hdn, hd⟩, hlen⟩ := I.list hs
  simp only at hc hd
  subst hc hd
  refine call_meets PySem.F.slot_list_count ⟨_, ho, rfl⟩ PySem.F.entry_list_count (PySem.F.args_list_count_2 _ _)
    (SeqAt.list_countAt p its.toArray n dd sl u (eqU k)) ⟨ho, fun y hy => mem_eqAt ru fk rv fx y (by simpa using hy), ?_⟩
  have ec : its.toArray.toList.countP (eqU k) = ns.countP (fun y => eqV y k) := count_eqU rv fx
  exact ⟨.int ((ns.countP (fun y => eqV y k) : Nat) : Int), H, I.tok _, ⟨s.toks, congrArg (fun m : Nat => Value.int (m : Int) s.toks) ec⟩, q⟩
end LS
namespace LS
open PySem L2
abbrev sWord : Stmt := top i_is_word
abbrev sAction : Stmt := top i_is_action
abbrev sActs : Stmt := top i_actions_of
abbrev letters : Str := "abcdefghijklmnopqrstuvwxyz"
abbrev actWords : List Str := ["ok", "bad", "die", "done", "ignore", "reset"]
abbrev resWords : List Str := ["yes", "no", "skip", "gone"]
def isWordS (z : Str) : Bool := decide (1 ≤ z.length) && decide (z.length ≤ 8) && z.cps.toList.all fun c => decide (c ∈ letters.cps.toList)
def isWord : PyData → Bool
  | .str z => isWordS z
  | _ => false
def isAction : PyData → Bool
  | .int i => decide (1 ≤ i) && decide (i ≤ 9)
  | d => (actWords.map PyData.str).any fun z => PyData.eqv z d
/-- what the top has written of rules.py -/
structure RulesK (K : PySem.W.Frag) (w : World) (mg : Str → Option Value) : Prop where
  letters : ∃ t, mg "LETTERS" = some (.str letters t)
  longest : ∃ t, mg "LONGEST_WORD" = some (.int 8 t)
  jump : ∃ t, mg "LONGEST_JUMP" = some (.int 9 t)
  acts : ∃ a, mg "ACTIONS" = some (.ref a) ∧ ∀ H, SqT K H a (actWords.map V.str)
  ress : ∃ a, mg "RESULTS" = some (.ref a) ∧ ∀ H, SqT K H a (resWords.map V.str)
  isi : mg "isinstance" = none
  str : mg "str" = none
  int : mg "int" = none
  bool : mg "bool" = none
  tuple : mg "tuple" = none
  len : mg "len" = none
  all : mg "all" = none
def spWord (K : PySem.W.Frag) : Sp := fun vs H Q _ => ∃ (v : V) (d : PyData), vs = [v] ∧ Dp K H v d ∧ NoList d ∧ (∀ z, d = .str z → z.length ≤ 1000) ∧ ∀ H', Same H H' → Q (.bl (isWord d)) H'
section
variable {P : Program} {w : World} {K : PySem.W.Frag} {mg : Str → Option Value} {base : Heap}
theorem scWord : FnScope ["value", "letter"] ["value"] (defScope sWord) := ⟨rfl, rfl, rfl, by decide +kernel, rfl, by decide +kernel, by decide +kernel⟩
theorem pick_upto {α β : Type} {f : α → β} {l : List α} {i : Nat} {c : α} (h : l[i]? = some c) : (l.take i).map f ++ [f c] = (l.take (i + 1)).map f := by
  rw [List.take_add_one, h, List.map_append]
  rfl
theorem yes_of {σ : St} {H : Hp} {A B : Bool → Hp → Prop} (h : A true H) : tYes σ H fun b H3 => if b = true then A b H3 else B b H3 := by
  show (if true = true then A true H else B true H)
  rw [if_pos rfl]
  exact h
theorem ok_word {f : Addr} {fd : FuncData} (F : Fun K "is_word" "is_word" sWord f fd) (T : RulesK K w mg) : FnOk P w K mg base CX0 1 f fd ["value"] (spWord K) := by
  obtain ⟨tl, gl⟩ := T.letters
  obtain ⟨tw, gw⟩ := T.longest
  refine F.ok scWord (fun vs H Q E h => ?_) (fun cdv A outer s H vs Q E hr h => ?_)
  · obtain ⟨v, d, rfl, _⟩ := h
    rfl
  · obtain ⟨v, d, rfl, hd, hn, hlen, k⟩ := h
    refine ⟨_, pss_cons (ps_if (PW.pt (pw_or (pt_not (pt_val (pe_callB call_isi (by rfl) T.isi (by decide +kernel) (pa_cons (pv 0) (pa_cons (pe_bltn (by rfl) T.str (by decide +kernel) (v := .ty "str") rfl) pa_nil)))))
          (pw_or1 (pt_not (pt_chain op_le op_le pe_int (pe_callB call_len_str (by rfl) T.len PySem.boot_len (pa_cons (pv 0) pa_nil)) (pe_glob (v := .int 8) (by rfl) gw ⟨tw, rfl⟩)))))) (pss_one (ps_ret pe_bl)) pss_nil)
      (pss_one (ps_ret (pe_callB (cr_all rfl) (by rfl) T.all (by decide +kernel) (pa_cons
        (pe_lc (own := [("letter", 1)]) (g := gName 1) (by rfl) scWord.nd (pi_str (pv 0)) (blkOk_by (own := [("letter", 1)]) (N := ["value", "letter"]) (sc := defScope sWord) (by decide +kernel))
          (fun _ _ _ _ _ => pg_name (i := 1) scWord.nd rfl (Or.inl rfl)) (fun _ _ _ _ _ => pts_nil) (fun _ _ _ _ _ => pe_cmpR op_in_sign (pv 1) (pe_glob (v := .str letters) (by rfl) gl ⟨tl, rfl⟩) (by rfl))) pa_nil)))), ?_⟩
    have hS : ∀ z : Str, d = .str z ∨ ¬ d = .str z := fun z => Classical.em _
    by_cases hstr : ∃ z, d = .str z
    · obtain ⟨z, rfl⟩ := hstr
      cases hd
      have hz1 : z.length ≤ 1000 := hlen z rfl
      have hz2 : z.length ≤ sizeLine := Nat.le_of_lt (small1000 hz1)
      refine ⟨_, rfl, .str z, .ty "str", .type "str", .type "str", true, rfl, .ty _, .base (.str z), kit_ty (by decide +kernel), _, rfl, ?_⟩
      refine iteF ?_
      refine ⟨_, rfl, z, rfl, hz2, _, _, rfl, rfl, _, rfl, ?_⟩
      refine ite2 (fun h1 => ?_) (fun h1 => ?_)
      · refine ⟨_, _, rfl, rfl, _, rfl, ?_⟩
        by_cases h2 : ((z.length : Nat) : Int) ≤ 8
        · rw [decide_eq_true h2]
          refine iteF ?_
          refine ⟨_, rfl, z, rfl, fun D hD => ?_⟩
          have hsz : z.cps.size = z.length := by simp [Str.length]
          refine lc_it walk_str (fun i H' => Same H (fun b => if b = D then none else H' b) ∧ H' D = some (.lst ((z.cps.toList.take i).map fun c => .bl (decide (c ∈ letters.cps.toList))))) ⟨?_, upd_same⟩ (fun _ _ _ _ => True.intro) ?_ ?_
          · intro b o e
            have hb : b ≠ D := ne_of_none e hD
            show (if b = D then none else upd H D (.lst []) b) = some o
            rw [if_neg hb, upd_ne hb]
            exact e
          · rintro i x H1 H2 hi ⟨hS1, hL⟩ ⟨rfl, c, hc, rfl⟩
            refine ⟨rfl, ?_⟩
            refine yes_of ?_
            refine ⟨_, rfl, c, letters, rfl, rfl, _, hL, ?_, ?_, ?_⟩
            · rw [List.length_map, List.length_take]
              have hs2 := sizeLine_eq
              omega
            · intro b o e
              have hb : b ≠ D := ne_of_none e hD
              have q := hS1 b o e
              have q : (if b = D then none else H2 b) = some o := q
              rw [if_neg hb] at q
              show (if b = D then none else upd H2 D _ b) = some o
              rw [if_neg hb, upd_ne hb]
              exact q
            · rw [upd_same]
              refine congrArg (fun l => some (HO.lst l)) ?_
              exact pick_upto (f := fun c => V.bl (decide (c ∈ letters.cps.toList))) (by rw [Array.getElem?_toList]; exact hc)
          · rintro H1 ⟨hS1, hL⟩
            refine ⟨D, z.cps.toList.map fun c => decide (c ∈ letters.cps.toList), rfl, .inl (.inl ?_), ?_⟩
            · rw [hL, List.map_map, ← Array.length_toList, List.take_length]
              rfl
            · have e : isWord (.str z) = (z.cps.toList.map fun c => decide (c ∈ letters.cps.toList)).all id := by
                show isWordS z = _
                unfold isWordS
                rw [decide_eq_true (show 1 ≤ z.length by have := of_decide_eq_true h1; omega), decide_eq_true (show z.length ≤ 8 by omega), List.all_map]
                rfl
              rw [← e]
              refine k _ fun b o e => ?_
              have q := hS1 b o e
              have q : (if b = D then none else H1 b) = some o := q
              rw [if_neg (ne_of_none e hD)] at q
              exact q
        · rw [decide_eq_false h2]
          refine iteT ?_
          have e : isWord (.str z) = false := by
            show isWordS z = _
            unfold isWordS
            rw [decide_eq_false (show ¬ z.length ≤ 8 by omega), Bool.and_false, Bool.false_and]
          have q := k H (Same.refl H)
          rw [e] at q
          exact q
      · have h1' : ¬ 1 ≤ z.length := fun h => h1 (decide_eq_true (by omega))
        refine ⟨_, rfl, ?_⟩
        refine iteT ?_
        have e : isWord (.str z) = false := by
          show isWordS z = _
          unfold isWordS
          rw [decide_eq_false h1', Bool.false_and, Bool.false_and]
        have q := k H (Same.refl H)
        rw [e] at q
        exact q
    · have hk : PySem.W.kitOne K (.type (tyN d)) (.type "str") = some false := by
        refine kit_ty ?_
        rw [kit_str]
        cases d with
        | str z => exact (hstr ⟨z, rfl⟩).elim
        | _ => rfl
      have e : isWord d = false := by
        cases d with
        | str z => exact (hstr ⟨z, rfl⟩).elim
        | _ => rfl
      refine ⟨_, rfl, v, .ty "str", _, _, false, rfl, .ty _, ty_of hd hn, hk, _, rfl, ?_⟩
      refine iteT ?_
      have q := k H (Same.refl H)
      rw [e] at q
      exact q
end
end LS
namespace LS
open PySem L2
abbrev sNum : Stmt := top i_is_number
/-- an int, no truth value, between two others -/
def isNum (a b : Int) : PyData → Bool
  | .int i => decide (a ≤ i) && decide (i ≤ b)
  | _ => false
def spNum (K : PySem.W.Frag) : Sp := fun vs H Q _ => ∃ (v : V) (d : PyData) (a b : Int), vs = [v, .int a, .int b] ∧ Dp K H v d ∧ NoList d ∧ Q (.bl (isNum a b d)) H
structure NumK (mg : Str → Option Value) : Prop where
  isi : mg "isinstance" = none
  int : mg "int" = none
  bool : mg "bool" = none
/-- a def of the module, with its promise -/
structure DefK (P : Program) (w : World) (K : PySem.W.Frag) (mg : Str → Option Value) (base : Heap) (CX : CXT) (k : Nat) (x : Str) (ps : List Str) (sp : Sp) where
  {a : Addr}
  {fd : FuncData}
  G : FnOk P w K mg base CX k a fd ps sp
  g : mg x = some (.ref a)
  kp : PySem.W.keepIn K (.ref a) = true
  b : Binds K fd ps []
section
variable {P : Program} {w : World} {K : PySem.W.Frag} {mg : Str → Option Value} {base : Heap}
theorem scNum : FnScope ["value", "least", "most"] ["value", "least", "most"] (defScope sNum) := ⟨rfl, rfl, rfl, by decide +kernel, rfl, by decide +kernel, by decide +kernel⟩
theorem ok_num {f : Addr} {fd : FuncData} (F : Fun K "is_number" "is_number" sNum f fd) (T : NumK mg) : FnOk P w K mg base CX0 1 f fd ["value", "least", "most"] (spNum K) := by
  refine F.ok scNum (fun vs H Q E h => ?_) (fun cdv A outer s H vs Q E hr h => ?_)
  · obtain ⟨v, d, a, b, rfl, _⟩ := h
    rfl
  · obtain ⟨v, d, a, b, rfl, hd, hn, k⟩ := h
    refine ⟨_, pss_one (ps_ret (pe_and (pe_callB call_isi (by rfl) T.isi (by decide +kernel) (pa_cons (pv 0) (pa_cons (pe_bltn (by rfl) T.int (by decide +kernel) (v := .ty "int") rfl) pa_nil)))
      (pe_and (pe_not (pe_callB call_isi (by rfl) T.isi (by decide +kernel) (pa_cons (pv 0) (pa_cons (pe_bltn (by rfl) T.bool (by decide +kernel) (v := .ty "bool") rfl) pa_nil))))
      (pe_one (pe_chain op_le op_le (pv 1) (pv 0) (pv 2)))))), ?_⟩
    refine ⟨_, rfl, v, .ty "int", _, _, isInt d, rfl, .ty _, ty_of hd hn, kit_ty (kit_int d), _, rfl, ?_⟩
    refine ite2 (fun h1 => ?_) (fun h1 => ?_)
    · refine ⟨_, rfl, v, .ty "bool", _, _, isBool d, rfl, .ty _, ty_of hd hn, kit_ty (kit_bool d), _, rfl, _, rfl, ?_⟩
      refine ite2 (fun h2 => ?_) (fun h2 => ?_)
      · obtain ⟨i, rfl⟩ : ∃ i, d = .int i := by
          cases d with
          | int i => exact ⟨i, rfl⟩
          | bool b => cases h2
          | _ => cases h1
        cases hd
        refine ⟨_, rfl, _, rfl, _, _, rfl, rfl, _, rfl, ?_⟩
        have e : isNum a b (.int i) = (decide (a ≤ i) && decide (i ≤ b)) := rfl
        rw [e] at k
        refine ite2 (fun h3 => ?_) (fun h3 => ?_)
        · refine ⟨_, rfl, _, _, rfl, rfl, ?_⟩
          rw [h3, Bool.true_and] at k
          exact k
        · rw [Bool.eq_false_iff.mpr h3, Bool.false_and] at k
          exact k
      · have e : isNum a b d = false := by
          cases d with
          | int i => exact (h2 rfl).elim
          | _ => rfl
        rw [e] at k
        exact k
    · have e : isNum a b d = false := by
        cases d with
        | int i => exact (h1 rfl).elim
        | _ => rfl
      rw [e] at k
      exact k
end
end LS
namespace LS
open PySem L2
theorem same_tup {K : PySem.W.Frag} {H H' : Hp} {a : Addr} {xs : List V} (e : Same H H') (h : SqT K H a xs) : SqT K H' a xs := by
  rcases h with (h | ⟨o, h⟩) | h
  · exact .inl (.inl (e _ _ h))
  · exact .inl (.inr ⟨o, e _ _ h⟩)
  · exact .inr h
mutual
theorem same_dp {K : PySem.W.Frag} {H H' : Hp} (e : Same H H') : ∀ (d : PyData) (v : V), Dp K H v d → Dp K H' v d
  | .none, _, h => by cases h; exact .non
  | .bool _, _, h => by cases h; exact .bl _
  | .int _, _, h => by cases h; exact .int _
  | .str _, _, h => by cases h; exact .str _
  | .list ds, _, h => by
    cases h with
    | lst hs ha => exact .lst (e.seq hs) (same_dps e ds _ ha)
  | .tuple ds, _, h => by
    cases h with
    | tup hs ha => exact .tup (same_tup e hs) (same_dps e ds _ ha)
  | .dict _, _, h => by cases h
theorem same_dps {K : PySem.W.Frag} {H H' : Hp} (e : Same H H') : ∀ (ds : List PyData) (vs : List V), DpAll K H vs ds → DpAll K H' vs ds
  | [], _, h => by cases h; exact .nil
  | d :: ds, _, h => by
    cases h with
    | cons h1 h2 => exact .cons (same_dp e d _ h1) (same_dps e ds _ h2)
end
theorem dps_len {K : PySem.W.Frag} {H : Hp} : ∀ {vs : List V} {ds : List PyData}, DpAll K H vs ds → vs.length = ds.length
  | _, _, .nil => rfl
  | _, _, .cons _ t => congrArg (· + 1) (dps_len t)
theorem dps_get {K : PySem.W.Frag} {H : Hp} : ∀ {vs : List V} {ds : List PyData} {i : Nat} {v : V}, DpAll K H vs ds → vs[i]? = some v → ∃ d, ds[i]? = some d ∧ Dp K H v d
  | _, _, _, _, .nil, e => by simp at e
  | _, _, 0, _, .cons r _, e => by simp at e; subst e; exact ⟨_, rfl, r⟩
  | _, _, i + 1, _, .cons _ t, e => by
    obtain ⟨d, h1, h2⟩ := dps_get (i := i) t (by simpa using e)
    exact ⟨d, by simpa using h1, h2⟩
/-- few, flat or nearly so -/
def Mild (d : PyData) : Prop := NoList d ∧ SeqAt.shaped d = true ∧ ∀ z, d = .str z → z.length ≤ 1000
theorem words_dp {K : PySem.W.Frag} {H : Hp} : ∀ zs : List Str, DpAll K H (zs.map V.str) (zs.map PyData.str)
  | [] => .nil
  | z :: zs => .cons (.str z) (words_dp zs)
def spAction (K : PySem.W.Frag) : Sp := fun vs H Q _ => ∃ (v : V) (d : PyData), vs = [v] ∧ Dp K H v d ∧ Mild d ∧ Q (.bl (isAction d)) H
section
variable {P : Program} {w : World} {K : PySem.W.Frag} {mg : Str → Option Value} {base : Heap}
theorem scAction : FnScope ["value"] ["value"] (defScope sAction) := ⟨rfl, rfl, rfl, by decide +kernel, rfl, by decide +kernel, by decide +kernel⟩
theorem isAction_eq (d : PyData) : isAction d = (isNum 1 9 d || (actWords.map PyData.str).any fun z => PyData.eqv z d) := by
  cases d with
  | int i =>
    have e : ((actWords.map PyData.str).any fun z => PyData.eqv z (.int i)) = false := by
      refine Bool.eq_false_iff.mpr fun h => ?_
      obtain ⟨z, hz, e⟩ := List.any_eq_true.mp h
      obtain ⟨s, _, rfl⟩ := List.mem_map.mp hz
      simp [PyData.eqv] at e
    rw [e, Bool.or_false]
    rfl
  | _ => rfl
theorem ok_action {f : Addr} {fd : FuncData} (F : Fun K "is_action" "is_action" sAction f fd) (T : RulesK K w mg) (N : DefK P w K mg base CX0 1 "is_number" ["value", "least", "most"] (spNum K)) : FnOk P w K mg base CX0 2 f fd ["value"] (spAction K) := by
  obtain ⟨tj, gj⟩ := T.jump
  obtain ⟨aa, ga, ha⟩ := T.acts
  refine F.ok scAction (fun vs H Q E h => ?_) (fun cdv A outer s H vs Q E hr h => ?_)
  · obtain ⟨v, d, rfl, _⟩ := h
    rfl
  · obtain ⟨v, d, rfl, hd, ⟨hn, hsh, hz⟩, k⟩ := h
    have hu : (A.deeper (PyProof.Rows.envOfC "is_action" (defScope sAction) s.heap.objs.size f cdv)).units + 65 < cLine := by have := hr.un; omega
    refine ⟨_, pss_one (ps_ret (pe_or (pe_call N.G hr (by rfl) N.g N.kp N.b .nil pass0 (pa_cons (pv 0) (pa_cons pe_int (pa_cons (pe_glob (v := .int 9) (by rfl) gj ⟨tj, rfl⟩) pa_nil))))
      (pe_one (pe_cmpR (op_inT hu) (pv 0) (pe_glob (v := .ref aa) (by rfl) ga rfl) (by rfl))))), ?_⟩
    rw [isAction_eq] at k
    refine ⟨_, rfl, v, d, 1, 9, rfl, hd, hn, _, rfl, ?_⟩
    refine ite2 (fun h1 => ?_) (fun h1 => ?_)
    · rw [h1, Bool.true_or] at k
      exact k
    · rw [Bool.eq_false_iff.mpr h1, Bool.false_or] at k
      exact ⟨_, rfl, d, actWords.map PyData.str, hd, .tup (ha H) (words_dp _), hsh, by decide +kernel, k⟩
end
end LS
namespace LS
open PySem L2
abbrev tReq : List Str := ["ok", "bad", "ignore", "bad"]
abbrev tRqs : List Str := ["ok", "die", "ignore", "die"]
abbrev tSuf : List Str := ["done", "ignore", "ignore", "ignore"]
abbrev tOpt : List Str := ["ok", "ignore", "ignore", "ignore"]
def ctrlTab : List (Str × List Str) := [("required", tReq), ("requisite", tRqs), ("sufficient", tSuf), ("optional", tOpt)]
def CtrlEs (K : PySem.W.Frag) : List DictEntry → List (Str × List Str) → Prop
  | [], [] => True
  | e :: es, r :: rs => (∃ t a, e.key = .str r.1 t ∧ e.val = .ref a ∧ ∀ H, SqT K H a (r.2.map V.str)) ∧ CtrlEs K es rs
  | _, _ => False
structure CtrlK (K : PySem.W.Frag) (w : World) (mg : Str → Option Value) (dC : Addr) : Prop where
  g : mg "CONTROLS" = some (.ref dC)
  sys : (dC == sysModules) = false
  ex : ∃ es n, K.lookup dC = some ⟨.type "dict", none, .dict es n, #[]⟩ ∧ PySem.W.KeysLit w.params es.toList ∧ CtrlEs K es.toList ctrlTab
def looked (z : Str) (rs : List (Str × List Str)) : Option (List Str) := (rs.find? fun r => decide (r.1 = z)).map (·.2)
theorem ctrl_find {K : PySem.W.Frag} {z : Str} : ∀ {es : List DictEntry} {rs : List (Str × List Str)}, CtrlEs K es rs →
    es.any (·.refKey) = false ∧ ((looked z rs = none ∧ es.find? (·.key.isStr z) = none) ∨ ∃ acts e a, looked z rs = some acts ∧ es.find? (·.key.isStr z) = some e ∧ e.val = .ref a ∧ ∀ H, SqT K H a (acts.map V.str))
  | [], [], _ => ⟨rfl, .inl ⟨rfl, rfl⟩⟩
  | e :: es, r :: rs, ⟨⟨t, a, hk, hv, hs⟩, h⟩ => by
    obtain ⟨h1, h2⟩ := ctrl_find (z := z) h
    have hr : e.refKey = false := by unfold DictEntry.refKey; rw [hk]
    have hi : e.key.isStr z = decide (r.1 = z) := by
      rw [hk]
      show (r.1 == z) = decide (r.1 = z)
      by_cases q : r.1 = z
      · rw [decide_eq_true q]
        exact beq_iff_eq.mpr q
      · rw [decide_eq_false q]
        exact beq_eq_false_iff_ne.mpr q
    refine ⟨by rw [List.any_cons, hr, h1]; rfl, ?_⟩
    unfold looked
    rw [List.find?_cons, List.find?_cons, hi]
    by_cases q : r.1 = z
    · rw [decide_eq_true q]
      exact .inr ⟨r.2, e, a, rfl, rfl, hv, hs⟩
    · rw [decide_eq_false q]
      exact h2
theorem ctrl_ns {K : PySem.W.Frag} {w : World} {mg : Str → Option Value} {dC : Addr} (T : CtrlK K w mg dC) (z : Str) :
    (looked z ctrlTab = none ∧ KGet K w dC z .non) ∨ ∃ acts a, looked z ctrlTab = some acts ∧ KGet K w dC z (.ref a) ∧ ∀ H, SqT K H a (acts.map V.str) := by
  obtain ⟨es, n, hl, hk, hc⟩ := T.ex
  obtain ⟨h1, h2⟩ := ctrl_find (z := z) hc
  rcases h2 with ⟨e1, e2⟩ | ⟨acts, e, a, e1, e2, e3, e4⟩
  · refine .inl ⟨e1, es, n, none, hl, hk, T.sys, ?_, fun u q => (nomatch q), fun _ => rfl⟩
    unfold PySem.W.nsIn
    rw [hl]
    simp [e2, h1]
  · refine .inr ⟨acts, a, e1, ⟨es, n, some (.ref a), hl, hk, T.sys, ?_, fun u q => ?_, fun q => (nomatch q)⟩, e4⟩
    · unfold PySem.W.nsIn
      rw [hl]
      simp [e2, e3]
    · cases q
      rfl
def actsOf : PyData → Option (List PyData)
  | .str z => (looked z ctrlTab).map (·.map PyData.str)
  | .tuple ds => if ds.length = 4 ∧ ds.all isAction = true then some ds else none
  | _ => none
/-- a control: a flat thing, or a tuple of mild things -/
def Ctl (d : PyData) : Prop := NoList d ∧ ∀ ds, d = .tuple ds → ds.length ≤ 1000 ∧ ∀ e ∈ ds, Mild e
def spActs (K : PySem.W.Frag) : Sp := fun vs H Q _ => ∃ (v : V) (d : PyData), vs = [v] ∧ Dp K H v d ∧ Ctl d ∧
  ∀ (c : V) (H' : Hp), Same H H' → (actsOf d = none → c = .non) → (∀ ds, actsOf d = some ds → ∃ a, c = .ref a ∧ Dp K H' c (.tuple ds)) → Q c H'
section
variable {P : Program} {w : World} {K : PySem.W.Frag} {mg : Str → Option Value} {base : Heap}
theorem scActs : FnScope ["control", "action"] ["control"] (defScope sActs) := ⟨rfl, rfl, rfl, by decide +kernel, rfl, by decide +kernel, by decide +kernel⟩
theorem ok_acts {f fA dC : Addr} {fd fdA : FuncData} (F : Fun K "actions_of" "actions_of" sActs f fd) (T : RulesK K w mg) (D : CtrlK K w mg dC) (FA : Fun K "is_action" "is_action" sAction fA fdA) (gA : mg "is_action" = some (.ref fA)) (bA : Binds K fdA ["value"] []) (N : DefK P w K mg base CX0 1 "is_number" ["value", "least", "most"] (spNum K)) :
    FnOk P w K mg base CX0 3 f fd ["control"] (spActs K) := by
  have GA : FnOk P w K mg base CX0 2 fA fdA ["value"] (spAction K) := ok_action FA T N
  obtain ⟨ar, gr, hR⟩ := T.ress
  refine F.ok scActs (fun vs H Q E h => ?_) (fun cdv A outer s H vs Q E hr h => ?_)
  · obtain ⟨v, d, rfl, _⟩ := h
    rfl
  · obtain ⟨v, d, rfl, hd, ⟨hn, hc⟩, k⟩ := h
    refine ⟨_, pss_cons (ps_if (pt_val (pe_callB call_isi (by rfl) T.isi (by decide +kernel) (pa_cons (pv 0) (pa_cons (pe_bltn (by rfl) T.str (by decide +kernel) (v := .ty "str") rfl) pa_nil))))
          (pss_one (ps_ret (pe_kdget (pe_glob (v := .ref dC) (by rfl) D.g rfl) (pv 0) ⟨rfl, rfl, rfl, rfl⟩))) pss_nil)
      (pss_cons (ps_if (PW.pt (pw_or (pt_not (pt_val (pe_callB call_isi (by rfl) T.isi (by decide +kernel) (pa_cons (pv 0) (pa_cons (pe_bltn (by rfl) T.tuple (by decide +kernel) (v := .ty "tuple") rfl) pa_nil)))))
          (pw_or1 (pt_cmpR op_ne (pe_callB call_len_seq (by rfl) T.len PySem.boot_len (pa_cons (pv 0) pa_nil)) (pe_callB call_len_seq (by rfl) T.len PySem.boot_len (pa_cons (pe_glob (v := .ref ar) (by rfl) gr rfl) pa_nil)) (nomark _)))))
          (pss_one (ps_ret pe_non)) pss_nil)
      (pss_cons (ps_if (pt_not (pt_val (pe_callB (cr_all rfl) (by rfl) T.all (by decide +kernel) (pa_cons
            (pe_lc (own := [("action", 1)]) (g := gName 1) (by rfl) scActs.nd (pi_tup (pv 0)) (blkOk_by (own := [("action", 1)]) (N := ["control", "action"]) (sc := defScope sActs) (by decide +kernel))
              (fun _ _ _ _ _ => pg_name (i := 1) scActs.nd rfl (Or.inl rfl)) (fun _ _ _ _ _ => pts_nil) (fun _ _ _ _ _ => pe_call GA hr (by rfl) gA FA.kp bA .nil pass0 (pa_cons (pv 1) pa_nil))) pa_nil))))
          (pss_one (ps_ret pe_non)) pss_nil)
      (pss_one (ps_ret (pv 0))))), ?_⟩
    refine ⟨_, rfl, v, .ty "str", _, _, isStr d, rfl, .ty _, ty_of hd hn, kit_ty (kit_str d), _, rfl, ?_⟩
    refine ite2 (fun h1 => ?_) (fun h1 => ?_)
    · obtain ⟨z, rfl⟩ : ∃ z, d = .str z := by
        cases d with
        | str z => exact ⟨z, rfl⟩
        | _ => cases h1
      cases hd
      obtain ⟨es, n, hl, hk, _⟩ := D.ex
      refine ⟨dC, rfl, ⟨es, n, hl, hk⟩, _, rfl, z, ?_⟩
      rcases ctrl_ns D z with ⟨e1, e2⟩ | ⟨acts, a, e1, e2, e3⟩
      · refine ⟨.non, rfl, e2, k _ _ (Same.refl H) (fun _ => rfl) fun ds q => ?_⟩
        have q : (looked z ctrlTab).map (·.map PyData.str) = some ds := q
        rw [e1] at q
        cases q
      · refine ⟨.ref a, rfl, e2, k _ _ (Same.refl H) (fun q => ?_) fun ds q => ⟨a, rfl, ?_⟩⟩
        · have q : (looked z ctrlTab).map (·.map PyData.str) = none := q
          rw [e1] at q
          cases q
        · have q : (looked z ctrlTab).map (·.map PyData.str) = some ds := q
          rw [e1] at q
          cases q
          exact .tup (e3 H) (words_dp _)
    · refine ⟨_, rfl, v, .ty "tuple", _, _, isTup d, rfl, .ty _, ty_of hd hn, kit_ty (kit_tup d), _, rfl, ?_⟩
      by_cases ht : ∃ ds, d = .tuple ds
      · obtain ⟨ds, rfl⟩ := ht
        obtain ⟨hlen, hm⟩ := hc ds rfl
        refine iteF ?_
        have hd0 := hd
        cases hd with
        | @tup a xs _ hs ha =>
          have hxl : xs.length = ds.length := dps_len ha
          refine ⟨_, rfl, a, xs, rfl, .inr hs, ar, _, rfl, .inr (hR H), rfl, _, rfl, ?_⟩
          show if (!decide (V.int ((xs.length : Nat) : Int) = V.int ((4 : Nat) : Int))) = true then _ else _
          by_cases h4 : ds.length = 4
          · rw [decide_eq_true (by rw [hxl, h4])]
            refine iteF ?_
            refine ⟨_, rfl, a, rfl, ⟨_, hs⟩, fun B hB => ?_⟩
            refine lc_it walk_tup (fun i H' => Same H H' ∧ H' B = some (.lst ((ds.take i).map fun e => .bl (isAction e)))) ⟨same_upd hB (Same.refl H), upd_same⟩ (fun _ _ _ h => same_tup h.1 hs) ?_ ?_
            · rintro i x H1 H2 hi ⟨hS1, hL⟩ ⟨rfl, hx⟩
              obtain ⟨e, he, hxe⟩ := dps_get ha hx
              refine ⟨rfl, yes_of ?_⟩
              refine ⟨_, rfl, x, e, rfl, same_dp hS1 e x hxe, hm e (List.mem_of_getElem? he), _, hL, ?_, same_upd hB hS1, ?_⟩
              · rw [List.length_map, List.length_take]
                have hs2 := sizeLine_eq
                omega
              · rw [upd_same]
                exact congrArg (fun l => some (HO.lst l)) (pick_upto (f := fun e => V.bl (isAction e)) he)
            · rintro H1 ⟨hS1, hL⟩
              refine ⟨B, ds.map isAction, rfl, .inl (.inl ?_), _, rfl, ?_⟩
              · rw [hL, List.map_map, hxl, List.take_length]
                rfl
              · rw [List.all_map]
                have e0 : ds.all (id ∘ isAction) = ds.all isAction := rfl
                rw [e0]
                have e1 : actsOf (.tuple ds) = if ds.all isAction = true then some ds else none := by
                  show (if ds.length = 4 ∧ ds.all isAction = true then some ds else none) = _
                  by_cases q : ds.all isAction = true
                  · rw [if_pos q, if_pos ⟨h4, q⟩]
                  · rw [if_neg q, if_neg (fun z => q z.2)]
                rw [e1] at k
                cases hall : ds.all isAction with
                | true =>
                  rw [hall] at k
                  refine iteF ?_
                  refine ⟨_, rfl, k _ H1 hS1 (fun q => (nomatch q)) fun ds' q => ?_⟩
                  cases q
                  exact ⟨a, rfl, same_dp hS1 _ _ hd0⟩
                | false =>
                  rw [hall] at k
                  refine iteT ?_
                  exact k _ H1 hS1 (fun _ => rfl) fun ds' q => (nomatch q)
          · rw [decide_eq_false (fun q => h4 (by rw [← hxl]; exact Int.ofNat.inj (V.int.inj q)))]
            refine iteT ?_
            have e1 : actsOf (.tuple ds) = none := if_neg fun z => h4 z.1
            rw [e1] at k
            exact k _ H (Same.refl H) (fun _ => rfl) fun ds' q => (nomatch q)
      · have e1 : actsOf d = none := by
          cases d with
          | str z => exact (h1 rfl).elim
          | tuple ds => exact (ht ⟨ds, rfl⟩).elim
          | _ => rfl
        have e2 : isTup d = false := by
          cases d with
          | tuple ds => exact (ht ⟨ds, rfl⟩).elim
          | _ => rfl
        rw [e2]
        rw [e1] at k
        refine iteT ?_
        exact k _ H (Same.refl H) (fun _ => rfl) fun ds' q => (nomatch q)
end
end LS
namespace LS
open PySem L2
/-- StackError: a class over ValueError without an __init__ of its own -/
structure BaseX (K : PySem.W.Frag) (mg : Str → Option Value) (C0 : Addr) : Prop where
  g : mg "StackError" = some (.ref C0)
  rd : ∃ mc, ClX.CRead K C0 mc ∧ PySem.W.findCls K (.ref C0) mc "__init__" = some (.val (.builtin "ValueError.__init__"))
/-- an own exception class at C -/
structure ExK (K : PySem.W.Frag) (mg : Str → Option Value) (x : Str) (C : Addr) : Prop where
  g : mg x = some (.ref C)
  oex : OexC K C
  exc : ExcC K C
  xf : XfC K C
/-- __init__(self, z): the base's, then self.f = z; t: the text ahead of z -/
def spXInit (K : PySem.W.Frag) (f t : Str) : Sp := fun vs H Q _ => ∃ (a C : Addr) (z : Str), vs = [.ref a, .str z] ∧ z.length ≤ sizeLine ∧ (Str.empty ++ t ++ z).length ≤ sizeLine ∧
  OexC K C ∧ PySem.W.findIn K (.ref C) f = some none ∧ H a = some (exo a C none) ∧
  ∀ dx, H dx = none → dx ≠ a → Q .non (upd (upd H dx (exd dx [(f, .str z)])) a (exo a C (some dx)))
abbrev sIRInit : Stmt := inClass (top i_InvalidRule) 0
abbrev tIR : Str := "a rule cannot have this "
section
variable {P : Program} {w : World} {K : PySem.W.Frag} {mg : Str → Option Value} {base : Heap}
theorem scIR : FnScope ["self", "part"] ["self", "part"] (defScope sIRInit) := ⟨rfl, rfl, rfl, by decide +kernel, rfl, by decide +kernel, by decide +kernel⟩
theorem ok_irinit {f C0 : Addr} {fd : FuncData} (F : Fun K "__init__" "InvalidRule.__init__" sIRInit f fd) (B : BaseX K mg C0) : FnOk P w K mg base CX0 1 f fd ["self", "part"] (spXInit K "part" tIR) := by
  obtain ⟨mc, rd, vV⟩ := B.rd
  refine F.ok scIR (fun vs H Q E h => ?_) (fun cdv A outer s H vs Q E hr h => ?_)
  · obtain ⟨a, C, v, rfl, _⟩ := h
    rfl
  · obtain ⟨a, C, z, rfl, hz1, hz2, T, hno, ha, k⟩ := h
    refine ⟨_, pss_cons (ps_expr (pe_seinit (by rfl) B.g rd vV (pa_cons (pv 0) (pa_cons (pe_joined (PJ.cons pe_str (PJ.cons (pe_fmt (pv 1)) PJ.nil))) pa_nil)))) (pss_one (ps_ost (pv 0) (pv 1))), ?_⟩
    refine ⟨_, rfl, _, rfl, by decide, _, rfl, .inl ⟨z, rfl, hz1, z, rfl, hz2, a, C, _, rfl, by show 1 ≤ 1000; decide, T, ha, ?_⟩⟩
    exact ⟨_, rfl, _, rfl, a, C, rfl, T, hno, .inl ⟨ha, k⟩⟩
/-- what raising leaves: the error's own dict, new -/
theorem raise_heap {H : Hp} {a C dx : Addr} {fs : List (Str × V)} (hna : H a = none) (hdx : upd H a (exo a C none) dx = none) : upd (del (upd (upd (upd H a (exo a C none)) dx (exd dx fs)) a (exo a C (some dx))) a) dx (.xd fs) = upd H dx (.xd fs) := by
  have hne : dx ≠ a := fun e => by
    rw [e, upd_same] at hdx
    cases hdx
  funext b
  by_cases h1 : b = dx
  · rw [h1, upd_same, upd_same]
  · rw [upd_ne h1, upd_ne h1]
    by_cases h2 : b = a
    · rw [h2, del_same, hna]
    · rw [del_ne h2, upd_ne h2, upd_ne h1, upd_ne h2]
/-- X(z), X an own error whose __init__ keeps spXInit: behind it the error has a new dict -/
theorem mkX_run {C : Addr} {f t z : Str} {H : Hp} {Q : XK} (hz1 : z.length ≤ sizeLine) (hz2 : (Str.empty ++ t ++ z).length ≤ sizeLine) (T : OexC K C) (hno : PySem.W.findIn K (.ref C) f = some none)
    (k : ∀ d, H d = none → Q (.ref C) (some d) (upd H d (.xd [(f, .str z)]))) {σ : St} : tMkO C (spXInit K f t) [] (tCons (tC (.str z)) tNil) σ H Q := by
  refine ⟨by show 1 ≤ 1000; decide, fun a ha => ⟨a, C, z, rfl, hz1, hz2, T, hno, upd_same, fun dx hdx hne => ⟨rfl, dx, [(f, .str z)], upd_same, ?_, ?_, ?_⟩⟩⟩
  · rw [upd_ne hne, upd_same]
  · rw [upd_ne hne] at hdx
    exact hdx
  · have e := raise_heap (fs := [(f, V.str z)]) (C := C) ha hdx
    rw [e]
    rw [upd_ne hne] at hdx
    exact k dx hdx
end
end LS
namespace LS
open PySem L2
abbrev sRInit : Stmt := inClass (top i_Rule) 0
abbrev sRKind : Stmt := inClass (top i_Rule) 3
abbrev sREq : Stmt := inClass (top i_Rule) 4
def ruleF (z : Str) (a : Addr) : List (Str × V) := [("_module", .str z), ("_control", .ref a)]
/-- at p a rule: module z, actions ds -/
def RuleAt (K : PySem.W.Frag) (C : Addr) (H : Hp) (p : Addr) (z : Str) (ds : List PyData) : Prop := ∃ dx a, H p = some (.ins C dx (ruleF z a)) ∧ Dp K H (.ref a) (.tuple ds)
structure RuleK (K : PySem.W.Frag) (mg : Str → Option Value) (C : Addr) : Prop where
  g : mg "Rule" = some (.ref C)
  cl : Cls K C
  nM : NoAttr K C "_module"
  nC : NoAttr K C "_control"
def spRInit (K : PySem.W.Frag) (C CI : Addr) : Sp := fun vs H Q E => ∃ (p dx : Addr) (m c : V) (dm dc : PyData), vs = [.ref p, m, c] ∧ H p = some (.ins C dx []) ∧ Dp K H m dm ∧ NoList dm ∧ (∀ z, dm = .str z → z.length ≤ 1000) ∧ Dp K H c dc ∧ Ctl dc ∧
  (isWord dm = false → ∀ d H', Same H H' → H d = none → H' d = some (.xd [("part", .str "module")]) → E (.ref CI) (some d) H') ∧
  (isWord dm = true → actsOf dc = none → ∀ d H', Same H H' → H d = none → H' d = some (.xd [("part", .str "control")]) → E (.ref CI) (some d) H') ∧
  (∀ z ds H', dm = .str z → isWord dm = true → actsOf dc = some ds → SameBut p H H' → RuleAt K C H' p z ds → Q .non H')
theorem Same.free' {H H' : Hp} (e : Same H H') {l : Addr} (h : H' l = none) : H l = none := e.free h
section
variable {P : Program} {w : World} {K : PySem.W.Frag} {mg : Str → Option Value} {base : Heap}
theorem scRInit : FnScope ["self", "module", "control", "actions"] ["self", "module", "control"] (defScope sRInit) := ⟨rfl, rfl, rfl, by decide +kernel, rfl, by decide +kernel, by decide +kernel⟩
theorem word_str {d : PyData} (h : isWord d = true) : ∃ z, d = .str z ∧ isWordS z = true := by
  cases d with
  | str z => exact ⟨z, rfl, h⟩
  | _ => cases h
theorem rule_put (m c : V) : putF "_control" c (putF "_module" m []) = ([("_module", m), ("_control", c)] : List (Str × V)) := by
  show (if ("_module" : Str) = "_control" then [(("_control" : Str), c)] else (("_module" : Str), m) :: putF "_control" c []) = _
  rw [if_neg (by decide +kernel)]
  rfl
/-- data does not lean on an instance -/
theorem but_tup {K : PySem.W.Frag} {C dx : Addr} {fs : List (Str × V)} {H H' : Hp} {p a : Addr} {xs : List V} (hp : H p = some (.ins C dx fs)) (e : SameBut p H H') (h : SqT K H a xs) : SqT K H' a xs := by
  have ne : ∀ {o : HO}, H a = some o → (∀ C dx fs, o ≠ .ins C dx fs) → a ≠ p := fun {o} q n z => by
    rw [z, hp] at q
    exact n C dx fs (Option.some.inj q).symm
  rcases h with (h | ⟨o, h⟩) | h
  · exact .inl (.inl (e _ _ (ne h fun _ _ _ z => nomatch z) h))
  · exact .inl (.inr ⟨o, e _ _ (ne h fun _ _ _ z => nomatch z) h⟩)
  · exact .inr h
theorem but_lst {K : PySem.W.Frag} {C dx : Addr} {fs : List (Str × V)} {H H' : Hp} {p a : Addr} {xs : List V} (hp : H p = some (.ins C dx fs)) (e : SameBut p H H') (h : SqL K H a xs) : SqL K H' a xs := by
  have ne : ∀ {o : HO}, H a = some o → (∀ C dx fs, o ≠ .ins C dx fs) → a ≠ p := fun {o} q n z => by
    rw [z, hp] at q
    exact n C dx fs (Option.some.inj q).symm
  rcases h with (h | ⟨o, h⟩) | h
  · exact .inl (.inl (e _ _ (ne h fun _ _ _ z => nomatch z) h))
  · exact .inl (.inr ⟨o, e _ _ (ne h fun _ _ _ z => nomatch z) h⟩)
  · exact .inr h
mutual
theorem same_but {K : PySem.W.Frag} {C dx : Addr} {fs : List (Str × V)} {H H' : Hp} {p : Addr} (hp : H p = some (.ins C dx fs)) (e : SameBut p H H') : ∀ (d : PyData) (v : V), Dp K H v d → Dp K H' v d
  | .none, _, h => by cases h; exact .non
  | .bool _, _, h => by cases h; exact .bl _
  | .int _, _, h => by cases h; exact .int _
  | .str _, _, h => by cases h; exact .str _
  | .list ds, _, h => by
    cases h with
    | lst hs ha => exact .lst (but_lst hp e hs) (same_buts hp e ds _ ha)
  | .tuple ds, _, h => by
    cases h with
    | tup hs ha => exact .tup (but_tup hp e hs) (same_buts hp e ds _ ha)
  | .dict _, _, h => by cases h
theorem same_buts {K : PySem.W.Frag} {C dx : Addr} {fs : List (Str × V)} {H H' : Hp} {p : Addr} (hp : H p = some (.ins C dx fs)) (e : SameBut p H H') : ∀ (ds : List PyData) (vs : List V), DpAll K H vs ds → DpAll K H' vs ds
  | [], _, h => by cases h; exact .nil
  | d :: ds, _, h => by
    cases h with
    | cons h1 h2 => exact .cons (same_but hp e d _ h1) (same_buts hp e ds _ h2)
end
theorem ok_rinit {f fI fW fO dC CI C fA : Addr} {fd fdI fdW fdO fdA : FuncData} {C0 : Addr} (F : Fun K "__init__" "Rule.__init__" sRInit f fd) (R : RuleK K mg C) (T : RulesK K w mg) (D : CtrlK K w mg dC)
    (FW : Fun K "is_word" "is_word" sWord fW fdW) (gW : mg "is_word" = some (.ref fW)) (bW : Binds K fdW ["value"] [])
    (FO : Fun K "actions_of" "actions_of" sActs fO fdO) (gO : mg "actions_of" = some (.ref fO)) (bO : Binds K fdO ["control"] [])
    (FA : Fun K "is_action" "is_action" sAction fA fdA) (gA : mg "is_action" = some (.ref fA)) (bA : Binds K fdA ["value"] [])
    (X : ExK K mg "InvalidRule" CI) (nP : PySem.W.findIn K (.ref CI) "part" = some none) (B : BaseX K mg C0)
    (FI : Fun K "__init__" "InvalidRule.__init__" sIRInit fI fdI) (bI : Binds K fdI ["self", "part"] []) (N : DefK P w K mg base CX0 1 "is_number" ["value", "least", "most"] (spNum K)) (iC : PySem.W.findIn K (.ref CI) "__init__" = some (some (.ref fI))) (tI : PySem.W.typeIn K (.ref fI) = some (.type "function")) :
    FnOk P w K mg base (L2.CX P w) 4 f fd ["self", "module", "control"] (spRInit K C CI) := by
  have GW : FnOk P w K mg base CX0 1 fW fdW ["value"] (spWord K) := ok_word FW T
  have GO : FnOk P w K mg base CX0 3 fO fdO ["control"] (spActs K) := ok_acts FO T D FA gA bA N
  have GI : FnOk P w K mg base CX0 1 fI fdI ["self", "part"] (spXInit K "part" tIR) := ok_irinit FI B
  refine F.okX scRInit (fun vs H Q E h => ?_) (fun cdv A outer s H vs Q E hr h => ?_)
  · obtain ⟨p, dx, m, c, dm, dc, rfl, _⟩ := h
    rfl
  · obtain ⟨p, dx, m, c, dm, dc, rfl, hp, hm, nm, lm, hc, kc, e1, e2, k⟩ := h
    refine ⟨_, pss_cons (ps_if (pt_not (pt_val (pe_call GW (hr.mono (by decide)) (by rfl) gW FW.kp bW .nil pass0 (pa_cons (pv 1) pa_nil))))
          (pss_one (ps_raise rfl (takes_of rfl rfl rfl rfl) (pmk_oex X.oex iC tI GI (hr.mono (by decide)) bI .nil pass0 (by rfl) X.g (pa_cons pe_str pa_nil)))) pss_nil)
      (pss_cons (ps_set (i := 3) scRInit.nd rfl (.inl rfl) (pe_call GO hr (by rfl) gO FO.kp bO .nil pass0 (pa_cons (pv 2) pa_nil)))
      (pss_cons (ps_if (pt_cmpR op_isN (pv 3) pe_non (nomark _))
          (pss_one (ps_raise rfl (takes_of rfl rfl rfl rfl) (pmk_oex X.oex iC tI GI (hr.mono (by decide)) bI .nil pass0 (by rfl) X.g (pa_cons pe_str pa_nil)))) pss_nil)
      (pss_cons (ps_fld (pv 0) (pv 1) rfl) (pss_one (ps_fld (pv 0) (pv 3) rfl))))), ?_⟩
    refine ⟨_, rfl, m, dm, rfl, hm, nm, lm, fun H1 S1 => ⟨_, rfl, ?_⟩⟩
    refine ite2 (fun h1 => ?_) (fun h1 => ?_)
    · have h1' : isWord dm = false := by
        cases q : isWord dm with
        | false => rfl
        | true => rw [q] at h1; cases h1
      refine mkX_run (by decide +kernel) (by decide +kernel) X.oex nP fun d hd => ?_
      exact e1 h1' d _ (same_upd (S1.free hd) S1) (S1.free hd) upd_same
    · have h1' : isWord dm = true := by
        cases q : isWord dm with
        | true => rfl
        | false => rw [q] at h1; exact (h1 rfl).elim
      refine ⟨_, rfl, c, dc, rfl, same_dp S1 dc c hc, kc, fun a H2 S2 k1 k2 => ?_⟩
      have S3 : Same H H2 := S1.trans S2
      cases q : actsOf dc with
      | none =>
        cases k1 q
        refine ⟨_, rfl, rfl, _, rfl, ?_⟩
        refine iteT ?_
        refine mkX_run (by decide +kernel) (by decide +kernel) X.oex nP fun d hd => ?_
        exact e2 h1' q d _ (same_upd (S3.free hd) S3) (S3.free hd) upd_same
      | some ds =>
        obtain ⟨t, rfl, hdt⟩ := k2 ds q
        obtain ⟨z, rfl, _⟩ := word_str h1'
        cases hm
        refine ⟨_, rfl, rfl, _, rfl, ?_⟩
        refine iteF ?_
        have hp2 := S3 _ _ hp
        refine ⟨_, rfl, _, rfl, p, C, dx, _, rfl, hp2, R.cl, R.nM, (by show 0 < 1000; decide), _, rfl, _, rfl, p, C, dx, _, rfl, upd_same, R.cl, R.nC, (by show 1 < 1000; decide), ?_⟩
        refine k z ds _ rfl h1' q (fun b o hb e => ?_) ⟨dx, t, ?_, ?_⟩
        · rw [upd_ne hb, upd_ne hb]
          exact S3 b o e
        · rw [upd_same, rule_put]
          rfl
        · refine same_but hp2 ?_ _ _ hdt
          intro b o hb e
          rw [upd_ne hb, upd_ne hb]
          exact e
end
end LS
namespace LS
open PySem L2
abbrev sOdd : Stmt := top i__law_odd
abbrev sDraw : Stmt := top i__law_acts
/-- a drawn name: mild data -/
def Named (K : PySem.W.Frag) (H : Hp) (v : V) (d : PyData) : Prop := Dp K H v d ∧ noLs d = true ∧ SeqAt.shaped d = true ∧ (∀ z, d = .str z → z.length ≤ 1000) ∧ d ≠ .str "other"
def spOdd (K : PySem.W.Frag) : Sp := fun vs H Q _ => ∃ (r sc : Addr) (ns : List Int), vs = [.ref r] ∧ SqL K H sc (ns.map V.int) ∧ RowIs H r sc ∧
  ∀ (v : V) (d : PyData) (H' : Hp), Named K H' v d → RowIs H' r sc → SameBut r H H' → Q v H'
theorem at_mem {α : Type} {xs : List α} {k : Int} (h0 : 0 ≤ k) (h1 : k < (xs.length : Int)) : ∃ v, atI xs k = some v ∧ v ∈ xs := by
  have hk : k.toNat < xs.length := by omega
  refine ⟨xs[k.toNat], ?_, List.getElem_mem hk⟩
  have e := atI_nat (xs := xs) (j := k.toNat) (List.getElem?_eq_getElem hk)
  rw [show ((k.toNat : Nat) : Int) = k by omega] at e
  exact e
section
variable {P : Program} {w : World} {K : PySem.W.Frag} {mg : Str → Option Value} {base : Heap}
theorem scOdd : FnScope ["_law_row"] ["_law_row"] (defScope sOdd) := ⟨rfl, rfl, rfl, by decide +kernel, rfl, by decide +kernel, by decide +kernel⟩
theorem ok_odd {f fT : Addr} {fd fdT : FuncData} (F : Fun K "_law_odd" "_law_odd" sOdd f fd) (FT : Fun K "_law_taken" "_law_taken" sTaken fT fdT) (gT : mg "_law_taken" = some (.ref fT)) (bT : Binds K fdT ["_law_row", "_law_many"] []) (mL : mg "len" = none) (mI : mg "int" = none) :
    FnOk P w K mg base CX0 2 f fd ["_law_row"] (spOdd K) := by
  have GT : FnOk P w K mg base CX0 1 fT fdT ["_law_row", "_law_many"] (spTaken K) := ok_taken FT mL mI
  refine F.ok scOdd (fun vs H Q E h => ?_) (fun cdv A outer s H vs Q E hr h => ?_)
  · obtain ⟨r, sc, ns, rfl, _⟩ := h
    rfl
  · obtain ⟨r, sc, ns, rfl, hS, hR, k⟩ := h
    refine ⟨_, pss_one (ps_ret (pe_ix ix_list (pe_lst (pa_cons pe_str (pa_cons pe_str (pa_cons pe_str (pa_cons pe_str (pa_cons pe_str (pa_cons pe_str (pa_cons pe_int (pa_cons pe_bl (pa_cons pe_non (pa_cons (pe_tup (pa_cons pe_str pa_nil)) (pa_cons pe_str pa_nil))))))))))))
      (pe_call GT hr (by rfl) gT FT.kp bT .nil pass0 (pa_cons (pv 0) (pa_cons pe_int pa_nil))) (fun _ _ => rfl))), ?_⟩
    refine ⟨by show 1 ≤ sizeLine; decide, fun p hp => ?_⟩
    refine ⟨by show 11 ≤ sizeLine; decide, fun l hl => ?_⟩
    have hR1 : RowIs (upd H p (.tup [.str "pin"])) r sc := row_new hR hp
    have hR2 := row_new (o := .lst [V.str "pin", V.str "", V.str "Pin", V.str "pin9", V.str "abcdefgh", V.str "abcdefghi", V.int 3, V.bl true, V.non, V.ref p, V.str "pin "]) hR1 hl
    refine ⟨_, rfl, r, sc, ns, 11, rfl, by decide, by decide, seq_new (seq_new hS hp) hl, hR2, fun j H' h0 h1 hR' e => ?_⟩
    have hL : H' l = some (.lst [V.str "pin", V.str "", V.str "Pin", V.str "pin9", V.str "abcdefgh", V.str "abcdefghi", V.int 3, V.bl true, V.non, V.ref p, V.str "pin "]) := by
      rw [e l (row_ne hR2 upd_same fun a z => nomatch z), upd_same]
    have hlp : p ≠ l := fun z => by
      rw [z, upd_same] at hl
      cases hl
    have hP : H' p = some (.tup [.str "pin"]) := by
      rw [e p (row_ne hR1 upd_same fun a z => nomatch z), upd_ne hlp, upd_same]
    obtain ⟨v, hv, hm⟩ := at_mem (xs := [V.str "pin", V.str "", V.str "Pin", V.str "pin9", V.str "abcdefgh", V.str "abcdefghi", V.int 3, V.bl true, V.non, V.ref p, V.str "pin "]) h0 h1
    refine ⟨l, _, j, v, rfl, rfl, SqL.of hL, hv, ?_⟩
    have hB : SameBut r H H' := fun b o hb q => by
      have q2 := (same_upd (o := .tup [.str "pin"]) hp (Same.refl H)) b o q
      rw [e b hb, upd_ne (ne_of_none q2 hl)]
      exact q2
    have fin : ∀ z : Str, z.length ≤ 1000 → SeqAt.shaped (.str z) = true → ¬ z = "other" → Q (.str z) H' := fun z hz hs hn => k _ (.str z) H' ⟨.str z, rfl, hs, fun y q => by cases q; exact hz, fun q => hn (PyData.str.inj q)⟩ hR' hB
    simp only [List.mem_cons, List.not_mem_nil, or_false] at hm
    rcases hm with rfl | rfl | rfl | rfl | rfl | rfl | rfl | rfl | rfl | rfl | rfl
    · exact fin _ (by decide +kernel) (by decide +kernel) (by decide +kernel)
    · exact fin _ (by decide +kernel) (by decide +kernel) (by decide +kernel)
    · exact fin _ (by decide +kernel) (by decide +kernel) (by decide +kernel)
    · exact fin _ (by decide +kernel) (by decide +kernel) (by decide +kernel)
    · exact fin _ (by decide +kernel) (by decide +kernel) (by decide +kernel)
    · exact fin _ (by decide +kernel) (by decide +kernel) (by decide +kernel)
    · exact k _ (.int 3) H' ⟨.int 3, rfl, by decide +kernel, fun y q => (nomatch q), fun q => (nomatch q)⟩ hR' hB
    · exact k _ (.bool true) H' ⟨.bl true, rfl, by decide +kernel, fun y q => (nomatch q), fun q => (nomatch q)⟩ hR' hB
    · exact k _ .none H' ⟨.non, rfl, by decide +kernel, fun y q => (nomatch q), fun q => (nomatch q)⟩ hR' hB
    · exact k _ (.tuple [.str "pin"]) H' ⟨.tup (SqT.of hP) (.cons (.str _) .nil), by decide +kernel, by decide +kernel, fun y q => (nomatch q), fun q => (nomatch q)⟩ hR' hB
    · exact fin _ (by decide +kernel) (by decide +kernel) (by decide +kernel)
end
end LS
namespace LS
open PySem L2
def dOf : V → PyData
  | .bl b => .bool b
  | .int i => .int i
  | .str z => .str z
  | _ => .none
theorem dp_flat {K : PySem.W.Frag} {H : Hp} {v : V} (f : flatV v = true) : Dp K H v (dOf v) := by
  cases v with
  | non => exact .non
  | bl b => exact .bl b
  | int i => exact .int i
  | str z => exact .str z
  | _ => cases f
theorem dps_flat {K : PySem.W.Frag} {H : Hp} : ∀ {vs : List V}, (∀ v ∈ vs, flatV v = true) → DpAll K H vs (vs.map dOf)
  | [], _ => .nil
  | v :: vs, h => .cons (dp_flat (h v List.mem_cons_self)) (dps_flat fun u hu => h u (List.mem_cons_of_mem _ hu))
abbrev goodVs : List V := [.str "ok", .str "bad", .str "die", .str "done", .str "ignore", .str "reset", .int 1, .int 9]
/-- fit to stand in a control -/
def fitB (d : PyData) : Bool := noLs d && (d.canLay0 && (decide (d.depth ≤ 2) && match d with
  | .str z => decide (z.length ≤ 1000)
  | _ => true))
theorem depthAll_le {n : Nat} : ∀ {ds : List PyData}, (∀ d ∈ ds, d.depth ≤ n) → PyData.depthAll ds ≤ n
  | [], _ => by simp [PyData.depthAll]
  | d :: ds, h => by
    have h1 := h d List.mem_cons_self
    have h2 := depthAll_le (n := n) (ds := ds) fun e he => h e (List.mem_cons_of_mem _ he)
    simp only [PyData.depthAll]
    omega
theorem canAll {ds : List PyData} (h : ∀ d ∈ ds, d.canLay0 = true) : PyData.canLayAll0 ds = true := by
  induction ds with
  | nil => simp [PyData.canLayAll0]
  | cons d ds ih =>
    simp only [PyData.canLayAll0, Bool.and_eq_true]
    exact ⟨h d List.mem_cons_self, ih fun e he => h e (List.mem_cons_of_mem _ he)⟩
theorem fit_parts {d : PyData} (h : fitB d = true) : noLs d = true ∧ d.canLay0 = true ∧ d.depth ≤ 2 ∧ ∀ z, d = .str z → z.length ≤ 1000 := by
  unfold fitB at h
  rw [Bool.and_eq_true, Bool.and_eq_true, Bool.and_eq_true] at h
  refine ⟨h.1, h.2.1, of_decide_eq_true h.2.2.1, fun z e => ?_⟩
  subst e
  exact of_decide_eq_true h.2.2.2
theorem fit_mild {d : PyData} (h : fitB d = true) : Mild d := by
  obtain ⟨h1, h2, h3, h4⟩ := fit_parts h
  refine ⟨noList_of h1, ?_, h4⟩
  show (d.canLay0 && decide (d.depth ≤ 64)) = true
  rw [h2, decide_eq_true (by omega)]
  rfl
theorem noLss_of : ∀ {ds : List PyData}, (∀ d ∈ ds, noLs d = true) → noLss ds = true
  | [], _ => rfl
  | d :: ds, h => by
    show (noLs d && noLss ds) = true
    rw [h d List.mem_cons_self, noLss_of fun e he => h e (List.mem_cons_of_mem _ he)]
    rfl
/-- a tuple of fit things -/
theorem fit_tup {ds : List PyData} (hl : ds.length ≤ 1000) (h : ∀ d ∈ ds, fitB d = true) : noLs (.tuple ds) = true ∧ Ctl (.tuple ds) ∧ SeqAt.shaped (.tuple ds) = true := by
  refine ⟨noLss_of fun d hd => (fit_parts (h d hd)).1, ⟨True.intro, fun es e => ?_⟩, ?_⟩
  · cases e
    exact ⟨hl, fun d hd => fit_mild (h d hd)⟩
  · have h1 := canAll fun d hd => (fit_parts (h d hd)).2.1
    have h2 := depthAll_le (n := 2) fun d hd => (fit_parts (h d hd)).2.2.1
    show (PyData.canLay0 (.tuple ds) && decide (PyData.depth (.tuple ds) ≤ 64)) = true
    rw [Bool.and_eq_true]
    refine ⟨by simp only [PyData.canLay0]; exact h1, decide_eq_true ?_⟩
    simp only [PyData.depth]
    omega
/-- a drawn control, and whether it is one -/
def spDraw (K : PySem.W.Frag) : Sp := fun vs H Q _ => ∃ (r sc : Addr) (ns : List Int), vs = [.ref r] ∧ SqL K H sc (ns.map V.int) ∧ RowIs H r sc ∧
  ∀ (t : Addr) (c : V) (d : PyData) (k : Bool) (H' : Hp), H' t = some (.tup [c, .bl k]) → Dp K H' c d → noLs d = true → Ctl d → SeqAt.shaped d = true → (k = true → ∃ ds, d = .tuple ds ∧ actsOf d = some ds) → (k = false → actsOf d = none) →
    RowIs H' r sc → SameBut r H H' → Q (.ref t) H'
section
variable {P : Program} {w : World} {K : PySem.W.Frag} {mg : Str → Option Value} {base : Heap}
abbrev nDraw : List Str := ["_law_row", "_law_good", "_law_acts_here", "_law_way", "_law_k"]
theorem scDraw : FnScope nDraw ["_law_row"] (defScope sDraw) := ⟨rfl, rfl, rfl, by decide +kernel, rfl, by decide +kernel, by decide +kernel⟩
theorem acts_no {ds : List PyData} (h : ds.length ≠ 4) : actsOf (.tuple ds) = none := if_neg fun q => h q.1
theorem dps_set {K : PySem.W.Frag} {H : Hp} {v : V} {d : PyData} (h : Dp K H v d) : ∀ {vs : List V} {ds : List PyData} {j : Nat}, DpAll K H vs ds → DpAll K H (vs.set j v) (ds.set j d)
  | _, _, _, .nil => .nil
  | _, _, 0, .cons _ t => .cons h t
  | _, _, j + 1, .cons q t => .cons q (dps_set h t)
theorem cut_mem {v x0 x1 x2 x3 : V} (h : v ∈ [x0, x1, x2]) : v ∈ [x0, x1, x2, x3] := by
  simp only [List.mem_cons, List.not_mem_nil, or_false] at h ⊢
  rcases h with h | h | h
  · exact .inl h
  · exact .inr (.inl h)
  · exact .inr (.inr (.inl h))
theorem draw {r sc : Addr} {ns : List Int} {m : Int} {σ : St} {H : Hp} {Q : VK} (h0 : σ[0]? = some (some (.ref r))) (hm0 : 0 < m) (hm1 : m < 1000) (hS : SqL K H sc (ns.map V.int)) (hR : RowIs H r sc)
    (k : ∀ (j : Int) (H' : Hp), 0 ≤ j → j < m → RowIs H' r sc → (∀ q, q ≠ r → H' q = H q) → Q (.int j) H') : tCall (spTaken K) [] E0 (tCons (tVar 0) (tCons (tC (.int m)) tNil)) σ H Q := ⟨_, h0, r, sc, ns, m, rfl, hm0, by omega, hS, hR, k⟩
theorem ok_draw {f fT : Addr} {fd fdT : FuncData} (F : Fun K "_law_acts" "_law_acts" sDraw f fd) (FT : Fun K "_law_taken" "_law_taken" sTaken fT fdT) (gT : mg "_law_taken" = some (.ref fT)) (bT : Binds K fdT ["_law_row", "_law_many"] []) (mL : mg "len" = none) (mI : mg "int" = none)
    (mR : mg "range" = none) (mT : mg "tuple" = none) : FnOk P w K mg base CX0 2 f fd ["_law_row"] (spDraw K) := by
  have GT : FnOk P w K mg base CX0 1 fT fdT ["_law_row", "_law_many"] (spTaken K) := ok_taken FT mL mI
  refine F.ok scDraw (fun vs H Q E h => ?_) (fun cdv A outer s H vs Q E hr h => ?_)
  · obtain ⟨r, sc, ns, rfl, _⟩ := h
    rfl
  · obtain ⟨r, sc, ns, rfl, hS, hR, k⟩ := h
    refine ⟨_, pss_cons (ps_set (i := 1) scDraw.nd rfl (.inr rfl) (pe_lst (pa_cons pe_str (pa_cons pe_str (pa_cons pe_str (pa_cons pe_str (pa_cons pe_str (pa_cons pe_str (pa_cons pe_int (pa_cons pe_int pa_nil))))))))))
      (pss_cons (ps_setLc (i := 2) (own := [("_law_k", 4)]) (g := gName 4) (by rfl) scDraw.nd rfl rfl (sw_true rfl rfl rfl (by decide +kernel)) (pi_range1 (by rfl) mR (pa_cons pe_int pa_nil)) (blkOk_by (own := [("_law_k", 4)]) (N := nDraw) (sc := defScope sDraw) (by decide +kernel))
          (fun _ _ _ _ _ => pg_name (i := 4) scDraw.nd rfl (Or.inl rfl)) (fun _ _ _ _ _ => pts_nil) (fun _ _ _ _ _ => pe_ix (r := rIxL K) ix_list (pv 1) (pe_call GT hr (by rfl) gT FT.kp bT .nil pass0 (pa_cons (pv 0) (pa_cons pe_int pa_nil))) (fun _ _ => rfl)))
      (pss_cons (ps_set (i := 3) scDraw.nd rfl (.inl rfl) (pe_call GT hr (by rfl) gT FT.kp bT .nil pass0 (pa_cons (pv 0) (pa_cons pe_int pa_nil))))
      (pss_cons (ps_if (pt_cmpR op_eq (pv 3) pe_int (nomark _))
          (pss_cons (ps_asg (pe_ix ix_list (pe_lst (pa_cons pe_str (pa_cons pe_int (pa_cons pe_int (pa_cons pe_bl (pa_cons pe_non (pa_cons pe_str (pa_cons (pe_un un_neg pe_int) (pa_cons (pe_tup (pa_cons pe_str pa_nil)) pa_nil)))))))))
              (pe_call GT hr (by rfl) gT FT.kp bT .nil pass0 (pa_cons (pv 0) (pa_cons pe_int pa_nil))) (fun _ _ => rfl)) (pg_sub (pv 2) (pe_call GT hr (by rfl) gT FT.kp bT .nil pass0 (pa_cons (pv 0) (pa_cons pe_int pa_nil))) set_list))
            (pss_one (ps_ret (pe_tup (pa_cons (pe_callTy call_tuple_of (by rfl) mT (by decide +kernel) (pa_cons (pv 2) pa_nil)) (pa_cons pe_bl pa_nil)))))) pss_nil)
      (pss_cons (ps_if (pt_cmpR op_eq (pv 3) pe_int (nomark _))
          (pss_one (ps_ret (pe_ifExp (pt_cmpR op_eq (pe_call GT hr (by rfl) gT FT.kp bT .nil pass0 (pa_cons (pv 0) (pa_cons pe_int pa_nil))) pe_int (nomark _))
            (pe_tup (pa_cons (pe_callTy call_tuple_of (by rfl) mT (by decide +kernel) (pa_cons (pe_slice sl_list (pv 2) po_none (po_some pe_int)) pa_nil)) (pa_cons pe_bl pa_nil)))
            (pe_tup (pa_cons (pe_callTy call_tuple_of (by rfl) mT (by decide +kernel) (pa_cons (pe_op op_cat (pv 2) (pe_lst (pa_cons pe_str pa_nil))) pa_nil)) (pa_cons pe_bl pa_nil)))))) pss_nil)
      (pss_cons (ps_if (pt_cmpR op_eq (pv 3) pe_int (nomark _))
          (pss_one (ps_ret (pe_tup (pa_cons (pe_ix ix_list (pe_lst (pa_cons pe_str (pa_cons pe_str (pa_cons pe_int (pa_cons pe_non (pa_cons pe_bl (pa_cons pe_str pa_nil))))))) (pe_call GT hr (by rfl) gT FT.kp bT .nil pass0 (pa_cons (pv 0) (pa_cons pe_int pa_nil))) (fun _ _ => rfl)) (pa_cons pe_bl pa_nil))))) pss_nil)
      (pss_one (ps_ret (pe_tup (pa_cons (pe_callTy call_tuple_of (by rfl) mT (by decide +kernel) (pa_cons (pv 2) pa_nil)) (pa_cons pe_bl pa_nil)))))))))), ?_⟩
    refine ⟨by show 8 ≤ sizeLine; decide, fun g hg => ?_⟩
    have post : ∀ (H5 : Hp) (vs : List V) (ds : List PyData) (kk : Bool) (t1 t2 : Addr), DpAll K H5 vs ds → (∀ d ∈ ds, fitB d = true) → ds.length ≤ 1000 → (kk = true → actsOf (.tuple ds) = some ds) → (kk = false → actsOf (.tuple ds) = none) →
        RowIs H5 r sc → SameBut r H H5 → H5 t1 = none → upd H5 t1 (.tup vs) t2 = none → Q (.ref t2) (upd (upd H5 t1 (.tup vs)) t2 (.tup [.ref t1, .bl kk])) := fun H5 vs ds kk t1 t2 hd hf hl h1 h2 hR5 hB n1 n2 => by
      obtain ⟨a1, a2, a3⟩ := fit_tup hl hf
      have S1 : Same H5 (upd H5 t1 (.tup vs)) := same_upd n1 (Same.refl _)
      have S2 : Same (upd H5 t1 (.tup vs)) (upd (upd H5 t1 (.tup vs)) t2 (.tup [.ref t1, .bl kk])) := same_upd n2 (Same.refl _)
      refine k t2 (.ref t1) (.tuple ds) kk _ upd_same (.tup (SqT.of (S2 _ _ upd_same)) (same_dps (S1.trans S2) ds vs hd)) a1 a2 a3 (fun q => ⟨ds, rfl, h1 q⟩) h2 (row_new (row_new hR5 n1) n2) (hB.trans (SameBut.of (S1.trans S2)))
    have hR0 : RowIs (upd H g (.lst goodVs)) r sc := row_new hR hg
    have hS0 : SqL K (upd H g (.lst goodVs)) sc (ns.map V.int) := seq_new hS hg
    have hB0 : SameBut r H (upd H g (.lst goodVs)) := SameBut.of (same_upd hg (Same.refl H))
    have hG0 : (upd H g (.lst goodVs)) g = some (.lst goodVs) := upd_same
    have hgr : g ≠ r := row_ne hR0 hG0 fun a z => nomatch z
    have goodF : ∀ v ∈ goodVs, flatV v = true ∧ isAction (dOf v) = true ∧ fitB (dOf v) = true := by decide +kernel
    show tSeq _ _ _ _ (upd H g (.lst goodVs))
    generalize upd H g (.lst goodVs) = H0 at *
    refine ⟨4, rfl, by decide, by decide, fun D hD => ?_⟩
    have hDr : D ≠ r := fun z => by
      obtain ⟨_, _, _, _, q⟩ := hR0
      rw [z, q] at hD
      cases hD
    refine lc_range (lo := 0) (n := 4) (fun i H' => RowIs H' r sc ∧ SameBut r H0 H' ∧ ∃ acc, H' D = some (.lst acc) ∧ acc.length = i ∧ ∀ v ∈ acc, v ∈ goodVs) ⟨row_new hR0 hD, SameBut.of (same_upd hD (Same.refl _)), [], upd_same, rfl, fun v hv => nomatch hv⟩ ?_ ?_
    · rintro i H1 hi ⟨hR1, hB1, acc, hL, hlen, hall⟩
      refine ⟨rfl, yes_of ?_⟩
      refine ⟨_, rfl, draw (r := r) (sc := sc) (ns := ns) rfl (by decide) (by decide) (seq_row hS0 hR0 hB1) hR1 fun j H2 j0 j1 hR2 e => ?_⟩
      obtain ⟨v, hv, hm⟩ := at_mem (xs := goodVs) j0 j1
      refine ⟨g, _, j, v, rfl, rfl, SqL.of ((e g hgr).trans (hB1 g _ hgr hG0)), hv, acc, (e D hDr).trans hL, ?_, ?_, ?_, acc ++ [v], upd_same, ?_, ?_⟩
      · have hs2 := sizeLine_eq
        omega
      · obtain ⟨a1, a2, a3, a4, a5⟩ := hR2
        exact ⟨a1, a2, a3, a4, by rw [upd_ne hDr.symm]; exact a5⟩
      · refine fun b o hb q => ?_
        rw [upd_ne (ne_of_none q hD)]
        exact (e b hb).trans (hB1 b o hb q)
      · rw [List.length_append, hlen]
        rfl
      · intro u hu
        rcases List.mem_append.mp hu with q | q
        · exact hall u q
        · rw [List.mem_singleton.mp q]
          exact hm
    · rintro H1 ⟨hR1, hB1, acc, hL, hlen, hall⟩
      have hS1 := seq_row hS0 hR0 hB1
      refine draw (r := r) (sc := sc) (ns := ns) rfl (by decide) (by decide) hS1 hR1 fun way H2 w0 w1 hR2 e2 => ?_
      have hB2 : SameBut r H0 H2 := hB1.trans (but_of e2)
      have hL2 : H2 D = some (.lst acc) := (e2 D hDr).trans hL
      have hS2 := seq_row hS0 hR0 hB2
      have accF : ∀ v ∈ acc, flatV v = true := fun v hv => (goodF v (hall v hv)).1
      have accA : ∀ d ∈ acc.map dOf, isAction d = true := fun d hd => by
        obtain ⟨v, hv, rfl⟩ := List.mem_map.mp hd
        exact (goodF v (hall v hv)).2.1
      have accT : ∀ d ∈ acc.map dOf, fitB d = true := fun d hd => by
        obtain ⟨v, hv, rfl⟩ := List.mem_map.mp hd
        exact (goodF v (hall v hv)).2.2
      refine ⟨_, rfl, rfl, _, rfl, ?_⟩
      refine ite2 (fun hw0 => ?_) (fun hw0 => ?_)
      · refine ⟨1, rfl, by show 1 ≤ sizeLine; decide, fun p hp => ⟨by show 8 ≤ sizeLine; decide, fun l hl => ?_⟩⟩
        have hRp : RowIs (upd H2 p (.tup [.str "ok"])) r sc := row_new hR2 hp
        have hP0 : upd H2 p (.tup [.str "ok"]) p = some (.tup [.str "ok"]) := upd_same
        have hBp : SameBut r H0 (upd H2 p (.tup [.str "ok"])) := hB2.trans (SameBut.of (same_upd hp (Same.refl _)))
        have hLp : upd H2 p (.tup [.str "ok"]) D = some (.lst acc) := (same_upd hp (Same.refl _)) _ _ hL2
        generalize upd H2 p (.tup [.str "ok"]) = H3 at *
        have hR4 : RowIs (upd H3 l (.lst [.str "OK", .int 0, .int 10, .bl true, .non, .str "required", .int (-1), .ref p])) r sc := row_new hRp hl
        have hM0 : upd H3 l (.lst [.str "OK", .int 0, .int 10, .bl true, .non, .str "required", .int (-1), .ref p]) l = some (.lst [.str "OK", .int 0, .int 10, .bl true, .non, .str "required", .int (-1), .ref p]) := upd_same
        have hB4 : SameBut r H3 (upd H3 l (.lst [.str "OK", .int 0, .int 10, .bl true, .non, .str "required", .int (-1), .ref p])) := SameBut.of (same_upd hl (Same.refl _))
        show tCall (spTaken K) [] E0 (tCons (tVar 0) (tCons (tC (V.int 8)) tNil)) _ (upd H3 l (.lst [.str "OK", .int 0, .int 10, .bl true, .non, .str "required", .int (-1), .ref p])) _
        generalize upd H3 l (.lst [.str "OK", .int 0, .int 10, .bl true, .non, .str "required", .int (-1), .ref p]) = H4 at *
        have hS4 := seq_row hS0 hR0 (hBp.trans hB4)
        refine draw (r := r) (sc := sc) (ns := ns) rfl (by decide) (by decide) hS4 hR4 fun j H5 j0 j1 hR5 e5 => ?_
        obtain ⟨v, hv, hm⟩ := at_mem (xs := [V.str "OK", .int 0, .int 10, .bl true, .non, .str "required", .int (-1), .ref p]) j0 j1
        have hlr : l ≠ r := row_ne hR4 hM0 fun a z => nomatch z
        refine ⟨l, _, j, v, rfl, rfl, SqL.of ((e5 l hlr).trans hM0), hv, _, rfl, ?_⟩
        have hB5 : SameBut r H3 H5 := hB4.trans (but_of e5)
        have hS5 := seq_row hS0 hR0 (hBp.trans hB5)
        refine draw (r := r) (sc := sc) (ns := ns) rfl (by decide) (by decide) hS5 hR5 fun i H6 i0 i1 hR6 e6 => ?_
        have hB6 : SameBut r H3 H6 := hB5.trans (but_of e6)
        have hL6 : H6 D = some (.lst acc) := hB6 D _ hDr hLp
        have hpr : p ≠ r := row_ne hRp hP0 fun a z => nomatch z
        have hP6 : H6 p = some (.tup [.str "ok"]) := hB6 p _ hpr hP0
        have hDp : p ≠ D := fun z => by
          rw [z, hL6] at hP6
          cases hP6
        refine ⟨D, acc, i, i.toNat, rfl, rfl, hL6, ?_, ?_⟩
        · unfold ixN
          rw [if_pos i0, if_pos (by rw [hlen]; exact i1)]
        · obtain ⟨dv, hdv, hna, hfv⟩ : ∃ dv, (∀ H7, (∀ b, b ≠ D → H7 b = H6 b) → Dp K H7 v dv) ∧ isAction dv = false ∧ fitB dv = true := by
            simp only [List.mem_cons, List.not_mem_nil, or_false] at hm
            rcases hm with rfl | rfl | rfl | rfl | rfl | rfl | rfl | rfl
            · exact ⟨.str _, fun _ _ => .str _, by decide +kernel, by decide +kernel⟩
            · exact ⟨.int _, fun _ _ => .int _, by decide +kernel, by decide +kernel⟩
            · exact ⟨.int _, fun _ _ => .int _, by decide +kernel, by decide +kernel⟩
            · exact ⟨.bool _, fun _ _ => .bl _, by decide +kernel, by decide +kernel⟩
            · exact ⟨.none, fun _ _ => .non, by decide +kernel, by decide +kernel⟩
            · exact ⟨.str _, fun _ _ => .str _, by decide +kernel, by decide +kernel⟩
            · exact ⟨.int _, fun _ _ => .int _, by decide +kernel, by decide +kernel⟩
            · exact ⟨.tuple [.str "ok"], fun H7 e => .tup (SqT.of ((e p hDp).trans hP6)) (.cons (.str _) .nil), by decide +kernel, by decide +kernel⟩
          have eD : ∀ b, b ≠ D → upd H6 D (.lst (acc.set i.toNat v)) b = H6 b := fun b hb => upd_ne hb
          have hL7 : upd H6 D (.lst (acc.set i.toNat v)) D = some (.lst (acc.set i.toNat v)) := upd_same
          have hR7 : RowIs (upd H6 D (.lst (acc.set i.toNat v))) r sc := by
            obtain ⟨a1, a2, a3, a4, a5⟩ := hR6
            exact ⟨a1, a2, a3, a4, by rw [upd_ne hDr.symm]; exact a5⟩
          have hB7 : SameBut r H (upd H6 D (.lst (acc.set i.toNat v))) := fun b o hb q => by
            have q0 := hB0 b o hb q
            rw [upd_ne (ne_of_none q0 hD)]
            exact hB6 b o hb (hBp b o hb q0)
          refine ⟨_, rfl, D, _, rfl, .inl ⟨SqL.of hL7, fun t1 n1 => ⟨by show 2 ≤ sizeLine; decide, fun t2 n2 => ?_⟩⟩⟩
          have hit : i.toNat < (acc.map dOf).length := by
            rw [List.length_map, hlen]
            omega
          refine post _ (acc.set i.toNat v) ((acc.map dOf).set i.toNat dv) false t1 t2 (dps_set (hdv _ eD) (dps_flat accF)) (fun d hd => ?_) (by rw [List.length_set, List.length_map, hlen]; decide) (fun q => nomatch q) (fun _ => if_neg fun q => ?_) hR7 hB7 n1 n2
          · rcases List.mem_or_eq_of_mem_set hd with q | q
            · exact accT d q
            · rw [q]
              exact hfv
          · have q2 := List.all_eq_true.mp q.2 dv (List.mem_of_getElem? (i := i.toNat) (by rw [List.getElem?_set_self hit]))
            rw [hna] at q2
            cases q2
      · refine ⟨_, rfl, rfl, _, rfl, ?_⟩
        refine ite2 (fun hw1 => ?_) (fun hw1 => ?_)
        · refine draw (r := r) (sc := sc) (ns := ns) rfl (by decide) (by decide) hS2 hR2 fun j H3 j0 j1 hR3 e3 => ?_
          have hB3 : SameBut r H0 H3 := hB2.trans (but_of e3)
          have hL3 : H3 D = some (.lst acc) := (e3 D hDr).trans hL2
          refine ⟨rfl, _, rfl, ?_⟩
          obtain ⟨x0, x1, x2, x3, rfl⟩ : ∃ x0 x1 x2 x3, acc = [x0, x1, x2, x3] := match acc, hlen with
            | [x0, x1, x2, x3], _ => ⟨x0, x1, x2, x3, rfl⟩
          refine ite2 (fun hj => ?_) (fun hj => ?_)
          · refine ⟨_, rfl, 3, rfl, D, _, rfl, SqL.of hL3, fun p np => ?_⟩
            have hc : cutV [x0, x1, x2, x3] none (some 3) = [x0, x1, x2] := rfl
            rw [hc]
            refine ⟨p, _, rfl, .inl ⟨SqL.of upd_same, fun t1 n1 => ⟨by show 2 ≤ sizeLine; decide, fun t2 n2 => ?_⟩⟩⟩
            refine post _ [x0, x1, x2] ([x0, x1, x2].map dOf) false t1 t2 (dps_flat fun v hv => accF v (cut_mem hv)) (fun d hd => ?_) (by show 3 ≤ 1000; decide) (fun q => nomatch q) (fun _ => acts_no (fun z => by cases z)) (row_new hR3 np) ((hB0.trans hB3).trans (SameBut.of (same_upd np (Same.refl _)))) n1 n2
            obtain ⟨v, hv, rfl⟩ := List.mem_map.mp hd
            exact accT _ (List.mem_map_of_mem (cut_mem hv))
          · refine ⟨_, rfl, by show 1 ≤ sizeLine; decide, fun l nl => ?_⟩
            refine ⟨D, l, _, _, rfl, rfl, (same_upd nl (Same.refl _)) _ _ hL3, upd_same, by show 5 ≤ sizeLine; decide, fun p np => ?_⟩
            have hRl : RowIs (upd H3 l (.lst [.str "ok"])) r sc := row_new hR3 nl
            have hBl : SameBut r H (upd H3 l (.lst [.str "ok"])) := (hB0.trans hB3).trans (SameBut.of (same_upd nl (Same.refl _)))
            generalize upd H3 l (.lst [.str "ok"]) = H4 at *
            refine ⟨p, _, rfl, .inl ⟨SqL.of upd_same, fun t1 n1 => ⟨by show 2 ≤ sizeLine; decide, fun t2 n2 => ?_⟩⟩⟩
            refine post _ ([x0, x1, x2, x3] ++ [.str "ok"]) (([x0, x1, x2, x3] ++ [V.str "ok"]).map dOf) false t1 t2 (dps_flat fun v hv => ?_) (fun d hd => ?_) (by show 5 ≤ 1000; decide) (fun q => nomatch q) (fun _ => acts_no (fun z => by cases z)) (row_new hRl np) (hBl.trans (SameBut.of (same_upd np (Same.refl _)))) n1 n2
            · rcases List.mem_append.mp hv with q | q
              · exact accF v q
              · rw [List.mem_singleton.mp q]
                rfl
            · obtain ⟨v, hv, rfl⟩ := List.mem_map.mp hd
              rcases List.mem_append.mp hv with q | q
              · exact accT _ (List.mem_map_of_mem q)
              · rw [List.mem_singleton.mp q]
                decide +kernel
        · refine ⟨_, rfl, rfl, _, rfl, ?_⟩
          refine ite2 (fun hw2 => ?_) (fun hw2 => ?_)
          · refine ⟨by show 6 ≤ sizeLine; decide, fun l nl => ?_⟩
            have hR3 : RowIs (upd H2 l (.lst [.str "need", .str "", .int 4, .non, .bl false, .str "Required"])) r sc := row_new hR2 nl
            have hM0 : upd H2 l (.lst [.str "need", .str "", .int 4, .non, .bl false, .str "Required"]) l = some (.lst [.str "need", .str "", .int 4, .non, .bl false, .str "Required"]) := upd_same
            have hB3 : SameBut r H0 (upd H2 l (.lst [.str "need", .str "", .int 4, .non, .bl false, .str "Required"])) := hB2.trans (SameBut.of (same_upd nl (Same.refl _)))
            show tCall (spTaken K) [] E0 (tCons (tVar 0) (tCons (tC (V.int 6)) tNil)) _ (upd H2 l (.lst [.str "need", .str "", .int 4, .non, .bl false, .str "Required"])) _
            generalize upd H2 l (.lst [.str "need", .str "", .int 4, .non, .bl false, .str "Required"]) = H3 at *
            refine draw (r := r) (sc := sc) (ns := ns) rfl (by decide) (by decide) (seq_row hS0 hR0 hB3) hR3 fun j H4 j0 j1 hR4 e4 => ?_
            obtain ⟨v, hv, hm⟩ := at_mem (xs := [V.str "need", .str "", .int 4, .non, .bl false, .str "Required"]) j0 j1
            have hlr : l ≠ r := row_ne hR3 hM0 fun a z => nomatch z
            refine ⟨l, _, j, v, rfl, rfl, SqL.of ((e4 l hlr).trans hM0), hv, by show 2 ≤ sizeLine; decide, fun t nt => ?_⟩
            have oddF : ∀ v ∈ [V.str "need", .str "", .int 4, .non, .bl false, .str "Required"], flatV v = true ∧ noLs (dOf v) = true ∧ SeqAt.shaped (dOf v) = true ∧ isTup (dOf v) = false := by decide +kernel
            obtain ⟨f1, f2, f3, f4⟩ := oddF v hm
            have f5 : actsOf (dOf v) = none := by
              simp only [List.mem_cons, List.not_mem_nil, or_false] at hm
              rcases hm with rfl | rfl | rfl | rfl | rfl | rfl
              · exact congrArg (Option.map (·.map PyData.str)) (by decide +kernel : looked "need" ctrlTab = none)
              · exact congrArg (Option.map (·.map PyData.str)) (by decide +kernel : looked "" ctrlTab = none)
              · rfl
              · rfl
              · rfl
              · exact congrArg (Option.map (·.map PyData.str)) (by decide +kernel : looked "Required" ctrlTab = none)
            refine k t v (dOf v) false _ upd_same (dp_flat f1) f2 ⟨noList_of f2, fun ds q => ?_⟩ f3 (fun q => nomatch q) (fun _ => f5) (row_new hR4 nt) ((hB0.trans (hB3.trans (but_of e4))).trans (SameBut.of (same_upd nt (Same.refl _))))
            rw [q] at f4
            cases f4
          · refine ⟨_, rfl, D, acc, rfl, .inl ⟨SqL.of hL2, fun t1 n1 => ⟨by show 2 ≤ sizeLine; decide, fun t2 n2 => ?_⟩⟩⟩
            refine post H2 acc (acc.map dOf) true t1 t2 (dps_flat accF) accT (by rw [List.length_map, hlen]; decide) (fun _ => if_pos ⟨by rw [List.length_map, hlen], List.all_eq_true.mpr accA⟩) (fun q => nomatch q) hR2 (hB0.trans hB2) n1 n2
end
end LS
namespace LSK
open PySem PySem.Spec PyProof.Rows PySem.SeqAt PySem.W
section
variable {M : Model} {prog : Program} {w : World} {A : Around} {E : Value → Shared → Prop} {s : Shared} {K : Frag} {x y C f : Addr} {ox oy : Obj} {od od' : Option Obj}
theorem boundNe {args : List Value} {Q : Option Value → Shared → Prop} (X : K.In s.heap) (I : InstAt s.heap x ox C od) (hs : findIn K (.ref C) "__ne__" = some (some (.builtin "object.__ne__")))
    (h : wpAny M A (call (.builtin "object.__ne__") (.ref x :: args)) (fun v => Q (some v)) E s) : wpAny M A (callSpecialIfBound? (.ref x) "__ne__" args) Q E s := by
  simp only [callSpecialIfBound?, bindSpecialIfBound?]
  refine wpAny_holding (wpAny_bind (wpAny_bind (wpAny_bind (I.type.here ((looks_findIn X hs).here ?_)))))
  refine wpAny_bind (wpAny_askSetting (wpAny_ite ?_))
  have last : wpAny M A (call (.builtin "object.__ne__") ([.ref x] ++ args) >>= fun v => pure (some v)) Q E s := wpAny_bind (wpAny_mono h (fun v s' q => wpAny_pure q) fun _ _ q => q)
  split
  · exact wpAny_bind (wpAny_of_eq (F.cmp_object.ne.bind _) (wpAny_pure (by exact last)))
  · exact wpAny_tryCatch (wpAny_bind (wpAny_of_eq (F.cmp_object.ne.bind _) (wpAny_pure (by exact last))))
theorem entryNe (X : K.In s.heap) (I : InstAt s.heap x ox C od) (he : findIn K (.ref C) "__eq__" = some (some (.ref f))) (hf : isFn K (.ref f) = true) (hu : A.units < cLine) {Q : Fin → Shared → Prop}
    (hcall : wpAny (model prog w) A (call (.ref f) [.ref x, .ref y]) (fun v s' => ∃ b, v = .bool b ∧ Q (.done (.ret (.bool (!b)))) s') E s) : wpAny (model prog w) A (Builtin.«object.__ne__» ⟨[.ref x, .ref y], []⟩) Q E s := by
  unfold Builtin.«object.__ne__»
  repeat (first
    | with_reducible refine wpAny_cRoomFor hu ?_
    | (refine wpAny_bind (m := callSpecialIfBound? (.ref x) (Str.ofString "__eq__") [.ref y]) (ifBound_K X I he hf (wpAny_mono hcall (fun r s' hr => by
          obtain ⟨b, rfl, hq⟩ := hr
          repeat (first | exact hq | exact wpAny_pure hq | exact wpAny_truthy_bool hq | (refine wpAny_bind (m := truthy (.bool _)) (wpAny_truthy_bool ?_)) | wp_step)) fun _ _ e => e)))
    | wp_step)
theorem tryNe (X : K.In s.heap) (I : InstAt s.heap x ox C od) (hn : findIn K (.ref C) "__ne__" = some (some (.builtin "object.__ne__"))) (he : findIn K (.ref C) "__eq__" = some (some (.ref f))) (hf : isFn K (.ref f) = true)
    (hm : mroIn K C (.type "object") = some true) (hu : A.units + 1 < cLine) {Q : Option Value → Shared → Prop}
    (hcall : wpAny (model prog w) A.in1 (call (.ref f) [.ref x, .ref y]) (fun v s' => ∃ b, v = .bool b ∧ Q (some (.bool (!b))) s') E s) : wpAny (model prog w) A (tryCompare (.ref x) "__ne__" (.ref y)) Q E s := by
  simp only [tryCompare]
  refine wpAny_bind (boundNe X I hn (wpAny_call (codeAny_call_builtin F.cmp_object.ne.plain F.cmpEntry_ne
    (check_slot F.cmpKind_ne F.cmpSplit_ne (I.type.andThen (looks_mroIn X hm)) (F.cmpArgs_ne _ _) (entryNe (A := A.in1) X I he hf hu (wpAny_mono hcall (fun v s' hv => ?_) fun _ _ e => e))))))
  obtain ⟨b, rfl, hq⟩ := hv
  first | exact ⟨b, rfl, wpAny_pure hq⟩ | exact ⟨b, rfl, wpAny_pure (wpAny_pure hq)⟩ | exact ⟨b, rfl, hq⟩
theorem richNe (X : K.In s.heap) (I : InstAt s.heap x ox C od) (J : InstAt s.heap y oy C od') (hn : findIn K (.ref C) "__ne__" = some (some (.builtin "object.__ne__"))) (he : findIn K (.ref C) "__eq__" = some (some (.ref f))) (hf : isFn K (.ref f) = true)
    (hm : mroIn K C (.type "object") = some true) (hu : A.units + 1 < cLine) {Q : Value → Shared → Prop}
    (hcall : wpAny (model prog w) A.in1 (call (.ref f) [.ref x, .ref y]) (fun v s' => ∃ b, v = .bool b ∧ Q (.bool (!b)) s') E s) : wpAny (model prog w) A (richCompare .NotEq (.ref x) (.ref y)) Q E s := by
  unfold richCompare
  simp only [oneThing_ref]
  refine wpAny_holding (wpAny_bind (wpAny_cRoomFor (Nat.lt_of_succ_lt hu) ?_))
  rw [cmpInfo_NotEq]
  dsimp only
  refine wpAny_bind (I.type.here (wpAny_bind (J.type.here ?_)))
  rw [show (Value.ref C != Value.ref C) = false from by simp]
  simp only [Bool.false_eq_true, if_false]
  refine wpAny_bind (wpAny_pure ?_)
  simp only [Bool.false_eq_true, if_false]
  refine wpAny_bind (tryNe X I hn he hf hm hu (wpAny_mono hcall (fun v s' hv => ?_) fun _ _ e => e))
  obtain ⟨b, rfl, hq⟩ := hv
  first | exact ⟨b, rfl, wpAny_pure hq⟩ | exact ⟨b, rfl, wpAny_pure (wpAny_pure hq)⟩
end
end LSK
namespace LS
open PySem L2
/-- two instances of C by the own ==, whose promise is sp -/
def rEqI (C : Addr) (sp : Sp) (neg : Bool) : R2 := fun x y H Q => ∃ a b dx dy fs gs, x = .ref a ∧ y = .ref b ∧ H a = some (.ins C dx fs) ∧ H b = some (.ins C dy gs) ∧ sp [.ref a, .ref b] H (fun v H' => ∃ k, v = .bl k ∧ Q (.bl (if neg then !k else k)) H') E0
section
variable {X : Cx} {n : Nat} {C f : Addr} {fd : FuncData} {ps : List Str} {sp : Sp}
theorem op_eqI (F : FnOk X.prog X.w X.K X.mg X.base CX0 n f fd ps sp) (hr : Room n X.A) (hs : PySem.W.findIn X.K (.ref C) "__eq__" = some (some (.ref f))) (hf : PySem.W.isFn X.K (.ref f) = true) (hb : Binds X.K fd ps []) :
    OpR X (compareOp .Eq) (rEqI C sp false) := by
  intro pins s σ H x y v u Q I rx ry h
  obtain ⟨a, b, dx, dy, fs, gs, rfl, rfl, ha, hb', hsp⟩ := h
  cases rx
  cases ry
  obtain ⟨mA, J, _⟩ := ins_get I.hok ha
  obtain ⟨mB, J', _⟩ := ins_get I.hok hb'
  obtain ⟨od, J, _⟩ := J.look
  obtain ⟨od', J', _⟩ := J'.look
  obtain ⟨m, hF⟩ := I.fr
  show wpAny (model X.prog X.w) X.A (richCompare .Eq (.ref a) (.ref b)) (EP X pins σ Q) X.xe s
  refine PySem.W.cmp_K (op := .Eq) (tb := .ref C) hr.units0 hF I.ok.mod.kin J J'.type (by simp [PySem.W.notFirst]) hs hf ?_
  refine wpAny_mono (run_fn (us := [.ref a, .ref b]) (vs := [.ref a, .ref b]) F hr hb .nil pass0 I (.cons rfl (.cons rfl .nil)) hsp) (fun v s' z => ?_) fun _ _ e => e
  obtain ⟨r, H', I', rv, kk, er, q⟩ := z
  subst er
  cases rv
  rw [if_neg Bool.false_ne_true] at q
  exact ⟨.bl kk, H', I', rfl, q⟩
theorem op_neI (F : FnOk X.prog X.w X.K X.mg X.base CX0 n f fd ps sp) (hr : Room (n + 1) X.A) (hs : PySem.W.findIn X.K (.ref C) "__eq__" = some (some (.ref f))) (hf : PySem.W.isFn X.K (.ref f) = true) (hb : Binds X.K fd ps [])
    (hn : PySem.W.findIn X.K (.ref C) "__ne__" = some (some (.builtin "object.__ne__"))) (hm : PySem.W.mroIn X.K C (.type "object") = some true) : OpR X (compareOp .NotEq) (rEqI C sp true) := by
  intro pins s σ H x y v u Q I rx ry h
  obtain ⟨a, b, dx, dy, fs, gs, rfl, rfl, ha, hb', hsp⟩ := h
  cases rx
  cases ry
  obtain ⟨mA, J, _⟩ := ins_get I.hok ha
  obtain ⟨mB, J', _⟩ := ins_get I.hok hb'
  obtain ⟨od, J, _⟩ := J.look
  obtain ⟨od', J', _⟩ := J'.look
  show wpAny (model X.prog X.w) X.A (richCompare .NotEq (.ref a) (.ref b)) (EP X pins σ Q) X.xe s
  refine LSK.richNe I.kIn J J' hn hs hf hm (by have := hr.un; omega) ?_
  have hl := F.len _ _ _ _ hsp
  refine wpAny_call (codeAny_mono (F.run X.A.in1 X.stack s H ⟨[.ref a, .ref b], []⟩ [.ref a, .ref b] [.ref a, .ref b] _ E0 hr.in1 I.env0.in1 (by
    have q := hb s [.ref a, .ref b] I.kIn (by simpa using hl)
    simpa using q) (.cons rfl (.cons rfl .nil)) hsp) fun r s' hq => ?_)
  cases r with
  | error e => exact (show False from hq).elim
  | ok fl =>
    cases fl with
    | ret w =>
      obtain ⟨z, H', I', rz, kk, ez, q⟩ := I.after hq
      subst ez
      cases rz
      rw [if_pos rfl] at q
      exact ⟨kk, rfl, .bl (!kk), H', I', rfl, q⟩
    | next => exact False.elim hq
    | brk => exact False.elim hq
    | cont => exact False.elim hq
end
def kindV (ds : List PyData) : V := match ctrlTab.find? (fun r => PyData.eqv (.tuple (r.2.map PyData.str)) (.tuple ds)) with
  | some r => .str r.1
  | none => .non
/-- equal rules -/
def eqRule (z z' : Str) (ds ds' : List PyData) : Bool := decide (z = z') && PyData.eqv (.tuple ds) (.tuple ds')
def spREq (K : PySem.W.Frag) (C : Addr) : Sp := fun vs H Q _ => ∃ (p q : Addr) (z z' : Str) (ds ds' : List PyData), vs = [.ref p, .ref q] ∧ RuleAt K C H p z ds ∧ RuleAt K C H q z' ds' ∧ SeqAt.shaped (.tuple ds) = true ∧ SeqAt.shaped (.tuple ds') = true ∧
  Q (.bl (eqRule z z' ds ds')) H
def spKind (K : PySem.W.Frag) (C : Addr) : Sp := fun vs H Q _ => ∃ (p : Addr) (z : Str) (ds : List PyData), vs = [.ref p] ∧ RuleAt K C H p z ds ∧ SeqAt.shaped (.tuple ds) = true ∧ Q (kindV ds) H
structure InstK (K : PySem.W.Frag) (C : Addr) : Prop where
  ha : PySem.W.findIn K (.ref C) "__class__" = some (some (.builtin "object.__class__"))
  hn : PySem.W.specialIn K (.builtin "object.__class__") "__get__" = some (some (.builtin "getset_descriptor.__get__"))
  ht : PySem.W.takesIn K (.builtin "object.__class__") = some true
  hm : PySem.W.mroIn K C (.type "object") = some true
theorem kit_self {K : PySem.W.Frag} {C : Addr} : PySem.W.kitOne K (.ref C) (.ref C) = some true := by
  unfold PySem.W.kitOne
  rw [if_pos (by simp)]
theorem rule_m {z : Str} {a : Addr} : (ruleF z a).lookup ("_module" : Str) = some (.str z) := by
  show ([(("_module" : Str), V.str z), (("_control" : Str), V.ref a)] : List (Str × V)).lookup ("_module" : Str) = some (.str z)
  simp [List.lookup]
theorem rule_c {z : Str} {a : Addr} : (ruleF z a).lookup ("_control" : Str) = some (.ref a) := by
  show ([(("_module" : Str), V.str z), (("_control" : Str), V.ref a)] : List (Str × V)).lookup ("_control" : Str) = some (.ref a)
  have e : (("_control" : Str) == ("_module" : Str)) = false := by decide +kernel
  simp [List.lookup, e]
section
variable {P : Program} {w : World} {K : PySem.W.Frag} {mg : Str → Option Value} {base : Heap}
theorem scREq : FnScope ["self", "other"] ["self", "other"] (defScope sREq) := ⟨rfl, rfl, rfl, by decide +kernel, rfl, by decide +kernel, by decide +kernel⟩
theorem ok_req {f C : Addr} {fd : FuncData} (F : Fun K "__eq__" "Rule.__eq__" sREq f fd) (R : RuleK K mg C) (N : InstK K C) (isi : mg "isinstance" = none) : FnOk P w K mg base CX0 1 f fd ["self", "other"] (spREq K C) := by
  refine F.ok scREq (fun vs H Q E h => ?_) (fun cdv A outer s H vs Q E hr h => ?_)
  · obtain ⟨p, q, z, z', ds, ds', rfl, _⟩ := h
    rfl
  · obtain ⟨p, q, z, z', ds, ds', rfl, ⟨dx, a, hp, hd⟩, ⟨dy, b, hq, hd'⟩, s1, s2, k⟩ := h
    have hu : (A.deeper (PyProof.Rows.envOfC "Rule.__eq__" (defScope sREq) s.heap.objs.size f cdv)).units + 64 < cLine := by have := hr.un; omega
    refine ⟨_, pss_one (ps_ret (pe_and (pe_callB call_isi (by rfl) isi (by decide +kernel) (pa_cons (pv 1) (pa_cons (pe_glob (v := .ref C) (by rfl) R.g rfl) pa_nil)))
      (pe_and (pe_cmpR op_eq (pe_fld (pv 0) rfl) (pe_fld (pv 1) rfl) (nomark _)) (pe_one (pe_cmpR (op_eqD hu) (pe_fld (pv 0) rfl) (pe_fld (pv 1) rfl) (nomark _)))))), ?_⟩
    refine ⟨_, rfl, .ref q, .ref C, .ref C, .ref C, true, rfl, .own C, .base (.ins hq R.cl N.ha N.hn N.ht N.hm), kit_self, _, rfl, ?_⟩
    refine iteT ?_
    refine ⟨_, rfl, p, C, dx, _, _, rfl, hp, R.cl, R.nM, rule_m, _, rfl, q, C, dy, _, _, rfl, hq, R.cl, R.nM, rule_m, rfl, _, rfl, ?_⟩
    have e : decide (V.str z = V.str z') = decide (z = z') := by
      by_cases h : z = z'
      · rw [h]
        simp
      · rw [decide_eq_false h, decide_eq_false (fun q => h (V.str.inj q))]
    rw [e]
    refine ite2 (fun h => ?_) (fun h => ?_)
    · refine ⟨_, rfl, p, C, dx, _, _, rfl, hp, R.cl, R.nC, rule_c, _, rfl, q, C, dy, _, _, rfl, hq, R.cl, R.nC, rule_c, _, _, hd, hd', s1, s2, ?_⟩
      unfold eqRule at k
      rw [h, Bool.true_and] at k
      exact k
    · unfold eqRule at k
      rw [Bool.eq_false_iff.mpr h, Bool.false_and] at k
      exact k
theorem scRKind : FnScope ["self", "word"] ["self"] (defScope sRKind) := ⟨rfl, rfl, rfl, by decide +kernel, rfl, by decide +kernel, by decide +kernel⟩
theorem ctrl_keys {K : PySem.W.Frag} : ∀ {es : List DictEntry} {rs : List (Str × List Str)}, CtrlEs K es rs → es.length = rs.length ∧ ∀ (i : Nat) (z : Str), (rs.map (·.1))[i]? = some z → ∃ (en : DictEntry) (t : Tok), es[i]? = some en ∧ en.key = .str z t
  | [], [], _ => ⟨rfl, fun i z h => by simp at h⟩
  | e :: es, r :: rs, ⟨⟨t, a, hk, hv, hs⟩, h⟩ => by
    obtain ⟨h1, h2⟩ := ctrl_keys h
    refine ⟨congrArg (· + 1) h1, fun i z hz => ?_⟩
    cases i with
    | zero =>
      simp at hz
      subst hz
      exact ⟨e, t, rfl, hk⟩
    | succ i => exact h2 i z (by simpa using hz)
theorem kget_dct {dC : Addr} {z : Str} {a : Addr} (h : KGet K w dC z (.ref a)) : KDct K w dC z (.ref a) := by
  obtain ⟨es, n, r, hl, hk, _, hns, h1, h2⟩ := h
  cases r with
  | none => cases h2 rfl
  | some u => exact ⟨es, n, u, hl, hk, hns, h1 u rfl⟩
theorem looked_at : ∀ (i : Nat) (r : Str × List Str), ctrlTab[i]? = some r → looked r.1 ctrlTab = some r.2
  | 0, r, h => by cases h; decide +kernel
  | 1, r, h => by cases h; decide +kernel
  | 2, r, h => by cases h; decide +kernel
  | 3, r, h => by cases h; decide +kernel
  | i + 4, r, h => by
    have q := (List.getElem?_eq_some_iff.mp h).1
    have e : ctrlTab.length = 4 := rfl
    omega
theorem ok_kind {f C dC : Addr} {fd : FuncData} (F : Fun K "kind" "Rule.kind" sRKind f fd) (R : RuleK K mg C) (D : CtrlK K w mg dC) : FnOk P w K mg base CX0 1 f fd ["self"] (spKind K C) := by
  refine F.ok scRKind (fun vs H Q E h => ?_) (fun cdv A outer s H vs Q E hr h => ?_)
  · obtain ⟨p, z, ds, rfl, _⟩ := h
    rfl
  · obtain ⟨p, z, ds, rfl, ⟨dx, a, hp, hd⟩, s1, k⟩ := h
    have hu : (A.deeper (PyProof.Rows.envOfC "Rule.kind" (defScope sRKind) s.heap.objs.size f cdv)).units + 64 < cLine := by have := hr.un; omega
    refine ⟨_, pss_cons (ps_for PassesOwn.never rfl (pi_kkeys (pe_glob (v := .ref dC) (by rfl) D.g rfl)) (pg_name (i := 1) scRKind.nd rfl (Or.inl rfl))
        (pss_one (ps_if (pt_cmpR (op_eqD hu) (pe_ix ix_kdict (pe_glob (v := .ref dC) (by rfl) D.g rfl) (pv 1) (fun _ _ => rfl)) (pe_fld (pv 0) rfl) (nomark _)) (pss_one (ps_ret (pv 1))) pss_nil)))
      (pss_one (ps_ret pe_non)), ?_⟩
    obtain ⟨es, n, hl, hk, hc⟩ := D.ex
    obtain ⟨c1, c2⟩ := ctrl_keys hc
    refine ⟨dC, ctrlTab.map (·.1), rfl, ⟨es, n, hl, D.sys, by rw [← Array.length_toList, c1, List.length_map], fun i z hz => ?_⟩, ?_⟩
    · obtain ⟨en, t, e1, e2⟩ := c2 i z hz
      exact ⟨en, t, by rw [← Array.getElem?_toList]; exact e1, e2⟩
    refine for_it walk_kk (fun i σ H' => H' = H ∧ (∃ v, σ = [some (.ref p), v]) ∧ (ctrlTab.take i).find? (fun r => PyData.eqv (.tuple (r.2.map PyData.str)) (.tuple ds)) = none) ⟨rfl, ⟨none, rfl⟩, rfl⟩ (fun _ _ _ _ _ => True.intro) ?_ ?_
    · rintro i x σ H1 H2 hi ⟨rfl, ⟨v, rfl⟩, hf⟩ ⟨rfl, zz, hz, rfl⟩
      obtain ⟨r, hr1, rfl⟩ : ∃ r, ctrlTab[i]? = some r ∧ r.1 = zz := by
        rw [List.getElem?_map] at hz
        cases e : ctrlTab[i]? with
        | none => rw [e] at hz; cases hz
        | some r => rw [e] at hz; exact ⟨r, rfl, Option.some.inj hz⟩
      have hlk := looked_at i r hr1
      obtain ⟨acts, ta, e1, e2, e3⟩ : ∃ acts ta, looked r.1 ctrlTab = some acts ∧ KGet K w dC r.1 (.ref ta) ∧ ∀ H, SqT K H ta (acts.map V.str) := by
        rcases ctrl_ns D r.1 with ⟨q, _⟩ | q
        · rw [hlk] at q
          cases q
        · exact q
      rw [hlk] at e1
      cases e1
      have hsh : SeqAt.shaped (.tuple (r.2.map PyData.str)) = true := by
        have all4 : ∀ r ∈ ctrlTab, SeqAt.shaped (.tuple (r.2.map PyData.str)) = true := by decide +kernel
        exact all4 r (List.mem_of_getElem? hr1)
      refine ⟨_, rfl, dC, r.1, .ref ta, rfl, rfl, kget_dct e2, _, rfl, p, C, dx, _, _, rfl, hp, R.cl, R.nC, rule_c, _, _, .tup (e3 H2) (words_dp _), hd, hsh, s1, _, rfl, ?_⟩
      have ft : (ctrlTab.take (i + 1)).find? (fun r => PyData.eqv (.tuple (r.2.map PyData.str)) (.tuple ds)) = if PyData.eqv (.tuple (r.2.map PyData.str)) (.tuple ds) = true then some r else none := by
        rw [List.take_add_one, hr1, List.find?_append, hf]
        rw [Option.none_or, Option.toList_some, List.find?_cons]
        cases PyData.eqv (.tuple (r.2.map PyData.str)) (.tuple ds) <;> rfl
      refine ite2 (fun h => ?_) (fun h => ?_)
      · refine ⟨_, rfl, ?_⟩
        rw [if_pos h] at ft
        have e : ctrlTab.find? (fun r => PyData.eqv (.tuple (r.2.map PyData.str)) (.tuple ds)) = some r := by
          rw [← List.take_append_drop (i + 1) ctrlTab, List.find?_append, ft]
          rfl
        unfold kindV at k
        rw [e] at k
        exact k
      · rw [if_neg h] at ft
        exact ⟨rfl, ⟨_, rfl⟩, ft⟩
    · rintro σ H1 ⟨rfl, ⟨v, rfl⟩, hf⟩
      have e : ctrlTab.find? (fun r => PyData.eqv (.tuple (r.2.map PyData.str)) (.tuple ds)) = none := hf
      unfold kindV at k
      rw [e] at k
      exact k
end
end LS
namespace LS
open PySem L2
abbrev sRaised : Stmt := top i__law_raised
/-- the classes of errors that the law knows -/
structure ErrK (K : PySem.W.Frag) (mg : Str → Option Value) (CS CI : Addr) : Prop where
  gS : mg "StackError" = some (.ref CS)
  gVE : mg "ValueError" = none
  isi : mg "isinstance" = none
  exc : ExcC K CI
  xf : XfC K CI
  nP : PySem.W.findIn K (.ref CI) "part" = some none
  ve : PySem.W.kitOne K (.ref CI) (.type "ValueError") = some true
  exm : PySem.W.exmOne K (.ref CI) (.ref CS) = some true
  gI : mg "InvalidRule" = some (.ref CI)
  c1 : ∃ C, mg "InvalidStack" = some (.ref C) ∧ PySem.W.kitOne K (.ref CI) (.ref C) = some false
  c2 : ∃ C, mg "InvalidAnswers" = some (.ref C) ∧ PySem.W.kitOne K (.ref CI) (.ref C) = some false
  c3 : ∃ C, mg "InvalidWeights" = some (.ref C) ∧ PySem.W.kitOne K (.ref CI) (.ref C) = some false
  c4 : ∃ C, mg "UnknownRule" = some (.ref C) ∧ PySem.W.kitOne K (.ref CI) (.ref C) = some false
  c5 : ∃ C, mg "InvalidPlace" = some (.ref C) ∧ PySem.W.kitOne K (.ref CI) (.ref C) = some false
  c6 : ∃ C, mg "TooMany" = some (.ref C) ∧ PySem.W.kitOne K (.ref CI) (.ref C) = some false
  c7 : ∃ C, mg "UnknownModule" = some (.ref C) ∧ PySem.W.kitOne K (.ref CI) (.ref C) = some false
  c8 : ∃ C, mg "InvalidMode" = some (.ref C) ∧ PySem.W.kitOne K (.ref CI) (.ref C) = some false
  c9 : ∃ C, mg "UnknownView" = some (.ref C) ∧ PySem.W.kitOne K (.ref CI) (.ref C) = some false
/-- what the law's helper makes of a call: nothing raised: None; an InvalidRule: its part in a new tuple -/
def TRaised (CI : Addr) : (XK → Hp → VK → Prop) → Hp → VK → Prop := fun tl H Q =>
  tl (fun cls d H' => cls = .ref CI ∧ ∃ dd z, d = some dd ∧ H' dd = some (.xd [("part", .str z)]) ∧ ∀ H'' p, Same H' H'' → H'' p = some (.tup [.str "rule", .str z]) → Q (.ref p) H'') H fun _ H1 => Q .non H1
section
variable {X : Cx} {CS CI : Addr}
abbrev nRaised : List Str := ["_law_work", "e", "_law_kinds", "_law_at"]
theorem scRaised : FnScope nRaised ["_law_work"] (defScope sRaised) := ⟨rfl, rfl, rfl, by decide +kernel, rfl, by decide +kernel, by decide +kernel⟩
abbrev zR (X : Cx) (g : Addr) (cdg : Value) (s : Shared) (H : Hp) : Cx := (cxOf C8.CX0 X.prog X.w X.K X.mg X.base nRaised "_law_raised" (defScope sRaised) g cdg X.A X.stack s H C8.E0).nox
def suiteOf : List Stmt → List Stmt
  | .Try _ [.ExceptHandler _ _ s _] _ _ _ :: _ => s
  | _ => []
def tIs (K : PySem.W.Frag) (a : Addr) (cls : Value) (d : Option Addr) (c : V) : TE := tCB (rIsD K a cls d) (tCons (tVar 1) (tCons (tC c) tNil))
def tIs3 (K : PySem.W.Frag) (a : Addr) (cls : Value) (d : Option Addr) (c1 c2 c3 : Addr) : TE := tLst (tCons (tIs K a cls d (.ref c1)) (tCons (tIs K a cls d (.ref c2)) (tCons (tIs K a cls d (.ref c3)) tNil)))
def tsR (K : PySem.W.Frag) (CI D1 D2 D3 D4 D5 D6 D7 D8 D9 : Addr) (a : Addr) (cls : Value) (d : Option Addr) : TS :=
  tSeq (tAsg (tIs3 K a cls d CI D1 D2) (gName 2)) (tSeq (tAsg (tOp rCat (tVar 2) (tIs3 K a cls d D3 D4 D5)) (gName 2)) (tSeq (tAsg (tOp rCat (tVar 2) (tIs3 K a cls d D6 D7 D8)) (gName 2))
    (tSeq (tDrop (tBM K "list" rAppend (tVar 2) (tCons (tIs K a cls d (.ref D9)) tNil)))
    (tSeq (tIfS (tOr (tTest (tOp rNe (tBM K "list" (rCntF K) (tVar 2) (tCons (tC (.bl true)) tNil)) (tC (.int 1)))) (tNot (tB (tIs K a cls d (.ty "ValueError"))))) tNever tNext)
    (tSeq (tAsg (tBM K "list" (rIndexD K) (tVar 2) (tCons (tC (.bl true)) tNil)) (gName 3))
    (tSeq (tIfS (tTest (tOp rEq (tVar 3) (tC (.int 0)))) (tRet (tTup (tCons (tC (.str "rule")) (tCons (tXf a cls d CI "part" (tVar 1)) tNil)))) tNext) tNever))))))
theorem is_run {K : PySem.W.Frag} {a dd : Addr} {fs : List (Str × V)} {c : V} {cv : Value} {b : Bool} {σ : St} {H : Hp} {Q : VK} (h1 : σ[1]? = some (some (.ref a))) (hx : ExcC K CI) (hd : H dd = some (.xd fs)) (hc : ∀ u, RelV c u → u = cv)
    (hk : PySem.W.kitOne K (.ref CI) cv = some b) (q : Q (.bl b) H) : tIs K a (.ref CI) (some dd) c σ H Q := ⟨.ref a, h1, CI, c, cv, b, dd, fs, rfl, hx, rfl, hd, rfl, hc, hk, q⟩
theorem part_at {z : Str} : ([(("part" : Str), V.str z)] : List (Str × V)).lookup ("part" : Str) = some (.str z) := by simp [List.lookup]
theorem seq_set {te : TE} {i : Nat} {u : TS} {D : Ends} {σ : St} {H : Hp} (h : te σ H fun x H1 => u D (σ.set i (some x)) H1) : tSeq (tAsg te (gName i)) u D σ H := h
/-- the slots are as many as the names -/
theorem pss_len {Y : Cx} {l : List Stmt} {t : TS} (h : PSs Y l t) : PSs Y l (fun D σ H => σ.length = Y.N.length → t D σ H) := ⟨fun pins s σ H D I q => h.run pins s σ H D I (q I.len)⟩
theorem suite_raised {g : Addr} {cdg : Value} {s : Shared} {H : Hp} (T : ErrK X.K X.mg CS CI) (hu : X.A.units + 200 < cLine) : ∃ ts : Addr → Value → Option Addr → TS,
    (∀ (a : Addr) (oe : Obj) (cls : Value) (d : Option Addr) (pn : List (Addr × Obj)), Zc cls d oe → (∃ vs, oe.data = .fields vs) → PSs ((zR X g cdg s H).suite a ((a, oe) :: pn)) (suiteOf (defBody sRaised)) (ts a cls d)) ∧
    ∀ (a dd : Addr) (z : Str) (D : Ends) (H' : Hp) (f : St), H' dd = some (.xd [("part", .str z)]) → (∀ H'' p, Same H' H'' → H'' p = some (.tup [.str "rule", .str z]) → D.rt (.ref p) H'') → f.length = 4 → ts a (.ref CI) (some dd) D (f.set 1 (some (.ref a))) H' := by
  obtain ⟨D1, g1, k1⟩ := T.c1
  obtain ⟨D2, g2, k2⟩ := T.c2
  obtain ⟨D3, g3, k3⟩ := T.c3
  obtain ⟨D4, g4, k4⟩ := T.c4
  obtain ⟨D5, g5, k5⟩ := T.c5
  obtain ⟨D6, g6, k6⟩ := T.c6
  obtain ⟨D7, g7, k7⟩ := T.c7
  obtain ⟨D8, g8, k8⟩ := T.c8
  obtain ⟨D9, g9, k9⟩ := T.c9
  have hu1 : ∀ a : Addr, ((X.A.deeper (PyProof.Rows.envOfC "_law_raised" (defScope sRaised) s.heap.objs.size g cdg)).mark (some (.ref a))).units + 65 < cLine := fun a => by
    show X.A.units + 3 + 65 < cLine
    omega
  have isE : ∀ (a : Addr) (oe : Obj) (cls : Value) (d : Option Addr) (pn : List (Addr × Obj)), Zc cls d oe → (∃ vs, oe.data = .fields vs) → ∀ {c : Str} {C : Addr} {p1 p2 p3 p4 : Pos}, Gl (zR X g cdg s H) c → X.mg c = some (.ref C) → (hd : (c == ("__debug__" : Str)) = false := by decide) →
      PE ((zR X g cdg s H).suite a ((a, oe) :: pn)) (.Call (.Name "isinstance" p1) [.Name "e" p2, .Name c p3] [] p4) (tCB (rIsD X.K a cls d) (tCons (tVar 1) (tCons (tC (.ref C)) tNil))) := fun a oe cls d pn hz hf c C p1 p2 p3 p4 hg hm hd =>
    pe_callB (call_isD (X := zR X g cdg s H) hz hf) (by rfl) T.isi (by decide +kernel) (pa_cons (pv 1) (pa_cons (pe_glob (v := .ref C) hg hm rfl hd) pa_nil))
  have isV : ∀ (a : Addr) (oe : Obj) (cls : Value) (d : Option Addr) (pn : List (Addr × Obj)), Zc cls d oe → (∃ vs, oe.data = .fields vs) → ∀ {p1 p2 p3 p4 : Pos},
      PE ((zR X g cdg s H).suite a ((a, oe) :: pn)) (.Call (.Name "isinstance" p1) [.Name "e" p2, .Name "ValueError" p3] [] p4) (tCB (rIsD X.K a cls d) (tCons (tVar 1) (tCons (tC (.ty "ValueError")) tNil))) := fun a oe cls d pn hz hf p1 p2 p3 p4 =>
    pe_callB (call_isD (X := zR X g cdg s H) hz hf) (by rfl) T.isi (by decide +kernel) (pa_cons (pv 1) (pa_cons (pe_bltn (v := .ty "ValueError") (by rfl) T.gVE (by decide +kernel) rfl) pa_nil))
  refine ⟨tsR X.K CI D1 D2 D3 D4 D5 D6 D7 D8 D9, fun a oe cls d pn hz hf => (pss_cons (ps_set (i := 2) scRaised.nd rfl (.inl rfl) (pe_lst (pa_cons (isE a oe cls d pn hz hf (by rfl) T.gI) (pa_cons (isE a oe cls d pn hz hf (by rfl) g1) (pa_cons (isE a oe cls d pn hz hf (by rfl) g2) pa_nil)))))
        (pss_cons (ps_set (i := 2) scRaised.nd rfl (.inl rfl) (pe_op op_cat (pv 2) (pe_lst (pa_cons (isE a oe cls d pn hz hf (by rfl) g3) (pa_cons (isE a oe cls d pn hz hf (by rfl) g4) (pa_cons (isE a oe cls d pn hz hf (by rfl) g5) pa_nil))))))
        (pss_cons (ps_set (i := 2) scRaised.nd rfl (.inl rfl) (pe_op op_cat (pv 2) (pe_lst (pa_cons (isE a oe cls d pn hz hf (by rfl) g6) (pa_cons (isE a oe cls d pn hz hf (by rfl) g7) (pa_cons (isE a oe cls d pn hz hf (by rfl) g8) pa_nil))))))
        (pss_cons (ps_expr (pe_bm PySem.F.plainAttrs_list PySem.F.slot_list_append PySem.F.type_list_append mt_append (pv 2) (pa_cons (isE a oe cls d pn hz hf (by rfl) g9) pa_nil)))
        (pss_cons (ps_if (PW.pt (pw_or (pt_cmpR op_ne (pe_bm PySem.F.plainAttrs_list PySem.F.slot_list_count PySem.F.type_list_count mt_countF (pv 2) (pa_cons pe_bl pa_nil)) pe_int (nomark _)) (pw_or1 (pt_not (pt_val (isV a oe cls d pn hz hf)))))) pss_never pss_nil)
        (pss_cons (ps_set (i := 3) scRaised.nd rfl (.inl rfl) (pe_bm PySem.F.plainAttrs_list PySem.F.slot_list_index PySem.F.type_list_index (mt_indexD (hu1 a)) (pv 2) (pa_cons pe_bl pa_nil)))
        (pss_cons (ps_if (pt_cmpR op_eq (pv 3) pe_int (nomark _)) (pss_one (ps_ret (pe_tup (pa_cons pe_str (pa_cons (pe_xf (X := zR X g cdg s H) T.xf T.nP hz hf (pv 1)) pa_nil))))) pss_nil)
        pss_never))))))), ?_⟩
  intro a dd z D H' f hdd hk hf4
  obtain ⟨s0, s1, s2, s3, rfl⟩ : ∃ s0 s1 s2 s3, f = [s0, s1, s2, s3] := match f, hf4 with
    | [s0, s1, s2, s3], _ => ⟨s0, s1, s2, s3, rfl⟩
  have F3 : ∀ {σ : St} {H : Hp} {Q : VK} {c1 c2 c3 : Addr} {b1 b2 b3 : Bool}, σ[1]? = some (some (.ref a)) → H dd = some (.xd [("part", .str z)]) → PySem.W.kitOne X.K (.ref CI) (.ref c1) = some b1 → PySem.W.kitOne X.K (.ref CI) (.ref c2) = some b2 → PySem.W.kitOne X.K (.ref CI) (.ref c3) = some b3 →
      (∀ l, H l = none → Q (.ref l) (upd H l (.lst [.bl b1, .bl b2, .bl b3]))) → tIs3 X.K a (.ref CI) (some dd) c1 c2 c3 σ H Q := fun {σ H Q c1 c2 c3 b1 b2 b3} h1 hd k1 k2 k3 q =>
    is_run h1 T.exc hd (fun _ r => r) k1 (is_run h1 T.exc hd (fun _ r => r) k2 (is_run h1 T.exc hd (fun _ r => r) k3 ⟨by show 3 ≤ sizeLine; decide, q⟩))
  show tsR X.K CI D1 D2 D3 D4 D5 D6 D7 D8 D9 a (.ref CI) (some dd) D [s0, some (.ref a), s2, s3] H'
  unfold tsR
  refine seq_set (F3 rfl hdd kit_self k1 k2 fun l1 n1 => ?_)
  have S1 : Same H' (upd H' l1 (.lst [.bl true, .bl false, .bl false])) := same_upd n1 (Same.refl _)
  have e1 : upd H' l1 (.lst [.bl true, .bl false, .bl false]) l1 = some (.lst [.bl true, .bl false, .bl false]) := upd_same
  generalize upd H' l1 (.lst [.bl true, .bl false, .bl false]) = H1 at *
  refine ⟨_, rfl, F3 rfl (S1 _ _ hdd) k3 k4 k5 fun l2 n2 => ?_⟩
  have S2 : Same H1 (upd H1 l2 (.lst [.bl false, .bl false, .bl false])) := same_upd n2 (Same.refl _)
  have e2 : upd H1 l2 (.lst [.bl false, .bl false, .bl false]) l2 = some (.lst [.bl false, .bl false, .bl false]) := upd_same
  generalize upd H1 l2 (.lst [.bl false, .bl false, .bl false]) = H2 at *
  refine ⟨l1, l2, _, _, rfl, rfl, S2 _ _ e1, e2, by show 6 ≤ sizeLine; decide, fun l3 n3 => ?_⟩
  have S3 : Same H2 (upd H2 l3 (.lst ([V.bl true, .bl false, .bl false] ++ [V.bl false, .bl false, .bl false]))) := same_upd n3 (Same.refl _)
  have e3 : upd H2 l3 (.lst ([V.bl true, .bl false, .bl false] ++ [V.bl false, .bl false, .bl false])) l3 = some (.lst ([V.bl true, .bl false, .bl false] ++ [V.bl false, .bl false, .bl false])) := upd_same
  generalize upd H2 l3 (.lst ([V.bl true, .bl false, .bl false] ++ [V.bl false, .bl false, .bl false])) = H3 at *
  have T3 : Same H' H3 := (S1.trans S2).trans S3
  refine ⟨_, rfl, F3 rfl (T3 _ _ hdd) k6 k7 k8 fun l4 n4 => ?_⟩
  have S4 : Same H3 (upd H3 l4 (.lst [.bl false, .bl false, .bl false])) := same_upd n4 (Same.refl _)
  have e4 : upd H3 l4 (.lst [.bl false, .bl false, .bl false]) l4 = some (.lst [.bl false, .bl false, .bl false]) := upd_same
  generalize upd H3 l4 (.lst [.bl false, .bl false, .bl false]) = H4 at *
  refine ⟨l3, l4, _, _, rfl, rfl, S4 _ _ e3, e4, by show 9 ≤ sizeLine; decide, fun l5 n5 => ?_⟩
  have T4 : Same H' H4 := T3.trans S4
  have n5' : H' l5 = none := T4.free n5
  have T5 : Same H' (upd H4 l5 (.lst ([V.bl true, .bl false, .bl false] ++ [V.bl false, .bl false, .bl false] ++ [V.bl false, .bl false, .bl false]))) := same_upd n5' T4
  have e5 : upd H4 l5 (.lst ([V.bl true, .bl false, .bl false] ++ [V.bl false, .bl false, .bl false] ++ [V.bl false, .bl false, .bl false])) l5 = some (.lst ([V.bl true, .bl false, .bl false] ++ [V.bl false, .bl false, .bl false] ++ [V.bl false, .bl false, .bl false])) := upd_same
  generalize upd H4 l5 (.lst ([V.bl true, .bl false, .bl false] ++ [V.bl false, .bl false, .bl false] ++ [V.bl false, .bl false, .bl false])) = H5 at *
  refine ⟨_, rfl, .inl ⟨rfl, _, SqL.of e5⟩, is_run rfl T.exc (T5 _ _ hdd) (fun _ r => r) k9 ⟨l5, _, _, rfl, rfl, e5, by show 9 < sizeLine; decide, ?_⟩⟩
  have T6 : Same H' (upd H5 l5 (.lst ([V.bl true, .bl false, .bl false] ++ [V.bl false, .bl false, .bl false] ++ [V.bl false, .bl false, .bl false] ++ [V.bl false]))) := same_upd n5' T5
  have e6 : upd H5 l5 (.lst ([V.bl true, .bl false, .bl false] ++ [V.bl false, .bl false, .bl false] ++ [V.bl false, .bl false, .bl false] ++ [V.bl false])) l5 = some (.lst ([true, false, false, false, false, false, false, false, false, false].map V.bl)) := upd_same
  generalize upd H5 l5 (.lst ([V.bl true, .bl false, .bl false] ++ [V.bl false, .bl false, .bl false] ++ [V.bl false, .bl false, .bl false] ++ [V.bl false])) = H6 at *
  refine ⟨_, rfl, .inl ⟨rfl, _, SqL.of e6⟩, l5, _, .bl true, rfl, rfl, SqL.of e6, rfl, rfl, rfl, _, rfl, ?_⟩
  refine iteF ?_
  refine is_run rfl T.exc (T6 _ _ hdd) (fun _ r => r) T.ve ⟨_, rfl, ?_⟩
  refine iteF ?_
  have dps : ∀ bs : List Bool, DpAll X.K H6 (bs.map V.bl) (bs.map PyData.bool) := fun bs => by
    induction bs with
    | nil => exact .nil
    | cons b bs ih => exact .cons (.bl b) ih
  refine ⟨_, rfl, .inl ⟨rfl, _, SqL.of e6⟩, l5, .bl true, .bool true, _, 0, .bool true, rfl, rfl, .lst (SqL.of e6) (dps _), .bl true, by decide +kernel, by decide +kernel, rfl, rfl, fun m z' hm => (nomatch hm), ?_⟩
  refine ⟨_, rfl, rfl, _, rfl, ?_⟩
  refine iteT ?_
  refine ⟨_, rfl, rfl, rfl, dd, _, .str z, rfl, T6 _ _ hdd, part_at, by show 2 ≤ sizeLine; decide, fun p hp => ?_⟩
  exact hk _ p (same_upd (T6.free hp) T6) upd_same
theorem gives_raised {g : Addr} {cdg : Value} {q : Str} (T : ErrK X.K X.mg CS CI) (hu : X.A.units + 200 < cLine) : LamX.GivesTo X nRaised "_law_raised" (defScope sRaised) g cdg (defBody sRaised) "_law_work" q (TRaised CI) := by
  intro f c' s H Q tl act hc h
  obtain ⟨ts, h1, h2⟩ := suite_raised (g := g) (cdg := cdg) (s := s) (H := H) T hu
  refine ⟨_, pss_cons (ps_try_as (i := 1) (X := zR X g cdg s H) (c := .ref CS) (ts := fun a cls d D σ H => σ.length = nRaised.length → ts a cls d D σ H) (Wout := fun _ _ _ _ => False)
      (tb := fun W D σ H => ∃ Ech : XK, (∀ cls d σ' H', Ech cls d H' → W cls d σ' H') ∧ σ[0]? = some (some (.ref f)) ∧ H c' = some (LamX.CodeO c' q) ∧ tl Ech H fun _ H1 => D.nx σ H1)
      rfl rfl scRaised.nd rfl rfl ⟨rfl, by decide, .inl T.gS⟩ LamX.takes0 (fun W pn xe tk _ => ?_) (fun a oe cls d pn hz hf => pss_len (h1 a oe cls d pn hz hf))) (pss_one (ps_ret pe_non)), ?_⟩
  · refine ⟨fun pins s' σ H' D I h' => ?_⟩
    obtain ⟨Ech, hW, h1, h2, h3⟩ := h'
    exact (pss_one (ps_expr (act W pn xe Ech _ _ tk hW))).run pins s' σ H' D I ⟨h1, h2, h3⟩
  · refine ⟨fun cls d H' => cls = .ref CI ∧ ∃ dd z, d = some dd ∧ H' dd = some (.xd [("part", .str z)]) ∧ ∀ H'' p, Same H' H'' → H'' p = some (.tup [.str "rule", .str z]) → Q (.ref p) H'', ?_, rfl, hc, h⟩
    rintro cls d σ' H' ⟨rfl, dd, z, rfl, hdd, hk⟩
    refine ⟨true, T.exm, fun _ a ha => ?_, fun z => (nomatch z)⟩
    intro hl
    rw [List.length_set] at hl
    exact h2 a dd z _ H' σ' hdd (fun H'' p S e => hk H'' p S e) hl
end
end LS
set_option maxHeartbeats 8000000
namespace LS
open PySem L2
abbrev sLaw : Stmt := top i_law
abbrev sRMod : Stmt := inClass (top i_Rule) 1
abbrev sRCtl : Stmt := inClass (top i_Rule) 2
def spMod (K : PySem.W.Frag) (C : Addr) : Sp := fun vs H Q _ => ∃ (p : Addr) (z : Str) (ds : List PyData), vs = [.ref p] ∧ RuleAt K C H p z ds ∧ Q (.str z) H
def spCtl (K : PySem.W.Frag) (C : Addr) : Sp := fun vs H Q _ => ∃ (p : Addr) (z : Str) (ds : List PyData), vs = [.ref p] ∧ RuleAt K C H p z ds ∧ ∀ a, Dp K H (.ref a) (.tuple ds) → Q (.ref a) H
section
variable {P : Program} {w : World} {K : PySem.W.Frag} {mg : Str → Option Value} {base : Heap}
theorem scRMod : FnScope ["self"] ["self"] (defScope sRMod) := ⟨rfl, rfl, rfl, by decide +kernel, rfl, by decide +kernel, by decide +kernel⟩
theorem scRCtl : FnScope ["self"] ["self"] (defScope sRCtl) := ⟨rfl, rfl, rfl, by decide +kernel, rfl, by decide +kernel, by decide +kernel⟩
theorem ok_mod {f C : Addr} {fd : FuncData} (F : Fun K "module" "Rule.module" sRMod f fd) (R : RuleK K mg C) : FnOk P w K mg base CX0 1 f fd ["self"] (spMod K C) := by
  refine F.ok scRMod (fun vs H Q E h => ?_) (fun cdv A outer s H vs Q E hr h => ?_)
  · obtain ⟨p, z, ds, rfl, _⟩ := h
    rfl
  · obtain ⟨p, z, ds, rfl, ⟨dx, a, hp, hd⟩, k⟩ := h
    exact ⟨_, pss_one (ps_ret (pe_fld (pv 0) rfl)), _, rfl, p, C, dx, _, _, rfl, hp, R.cl, R.nM, rule_m, k⟩
theorem ok_ctl {f C : Addr} {fd : FuncData} (F : Fun K "control" "Rule.control" sRCtl f fd) (R : RuleK K mg C) : FnOk P w K mg base CX0 1 f fd ["self"] (spCtl K C) := by
  refine F.ok scRCtl (fun vs H Q E h => ?_) (fun cdv A outer s H vs Q E hr h => ?_)
  · obtain ⟨p, z, ds, rfl, _⟩ := h
    rfl
  · obtain ⟨p, z, ds, rfl, ⟨dx, a, hp, hd⟩, k⟩ := h
    exact ⟨_, pss_one (ps_ret (pe_fld (pv 0) rfl)), _, rfl, p, C, dx, _, _, rfl, hp, R.cl, R.nC, rule_c, k a hd⟩
end
/-- what the law's body uses: the defs, by their promises -/
structure LawT (P : Program) (w : World) (K : PySem.W.Frag) (mg : Str → Option Value) (base : Heap) (C CI CS : Addr) where
  R : RuleK K mg C
  E : ErrK K mg CS CI
  N : InstK K C
  {fInit : Addr}
  {fdInit : FuncData}
  GInit : FnOk P w K mg base (L2.CX P w) 4 fInit fdInit ["self", "module", "control"] (spRInit K C CI)
  bInit : Binds K fdInit ["self", "module", "control"] []
  Mk : L2.Mk K C fInit
  {fOdd : Addr}
  {fdOdd : FuncData}
  GOdd : FnOk P w K mg base CX0 2 fOdd fdOdd ["_law_row"] (spOdd K)
  gOdd : mg "_law_odd" = some (.ref fOdd)
  kOdd : PySem.W.keepIn K (.ref fOdd) = true
  bOdd : Binds K fdOdd ["_law_row"] []
  {fDraw : Addr}
  {fdDraw : FuncData}
  GDraw : FnOk P w K mg base CX0 2 fDraw fdDraw ["_law_row"] (spDraw K)
  gDraw : mg "_law_acts" = some (.ref fDraw)
  kDraw : PySem.W.keepIn K (.ref fDraw) = true
  bDraw : Binds K fdDraw ["_law_row"] []
  {fEq : Addr}
  {fdEq : FuncData}
  GEq : FnOk P w K mg base CX0 1 fEq fdEq ["self", "other"] (spREq K C)
  bEq : Binds K fdEq ["self", "other"] []
  eq : PySem.W.findIn K (.ref C) "__eq__" = some (some (.ref fEq))
  fEq_ : PySem.W.isFn K (.ref fEq) = true
  ne : PySem.W.findIn K (.ref C) "__ne__" = some (some (.builtin "object.__ne__"))
  {fMod pMod : Addr}
  {fdMod : FuncData}
  GMod : FnOk P w K mg base CX0 1 fMod fdMod ["self"] (spMod K C)
  bMod : Binds K fdMod ["self"] []
  pM : PropOf K C "module" pMod fMod
  {fCtl pCtl : Addr}
  {fdCtl : FuncData}
  GCtl : FnOk P w K mg base CX0 1 fCtl fdCtl ["self"] (spCtl K C)
  bCtl : Binds K fdCtl ["self"] []
  pC : PropOf K C "control" pCtl fCtl
  {fKind pKind : Addr}
  {fdKind : FuncData}
  GKind : FnOk P w K mg base CX0 1 fKind fdKind ["self"] (spKind K C)
  bKind : Binds K fdKind ["self"] []
  pK : PropOf K C "kind" pKind fKind
  {fRz : Addr}
  {ocR kVR docR pmR cdvR ctR : Value}
  {odR anR : Option Addr}
  {oslR : Array (Option Value)}
  lkR : K.lookup fRz = some ⟨ocR, odR, .func (PySem.W.fnOf "_law_raised" "_law_raised" (defArgs sRaised) (defBody sRaised) (defScope sRaised) .none kVR docR pmR anR cdvR ctR), oslR⟩
  cdR : PySem.W.codeIn K cdvR "_law_raised" = true
  gR : mg "_law_raised" = some (.ref fRz)
  kR : PySem.W.keepIn K (.ref fRz) = true
  bR : Binds K (PySem.W.fnOf "_law_raised" "_law_raised" (defArgs sRaised) (defBody sRaised) (defScope sRaised) .none kVR docR pmR anR cdvR ctR) ["_law_work"] []
  isi : mg "isinstance" = none
  str : mg "str" = none
  len : mg "len" = none
abbrev nLaw : List Str := ["_law_script", "_law_row", "_law_can", "_law_is_name", "_law_due", "_law_words", "_law_rule", "_law_word", "_law_kinds", "_law_control", "_law_name", "_law_one"]
def spLaw (K : PySem.W.Frag) (PT : Addr) : Sp := fun vs H Q _ => ∃ (a : Addr) (ns : List Int), vs = [.ref a] ∧ SqL K H a (ns.map V.int) ∧ H PT = some (.tbl #[]) ∧ ∀ H', Q (.bl true) H'
section
variable {P : Program} {w : World} {K : PySem.W.Frag} {mg : Str → Option Value} {base : Heap} {C CI CS : Addr}
theorem scLaw : FnScope nLaw ["_law_script"] (defScope sLaw) := ⟨rfl, rfl, rfl, by decide +kernel, rfl, by decide +kernel, by decide +kernel⟩
end
end LS
namespace LS
open PySem L2
/-- what is known of the drawn name and the drawn control -/
structure Core (K : PySem.W.Frag) (H : Hp) (v : V) (dm : PyData) (c : V) (dc : PyData) (kk : Bool) : Prop where
  nm : Named K H v dm
  ct : Dp K H c dc
  cls : noLs dc = true
  ctl : Ctl dc
  csh : SeqAt.shaped dc = true
  t1 : kk = true → ∃ ds, dc = .tuple ds ∧ actsOf dc = some ds
  t0 : kk = false → actsOf dc = none
theorem Core.ext {K : PySem.W.Frag} {H H' : Hp} {v c : V} {dm dc : PyData} {kk : Bool} (C : Core K H v dm c dc kk) (e : LamX.ExtN H H') : Core K H' v dm c dc kk :=
  ⟨⟨ext_dp e dm v C.nm.1, C.nm.2⟩, ext_dp e dc c C.ct, C.cls, C.ctl, C.csh, C.t1, C.t0⟩
theorem Core.same {K : PySem.W.Frag} {H H' : Hp} {v c : V} {dm dc : PyData} {kk : Bool} (C : Core K H v dm c dc kk) (e : Same H H') : Core K H' v dm c dc kk := C.ext (LamX.ExtN.of e)
def stL (k : Nat) : Stmt := (defBody sLaw).getD k (.Pass ⟨0, 0, 0, 0⟩)
section
variable {P : Program} {w : World} {K : PySem.W.Frag} {mg : Str → Option Value} {base : Heap} {C CI CS f c0 : Addr} {A : Around} {outer : List Env} {s : Shared} {HX : Hp} {EX : XK}
abbrev cxL (P : Program) (w : World) (K : PySem.W.Frag) (mg : Str → Option Value) (base : Heap) (f c0 : Addr) (A : Around) (outer : List Env) (s : Shared) (HX : Hp) (EX : XK) : Cx := (cxOf CX0 P w K mg base nLaw "law" (defScope sLaw) f (.ref c0) A outer s HX EX).nox
theorem grpA (T : LawT P w K mg base C CI CS) (hr : Room 7 (cxL P w K mg base f c0 A outer s HX EX).A) {rest : List Stmt} {u : TS} (hu : PSs (cxL P w K mg base f c0 A outer s HX EX) rest u) :
    ∃ t, PSs (cxL P w K mg base f c0 A outer s HX EX) (stL 0 :: stL 1 :: stL 2 :: rest) t ∧ ∀ (D : Ends) (H : Hp) (a PT : Addr) (ns : List Int), SqL K H a (ns.map V.int) → H PT = some (.tbl #[]) →
      (∀ (r : Addr) (v c : V) (dm dc : PyData) (kk : Bool) (H' : Hp), Core K H' v dm c dc kk → H' PT = some (.tbl #[]) → u D [some (.ref a), some (.ref r), some (.bl kk), none, none, none, none, none, none, some c, some v, none] H') →
      t D (L2.start nLaw [.ref a]) H := by
  refine ⟨_, pss_cons (ps_set (i := 1) scLaw.nd rfl (.inl rfl) (pe_lst (pa_cons (pv 0) (pa_cons pe_int (pa_cons pe_int (pa_cons pe_int pa_nil))))))
    (pss_cons (ps_set (i := 10) scLaw.nd rfl (.inr rfl) (pe_call T.GOdd (hr.mono (by decide)) (by rfl) T.gOdd T.kOdd T.bOdd .nil pass0 (pa_cons (pv 1) pa_nil)))
    (pss_cons (ps_asg (pe_call T.GDraw (hr.mono (by decide)) (by rfl) T.gDraw T.kDraw T.bDraw .nil pass0 (pa_cons (pv 1) pa_nil)) (pg_tup (by rfl) (pgs_cons (pg_name (i := 9) scLaw.nd rfl (.inr rfl)) (pgs_cons (pg_name (i := 2) scLaw.nd rfl (.inl rfl)) pgs_nil)))) hu)), ?_⟩
  intro D H a PT ns hS hPT k
  refine ⟨_, rfl, by show 4 ≤ sizeLine; decide, fun r nr => ?_⟩
  have hR0 : RowIs (upd H r (.lst [.ref a, .int 0, .int 0, .int 0])) r a := ⟨0, 0, 0, by decide, upd_same⟩
  have hS0 := seq_new (o := .lst [.ref a, .int 0, .int 0, .int 0]) hS nr
  have hP0 : upd H r (.lst [.ref a, .int 0, .int 0, .int 0]) PT = some (.tbl #[]) := (same_upd nr (Same.refl H)) _ _ hPT
  refine ⟨_, rfl, r, a, ns, rfl, hS0, hR0, fun v dm H1 hN hR1 hB1 => ?_⟩
  have hPr : PT ≠ r := row_ne hR0 hP0 fun _ z => nomatch z
  have hS1 := seq_row hS0 hR0 hB1
  refine ⟨_, rfl, r, a, ns, rfl, hS1, hR1, fun t c dc kk H2 ht hc n2 ct sh t1 t0 hR2 hB2 => ?_⟩
  refine ⟨t, _, rfl, SqT.of ht, rfl, ?_⟩
  refine ⟨_, _, rfl, _, _, rfl, rfl, ?_⟩
  exact k r v c dm dc kk H2 ⟨⟨row_dp hR1 hB2 dm v hN.2.1 hN.1, hN.2⟩, hc, n2, ct, sh, t1, t0⟩ (hB2 PT _ hPr (hB1 PT _ hPr hP0))
end
end LS
namespace LS
open PySem L2
def oddS (z : List Nat) : List Nat := z.filter fun c => !decide (c ∈ letters.cps.toList)
def shortB : PyData → Bool
  | .str z => decide (1 ≤ z.length) && decide (z.length ≤ 8)
  | _ => false
/-- what is due -/
def dueD (W kk : Bool) : PyData := if (W && kk) = true then .none else .tuple [.str "rule", .str (if W = true then "control" else "module")]
theorem odd_take {l : List Nat} {i c : Nat} (h : l[i]? = some c) : oddS (l.take (i + 1)) = oddS (l.take i) ++ if (!decide (c ∈ letters.cps.toList)) = true then [c] else [] := by
  unfold oddS
  rw [List.take_add_one, h, List.filter_append]
  refine congrArg _ ?_
  show List.filter _ [c] = _
  rw [List.filter_cons]
  split <;> simp_all
theorem eqv_nil (ds : List PyData) : PyData.eqv (.list ds) (.list []) = ds.isEmpty := by
  cases ds with
  | nil => simp [PyData.eqv, PyData.eqvAll]
  | cons d ds => simp [PyData.eqv, PyData.eqvAll]
theorem one_ok {z : Str} (h : SeqAt.shaped (.str z) = true) {c : Nat} (hc : c ∈ z.cps.toList) : PyData.canLay0 (.str ⟨#[c]⟩) = true := by
  have h1 : PyData.strOk z = true := by
    have q := SeqAt.canLay_of_shaped h
    simpa [PyData.canLay0] using q
  unfold PyData.strOk at h1
  rw [Array.all_eq_true'] at h1
  have h2 := h1 c (Array.mem_toList_iff.mp hc)
  simp only [PyData.canLay0, PyData.strOk]
  simpa using h2
theorem odd_shaped {z : Str} (h : SeqAt.shaped (.str z) = true) : SeqAt.shaped (.list ((oddS z.cps.toList).map fun c => PyData.str ⟨#[c]⟩)) = true := by
  have h1 : PyData.canLayAll0 ((oddS z.cps.toList).map fun c => PyData.str ⟨#[c]⟩) = true := canAll fun d hd => by
    obtain ⟨c, hc, rfl⟩ := List.mem_map.mp hd
    exact one_ok h (List.mem_filter.mp hc).1
  have h2 : PyData.depthAll ((oddS z.cps.toList).map fun c => PyData.str ⟨#[c]⟩) ≤ 1 := depthAll_le fun d hd => by
    obtain ⟨c, hc, rfl⟩ := List.mem_map.mp hd
    simp [PyData.depth]
  show (PyData.canLay0 (.list _) && decide (PyData.depth (.list _) ≤ 64)) = true
  rw [Bool.and_eq_true]
  refine ⟨by simp only [PyData.canLay0]; exact h1, decide_eq_true ?_⟩
  simp only [PyData.depth]
  omega
theorem odd_dps {K : PySem.W.Frag} {H : Hp} : ∀ l : List Nat, DpAll K H (l.map fun c => V.str ⟨#[c]⟩) (l.map fun c => PyData.str ⟨#[c]⟩)
  | [] => .nil
  | c :: l => .cons (.str _) (odd_dps l)
theorem word_is (z : Str) : isWord (.str z) = (shortB (.str z) && (oddS z.cps.toList).isEmpty) := by
  show isWordS z = _
  unfold isWordS shortB oddS
  refine congrArg _ ?_
  cases q : (z.cps.toList.all fun c => decide (c ∈ letters.cps.toList)) with
  | true =>
    symm
    rw [List.isEmpty_iff, List.filter_eq_nil_iff]
    intro c hc
    have := List.all_eq_true.mp q c hc
    rw [this]
    decide
  | false =>
    symm
    rw [← Bool.not_eq_true, List.isEmpty_iff, List.filter_eq_nil_iff]
    intro h
    rw [← Bool.not_eq_true, List.all_eq_true] at q
    refine q fun c hc => ?_
    have := h c hc
    cases r : decide (c ∈ letters.cps.toList) with
    | true => rfl
    | false => rw [r] at this; exact (this rfl).elim
section
variable {P : Program} {w : World} {K : PySem.W.Frag} {mg : Str → Option Value} {base : Heap} {C CI CS f c0 : Addr} {A : Around} {outer : List Env} {s : Shared} {HX : Hp} {EX : XK}
abbrev sl (a r : Addr) (kk : Bool) (isn due : Option V) (c v : V) : St := [some (.ref a), some (.ref r), some (.bl kk), isn, due, none, none, none, none, some c, some v, none]
theorem grp3 (T : LawT P w K mg base C CI CS) (hr : Room 7 (cxL P w K mg base f c0 A outer s HX EX).A) {rest : List Stmt} {u : TS} (hu : PSs (cxL P w K mg base f c0 A outer s HX EX) rest u) :
    ∃ t, PSs (cxL P w K mg base f c0 A outer s HX EX) (stL 3 :: rest) t ∧ ∀ (D : Ends) (H : Hp) (a r : Addr) (v c : V) (dm dc : PyData) (kk : Bool), Core K H v dm c dc kk →
      u D (sl a r kk (some (.bl (shortB dm))) none c v) H → t D (sl a r kk none none c v) H := by
  refine ⟨_, pss_cons (ps_set (i := 3) scLaw.nd rfl (.inl rfl) (pe_and (pe_callB call_isi (by rfl) T.isi (by decide +kernel) (pa_cons (pv 10) (pa_cons (pe_bltn (v := .ty "str") (by rfl) T.str (by decide +kernel) rfl) pa_nil)))
        (pe_one (pe_chain op_le op_le pe_int (pe_callB call_len_str (by rfl) T.len PySem.boot_len (pa_cons (pv 10) pa_nil)) pe_int)))) hu, ?_⟩
  intro D H a r v c dm dc kk hC k
  obtain ⟨hd, hnl, hsh, hlen, hoth⟩ := id hC.nm
  refine ⟨_, rfl, v, .ty "str", _, _, isStr dm, rfl, .ty _, ty_of hd (noList_of hnl), kit_ty (kit_str dm), _, rfl, ?_⟩
  refine ite2 (fun h1 => ?_) (fun h1 => ?_)
  · obtain ⟨z, rfl⟩ : ∃ z, dm = .str z := by
      cases dm with
      | str z => exact ⟨z, rfl⟩
      | _ => cases h1
    cases hd
    have hz : z.length ≤ sizeLine := Nat.le_of_lt (small1000 (hlen z rfl))
    refine ⟨_, rfl, z, rfl, hz, _, _, rfl, rfl, _, rfl, ?_⟩
    refine ite2 (fun h2 => ?_) (fun h2 => ?_)
    · refine ⟨_, _, rfl, rfl, ?_⟩
      have e : shortB (.str z) = decide (((z.length : Nat) : Int) ≤ 8) := by
        show (decide (1 ≤ z.length) && decide (z.length ≤ 8)) = _
        have h2' := of_decide_eq_true h2
        rw [decide_eq_true (show 1 ≤ z.length by omega), Bool.true_and]
        by_cases q : z.length ≤ 8
        · rw [decide_eq_true q, decide_eq_true (show ((z.length : Nat) : Int) ≤ 8 by omega)]
        · rw [decide_eq_false q, decide_eq_false (show ¬ ((z.length : Nat) : Int) ≤ 8 by omega)]
      rw [e] at k
      exact k
    · have e : shortB (.str z) = false := by
        show (decide (1 ≤ z.length) && decide (z.length ≤ 8)) = _
        have h2' : ¬ (1 : Int) ≤ ((z.length : Nat) : Int) := fun q => h2 (decide_eq_true q)
        rw [decide_eq_false (show ¬ 1 ≤ z.length by omega), Bool.false_and]
      rw [e] at k
      exact k
  · have e : shortB dm = false := by
      cases dm with
      | str z => exact (h1 rfl).elim
      | _ => rfl
    rw [e] at k
    exact k
theorem grp4 (T : LawT P w K mg base C CI CS) (hr : Room 7 (cxL P w K mg base f c0 A outer s HX EX).A) {rest : List Stmt} {u : TS} (hu : PSs (cxL P w K mg base f c0 A outer s HX EX) rest u) :
    ∃ t, PSs (cxL P w K mg base f c0 A outer s HX EX) (stL 4 :: rest) t ∧ ∀ (D : Ends) (H : Hp) (a r : Addr) (v c : V) (dm dc : PyData) (kk : Bool), Core K H v dm c dc kk →
      (∀ H', Same H H' → u D (sl a r kk (some (.bl (isWord dm))) none c v) H') → t D (sl a r kk (some (.bl (shortB dm))) none c v) H := by
  have hu64 : (cxL P w K mg base f c0 A outer s HX EX).A.units + 64 < cLine := by have := hr.un; omega
  refine ⟨_, pss_cons (ps_set (i := 3) scLaw.nd rfl (.inl rfl) (pe_and (pv 3) (pe_one (pe_cmpR (op_eqD hu64)
        (pe_lc (own := [("_law_one", 11)]) (g := gName 11) (by rfl) scLaw.nd (pi_str (pv 10)) (blkOk_by (own := [("_law_one", 11)]) (N := nLaw) (sc := defScope sLaw) (by decide +kernel))
          (fun _ _ _ _ _ => pg_name (i := 11) scLaw.nd rfl (Or.inl rfl)) (fun _ _ _ _ _ => pts_one (pt_cmpR op_notIn_sign (pv 11) pe_str (by rfl))) (fun _ _ _ _ _ => pv 11))
        (pe_lst pa_nil) (nomark _))))) hu, ?_⟩
  intro D H a r v c dm dc kk hC k
  obtain ⟨hd, hnl, hsh, hlen, hoth⟩ := id hC.nm
  refine ⟨_, rfl, _, rfl, ?_⟩
  refine ite2 (fun h1 => ?_) (fun h1 => ?_)
  · obtain ⟨z, rfl⟩ : ∃ z, dm = .str z := by
      cases dm with
      | str z => exact ⟨z, rfl⟩
      | _ => cases h1
    cases hd
    refine ⟨_, rfl, z, rfl, fun B hB => ?_⟩
    have hz : z.length ≤ 1000 := hlen z rfl
    have hsz : z.cps.size = z.length := by simp [Str.length]
    refine lc_it walk_str (fun i H' => Same H H' ∧ H' B = some (.lst ((oddS (z.cps.toList.take i)).map fun c => .str ⟨#[c]⟩))) ⟨same_upd hB (Same.refl H), upd_same⟩ (fun _ _ _ _ => True.intro) ?_ ?_
    · rintro i x H1 H2 hi ⟨hS1, hL⟩ ⟨rfl, ch, hc, rfl⟩
      have hc2 : z.cps.toList[i]? = some ch := by rw [Array.getElem?_toList]; exact hc
      have ot := odd_take hc2
      refine ⟨rfl, _, rfl, ch, _, rfl, rfl, _, rfl, ?_⟩
      refine ite2 (fun h2 => ?_) (fun h2 => ?_)
      · refine ⟨_, rfl, _, hL, ?_, same_upd hB hS1, ?_⟩
        · have hs2 := sizeLine_eq
          have q : (oddS (z.cps.toList.take i)).length ≤ (z.cps.toList.take i).length := List.length_filter_le _ _
          rw [List.length_take] at q
          rw [List.length_map]
          omega
        · rw [upd_same, ot, if_pos h2, List.map_append]
          rfl
      · refine ⟨hS1, ?_⟩
        rw [ot, if_neg h2, List.append_nil]
        exact hL
    · rintro H1 ⟨hS1, hL⟩
      rw [← Array.length_toList, List.take_length] at hL
      refine ⟨Nat.zero_le _, fun l hl => ?_⟩
      have hBl : upd H1 l (.lst []) B = some (.lst ((oddS z.cps.toList).map fun c => .str ⟨#[c]⟩)) := by rw [upd_ne (ne_of_none hL hl)]; exact hL
      refine ⟨.list ((oddS z.cps.toList).map fun c => PyData.str ⟨#[c]⟩), .list [], .lst (SqL.of hBl) (odd_dps _), .lst (SqL.of upd_same) .nil, odd_shaped hsh, by decide +kernel, ?_⟩
      have e : isWord (.str z) = PyData.eqv (.list ((oddS z.cps.toList).map fun c => PyData.str ⟨#[c]⟩)) (.list []) := by
        rw [eqv_nil, word_is, h1, Bool.true_and]
        cases oddS z.cps.toList <;> rfl
      rw [e] at k
      exact k _ (same_upd (hS1.free hl) hS1)
  · have e : isWord dm = false := by
      cases dm with
      | str z =>
        rw [word_is, Bool.eq_false_iff.mpr h1, Bool.false_and]
      | _ => rfl
    rw [e] at k
    exact k H (Same.refl H)
theorem grp5 (T : LawT P w K mg base C CI CS) (hr : Room 7 (cxL P w K mg base f c0 A outer s HX EX).A) {rest : List Stmt} {u : TS} (hu : PSs (cxL P w K mg base f c0 A outer s HX EX) rest u) :
    ∃ t, PSs (cxL P w K mg base f c0 A outer s HX EX) (stL 5 :: rest) t ∧ ∀ (D : Ends) (H : Hp) (a r : Addr) (v c : V) (kk W : Bool),
      (∀ due H', Same H H' → Dp K H' due (dueD W kk) → (due = .non ↔ (W && kk) = true) → u D (sl a r kk (some (.bl W)) (some due) c v) H') → t D (sl a r kk (some (.bl W)) none c v) H := by
  refine ⟨_, pss_cons (ps_set (i := 4) scLaw.nd rfl (.inl rfl) (pe_ifExp (PW.pt (pw_and (pt_val (pv 3)) (pw_and1 (pt_val (pv 2))))) pe_non (pe_tup (pa_cons pe_str (pa_cons (pe_ifExp (pt_val (pv 3)) pe_str pe_str) pa_nil))))) hu, ?_⟩
  intro D H a r v c kk W k
  have tup : ∀ (x : Str), dueD W kk = .tuple [.str "rule", .str x] → (W && kk) = false → ∀ p, H p = none → u D (sl a r kk (some (.bl W)) (some (.ref p)) c v) (upd H p (.tup [.str "rule", .str x])) := fun x e h p hp => by
    refine k (.ref p) _ (same_upd hp (Same.refl H)) ?_ ⟨fun q => (nomatch q), fun q => ?_⟩
    · rw [e]
      exact .tup (SqT.of upd_same) (.cons (.str _) (.cons (.str _) .nil))
    · rw [h] at q
      cases q
  refine ⟨_, rfl, W, rfl, ?_⟩
  cases W with
  | true =>
    refine iteT ?_
    refine ⟨_, rfl, kk, rfl, ?_⟩
    cases kk with
    | true =>
      refine iteT ?_
      exact k .non H (Same.refl H) .non ⟨fun _ => rfl, fun _ => rfl⟩
    | false =>
      refine iteF ?_
      refine ⟨_, rfl, _, rfl, ?_⟩
      refine iteT ?_
      exact ⟨by show 2 ≤ sizeLine; decide, tup _ rfl rfl⟩
  | false =>
    refine iteF ?_
    refine iteF ?_
    refine ⟨_, rfl, _, rfl, ?_⟩
    refine iteF ?_
    exact ⟨by show 2 ≤ sizeLine; decide, tup _ rfl rfl⟩
end
end LS
namespace LS
open PySem L2
theorem due_shaped (W kk : Bool) : SeqAt.shaped (dueD W kk) = true := by
  cases W <;> cases kk <;> decide +kernel
theorem due_eqv (W kk : Bool) : PyData.eqv (dueD W kk) (dueD W kk) = true := by
  cases W <;> cases kk <;> decide +kernel
section
variable {P : Program} {w : World} {K : PySem.W.Frag} {mg : Str → Option Value} {base : Heap} {C CI CS f c0 : Addr} {A : Around} {outer : List Env} {s : Shared} {HX : Hp} {EX : XK}
theorem grp6 {PT : Addr} (T : LawT P w K mg base C CI CS) (TB : LamX.TabB base mg c0 PT) (hr : Room 7 (cxL P w K mg base f c0 A outer s HX EX).A) {rest : List Stmt} {u : TS} (hu : PSs (cxL P w K mg base f c0 A outer s HX EX) rest u) :
    ∃ t, PSs (cxL P w K mg base f c0 A outer s HX EX) (stL 6 :: rest) t ∧ ∀ (D : Ends) (H : Hp) (a r : Addr) (v c due : V) (dm dc : PyData) (kk : Bool), Core K H v dm c dc kk → H PT = some (.tbl #[]) → Dp K H due (dueD (isWord dm) kk) →
      (∀ H', LamX.ExtN H H' → u D (sl a r kk (some (.bl (isWord dm))) (some due) c v) H') → t D (sl a r kk (some (.bl (isWord dm))) (some due) c v) H := by
  have hu64 : (cxL P w K mg base f c0 A outer s HX EX).A.units + 64 < cLine := by have := hr.un; omega
  refine ⟨_, pss_cons (ps_if (pt_cmpR (op_neD hu64) (LamX.pe_lamcall (T := [(PT, (cxL P w K mg base f c0 A outer s HX EX).env.qual ++ "<lambda>")]) (TT := TRaised CI) (k := 5) (c := c0) (P := PT) (Ng := nRaised) (a := "_law_work")
      (t := fun E => tMake C (spRInit K C CI) [] E (tCons (tVar 10) (tCons (tVar 9) tNil)))
      (by rfl) T.gR T.kR T.lkR T.cdR T.bR scRaised rfl (Or.inl rfl) (gives_raised (CS := CS) (CI := CI) T.E (by have := hr.un; omega)) TB rfl (by exact List.mem_singleton.mpr rfl) (fun p hp _ => by rw [List.mem_singleton.mp hp]) hr (LamX.lamS_by (sc := defScope sLaw) (by decide +kernel)) rfl (fun _ _ _ _ _ => rfl)
      (fun A outer s H E f c' hr2 => pe_make T.Mk T.GInit hr2 (by rfl) T.R.g T.bInit .nil (passes_call (takes_of rfl rfl rfl rfl) (fun _ _ _ _ h => h)) (pa_cons (pv 10) (pa_cons (pv 9) pa_nil)))) (pv 4) (nomark _)) (pss_one (ps_ret pe_bl)) pss_nil) hu, ?_⟩
  intro D H a r v c due dm dc kk hC hPT hdue k
  have fin : ∀ (x : V) (H2 : Hp), LamX.ExtN H H2 → Dp K H2 x (dueD (isWord dm) kk) → (tSeq (tIfS (tTest (tOp (rNeD (cxL P w K mg base f c0 A outer s HX EX).K) (fun _ _ Q => Q x H2) (tVar 4))) (tRet (tC (V.bl false))) tNext) u D (sl a r kk (some (V.bl (isWord dm))) (some due) c v) H) := fun x H2 e2 hx => by
    refine ⟨_, rfl, _, _, hx, ext_dp e2 _ _ hdue, due_shaped _ _, due_shaped _ _, _, rfl, ?_⟩
    rw [due_eqv]
    refine iteF ?_
    exact k H2 e2
  refine ⟨fun p hp => by rw [List.mem_singleton.mp hp]; exact LamX.TabS.nil hPT, fun H1 e1 _ => ?_⟩
  have C1 := hC.ext e1
  refine ⟨v, rfl, c, rfl, fun x dx nx ndx hne => ?_⟩
  have S0 : Same H1 (upd (upd H1 dx (.own x)) x (.ins C dx [])) := same_upd nx (same_upd ndx (Same.refl H1))
  have C2 := C1.same S0
  have eS : ∀ {H'}, Same (upd (upd H1 dx (.own x)) x (.ins C dx [])) H' → LamX.ExtN H H' := fun S => e1.trans (LamX.ExtN.of (S0.trans S))
  have NT : ∀ {H'' : Hp} {p : Addr} {z : Str}, H'' p = some (.tup [.str "rule", .str z]) → Dp K H'' (.ref p) (.tuple [.str "rule", .str z]) := fun h => .tup (SqT.of h) (.cons (.str _) (.cons (.str _) .nil))
  refine ⟨x, dx, v, c, dm, dc, rfl, upd_same, C2.nm.1, noList_of C2.nm.2.1, C2.nm.2.2.2.1, C2.ct, C2.ctl, ?_, ?_, ?_⟩
  · intro hw d H3 S3 nd hd
    refine ⟨rfl, d, "module", rfl, hd, fun H4 p S4 hp => ?_⟩
    have := fin (.ref p) H4 (eS (S3.trans S4)) (by rw [hw]; exact NT hp)
    exact this
  · intro hw ha d H3 S3 nd hd
    have hk : kk = false := by
      cases kk with
      | false => rfl
      | true =>
        obtain ⟨ds, _, q⟩ := hC.t1 rfl
        rw [ha] at q
        cases q
    refine ⟨rfl, d, "control", rfl, hd, fun H4 p S4 hp => ?_⟩
    have := fin (.ref p) H4 (eS (S3.trans S4)) (by rw [hw, hk]; exact NT hp)
    exact this
  · intro z ds H3 hz hw ha SB RA
    have hk : kk = true := by
      cases kk with
      | true => rfl
      | false =>
        have q := hC.t0 rfl
        rw [ha] at q
        cases q
    refine ⟨rfl, ?_⟩
    have S3 : Same H1 H3 := fun b o h => SB b o (ne_of_none h nx) (S0 b o h)
    have := fin .non H3 (e1.trans (LamX.ExtN.of S3)) (by rw [hw, hk]; exact .non)
    exact this
end
end LS
namespace LS
open PySem L2
/-- the law's own table of words -/
def WordsT (H : Hp) (kvs : List (Key × V)) : Prop := kvs.length = 4 ∧ ∀ (i : Nat) (r : Str × List Str), ctrlTab[i]? = some r → ∃ a : Addr, kvs[i]? = some (.inr r.1, .ref a) ∧ valV kvs (.inr r.1) = some (.ref a) ∧ H a = some (.tup (r.2.map V.str))
theorem put_new {kvs : List (Key × V)} {k : Key} {v : V} (h : valV kvs k = none) : putK kvs k v = kvs ++ [(k, v)] := by
  have e : (kvs.any fun kv => decide (kv.1 = k)) = false := by rw [valV_any, h]; rfl
  unfold putK
  rw [e]
  exact if_neg Bool.false_ne_true
abbrev kReq : Key := .inr "required"
abbrev kRqs : Key := .inr "requisite"
abbrev kSuf : Key := .inr "sufficient"
abbrev kOpt : Key := .inr "optional"
theorem ne12 : ¬ kReq = kRqs := by decide +kernel
theorem ne13 : ¬ kReq = kSuf := by decide +kernel
theorem ne14 : ¬ kReq = kOpt := by decide +kernel
theorem ne23 : ¬ kRqs = kSuf := by decide +kernel
theorem ne24 : ¬ kRqs = kOpt := by decide +kernel
theorem ne34 : ¬ kSuf = kOpt := by decide +kernel
theorem words_mk {H : Hp} {t1 t2 t3 t4 : Addr} (h1 : H t1 = some (.tup (tReq.map V.str))) (h2 : H t2 = some (.tup (tRqs.map V.str))) (h3 : H t3 = some (.tup (tSuf.map V.str))) (h4 : H t4 = some (.tup (tOpt.map V.str))) :
    WordsT H [(kReq, .ref t1), (kRqs, .ref t2), (kSuf, .ref t3), (kOpt, .ref t4)] := by
  refine ⟨rfl, fun i r hr => ?_⟩
  match i, hr with
  | 0, hr =>
    cases hr
    exact ⟨t1, rfl, valV_pos rfl, h1⟩
  | 1, hr =>
    cases hr
    exact ⟨t2, rfl, (valV_neg ne12).trans (valV_pos rfl), h2⟩
  | 2, hr =>
    cases hr
    exact ⟨t3, rfl, (valV_neg ne13).trans ((valV_neg ne23).trans (valV_pos rfl)), h3⟩
  | 3, hr =>
    cases hr
    exact ⟨t4, rfl, (valV_neg ne14).trans ((valV_neg ne24).trans ((valV_neg ne34).trans (valV_pos rfl))), h4⟩
  | i + 4, hr =>
    have q := (List.getElem?_eq_some_iff.mp hr).1
    have e : ctrlTab.length = 4 := rfl
    omega
section
variable {P : Program} {w : World} {K : PySem.W.Frag} {mg : Str → Option Value} {base : Heap} {C CI CS f c0 : Addr} {A : Around} {outer : List Env} {s : Shared} {HX : Hp} {EX : XK}
abbrev sw (a r : Addr) (kk : Bool) (isn due : Option V) (wd : Addr) (ru wo ks : Option V) (c v : V) : St := [some (.ref a), some (.ref r), some (.bl kk), isn, due, some (.ref wd), ru, wo, ks, some c, some v, none]
theorem grp7 (hr : Room 7 (cxL P w K mg base f c0 A outer s HX EX).A) {rest : List Stmt} {u : TS} (hu : PSs (cxL P w K mg base f c0 A outer s HX EX) rest u) :
    ∃ t, PSs (cxL P w K mg base f c0 A outer s HX EX) (stL 7 :: stL 8 :: stL 9 :: rest) t ∧ ∀ (D : Ends) (H : Hp) (a r : Addr) (isn due : Option V) (v c : V) (kk : Bool),
      (∀ wd kvs H', Same H H' → H wd = none → H' wd = some (.dK kvs) → WordsT H' kvs → u D (sw a r kk isn due wd none none none c v) H') → t D (sl a r kk isn due c v) H := by
  have hu1 : (cxL P w K mg base f c0 A outer s HX EX).A.units + 1 < cLine := by have := hr.un; omega
  refine ⟨_, pss_cons (ps_set (i := 5) scLaw.nd rfl (.inr rfl) (pe_disp (pps_cons pe_str (pe_tup (pa_cons pe_str (pa_cons pe_str (pa_cons pe_str (pa_cons pe_str pa_nil))))) (pps_cons pe_str (pe_tup (pa_cons pe_str (pa_cons pe_str (pa_cons pe_str (pa_cons pe_str pa_nil))))) pps_nil)) rfl rfl (by simp) (by decide)))
    (pss_cons (ps_dput hu1 (pv 5) pe_str (pe_tup (pa_cons pe_str (pa_cons pe_str (pa_cons pe_str (pa_cons pe_str pa_nil))))) rfl)
    (pss_cons (ps_dput hu1 (pv 5) pe_str (pe_tup (pa_cons pe_str (pa_cons pe_str (pa_cons pe_str (pa_cons pe_str pa_nil))))) rfl) hu)), ?_⟩
  intro D H a r isn due v c kk k
  intro wd nw
  have S0 : Same H (upd H wd (.dK [])) := same_upd nw (Same.refl H)
  have e0 : upd H wd (.dK []) wd = some (.dK []) := upd_same
  generalize upd H wd (.dK []) = H0 at *
  refine ⟨by show 4 ≤ sizeLine; decide, fun t1 n1 => ?_⟩
  have S1 : Same H0 (upd H0 t1 (.tup (tReq.map V.str))) := same_upd n1 (Same.refl H0)
  have e1 : upd H0 t1 (.tup (tReq.map V.str)) t1 = some (.tup (tReq.map V.str)) := upd_same
  show tPairs _ _ (upd H0 t1 (.tup (tReq.map V.str))) _
  generalize upd H0 t1 (.tup (tReq.map V.str)) = H1 at *
  refine ⟨by show 4 ≤ sizeLine; decide, fun t2 n2 => ?_⟩
  have S2 : Same H1 (upd H1 t2 (.tup (tRqs.map V.str))) := same_upd n2 (Same.refl H1)
  have e2 : upd H1 t2 (.tup (tRqs.map V.str)) t2 = some (.tup (tRqs.map V.str)) := upd_same
  show tPairs _ _ (upd H1 t2 (.tup (tRqs.map V.str))) _
  generalize upd H1 t2 (.tup (tRqs.map V.str)) = H2 at *
  have w2 : H2 wd = some (.dK []) := S2 _ _ (S1 _ _ e0)
  refine ⟨w2, [(kReq, .ref t1), (kRqs, .ref t2)], rfl, by show 2 ≤ 15; decide, ?_⟩
  have em : mergeK [] [(kReq, V.ref t1), (kRqs, V.ref t2)] = [(kReq, V.ref t1), (kRqs, V.ref t2)] := by
    show putK (putK [] kReq (V.ref t1)) kRqs (V.ref t2) = _
    rw [put_new (kvs := []) rfl, put_new (by exact valV_neg ne12)]
    rfl
  rw [em]
  have hn : ∀ {x : Addr} {xs : List V} {G : Hp}, G wd = some (.dK []) → G x = some (.tup xs) → x ≠ wd := fun h1 h2 z => by
    rw [z, h1] at h2
    cases h2
  have x1 : t1 ≠ wd := fun z => by
    rw [z, e0] at n1
    cases n1
  have x2 : t2 ≠ wd := hn w2 e2
  have SA : Same H (upd H2 wd (.dK [(kReq, V.ref t1), (kRqs, V.ref t2)])) := fun b o e => by
    rw [upd_ne (ne_of_none e nw)]
    exact S2 _ _ (S1 _ _ (S0 _ _ e))
  have a1 : upd H2 wd (.dK [(kReq, V.ref t1), (kRqs, V.ref t2)]) t1 = some (.tup (tReq.map V.str)) := by
    rw [upd_ne x1]
    exact S2 _ _ e1
  have a2 : upd H2 wd (.dK [(kReq, V.ref t1), (kRqs, V.ref t2)]) t2 = some (.tup (tRqs.map V.str)) := by
    rw [upd_ne x2]
    exact e2
  have wA : upd H2 wd (.dK [(kReq, V.ref t1), (kRqs, V.ref t2)]) wd = some (.dK [(kReq, V.ref t1), (kRqs, V.ref t2)]) := upd_same
  generalize upd H2 wd (.dK [(kReq, V.ref t1), (kRqs, V.ref t2)]) = HA at *
  refine ⟨by show 4 ≤ sizeLine; decide, fun t3 n3 => ?_⟩
  have x3 : t3 ≠ wd := fun z => by
    rw [z, wA] at n3
    cases n3
  have w3 : upd HA t3 (.tup (tSuf.map V.str)) wd = some (.dK [(kReq, V.ref t1), (kRqs, V.ref t2)]) := by rw [upd_ne x3.symm]; exact wA
  refine ⟨_, rfl, wd, _, rfl, DPut.k (k := kSuf) w3 (by show 2 < sizeLine; decide), ?_⟩
  rw [put_new (by exact (valV_neg ne13).trans (valV_neg ne23))]
  have S3 : Same HA (upd HA t3 (.tup (tSuf.map V.str))) := same_upd n3 (Same.refl HA)
  have SB : Same H (upd (upd HA t3 (.tup (tSuf.map V.str))) wd (.dK ([(kReq, V.ref t1), (kRqs, V.ref t2)] ++ [(kSuf, V.ref t3)]))) := fun b o e => by
    rw [upd_ne (ne_of_none e nw)]
    exact S3 _ _ (SA _ _ e)
  have b1 : upd (upd HA t3 (.tup (tSuf.map V.str))) wd (.dK ([(kReq, V.ref t1), (kRqs, V.ref t2)] ++ [(kSuf, V.ref t3)])) t1 = some (.tup (tReq.map V.str)) := by
    rw [upd_ne x1]
    exact S3 _ _ a1
  have b2 : upd (upd HA t3 (.tup (tSuf.map V.str))) wd (.dK ([(kReq, V.ref t1), (kRqs, V.ref t2)] ++ [(kSuf, V.ref t3)])) t2 = some (.tup (tRqs.map V.str)) := by
    rw [upd_ne x2]
    exact S3 _ _ a2
  have b3 : upd (upd HA t3 (.tup (tSuf.map V.str))) wd (.dK ([(kReq, V.ref t1), (kRqs, V.ref t2)] ++ [(kSuf, V.ref t3)])) t3 = some (.tup (tSuf.map V.str)) := by
    rw [upd_ne x3, upd_same]
  have wB : upd (upd HA t3 (.tup (tSuf.map V.str))) wd (.dK ([(kReq, V.ref t1), (kRqs, V.ref t2)] ++ [(kSuf, V.ref t3)])) wd = some (.dK [(kReq, V.ref t1), (kRqs, V.ref t2), (kSuf, V.ref t3)]) := upd_same
  rw [show ([V.str "done", V.str "ignore", V.str "ignore", V.str "ignore"] : List V) = tSuf.map V.str from rfl]
  generalize upd (upd HA t3 (.tup (tSuf.map V.str))) wd (.dK ([(kReq, V.ref t1), (kRqs, V.ref t2)] ++ [(kSuf, V.ref t3)])) = HB at *
  refine ⟨by show 4 ≤ sizeLine; decide, fun t4 n4 => ?_⟩
  have x4 : t4 ≠ wd := fun z => by
    rw [z, wB] at n4
    cases n4
  have w4 : upd HB t4 (.tup (tOpt.map V.str)) wd = some (.dK [(kReq, V.ref t1), (kRqs, V.ref t2), (kSuf, V.ref t3)]) := by rw [upd_ne x4.symm]; exact wB
  refine ⟨_, rfl, wd, _, rfl, DPut.k (k := kOpt) w4 (by show 3 < sizeLine; decide), ?_⟩
  rw [put_new (by exact (valV_neg ne14).trans ((valV_neg ne24).trans (valV_neg ne34)))]
  have S4 : Same HB (upd HB t4 (.tup (tOpt.map V.str))) := same_upd n4 (Same.refl HB)
  refine k wd [(kReq, .ref t1), (kRqs, .ref t2), (kSuf, .ref t3), (kOpt, .ref t4)] _ (fun b o e => ?_) nw upd_same (words_mk ?_ ?_ ?_ ?_)
  · rw [upd_ne (ne_of_none e nw)]
    exact S4 _ _ (SB _ _ e)
  · rw [upd_ne x1]
    exact S4 _ _ b1
  · rw [upd_ne x2]
    exact S4 _ _ b2
  · rw [upd_ne x3]
    exact S4 _ _ b3
  · rw [upd_ne x4, upd_same]
    rfl
end
end LS
namespace LS
open PySem L2
/-- all but dicts stay -/
def ExtK (H H' : Hp) : Prop := ∀ b o, H b = some o → (∀ kvs, o ≠ .dK kvs) → H' b = some o
theorem kx_tup {K : PySem.W.Frag} {H H' : Hp} {a : Addr} {xs : List V} (e : ExtK H H') (h : SqT K H a xs) : SqT K H' a xs := by
  rcases h with (h | ⟨o, h⟩) | h
  · exact .inl (.inl (e _ _ h fun _ z => nomatch z))
  · exact .inl (.inr ⟨o, e _ _ h fun _ z => nomatch z⟩)
  · exact .inr h
theorem kx_lst {K : PySem.W.Frag} {H H' : Hp} {a : Addr} {xs : List V} (e : ExtK H H') (h : SqL K H a xs) : SqL K H' a xs := by
  rcases h with (h | ⟨o, h⟩) | h
  · exact .inl (.inl (e _ _ h fun _ z => nomatch z))
  · exact .inl (.inr ⟨o, e _ _ h fun _ z => nomatch z⟩)
  · exact .inr h
mutual
theorem kx_dp {K : PySem.W.Frag} {H H' : Hp} (e : ExtK H H') : ∀ (d : PyData) (v : V), Dp K H v d → Dp K H' v d
  | .none, _, h => by cases h; exact .non
  | .bool _, _, h => by cases h; exact .bl _
  | .int _, _, h => by cases h; exact .int _
  | .str _, _, h => by cases h; exact .str _
  | .list ds, _, h => by
    cases h with
    | lst hs ha => exact .lst (kx_lst e hs) (kx_dps e ds _ ha)
  | .tuple ds, _, h => by
    cases h with
    | tup hs ha => exact .tup (kx_tup e hs) (kx_dps e ds _ ha)
  | .dict _, _, h => by cases h
theorem kx_dps {K : PySem.W.Frag} {H H' : Hp} (e : ExtK H H') : ∀ (ds : List PyData) (vs : List V), DpAll K H vs ds → DpAll K H' vs ds
  | [], _, h => by cases h; exact .nil
  | d :: ds, _, h => by
    cases h with
    | cons h1 h2 => exact .cons (kx_dp e d _ h1) (kx_dps e ds _ h2)
end
theorem lockX {H : Hp} {wd : Addr} {kvs : List (Key × V)} {od : Obj} (h : H wd = some (.dK kvs)) : ExtK H (upd H wd (.frz od (.dK kvs))) := fun b o e n => by
  rw [upd_ne fun z => by rw [z, h] at e; exact n _ (Option.some.inj e).symm]
  exact e
theorem unlockS {H H' : Hp} {wd : Addr} {od : Obj} {u : HO} (h : H wd = some u) (S : Same (upd H wd (.frz od u)) H') : Same H (upd H' wd u) := fun b o e => by
  by_cases q : b = wd
  · rw [q] at e ⊢
    rw [upd_same, ← h]
    exact e
  · rw [upd_ne q]
    exact S _ _ (by rw [upd_ne q]; exact e)
theorem RuleAt.same {K : PySem.W.Frag} {C : Addr} {H H' : Hp} {p : Addr} {z : Str} {ds : List PyData} (h : RuleAt K C H p z ds) (S : Same H H') : RuleAt K C H' p z ds := by
  obtain ⟨dx, a, hp, hd⟩ := h
  exact ⟨dx, a, S _ _ hp, same_dp S _ _ hd⟩
theorem RuleAt.kx {K : PySem.W.Frag} {C : Addr} {H H' : Hp} {p : Addr} {z : Str} {ds : List PyData} (h : RuleAt K C H p z ds) (S : ExtK H H') : RuleAt K C H' p z ds := by
  obtain ⟨dx, a, hp, hd⟩ := h
  exact ⟨dx, a, S _ _ hp (fun _ z => nomatch z), kx_dp S _ _ hd⟩
/-- Rule(m, c) of things that a rule can have -/
theorem rule_run {K : PySem.W.Frag} {C CI : Addr} {H : Hp} {Q : VK} {E : XK} {c : V} {dc : PyData} {z : Str} {ds : List PyData} (hw : isWordS z = true) (hz : z.length ≤ 1000) (hc : Dp K H c dc) (kc : Ctl dc) (ha : actsOf dc = some ds)
    (k : ∀ p H', H p = none → Same H H' → RuleAt K C H' p z ds → Q (.ref p) H') (x dx : Addr) (nx : H x = none) (nd : H dx = none) (hne : dx ≠ x) :
    spRInit K C CI (.ref x :: ([V.str z, c] ++ [])) (upd (upd H dx (.own x)) x (.ins C dx [])) (fun v H2 => v = .non ∧ Q (.ref x) H2) E := by
  have S0 : Same H (upd (upd H dx (.own x)) x (.ins C dx [])) := same_upd nx (same_upd nd (Same.refl H))
  refine ⟨x, dx, .str z, c, .str z, dc, rfl, upd_same, .str z, True.intro, fun y q => by cases q; exact hz, same_dp S0 _ _ hc, kc, ?_, ?_, ?_⟩
  · intro h
    rw [show isWord (.str z) = isWordS z from rfl, hw] at h
    cases h
  · intro _ h
    rw [ha] at h
    cases h
  · intro z' ds' H3 e _ ha' SB RA
    cases e
    rw [ha] at ha'
    cases ha'
    exact ⟨rfl, k x H3 nx (fun b o h => SB b o (ne_of_none h nx) (S0 b o h)) RA⟩
def inIf : Stmt → List Stmt
  | .If _ b _ _ => b
  | _ => []
def inFor : Stmt → List Stmt
  | .For _ _ b _ _ => b
  | _ => []
def bL (k : Nat) : Stmt := (inIf (stL 10)).getD k (.Pass ⟨0, 0, 0, 0⟩)
def fL (k : Nat) : Stmt := (inFor (stL 11)).getD k (.Pass ⟨0, 0, 0, 0⟩)
section
variable {P : Program} {w : World} {K : PySem.W.Frag} {mg : Str → Option Value} {base : Heap} {C CI CS f c0 : Addr} {A : Around} {outer : List Env} {s : Shared} {HX : Hp} {EX : XK}
theorem b0 (T : LawT P w K mg base C CI CS) (hr : Room 7 (cxL P w K mg base f c0 A outer s HX EX).A) {rest : List Stmt} {u : TS} (hu : PSs (cxL P w K mg base f c0 A outer s HX EX) rest u) :
    ∃ t, PSs (cxL P w K mg base f c0 A outer s HX EX) (bL 0 :: rest) t ∧ ∀ (D : Ends) (H : Hp) (a r : Addr) (isn due : Option V) (c : V) (kk : Bool) (wd : Addr) (z : Str) (ds : List PyData), isWordS z = true → z.length ≤ 1000 → Dp K H c (.tuple ds) → Ctl (.tuple ds) → actsOf (.tuple ds) = some ds →
      (∀ p H', Same H H' → RuleAt K C H' p z ds → u D (sw a r kk isn due wd (some (.ref p)) none none c (.str z)) H') → t D (sw a r kk isn due wd none none none c (.str z)) H := by
  refine ⟨_, pss_cons (ps_set (i := 6) scLaw.nd rfl (.inl rfl) (pe_make T.Mk T.GInit (hr.mono (by decide)) (by rfl) T.R.g T.bInit .nil passL (pa_cons (pv 10) (pa_cons (pv 9) pa_nil)))) hu, ?_⟩
  intro D H a r isn due c kk wd z ds hw hz hc kc ha k
  refine ⟨_, rfl, _, rfl, ?_⟩
  intro x dx nx nd hne
  exact rule_run (Q := fun x H1 => u D (sw a r kk isn due wd (some x) none none c (.str z)) H1) hw hz hc kc ha (fun p H' _ S R => k p H' S R) x dx nx nd hne
def rowP (ds : List PyData) (r : Str × List Str) : Bool := PyData.eqv (.tuple (r.2.map PyData.str)) (.tuple ds)
def kindsV (ds : List PyData) (i : Nat) : List V := ((ctrlTab.take i).filter (rowP ds)).map fun r => V.str r.1
theorem kinds_step {ds : List PyData} {i : Nat} {r : Str × List Str} (h : ctrlTab[i]? = some r) : kindsV ds (i + 1) = kindsV ds i ++ if rowP ds r = true then [V.str r.1] else [] := by
  unfold kindsV
  rw [List.take_add_one, h, List.filter_append, List.map_append]
  refine congrArg _ ?_
  show List.map _ (List.filter _ [r]) = _
  rw [List.filter_cons]
  split <;> rfl
theorem row_shaped {r : Str × List Str} (h : r ∈ ctrlTab) : SeqAt.shaped (.tuple (r.2.map PyData.str)) = true := by
  have all4 : ∀ r ∈ ctrlTab, SeqAt.shaped (.tuple (r.2.map PyData.str)) = true := by decide +kernel
  exact all4 r h
/-- the words' rows in a heap where the table may be locked -/
def WordsR (H : Hp) (wd : Addr) (kvs : List (Key × V)) : Prop := Rd H wd (.dK kvs) ∧ WordsT H kvs
theorem WordsT.kx {H H' : Hp} {kvs : List (Key × V)} (h : WordsT H kvs) (e : ExtK H H') : WordsT H' kvs := ⟨h.1, fun i r hr => by
  obtain ⟨a, h1, h2, h3⟩ := h.2 i r hr
  exact ⟨a, h1, h2, e _ _ h3 fun _ z => nomatch z⟩⟩
theorem WordsT.same {H H' : Hp} {kvs : List (Key × V)} (h : WordsT H kvs) (e : Same H H') : WordsT H' kvs := h.kx fun b o q _ => e b o q
theorem b1 (T : LawT P w K mg base C CI CS) (hr : Room 7 (cxL P w K mg base f c0 A outer s HX EX).A) {rest : List Stmt} {u : TS} (hu : PSs (cxL P w K mg base f c0 A outer s HX EX) rest u) :
    ∃ t, PSs (cxL P w K mg base f c0 A outer s HX EX) (bL 1 :: rest) t ∧ ∀ (D : Ends) (H : Hp) (a r p : Addr) (isn due : Option V) (c v : V) (kk : Bool) (wd : Addr) (kvs : List (Key × V)) (ds : List PyData), Dp K H c (.tuple ds) → SeqAt.shaped (.tuple ds) = true → H wd = some (.dK kvs) → WordsT H kvs →
      (∀ l H', Same H H' → H' l = some (.lst (kindsV ds 4)) → u D (sw a r kk isn due wd (some (.ref p)) none (some (.ref l)) c v) H') → t D (sw a r kk isn due wd (some (.ref p)) none none c v) H := by
  have hu64 : (cxL P w K mg base f c0 A outer s HX EX).A.units + 64 < cLine := by have := hr.un; omega
  have hub : ∀ {s1 : Shared} {H1 : Hp} {sc : Scope} {ev : Env} {fp : List Addr}, ((cxL P w K mg base f c0 A outer s HX EX).blk s1 H1 sc ev fp).A.units + 64 < cLine := hu64
  refine ⟨_, pss_cons (ps_lock (ps_setLc (i := 8) (own := [("_law_word", 7)]) (g := gName 7) (by rfl) scLaw.nd rfl rfl (sw_true rfl rfl rfl (by decide +kernel)) (pi_keys (pv 5)) (blkOk_by (own := [("_law_word", 7)]) (N := nLaw) (sc := defScope sLaw) (by decide +kernel))
      (fun _ _ _ _ _ => pg_name (i := 7) scLaw.nd rfl (Or.inl rfl)) (fun _ _ _ _ _ => pts_one (pt_cmpR (r := rEqD K) (op_eqD hub) (pe_dget (Nat.lt_of_le_of_lt (Nat.add_le_add_left (by decide) _) hub) (pv 5) (pv 7) (fun _ _ => rfl)) (pv 9) (nomark _))) (fun _ _ _ _ _ => pv 7))) hu, ?_⟩
  intro D H a r p isn due c v kk wd kvs ds hc hs hwd hT k
  refine ⟨wd, .dK kvs, hwd, True.intro, fun od => ?_⟩
  have eX : ExtK H (upd H wd (.frz od (.dK kvs))) := lockX hwd
  have hW : upd H wd (.frz od (.dK kvs)) wd = some (.frz od (.dK kvs)) := upd_same
  have hun : ∀ {H'}, Same (upd H wd (.frz od (.dK kvs))) H' → Same H (upd H' wd (.dK kvs)) := fun S => unlockS hwd S
  generalize upd H wd (.frz od (.dK kvs)) = H1 at *
  refine ⟨_, rfl, wd, od, rfl, .inl ⟨kvs, hW, fun B hB => ?_⟩⟩
  have hBw : B ≠ wd := fun z => by
    rw [z, hW] at hB
    cases hB
  have T1 := hT.kx eX
  refine lc_it walk_keys (fun i H' => H' = upd H1 B (.lst (kindsV ds i))) rfl (fun i H' _ e => by rw [e, upd_ne hBw.symm]; exact hW) ?_ ?_
  · rintro i x H2 H3 hi rfl ⟨rfl, k1, v1, hk1, rfl⟩
    obtain ⟨r1, hr1⟩ : ∃ r1, ctrlTab[i]? = some r1 := by
      have e : ctrlTab.length = kvs.length := hT.1.symm
      exact ⟨_, List.getElem?_eq_getElem (by rw [e]; exact hi)⟩
    obtain ⟨ta, q1, q2, q3⟩ := T1.2 i r1 hr1
    rw [hk1] at q1
    cases q1
    have S2 : Same H1 (upd H1 B (.lst (kindsV ds i))) := same_upd hB (Same.refl H1)
    refine ⟨rfl, _, rfl, _, rfl, wd, .ref ta, rfl, .inl ⟨kvs, .inr r1.1, .inr ⟨od, S2 _ _ hW⟩, rfl, q2.symm⟩, _, rfl, .tuple (r1.2.map PyData.str), .tuple ds, .tup (SqT.of (S2 _ _ q3)) (words_dp _), same_dp S2 _ _ (kx_dp eX _ _ hc), row_shaped (List.mem_of_getElem? hr1), hs, _, rfl, ?_⟩
    have st := kinds_step (ds := ds) hr1
    refine ite2 (fun h2 => ?_) (fun h2 => ?_)
    · refine ⟨_, rfl, _, upd_same, ?_, ?_⟩
      · have q : (kindsV ds i).length ≤ i := by
          unfold kindsV
          rw [List.length_map]
          refine Nat.le_trans (List.length_filter_le _ _) ?_
          rw [List.length_take]
          exact Nat.min_le_left _ _
        have e4 : kvs.length = 4 := hT.1
        have hs2 := sizeLine_eq
        omega
      · rw [upd_upd, st, if_pos (show rowP ds r1 = true from h2)]
        rfl
    · rw [st, if_neg (show ¬ rowP ds r1 = true from h2), List.append_nil]
  · rintro H2 rfl
    rw [hT.1]
    have S2 : Same H1 (upd H1 B (.lst (kindsV ds 4))) := same_upd hB (Same.refl H1)
    refine ⟨S2 _ _ hW, ?_⟩
    exact k B _ (hun S2) (by rw [upd_ne hBw, upd_same])
end
end LS
namespace LS
open PySem L2
def kindD (ds : List PyData) : PyData := match ctrlTab.find? (rowP ds) with
  | some r => .str r.1
  | none => .none
def kindsD (ds : List PyData) : List PyData := (ctrlTab.filter (rowP ds)).map fun r => PyData.str r.1
theorem kindV_eq (ds : List PyData) : kindV ds = match ctrlTab.find? (rowP ds) with
  | some r => .str r.1
  | none => .non := rfl
theorem kind_dp {K : PySem.W.Frag} {H : Hp} (ds : List PyData) : Dp K H (kindV ds) (kindD ds) := by
  rw [kindV_eq]
  unfold kindD
  cases ctrlTab.find? (rowP ds) with
  | none => exact .non
  | some r => exact .str _
theorem kindsV4 (ds : List PyData) : kindsV ds 4 = (ctrlTab.filter (rowP ds)).map fun r => V.str r.1 := rfl
theorem kinds_dps {K : PySem.W.Frag} {H : Hp} (ds : List PyData) : DpAll K H (kindsV ds 4) (kindsD ds) := by
  rw [kindsV4]
  unfold kindsD
  generalize ctrlTab.filter (rowP ds) = l
  induction l with
  | nil => exact .nil
  | cons r l ih => exact .cons (.str _) ih
theorem word_lay {r : Str × List Str} (h : r ∈ ctrlTab) : PyData.canLay0 (.str r.1) = true := by
  have all4 : ∀ r ∈ ctrlTab, PyData.canLay0 (.str r.1) = true := by decide +kernel
  exact all4 r h
theorem kinds_shaped (ds : List PyData) : SeqAt.shaped (.list (kindsD ds)) = true := by
  have h1 : PyData.canLayAll0 (kindsD ds) = true := canAll fun d hd => by
    obtain ⟨r, hr, rfl⟩ := List.mem_map.mp hd
    exact word_lay (List.mem_filter.mp hr).1
  have h2 : PyData.depthAll (kindsD ds) ≤ 1 := depthAll_le fun d hd => by
    obtain ⟨c, hc, rfl⟩ := List.mem_map.mp hd
    simp [PyData.depth]
  show (PyData.canLay0 (.list _) && decide (PyData.depth (.list _) ≤ 64)) = true
  rw [Bool.and_eq_true]
  refine ⟨by simp only [PyData.canLay0]; exact h1, decide_eq_true ?_⟩
  simp only [PyData.depth]
  omega
theorem kind_lay (ds : List PyData) : PyData.canLay0 (kindD ds) = true ∧ PyData.depth (kindD ds) ≤ 1 := by
  unfold kindD
  cases e : ctrlTab.find? (rowP ds) with
  | none => exact ⟨by decide +kernel, by decide +kernel⟩
  | some r => exact ⟨word_lay (List.mem_of_find?_eq_some e), by simp [PyData.depth]⟩
theorem kinds_none {ds : List PyData} (h : (kindsD ds).isEmpty = true) : kindV ds = .non := by
  rw [kindV_eq, ← List.head?_filter]
  unfold kindsD at h
  cases e : ctrlTab.filter (rowP ds) with
  | nil => rfl
  | cons r l => rw [e] at h; cases h
theorem kinds_some {ds : List PyData} (h : (kindsD ds).isEmpty = false) : atI (kindsV ds 4) 0 = some (kindV ds) := by
  rw [kindV_eq, ← List.head?_filter, kindsV4]
  unfold kindsD at h
  cases e : ctrlTab.filter (rowP ds) with
  | nil => rw [e] at h; cases h
  | cons r l => exact atI_nat (j := 0) rfl
/-- an action is an int or a text -/
theorem action_flat {d : PyData} (h : isAction d = true) : d.depth ≤ 1 := by
  cases d with
  | none => simp [PyData.depth]
  | bool _ => simp [PyData.depth]
  | int _ => simp [PyData.depth]
  | str _ => simp [PyData.depth]
  | list ds => simp [isAction, PyData.eqv] at h
  | tuple ds => simp [isAction, PyData.eqv] at h
  | dict ds => simp [isAction, PyData.eqv] at h
theorem acts_tup {ds ds' : List PyData} (h : actsOf (.tuple ds) = some ds') : ds' = ds ∧ ds.length = 4 ∧ ds.all isAction = true := by
  have e : actsOf (.tuple ds) = if ds.length = 4 ∧ ds.all isAction = true then some ds else none := rfl
  rw [e] at h
  by_cases q : ds.length = 4 ∧ ds.all isAction = true
  · rw [if_pos q] at h
    cases h
    exact ⟨rfl, q⟩
  · rw [if_neg q] at h
    cases h
theorem tri_shaped {z : Str} {ds : List PyData} (hz : SeqAt.shaped (.str z) = true) (hs : SeqAt.shaped (.tuple ds) = true) (ha : actsOf (.tuple ds) = some ds) : SeqAt.shaped (.tuple [.str z, .tuple ds, kindD ds]) = true := by
  obtain ⟨k1, k2⟩ := kind_lay ds
  have h1 := SeqAt.canLay_of_shaped hz
  have h2 := SeqAt.canLay_of_shaped hs
  have h3 : PyData.depthAll ds ≤ 1 := depthAll_le fun d hd => action_flat (List.all_eq_true.mp (acts_tup ha).2.2 d hd)
  show (PyData.canLay0 (.tuple _) && decide (PyData.depth (.tuple _) ≤ 64)) = true
  rw [Bool.and_eq_true]
  refine ⟨?_, decide_eq_true ?_⟩
  · show PyData.canLayAll0 [.str z, .tuple ds, kindD ds] = true
    exact canAll fun d hd => by
      simp only [List.mem_cons, List.not_mem_nil, or_false] at hd
      rcases hd with rfl | rfl | rfl
      · exact h1
      · exact h2
      · exact k1
  · have q : PyData.depthAll [.str z, .tuple ds, kindD ds] ≤ 3 := depthAll_le fun d hd => by
      simp only [List.mem_cons, List.not_mem_nil, or_false] at hd
      rcases hd with rfl | rfl | rfl
      · simp [PyData.depth]
      · simp only [PyData.depth]
        omega
      · omega
    simp only [PyData.depth]
    omega
section
variable {P : Program} {w : World} {K : PySem.W.Frag} {mg : Str → Option Value} {base : Heap} {C CI CS f c0 : Addr} {A : Around} {outer : List Env} {s : Shared} {HX : Hp} {EX : XK}
theorem b2 (T : LawT P w K mg base C CI CS) (hr : Room 7 (cxL P w K mg base f c0 A outer s HX EX).A) {rest : List Stmt} {u : TS} (hu : PSs (cxL P w K mg base f c0 A outer s HX EX) rest u) :
    ∃ t, PSs (cxL P w K mg base f c0 A outer s HX EX) (bL 2 :: rest) t ∧ ∀ (D : Ends) (H : Hp) (a r p l : Addr) (isn due : Option V) (c : V) (kk : Bool) (wd : Addr) (z : Str) (ds : List PyData), RuleAt K C H p z ds → Dp K H c (.tuple ds) → SeqAt.shaped (.str z) = true → SeqAt.shaped (.tuple ds) = true → actsOf (.tuple ds) = some ds → H l = some (.lst (kindsV ds 4)) →
      (∀ H', Same H H' → u D (sw a r kk isn due wd (some (.ref p)) none (some (.ref l)) c (.str z)) H') → t D (sw a r kk isn due wd (some (.ref p)) none (some (.ref l)) c (.str z)) H := by
  have hu64 : (cxL P w K mg base f c0 A outer s HX EX).A.units + 64 < cLine := by have := hr.un; omega
  have h2 : Room 2 (cxL P w K mg base f c0 A outer s HX EX).A := hr.mono (by decide)
  refine ⟨_, pss_cons (ps_if (pt_cmpR (op_neD hu64) (pe_tup (pa_cons (pe_prop (pv 6) T.R.cl T.pM T.GMod h2 T.bMod .nil pass0 rfl) (pa_cons (pe_prop (pv 6) T.R.cl T.pC T.GCtl h2 T.bCtl .nil pass0 rfl) (pa_cons (pe_prop (pv 6) T.R.cl T.pK T.GKind h2 T.bKind .nil pass0 rfl) pa_nil))))
      (pe_tup (pa_cons (pv 10) (pa_cons (pv 9) (pa_cons (pe_ifExp (pt_cmpR (op_neD hu64) (pv 8) (pe_lst pa_nil) (nomark _)) (pe_ix ix_list (pv 8) pe_int (fun _ _ => rfl)) pe_non) pa_nil)))) (nomark _)) (pss_one (ps_ret pe_bl)) pss_nil) hu, ?_⟩
  intro D H a r p l isn due c kk wd z ds hR hc hz hs ha hl k
  obtain ⟨dx, ad, hp, hd⟩ := id hR
  refine ⟨_, rfl, p, dx, _, rfl, hp, p, z, ds, rfl, hR, ?_⟩
  refine ⟨_, rfl, p, dx, _, rfl, hp, p, z, ds, rfl, hR, fun ac hac => ?_⟩
  refine ⟨_, rfl, p, dx, _, rfl, hp, p, z, ds, rfl, hR, hs, ?_⟩
  refine ⟨by show 3 ≤ sizeLine; decide, fun q1 n1 => ?_⟩
  have S1 : Same H (upd H q1 (.tup [.str z, .ref ac, kindV ds])) := same_upd n1 (Same.refl H)
  have e1 : upd H q1 (.tup [.str z, .ref ac, kindV ds]) q1 = some (.tup [.str z, .ref ac, kindV ds]) := upd_same
  generalize upd H q1 (.tup [.str z, .ref ac, kindV ds]) = H1 at *
  refine ⟨_, rfl, _, rfl, ?_⟩
  refine ⟨_, rfl, Nat.zero_le _, fun q2 n2 => ?_⟩
  have S2 : Same H1 (upd H1 q2 (.lst [])) := same_upd n2 (Same.refl H1)
  have e2 : upd H1 q2 (.lst []) q2 = some (.lst []) := upd_same
  generalize upd H1 q2 (.lst []) = H2 at *
  have l2 := S2 _ _ (S1 _ _ hl)
  refine ⟨.list (kindsD ds), .list [], .lst (SqL.of l2) (kinds_dps ds), .lst (SqL.of e2) .nil, kinds_shaped ds, by decide +kernel, _, rfl, ?_⟩
  rw [eqv_nil]
  have fin : ∀ q3, H2 q3 = none → (tIfS (tTest fun σ H Q => (∃ d e, Dp K H (.ref q1) d ∧ Dp K H (.ref q3) e ∧ SeqAt.shaped d = true ∧ SeqAt.shaped e = true ∧ Q (.bl (!PyData.eqv d e)) H)) (tRet (tC (V.bl false))) tNext) { D with nx := fun σ H => u D σ H } (sw a r kk isn due wd (some (.ref p)) none (some (.ref l)) c (.str z)) (upd H2 q3 (.tup [.str z, c, kindV ds])) := fun q3 n3 => by
    have S3 : Same H2 (upd H2 q3 (.tup [.str z, c, kindV ds])) := same_upd n3 (Same.refl H2)
    have e3 : upd H2 q3 (.tup [.str z, c, kindV ds]) q3 = some (.tup [.str z, c, kindV ds]) := upd_same
    generalize upd H2 q3 (.tup [.str z, c, kindV ds]) = H3 at *
    have SA : Same H H3 := S1.trans (S2.trans S3)
    refine ⟨_, _, .tup (SqT.of (S3 _ _ (S2 _ _ e1))) (.cons (.str _) (.cons (same_dp SA _ _ hac) (.cons (kind_dp ds) .nil))), .tup (SqT.of e3) (.cons (.str _) (.cons (same_dp SA _ _ hc) (.cons (kind_dp ds) .nil))), tri_shaped hz hs ha, tri_shaped hz hs ha, _, rfl, ?_⟩
    rw [SeqAt.eqv_refl _ (SeqAt.canLay_of_shaped (tri_shaped hz hs ha))]
    refine iteF ?_
    exact k H3 SA
  cases hk : (kindsD ds).isEmpty with
  | true =>
    refine iteF ?_
    rw [kinds_none hk] at fin
    exact ⟨by show 3 ≤ sizeLine; decide, fun q3 n3 => fin q3 n3⟩
  | false =>
    refine iteT ?_
    refine ⟨_, rfl, l, _, 0, kindV ds, rfl, rfl, SqL.of l2, kinds_some hk, by show 3 ≤ sizeLine; decide, fun q3 n3 => ?_⟩
    exact fin q3 n3
end
end LS
namespace LS
open PySem L2
theorem eq_run {K : PySem.W.Frag} {C : Addr} {H : Hp} {Q : VK} {p q : Addr} {z z' : Str} {ds ds' : List PyData} {neg : Bool} (h1 : RuleAt K C H p z ds) (h2 : RuleAt K C H q z' ds') (s1 : SeqAt.shaped (.tuple ds) = true) (s2 : SeqAt.shaped (.tuple ds') = true)
    (k : Q (.bl (if neg then !eqRule z z' ds ds' else eqRule z z' ds ds')) H) : rEqI C (spREq K C) neg (.ref p) (.ref q) H Q := by
  obtain ⟨dx, a, hp, _⟩ := id h1
  obtain ⟨dy, b, hq, _⟩ := id h2
  exact ⟨p, q, dx, dy, _, _, rfl, rfl, hp, hq, p, q, z, z', ds, ds', rfl, h1, h2, s1, s2, _, rfl, k⟩
/-- Rule(m, c) of things that a rule can have: the new rule at x -/
theorem rule_at {K : PySem.W.Frag} {C CI : Addr} {H : Hp} {G : Hp → Prop} {E : XK} {c : V} {dc : PyData} {z : Str} {ds : List PyData} {x dx : Addr} (hw : isWordS z = true) (hz : z.length ≤ 1000) (hc : Dp K H c dc) (kc : Ctl dc) (ha : actsOf dc = some ds)
    (nx : H x = none) (nd : H dx = none) (hne : dx ≠ x) (k : ∀ H', Same H H' → RuleAt K C H' x z ds → G H') :
    spRInit K C CI (.ref x :: ([V.str z, c] ++ [])) (upd (upd H dx (.own x)) x (.ins C dx [])) (fun v H2 => v = .non ∧ G H2) E :=
  rule_run (Q := fun v H1 => v = .ref x → G H1) hw hz hc kc ha (fun p H' _ S R e => by cases e; exact k H' S R) x dx nx nd hne |> fun h => by
    obtain ⟨p, d, m, cc, dm, dc', e, h1, h2, h3, h4, h5, h6, h7, h8, h9⟩ := h
    exact ⟨p, d, m, cc, dm, dc', e, h1, h2, h3, h4, h5, h6, h7, h8, fun z' ds' H' q1 q2 q3 q4 q5 => ⟨(h9 z' ds' H' q1 q2 q3 q4 q5).1, (h9 z' ds' H' q1 q2 q3 q4 q5).2 rfl⟩⟩
theorem eq_self {z : Str} {ds : List PyData} (s1 : SeqAt.shaped (.tuple ds) = true) : eqRule z z ds ds = true := by
  unfold eqRule
  rw [decide_eq_true rfl, SeqAt.eqv_refl _ (SeqAt.canLay_of_shaped s1)]
  rfl
theorem eq_other {z z' : Str} {ds ds' : List PyData} (h : ¬ z = z') : eqRule z z' ds ds' = false := by
  unfold eqRule
  rw [decide_eq_false h]
  rfl
section
variable {P : Program} {w : World} {K : PySem.W.Frag} {mg : Str → Option Value} {base : Heap} {C CI CS f c0 : Addr} {A : Around} {outer : List Env} {s : Shared} {HX : Hp} {EX : XK}
theorem b3 (T : LawT P w K mg base C CI CS) (hr : Room 7 (cxL P w K mg base f c0 A outer s HX EX).A) {rest : List Stmt} {u : TS} (hu : PSs (cxL P w K mg base f c0 A outer s HX EX) rest u) :
    ∃ t, PSs (cxL P w K mg base f c0 A outer s HX EX) (bL 3 :: rest) t ∧ ∀ (D : Ends) (H : Hp) (a r p l : Addr) (isn due : Option V) (c : V) (kk : Bool) (wd : Addr) (z : Str) (ds : List PyData), isWordS z = true → z.length ≤ 1000 → RuleAt K C H p z ds → Dp K H c (.tuple ds) → Ctl (.tuple ds) → ¬ z = "other" → SeqAt.shaped (.tuple ds) = true → actsOf (.tuple ds) = some ds →
      (∀ H', Same H H' → u D (sw a r kk isn due wd (some (.ref p)) none (some (.ref l)) c (.str z)) H') → t D (sw a r kk isn due wd (some (.ref p)) none (some (.ref l)) c (.str z)) H := by
  have h2 : Room 2 (cxL P w K mg base f c0 A outer s HX EX).A := hr.mono (by decide)
  have h4 : Room 5 (cxL P w K mg base f c0 A outer s HX EX).A := hr.mono (by decide)
  refine ⟨_, pss_cons (ps_if (PW.pt (pw_or (pt_cmpR (op_eqI T.GEq (hr.mono (by decide)) T.eq T.fEq_ T.bEq) (pv 6) (pe_make T.Mk T.GInit h4 (by rfl) T.R.g T.bInit .nil passL (pa_cons pe_str (pa_cons (pv 9) pa_nil))) (nomark _))
      (pw_or1 (pt_cmpR (op_neI T.GEq h2 T.eq T.fEq_ T.bEq T.ne T.N.hm) (pv 6) (pe_make T.Mk T.GInit h4 (by rfl) T.R.g T.bInit .nil passL (pa_cons (pv 10) (pa_cons (pv 9) pa_nil))) (nomark _))))) (pss_one (ps_ret pe_bl)) pss_nil) hu, ?_⟩
  intro D H a r p l isn due c kk wd z ds hw hz hR hc kc hn hs ha k
  refine ⟨_, rfl, _, rfl, ?_⟩
  intro x dx nx nd hne
  refine rule_at (by decide +kernel) (by decide +kernel) hc kc ha nx nd hne (fun H1 S1 R1 => ?_)
  refine eq_run (hR.same S1) R1 hs hs ⟨_, rfl, ?_⟩
  rw [eq_other hn]
  refine iteF ?_
  refine ⟨_, rfl, _, rfl, _, rfl, ?_⟩
  intro x dx nx nd hne
  refine rule_at hw hz (same_dp S1 _ _ hc) kc ha nx nd hne (fun H2 S2 R2 => ?_)
  refine eq_run (hR.same (S1.trans S2)) R2 hs hs ⟨_, rfl, ?_⟩
  rw [eq_self hs]
  refine iteF ?_
  exact k H2 (S1.trans S2)
end
end LS
namespace LS
open PySem L2
theorem tab_acts {r : Str × List Str} (h : r ∈ ctrlTab) : actsOf (.str r.1) = some (r.2.map PyData.str) ∧ actsOf (.tuple (r.2.map PyData.str)) = some (r.2.map PyData.str) ∧ Ctl (.tuple (r.2.map PyData.str)) ∧ kindV (r.2.map PyData.str) = .str r.1 := by
  have m : ∀ r ∈ ctrlTab, ∀ e ∈ r.2, SeqAt.shaped (.str e) = true ∧ e.length ≤ 1000 := by decide +kernel
  have a4 : ∀ r ∈ ctrlTab, r.2.length = 4 ∧ (r.2.map PyData.str).all isAction = true := by decide +kernel
  have k4 : ∀ r ∈ ctrlTab, ctrlTab.find? (rowP (r.2.map PyData.str)) = some r := by decide +kernel
  obtain ⟨i, hi⟩ := List.getElem?_of_mem h
  obtain ⟨l4, b4⟩ := a4 r h
  refine ⟨?_, if_pos ⟨by rw [List.length_map]; exact l4, b4⟩, ⟨True.intro, fun ds e => ?_⟩, ?_⟩
  · show (looked r.1 ctrlTab).map (·.map PyData.str) = _
    rw [looked_at i r hi]
    rfl
  · cases e
    refine ⟨by rw [List.length_map, l4]; decide, fun e he => ?_⟩
    obtain ⟨z, hz, rfl⟩ := List.mem_map.mp he
    exact ⟨True.intro, (m r h z hz).1, fun y q => by cases q; exact (m r h z hz).2⟩
  · rw [kindV_eq, k4 r h]
section
variable {P : Program} {w : World} {K : PySem.W.Frag} {mg : Str → Option Value} {base : Heap} {C CI CS f c0 : Addr} {A : Around} {outer : List Env} {s : Shared} {HX : Hp} {EX : XK}
theorem grp10 (T : LawT P w K mg base C CI CS) (hr : Room 7 (cxL P w K mg base f c0 A outer s HX EX).A) {rest : List Stmt} {u : TS} (hu : PSs (cxL P w K mg base f c0 A outer s HX EX) rest u) :
    ∃ t, PSs (cxL P w K mg base f c0 A outer s HX EX) (stL 10 :: rest) t ∧ ∀ (D : Ends) (H : Hp) (a r : Addr) (v c due : V) (dm dc : PyData) (kk : Bool) (wd : Addr) (kvs : List (Key × V)), Core K H v dm c dc kk → Dp K H due (dueD (isWord dm) kk) → H wd = some (.dK kvs) → WordsT H kvs →
      (∀ ru ks H', Same H H' → u D (sw a r kk (some (.bl (isWord dm))) (some due) wd ru none ks c v) H') → t D (sw a r kk (some (.bl (isWord dm))) (some due) wd none none none c v) H := by
  obtain ⟨t3, p3, q3⟩ := b3 T hr (u := tNext) pss_nil
  obtain ⟨t2, p2, q2⟩ := b2 T hr p3
  obtain ⟨t1, p1, q1⟩ := b1 T hr p2
  obtain ⟨t0, p0, q0⟩ := b0 T hr p1
  refine ⟨_, pss_cons (ps_if (pt_cmpR op_isN (pv 4) pe_non (nomark _)) p0 pss_nil) hu, ?_⟩
  intro D H a r v c due dm dc kk wd kvs hC hd hwd hT k
  cases q : (isWord dm && kk) with
  | false =>
    unfold dueD at hd
    rw [if_neg (by rw [q]; decide)] at hd
    cases hd with
    | tup hs _ =>
      refine ⟨_, rfl, rfl, _, rfl, ?_⟩
      refine iteF ?_
      exact k none none H (Same.refl H)
  | true =>
    unfold dueD at hd
    rw [if_pos q] at hd
    cases hd
    obtain ⟨hw, hk⟩ := Bool.and_eq_true_iff.mp q
    obtain ⟨z, rfl, hz⟩ := word_str hw
    obtain ⟨ds, rfl, ha⟩ := hC.t1 hk
    have hv := hC.nm.1
    cases hv
    have hz1 := hC.nm.2.2.2.1 z rfl
    have hzs := hC.nm.2.2.1
    have hzn : ¬ z = "other" := fun e => hC.nm.2.2.2.2 (by rw [e])
    refine ⟨_, rfl, rfl, _, rfl, ?_⟩
    refine iteT ?_
    refine q0 _ H a r _ _ c kk wd z ds hz hz1 hC.ct hC.ctl ha fun p H1 S1 R1 => ?_
    refine q1 _ H1 a r p _ _ c _ kk wd kvs ds (same_dp S1 _ _ hC.ct) hC.csh (S1 _ _ hwd) (hT.same S1) fun l H2 S2 hl => ?_
    have S12 := S1.trans S2
    refine q2 _ H2 a r p l _ _ c kk wd z ds (R1.same S2) (same_dp S12 _ _ hC.ct) hzs hC.csh ha hl fun H3 S3 => ?_
    have S13 := S12.trans S3
    refine q3 _ H3 a r p l _ _ c kk wd z ds hz hz1 (R1.same (S2.trans S3)) (same_dp S13 _ _ hC.ct) hC.ctl hzn hC.csh ha fun H4 S4 => ?_
    exact k _ _ H4 (S13.trans S4)
theorem grp11b (T : LawT P w K mg base C CI CS) (hr : Room 7 (cxL P w K mg base f c0 A outer s HX EX).A) :
    ∃ t, PSs (cxL P w K mg base f c0 A outer s HX EX) (inFor (stL 11)) t ∧ ∀ (D : Ends) (H : Hp) (a r : Addr) (isn due ru ks : Option V) (v c : V) (kk : Bool) (wd ta : Addr) (kvs : List (Key × V)) (r1 : Str × List Str), r1 ∈ ctrlTab → Rd H wd (.dK kvs) → valV kvs (.inr r1.1) = some (.ref ta) → H ta = some (.tup (r1.2.map V.str)) →
      (∀ ru' H', Same H H' → D.nx (sw a r kk isn due wd ru' (some (.str r1.1)) ks c v) H') → t D (sw a r kk isn due wd ru (some (.str r1.1)) ks c v) H := by
  have hu64 : (cxL P w K mg base f c0 A outer s HX EX).A.units + 64 < cLine := by have := hr.un; omega
  have hu1 : (cxL P w K mg base f c0 A outer s HX EX).A.units + 1 < cLine := by have := hr.un; omega
  have h2 : Room 2 (cxL P w K mg base f c0 A outer s HX EX).A := hr.mono (by decide)
  have h4 : Room 5 (cxL P w K mg base f c0 A outer s HX EX).A := hr.mono (by decide)
  refine ⟨_, pss_cons (ps_set (i := 6) scLaw.nd rfl (.inl rfl) (pe_make T.Mk T.GInit h4 (by rfl) T.R.g T.bInit .nil passL (pa_cons pe_str (pa_cons (pv 7) pa_nil))))
    (pss_cons (ps_if (pt_cmpR (op_neD hu64) (pe_prop (pv 6) T.R.cl T.pC T.GCtl h2 T.bCtl .nil pass0 rfl) (pe_dget hu1 (pv 5) (pv 7) (fun _ _ => rfl)) (nomark _)) (pss_one (ps_ret pe_bl)) pss_nil)
    (pss_cons (ps_if (pt_cmpR op_ne (pe_prop (pv 6) T.R.cl T.pK T.GKind h2 T.bKind .nil pass0 rfl) (pv 7) (nomark _)) (pss_one (ps_ret pe_bl)) pss_nil)
    (pss_one (ps_if (pt_cmpR (op_neI T.GEq h2 T.eq T.fEq_ T.bEq T.ne T.N.hm) (pv 6) (pe_make T.Mk T.GInit h4 (by rfl) T.R.g T.bInit .nil passL (pa_cons pe_str (pa_cons (pe_dget hu1 (pv 5) (pv 7) (fun _ _ => rfl)) pa_nil))) (nomark _)) (pss_one (ps_ret pe_bl)) pss_nil)))), ?_⟩
  intro D H a r isn due ru ks v c kk wd ta kvs r1 hr1 hrd hv ht k
  obtain ⟨ac1, ac2, kc, kv⟩ := tab_acts hr1
  have hsh := row_shaped hr1
  refine ⟨_, rfl, ?_⟩
  intro x dx nx nd hne
  refine rule_at (dc := .str r1.1) (by decide +kernel) (by decide +kernel) (.str _) ⟨True.intro, fun ds e => (nomatch e)⟩ ac1 nx nd hne (fun H1 S1 R1 => ?_)
  obtain ⟨dx1, ad, hp, hd⟩ := id R1
  have rd1 : Rd H1 wd (.dK kvs) := hrd.elim (fun h => .inl (S1 _ _ h)) fun ⟨o, h⟩ => .inr ⟨o, S1 _ _ h⟩
  refine ⟨_, rfl, x, dx1, _, rfl, hp, x, _, _, rfl, R1, fun ac hac => ?_⟩
  refine ⟨_, rfl, _, rfl, wd, .ref ta, rfl, .inl ⟨kvs, .inr r1.1, rd1, rfl, hv.symm⟩, _, _, hac, .tup (SqT.of (S1 _ _ ht)) (words_dp _), hsh, hsh, _, rfl, ?_⟩
  rw [SeqAt.eqv_refl _ (SeqAt.canLay_of_shaped hsh)]
  refine iteF ?_
  refine ⟨_, rfl, x, dx1, _, rfl, hp, x, _, _, rfl, R1, hsh, ?_⟩
  rw [kv]
  refine ⟨_, rfl, rfl, _, rfl, ?_⟩
  rw [decide_eq_true rfl]
  refine iteF ?_
  refine ⟨_, rfl, _, rfl, _, rfl, wd, .ref ta, rfl, .inl ⟨kvs, .inr r1.1, rd1, rfl, hv.symm⟩, ?_⟩
  intro y dy ny nd' hne'
  refine rule_at (dc := .tuple (r1.2.map PyData.str)) (by decide +kernel) (by decide +kernel) (.tup (SqT.of (S1 _ _ ht)) (words_dp _)) kc ac2 ny nd' hne' (fun H2 S2 R2 => ?_)
  refine eq_run (R1.same S2) R2 hsh hsh ⟨_, rfl, ?_⟩
  rw [eq_self hsh]
  refine iteF ?_
  exact k _ H2 (S1.trans S2)
theorem grp11 (T : LawT P w K mg base C CI CS) (hr : Room 7 (cxL P w K mg base f c0 A outer s HX EX).A) {rest : List Stmt} {u : TS} (hu : PSs (cxL P w K mg base f c0 A outer s HX EX) rest u) :
    ∃ t, PSs (cxL P w K mg base f c0 A outer s HX EX) (stL 11 :: rest) t ∧ ∀ (D : Ends) (H : Hp) (a r : Addr) (isn due ru ks : Option V) (v c : V) (kk : Bool) (wd : Addr) (kvs : List (Key × V)), H wd = some (.dK kvs) → WordsT H kvs →
      (∀ ru' wo' H', Same H H' → u D (sw a r kk isn due wd ru' wo' ks c v) H') → t D (sw a r kk isn due wd ru none ks c v) H := by
  obtain ⟨tb, pb, qb⟩ := grp11b T hr
  refine ⟨_, pss_cons (ps_lock (ps_for PassesOwn.never rfl (pi_keys (pv 5)) (pg_name (i := 7) scLaw.nd rfl (Or.inl rfl)) pb)) hu, ?_⟩
  intro D H a r isn due ru ks v c kk wd kvs hwd hT k
  refine ⟨wd, .dK kvs, hwd, True.intro, fun od => ?_⟩
  have eX : ExtK H (upd H wd (.frz od (.dK kvs))) := lockX hwd
  have hW : upd H wd (.frz od (.dK kvs)) wd = some (.frz od (.dK kvs)) := upd_same
  have hun : ∀ {H'}, Same (upd H wd (.frz od (.dK kvs))) H' → Same H (upd H' wd (.dK kvs)) := fun S => unlockS hwd S
  generalize upd H wd (.frz od (.dK kvs)) = H1 at *
  have T1 := hT.kx eX
  refine ⟨_, rfl, wd, od, rfl, .inl ⟨kvs, hW, ?_⟩⟩
  refine for_it walk_keys (fun i σ H' => Same H1 H' ∧ ∃ ru' wo', σ = sw a r kk isn due wd ru' wo' ks c v) ⟨Same.refl H1, ru, none, rfl⟩ (fun i σ H' _ e => e.1 _ _ hW) ?_ ?_
  · rintro i x σ H2 H3 hi ⟨S2, ru', wo', rfl⟩ ⟨rfl, k1, v1, hk1, rfl⟩
    obtain ⟨r1, hr1⟩ : ∃ r1, ctrlTab[i]? = some r1 := by
      have e : ctrlTab.length = kvs.length := hT.1.symm
      exact ⟨_, List.getElem?_eq_getElem (by rw [e]; exact hi)⟩
    obtain ⟨ta, q1, q2, q3⟩ := T1.2 i r1 hr1
    rw [hk1] at q1
    cases q1
    exact qb _ H3 a r isn due ru' ks v c kk wd ta kvs r1 (List.mem_of_getElem? hr1) (.inr ⟨od, S2 _ _ hW⟩) q2 (S2 _ _ q3) fun ru2 H4 S4 => ⟨S2.trans S4, _, _, rfl⟩
  · rintro σ H2 ⟨S2, ru', wo', rfl⟩
    exact ⟨S2 _ _ hW, k ru' wo' _ (hun S2)⟩
theorem grp12 (T : LawT P w K mg base C CI CS) (hr : Room 7 (cxL P w K mg base f c0 A outer s HX EX).A) :
    ∃ t, PSs (cxL P w K mg base f c0 A outer s HX EX) [stL 12] t ∧ ∀ (D : Ends) (σ : St) (H : Hp), (∀ H', D.rt (.bl true) H') → t D σ H := by
  have h2 : Room 2 (cxL P w K mg base f c0 A outer s HX EX).A := hr.mono (by decide)
  have h4 : Room 5 (cxL P w K mg base f c0 A outer s HX EX).A := hr.mono (by decide)
  refine ⟨_, pss_one (ps_ret (pe_cmpR (op_neI T.GEq h2 T.eq T.fEq_ T.bEq T.ne T.N.hm) (pe_make T.Mk T.GInit h4 (by rfl) T.R.g T.bInit .nil passL (pa_cons pe_str (pa_cons pe_str pa_nil))) (pe_make T.Mk T.GInit h4 (by rfl) T.R.g T.bInit .nil passL (pa_cons pe_str (pa_cons pe_str pa_nil))) (nomark _))), ?_⟩
  intro D σ H k
  obtain ⟨ac1, _, _, _⟩ := tab_acts (r := ("required", tReq)) (by decide +kernel)
  obtain ⟨ac2, _, _, _⟩ := tab_acts (r := ("requisite", tRqs)) (by decide +kernel)
  intro x dx nx nd hne
  refine rule_at (dc := .str "required") (by decide +kernel) (by decide +kernel) (.str _) ⟨True.intro, fun ds e => (nomatch e)⟩ ac1 nx nd hne (fun H1 S1 R1 => ?_)
  intro y dy ny nd' hne'
  refine rule_at (dc := .str "requisite") (by decide +kernel) (by decide +kernel) (.str _) ⟨True.intro, fun ds e => (nomatch e)⟩ ac2 ny nd' hne' (fun H2 S2 R2 => ?_)
  refine eq_run (R1.same S2) R2 (by decide +kernel) (by decide +kernel) ?_
  rw [show eqRule "pin" "pin" (tReq.map PyData.str) (tRqs.map PyData.str) = false by decide +kernel]
  exact k H2
end
end LS
namespace LS
open PySem L2
section
variable {P : Program} {w : World} {K : PySem.W.Frag} {mg : Str → Option Value} {base : Heap} {C CI CS : Addr}
theorem ok_law {f c PT : Addr} {oc kV doc pm ct : Value} {od an : Option Addr} {osl : Array (Option Value)} (T : LawT P w K mg base C CI CS)
    (lk : K.lookup f = some ⟨oc, od, .func (PySem.W.fnOf "law" "law" (defArgs sLaw) (defBody sLaw) (defScope sLaw) .none kV doc pm an (.ref c) ct), osl⟩) (hcd : PySem.W.codeIn K (.ref c) "law" = true) (TB : LamX.TabB base mg c PT) :
    FnOk P w K mg base CX0 8 f (PySem.W.fnOf "law" "law" (defArgs sLaw) (defBody sLaw) (defScope sLaw) .none kV doc pm an (.ref c) ct) ["_law_script"] (spLaw K PT) := by
  refine fn_of lk hcd scLaw (fun vs H Q E h => ?_) (fun A outer s H vs Q E hr h => ?_)
  · obtain ⟨a, ns, rfl, _⟩ := h
    rfl
  · obtain ⟨a, ns, rfl, hS, hPT, k⟩ := h
    obtain ⟨t12, p12, q12⟩ := grp12 (f := f) (c0 := c) (outer := outer) (s := s) (HX := H) (EX := E) T hr
    obtain ⟨t11, p11, q11⟩ := grp11 T hr p12
    obtain ⟨t10, p10, q10⟩ := grp10 T hr p11
    obtain ⟨t7, p7, q7⟩ := grp7 hr p10
    obtain ⟨t6, p6, q6⟩ := grp6 T TB hr p7
    obtain ⟨t5, p5, q5⟩ := grp5 T hr p6
    obtain ⟨t4, p4, q4⟩ := grp4 T hr p5
    obtain ⟨t3, p3, q3⟩ := grp3 T hr p4
    obtain ⟨t0, p0, q0⟩ := grpA T hr p3
    refine ⟨t0, p0.nox, ?_⟩
    refine q0 _ H a PT ns hS hPT fun r v cc dm dc kk H1 C1 hP1 => ?_
    refine q3 _ H1 a r v cc dm dc kk C1 ?_
    refine q4 _ H1 a r v cc dm dc kk C1 fun H2 S2 => ?_
    have C2 := C1.same S2
    refine q5 _ H2 a r v cc kk (isWord dm) fun due H3 S3 hd _ => ?_
    have C3 := C2.same S3
    refine q6 _ H3 a r v cc due dm dc kk C3 (S3 _ _ (S2 _ _ hP1)) hd fun H4 e4 => ?_
    have C4 := C3.ext e4
    refine q7 _ H4 a r _ _ v cc kk fun wd kvs H5 S5 _ hwd hT => ?_
    have C5 := C4.same S5
    refine q10 _ H5 a r v cc due dm dc kk wd kvs C5 (same_dp S5 _ _ (ext_dp e4 _ _ hd)) hwd hT fun ru ks H6 S6 => ?_
    refine q11 _ H6 a r _ _ ru ks v cc kk wd kvs (S6 _ _ hwd) (hT.same S6) fun ru' wo' H7 S7 => ?_
    exact q12 _ _ H7 k
end
end LS
set_option maxHeartbeats 0
namespace LS
open PySem PySem.Spec PyProof.Rows L2
/-! ### a getter of a property, found by the class and the name -/
def gAd (K : PySem.W.Frag) (x m : Str) : Addr := match PySem.W.recIn K (He.ma K (He.ga K x) m) "property" with
  | some (.ref g :: _) => g
  | _ => 0
def fnA (K : PySem.W.Frag) (a : Addr) : He.FnW := match K.lookup a with
  | some ⟨_, _, .func fd, _⟩ => some (fd.name, fd.qualname, fd.params, fd.body, fd.scope, fd.globals, fd.closure, fd.builtins)
  | _ => none
structure GetD where
  cls : Str
  m : Str
  qual : Str
  st : Stmt
def GetD.val (d : GetD) : He.FnW := some (d.m, d.qual, defArgs d.st, .stmts (defBody d.st), defScope d.st, mainGlobals, [], builtinsNs)
def GetD.ok (K : PySem.W.Frag) (d : GetD) : Bool := PySem.W.keepIn K (.ref (gAd K d.cls d.m)) && ((match K.lookup (gAd K d.cls d.m) with
  | some ⟨_, _, .func fd, _⟩ => PySem.W.codeIn K fd.code d.qual && (match fd.defaults with
    | .none => true
    | _ => false)
  | _ => false) && (He.eqO (PySem.W.findIn K (.ref (He.ga K d.cls)) d.m) (some (some (.ref (He.ma K (He.ga K d.cls) d.m)))) && (He.eqO (PySem.W.specialIn K (.ref (He.ma K (He.ga K d.cls) d.m)) "__get__") (some (some (.builtin "property.__get__"))) &&
    (decide (PySem.W.takesIn K (.ref (He.ma K (He.ga K d.cls) d.m)) = some true) && (match PySem.W.recIn K (He.ma K (He.ga K d.cls) d.m) "property" with
      | some (.ref _ :: _) => true
      | _ => false)))))
theorem GetD.fun_ {K : PySem.W.Frag} {d : GetD} (e : fnA K (gAd K d.cls d.m) = d.val) (c : d.ok K = true) : ∃ fd, Fun K d.m d.qual d.st (gAd K d.cls d.m) fd ∧ PropOf K (He.ga K d.cls) d.m (He.ma K (He.ga K d.cls) d.m) (gAd K d.cls d.m) := by
  obtain ⟨kp, c⟩ := He.ba c
  obtain ⟨c2, c⟩ := He.ba c
  obtain ⟨c3, c⟩ := He.ba c
  obtain ⟨c4, c⟩ := He.ba c
  obtain ⟨c5, c6⟩ := He.ba c
  have pr : PropOf K (He.ga K d.cls) d.m (He.ma K (He.ga K d.cls) d.m) (gAd K d.cls d.m) := by
    refine ⟨He.eqO_ok c3, He.eqO_ok c4, of_decide_eq_true c5, ?_⟩
    unfold gAd
    split at c6
    · rename_i g r q
      exact ⟨r, by rw [q]⟩
    · cases c6
  unfold fnA at e
  cases q : K.lookup (gAd K d.cls d.m) with
  | none =>
    rw [q] at c2
    cases c2
  | some o =>
    obtain ⟨oc, od, dt, osl⟩ := o
    rw [q] at c2 e
    cases dt with
    | func fd =>
      obtain ⟨n1, n2, n3, n4, n5, n6, n7, n8, n9, n10, n11, n12, n13, n14, n15⟩ := fd
      have e2 : (some (n1, n2, n3, n4, n5, n6, n7, n15) : He.FnW) = some (d.m, d.qual, defArgs d.st, .stmts (defBody d.st), defScope d.st, mainGlobals, [], builtinsNs) := e
      simp only [Option.some.injEq, Prod.mk.injEq] at e2
      obtain ⟨h1, h2, h3, h4, h5, h6, h7, h8⟩ := e2
      subst h1 h2 h3 h4 h5 h6 h7 h8
      cases n8 with
      | none =>
        have k1 : (PySem.W.codeIn K n13 d.qual && true) = true := c2
        rw [Bool.and_true] at k1
        exact ⟨_, ⟨⟨oc, od, n9, n10, n11, n12, n13, n14, osl, rfl, q, k1⟩, kp⟩, pr⟩
      | _ =>
        have k1 : (PySem.W.codeIn K n13 d.qual && false) = true := c2
        rw [Bool.and_false] at k1
        cases k1
    | _ => cases c2
/-! ### a def without defaults -/
theorem funD_fun {K : PySem.W.Frag} {x qual : Str} {st : Stmt} {f : Addr} {fd : FuncData} (F : FunD K x qual (defArgs st) (defBody st) (defScope st) [] [] f fd) : Fun K x qual st f fd := by
  obtain ⟨oc, od, dV, kV, doc, pm, an, cdv, ct, osl, rfl, lk, hcd, hd, hk⟩ := F.ex
  rcases hd with ⟨_, rfl⟩ | ⟨h, _⟩
  · exact ⟨⟨oc, od, kV, doc, pm, an, cdv, ct, osl, rfl, lk, hcd⟩, F.kp⟩
  · exact (h rfl).elim
/-- what the top's names reach, and the place of the settings -/
def asL (g : Addr → Option Obj) (n : Nat) : List Addr := He.asD g n ++ [cStatics]
def kL (n : Nat) (g : Addr → Option Obj) : PySem.W.Frag := He.frT g (asL g n)
abbrev AlL : Type := (He.AlT × Bool) × List He.FnW
/-- the head's facts: names, defs, tables, a Bool of one's own, empty tables of code, getters -/
structure SaysL (fa : List He.Fa) (fn : List He.DefD) (ts : List He.Tab) (tf : List He.Defn) (ex : PySem.W.Frag → Bool) (gets : List GetD) (w : World) (h : Heap) (K : PySem.W.Frag) : Prop where
  t : He.SaysT fa fn ts w K
  more : ex K = true
  tab : ∀ p ∈ tf, PySem.W.codeHdIn K (He.cT K p).1 (He.cT K p).2 = true ∧ K.lookup (He.cT K p).2 = none ∧ h.get? (He.cT K p).2 = some { cls := .none, data := .fields #[] }
  get : (gets.map fun d => fnA K (gAd K d.cls d.m)) = gets.map GetD.val
section
variable {n : Nat} {fa : List He.Fa} {fn : List He.DefD} {ts : List He.Tab} {tf : List He.Defn} {ex : PySem.W.Frag → Bool} {gets : List GetD} {w : World}
theorem tabs_of {g : Addr → Option Obj} {as : List Addr} (h : He.tabsB g tf (He.frT g as) = true) (p : He.Defn) (hp : p ∈ tf) :
    PySem.W.codeHdIn (He.frT g as) (He.cT (He.frT g as) p).1 (He.cT (He.frT g as) p).2 = true ∧ (He.frT g as).lookup (He.cT (He.frT g as) p).2 = none ∧ g (He.cT (He.frT g as) p).2 = some { cls := .none, data := .fields #[] } := by
  obtain ⟨h1, h2⟩ := He.ba (List.all_eq_true.mp h p hp)
  split at h2
  · rename_i o q
    exact ⟨h1, He.frT_none q h2, by rw [q, He.emptyTab_eq h2]⟩
  · cases h2
def obsG (n : Nat) (fa : List He.Fa) (fn : List He.DefD) (ts : List He.Tab) (tf : List He.Defn) (ex : PySem.W.Frag → Bool) (gets : List GetD) (g : Addr → Option Obj) : AlL :=
  ((He.obsT fa fn ts (kL n g), ex (kL n g) && He.tabsB g tf (kL n g)), gets.map fun d => fnA (kL n g) (gAd (kL n g) d.cls d.m))
def valG (fn : List He.DefD) (ts : List He.Tab) (gets : List GetD) (w : World) : AlL := ((He.valT fn ts w, true), gets.map GetD.val)
theorem saysL_of {h : Heap} (e : obsG n fa fn ts tf ex gets h.get? = valG fn ts gets w) : ∃ K : PySem.W.Frag, K.In h ∧ SaysL fa fn ts tf ex gets w h K := by
  obtain ⟨e1, e2⟩ := Prod.mk.inj e
  obtain ⟨e3, e4⟩ := Prod.mk.inj e1
  obtain ⟨e5, e6⟩ := He.ba e4
  exact ⟨kL n h.get?, He.frT_in, e3, e5, fun p hp => tabs_of e6 p hp, e2⟩
end
def hookG (n : Nat) (fa : List He.Fa) (fn : List He.DefD) (ts : List He.Tab) (tf : List He.Defn) (ex : PySem.W.Frag → Bool) (gets : List GetD) : PySem.W.Hook where
  α := AlL
  obs := fun s => obsG n fa fn ts tf ex gets s.heap.get?
  val := fun w => valG fn ts gets w
  says := fun w h => ∃ K : PySem.W.Frag, K.In h ∧ SaysL fa fn ts tf ex gets w h K
  of := fun _ _ e => saysL_of e
  keeps := fun _ _ _ ⟨K, hK, c⟩ k => ⟨K, PySem.W.Frag.In.keeps hK k, c.t, c.more, fun p hp => ⟨(c.tab p hp).1, (c.tab p hp).2.1, k _ _ (c.tab p hp).2.2⟩, c.get⟩
theorem obsG_eq {n : Nat} {fa : List He.Fa} {fn : List He.DefD} {ts : List He.Tab} {tf : List He.Defn} {ex : PySem.W.Frag → Bool} {gets : List GetD} {g : Addr → Option Obj} {s : Shared} (h : ∀ a, g a = s.heap.get? a) : obsG n fa fn ts tf ex gets g = (hookG n fa fn ts tf ex gets).obs s := by
  have e : g = s.heap.get? := funext h
  rw [e] <;> rfl
def dGl (x : Str) (st : Stmt) : He.DefD := ⟨(x, none), x, x, defArgs st, defBody st, defScope st, [], []⟩
def dMe (c m q : Str) (st : Stmt) : He.DefD := ⟨(c, some m), m, q, defArgs st, defBody st, defScope st, [], []⟩
theorem all_get {l : List Bool} (h : l.all id = true) (i : Nat) {b : Bool} (e : l[i]? = some b) : b = true := List.all_eq_true.mp h b (List.mem_of_getElem? e)
section
variable {w : World} {h : Heap} {K : PySem.W.Frag} {mg : Str → Option Value}
theorem tup_map (xs : List Str) : (xs.map He.Dv.str).map (He.Dv.v K) = xs.map V.str := by
  rw [List.map_map]
  rfl
theorem defF {fa : List He.Fa} {fn : List He.DefD} {x : Str} {st : Stmt} (c : He.SaysD fa fn K) (hm : dGl x st ∈ fn) : ∃ fd, Fun K x x st (He.ga K x) fd := by
  obtain ⟨fd, F⟩ := c.defs hm
  exact ⟨fd, funD_fun F⟩
theorem defM {fa : List He.Fa} {fn : List He.DefD} {x m q : Str} {st : Stmt} (c : He.SaysD fa fn K) (hm : dMe x m q st ∈ fn) : ∃ fd, Fun K m q st (He.ma K (He.ga K x) m) fd := by
  obtain ⟨fd, F⟩ := c.defs hm
  exact ⟨fd, funD_fun F⟩
end
end LS
namespace LS
open PySem PySem.Spec PyProof.Rows L2
/-! ### Bools of an exception class -/
def oexB (K : PySem.W.Frag) (C : Addr) : Bool := (match K.lookup C with
  | some ⟨.type t, _, .cls ⟨_, _, .ref C' :: bm, _, _, hd, _, _, _, _, del⟩, sl⟩ => decide (t = "type") && (decide (C' = C) && (PySem.HandSPX.refsVE bm && (hd && (!del && (decide (sl.size = 6) && eqO1 (sl[4]? ) "ValueError.__new__")))))
  | _ => false) && (He.eqO (PySem.W.findIn K (.ref C) "__setattr__") (some (some (.builtin "object.__setattr__"))) && (decide (PySem.W.subIn K (.ref C) (.type "BaseException") = some true) && (decide (PySem.W.typeIn K (.ref C) = some (.type "type")) && PySem.W.keepIn K (.ref C))))
where eqO1 (o : Option (Option Value)) (id : String) : Bool := match o with
  | some (some (.builtin i)) => decide (i = id)
  | _ => false
theorem oexB_ok {K : PySem.W.Frag} {C : Addr} (h : oexB K C = true) : OexC K C := by
  obtain ⟨h1, h⟩ := He.ba h
  obtain ⟨h2, h⟩ := He.ba h
  obtain ⟨h3, h⟩ := He.ba h
  obtain ⟨h4, h5⟩ := He.ba h
  refine ⟨?_, He.eqO_ok h2, of_decide_eq_true h3, of_decide_eq_true h4, h5⟩
  cases q : K.lookup C with
  | none =>
    rw [q] at h1
    cases h1
  | some o =>
    obtain ⟨oc, od, dt, osl⟩ := o
    rw [q] at h1
    cases oc with
    | type t =>
      cases dt with
      | cls cd =>
        obtain ⟨nm, bs, mro, N, qn, hd, sn, sub, ab, col, del⟩ := cd
        cases mro with
        | nil => cases h1
        | cons v bm =>
          cases v with
          | ref C' =>
            obtain ⟨k1, k⟩ := He.ba (show (decide (t = "type") && (decide (C' = C) && (PySem.HandSPX.refsVE bm && (hd && (!del && (decide (osl.size = 6) && oexB.eqO1 (osl[4]?) "ValueError.__new__")))))) = true from h1)
            obtain ⟨k2, k⟩ := He.ba k
            obtain ⟨k3, k⟩ := He.ba k
            obtain ⟨k4, k⟩ := He.ba k
            obtain ⟨k5, k⟩ := He.ba k
            obtain ⟨k6, k7⟩ := He.ba k
            cases of_decide_eq_true k1
            cases of_decide_eq_true k2
            cases k4
            cases del with
            | true => cases k5
            | false =>
              obtain ⟨l⟩ := osl
              have k6' : l.length = 6 := of_decide_eq_true k6
              obtain ⟨s0, s1, s2, s3, s4, s5, rfl⟩ : ∃ s0 s1 s2 s3 s4 s5, l = [s0, s1, s2, s3, s4, s5] := match l, k6' with
                | [s0, s1, s2, s3, s4, s5], _ => ⟨s0, s1, s2, s3, s4, s5, rfl⟩
              have k7' : oexB.eqO1 (some s4) "ValueError.__new__" = true := k7
              cases s4 with
              | none => cases k7'
              | some u =>
                cases u with
                | builtin i =>
                  cases of_decide_eq_true (show decide (i = "ValueError.__new__") = true from k7')
                  exact ⟨nm, qn, N, bs, bm, sn, sub, ab, col, od, s0, s1, s2, s3, s5, rfl, k3⟩
                | _ => cases k7'
          | _ => cases h1
      | _ => cases h1
    | _ => cases dt <;> cases h1
def excB (K : PySem.W.Frag) (D : Addr) : Bool := He.eqO (PySem.W.findIn K (.ref D) "__getattribute__") (some (some (.builtin "BaseException.__getattribute__"))) && (He.eqO (PySem.W.findIn K (.ref D) "__getattr__") (some none) && (decide (PySem.W.subIn K (.ref D) (.type "BaseException") = some true) && (PySem.W.hasDictIn K D &&
  (He.eqO (PySem.W.findIn K (.ref D) "__class__") (some (some (.builtin "object.__class__"))) && (He.eqO (PySem.W.specialIn K (.builtin "object.__class__") "__get__") (some (some (.builtin "getset_descriptor.__get__"))) && (decide (PySem.W.takesIn K (.builtin "object.__class__") = some true) && decide (PySem.W.mroIn K D (.type "object") = some true)))))))
theorem excB_ok {K : PySem.W.Frag} {D : Addr} (h : excB K D = true) : ExcC K D := by
  obtain ⟨h1, h⟩ := He.ba h
  obtain ⟨h2, h⟩ := He.ba h
  obtain ⟨h3, h⟩ := He.ba h
  obtain ⟨h4, h⟩ := He.ba h
  obtain ⟨h5, h⟩ := He.ba h
  obtain ⟨h6, h⟩ := He.ba h
  obtain ⟨h7, h8⟩ := He.ba h
  exact ⟨He.eqO_ok h1, He.eqO_ok h2, of_decide_eq_true h3, h4, He.eqO_ok h5, He.eqO_ok h6, of_decide_eq_true h7, of_decide_eq_true h8⟩
def kitB (K : PySem.W.Frag) (C : Addr) (v : Value) (b : Bool) : Bool := decide (PySem.W.kitOne K (.ref C) v = some b)
def baseB (K : PySem.W.Frag) (C : Addr) : Bool := PySem.W.readsIn K C (.type "type") && (He.eqO (PySem.W.specialIn K (.ref C) "__getattribute__") (some (some (.builtin "type.__getattribute__"))) && (match PySem.W.findCls K (.ref C) (.type "type") "__init__" with
  | some (.val (.builtin i)) => decide (i = "ValueError.__init__")
  | _ => false))
theorem baseB_ok {K : PySem.W.Frag} {C : Addr} (h : baseB K C = true) : ∃ mc, ClX.CRead K C mc ∧ PySem.W.findCls K (.ref C) mc "__init__" = some (.val (.builtin "ValueError.__init__")) := by
  obtain ⟨h1, h⟩ := He.ba h
  obtain ⟨h2, h3⟩ := He.ba h
  refine ⟨.type "type", ⟨h1, He.eqO_ok h2⟩, ?_⟩
  split at h3
  · rename_i i q
    rw [q, of_decide_eq_true h3]
  · cases h3
end LS
namespace LS
open PySem PySem.Spec PyProof.Rows L2
/-! ### the controls' table -/
def rowB (K : PySem.W.Frag) : List DictEntry → List (Str × List Str) → Bool
  | [], [] => true
  | e :: es, r :: rs => (match e.key with
    | .str x _ => decide (x = r.1)
    | _ => false) && ((match e.val with
    | .ref a => (match K.lookup a with
      | some ⟨.type c, _, .seq its _, _⟩ => decide (c = "tuple") && (decide (its.size ≤ sizeLine) && He.relAll (r.2.map V.str) its.toList)
      | _ => false)
    | _ => false) && rowB K es rs)
  | _, _ => false
theorem rowB_ok {K : PySem.W.Frag} : ∀ {es : List DictEntry} {rs : List (Str × List Str)}, rowB K es rs = true → CtrlEs K es rs
  | [], [], _ => True.intro
  | [], _ :: _, h => nomatch h
  | _ :: _, [], h => nomatch h
  | e :: es, r :: rs, h => by
    obtain ⟨h1, h⟩ := He.ba (show ((match e.key with
      | .str x _ => decide (x = r.1)
      | _ => false) && ((match e.val with
      | .ref a => (match K.lookup a with
        | some ⟨.type c, _, .seq its _, _⟩ => decide (c = "tuple") && (decide (its.size ≤ sizeLine) && He.relAll (r.2.map V.str) its.toList)
        | _ => false)
      | _ => false) && rowB K es rs)) = true from h)
    obtain ⟨h2, h3⟩ := He.ba h
    refine ⟨?_, rowB_ok h3⟩
    split at h1
    · rename_i x t q1
      cases of_decide_eq_true h1
      split at h2
      · rename_i a q2
        split at h2
        · rename_i c od its n sl q3
          obtain ⟨k1, k⟩ := He.ba h2
          obtain ⟨k2, k3⟩ := He.ba k
          cases of_decide_eq_true k1
          exact ⟨t, a, q1, q2, fun H => .inr ⟨_, its, n, q3, rfl, rfl, of_decide_eq_true k2, He.relAll_ok k3⟩⟩
        · cases h2
      · cases h2
    · cases h1
def ctrlB (K : PySem.W.Frag) (a : Addr) : Bool := match K.lookup a with
  | some ⟨_, _, .dict es _, _⟩ => rowB K es.toList ctrlTab
  | _ => false
theorem ctrlB_ok {K : PySem.W.Frag} {w : World} {mg : Str → Option Value} {a : Addr} (g : mg "CONTROLS" = some (.ref a)) (h : ctrlB K a = true) (d : ∃ es n, KDict K w a es n) : CtrlK K w mg a := by
  obtain ⟨es, n, hd⟩ := d
  refine ⟨g, hd.low, es, n, hd.at_, hd.lit, ?_⟩
  unfold ctrlB at h
  rw [hd.at_] at h
  exact rowB_ok h
end LS
namespace LS
open PySem PySem.Spec PyProof.Rows L2
/-! ### the head: facts by names -/
def excNames : List Str := ["InvalidStack", "InvalidAnswers", "InvalidWeights", "UnknownRule", "InvalidPlace", "TooMany", "UnknownModule", "InvalidMode", "UnknownView"]
def frees : List Str := ["isinstance", "str", "int", "bool", "tuple", "len", "all", "ValueError", "range"]
def globs : List Str := ["Rule", "InvalidRule", "StackError", "is_number", "is_word", "is_action", "actions_of", "_law_taken", "_law_raised", "_law_odd", "_law_acts", "law", "CONTROLS", "ACTIONS", "RESULTS"]
def fa : List He.Fa := globs.map .glo ++ frees.map .free ++ excNames.map .glo ++ [.str "LETTERS" letters, .int "LONGEST_WORD" 8, .int "LONGEST_JUMP" 9, .cls "Rule", .noat "Rule" "_module", .noat "Rule" "_control", .mkr "Rule", .noat "InvalidRule" "part", .exm "InvalidRule" "StackError" true, .meth "Rule" "__eq__", .meth "InvalidRule" "__init__"]
def fn : List He.DefD := [dGl "is_number" sNum, dGl "is_word" sWord, dGl "is_action" sAction, dGl "actions_of" sActs, dGl "_law_taken" sTaken, dGl "_law_raised" sRaised, dGl "_law_odd" sOdd, dGl "_law_acts" sDraw, dGl "law" sLaw, dMe "Rule" "__init__" "Rule.__init__" sRInit, dMe "Rule" "__eq__" "Rule.__eq__" sREq, dMe "InvalidRule" "__init__" "InvalidRule.__init__" sIRInit]
def gets : List GetD := [⟨"Rule", "module", "Rule.module", sRMod⟩, ⟨"Rule", "control", "Rule.control", sRCtl⟩, ⟨"Rule", "kind", "Rule.kind", sRKind⟩]
def ts : List He.Tab := [((fun K => He.ga K "CONTROLS"), ctrlTab.map (·.1))]
def tf : List He.Defn := [("law", none)]
def exL (K : PySem.W.Frag) : List Bool := [He.tupB K "ACTIONS" (actWords.map He.Dv.str), He.tupB K "RESULTS" (resWords.map He.Dv.str), ctrlB K (He.ga K "CONTROLS"), baseB K (He.ga K "StackError"), oexB K (He.ga K "InvalidRule"), excB K (He.ga K "InvalidRule"), xfB K (He.ga K "InvalidRule"),
  kitB K (He.ga K "InvalidRule") (.type "ValueError") true, excNames.all (fun x => kitB K (He.ga K "InvalidRule") (.ref (He.ga K x)) false), gets.all (fun d => d.ok K),
  He.eqO (PySem.W.findIn K (.ref (He.ga K "Rule")) "__class__") (some (some (.builtin "object.__class__"))), He.eqO (PySem.W.specialIn K (.builtin "object.__class__") "__get__") (some (some (.builtin "getset_descriptor.__get__"))),
  decide (PySem.W.takesIn K (.builtin "object.__class__") = some true), decide (PySem.W.mroIn K (He.ga K "Rule") (.type "object") = some true), He.eqO (PySem.W.findIn K (.ref (He.ga K "Rule")) "__ne__") (some (some (.builtin "object.__ne__"))),
  decide (PySem.W.typeIn K (.ref (He.ma K (He.ga K "InvalidRule") "__init__")) = some (.type "function"))]
def exA (K : PySem.W.Frag) : Bool := (exL K).all id
abbrev hk : PySem.W.Hook := hookG 5 fa fn ts tf exA gets
def ob (s : PySem.W.SharedT) : AlL := obsG 5 fa fn ts tf exA gets (HandSHeadRun.getT s)
theorem ob_eq (s : PySem.W.SharedT) : ob s = hk.obs s.abs := obsG_eq (HandSHeadRun.getT_eq s)
end LS
namespace LS
open PySem PySem.Spec PyProof.Rows L2
section
variable {w : World} {h : Heap} {K : PySem.W.Frag} {mg : Str → Option Value}
theorem fa_glob {x : Str} (hx : x ∈ globs) : He.Fa.glo x ∈ fa := by
  unfold fa
  exact List.mem_append_left _ (List.mem_append_left _ (List.mem_append_left _ (List.mem_map.mpr ⟨x, hx, rfl⟩)))
theorem fa_free {x : Str} (hx : x ∈ frees) : He.Fa.free x ∈ fa := by
  unfold fa
  exact List.mem_append_left _ (List.mem_append_left _ (List.mem_append_right _ (List.mem_map.mpr ⟨x, hx, rfl⟩)))
theorem fa_exc {x : Str} (hx : x ∈ excNames) : He.Fa.glo x ∈ fa := by
  unfold fa
  exact List.mem_append_left _ (List.mem_append_right _ (List.mem_map.mpr ⟨x, hx, rfl⟩))
theorem fa_more {f : He.Fa} (hx : f ∈ ([.str "LETTERS" letters, .int "LONGEST_WORD" 8, .int "LONGEST_JUMP" 9, .cls "Rule", .noat "Rule" "_module", .noat "Rule" "_control", .mkr "Rule", .noat "InvalidRule" "part", .exm "InvalidRule" "StackError" true, .meth "Rule" "__eq__", .meth "InvalidRule" "__init__"] : List He.Fa)) : f ∈ fa := by
  unfold fa
  exact List.mem_append_right _ hx
theorem facts (X : K.In h) (G : h.Ns mainGlobals mg) (c : SaysL fa fn ts tf exA gets w h K) :
    ∃ (oc kV doc pm ct : Value) (od an : Option Addr) (osl : Array (Option Value)) (cc : Addr), ∃ T : ∀ (P : Program) (base : Heap), LawT P w K mg base (He.ga K "Rule") (He.ga K "InvalidRule") (He.ga K "StackError"),
      mg "law" = some (.ref (He.ga K "law")) ∧ K.lookup (He.ga K "law") = some ⟨oc, od, .func (PySem.W.fnOf "law" "law" (defArgs sLaw) (defBody sLaw) (defScope sLaw) .none kV doc pm an (.ref cc) ct), osl⟩ ∧ PySem.W.codeIn K (.ref cc) "law" = true ∧ He.codeOf K ("law", none) = cc := by
  have cd := c.t.d
  have g := c.get
  have gl : ∀ {x : Str}, x ∈ globs → mg x = some (.ref (He.ga K x)) := fun hx => He.glo_ok X G (cd.facts (fa_glob hx))
  have ge : ∀ {x : Str}, x ∈ excNames → mg x = some (.ref (He.ga K x)) := fun hx => He.glo_ok X G (cd.facts (fa_exc hx))
  have fr : ∀ {x : Str}, x ∈ frees → mg x = none := fun hx => He.free_ok X G (cd.facts (fa_free hx))
  have ex : (exL K).all id = true := c.more
  have e0 := all_get ex 0 rfl
  have e1 := all_get ex 1 rfl
  have e2 := all_get ex 2 rfl
  have e3 := all_get ex 3 rfl
  have e4 := all_get ex 4 rfl
  have e5 := all_get ex 5 rfl
  have e6 := all_get ex 6 rfl
  have e7 := all_get ex 7 rfl
  have e8 := all_get ex 8 rfl
  have e9 := all_get ex 9 rfl
  have e10 := all_get ex 10 rfl
  have e11 := all_get ex 11 rfl
  have e12 := all_get ex 12 rfl
  have e13 := all_get ex 13 rfl
  have e14 := all_get ex 14 rfl
  have e15 := all_get ex 15 rfl
  have kit : ∀ {x : Str}, x ∈ excNames → ∃ C, mg x = some (.ref C) ∧ PySem.W.kitOne K (.ref (He.ga K "InvalidRule")) (.ref C) = some false := fun hx => ⟨_, ge hx, of_decide_eq_true (List.all_eq_true.mp e8 _ hx)⟩
  have RR : RuleK K mg (He.ga K "Rule") := ⟨gl (by decide +kernel), He.cls_ok (cd.facts (fa_more (by simp))), He.noat_ok (cd.facts (fa_more (by simp))), He.noat_ok (cd.facts (fa_more (by simp)))⟩
  have NN : InstK K (He.ga K "Rule") := ⟨He.eqO_ok e10, He.eqO_ok e11, of_decide_eq_true e12, of_decide_eq_true e13⟩
  have EE : ErrK K mg (He.ga K "StackError") (He.ga K "InvalidRule") :=
    ⟨gl (by decide +kernel), fr (by decide +kernel), fr (by decide +kernel), excB_ok e5, xfB_ok e6, He.noat_ok (cd.facts (fa_more (by simp))), of_decide_eq_true e7, He.exm_ok (cd.facts (fa_more (by simp))), gl (by decide +kernel), kit (by decide +kernel), kit (by decide +kernel), kit (by decide +kernel), kit (by decide +kernel),
      kit (by decide +kernel), kit (by decide +kernel), kit (by decide +kernel), kit (by decide +kernel), kit (by decide +kernel)⟩
  have TT : RulesK K w mg := ⟨He.str_ok X G (cd.facts (fa_more (by simp))), He.int_ok X G (cd.facts (fa_more (by simp))), He.int_ok X G (cd.facts (fa_more (by simp))), ⟨_, gl (by decide +kernel), fun H => tup_map actWords ▸ He.tupB_ok e0 H⟩, ⟨_, gl (by decide +kernel), fun H => tup_map resWords ▸ He.tupB_ok e1 H⟩,
    fr (by decide +kernel), fr (by decide +kernel), fr (by decide +kernel), fr (by decide +kernel), fr (by decide +kernel), fr (by decide +kernel), fr (by decide +kernel)⟩
  have DD : CtrlK K w mg (He.ga K "CONTROLS") := ctrlB_ok (gl (by decide +kernel)) e2 (c.t.tab 0)
  have BB : BaseX K mg (He.ga K "StackError") := ⟨gl (by decide +kernel), baseB_ok e3⟩
  have XX : ExK K mg "InvalidRule" (He.ga K "InvalidRule") := ⟨gl (by decide +kernel), oexB_ok e4, excB_ok e5, xfB_ok e6⟩
  have TN : NumK mg := ⟨fr (by decide +kernel), fr (by decide +kernel), fr (by decide +kernel)⟩
  obtain ⟨fdB, FB⟩ := defF (x := "is_number") (st := sNum) cd (by simp [fn])
  have bB : Binds K fdB ["value", "least", "most"] [] := FB.binds fun _ _ _ _ _ _ us hl => match us, hl with | [_, _, _], _ => rfl
  obtain ⟨fdW, FW⟩ := defF (x := "is_word") (st := sWord) cd (by simp [fn])
  obtain ⟨fdA, FA⟩ := defF (x := "is_action") (st := sAction) cd (by simp [fn])
  obtain ⟨fdO, FO⟩ := defF (x := "actions_of") (st := sActs) cd (by simp [fn])
  obtain ⟨fdT, FT⟩ := defF (x := "_law_taken") (st := sTaken) cd (by simp [fn])
  obtain ⟨fdZ, FZ⟩ := defF (x := "_law_raised") (st := sRaised) cd (by simp [fn])
  obtain ⟨fdD, FD⟩ := defF (x := "_law_odd") (st := sOdd) cd (by simp [fn])
  obtain ⟨fdC, FC⟩ := defF (x := "_law_acts") (st := sDraw) cd (by simp [fn])
  obtain ⟨fdL, FL⟩ := defF (x := "law") (st := sLaw) cd (by simp [fn])
  obtain ⟨fdI, FI⟩ := defM (x := "Rule") (m := "__init__") (q := "Rule.__init__") (st := sRInit) cd (by simp [fn])
  obtain ⟨fdE, FE⟩ := defM (x := "Rule") (m := "__eq__") (q := "Rule.__eq__") (st := sREq) cd (by simp [fn])
  obtain ⟨fdX, FX⟩ := defM (x := "InvalidRule") (m := "__init__") (q := "InvalidRule.__init__") (st := sIRInit) cd (by simp [fn])
  have gk : ∀ (i : Nat) (d : GetD), gets[i]? = some d → ∃ fd, Fun K d.m d.qual d.st (gAd K d.cls d.m) fd ∧ PropOf K (He.ga K d.cls) d.m (He.ma K (He.ga K d.cls) d.m) (gAd K d.cls d.m) := fun i d hi => by
    have z : (gets.map fun d => fnA K (gAd K d.cls d.m))[i]? = (gets.map GetD.val)[i]? := by rw [g]
    rw [List.getElem?_map, List.getElem?_map, hi] at z
    exact GetD.fun_ (Option.some.inj z) (List.all_eq_true.mp e9 d (List.mem_of_getElem? hi))
  obtain ⟨fdM, FM, PM⟩ := gk 0 _ rfl
  obtain ⟨fdK, FK, PK⟩ := gk 1 _ rfl
  obtain ⟨fdN, FN, PN⟩ := gk 2 _ rfl
  have bW : Binds K fdW ["value"] [] := FW.binds fun _ _ _ _ _ _ us hl => match us, hl with | [_], _ => rfl
  have bA : Binds K fdA ["value"] [] := FA.binds fun _ _ _ _ _ _ us hl => match us, hl with | [_], _ => rfl
  have bO : Binds K fdO ["control"] [] := FO.binds fun _ _ _ _ _ _ us hl => match us, hl with | [_], _ => rfl
  have bT : Binds K fdT ["_law_row", "_law_many"] [] := FT.binds fun _ _ _ _ _ _ us hl => match us, hl with | [_, _], _ => rfl
  have bD : Binds K fdD ["_law_row"] [] := FD.binds fun _ _ _ _ _ _ us hl => match us, hl with | [_], _ => rfl
  have bC : Binds K fdC ["_law_row"] [] := FC.binds fun _ _ _ _ _ _ us hl => match us, hl with | [_], _ => rfl
  have bI : Binds K fdI ["self", "module", "control"] [] := FI.binds fun _ _ _ _ _ _ us hl => match us, hl with | [_, _, _], _ => rfl
  have bE : Binds K fdE ["self", "other"] [] := FE.binds fun _ _ _ _ _ _ us hl => match us, hl with | [_, _], _ => rfl
  have bX : Binds K fdX ["self", "part"] [] := FX.binds fun _ _ _ _ _ _ us hl => match us, hl with | [_, _], _ => rfl
  have bM : Binds K fdM ["self"] [] := FM.binds fun _ _ _ _ _ _ us hl => match us, hl with | [_], _ => rfl
  have bK : Binds K fdK ["self"] [] := FK.binds fun _ _ _ _ _ _ us hl => match us, hl with | [_], _ => rfl
  have bN : Binds K fdN ["self"] [] := FN.binds fun _ _ _ _ _ _ us hl => match us, hl with | [_], _ => rfl
  have bZ : Binds K fdZ ["_law_work"] [] := FZ.binds fun _ _ _ _ _ _ us hl => match us, hl with | [_], _ => rfl
  have mE : Meth K (He.ga K "Rule") "__eq__" (He.ma K (He.ga K "Rule") "__eq__") := He.meth_ok (cd.facts (fa_more (by simp)))
  have mX : Meth K (He.ga K "InvalidRule") "__init__" (He.ma K (He.ga K "InvalidRule") "__init__") := He.meth_ok (cd.facts (fa_more (by simp)))
  obtain ⟨ocL, odL, kVL, docL, pmL, anL, cdvL, ctL, oslL, rfl, lkL, hcdL⟩ := FL.ex
  obtain ⟨cc, rfl⟩ := He.codeIn_ref hcdL
  obtain ⟨ocZ, odZ, kVZ, docZ, pmZ, anZ, cdvZ, ctZ, oslZ, rfl, lkZ, hcdZ⟩ := FZ.ex
  have nP := EE.nP
  refine ⟨ocL, kVL, docL, pmL, ctL, odL, anL, oslL, cc, fun P base => ?_, gl (by decide +kernel), lkL, hcdL, He.codeOf_eq (p := ("law", none)) lkL rfl⟩
  exact { R := RR, E := EE, N := NN, GInit := ok_rinit FI RR TT DD FW (gl (by decide +kernel)) bW FO (gl (by decide +kernel)) bO FA (gl (by decide +kernel)) bA XX nP BB FX bX ⟨ok_num FB TN, gl (by decide +kernel), FB.kp, bB⟩ mX.at_ (of_decide_eq_true e15), bInit := bI, Mk := He.mkr_ok (cd.facts (fa_more (by simp))),
          GOdd := ok_odd FD FT (gl (by decide +kernel)) bT (fr (by decide +kernel)) (fr (by decide +kernel)), gOdd := gl (by decide +kernel), kOdd := FD.kp, bOdd := bD,
          GDraw := ok_draw FC FT (gl (by decide +kernel)) bT (fr (by decide +kernel)) (fr (by decide +kernel)) (fr (by decide +kernel)) (fr (by decide +kernel)), gDraw := gl (by decide +kernel), kDraw := FC.kp, bDraw := bC,
          GEq := ok_req FE RR NN (fr (by decide +kernel)), bEq := bE, eq := mE.1, fEq_ := mE.2, ne := He.eqO_ok e14,
          GMod := ok_mod FM RR, bMod := bM, pM := PM, GCtl := ok_ctl FK RR, bCtl := bK, pC := PK, GKind := ok_kind FN RR DD, bKind := bN, pK := PN,
          lkR := lkZ, cdR := hcdZ, gR := gl (by decide +kernel), kR := FZ.kp, bR := bZ, isi := fr (by decide +kernel), str := fr (by decide +kernel), len := fr (by decide +kernel) }
end
end LS
namespace LS
open PySem PySem.Spec PyProof.Rows L2
abbrev R : PySem.W.OpenRow := PySem.W.OpenLaw.row rwL
theorem run (w : World) : HandSHeadRun.RunEq R (PySem.W.view R.prog [i_law]) hk ob 5000 loose w := by
  refine PySem.W.byRow2 "special-get-raises" (P := fun w => HandSHeadRun.RunEq R (PySem.W.view R.prog [i_law]) hk ob 5000 loose w) (fun w => ?_) (fun w => ?_) w
  · intro os
    kernel_rfl
  · intro os
    kernel_rfl
end LS
namespace LS
open PySem PySem.Spec PyProof.Rows L2
theorem law_at {w : World} {mg : Str → Option Value} {f : Addr} {h : Heap} {K : PySem.W.Frag} (X : K.In h) (G : h.Ns mainGlobals mg) (hmg : mg "law" = some (.ref f)) (c : SaysL fa fn ts tf exA gets w h K) :
    LamX.LawAtS rwL w K L2.CX0 8 63 "_law_script" mg f h := by
  obtain ⟨oc, kV, doc, pm, ct, od, an, osl, cc, T, gl, lk, hcd, ec⟩ := facts X G c
  have e := hmg.symm.trans gl
  cases e
  obtain ⟨t1, t2, t3⟩ := c.tab ("law", none) (List.mem_singleton.mpr rfl)
  have ecT : He.cT K ("law", none) = (cc, He.tabOf K cc) := by
    show (He.codeOf K ("law", none), He.tabOf K (He.codeOf K ("law", none))) = _
    rw [ec]
  rw [ecT] at t1 t2 t3
  refine ⟨PySem.W.fnOf "law" "law" (defArgs sLaw) (defBody sLaw) (defScope sLaw) .none kV doc pm an (.ref cc) ct, [(cc, He.tabOf K cc)], spLaw K (He.tabOf K cc), ?_, ?_, ?_, ?_, ?_, ?_⟩
  · intro p hp
    cases List.mem_singleton.mp hp
    exact t3
  · intro p hp
    cases List.mem_singleton.mp hp
    exact t2
  · intro p hp
    cases List.mem_singleton.mp hp
    exact PySem.W.codeHd_of_K X t1
  · intro s u
    exact .of_eq rfl
  · intro H a ns hl hb hH hS
    exact ⟨a, ns, rfl, hS, hH (cc, He.tabOf K cc) (List.mem_singleton.mpr rfl), fun _ => rfl⟩
  · intro base hK hNs hT
    exact ok_law (T _ base) lk hcd (hT (cc, He.tabOf K cc) (List.mem_singleton.mpr rfl))
end LS
open PySem PySem.W PySem.Calls PyProof.Rows
theorem PySem.Challenge.cw_loginstacks_k01_rules_validated_holds : PySem.Challenge.rw_loginstacks_k01_rules_validated.Holds := by
  w_on; o_law
  refine HandSHeadRun.head_any (r := OpenLaw.row PySem.Challenge.rw_loginstacks_k01_rules_validated) (q := view (OpenLaw.row PySem.Challenge.rw_loginstacks_k01_rules_validated).prog [LS.i_law]) (H := LS.hk) (ob := LS.ob) (M := 5000) (loose := LS.loose) (d := HandSHeadRun.topDef (OpenLaw.row PySem.Challenge.rw_loginstacks_k01_rules_validated).prog LS.i_law) (kwd := []) LS.ob_eq
    (by kernel_rfl) (fun s => by kernel_rfl) LS.run (by kernel_rfl) (by kernel_rfl) (by kernel_rfl) (by rfl) (by first | assumption | decide +kernel) (by decide +kernel) ⟨rfl, rfl, rfl, rfl, rfl, by decide +kernel⟩ ?hw ?hc
  case hw => w_witness2
  case hc =>
    refine LamX.walk_ofTsE (l := PySem.Challenge.rw_loginstacks_k01_rules_validated) (n := 63) (k := 8) (x := "_law_script") (CX := fun _ => L2.CX0) rfl (by decide) (by kernel_rfl) ⟨rfl, by decide, by decide⟩ ?F (fun _ _ _ _ _ z => z)
    intro w mg f h Y G hmg0
    obtain ⟨K, KX, c⟩ := Y
    have hmg : mg ("law" : PySem.Str) = some (.ref f) := by
      have e : (HandSHeadRun.topDef (OpenLaw.row PySem.Challenge.rw_loginstacks_k01_rules_validated).prog LS.i_law).name = ("law" : PySem.Str) := by kernel_rfl
      rw [← e]
      exact hmg0
    exact ⟨K, KX, LS.law_at KX G hmg c⟩
