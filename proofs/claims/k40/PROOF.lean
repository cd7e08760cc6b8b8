import PyProof.Rows.All
import Wide.All
import OpenK.AllK
import Wide.FinOn
import HandS.Base
import HandS.Call
import HandS.List
import HandS.Comp
import HandS.Ends
import HandS.Dict
import HandS.Iter
import HandS.Text
import HandS.Words
import HandS.IsInst
import HandS.Walk
import HandS.Property
import HandS.Wide
import HandS.Flow
import HandS.Style
import HandS.Defaults
import HandS.Head0
import HandS.Head1
import HandS.Head2
import HandS.HeadEnd
import HandS.HeadHook1
import HandS.HeadHook2
import HandS.HeadHook3
import HandS.HeadHook4
import HandS.HeadWalk
import HandS.HeadNt
import PySem.Challenge.RW_loginstacks_k40_whole_bounds_of_locks
set_option Elab.async false
set_option linter.all false
set_option maxRecDepth 100000
set_option maxHeartbeats 4000000
namespace LS
open PySem L2
abbrev rwL : PySem.W.OpenLaw := PySem.Challenge.rw_loginstacks_k40_whole_bounds_of_locks
def top (i : Nat) : Stmt := PySem.Challenge.pw_loginstacks_k40_whole_bounds_of_locks.main.body.getD i (.Pass ⟨0, 0, 0, 0⟩)
abbrev i_is_number : Nat := 1
abbrev i_StackError : Nat := 3
abbrev i_InvalidLock : Nat := 4
abbrev i_InvalidNumber : Nat := 5
abbrev i_Lock : Nat := 13
abbrev i_longer_pause : Nat := 14
abbrev i_most_refusals : Nat := 15
abbrev i_least_time : Nat := 16
abbrev i__law_taken : Nat := 18
abbrev i_law : Nat := 19
def loose : List PySem.Str := (["is_number", "StackError", "InvalidLock", "InvalidNumber", "MOST_TRIES", "MOST_FIRST_PAUSE", "MOST_GROWTH", "LONGEST_PAUSE", "LAST_END", "MOST_COUNT", "Lock", "longer_pause", "most_refusals", "least_time", "_law_taken"] : List PySem.Str)
abbrev sTaken : Stmt := top i__law_taken
end LS
namespace LS
/-- the pause behind one -/
def longer (g p : Int) : Int := if p * g < 1000000000 then p * g else 1000000000
def pz (p g : Int) : Nat → Int
  | 0 => p
  | k + 1 => longer g (pz p g k)
/-- the times at which rounds begin -/
def tm (p g : Int) : Nat → Int
  | 0 => 0
  | k + 1 => tm p g k + pz p g k
/-- a lock's numbers -/
structure Lk (t p g : Int) : Prop where
  t1 : 1 ≤ t
  t9 : t ≤ 9
  p1 : 1 ≤ p
  pM : p ≤ 1000
  g1 : 1 ≤ g
  g9 : g ≤ 9
theorem longer_ge {g p : Int} (hp : 1 ≤ p) (hm : p ≤ 1000000000) (hg : 1 ≤ g) : p ≤ longer g p ∧ longer g p ≤ 1000000000 := by
  have h : p * 1 ≤ p * g := Int.mul_le_mul_of_nonneg_left hg (by omega)
  rw [Int.mul_one] at h
  unfold longer
  generalize p * g = m at *
  split <;> omega
theorem pz_in {t p g : Int} (L : Lk t p g) : ∀ k, 1 ≤ pz p g k ∧ pz p g k ≤ 1000000000
  | 0 => ⟨L.p1, Int.le_trans L.pM (by decide)⟩
  | k + 1 => by
    obtain ⟨h1, h2⟩ := pz_in L k
    obtain ⟨h3, h4⟩ := longer_ge h1 h2 L.g1
    exact ⟨Int.le_trans h1 h3, h4⟩
theorem pz_le {t p g : Int} (L : Lk t p g) (k : Nat) : pz p g k ≤ pz p g (k + 1) := (longer_ge (pz_in L k).1 (pz_in L k).2 L.g1).1
theorem tm_lt {t p g : Int} (L : Lk t p g) (k : Nat) : tm p g k < tm p g (k + 1) := by
  have h := (pz_in L k).1
  show tm p g k < tm p g k + pz p g k
  omega
theorem tm_mono {t p g : Int} (L : Lk t p g) {i : Nat} : ∀ {j : Nat}, i ≤ j → tm p g i ≤ tm p g j
  | 0, h => by
    have e : i = 0 := by omega
    subst e
    exact Int.le_refl _
  | j + 1, h => by
    by_cases e : i = j + 1
    · subst e
      exact Int.le_refl _
    · exact Int.le_trans (tm_mono L (j := j) (by omega)) (Int.le_of_lt (tm_lt L j))
theorem tm_smono {t p g : Int} (L : Lk t p g) {i j : Nat} (h : i < j) : tm p g i < tm p g j := Int.lt_of_lt_of_le (tm_lt L i) (tm_mono L h)
theorem tm_nn {t p g : Int} (L : Lk t p g) (k : Nat) : 0 ≤ tm p g k := tm_mono L (i := 0) (Nat.zero_le _)
theorem tm_up {t p g : Int} (L : Lk t p g) : ∀ k : Nat, tm p g k ≤ (k : Nat) * 1000000000
  | 0 => by show (0 : Int) ≤ _; omega
  | k + 1 => by
    have h1 := tm_up L k
    have h2 := (pz_in L k).2
    show tm p g k + pz p g k ≤ _
    omega
theorem tm_inv {t p g : Int} (L : Lk t p g) {i j : Nat} (h : tm p g i < tm p g j) : i < j := by
  by_cases q : i < j
  · exact q
  · have := tm_mono L (i := j) (j := i) (by omega)
    omega
theorem pz_fix {p g : Int} {k : Nat} (h : longer g (pz p g k) = pz p g k) : ∀ j : Nat, pz p g (k + j) = pz p g k
  | 0 => rfl
  | j + 1 => by
    show longer g (pz p g (k + j)) = _
    rw [pz_fix h j, h]
theorem tm_fix {p g : Int} {k : Nat} (h : longer g (pz p g k) = pz p g k) : ∀ j : Nat, tm p g (k + j) = tm p g k + (j : Nat) * pz p g k
  | 0 => by
    show tm p g k = _
    rw [show ((0 : Nat) : Int) = 0 from rfl, Int.zero_mul, Int.add_zero]
  | j + 1 => by
    show tm p g (k + j) + pz p g (k + j) = _
    rw [tm_fix h j, pz_fix h j, Int.natCast_add, Int.add_mul]
    show _ = _ + (_ + 1 * pz p g k)
    omega
/-- so many rounds begin up to a time -/
def Rounds (p g e : Int) (N : Nat) : Prop := ∃ n, N = n + 1 ∧ tm p g n ≤ e ∧ e < tm p g (n + 1)
theorem rounds_out {t p g e : Int} (L : Lk t p g) (h0 : 0 ≤ e) {r : Nat} (hb : ∀ k, k < r → tm p g k ≤ e) (h : ¬ tm p g r ≤ e) : Rounds p g e r := by
  cases r with
  | zero => exact (h h0).elim
  | succ n => exact ⟨n, rfl, hb n (by omega), by omega⟩
theorem rounds_fix {t p g e : Int} (L : Lk t p g) {r : Nat} (h : tm p g r ≤ e) (hf : longer g (pz p g r) = pz p g r) : ∃ N : Nat, Rounds p g e N ∧ (N : Int) = (r : Nat) + ((e - tm p g r) / pz p g r + 1) := by
  have h1 := (pz_in L r).1
  have hq0 : 0 ≤ (e - tm p g r) / pz p g r := Int.ediv_nonneg (by omega) (by omega)
  have hq1 : (e - tm p g r) / pz p g r * pz p g r ≤ e - tm p g r := Int.ediv_mul_le _ (by omega)
  have hq2 : e - tm p g r < ((e - tm p g r) / pz p g r + 1) * pz p g r := Int.lt_ediv_add_one_mul_self _ (by omega)
  obtain ⟨q, hq⟩ : ∃ q : Nat, (e - tm p g r) / pz p g r = (q : Nat) := ⟨_, (Int.toNat_of_nonneg hq0).symm⟩
  rw [hq] at hq1 hq2 ⊢
  refine ⟨r + q + 1, ⟨r + q, rfl, ?_, ?_⟩, by omega⟩
  · rw [tm_fix hf q]
    omega
  · have e1 : tm p g (r + q + 1) = tm p g r + ((q : Nat) + 1 : Int) * pz p g r := by
      rw [Nat.add_assoc, tm_fix hf (q + 1)]
      rfl
    rw [e1]
    omega
theorem count_lt : ∀ n N : Nat, ((List.range n).filter fun k => decide (k < N)).length = min n N
  | 0, N => by simp
  | n + 1, N => by
    rw [List.range_succ, List.filter_append, List.length_append, count_lt n N]
    by_cases h : n < N
    · rw [List.filter_cons_of_pos (by simpa using h)]
      simp
      omega
    · rw [List.filter_cons_of_neg (by simpa using h)]
      simp
      omega
theorem rounds_le {t p g e : Int} (L : Lk t p g) {N : Nat} (R : Rounds p g e N) (k : Nat) : decide (tm p g k ≤ e) = decide (k < N) := by
  obtain ⟨n, rfl, h1, h2⟩ := R
  by_cases h : k < n + 1
  · rw [decide_eq_true h, decide_eq_true (Int.le_trans (tm_mono L (by omega : k ≤ n)) h1)]
  · rw [decide_eq_false h, decide_eq_false]
    have := tm_mono L (i := n + 1) (j := k) (by omega)
    omega
theorem rounds_count {t p g e : Int} (L : Lk t p g) {N n : Nat} (R : Rounds p g e N) (h : e < tm p g n) : ((List.range (n + 1)).filter fun k => decide (tm p g k ≤ e)).length = N := by
  have hN : N ≤ n := by
    obtain ⟨m, rfl, h1, _⟩ := R
    exact tm_inv L (Int.lt_of_le_of_lt h1 h)
  have e1 : (fun k => decide (tm p g k ≤ e)) = fun k => decide (k < N) := funext fun k => rounds_le L R k
  rw [e1, count_lt]
  omega
theorem rounds_ge {t p g : Int} (L : Lk t p g) {m N : Nat} (R : Rounds p g (tm p g m) N) : m < N := by
  obtain ⟨n, rfl, _, h⟩ := R
  exact tm_inv L h
theorem rounds_lt {t p g : Int} (L : Lk t p g) {m N : Nat} (R : Rounds p g (tm p g m - 1) N) : N ≤ m := by
  obtain ⟨n, rfl, h, _⟩ := R
  exact tm_inv L (i := n) (j := m) (by omega)
theorem div_in {t c : Int} (ht : 1 ≤ t) (hc : 1 ≤ c) : ((((c - 1) / t).toNat : Nat) : Int) * t ≤ c - 1 ∧ c - 1 < ((((c - 1) / t).toNat : Nat) + 1 : Int) * t := by
  have h0 : 0 ≤ (c - 1) / t := Int.ediv_nonneg (by omega) (by omega)
  rw [Int.toNat_of_nonneg h0]
  exact ⟨Int.ediv_mul_le _ (by omega), Int.lt_ediv_add_one_mul_self _ (by omega)⟩
theorem first_most {t p g c : Int} (L : Lk t p g) (hc : 1 ≤ c) {N : Nat} (R : Rounds p g (tm p g ((c - 1) / t).toNat) N) : ¬ (N : Nat) * t < c := by
  have h1 := rounds_ge L R
  obtain ⟨_, h2⟩ := div_in L.t1 hc
  generalize ((c - 1) / t).toNat = m at *
  have h3 : ((m : Nat) + 1 : Int) * t ≤ (N : Nat) * t := Int.mul_le_mul_of_nonneg_right (by omega) (by have := L.t1; omega)
  omega
theorem before_most {t p g c : Int} (L : Lk t p g) (hc : 1 ≤ c) {N : Nat} (R : Rounds p g (tm p g ((c - 1) / t).toNat - 1) N) : ¬ c ≤ (N : Nat) * t := by
  have h1 := rounds_lt L R
  obtain ⟨h2, _⟩ := div_in L.t1 hc
  generalize ((c - 1) / t).toNat = m at *
  have h3 : (N : Nat) * t ≤ (m : Nat) * t := Int.mul_le_mul_of_nonneg_right (by omega) (by have := L.t1; omega)
  omega
theorem most_least {t p g e : Int} (L : Lk t p g) {N : Nat} (R : Rounds p g e N) : 1 ≤ (N : Nat) * t ∧ tm p g (((N : Nat) * t - 1) / t).toNat ≤ e ∧ e < tm p g (((N : Nat) * t + 1 - 1) / t).toNat := by
  have ht := L.t1
  obtain ⟨n, rfl, h1, h2⟩ := R
  have e1 : ((n + 1 : Nat) : Int) * t = (n : Nat) * t + t := by
    rw [Int.natCast_add, Int.add_mul]
    show _ + 1 * t = _
    omega
  have hn : 0 ≤ ((n : Nat) : Int) * t := Int.mul_nonneg (by omega) (by omega)
  refine ⟨by omega, ?_, ?_⟩
  · have e2 : (((n + 1 : Nat) : Int) * t - 1) / t = (n : Nat) := by
      rw [e1, show (n : Nat) * t + t - 1 = (t - 1) + (n : Nat) * t by omega, Int.add_mul_ediv_right _ _ (by omega), Int.ediv_eq_zero_of_lt (by omega) (by omega), Int.zero_add]
    rw [e2, Int.toNat_natCast]
    exact h1
  · have e2 : (((n + 1 : Nat) : Int) * t + 1 - 1) / t = ((n + 1 : Nat) : Int) := by
      rw [Int.add_sub_cancel, Int.mul_ediv_cancel _ (by omega)]
    rw [e2, Int.toNat_natCast]
    exact h2
theorem most_zero {t p g : Int} (L : Lk t p g) {N : Nat} (R : Rounds p g 0 N) : (N : Nat) * t = t := by
  obtain ⟨n, rfl, h1, _⟩ := R
  have e : n = 0 := by
    by_cases q : n = 0
    · exact q
    · have := tm_smono L (i := 0) (j := n) (by omega)
      have z : tm p g 0 = 0 := rfl
      omega
  rw [e]
  show (1 : Int) * t = t
  omega
theorem least_tries {t p g : Int} (L : Lk t p g) : tm p g ((t - 1) / t).toNat = 0 := by
  have ht := L.t1
  rw [Int.ediv_eq_zero_of_lt (by omega) (by omega)]
  rfl
end LS
namespace LS
open PySem L2
/-- none, a truth value, an int, a text, a tuple -/
def NoList : PyData → Prop
  | .list _ => False
  | .dict _ => False
  | _ => True
def tyN : PyData → String
  | .none => "NoneType"
  | .bool _ => "bool"
  | .int _ => "int"
  | .str _ => "str"
  | .list _ => "list"
  | .tuple _ => "tuple"
  | .dict _ => "dict"
theorem ty_of {K : PySem.W.Frag} {H : Hp} {v : V} {d : PyData} (h : Dp K H v d) (n : NoList d) : TyX K H v (.type (tyN d)) := by
  cases h with
  | non => exact .base .non
  | bl b => exact .base (.bl b)
  | int i => exact .base (.int i)
  | str x => exact .base (.str x)
  | lst a b => exact n.elim
  | tup a b =>
    rcases a with (q | ⟨o, q⟩) | ⟨o, its, m, hk, hc, _⟩
    · exact .base (.tup q)
    · exact .fTuple q
    · exact .kTuple hk hc
def isStr : PyData → Bool
  | .str _ => true
  | _ => false
def isInt : PyData → Bool
  | .int _ => true
  | .bool _ => true
  | _ => false
def isBool : PyData → Bool
  | .bool _ => true
  | _ => false
def isTup : PyData → Bool
  | .tuple _ => true
  | _ => false
theorem kit_of7 {t : String} {g : PyData → Bool} (h0 : kitB "NoneType" t = some (g .none)) (h1 : ∀ b, kitB "bool" t = some (g (.bool b))) (h2 : ∀ i, kitB "int" t = some (g (.int i))) (h3 : ∀ z, kitB "str" t = some (g (.str z)))
    (h4 : ∀ z, kitB "list" t = some (g (.list z))) (h5 : ∀ z, kitB "tuple" t = some (g (.tuple z))) (h6 : ∀ z, kitB "dict" t = some (g (.dict z))) (d : PyData) : kitB (tyN d) t = some (g d) := by
  cases d with
  | none => exact h0
  | bool b => exact h1 b
  | int i => exact h2 i
  | str z => exact h3 z
  | list z => exact h4 z
  | tuple z => exact h5 z
  | dict z => exact h6 z
theorem kit_str (d : PyData) : kitB (tyN d) "str" = some (isStr d) := kit_of7 (by decide +kernel) (fun _ => (by decide +kernel : kitB "bool" "str" = some false)) (fun _ => (by decide +kernel : kitB "int" "str" = some false)) (fun _ => (by decide +kernel : kitB "str" "str" = some true))
  (fun _ => (by decide +kernel : kitB "list" "str" = some false)) (fun _ => (by decide +kernel : kitB "tuple" "str" = some false)) (fun _ => (by decide +kernel : kitB "dict" "str" = some false)) d
theorem kit_int (d : PyData) : kitB (tyN d) "int" = some (isInt d) := kit_of7 (by decide +kernel) (fun _ => (by decide +kernel : kitB "bool" "int" = some true)) (fun _ => (by decide +kernel : kitB "int" "int" = some true)) (fun _ => (by decide +kernel : kitB "str" "int" = some false))
  (fun _ => (by decide +kernel : kitB "list" "int" = some false)) (fun _ => (by decide +kernel : kitB "tuple" "int" = some false)) (fun _ => (by decide +kernel : kitB "dict" "int" = some false)) d
theorem kit_bool (d : PyData) : kitB (tyN d) "bool" = some (isBool d) := kit_of7 (by decide +kernel) (fun _ => (by decide +kernel : kitB "bool" "bool" = some true)) (fun _ => (by decide +kernel : kitB "int" "bool" = some false)) (fun _ => (by decide +kernel : kitB "str" "bool" = some false))
  (fun _ => (by decide +kernel : kitB "list" "bool" = some false)) (fun _ => (by decide +kernel : kitB "tuple" "bool" = some false)) (fun _ => (by decide +kernel : kitB "dict" "bool" = some false)) d
theorem kit_tup (d : PyData) : kitB (tyN d) "tuple" = some (isTup d) := kit_of7 (by decide +kernel) (fun _ => (by decide +kernel : kitB "bool" "tuple" = some false)) (fun _ => (by decide +kernel : kitB "int" "tuple" = some false)) (fun _ => (by decide +kernel : kitB "str" "tuple" = some false))
  (fun _ => (by decide +kernel : kitB "list" "tuple" = some false)) (fun _ => (by decide +kernel : kitB "tuple" "tuple" = some true)) (fun _ => (by decide +kernel : kitB "dict" "tuple" = some false)) d
theorem pss_false {X : Cx} {l : List Stmt} : PSs X l (fun _ _ _ => False) := ⟨fun _ _ _ _ _ _ h => h.elim⟩
theorem same_upd {H H1 : Hp} {D : Addr} {o : HO} (hD : H D = none) (S : Same H H1) : Same H (upd H1 D o) := fun b u e => by
  rw [upd_ne (ne_of_none e hD)]
  exact S b u e
end LS
namespace LS
open PySem L2
abbrev sNum : Stmt := top i_is_number
/-- an int, no truth value, between two others -/
def isNum (a b : Int) : PyData → Bool
  | .int i => decide (a ≤ i) && decide (i ≤ b)
  | _ => false
def spNum (K : PySem.W.Frag) : Sp := fun vs H Q _ => ∃ (v : V) (d : PyData) (a b : Int), vs = [v, .int a, .int b] ∧ Dp K H v d ∧ NoList d ∧ Q (.bl (isNum a b d)) H
structure NumK (mg : Str → Option Value) : Prop where
  isi : mg "isinstance" = none
  int : mg "int" = none
  bool : mg "bool" = none
section
variable {P : Program} {w : World} {K : PySem.W.Frag} {mg : Str → Option Value} {base : Heap}
theorem scNum : FnScope ["value", "least", "most"] ["value", "least", "most"] (defScope sNum) := ⟨rfl, rfl, rfl, by decide +kernel, rfl, by decide +kernel, by decide +kernel⟩
theorem ok_num {f : Addr} {fd : FuncData} (F : Fun K "is_number" "is_number" sNum f fd) (T : NumK mg) : FnOk P w K mg base CX0 1 f fd ["value", "least", "most"] (spNum K) := by
  refine F.ok scNum (fun vs H Q E h => ?_) (fun cdv A outer s H vs Q E hr h => ?_)
  · obtain ⟨v, d, a, b, rfl, _⟩ := h
    rfl
  · obtain ⟨v, d, a, b, rfl, hd, hn, k⟩ := h
    refine ⟨_, pss_one (ps_ret (pe_and (pe_callB call_isi (by rfl) T.isi (by decide +kernel) (pa_cons (pv 0) (pa_cons (pe_bltn (by rfl) T.int (by decide +kernel) (v := .ty "int") rfl) pa_nil)))
      (pe_and (pe_not (pe_callB call_isi (by rfl) T.isi (by decide +kernel) (pa_cons (pv 0) (pa_cons (pe_bltn (by rfl) T.bool (by decide +kernel) (v := .ty "bool") rfl) pa_nil))))
      (pe_one (pe_chain op_le op_le (pv 1) (pv 0) (pv 2)))))), ?_⟩
    refine ⟨_, rfl, v, .ty "int", _, _, isInt d, rfl, .ty _, ty_of hd hn, kit_ty (kit_int d), _, rfl, ?_⟩
    refine ite2 (fun h1 => ?_) (fun h1 => ?_)
    · refine ⟨_, rfl, v, .ty "bool", _, _, isBool d, rfl, .ty _, ty_of hd hn, kit_ty (kit_bool d), _, rfl, _, rfl, ?_⟩
      refine ite2 (fun h2 => ?_) (fun h2 => ?_)
      · obtain ⟨i, rfl⟩ : ∃ i, d = .int i := by
          cases d with
          | int i => exact ⟨i, rfl⟩
          | bool b => cases h2
          | _ => cases h1
        cases hd
        refine ⟨_, rfl, _, rfl, _, _, rfl, rfl, _, rfl, ?_⟩
        have e : isNum a b (.int i) = (decide (a ≤ i) && decide (i ≤ b)) := rfl
        rw [e] at k
        refine ite2 (fun h3 => ?_) (fun h3 => ?_)
        · refine ⟨_, rfl, _, _, rfl, rfl, ?_⟩
          rw [h3, Bool.true_and] at k
          exact k
        · rw [Bool.eq_false_iff.mpr h3, Bool.false_and] at k
          exact k
      · have e : isNum a b d = false := by
          cases d with
          | int i => exact (h2 rfl).elim
          | _ => rfl
        rw [e] at k
        exact k
    · have e : isNum a b d = false := by
        cases d with
        | int i => exact (h1 rfl).elim
        | _ => rfl
      rw [e] at k
      exact k
end
end LS
namespace LS
open PySem L2
abbrev sLInit : Stmt := inClass (top i_Lock) 0
abbrev sLTries : Stmt := inClass (top i_Lock) 1
abbrev sLPause : Stmt := inClass (top i_Lock) 2
abbrev sLGrowth : Stmt := inClass (top i_Lock) 3
abbrev sLonger : Stmt := top i_longer_pause
def lockF (t p g : Int) : List (Str × V) := [("_tries", .int t), ("_pause", .int p), ("_growth", .int g)]
def LockAt (C : Addr) (H : Hp) (q : Addr) (t p g : Int) : Prop := ∃ dx, H q = some (.ins C dx (lockF t p g))
/-- what the top has written of locks.py -/
structure LockK (K : PySem.W.Frag) (mg : Str → Option Value) (C : Addr) : Prop where
  g : mg "Lock" = some (.ref C)
  cl : Cls K C
  nT : NoAttr K C "_tries"
  nP : NoAttr K C "_pause"
  nG : NoAttr K C "_growth"
  mt : ∃ t, mg "MOST_TRIES" = some (.int 9 t)
  mp : ∃ t, mg "MOST_FIRST_PAUSE" = some (.int 1000 t)
  mgr : ∃ t, mg "MOST_GROWTH" = some (.int 9 t)
  lp : ∃ t, mg "LONGEST_PAUSE" = some (.int 1000000000 t)
  le : ∃ t, mg "LAST_END" = some (.int 1000000000000000 t)
  mc : ∃ t, mg "MOST_COUNT" = some (.int 1000000000 t)
  min : mg "min" = none
def AllBut (p : Addr) (H H' : Hp) : Prop := ∀ b o, b ≠ p → H b = some o → H' b = some o
def spLInit (C : Addr) : Sp := fun vs H Q _ => ∃ (q dx : Addr) (t p g : Int), vs = [.ref q, .int t, .int p, .int g] ∧ Lk t p g ∧ H q = some (.ins C dx []) ∧ ∀ H', (∀ b, b ≠ q → H' b = H b) → LockAt C H' q t p g → Q .non H'
def spGet (C : Addr) (f : Int → Int → Int → Int) : Sp := fun vs H Q _ => ∃ (q : Addr) (t p g : Int), vs = [.ref q] ∧ LockAt C H q t p g ∧ Q (.int (f t p g)) H
def spLonger (C : Addr) : Sp := fun vs H Q _ => ∃ (q : Addr) (t p g x : Int), vs = [.ref q, .int x] ∧ LockAt C H q t p g ∧ Lk t p g ∧ Q (.int (longer g x)) H
section
variable {P : Program} {w : World} {K : PySem.W.Frag} {mg : Str → Option Value} {base : Heap} {C : Addr}
theorem scLI : FnScope ["self", "tries", "pause", "growth"] ["self", "tries", "pause", "growth"] (defScope sLInit) := ⟨rfl, rfl, rfl, by decide +kernel, rfl, by decide +kernel, by decide +kernel⟩
theorem num_in {a b i : Int} (h1 : a ≤ i) (h2 : i ≤ b) : isNum a b (.int i) = true := by
  show (decide (a ≤ i) && decide (i ≤ b)) = true
  rw [decide_eq_true h1, decide_eq_true h2]
  rfl
theorem lock_put (t p g : V) : putF "_growth" g (putF "_pause" p (putF "_tries" t [])) = ([("_tries", t), ("_pause", p), ("_growth", g)] : List (Str × V)) := by
  show putF "_growth" g (if ("_tries" : Str) = "_pause" then [(("_pause" : Str), p)] else (("_tries" : Str), t) :: putF "_pause" p []) = _
  rw [if_neg (by decide +kernel)]
  show (if ("_tries" : Str) = "_growth" then _ else (("_tries" : Str), t) :: (if ("_pause" : Str) = "_growth" then _ else _)) = _
  rw [if_neg (by decide +kernel), if_neg (by decide +kernel)]
  rfl
theorem ok_linit {f fN : Addr} {fd fdN : FuncData} (F : Fun K "__init__" "Lock.__init__" sLInit f fd) (T : LockK K mg C)
    (GN : FnOk P w K mg base CX0 1 fN fdN ["value", "least", "most"] (spNum K)) (gN : mg "is_number" = some (.ref fN)) (kN : PySem.W.keepIn K (.ref fN) = true) (bN : Binds K fdN ["value", "least", "most"] []) :
    FnOk P w K mg base CX0 2 f fd ["self", "tries", "pause", "growth"] (spLInit C) := by
  obtain ⟨t1, g1⟩ := T.mt
  obtain ⟨t2, g2⟩ := T.mp
  obtain ⟨t3, g3⟩ := T.mgr
  refine F.ok scLI (fun vs H Q E h => ?_) (fun cdv A outer s H vs Q E hr h => ?_)
  · obtain ⟨q, dx, t, p, g, rfl, _⟩ := h
    rfl
  · obtain ⟨q, dx, t, p, g, rfl, L, hq, k⟩ := h
    refine ⟨_, pss_cons (ps_if (pt_not (pt_val (pe_call GN hr (by rfl) gN kN bN .nil pass0 (pa_cons (pv 1) (pa_cons pe_int (pa_cons (pe_glob (v := .int 9) (by rfl) g1 ⟨t1, rfl⟩) pa_nil)))))) pss_false pss_nil)
      (pss_cons (ps_if (pt_not (pt_val (pe_call GN hr (by rfl) gN kN bN .nil pass0 (pa_cons (pv 2) (pa_cons pe_int (pa_cons (pe_glob (v := .int 1000) (by rfl) g2 ⟨t2, rfl⟩) pa_nil)))))) pss_false pss_nil)
      (pss_cons (ps_if (pt_not (pt_val (pe_call GN hr (by rfl) gN kN bN .nil pass0 (pa_cons (pv 3) (pa_cons pe_int (pa_cons (pe_glob (v := .int 9) (by rfl) g3 ⟨t3, rfl⟩) pa_nil)))))) pss_false pss_nil)
      (pss_cons (ps_fld (pv 0) (pv 1) rfl) (pss_cons (ps_fld (pv 0) (pv 2) rfl) (pss_one (ps_fld (pv 0) (pv 3) rfl)))))), ?_⟩
    refine ⟨_, rfl, _, .int t, _, _, rfl, .int _, True.intro, _, rfl, ?_⟩
    rw [num_in L.t1 L.t9]
    refine iteF ?_
    refine ⟨_, rfl, _, .int p, _, _, rfl, .int _, True.intro, _, rfl, ?_⟩
    rw [num_in L.p1 L.pM]
    refine iteF ?_
    refine ⟨_, rfl, _, .int g, _, _, rfl, .int _, True.intro, _, rfl, ?_⟩
    rw [num_in L.g1 L.g9]
    refine iteF ?_
    refine ⟨_, rfl, _, rfl, q, C, dx, _, rfl, hq, T.cl, T.nT, (by show 0 < 1000; decide), _, rfl, _, rfl, q, C, dx, _, rfl, upd_same, T.cl, T.nP, (by show 1 < 1000; decide), _, rfl, _, rfl, q, C, dx, _, rfl, upd_same, T.cl, T.nG, (by show 2 < 1000; decide), ?_⟩
    refine k _ (fun b hb => ?_) ⟨dx, ?_⟩
    · rw [upd_ne hb, upd_ne hb, upd_ne hb]
    · rw [upd_same, lock_put]
      rfl
theorem scLT : FnScope ["self"] ["self"] (defScope sLTries) := ⟨rfl, rfl, rfl, by decide +kernel, rfl, by decide +kernel, by decide +kernel⟩
theorem scLP : FnScope ["self"] ["self"] (defScope sLPause) := ⟨rfl, rfl, rfl, by decide +kernel, rfl, by decide +kernel, by decide +kernel⟩
theorem scLG : FnScope ["self"] ["self"] (defScope sLGrowth) := ⟨rfl, rfl, rfl, by decide +kernel, rfl, by decide +kernel, by decide +kernel⟩
theorem ok_ltries {f : Addr} {fd : FuncData} (F : Fun K "tries" "Lock.tries" sLTries f fd) (T : LockK K mg C) : FnOk P w K mg base CX0 1 f fd ["self"] (spGet C fun t _ _ => t) := by
  refine F.ok scLT (fun vs H Q E h => ?_) (fun cdv A outer s H vs Q E hr h => ?_)
  · obtain ⟨q, t, p, g, rfl, _⟩ := h
    rfl
  · obtain ⟨q, t, p, g, rfl, ⟨dx, hq⟩, k⟩ := h
    exact ⟨_, pss_one (ps_ret (pe_fld (pv 0) rfl)), _, rfl, q, C, dx, _, _, rfl, hq, T.cl, T.nT, rfl, k⟩
theorem ok_lpause {f : Addr} {fd : FuncData} (F : Fun K "pause" "Lock.pause" sLPause f fd) (T : LockK K mg C) : FnOk P w K mg base CX0 1 f fd ["self"] (spGet C fun _ p _ => p) := by
  refine F.ok scLP (fun vs H Q E h => ?_) (fun cdv A outer s H vs Q E hr h => ?_)
  · obtain ⟨q, t, p, g, rfl, _⟩ := h
    rfl
  · obtain ⟨q, t, p, g, rfl, ⟨dx, hq⟩, k⟩ := h
    exact ⟨_, pss_one (ps_ret (pe_fld (pv 0) rfl)), _, rfl, q, C, dx, _, _, rfl, hq, T.cl, T.nP, rfl, k⟩
theorem ok_lgrowth {f : Addr} {fd : FuncData} (F : Fun K "growth" "Lock.growth" sLGrowth f fd) (T : LockK K mg C) : FnOk P w K mg base CX0 1 f fd ["self"] (spGet C fun _ _ g => g) := by
  refine F.ok scLG (fun vs H Q E h => ?_) (fun cdv A outer s H vs Q E hr h => ?_)
  · obtain ⟨q, t, p, g, rfl, _⟩ := h
    rfl
  · obtain ⟨q, t, p, g, rfl, ⟨dx, hq⟩, k⟩ := h
    exact ⟨_, pss_one (ps_ret (pe_fld (pv 0) rfl)), _, rfl, q, C, dx, _, _, rfl, hq, T.cl, T.nG, rfl, k⟩
/-- a getter and its property -/
structure GetK (P : Program) (w : World) (K : PySem.W.Frag) (mg : Str → Option Value) (base : Heap) (C : Addr) (f : Str) (sp : Sp) where
  {a p : Addr}
  {fd : FuncData}
  G : FnOk P w K mg base CX0 1 a fd ["self"] sp
  b : Binds K fd ["self"] []
  pr : PropOf K C f p a
theorem scLo : FnScope ["lock", "pause"] ["lock", "pause"] (defScope sLonger) := ⟨rfl, rfl, rfl, by decide +kernel, rfl, by decide +kernel, by decide +kernel⟩
theorem longer_min (g x : Int) : (if (1000000000 : Int) < x * g then (1000000000 : Int) else x * g) = longer g x := by
  unfold longer
  generalize x * g = m
  split <;> split <;> omega
theorem ok_longer {f : Addr} {fd : FuncData} (F : Fun K "longer_pause" "longer_pause" sLonger f fd) (T : LockK K mg C) (GG : GetK P w K mg base C "growth" (spGet C fun _ _ g => g)) :
    FnOk P w K mg base CX0 3 f fd ["lock", "pause"] (spLonger C) := by
  obtain ⟨t1, g1⟩ := T.lp
  refine F.ok scLo (fun vs H Q E h => ?_) (fun cdv A outer s H vs Q E hr h => ?_)
  · obtain ⟨q, t, p, g, x, rfl, _⟩ := h
    rfl
  · obtain ⟨q, t, p, g, x, rfl, ⟨dx, hq⟩, L, k⟩ := h
    refine ⟨_, pss_one (ps_ret (pe_callB (call_min2 rfl) (by rfl) T.min (by decide +kernel) (pa_cons (pe_op op_mul (pv 1) (pe_prop (pv 0) T.cl GG.pr GG.G (hr.mono (by decide)) GG.b .nil pass0 rfl)) (pa_cons (pe_glob (v := .int 1000000000) (by rfl) g1 ⟨t1, rfl⟩) pa_nil)))), ?_⟩
    refine ⟨_, rfl, _, rfl, q, dx, _, rfl, hq, q, t, p, g, rfl, ⟨dx, hq⟩, _, _, rfl, rfl, .inr ⟨?_, ?_⟩, _, _, rfl, ?_⟩
    · have := L.g1
      show -(2 ^ 64) < g
      omega
    · have := L.g9
      show g < 2 ^ 64
      omega
    · show Q (.int (if (1000000000 : Int) < x * g then (1000000000 : Int) else x * g)) H
      rw [longer_min]
      exact k
end
end LS
namespace LS
open PySem L2
abbrev sMost : Stmt := top i_most_refusals
abbrev sLeast : Stmt := top i_least_time
abbrev nMost : List Str := ["lock", "end", "rounds", "time", "pause"]
abbrev nLeast : List Str := ["lock", "count", "pauses", "time", "pause"]
def spMost (C : Addr) : Sp := fun vs H Q _ => ∃ (q : Addr) (t p g e : Int), vs = [.ref q, .int e] ∧ LockAt C H q t p g ∧ Lk t p g ∧ 0 ≤ e ∧ e ≤ 1000000000000000 ∧ ∀ (N : Nat) H', Same H H' → Rounds p g e N → Q (.int ((N : Nat) * t)) H'
def spLeast (C : Addr) : Sp := fun vs H Q _ => ∃ (q : Addr) (t p g c : Int), vs = [.ref q, .int c] ∧ LockAt C H q t p g ∧ Lk t p g ∧ 1 ≤ c ∧ c ≤ 1000000000 ∧ ∀ H', Same H H' → Q (.int (tm p g ((c - 1) / t).toNat)) H'
theorem LockAt.same {C : Addr} {H H' : Hp} {q : Addr} {t p g : Int} (h : LockAt C H q t p g) (e : Same H H') : LockAt C H' q t p g := by
  obtain ⟨dx, h⟩ := h
  exact ⟨dx, e _ _ h⟩
/-- the loop's state behind r turns, m turns at most to come -/
def WMost (H : Hp) (q : Addr) (p g e : Int) : Nat → St → Hp → Prop := fun m σ H' => ∃ r : Nat, Same H H' ∧ σ = [some (.ref q), some (.int e), some (.int (r : Nat)), some (.int (tm p g r)), some (.int (pz p g r))] ∧ (∀ k, k < r → tm p g k ≤ e) ∧ m = (1000000000 - pz p g r).toNat
def WLeast (H : Hp) (q : Addr) (p g c : Int) (M : Nat) : Nat → St → Hp → Prop := fun m σ H' => ∃ r : Nat, Same H H' ∧ σ = [some (.ref q), some (.int c), some (.int (m : Nat)), some (.int (tm p g r)), some (.int (pz p g r))] ∧ r + m = M
section
variable {P : Program} {w : World} {K : PySem.W.Frag} {mg : Str → Option Value} {base : Heap} {C : Addr}
theorem scMo : FnScope nMost ["lock", "end"] (defScope sMost) := ⟨rfl, rfl, rfl, by decide +kernel, rfl, by decide +kernel, by decide +kernel⟩
theorem scLe : FnScope nLeast ["lock", "count"] (defScope sLeast) := ⟨rfl, rfl, rfl, by decide +kernel, rfl, by decide +kernel, by decide +kernel⟩
theorem ok_most {f fN fO : Addr} {fd fdN fdO : FuncData} (F : Fun K "most_refusals" "most_refusals" sMost f fd) (T : LockK K mg C)
    (GN : FnOk P w K mg base CX0 1 fN fdN ["value", "least", "most"] (spNum K)) (gN : mg "is_number" = some (.ref fN)) (kN : PySem.W.keepIn K (.ref fN) = true) (bN : Binds K fdN ["value", "least", "most"] [])
    (GO : FnOk P w K mg base CX0 3 fO fdO ["lock", "pause"] (spLonger C)) (gO : mg "longer_pause" = some (.ref fO)) (kO : PySem.W.keepIn K (.ref fO) = true) (bO : Binds K fdO ["lock", "pause"] [])
    (GP : GetK P w K mg base C "pause" (spGet C fun _ p _ => p)) (GT : GetK P w K mg base C "tries" (spGet C fun t _ _ => t)) :
    FnOk P w K mg base CX0 4 f fd ["lock", "end"] (spMost C) := by
  obtain ⟨t1, g1⟩ := T.le
  refine F.ok scMo (fun vs H Q E h => ?_) (fun cdv A outer s H vs Q E hr h => ?_)
  · obtain ⟨q, t, p, g, e, rfl, _⟩ := h
    rfl
  · obtain ⟨q, t, p, g, e, rfl, hq, L, he0, he1, k⟩ := h
    refine ⟨_, pss_cons (ps_if (pt_not (pt_val (pe_call GN (hr.mono (by decide)) (by rfl) gN kN bN .nil pass0 (pa_cons (pv 1) (pa_cons pe_int (pa_cons (pe_glob (v := .int 1000000000000000) (by rfl) g1 ⟨t1, rfl⟩) pa_nil)))))) pss_false pss_nil)
      (pss_cons (ps_par3 (i := 2) (j := 3) (l := 4) (by rfl) scMo.nd rfl rfl rfl (by decide) (by decide) (by decide) rfl rfl rfl (pa_cons pe_int (pa_cons pe_int (pa_cons (pe_prop (pv 0) T.cl GP.pr GP.G (hr.mono (by decide)) GP.b .nil pass0 rfl) pa_nil))) (by rfl))
      (pss_cons (ps_while PassesOwn.never (PW.pt (pw_and (pt_cmpR op_le (pv 3) (pv 1) (nomark _)) (pw_and1 (pt_cmpR op_ne (pe_call GO hr (by rfl) gO kO bO .nil pass0 (pa_cons (pv 0) (pa_cons (pv 4) pa_nil))) (pv 4) (nomark _)))))
          (pss_cons (ps_aug (i := 2) scMo.nd rfl (.inl rfl) pe_int ip_add) (pss_cons (ps_aug (i := 3) scMo.nd rfl (.inl rfl) (pv 4) ip_add) (pss_one (ps_set (i := 4) scMo.nd rfl (.inl rfl) (pe_call GO hr (by rfl) gO kO bO .nil pass0 (pa_cons (pv 0) (pa_cons (pv 4) pa_nil))))))))
      (pss_cons (ps_if (pt_cmpR op_le (pv 3) (pv 1) (nomark _)) (pss_one (ps_aug (i := 2) scMo.nd rfl (.inl rfl) (pe_op op_add (pe_op op_fdiv (pe_op op_sub (pv 1) (pv 3)) (pv 4)) pe_int) ip_add)) pss_nil)
      (pss_one (ps_ret (pe_op op_mul (pv 2) (pe_prop (pv 0) T.cl GT.pr GT.G (hr.mono (by decide)) GT.b .nil pass0 rfl))))))), ?_⟩
    refine ⟨_, rfl, _, .int e, _, _, rfl, .int _, True.intro, _, rfl, ?_⟩
    rw [num_in he0 he1]
    refine iteF ?_
    obtain ⟨dx, hq'⟩ := id hq
    refine ⟨_, rfl, q, dx, _, rfl, hq', q, t, p, g, rfl, hq, _, _, _, rfl, ?_⟩
    have S1 : Same H H := Same.refl H
    refine ⟨WMost H q p g e, ⟨_, 0, S1, rfl, fun k hk => (nomatch hk), rfl⟩, ?_⟩
    rintro m σ H2 ⟨r, S2, rfl, hb, rfl⟩
    have hq2 := hq.same S2
    obtain ⟨dx2, hq2'⟩ := id hq2
    have fin : ∀ N : Nat, Rounds p g e N → tRet (tOp (rI CMul fun i j => .int (i * j)) (tVar 2) (tProp C (spGet C fun t _ _ => t) [] E0 (tVar 0))) { nx := fun _ H' => Q .non H', rt := Q } [some (.ref q), some (.int e), some (.int (N : Nat)), some (.int (tm p g r)), some (.int (pz p g r))] H2 := fun N R => by
      refine ⟨_, rfl, _, rfl, q, dx2, _, rfl, hq2', q, t, p, g, rfl, hq2, _, _, rfl, rfl, .inr ⟨?_, ?_⟩, k N H2 S2 R⟩
      · have := L.t1
        show -(2 ^ 64) < t
        omega
      · have := L.t9
        show t < 2 ^ 64
        omega
    refine ⟨_, rfl, _, rfl, _, _, rfl, rfl, _, rfl, ?_⟩
    refine ite2 (fun h1 => ?_) (fun h1 => ?_)
    · have h1' := of_decide_eq_true h1
      refine ⟨_, rfl, _, rfl, q, t, p, g, _, rfl, hq2, L, _, rfl, rfl, _, rfl, ?_⟩
      refine ite2 (fun h2 => ?_) (fun h2 => ?_)
      · refine ⟨fun σ' H' => ∃ m', m' < (1000000000 - pz p g r).toNat ∧ WMost H q p g e m' σ' H', fun _ _ h => h, ?_⟩
        refine ⟨_, rfl, _, _, rfl, rfl, ?_⟩
        refine ⟨_, rfl, _, rfl, _, _, rfl, rfl, ?_⟩
        refine ⟨_, rfl, _, rfl, q, t, p, g, _, rfl, hq2, L, ?_⟩
        have ne : longer g (pz p g r) ≠ pz p g r := fun z => by
          rw [z] at h2
          simp at h2
        have le := pz_le L r
        have up := (pz_in L (r + 1)).2
        have lt : pz p g r < pz p g (r + 1) := by
          have q : pz p g (r + 1) ≠ pz p g r := ne
          omega
        refine ⟨(1000000000 - pz p g (r + 1)).toNat, by omega, r + 1, S2, rfl, fun k hk => ?_, rfl⟩
        by_cases hkr : k = r
        · rw [hkr]
          exact h1'
        · exact hb k (by omega)
      · have eq : longer g (pz p g r) = pz p g r := by
          by_cases z : longer g (pz p g r) = pz p g r
          · exact z
          · refine (h2 ?_).elim
            simp [z]
        obtain ⟨N, R, hN⟩ := rounds_fix L h1' eq
        refine ⟨_, rfl, _, rfl, _, _, rfl, rfl, _, rfl, ?_⟩
        rw [h1]
        refine iteT ?_
        have pin := pz_in L r
        refine ⟨_, rfl, _, rfl, _, rfl, _, _, rfl, rfl, _, rfl, _, _, rfl, rfl, ⟨by omega, by omega⟩, _, _, rfl, rfl, _, _, rfl, rfl, ?_⟩
        have q := fin N R
        rw [hN] at q
        exact q
    · refine ⟨_, rfl, _, rfl, _, _, rfl, rfl, _, rfl, ?_⟩
      rw [Bool.eq_false_iff.mpr h1]
      refine iteF ?_
      exact fin r (rounds_out L he0 hb (fun z => h1 (decide_eq_true z)))
theorem ok_least {f fN fO : Addr} {fd fdN fdO : FuncData} (F : Fun K "least_time" "least_time" sLeast f fd) (T : LockK K mg C)
    (GN : FnOk P w K mg base CX0 1 fN fdN ["value", "least", "most"] (spNum K)) (gN : mg "is_number" = some (.ref fN)) (kN : PySem.W.keepIn K (.ref fN) = true) (bN : Binds K fdN ["value", "least", "most"] [])
    (GO : FnOk P w K mg base CX0 3 fO fdO ["lock", "pause"] (spLonger C)) (gO : mg "longer_pause" = some (.ref fO)) (kO : PySem.W.keepIn K (.ref fO) = true) (bO : Binds K fdO ["lock", "pause"] [])
    (GP : GetK P w K mg base C "pause" (spGet C fun _ p _ => p)) (GT : GetK P w K mg base C "tries" (spGet C fun t _ _ => t)) :
    FnOk P w K mg base CX0 4 f fd ["lock", "count"] (spLeast C) := by
  obtain ⟨t1, g1⟩ := T.mc
  refine F.ok scLe (fun vs H Q E h => ?_) (fun cdv A outer s H vs Q E hr h => ?_)
  · obtain ⟨q, t, p, g, c, rfl, _⟩ := h
    rfl
  · obtain ⟨q, t, p, g, c, rfl, hq, L, hc0, hc1, k⟩ := h
    refine ⟨_, pss_cons (ps_if (pt_not (pt_val (pe_call GN (hr.mono (by decide)) (by rfl) gN kN bN .nil pass0 (pa_cons (pv 1) (pa_cons pe_int (pa_cons (pe_glob (v := .int 1000000000) (by rfl) g1 ⟨t1, rfl⟩) pa_nil)))))) pss_false pss_nil)
      (pss_cons (ps_par3 (i := 2) (j := 3) (l := 4) (by rfl) scLe.nd rfl rfl rfl (by decide) (by decide) (by decide) rfl rfl rfl (pa_cons (pe_op op_fdiv (pe_op op_sub (pv 1) pe_int) (pe_prop (pv 0) T.cl GT.pr GT.G (hr.mono (by decide)) GT.b .nil pass0 rfl)) (pa_cons pe_int (pa_cons (pe_prop (pv 0) T.cl GP.pr GP.G (hr.mono (by decide)) GP.b .nil pass0 rfl) pa_nil))) (by rfl))
      (pss_cons (ps_while PassesOwn.never (PW.pt (pw_and (pt_cmpR op_gt (pv 2) pe_int (nomark _)) (pw_and1 (pt_cmpR op_ne (pe_call GO hr (by rfl) gO kO bO .nil pass0 (pa_cons (pv 0) (pa_cons (pv 4) pa_nil))) (pv 4) (nomark _)))))
          (pss_cons (ps_aug (i := 2) scLe.nd rfl (.inl rfl) pe_int ip_sub) (pss_cons (ps_aug (i := 3) scLe.nd rfl (.inl rfl) (pv 4) ip_add) (pss_one (ps_set (i := 4) scLe.nd rfl (.inl rfl) (pe_call GO hr (by rfl) gO kO bO .nil pass0 (pa_cons (pv 0) (pa_cons (pv 4) pa_nil))))))))
      (pss_one (ps_ret (pe_op op_add (pv 3) (pe_op op_mul (pv 2) (pv 4))))))), ?_⟩
    refine ⟨_, rfl, _, .int c, _, _, rfl, .int _, True.intro, _, rfl, ?_⟩
    rw [num_in hc0 hc1]
    refine iteF ?_
    obtain ⟨dx, hq'⟩ := id hq
    have lt1 := L.t1
    have lt9 := L.t9
    refine ⟨_, rfl, _, _, rfl, rfl, _, rfl, q, dx, _, rfl, hq', q, t, p, g, rfl, hq, _, _, rfl, rfl, ⟨by show 0 < t; omega, by show t < 1073741824; omega⟩, _, rfl, q, dx, _, rfl, hq', q, t, p, g, rfl, hq, _, _, _, rfl, ?_⟩
    have S1 : Same H H := Same.refl H
    obtain ⟨M, hM⟩ : ∃ M : Nat, (c - 1) / t = (M : Nat) := ⟨((c - 1) / t).toNat, (Int.toNat_of_nonneg (Int.ediv_nonneg (by omega) (by omega))).symm⟩
    rw [hM, Int.toNat_natCast] at k
    have hMc : (M : Int) ≤ 1000000000 := by
      have q : (c - 1) / t ≤ c - 1 := Int.ediv_le_self _ (by omega)
      omega
    refine ⟨WLeast H q p g c M, ⟨M, 0, S1, by show [some (V.ref q), some (.int c), some (.int ((c - 1) / t)), some (.int 0), some (.int p)] = _; rw [hM]; rfl, by omega⟩, ?_⟩
    rintro m σ H2 ⟨r, S2, rfl, hm⟩
    have hq2 := hq.same S2
    refine ⟨_, rfl, _, _, rfl, rfl, _, rfl, ?_⟩
    have pin := pz_in L r
    have fin : tm p g r + (m : Nat) * pz p g r = tm p g M → tRet (tOp (rI0 fun i j => .int (i + j)) (tVar 3) (tOp (rI CMul fun i j => .int (i * j)) (tVar 2) (tVar 4))) { nx := fun _ H' => Q .non H', rt := Q } [some (.ref q), some (.int c), some (.int (m : Nat)), some (.int (tm p g r)), some (.int (pz p g r))] H2 := fun e => by
      refine ⟨_, rfl, _, rfl, _, rfl, _, _, rfl, rfl, .inr ⟨by omega, by omega⟩, _, _, rfl, rfl, ?_⟩
      show Q (.int (tm p g r + (m : Nat) * pz p g r)) H2
      rw [e]
      exact k H2 S2
    refine ite2 (fun h1 => ?_) (fun h1 => ?_)
    · have h1' : (0 : Int) < (m : Nat) := of_decide_eq_true h1
      refine ⟨_, rfl, _, rfl, q, t, p, g, _, rfl, hq2, L, _, rfl, rfl, _, rfl, ?_⟩
      refine ite2 (fun h2 => ?_) (fun h2 => ?_)
      · refine ⟨fun σ' H' => ∃ m', m' < m ∧ WLeast H q p g c M m' σ' H', fun _ _ h => h, ?_⟩
        refine ⟨_, rfl, _, _, rfl, rfl, ?_⟩
        refine ⟨_, rfl, _, rfl, _, _, rfl, rfl, ?_⟩
        refine ⟨_, rfl, _, rfl, q, t, p, g, _, rfl, hq2, L, ?_⟩
        refine ⟨m - 1, by omega, r + 1, S2, ?_, by omega⟩
        exact congrArg (fun x => [some (V.ref q), some (.int c), some (.int x), some (.int (tm p g (r + 1))), some (.int (pz p g (r + 1)))]) (show ((m : Nat) : Int) - 1 = ((m - 1 : Nat) : Int) by omega)
      · have eq : longer g (pz p g r) = pz p g r := by
          by_cases z : longer g (pz p g r) = pz p g r
          · exact z
          · refine (h2 ?_).elim
            simp [z]
        refine fin ?_
        rw [← hm, tm_fix eq m]
    · have h0 : m = 0 := by
        have q : ¬ (0 : Int) < (m : Nat) := fun z => h1 (decide_eq_true z)
        omega
      refine fin ?_
      rw [← hm, h0, show ((0 : Nat) : Int) = 0 from rfl, Int.zero_mul, Int.add_zero, Nat.add_zero]
end
end LS
namespace LS
open PySem L2
/-- a drawing row: the script, how far, two numbers -/
def RowIs (H : Hp) (r sc : Addr) : Prop := ∃ i s b : Int, 0 ≤ i ∧ H r = some (.lst [.ref sc, .int i, .int s, .int b])
/-- a drawn number: some k below many; the row is another one, all else stands -/
def spTaken (K : PySem.W.Frag) : Sp := fun vs H Q _ => ∃ (r sc : Addr) (ns : List Int) (many : Int), vs = [.ref r, .int many] ∧ 0 < many ∧ many < 9223372036854775808 ∧ SqL K H sc (ns.map V.int) ∧ RowIs H r sc ∧
  ∀ (k : Int) (H' : Hp), 0 ≤ k → k < many → RowIs H' r sc → (∀ q, q ≠ r → H' q = H q) → Q (.int k) H'
theorem seq_but {K : PySem.W.Frag} {H H' : Hp} {r sc : Addr} {ns : List Int} (hs : SqL K H sc (ns.map V.int)) (hr : RowIs H r sc) (e : ∀ q, q ≠ r → H' q = H q) : SqL K H' sc (ns.map V.int) := by
  obtain ⟨i, s, b, _, hr⟩ := hr
  by_cases h : sc = r
  · subst h
    rcases hs with (q | ⟨o, q⟩) | q
    · rw [hr] at q
      cases ns with
      | nil => simp at q
      | cons n ns => simp at q
    · rw [hr] at q
      cases q
    · exact .inr q
  · rcases hs with (q | ⟨o, q⟩) | q
    · exact .inl (.inl (by rw [e _ h]; exact q))
    · exact .inl (.inr ⟨o, by rw [e _ h]; exact q⟩)
    · exact .inr q
section
variable {P : Program} {w : World} {K : PySem.W.Frag} {mg : Str → Option Value} {base : Heap}
theorem scTaken : FnScope ["_law_row", "_law_many", "_law_found", "_law_cell"] ["_law_row", "_law_many"] (defScope sTaken) := ⟨rfl, rfl, rfl, by decide +kernel, rfl, by decide +kernel, by decide +kernel⟩
theorem ok_taken {f : Addr} {fd : FuncData} (F : Fun K "_law_taken" "_law_taken" sTaken f fd) (mL : mg "len" = none) (mI : mg "int" = none) : FnOk P w K mg base CX0 1 f fd ["_law_row", "_law_many"] (spTaken K) := by
  refine F.ok scTaken (fun vs H Q E h => ?_) (fun cdv A outer s H vs Q E hr h => ?_)
  · obtain ⟨r, sc, ns, many, rfl, _⟩ := h
    rfl
  · obtain ⟨r, sc, ns, many, rfl, hm0, hm1, hS, ⟨i, z, b, hi, hR⟩, k⟩ := h
    have hmw : ∀ i : Int, CDivW i many := fun i => wide_div hm0 (b := 63) (by omega) (by decide) (by decide)
    refine ⟨_, pss_cons (ps_if (pt_cmpR op_gt (pe_ix ix_list (pv 0) pe_int (fun _ _ => rfl)) pe_int (nomark _))
        (pss_cons (ps_set (i := 2) scTaken.nd rfl (.inl rfl) (pe_op op_mod (pe_callTy call_int1 (by rfl) mI (by decide +kernel) (pa_cons (pe_ix ix_list (pv 0) pe_int (fun _ _ => rfl)) pa_nil)) (pv 1)))
          (pss_cons (ps_asg (pe_op op_fdivW (pe_ix ix_list (pv 0) pe_int (fun _ _ => rfl)) (pv 1)) (pg_sub (pv 0) pe_int set_list))
          (pss_one (ps_ret (pv 2))))) pss_nil)
      (pss_cons (ps_asg (pe_op op_add (pe_ix ix_list (pv 0) pe_int (fun _ _ => rfl)) pe_int) (pg_sub (pv 0) pe_int set_list))
      (pss_cons (ps_if (pt_cmpR op_gt (pe_ix ix_list (pv 0) pe_int (fun _ _ => rfl)) (pe_callB call_len_seq (by rfl) mL PySem.boot_len (pa_cons (pe_ix ix_list (pv 0) pe_int (fun _ _ => rfl)) pa_nil)) (nomark _))
        (pss_cons (ps_asg (pe_op op_mod (pe_callTy call_int1 (by rfl) mI (by decide +kernel) (pa_cons (pe_op op_add (pe_op op_mul (pe_ix ix_list (pv 0) pe_int (fun _ _ => rfl)) pe_int) pe_int) pa_nil)) pe_int) (pg_sub (pv 0) pe_int set_list))
          (pss_one (ps_ret (pe_op op_mod (pe_callTy call_int1 (by rfl) mI (by decide +kernel) (pa_cons (pe_op op_fdiv (pe_ix ix_list (pv 0) pe_int (fun _ _ => rfl)) pe_int) pa_nil)) (pv 1))))) pss_nil)
      (pss_cons (ps_set (i := 3) scTaken.nd rfl (.inl rfl) (pe_ix ix_list (pe_ix ix_list (pv 0) pe_int (fun _ _ => rfl)) (pe_op op_sub (pe_ix ix_list (pv 0) pe_int (fun _ _ => rfl)) pe_int) (fun _ _ => rfl)))
      (pss_cons (ps_asg (pe_op op_mod (pe_callTy call_int1 (by rfl) mI (by decide +kernel) (pa_cons (pe_op op_add (pe_op op_add (pe_op op_mul (pe_ix ix_list (pv 0) pe_int (fun _ _ => rfl)) pe_int) (pv 3)) pe_int) pa_nil)) pe_int) (pg_sub (pv 0) pe_int set_list))
      (pss_cons (ps_if (pt_cmpR op_ge (pv 3) (pe_op op_pow pe_int pe_int) (nomark _)) (pss_one (ps_asg (pe_op op_fdivW (pv 3) (pv 1)) (pg_sub (pv 0) pe_int set_list))) pss_nil)
      (pss_one (ps_ret (pe_op op_mod (pe_callTy call_int1 (by rfl) mI (by decide +kernel) (pa_cons (pv 3) pa_nil)) (pv 1))))))))), ?_⟩
    have x0 : atI [V.ref sc, .int i, .int z, .int b] 3 = some (.int b) := rfl
    refine ⟨_, rfl, r, _, _, _, rfl, rfl, SqL.of hR, x0, _, _, rfl, rfl, _, rfl, ?_⟩
    refine ite2 (fun hb => ?_) (fun hb => ?_)
    · have y1 : atI [V.ref sc, .int i, .int z, .int (b / many)] 3 = some (.int (b / many)) := rfl
      refine ⟨_, rfl, r, _, _, _, rfl, rfl, SqL.of hR, x0, .inl ⟨_, rfl, _, rfl, _, _, rfl, rfl, hm0, ?_⟩⟩
      refine ⟨_, rfl, r, _, _, _, rfl, rfl, SqL.of hR, x0, _, rfl, _, _, rfl, rfl, hmw _, _, rfl, r, _, _, 3, rfl, rfl, hR, rfl, ?_⟩
      refine ⟨_, rfl, ?_⟩
      exact k _ _ (Int.emod_nonneg _ (by omega)) (Int.emod_lt_of_pos _ hm0) ⟨i, z, b / many, hi, upd_same⟩ fun q hq => upd_ne hq
    · refine ⟨_, rfl, r, _, _, _, rfl, rfl, SqL.of hR, (show atI _ 1 = some (.int i) from rfl), _, _, rfl, rfl, _, rfl, r, _, _, 1, rfl, rfl, hR, rfl, ?_⟩
      show tSeq _ _ _ _ (upd H r (.lst [.ref sc, .int (i + 1), .int z, .int b]))
      have hR1 : upd H r (.lst [.ref sc, .int (i + 1), .int z, .int b]) r = some (.lst [.ref sc, .int (i + 1), .int z, .int b]) := upd_same
      have e1 : ∀ q, q ≠ r → upd H r (.lst [.ref sc, .int (i + 1), .int z, .int b]) q = H q := fun q hq => upd_ne hq
      have hS1 : SqL K (upd H r (.lst [.ref sc, .int (i + 1), .int z, .int b])) sc (ns.map V.int) := seq_but hS ⟨i, z, b, hi, hR⟩ e1
      generalize upd H r (.lst [.ref sc, .int (i + 1), .int z, .int b]) = H1 at *
      refine ⟨_, rfl, r, _, _, _, rfl, rfl, SqL.of hR1, (show atI _ 1 = some (.int (i + 1)) from rfl), _, rfl, r, _, _, _, rfl, rfl, SqL.of hR1, (show atI _ 0 = some (.ref sc) from rfl), sc, _, rfl, .inl hS1, _, _, rfl, rfl, _, rfl, ?_⟩
      refine ite2 (fun hl => ?_) (fun hl => ?_)
      · refine ⟨_, rfl, r, _, _, _, rfl, rfl, SqL.of hR1, (show atI _ 2 = some (.int z) from rfl), _, _, rfl, rfl, .inr ⟨by decide, by decide⟩, _, _, rfl, rfl, .inl ⟨_, rfl, _, _, rfl, rfl, (by show (0 : Int) < 2147483647; decide), _, rfl, r, _, _, 2, rfl, rfl, hR1, rfl, ?_⟩⟩
        refine ⟨_, rfl, r, _, _, _, rfl, rfl, SqL.of upd_same, rfl, _, _, rfl, rfl, ⟨by decide, by decide⟩, .inl ⟨_, rfl, _, rfl, _, _, rfl, rfl, hm0, ?_⟩⟩
        exact k _ _ (Int.emod_nonneg _ (by omega)) (Int.emod_lt_of_pos _ hm0) ⟨i + 1, _, b, by omega, upd_same⟩ fun q hq => (upd_ne hq).trans (e1 q hq)
      · have hl' : (i + 1 : Int) ≤ (ns.length : Int) := by
          have := of_decide_eq_false (Bool.eq_false_iff.mpr hl)
          rw [List.length_map] at this
          omega
        obtain ⟨c, hc⟩ : ∃ c, ns[i.toNat]? = some c := ⟨_, List.getElem?_eq_getElem (by omega)⟩
        have ha : atI (ns.map V.int) (i + 1 - 1) = some (.int c) := by
          rw [show (i + 1 - 1 : Int) = ((i.toNat : Nat) : Int) by omega]
          refine atI_nat ?_
          rw [List.getElem?_map, hc]
          rfl
        refine ⟨_, rfl, r, _, _, _, rfl, rfl, SqL.of hR1, (show atI _ 0 = some (.ref sc) from rfl), _, rfl, r, _, _, _, rfl, rfl, SqL.of hR1, (show atI _ 1 = some (.int (i + 1)) from rfl), _, _, rfl, rfl, sc, _, _, _, rfl, rfl, hS1, ha, ?_⟩
        refine ⟨_, rfl, r, _, _, _, rfl, rfl, SqL.of hR1, (show atI _ 2 = some (.int z) from rfl), _, _, rfl, rfl, .inr ⟨by decide, by decide⟩, _, rfl, _, _, rfl, rfl, _, _, rfl, rfl, .inl ⟨_, rfl, _, _, rfl, rfl, (by show (0 : Int) < 2147483647; decide), _, rfl, r, _, _, 2, rfl, rfl, hR1, rfl, ?_⟩⟩
        show tSeq _ _ _ _ (upd H1 r (.lst [.ref sc, .int (i + 1), .int _, .int b]))
        refine ⟨_, rfl, _, _, rfl, rfl, ⟨by decide, by decide, by decide⟩, _, _, rfl, rfl, _, rfl, ?_⟩
        refine ite2 (fun hc => ?_) (fun hc => ?_)
        · refine ⟨_, rfl, _, rfl, _, _, rfl, rfl, hmw _, _, rfl, r, _, _, 3, rfl, rfl, upd_same, rfl, ?_⟩
          refine ⟨_, rfl, .inl ⟨_, rfl, _, rfl, _, _, rfl, rfl, hm0, ?_⟩⟩
          exact k _ _ (Int.emod_nonneg _ (by omega)) (Int.emod_lt_of_pos _ hm0) ⟨i + 1, _, _, by omega, upd_same⟩ fun q hq => ((upd_ne hq).trans (upd_ne hq)).trans (e1 q hq)
        · refine ⟨_, rfl, .inl ⟨_, rfl, _, rfl, _, _, rfl, rfl, hm0, ?_⟩⟩
          exact k _ _ (Int.emod_nonneg _ (by omega)) (Int.emod_lt_of_pos _ hm0) ⟨i + 1, _, _, by omega, upd_same⟩ fun q hq => (upd_ne hq).trans (e1 q hq)
end
end LS
namespace LS
open PySem L2
abbrev sLaw : Stmt := top i_law
abbrev nLaw : List Str := ["_law_script", "_law_row", "_law_turn", "_law_pause", "_law_lock", "_law_times", "_law_k", "_law_again", "_law_by", "_law_end", "_law_due", "_law_count", "_law_first", "_law_many", "_law_time"]
def forBody : Stmt → List Stmt
  | .For _ _ b _ _ => b
  | _ => []
def stL (k : Nat) : Stmt := (defBody sLaw).getD k (.Pass ⟨0, 0, 0, 0⟩)
def sB (k : Nat) : Stmt := (forBody (stL 1)).getD k (.Pass ⟨0, 0, 0, 0⟩)
def sC (k : Nat) : Stmt := (forBody (sB 4)).getD k (.Pass ⟨0, 0, 0, 0⟩)
/-- the drawing row at r, the script at sc -/
def Drw (K : PySem.W.Frag) (H : Hp) (r sc : Addr) (ns : List Int) : Prop := SqL K H sc (ns.map V.int) ∧ RowIs H r sc
theorem row_same {H H' : Hp} {r sc : Addr} (h : RowIs H r sc) (e : Same H H') : RowIs H' r sc := by
  obtain ⟨i, s, b, h0, h⟩ := h
  exact ⟨i, s, b, h0, e _ _ h⟩
theorem Drw.same {K : PySem.W.Frag} {H H' : Hp} {r sc : Addr} {ns : List Int} (h : Drw K H r sc ns) (e : Same H H') : Drw K H' r sc ns := ⟨e.seq h.1, row_same h.2 e⟩
theorem tk_run {K : PySem.W.Frag} {H : Hp} {r sc : Addr} {ns : List Int} {many : Int} {Q : VK} {E : XK} (D : Drw K H r sc ns) (h0 : 0 < many) (h1 : many < 9223372036854775808)
    (k : ∀ (j : Int) H', 0 ≤ j → j < many → Drw K H' r sc ns → (∀ q, q ≠ r → H' q = H q) → Q (.int j) H') : spTaken K ([V.ref r, .int many] ++ []) H Q E :=
  ⟨r, sc, ns, many, rfl, h0, h1, D.1, D.2, fun j H' j0 j1 R B => k j H' j0 j1 ⟨seq_but D.1 D.2 B, R⟩ B⟩
theorem row_ne {H : Hp} {r sc p : Addr} {o : HO} (h : RowIs H r sc) (hp : H p = some o) (hn : ∀ xs, o ≠ .lst xs) : p ≠ r := fun e => by
  obtain ⟨i, s, b, _, h⟩ := h
  rw [e, h] at hp
  exact hn _ (Option.some.inj hp).symm
theorem LockAt.row {C : Addr} {H H' : Hp} {q r sc : Addr} {t p g : Int} (h : LockAt C H q t p g) (R : RowIs H r sc) (B : ∀ q, q ≠ r → H' q = H q) : LockAt C H' q t p g := by
  obtain ⟨dx, h⟩ := h
  exact ⟨dx, by rw [B q (row_ne R h fun _ z => nomatch z)]; exact h⟩
/-- what the law's body uses -/
structure LawT (P : Program) (w : World) (K : PySem.W.Frag) (mg : Str → Option Value) (base : Heap) (C : Addr) where
  T : LockK K mg C
  {fI : Addr}
  {fdI : FuncData}
  GI : FnOk P w K mg base CX0 2 fI fdI ["self", "tries", "pause", "growth"] (spLInit C)
  bI : Binds K fdI ["self", "tries", "pause", "growth"] []
  Mk : L2.Mk K C fI
  GP : GetK P w K mg base C "pause" (spGet C fun _ p _ => p)
  GT : GetK P w K mg base C "tries" (spGet C fun t _ _ => t)
  GG : GetK P w K mg base C "growth" (spGet C fun _ _ g => g)
  {fM : Addr}
  {fdM : FuncData}
  GM : FnOk P w K mg base CX0 4 fM fdM ["lock", "end"] (spMost C)
  gM : mg "most_refusals" = some (.ref fM)
  kM : PySem.W.keepIn K (.ref fM) = true
  bM : Binds K fdM ["lock", "end"] []
  {fL : Addr}
  {fdL : FuncData}
  GL : FnOk P w K mg base CX0 4 fL fdL ["lock", "count"] (spLeast C)
  gL : mg "least_time" = some (.ref fL)
  kL : PySem.W.keepIn K (.ref fL) = true
  bL : Binds K fdL ["lock", "count"] []
  {fTk : Addr}
  {fdTk : FuncData}
  GTk : FnOk P w K mg base CX0 1 fTk fdTk ["_law_row", "_law_many"] (spTaken K)
  gTk : mg "_law_taken" = some (.ref fTk)
  kTk : PySem.W.keepIn K (.ref fTk) = true
  bTk : Binds K fdTk ["_law_row", "_law_many"] []
  range : mg "range" = none
  len : mg "len" = none
  min : mg "min" = none
  max : mg "max" = none
def spLaw (K : PySem.W.Frag) : Sp := fun vs H Q _ => ∃ (a : Addr) (ns : List Int), vs = [.ref a] ∧ SqL K H a (ns.map V.int) ∧ ∀ H', Q (.bl true) H'
/-- the first n times -/
def tms (p g : Int) (n : Nat) : List V := (List.range n).map fun k => V.int (tm p g k)
theorem tms_succ (p g : Int) (n : Nat) : tms p g n ++ [V.int (tm p g n)] = tms p g (n + 1) := by
  unfold tms
  rw [List.range_succ, List.map_append]
  rfl
theorem tms_at {p g : Int} {n k : Nat} (h : k < n) : atI (tms p g n) ((k : Nat) : Int) = some (.int (tm p g k)) := by
  refine atI_nat ?_
  unfold tms
  rw [List.getElem?_map, List.getElem?_range h]
  rfl
theorem tms_last {p g : Int} {n : Nat} : atI (tms p g (n + 1)) (-1) = some (.int (tm p g n)) := by
  rw [← tms_succ]
  exact atI_last _ _
theorem tms_len {p g : Int} {n : Nat} : (tms p g n).length = n := by
  unfold tms
  rw [List.length_map, List.length_range]
/-- a new list is not the script -/
def Far (K : PySem.W.Frag) (l sc : Addr) (xs : List V) : Prop := l ≠ sc ∨ ∀ H, SqL K H sc xs
theorem far_of {K : PySem.W.Frag} {H : Hp} {l sc : Addr} {xs : List V} (h : SqL K H sc xs) (n : H l = none) : Far K l sc xs := by
  rcases h with (h | ⟨o, h⟩) | h
  · exact .inl fun e => by rw [e, h] at n; cases n
  · exact .inl fun e => by rw [e, h] at n; cases n
  · exact .inr fun _ => .inr h
theorem far_upd {K : PySem.W.Frag} {H : Hp} {l sc : Addr} {xs : List V} {o : HO} (F : Far K l sc xs) (h : SqL K H sc xs) : SqL K (upd H l o) sc xs := by
  rcases F with ne | F
  · rcases h with (h | ⟨z, h⟩) | h
    · exact .inl (.inl (by rw [upd_ne (Ne.symm ne)]; exact h))
    · exact .inl (.inr ⟨z, by rw [upd_ne (Ne.symm ne)]; exact h⟩)
    · exact .inr h
  · exact F _
/-- what stands while one lock is looked at -/
structure HL (K : PySem.W.Frag) (C : Addr) (H : Hp) (r sc : Addr) (ns : List Int) (q l : Addr) (t p g : Int) (n : Nat) : Prop where
  d : Drw K H r sc ns
  lk : LockAt C H q t p g
  ts : H l = some (.lst (tms p g n))
  ne : l ≠ r
  far : Far K l sc (ns.map V.int)
theorem HL.same {K : PySem.W.Frag} {C : Addr} {H H' : Hp} {r sc : Addr} {ns : List Int} {q l : Addr} {t p g : Int} {n : Nat} (h : HL K C H r sc ns q l t p g n) (e : Same H H') : HL K C H' r sc ns q l t p g n :=
  ⟨h.d.same e, h.lk.same e, e _ _ h.ts, h.ne, h.far⟩
theorem HL.row {K : PySem.W.Frag} {C : Addr} {H H' : Hp} {r sc : Addr} {ns : List Int} {q l : Addr} {t p g : Int} {n : Nat} (h : HL K C H r sc ns q l t p g n) (d : Drw K H' r sc ns) (B : ∀ q, q ≠ r → H' q = H q) : HL K C H' r sc ns q l t p g n :=
  ⟨d, h.lk.row h.d.2 B, by rw [B l h.ne]; exact h.ts, h.ne, h.far⟩
section
variable {P : Program} {w : World} {K : PySem.W.Frag} {mg : Str → Option Value} {base : Heap} {C f : Addr} {cdv : Value} {A : Around} {outer : List Env} {s : Shared} {HX : Hp} {EX : XK}
theorem scLaw : FnScope nLaw ["_law_script"] (defScope sLaw) := ⟨rfl, rfl, rfl, by decide +kernel, rfl, by decide +kernel, by decide +kernel⟩
abbrev cxL (P : Program) (w : World) (K : PySem.W.Frag) (mg : Str → Option Value) (base : Heap) (f : Addr) (cdv : Value) (A : Around) (outer : List Env) (s : Shared) (HX : Hp) (EX : XK) : Cx := (cxOf CX0 P w K mg base nLaw "law" (defScope sLaw) f cdv A outer s HX EX).nox
theorem grpA (T : LawT P w K mg base C) (hr : Room 4 (cxL P w K mg base f cdv A outer s HX EX).A) {rest : List Stmt} {u : TS} (hu : PSs (cxL P w K mg base f cdv A outer s HX EX) rest u) :
    ∃ t, PSs (cxL P w K mg base f cdv A outer s HX EX) (sB 0 :: sB 1 :: sB 2 :: rest) t ∧ ∀ (D : Ends) (H : Hp) (r sc : Addr) (ns : List Int) (a2 a3 a4 a5 a6 a7 a8 a9 a10 a11 a12 a13 a14 : Option V), Drw K H r sc ns →
      (∀ (t p g : Int) (q l : Addr) (H' : Hp), HL K C H' r sc ns q l t p g 1 → Lk t p g → u D [some (.ref sc), some (.ref r), a2, some (.int p), some (.ref q), some (.ref l), a6, a7, a8, a9, a10, a11, a12, a13, a14] H') →
      t D [some (.ref sc), some (.ref r), a2, a3, a4, a5, a6, a7, a8, a9, a10, a11, a12, a13, a14] H := by
  refine ⟨_, pss_cons (ps_set (i := 3) scLaw.nd rfl (.inl rfl) (pe_op op_add pe_int (pe_call T.GTk (hr.mono (by decide)) (by rfl) T.gTk T.kTk T.bTk .nil pass0 (pa_cons (pv 1) (pa_cons (pe_ix ix_list (pe_lst (pa_cons pe_int (pa_cons pe_int (pa_cons pe_int pa_nil)))) (pe_call T.GTk (hr.mono (by decide)) (by rfl) T.gTk T.kTk T.bTk .nil pass0 (pa_cons (pv 1) (pa_cons pe_int pa_nil))) (fun _ _ => rfl)) pa_nil)))))
    (pss_cons (ps_set (i := 4) scLaw.nd rfl (.inl rfl) (pe_make T.Mk T.GI (hr.mono (by decide)) (by rfl) T.T.g T.bI .nil pass0 (pa_cons (pe_op op_add pe_int (pe_call T.GTk (hr.mono (by decide)) (by rfl) T.gTk T.kTk T.bTk .nil pass0 (pa_cons (pv 1) (pa_cons pe_int pa_nil)))) (pa_cons (pv 3) (pa_cons (pe_op op_add pe_int (pe_call T.GTk (hr.mono (by decide)) (by rfl) T.gTk T.kTk T.bTk .nil pass0 (pa_cons (pv 1) (pa_cons pe_int pa_nil)))) pa_nil)))))
    (pss_cons (ps_set (i := 5) scLaw.nd rfl (.inl rfl) (pe_lst (pa_cons pe_int pa_nil))) hu)), ?_⟩
  intro D H r sc ns a2 a3 a4 a5 a6 a7 a8 a9 a10 a11 a12 a13 a14 d k
  refine ⟨_, rfl, by show 3 ≤ sizeLine; decide, fun l0 n0 => ?_⟩
  have S0 : Same H (upd H l0 (.lst [.int 3, .int 30, .int 1000])) := same_upd n0 (Same.refl H)
  have l0r : l0 ≠ r := fun e => by
    obtain ⟨i, z, b, _, h⟩ := d.2
    rw [e, h] at n0
    cases n0
  have d0 := d.same S0
  have hl0 : upd H l0 (.lst [.int 3, .int 30, .int 1000]) l0 = some (.lst [.int 3, .int 30, .int 1000]) := upd_same
  generalize upd H l0 (.lst [.int 3, .int 30, .int 1000]) = H0 at *
  refine ⟨_, rfl, r, sc, ns, _, rfl, (by decide), (by decide), d0.1, d0.2, fun j H1 j0 j1 Rd1 B1 => ?_⟩
  have d1 : Drw K H1 r sc ns := ⟨seq_but d0.1 d0.2 B1, Rd1⟩
  have hl1 : H1 l0 = some (.lst [.int 3, .int 30, .int 1000]) := by rw [B1 l0 l0r]; exact hl0
  obtain ⟨mx, hx, hx1, hx2⟩ : ∃ mx : Int, atI [V.int 3, .int 30, .int 1000] j = some (.int mx) ∧ 1 ≤ mx ∧ mx ≤ 1000 := by
    obtain ⟨k, rfl⟩ : ∃ k : Nat, j = (k : Nat) := ⟨j.toNat, by omega⟩
    have : k = 0 ∨ k = 1 ∨ k = 2 := by omega
    rcases this with rfl | rfl | rfl
    · exact ⟨3, rfl, by decide, by decide⟩
    · exact ⟨30, rfl, by decide, by decide⟩
    · exact ⟨1000, rfl, by decide, by decide⟩
  refine ⟨l0, _, _, _, rfl, rfl, SqL.of hl1, hx, r, sc, ns, _, rfl, (by omega), (by omega), d1.1, d1.2, fun j2 H2 j20 j21 Rd2 B2 => ?_⟩
  have d2 : Drw K H2 r sc ns := ⟨seq_but d1.1 d1.2 B2, Rd2⟩
  refine ⟨_, _, rfl, rfl, ?_⟩
  refine ⟨_, rfl, r, sc, ns, _, rfl, (by decide), (by decide), d2.1, d2.2, fun j3 H3 j30 j31 Rd3 B3 => ?_⟩
  have d3 : Drw K H3 r sc ns := ⟨seq_but d2.1 d2.2 B3, Rd3⟩
  refine ⟨_, _, rfl, rfl, _, rfl, _, rfl, r, sc, ns, _, rfl, (by decide), (by decide), d3.1, d3.2, fun j4 H4 j40 j41 Rd4 B4 => ?_⟩
  have d4 : Drw K H4 r sc ns := ⟨seq_but d3.1 d3.2 B4, Rd4⟩
  refine ⟨_, _, rfl, rfl, fun x dx nx nd hne => ?_⟩
  have S5 : Same H4 (upd (upd H4 dx (.own x)) x (.ins C dx [])) := same_upd nx (same_upd nd (Same.refl H4))
  have L : Lk (1 + j3) (1 + j2) (1 + j4) := ⟨by omega, by omega, by omega, by omega, by omega, by omega⟩
  refine ⟨x, dx, _, _, _, rfl, L, upd_same, fun H5 B5 lk => ⟨rfl, ?_⟩⟩
  have S6 : Same H4 H5 := fun b o h => by
    rw [B5 b (ne_of_none h nx)]
    exact S5 b o h
  have d5 := d4.same S6
  refine ⟨by show 1 ≤ sizeLine; decide, fun l nl => ?_⟩
  have S7 : Same H5 (upd H5 l (.lst [.int 0])) := same_upd nl (Same.refl H5)
  have lr : l ≠ r := fun e => by
    obtain ⟨i, z, b, _, h⟩ := d5.2
    rw [e, h] at nl
    cases nl
  exact k _ _ _ x l _ ⟨d5.same S7, lk.same S7, upd_same, lr, far_of d5.1 nl⟩ L
end
end LS
namespace LS
open PySem L2
section
variable {P : Program} {w : World} {K : PySem.W.Frag} {mg : Str → Option Value} {base : Heap} {C f : Addr} {cdv : Value} {A : Around} {outer : List Env} {s : Shared} {HX : Hp} {EX : XK}
theorem grpB (T : LawT P w K mg base C) (hr : Room 4 (cxL P w K mg base f cdv A outer s HX EX).A) {rest : List Stmt} {u : TS} (hu : PSs (cxL P w K mg base f cdv A outer s HX EX) rest u) :
    ∃ t, PSs (cxL P w K mg base f cdv A outer s HX EX) (sB 3 :: rest) t ∧ ∀ (D : Ends) (H : Hp) (r sc : Addr) (ns : List Int) (t0 p g : Int) (q l : Addr) (a2 a6 a7 a8 a9 a10 a11 a12 a13 a14 : Option V), HL K C H r sc ns q l t0 p g 1 → Lk t0 p g →
      (∀ (b3 b6 : Option V) (H' : Hp), HL K C H' r sc ns q l t0 p g 26 → u D [some (.ref sc), some (.ref r), a2, b3, some (.ref q), some (.ref l), b6, a7, a8, a9, a10, a11, a12, a13, a14] H') →
      t D [some (.ref sc), some (.ref r), a2, some (.int p), some (.ref q), some (.ref l), a6, a7, a8, a9, a10, a11, a12, a13, a14] H := by
  refine ⟨_, pss_cons (ps_for PassesOwn.never rfl (pi_range1 (by rfl) T.range (pa_cons pe_int pa_nil)) (pg_name (i := 6) scLaw.nd rfl (Or.inl rfl))
    (pss_cons (ps_expr (pe_bm PySem.F.plainAttrs_list PySem.F.slot_list_append PySem.F.type_list_append mt_append (pv 5) (pa_cons (pe_op op_add (pe_ix ix_list (pv 5) (pe_un un_neg pe_int) (fun _ _ => rfl)) (pv 3)) pa_nil)))
      (pss_one (ps_set (i := 3) scLaw.nd rfl (.inl rfl) (pe_callB (call_min2 rfl) (by rfl) T.min (by decide +kernel) (pa_cons (pe_op op_pow pe_int pe_int) (pa_cons (pe_op op_mul (pv 3) (pe_prop (pv 4) T.T.cl T.GG.pr T.GG.G (hr.mono (by decide)) T.GG.b .nil pass0 rfl)) pa_nil))))))) hu, ?_⟩
  intro D H r sc ns t0 p g q l a2 a6 a7 a8 a9 a10 a11 a12 a13 a14 h L k
  refine ⟨25, rfl, by decide, by decide, ?_⟩
  refine for_it walk_range (fun i σ H' => HL K C H' r sc ns q l t0 p g (i + 1) ∧ ∃ b6, σ = [some (.ref sc), some (.ref r), a2, some (.int (pz p g i)), some (.ref q), some (.ref l), b6, a7, a8, a9, a10, a11, a12, a13, a14]) ⟨h, _, rfl⟩ (fun _ _ _ _ _ => True.intro) ?_ ?_
  · rintro i v σ H2 H3 hi ⟨h2, b6, rfl⟩ ⟨rfl, rfl⟩
    refine ⟨_, rfl, .inl ⟨rfl, _, Or.inl (Or.inl h2.ts)⟩, _, rfl, _, rfl, l, _, _, _, rfl, rfl, SqL.of h2.ts, tms_last, _, rfl, _, _, rfl, rfl, l, _, _, rfl, rfl, h2.ts, ?_, ?_⟩
    · rw [tms_len]
      have := sizeLine_eq
      have hi' : i < 25 := hi
      omega
    have lq : l ≠ q := fun e => by
      obtain ⟨dx, hq⟩ := h2.lk
      rw [← e, h2.ts] at hq
      cases hq
    have hts : upd H3 l (.lst (tms p g (i + 1) ++ [V.int (tm p g i + pz p g i)])) l = some (.lst (tms p g (i + 1 + 1))) := by
      rw [upd_same]
      exact congrArg (fun x => some (HO.lst x)) (tms_succ p g (i + 1))
    have hd : Drw K (upd H3 l (.lst (tms p g (i + 1) ++ [V.int (tm p g i + pz p g i)]))) r sc ns := by
      refine ⟨far_upd h2.far h2.d.1, ?_⟩
      obtain ⟨j, z, b, j0, hR⟩ := h2.d.2
      exact ⟨j, z, b, j0, by rw [upd_ne (Ne.symm h2.ne)]; exact hR⟩
    have hlk : LockAt C (upd H3 l (.lst (tms p g (i + 1) ++ [V.int (tm p g i + pz p g i)]))) q t0 p g := by
      obtain ⟨dx, hq⟩ := h2.lk
      exact ⟨dx, by rw [upd_ne (Ne.symm lq)]; exact hq⟩
    obtain ⟨dx, hq⟩ := id hlk
    have pin := pz_in L i
    refine ⟨_, _, rfl, rfl, ⟨by decide, by decide, by decide⟩, _, rfl, _, rfl, q, dx, _, rfl, hq, q, t0, p, g, rfl, hlk, _, _, rfl, rfl, .inl ⟨by omega, by omega⟩, _, _, rfl, ?_⟩
    exact ⟨⟨hd, hlk, hts, h2.ne, h2.far⟩, _, rfl⟩
  · rintro σ H2 ⟨h2, b6, rfl⟩
    exact k _ _ H2 h2
end
end LS
set_option maxHeartbeats 8000000
namespace LS
open PySem L2
section
variable {P : Program} {w : World} {K : PySem.W.Frag} {mg : Str → Option Value} {base : Heap} {C f : Addr} {cdv : Value} {A : Around} {outer : List Env} {s : Shared} {HX : Hp} {EX : XK}
/-- where the comprehension stands behind i times -/
def someT (p g e : Int) (i : Nat) : List V := ((List.range i).filter fun k => decide (tm p g k ≤ e)).map fun k => V.int (tm p g k)
theorem someT_yes {p g e : Int} {i : Nat} (h : tm p g i ≤ e) : someT p g e i ++ [V.int (tm p g i)] = someT p g e (i + 1) := by
  unfold someT
  rw [List.range_succ, List.filter_append, List.filter_cons_of_pos (by simpa using h), List.map_append]
  rfl
theorem someT_no {p g e : Int} {i : Nat} (h : ¬ tm p g i ≤ e) : someT p g e i = someT p g e (i + 1) := by
  unfold someT
  rw [List.range_succ, List.filter_append, List.filter_cons_of_neg (by simpa using h), List.filter_nil, List.append_nil]
theorem someT_len (p g e : Int) (i : Nat) : (someT p g e i).length ≤ i := by
  unfold someT
  rw [List.length_map]
  have := List.length_filter_le (fun k => decide (tm p g k ≤ e)) (List.range i)
  rw [List.length_range] at this
  exact this
theorem grpC (T : LawT P w K mg base C) (hr : Room 4 (cxL P w K mg base f cdv A outer s HX EX).A) {rest : List Stmt} {u : TS} (hu : PSs (cxL P w K mg base f cdv A outer s HX EX) rest u) :
    ∃ t, PSs (cxL P w K mg base f cdv A outer s HX EX) (sC 0 :: sC 1 :: rest) t ∧ ∀ (D : Ends) (H : Hp) (r sc : Addr) (ns : List Int) (t0 p g : Int) (q l : Addr) (a2 a3 a6 a7 a8 a9 a10 a11 a12 a13 a14 : Option V), HL K C H r sc ns q l t0 p g 26 → Lk t0 p g →
      (∀ (e : Int) (b6 b8 : Option V) (H' : Hp), 0 ≤ e → e ≤ 1000000000000000 → HL K C H' r sc ns q l t0 p g 26 → u D [some (.ref sc), some (.ref r), a2, a3, some (.ref q), some (.ref l), b6, a7, b8, some (.int e), a10, a11, a12, a13, a14] H') →
      t D [some (.ref sc), some (.ref r), a2, a3, some (.ref q), some (.ref l), a6, a7, a8, a9, a10, a11, a12, a13, a14] H := by
  refine ⟨_, pss_cons (ps_par (i := 6) (j := 8) (by rfl) scLaw.nd rfl rfl (by decide) rfl rfl (pa_cons (pe_call T.GTk (hr.mono (by decide)) (by rfl) T.gTk T.kTk T.bTk .nil pass0 (pa_cons (pv 1) (pa_cons pe_int pa_nil))) (pa_cons (pe_op op_sub (pe_call T.GTk (hr.mono (by decide)) (by rfl) T.gTk T.kTk T.bTk .nil pass0 (pa_cons (pv 1) (pa_cons pe_int pa_nil))) pe_int) pa_nil)) (by rfl))
    (pss_cons (ps_set (i := 9) scLaw.nd rfl (.inr rfl) (pe_callB (call_max2 rfl) (by rfl) T.max (by decide +kernel) (pa_cons pe_int (pa_cons (pe_op op_add (pe_ix ix_list (pv 5) (pv 6) (fun _ _ => rfl)) (pv 8)) pa_nil)))) hu), ?_⟩
  intro D H r sc ns t0 p g q l a2 a3 a6 a7 a8 a9 a10 a11 a12 a13 a14 h L k
  refine ⟨_, rfl, r, sc, ns, _, rfl, (by decide), (by decide), h.d.1, h.d.2, fun j1 H1 j10 j11 R1 B1 => ?_⟩
  have h1 : HL K C H1 r sc ns q l t0 p g 26 := h.row ⟨seq_but h.d.1 h.d.2 B1, R1⟩ B1
  refine ⟨_, rfl, r, sc, ns, _, rfl, (by decide), (by decide), h1.d.1, h1.d.2, fun j2 H2 j20 j21 R2 B2 => ?_⟩
  have h2 : HL K C H2 r sc ns q l t0 p g 26 := h1.row ⟨seq_but h1.d.1 h1.d.2 B2, R2⟩ B2
  obtain ⟨n, rfl⟩ : ∃ n : Nat, j1 = (n : Nat) := ⟨j1.toNat, by omega⟩
  refine ⟨_, _, rfl, rfl, _, _, rfl, ?_⟩
  refine ⟨_, rfl, _, rfl, l, _, _, _, rfl, rfl, SqL.of h2.ts, tms_at (k := n) (by omega), _, rfl, _, _, rfl, rfl, _, _, rfl, ?_⟩
  have h3 := tm_up L n
  refine k _ _ _ H2 ?_ ?_ h2
  · show 0 ≤ (if tm p g n + (j2 - 1) > 0 then tm p g n + (j2 - 1) else 0)
    split <;> omega
  · show (if tm p g n + (j2 - 1) > 0 then tm p g n + (j2 - 1) else 0) ≤ _
    split <;> omega
theorem grpC2 (T : LawT P w K mg base C) (hr : Room 4 (cxL P w K mg base f cdv A outer s HX EX).A) {rest : List Stmt} {u : TS} (hu : PSs (cxL P w K mg base f cdv A outer s HX EX) rest u) :
    ∃ t, PSs (cxL P w K mg base f cdv A outer s HX EX) (sC 2 :: sC 3 :: rest) t ∧ ∀ (D : Ends) (H : Hp) (r sc : Addr) (ns : List Int) (t0 p g : Int) (q l : Addr) (a2 a3 a6 a7 a8 a10 a11 a12 a13 a14 : Option V) (e : Int), HL K C H r sc ns q l t0 p g 26 → Lk t0 p g → 0 ≤ e → e ≤ 1000000000000000 →
      (∀ (b10 : Option V) (H' : Hp), HL K C H' r sc ns q l t0 p g 26 → u D [some (.ref sc), some (.ref r), a2, a3, some (.ref q), some (.ref l), a6, a7, a8, some (.int e), b10, a11, a12, a13, a14] H') →
      t D [some (.ref sc), some (.ref r), a2, a3, some (.ref q), some (.ref l), a6, a7, a8, some (.int e), a10, a11, a12, a13, a14] H := by
  refine ⟨_, pss_cons (ps_set (i := 10) scLaw.nd rfl (.inl rfl) (pe_op op_mul (pe_prop (pv 4) T.T.cl T.GT.pr T.GT.G (hr.mono (by decide)) T.GT.b .nil pass0 rfl) (pe_callB call_len_seq (by rfl) T.len PySem.boot_len (pa_cons
      (pe_lc (own := [("_law_time", 14)]) (g := gName 14) (by rfl) scLaw.nd (pi_list (pv 5)) (blkOk_by (own := [("_law_time", 14)]) (N := nLaw) (sc := defScope sLaw) (by decide +kernel))
        (fun _ _ _ _ _ => pg_name (i := 14) scLaw.nd rfl (Or.inl rfl)) (fun _ _ _ _ _ => pts_one (pt_cmpR op_le (pv 14) (pv 9) (nomark _))) (fun _ _ _ _ _ => pv 14)) pa_nil))))
    (pss_cons (ps_if (PW.pt (pw_and (pt_cmpR op_lt (pv 9) (pe_ix ix_list (pv 5) pe_int (fun _ _ => rfl)) (nomark _)) (pw_and1 (pt_cmpR op_ne (pe_call T.GM hr (by rfl) T.gM T.kM T.bM .nil pass0 (pa_cons (pv 4) (pa_cons (pv 9) pa_nil))) (pv 10) (nomark _))))) pss_false pss_nil) hu), ?_⟩
  intro D H r sc ns t0 p g q l a2 a3 a6 a7 a8 a10 a11 a12 a13 a14 e h L he0 he1 k
  obtain ⟨dx, hq⟩ := id h.lk
  refine ⟨_, rfl, q, dx, _, rfl, hq, q, t0, p, g, rfl, h.lk, _, rfl, l, rfl, ⟨_, SqL.of h.ts⟩, fun D0 hD => ?_⟩
  refine lc_list (xs := tms p g 26) (fun i H' => Same H H' ∧ H' D0 = some (.lst (someT p g e i))) ⟨same_upd hD (Same.refl H), upd_same⟩ (fun i H' _ z => SqL.of (z.1 _ _ h.ts)) ?_ ?_
  · rintro i x H2 hx ⟨S2, hL⟩
    have hi : i < 26 := by
      have := (List.getElem?_eq_some_iff.mp hx).1
      rwa [tms_len] at this
    have ex : x = .int (tm p g i) := by
      have q1 : (tms p g 26)[i]? = some (.int (tm p g i)) := by
        unfold tms
        rw [List.getElem?_map, List.getElem?_range hi]
        rfl
      rw [q1] at hx
      exact (Option.some.inj hx).symm
    subst ex
    refine ⟨rfl, _, rfl, _, rfl, _, _, rfl, rfl, _, rfl, ?_⟩
    refine ite2 (fun h1 => ?_) (fun h1 => ?_)
    · refine ⟨_, rfl, _, hL, ?_, same_upd hD S2, ?_⟩
      · have := someT_len p g e i
        have := sizeLine_eq
        omega
      · rw [upd_same, someT_yes (of_decide_eq_true h1)]
    · refine ⟨S2, ?_⟩
      rw [hL, someT_no (fun z => h1 (decide_eq_true z))]
  · rintro H2 ⟨S2, hL⟩
    rw [tms_len] at hL
    have h2 := h.same S2
    refine ⟨D0, _, rfl, .inl (SqL.of hL), _, _, rfl, rfl, .inl ⟨?_, ?_⟩, ?_⟩
    · have := L.t1
      show -(2 ^ 64) < t0
      omega
    · have := L.t9
      show t0 < 2 ^ 64
      omega
    refine ⟨_, rfl, _, rfl, l, _, _, _, rfl, rfl, SqL.of h2.ts, tms_at (k := 25) (by decide), _, _, rfl, rfl, _, rfl, ?_⟩
    refine ite2 (fun h3 => ?_) (fun h3 => ?_)
    · have h3' : e < tm p g 25 := of_decide_eq_true h3
      refine ⟨_, rfl, _, rfl, q, t0, p, g, e, rfl, h2.lk, L, he0, he1, fun N H3 S3 R => ?_⟩
      have hN : V.int ((N : Nat) * t0) = V.int (t0 * ((someT p g e 26).length : Nat)) := by
        unfold someT
        rw [List.length_map, rounds_count L R h3', Int.mul_comm]
      refine ⟨_, rfl, rfl, _, rfl, ?_⟩
      rw [hN, decide_eq_true rfl]
      refine iteF ?_
      exact k _ H3 (h2.same S3)
    · exact k _ H2 h2
end
end LS
namespace LS
open PySem L2
section
variable {P : Program} {w : World} {K : PySem.W.Frag} {mg : Str → Option Value} {base : Heap} {C f : Addr} {cdv : Value} {A : Around} {outer : List Env} {s : Shared} {HX : Hp} {EX : XK}
theorem grpC3 (T : LawT P w K mg base C) (hr : Room 4 (cxL P w K mg base f cdv A outer s HX EX).A) {rest : List Stmt} {u : TS} (hu : PSs (cxL P w K mg base f cdv A outer s HX EX) rest u) :
    ∃ t, PSs (cxL P w K mg base f cdv A outer s HX EX) (sC 4 :: sC 5 :: rest) t ∧ ∀ (D : Ends) (H : Hp) (r sc : Addr) (ns : List Int) (t0 p g : Int) (q l : Addr) (a2 a3 a6 a7 a8 a9 a10 a11 a12 a13 a14 : Option V), HL K C H r sc ns q l t0 p g 26 → Lk t0 p g →
      (∀ (b11 : Option V) (H' : Hp), HL K C H' r sc ns q l t0 p g 26 → u D [some (.ref sc), some (.ref r), a2, a3, some (.ref q), some (.ref l), a6, a7, a8, a9, a10, b11, a12, a13, a14] H') →
      t D [some (.ref sc), some (.ref r), a2, a3, some (.ref q), some (.ref l), a6, a7, a8, a9, a10, a11, a12, a13, a14] H := by
  refine ⟨_, pss_cons (ps_set (i := 11) scLaw.nd rfl (.inl rfl) (pe_op op_add pe_int (pe_call T.GTk (hr.mono (by decide)) (by rfl) T.gTk T.kTk T.bTk .nil pass0 (pa_cons (pv 1) (pa_cons (pe_op op_mul (pe_prop (pv 4) T.T.cl T.GT.pr T.GT.G (hr.mono (by decide)) T.GT.b .nil pass0 rfl) pe_int) pa_nil)))))
    (pss_cons (ps_if (pt_cmpR op_ne (pe_call T.GL hr (by rfl) T.gL T.kL T.bL .nil pass0 (pa_cons (pv 4) (pa_cons (pv 11) pa_nil))) (pe_ix ix_list (pv 5) (pe_op op_fdiv (pe_op op_sub (pv 11) pe_int) (pe_prop (pv 4) T.T.cl T.GT.pr T.GT.G (hr.mono (by decide)) T.GT.b .nil pass0 rfl)) (fun _ _ => rfl)) (nomark _)) pss_false pss_nil) hu), ?_⟩
  intro D H r sc ns t0 p g q l a2 a3 a6 a7 a8 a9 a10 a11 a12 a13 a14 h L k
  obtain ⟨dx, hq⟩ := id h.lk
  have lt1 := L.t1
  have lt9 := L.t9
  refine ⟨_, rfl, _, rfl, q, dx, _, rfl, hq, q, t0, p, g, rfl, h.lk, _, _, rfl, rfl, .inr ⟨by decide, by decide⟩, r, sc, ns, _, rfl, (by show 0 < t0 * 25; omega), (by show t0 * 25 < 9223372036854775808; omega), h.d.1, h.d.2, fun j1 H1 j10 j11 R1 B1 => ?_⟩
  have h1 : HL K C H1 r sc ns q l t0 p g 26 := h.row ⟨seq_but h.d.1 h.d.2 B1, R1⟩ B1
  have j11' : j1 < t0 * 25 := j11
  refine ⟨_, _, rfl, rfl, ?_⟩
  refine ⟨_, rfl, _, rfl, q, t0, p, g, 1 + j1, rfl, h1.lk, L, by omega, by omega, fun H2 S2 => ?_⟩
  have h2 := h1.same S2
  obtain ⟨dx2, hq2⟩ := id h2.lk
  have hm0 : 0 ≤ (1 + j1 - 1) / t0 := Int.ediv_nonneg (by omega) (by omega)
  have hm1 : (1 + j1 - 1) / t0 < 25 := Int.ediv_lt_of_lt_mul (by omega) (by omega)
  have hm : atI (tms p g 26) ((1 + j1 - 1) / t0) = some (.int (tm p g ((1 + j1 - 1) / t0).toNat)) := by
    have q1 := tms_at (p := p) (g := g) (n := 26) (k := ((1 + j1 - 1) / t0).toNat) (by omega)
    rw [Int.toNat_of_nonneg hm0] at q1
    exact q1
  refine ⟨_, rfl, _, rfl, _, _, rfl, rfl, _, rfl, q, dx2, _, rfl, hq2, q, t0, p, g, rfl, h2.lk, _, _, rfl, rfl, ⟨by show 0 < t0; omega, by show t0 < 1073741824; omega⟩, l, _, _, _, rfl, rfl, SqL.of h2.ts, hm, rfl, _, rfl, ?_⟩
  rw [decide_eq_true rfl]
  refine iteF ?_
  exact k _ H2 h2
theorem grpCL (T : LawT P w K mg base C) (hr : Room 4 (cxL P w K mg base f cdv A outer s HX EX).A) {rest : List Stmt} {u : TS} (hu : PSs (cxL P w K mg base f cdv A outer s HX EX) rest u) :
    ∃ t, PSs (cxL P w K mg base f cdv A outer s HX EX) (sB 4 :: rest) t ∧ ∀ (D : Ends) (H : Hp) (r sc : Addr) (ns : List Int) (t0 p g : Int) (q l : Addr) (a2 a3 a6 a7 a8 a9 a10 a11 a12 a13 a14 : Option V), HL K C H r sc ns q l t0 p g 26 → Lk t0 p g →
      (∀ (b6 b7 b8 b9 b10 b11 : Option V) (H' : Hp), HL K C H' r sc ns q l t0 p g 26 → u D [some (.ref sc), some (.ref r), a2, a3, some (.ref q), some (.ref l), b6, b7, b8, b9, b10, b11, a12, a13, a14] H') →
      t D [some (.ref sc), some (.ref r), a2, a3, some (.ref q), some (.ref l), a6, a7, a8, a9, a10, a11, a12, a13, a14] H := by
  obtain ⟨t3, p3, q3⟩ := grpC3 (f := f) (cdv := cdv) (outer := outer) (s := s) (HX := HX) (EX := EX) T hr pss_nil
  obtain ⟨t2, p2, q2⟩ := grpC2 T hr p3
  obtain ⟨t1, p1, q1⟩ := grpC T hr p2
  refine ⟨_, pss_cons (ps_for PassesOwn.never rfl (pi_range1 (by rfl) T.range (pa_cons pe_int pa_nil)) (pg_name (i := 7) scLaw.nd rfl (Or.inl rfl)) p1) hu, ?_⟩
  intro D H r sc ns t0 p g q l a2 a3 a6 a7 a8 a9 a10 a11 a12 a13 a14 h L k
  refine ⟨4, rfl, by decide, by decide, ?_⟩
  refine for_it walk_range (fun i σ H' => HL K C H' r sc ns q l t0 p g 26 ∧ ∃ b6 b7 b8 b9 b10 b11, σ = [some (.ref sc), some (.ref r), a2, a3, some (.ref q), some (.ref l), b6, b7, b8, b9, b10, b11, a12, a13, a14]) ⟨h, _, _, _, _, _, _, rfl⟩ (fun _ _ _ _ _ => True.intro) ?_ ?_
  · rintro i v σ H2 H3 hi ⟨h2, b6, b7, b8, b9, b10, b11, rfl⟩ ⟨rfl, rfl⟩
    refine q1 _ H3 r sc ns t0 p g q l a2 a3 b6 _ b8 b9 b10 b11 a12 a13 a14 h2 L fun e c6 c8 H4 e0 e1 h4 => ?_
    refine q2 _ H4 r sc ns t0 p g q l a2 a3 c6 _ c8 b10 b11 a12 a13 a14 e h4 L e0 e1 fun c10 H5 h5 => ?_
    refine q3 _ H5 r sc ns t0 p g q l a2 a3 c6 _ c8 _ c10 b11 a12 a13 a14 h5 L fun c11 H6 h6 => ?_
    exact ⟨h6, _, _, _, _, _, _, rfl⟩
  · rintro σ H2 ⟨h2, b6, b7, b8, b9, b10, b11, rfl⟩
    exact k _ _ _ _ _ _ H2 h2
end
end LS
namespace LS
open PySem L2
section
variable {P : Program} {w : World} {K : PySem.W.Frag} {mg : Str → Option Value} {base : Heap} {C f : Addr} {cdv : Value} {A : Around} {outer : List Env} {s : Shared} {HX : Hp} {EX : XK}
theorem pow9 : (10 : Int) ^ (9 : Int).toNat = 1000000000 := by decide
theorem pow15 : (10 : Int) ^ (15 : Int).toNat = 1000000000000000 := by decide
theorem grpD1 (T : LawT P w K mg base C) (hr : Room 4 (cxL P w K mg base f cdv A outer s HX EX).A) {rest : List Stmt} {u : TS} (hu : PSs (cxL P w K mg base f cdv A outer s HX EX) rest u) :
    ∃ t, PSs (cxL P w K mg base f cdv A outer s HX EX) (sB 5 :: sB 6 :: rest) t ∧ ∀ (D : Ends) (H : Hp) (r sc : Addr) (ns : List Int) (t0 p g : Int) (q l : Addr) (a2 a3 a6 a7 a8 a9 a10 a11 a12 a13 a14 : Option V), HL K C H r sc ns q l t0 p g 26 → Lk t0 p g →
      (∀ (c : Int) (H' : Hp), 1 ≤ c → c ≤ 1000000000 → HL K C H' r sc ns q l t0 p g 26 → u D [some (.ref sc), some (.ref r), a2, a3, some (.ref q), some (.ref l), a6, a7, a8, a9, a10, some (.int c), some (.int (tm p g ((c - 1) / t0).toNat)), a13, a14] H') →
      t D [some (.ref sc), some (.ref r), a2, a3, some (.ref q), some (.ref l), a6, a7, a8, a9, a10, a11, a12, a13, a14] H := by
  refine ⟨_, pss_cons (ps_set (i := 11) scLaw.nd rfl (.inl rfl) (pe_op op_add pe_int (pe_call T.GTk (hr.mono (by decide)) (by rfl) T.gTk T.kTk T.bTk .nil pass0 (pa_cons (pv 1) (pa_cons (pe_op op_pow pe_int pe_int) pa_nil)))))
    (pss_cons (ps_set (i := 12) scLaw.nd rfl (.inl rfl) (pe_call T.GL hr (by rfl) T.gL T.kL T.bL .nil pass0 (pa_cons (pv 4) (pa_cons (pv 11) pa_nil)))) hu), ?_⟩
  intro D H r sc ns t0 p g q l a2 a3 a6 a7 a8 a9 a10 a11 a12 a13 a14 h L k
  refine ⟨_, rfl, _, _, rfl, rfl, ⟨by decide, by decide, by decide⟩, r, sc, ns, _, rfl, (by show (0 : Int) < 10 ^ (9 : Int).toNat; decide), (by show (10 : Int) ^ (9 : Int).toNat < 9223372036854775808; decide), h.d.1, h.d.2, fun j1 H1 j10 j11 R1 B1 => ?_⟩
  have h1 : HL K C H1 r sc ns q l t0 p g 26 := h.row ⟨seq_but h.d.1 h.d.2 B1, R1⟩ B1
  have j11' : j1 < 10 ^ (9 : Int).toNat := j11
  rw [pow9] at j11'
  refine ⟨_, _, rfl, rfl, ?_⟩
  refine ⟨_, rfl, _, rfl, q, t0, p, g, 1 + j1, rfl, h1.lk, L, by omega, by omega, fun H2 S2 => ?_⟩
  exact k (1 + j1) H2 (by omega) (by omega) (h1.same S2)
theorem grpD2 (T : LawT P w K mg base C) (hr : Room 4 (cxL P w K mg base f cdv A outer s HX EX).A) {rest : List Stmt} {u : TS} (hu : PSs (cxL P w K mg base f cdv A outer s HX EX) rest u) :
    ∃ t, PSs (cxL P w K mg base f cdv A outer s HX EX) (sB 7 :: rest) t ∧ ∀ (D : Ends) (H : Hp) (r sc : Addr) (ns : List Int) (t0 p g : Int) (q l : Addr) (a2 a3 a6 a7 a8 a9 a10 a11 a12 a13 a14 : Option V) (c : Int), 1 ≤ c → HL K C H r sc ns q l t0 p g 26 → Lk t0 p g →
      (∀ (H' : Hp), HL K C H' r sc ns q l t0 p g 26 → u D [some (.ref sc), some (.ref r), a2, a3, some (.ref q), some (.ref l), a6, a7, a8, a9, a10, some (.int c), some (.int (tm p g ((c - 1) / t0).toNat)), a13, a14] H') →
      t D [some (.ref sc), some (.ref r), a2, a3, some (.ref q), some (.ref l), a6, a7, a8, a9, a10, some (.int c), some (.int (tm p g ((c - 1) / t0).toNat)), a13, a14] H := by
  refine ⟨_, pss_cons (ps_if (PW.pt (pw_and (pt_cmpR op_le (pv 12) (pe_op op_pow pe_int pe_int) (nomark _)) (pw_and1 (pt_cmpR op_lt (pe_call T.GM hr (by rfl) T.gM T.kM T.bM .nil pass0 (pa_cons (pv 4) (pa_cons (pv 12) pa_nil))) (pv 11) (nomark _))))) pss_false pss_nil) hu, ?_⟩
  intro D H r sc ns t0 p g q l a2 a3 a6 a7 a8 a9 a10 a11 a12 a13 a14 c hc h L k
  have nn := tm_nn L ((c - 1) / t0).toNat
  refine ⟨_, rfl, _, _, rfl, rfl, ⟨by decide, by decide, by decide⟩, _, _, rfl, rfl, _, rfl, ?_⟩
  refine ite2 (fun h3 => ?_) (fun h3 => ?_)
  · have h3' : tm p g ((c - 1) / t0).toNat ≤ 10 ^ (15 : Int).toNat := of_decide_eq_true h3
    rw [pow15] at h3'
    refine ⟨_, rfl, _, rfl, q, t0, p, g, _, rfl, h.lk, L, nn, h3', fun N H3 S3 R => ?_⟩
    refine ⟨_, rfl, _, _, rfl, rfl, _, rfl, ?_⟩
    rw [decide_eq_false (first_most L hc R)]
    refine iteF ?_
    exact k H3 (h.same S3)
  · exact k H h
theorem grpD3 (T : LawT P w K mg base C) (hr : Room 4 (cxL P w K mg base f cdv A outer s HX EX).A) {rest : List Stmt} {u : TS} (hu : PSs (cxL P w K mg base f cdv A outer s HX EX) rest u) :
    ∃ t, PSs (cxL P w K mg base f cdv A outer s HX EX) (sB 8 :: rest) t ∧ ∀ (D : Ends) (H : Hp) (r sc : Addr) (ns : List Int) (t0 p g : Int) (q l : Addr) (a2 a3 a6 a7 a8 a9 a10 a11 a12 a13 a14 : Option V) (c : Int), 1 ≤ c → HL K C H r sc ns q l t0 p g 26 → Lk t0 p g →
      (∀ (H' : Hp), HL K C H' r sc ns q l t0 p g 26 → u D [some (.ref sc), some (.ref r), a2, a3, some (.ref q), some (.ref l), a6, a7, a8, a9, a10, some (.int c), some (.int (tm p g ((c - 1) / t0).toNat)), a13, a14] H') →
      t D [some (.ref sc), some (.ref r), a2, a3, some (.ref q), some (.ref l), a6, a7, a8, a9, a10, some (.int c), some (.int (tm p g ((c - 1) / t0).toNat)), a13, a14] H := by
  refine ⟨_, pss_cons (ps_if (PW.pt (pw_and (pt_chain op_lt op_le pe_int (pv 12) (pe_op op_pow pe_int pe_int)) (pw_and1 (pt_cmpR op_ge (pe_call T.GM hr (by rfl) T.gM T.kM T.bM .nil pass0 (pa_cons (pv 4) (pa_cons (pe_op op_sub (pv 12) pe_int) pa_nil))) (pv 11) (nomark _))))) pss_false pss_nil) hu, ?_⟩
  intro D H r sc ns t0 p g q l a2 a3 a6 a7 a8 a9 a10 a11 a12 a13 a14 c hc h L k
  refine ⟨_, rfl, _, _, rfl, rfl, _, rfl, ?_⟩
  refine ite2 (fun h2 => ?_) (fun h2 => ?_)
  · have h2' : 0 < tm p g ((c - 1) / t0).toNat := of_decide_eq_true h2
    refine ⟨_, _, rfl, rfl, ⟨by decide, by decide, by decide⟩, _, _, rfl, rfl, _, rfl, ?_⟩
    refine ite2 (fun h3 => ?_) (fun h3 => ?_)
    · have h3' : tm p g ((c - 1) / t0).toNat ≤ 10 ^ (15 : Int).toNat := of_decide_eq_true h3
      rw [pow15] at h3'
      refine ⟨_, rfl, _, rfl, _, _, rfl, rfl, q, t0, p, g, _, rfl, h.lk, L, by omega, by omega, fun N H3 S3 R => ?_⟩
      refine ⟨_, rfl, _, _, rfl, rfl, _, rfl, ?_⟩
      rw [decide_eq_false (before_most L hc R)]
      refine iteF ?_
      exact k H3 (h.same S3)
    · exact k H h
  · refine ⟨_, rfl, ?_⟩
    exact k H h
theorem grpE1 (T : LawT P w K mg base C) (hr : Room 4 (cxL P w K mg base f cdv A outer s HX EX).A) {rest : List Stmt} {u : TS} (hu : PSs (cxL P w K mg base f cdv A outer s HX EX) rest u) :
    ∃ t, PSs (cxL P w K mg base f cdv A outer s HX EX) (sB 9 :: sB 10 :: rest) t ∧ ∀ (D : Ends) (H : Hp) (r sc : Addr) (ns : List Int) (t0 p g : Int) (q l : Addr) (a2 a3 a6 a7 a8 a9 a10 a11 a12 a13 a14 : Option V), HL K C H r sc ns q l t0 p g 26 → Lk t0 p g →
      (∀ (e : Int) (N : Nat) (H' : Hp), Rounds p g e N → HL K C H' r sc ns q l t0 p g 26 → u D [some (.ref sc), some (.ref r), a2, a3, some (.ref q), some (.ref l), a6, a7, a8, some (.int e), a10, a11, a12, some (.int ((N : Nat) * t0)), a14] H') →
      t D [some (.ref sc), some (.ref r), a2, a3, some (.ref q), some (.ref l), a6, a7, a8, a9, a10, a11, a12, a13, a14] H := by
  refine ⟨_, pss_cons (ps_set (i := 9) scLaw.nd rfl (.inr rfl) (pe_call T.GTk (hr.mono (by decide)) (by rfl) T.gTk T.kTk T.bTk .nil pass0 (pa_cons (pv 1) (pa_cons (pe_op op_pow pe_int pe_int) pa_nil))))
    (pss_cons (ps_set (i := 13) scLaw.nd rfl (.inl rfl) (pe_call T.GM hr (by rfl) T.gM T.kM T.bM .nil pass0 (pa_cons (pv 4) (pa_cons (pv 9) pa_nil)))) hu), ?_⟩
  intro D H r sc ns t0 p g q l a2 a3 a6 a7 a8 a9 a10 a11 a12 a13 a14 h L k
  refine ⟨_, rfl, _, _, rfl, rfl, ⟨by decide, by decide, by decide⟩, r, sc, ns, _, rfl, (by show (0 : Int) < 10 ^ (15 : Int).toNat; decide), (by show (10 : Int) ^ (15 : Int).toNat < 9223372036854775808; decide), h.d.1, h.d.2, fun j1 H1 j10 j11 R1 B1 => ?_⟩
  have h1 : HL K C H1 r sc ns q l t0 p g 26 := h.row ⟨seq_but h.d.1 h.d.2 B1, R1⟩ B1
  have j11' : j1 < 10 ^ (15 : Int).toNat := j11
  rw [pow15] at j11'
  refine ⟨_, rfl, _, rfl, q, t0, p, g, j1, rfl, h1.lk, L, by omega, by omega, fun N H2 S2 R => ?_⟩
  exact k j1 N H2 R (h1.same S2)
theorem grpE2 (T : LawT P w K mg base C) (hr : Room 4 (cxL P w K mg base f cdv A outer s HX EX).A) {rest : List Stmt} {u : TS} (hu : PSs (cxL P w K mg base f cdv A outer s HX EX) rest u) :
    ∃ t, PSs (cxL P w K mg base f cdv A outer s HX EX) (sB 11 :: rest) t ∧ ∀ (D : Ends) (H : Hp) (r sc : Addr) (ns : List Int) (t0 p g : Int) (q l : Addr) (a2 a3 a6 a7 a8 a9 a10 a11 a12 a13 a14 : Option V) (e : Int) (N : Nat), Rounds p g e N → HL K C H r sc ns q l t0 p g 26 → Lk t0 p g →
      (∀ (H' : Hp), HL K C H' r sc ns q l t0 p g 26 → u D [some (.ref sc), some (.ref r), a2, a3, some (.ref q), some (.ref l), a6, a7, a8, some (.int e), a10, a11, a12, some (.int ((N : Nat) * t0)), a14] H') →
      t D [some (.ref sc), some (.ref r), a2, a3, some (.ref q), some (.ref l), a6, a7, a8, some (.int e), a10, a11, a12, some (.int ((N : Nat) * t0)), a14] H := by
  refine ⟨_, pss_cons (ps_if (PW.pt (pw_and (pt_cmpR op_lt (pv 13) (pe_op op_pow pe_int pe_int) (nomark _)) (pw_and1 (PW.pt (pw_or (pt_cmpR op_gt (pe_call T.GL hr (by rfl) T.gL T.kL T.bL .nil pass0 (pa_cons (pv 4) (pa_cons (pv 13) pa_nil))) (pv 9) (nomark _)) (pw_or1 (pt_cmpR op_le (pe_call T.GL hr (by rfl) T.gL T.kL T.bL .nil pass0 (pa_cons (pv 4) (pa_cons (pe_op op_add (pv 13) pe_int) pa_nil))) (pv 9) (nomark _)))))))) pss_false pss_nil) hu, ?_⟩
  intro D H r sc ns t0 p g q l a2 a3 a6 a7 a8 a9 a10 a11 a12 a13 a14 e N R h L k
  obtain ⟨m1, m2, m3⟩ := most_least L R
  refine ⟨_, rfl, _, _, rfl, rfl, ⟨by decide, by decide, by decide⟩, _, _, rfl, rfl, _, rfl, ?_⟩
  refine ite2 (fun h3 => ?_) (fun h3 => ?_)
  · have h3' : (N : Nat) * t0 < 10 ^ (9 : Int).toNat := of_decide_eq_true h3
    rw [pow9] at h3'
    refine ⟨_, rfl, _, rfl, q, t0, p, g, _, rfl, h.lk, L, m1, by omega, fun H3 S3 => ?_⟩
    have h4 := h.same S3
    refine ⟨_, rfl, _, _, rfl, rfl, _, rfl, ?_⟩
    rw [decide_eq_false (show ¬ e < _ by omega)]
    refine iteF ?_
    refine ⟨_, rfl, _, rfl, _, _, rfl, rfl, q, t0, p, g, _, rfl, h4.lk, L, by omega, by omega, fun H5 S5 => ?_⟩
    refine ⟨_, rfl, _, _, rfl, rfl, _, rfl, ?_⟩
    rw [decide_eq_false (show ¬ tm p g (((N : Nat) * t0 + 1 - 1) / t0).toNat ≤ e by omega)]
    refine iteF ?_
    exact k H5 (h4.same S5)
  · exact k H h
theorem grpF (T : LawT P w K mg base C) (hr : Room 4 (cxL P w K mg base f cdv A outer s HX EX).A) {rest : List Stmt} {u : TS} (hu : PSs (cxL P w K mg base f cdv A outer s HX EX) rest u) :
    ∃ t, PSs (cxL P w K mg base f cdv A outer s HX EX) (sB 12 :: rest) t ∧ ∀ (D : Ends) (H : Hp) (r sc : Addr) (ns : List Int) (t0 p g : Int) (q l : Addr) (a2 a3 a6 a7 a8 a9 a10 a11 a12 a13 a14 : Option V), HL K C H r sc ns q l t0 p g 26 → Lk t0 p g →
      (∀ (H' : Hp), HL K C H' r sc ns q l t0 p g 26 → u D [some (.ref sc), some (.ref r), a2, a3, some (.ref q), some (.ref l), a6, a7, a8, a9, a10, a11, a12, a13, a14] H') →
      t D [some (.ref sc), some (.ref r), a2, a3, some (.ref q), some (.ref l), a6, a7, a8, a9, a10, a11, a12, a13, a14] H := by
  refine ⟨_, pss_cons (ps_if (PW.pt (pw_or (pt_cmpR op_ne (pe_call T.GM hr (by rfl) T.gM T.kM T.bM .nil pass0 (pa_cons (pv 4) (pa_cons pe_int pa_nil))) (pe_prop (pv 4) T.T.cl T.GT.pr T.GT.G (hr.mono (by decide)) T.GT.b .nil pass0 rfl) (nomark _)) (pw_or1 (pt_cmpR op_ne (pe_call T.GL hr (by rfl) T.gL T.kL T.bL .nil pass0 (pa_cons (pv 4) (pa_cons (pe_prop (pv 4) T.T.cl T.GT.pr T.GT.G (hr.mono (by decide)) T.GT.b .nil pass0 rfl) pa_nil))) pe_int (nomark _))))) pss_false pss_nil) hu, ?_⟩
  intro D H r sc ns t0 p g q l a2 a3 a6 a7 a8 a9 a10 a11 a12 a13 a14 h L k
  have lt1 := L.t1
  have lt9 := L.t9
  refine ⟨_, rfl, q, t0, p, g, 0, rfl, h.lk, L, by decide, by decide, fun N H1 S1 R => ?_⟩
  have h1 := h.same S1
  obtain ⟨dx, hq⟩ := id h1.lk
  refine ⟨_, rfl, q, dx, _, rfl, hq, q, t0, p, g, rfl, h1.lk, rfl, _, rfl, ?_⟩
  rw [most_zero L R, decide_eq_true rfl]
  refine iteF ?_
  refine ⟨_, rfl, _, rfl, q, dx, _, rfl, hq, q, t0, p, g, rfl, h1.lk, q, t0, p, g, _, rfl, h1.lk, L, by show 1 ≤ t0; omega, by show t0 ≤ 1000000000; omega, fun H2 S2 => ?_⟩
  refine ⟨rfl, _, rfl, ?_⟩
  rw [show tm p g ((t0 - 1) / t0).toNat = 0 from least_tries L, decide_eq_true rfl]
  refine iteF ?_
  exact k H2 (h1.same S2)
end
end LS
namespace LS
open PySem L2
section
variable {P : Program} {w : World} {K : PySem.W.Frag} {mg : Str → Option Value} {base : Heap} {C f : Addr} {cdv : Value} {A : Around} {outer : List Env} {s : Shared} {HX : Hp} {EX : XK}
theorem ok_law {fl : Addr} {fd : FuncData} (F : Fun K "law" "law" sLaw fl fd) (T : LawT P w K mg base C) : FnOk P w K mg base CX0 5 fl fd ["_law_script"] (spLaw K) := by
  refine F.ok scLaw (fun vs H Q E h => ?_) (fun cdv A outer s H vs Q E hr h => ?_)
  · obtain ⟨a, ns, rfl, _⟩ := h
    rfl
  · obtain ⟨a, ns, rfl, hS, k⟩ := h
    obtain ⟨tF, pF, qF⟩ := grpF (f := fl) (cdv := cdv) (outer := outer) (s := s) (HX := H) (EX := E) T hr pss_nil
    obtain ⟨tE2, pE2, qE2⟩ := grpE2 T hr pF
    obtain ⟨tE1, pE1, qE1⟩ := grpE1 T hr pE2
    obtain ⟨tD3, pD3, qD3⟩ := grpD3 T hr pE1
    obtain ⟨tD2, pD2, qD2⟩ := grpD2 T hr pD3
    obtain ⟨tD1, pD1, qD1⟩ := grpD1 T hr pD2
    obtain ⟨tC, pC, qC⟩ := grpCL T hr pD1
    obtain ⟨tB, pB, qB⟩ := grpB T hr pC
    obtain ⟨tA, pA, qA⟩ := grpA T hr pB
    refine ⟨_, pss_cons (ps_set (i := 1) scLaw.nd rfl (.inl rfl) (pe_lst (pa_cons (pv 0) (pa_cons pe_int (pa_cons pe_int (pa_cons pe_int pa_nil))))))
      (pss_cons (ps_for PassesOwn.never rfl (pi_range1 (by rfl) T.range (pa_cons pe_int pa_nil)) (pg_name (i := 2) scLaw.nd rfl (Or.inl rfl)) pA)
      (pss_one (ps_ret pe_bl))), ?_⟩
    refine ⟨_, rfl, by show 4 ≤ sizeLine; decide, fun r nr => ?_⟩
    have S0 : Same H (upd H r (.lst [.ref a, .int 0, .int 0, .int 0])) := same_upd nr (Same.refl H)
    have d0 : Drw K (upd H r (.lst [.ref a, .int 0, .int 0, .int 0])) r a ns := ⟨S0.seq hS, 0, 0, 0, by decide, upd_same⟩
    refine ⟨6, rfl, by decide, by decide, ?_⟩
    refine for_it walk_range (fun i σ H' => Drw K H' r a ns ∧ ∃ a2 a3 a4 a5 a6 a7 a8 a9 a10 a11 a12 a13 a14, σ = [some (.ref a), some (.ref r), a2, a3, a4, a5, a6, a7, a8, a9, a10, a11, a12, a13, a14]) ⟨d0, _, _, _, _, _, _, _, _, _, _, _, _, _, rfl⟩ (fun _ _ _ _ _ => True.intro) ?_ ?_
    · rintro i v σ H2 H3 hi ⟨d2, a2, a3, a4, a5, a6, a7, a8, a9, a10, a11, a12, a13, a14, rfl⟩ ⟨rfl, rfl⟩
      refine qA _ H3 r a ns _ a3 a4 a5 a6 a7 a8 a9 a10 a11 a12 a13 a14 d2 fun t p g q l H4 h4 L => ?_
      refine qB _ H4 r a ns t p g q l _ a6 a7 a8 a9 a10 a11 a12 a13 a14 h4 L fun b3 b6 H5 h5 => ?_
      refine qC _ H5 r a ns t p g q l _ b3 b6 a7 a8 a9 a10 a11 a12 a13 a14 h5 L fun b6 b7 b8 b9 b10 b11 H6 h6 => ?_
      refine qD1 _ H6 r a ns t p g q l _ b3 b6 b7 b8 b9 b10 b11 a12 a13 a14 h6 L fun c H7 c0 c1 h7 => ?_
      refine qD2 _ H7 r a ns t p g q l _ b3 b6 b7 b8 b9 b10 b11 a12 a13 a14 c c0 h7 L fun H8 h8 => ?_
      refine qD3 _ H8 r a ns t p g q l _ b3 b6 b7 b8 b9 b10 b11 a12 a13 a14 c c0 h8 L fun H9 h9 => ?_
      refine qE1 _ H9 r a ns t p g q l _ b3 b6 b7 b8 b9 b10 _ _ a13 a14 h9 L fun e N H10 R h10 => ?_
      refine qE2 _ H10 r a ns t p g q l _ b3 b6 b7 b8 b9 b10 _ _ a13 a14 e N R h10 L fun H11 h11 => ?_
      refine qF _ H11 r a ns t p g q l _ b3 b6 b7 b8 _ b10 _ _ _ a14 h11 L fun H12 h12 => ?_
      exact ⟨h12.d, _, _, _, _, _, _, _, _, _, _, _, _, _, rfl⟩
    · rintro σ H2 ⟨d2, a2, a3, a4, a5, a6, a7, a8, a9, a10, a11, a12, a13, a14, rfl⟩
      exact k H2
end
end LS
set_option maxHeartbeats 0
namespace LS
open PySem PySem.Spec PyProof.Rows L2
/-! ### a getter of a property, found by the class and the name -/
def gAd (K : PySem.W.Frag) (x m : Str) : Addr := match PySem.W.recIn K (He.ma K (He.ga K x) m) "property" with
  | some (.ref g :: _) => g
  | _ => 0
def fnA (K : PySem.W.Frag) (a : Addr) : He.FnW := match K.lookup a with
  | some ⟨_, _, .func fd, _⟩ => some (fd.name, fd.qualname, fd.params, fd.body, fd.scope, fd.globals, fd.closure, fd.builtins)
  | _ => none
structure GetD where
  cls : Str
  m : Str
  qual : Str
  st : Stmt
def GetD.val (d : GetD) : He.FnW := some (d.m, d.qual, defArgs d.st, .stmts (defBody d.st), defScope d.st, mainGlobals, [], builtinsNs)
def GetD.ok (K : PySem.W.Frag) (d : GetD) : Bool := PySem.W.keepIn K (.ref (gAd K d.cls d.m)) && ((match K.lookup (gAd K d.cls d.m) with
  | some ⟨_, _, .func fd, _⟩ => PySem.W.codeIn K fd.code d.qual && (match fd.defaults with
    | .none => true
    | _ => false)
  | _ => false) && (He.eqO (PySem.W.findIn K (.ref (He.ga K d.cls)) d.m) (some (some (.ref (He.ma K (He.ga K d.cls) d.m)))) && (He.eqO (PySem.W.specialIn K (.ref (He.ma K (He.ga K d.cls) d.m)) "__get__") (some (some (.builtin "property.__get__"))) &&
    (decide (PySem.W.takesIn K (.ref (He.ma K (He.ga K d.cls) d.m)) = some true) && (match PySem.W.recIn K (He.ma K (He.ga K d.cls) d.m) "property" with
      | some (.ref _ :: _) => true
      | _ => false)))))
theorem GetD.fun_ {K : PySem.W.Frag} {d : GetD} (e : fnA K (gAd K d.cls d.m) = d.val) (c : d.ok K = true) : ∃ fd, Fun K d.m d.qual d.st (gAd K d.cls d.m) fd ∧ PropOf K (He.ga K d.cls) d.m (He.ma K (He.ga K d.cls) d.m) (gAd K d.cls d.m) := by
  obtain ⟨kp, c⟩ := He.ba c
  obtain ⟨c2, c⟩ := He.ba c
  obtain ⟨c3, c⟩ := He.ba c
  obtain ⟨c4, c⟩ := He.ba c
  obtain ⟨c5, c6⟩ := He.ba c
  have pr : PropOf K (He.ga K d.cls) d.m (He.ma K (He.ga K d.cls) d.m) (gAd K d.cls d.m) := by
    refine ⟨He.eqO_ok c3, He.eqO_ok c4, of_decide_eq_true c5, ?_⟩
    unfold gAd
    split at c6
    · rename_i g r q
      exact ⟨r, by rw [q]⟩
    · cases c6
  unfold fnA at e
  cases q : K.lookup (gAd K d.cls d.m) with
  | none =>
    rw [q] at c2
    cases c2
  | some o =>
    obtain ⟨oc, od, dt, osl⟩ := o
    rw [q] at c2 e
    cases dt with
    | func fd =>
      obtain ⟨n1, n2, n3, n4, n5, n6, n7, n8, n9, n10, n11, n12, n13, n14, n15⟩ := fd
      have e2 : (some (n1, n2, n3, n4, n5, n6, n7, n15) : He.FnW) = some (d.m, d.qual, defArgs d.st, .stmts (defBody d.st), defScope d.st, mainGlobals, [], builtinsNs) := e
      simp only [Option.some.injEq, Prod.mk.injEq] at e2
      obtain ⟨h1, h2, h3, h4, h5, h6, h7, h8⟩ := e2
      subst h1 h2 h3 h4 h5 h6 h7 h8
      cases n8 with
      | none =>
        have k1 : (PySem.W.codeIn K n13 d.qual && true) = true := c2
        rw [Bool.and_true] at k1
        exact ⟨_, ⟨⟨oc, od, n9, n10, n11, n12, n13, n14, osl, rfl, q, k1⟩, kp⟩, pr⟩
      | _ =>
        have k1 : (PySem.W.codeIn K n13 d.qual && false) = true := c2
        rw [Bool.and_false] at k1
        cases k1
    | _ => cases c2
/-! ### a def without defaults -/
theorem funD_fun {K : PySem.W.Frag} {x qual : Str} {st : Stmt} {f : Addr} {fd : FuncData} (F : FunD K x qual (defArgs st) (defBody st) (defScope st) [] [] f fd) : Fun K x qual st f fd := by
  obtain ⟨oc, od, dV, kV, doc, pm, an, cdv, ct, osl, rfl, lk, hcd, hd, hk⟩ := F.ex
  rcases hd with ⟨_, rfl⟩ | ⟨h, _⟩
  · exact ⟨⟨oc, od, kV, doc, pm, an, cdv, ct, osl, rfl, lk, hcd⟩, F.kp⟩
  · exact (h rfl).elim
/-- what the top's names reach, and the place of the settings -/
def asL (g : Addr → Option Obj) (n : Nat) : List Addr := He.asD g n ++ [cStatics]
def kL (n : Nat) (g : Addr → Option Obj) : PySem.W.Frag := He.frT g (asL g n)
abbrev AlL : Type := (He.AlT × Bool) × List He.FnW
/-- the head's facts: names, defs, tables, a Bool of one's own, empty tables of code, getters -/
structure SaysL (fa : List He.Fa) (fn : List He.DefD) (ts : List He.Tab) (tf : List He.Defn) (ex : PySem.W.Frag → Bool) (gets : List GetD) (w : World) (h : Heap) (K : PySem.W.Frag) : Prop where
  t : He.SaysT fa fn ts w K
  more : ex K = true
  tab : ∀ p ∈ tf, PySem.W.codeHdIn K (He.cT K p).1 (He.cT K p).2 = true ∧ K.lookup (He.cT K p).2 = none ∧ h.get? (He.cT K p).2 = some { cls := .none, data := .fields #[] }
  get : (gets.map fun d => fnA K (gAd K d.cls d.m)) = gets.map GetD.val
section
variable {n : Nat} {fa : List He.Fa} {fn : List He.DefD} {ts : List He.Tab} {tf : List He.Defn} {ex : PySem.W.Frag → Bool} {gets : List GetD} {w : World}
theorem tabs_of {g : Addr → Option Obj} {as : List Addr} (h : He.tabsB g tf (He.frT g as) = true) (p : He.Defn) (hp : p ∈ tf) :
    PySem.W.codeHdIn (He.frT g as) (He.cT (He.frT g as) p).1 (He.cT (He.frT g as) p).2 = true ∧ (He.frT g as).lookup (He.cT (He.frT g as) p).2 = none ∧ g (He.cT (He.frT g as) p).2 = some { cls := .none, data := .fields #[] } := by
  obtain ⟨h1, h2⟩ := He.ba (List.all_eq_true.mp h p hp)
  split at h2
  · rename_i o q
    exact ⟨h1, He.frT_none q h2, by rw [q, He.emptyTab_eq h2]⟩
  · cases h2
def obsG (n : Nat) (fa : List He.Fa) (fn : List He.DefD) (ts : List He.Tab) (tf : List He.Defn) (ex : PySem.W.Frag → Bool) (gets : List GetD) (g : Addr → Option Obj) : AlL :=
  ((He.obsT fa fn ts (kL n g), ex (kL n g) && He.tabsB g tf (kL n g)), gets.map fun d => fnA (kL n g) (gAd (kL n g) d.cls d.m))
def valG (fn : List He.DefD) (ts : List He.Tab) (gets : List GetD) (w : World) : AlL := ((He.valT fn ts w, true), gets.map GetD.val)
theorem saysL_of {h : Heap} (e : obsG n fa fn ts tf ex gets h.get? = valG fn ts gets w) : ∃ K : PySem.W.Frag, K.In h ∧ SaysL fa fn ts tf ex gets w h K := by
  obtain ⟨e1, e2⟩ := Prod.mk.inj e
  obtain ⟨e3, e4⟩ := Prod.mk.inj e1
  obtain ⟨e5, e6⟩ := He.ba e4
  exact ⟨kL n h.get?, He.frT_in, e3, e5, fun p hp => tabs_of e6 p hp, e2⟩
end
def hookG (n : Nat) (fa : List He.Fa) (fn : List He.DefD) (ts : List He.Tab) (tf : List He.Defn) (ex : PySem.W.Frag → Bool) (gets : List GetD) : PySem.W.Hook where
  α := AlL
  obs := fun s => obsG n fa fn ts tf ex gets s.heap.get?
  val := fun w => valG fn ts gets w
  says := fun w h => ∃ K : PySem.W.Frag, K.In h ∧ SaysL fa fn ts tf ex gets w h K
  of := fun _ _ e => saysL_of e
  keeps := fun _ _ _ ⟨K, hK, c⟩ k => ⟨K, PySem.W.Frag.In.keeps hK k, c.t, c.more, fun p hp => ⟨(c.tab p hp).1, (c.tab p hp).2.1, k _ _ (c.tab p hp).2.2⟩, c.get⟩
theorem obsG_eq {n : Nat} {fa : List He.Fa} {fn : List He.DefD} {ts : List He.Tab} {tf : List He.Defn} {ex : PySem.W.Frag → Bool} {gets : List GetD} {g : Addr → Option Obj} {s : Shared} (h : ∀ a, g a = s.heap.get? a) : obsG n fa fn ts tf ex gets g = (hookG n fa fn ts tf ex gets).obs s := by
  have e : g = s.heap.get? := funext h
  rw [e] <;> rfl
def dGl (x : Str) (st : Stmt) : He.DefD := ⟨(x, none), x, x, defArgs st, defBody st, defScope st, [], []⟩
def dMe (c m q : Str) (st : Stmt) : He.DefD := ⟨(c, some m), m, q, defArgs st, defBody st, defScope st, [], []⟩
theorem all_get {l : List Bool} (h : l.all id = true) (i : Nat) {b : Bool} (e : l[i]? = some b) : b = true := List.all_eq_true.mp h b (List.mem_of_getElem? e)
section
variable {w : World} {h : Heap} {K : PySem.W.Frag} {mg : Str → Option Value}
theorem tup_map (xs : List Str) : (xs.map He.Dv.str).map (He.Dv.v K) = xs.map V.str := by
  rw [List.map_map]
  rfl
theorem defF {fa : List He.Fa} {fn : List He.DefD} {x : Str} {st : Stmt} (c : He.SaysD fa fn K) (hm : dGl x st ∈ fn) : ∃ fd, Fun K x x st (He.ga K x) fd := by
  obtain ⟨fd, F⟩ := c.defs hm
  exact ⟨fd, funD_fun F⟩
theorem defM {fa : List He.Fa} {fn : List He.DefD} {x m q : Str} {st : Stmt} (c : He.SaysD fa fn K) (hm : dMe x m q st ∈ fn) : ∃ fd, Fun K m q st (He.ma K (He.ga K x) m) fd := by
  obtain ⟨fd, F⟩ := c.defs hm
  exact ⟨fd, funD_fun F⟩
end
end LS
namespace LS
open PySem PySem.Spec PyProof.Rows L2
def frees : List Str := ["isinstance", "int", "bool", "min", "max", "len", "range"]
def globs : List Str := ["Lock", "is_number", "longer_pause", "most_refusals", "least_time", "_law_taken", "law"]
def mores : List He.Fa := [.int "MOST_TRIES" 9, .int "MOST_FIRST_PAUSE" 1000, .int "MOST_GROWTH" 9, .int "LONGEST_PAUSE" 1000000000, .int "LAST_END" 1000000000000000, .int "MOST_COUNT" 1000000000, .cls "Lock", .noat "Lock" "_tries", .noat "Lock" "_pause", .noat "Lock" "_growth", .mkr "Lock"]
def fa : List He.Fa := globs.map .glo ++ frees.map .free ++ mores
def fn : List He.DefD := [dGl "is_number" sNum, dGl "longer_pause" sLonger, dGl "most_refusals" sMost, dGl "least_time" sLeast, dGl "_law_taken" sTaken, dGl "law" sLaw, dMe "Lock" "__init__" "Lock.__init__" sLInit]
def gets : List GetD := [⟨"Lock", "tries", "Lock.tries", sLTries⟩, ⟨"Lock", "pause", "Lock.pause", sLPause⟩, ⟨"Lock", "growth", "Lock.growth", sLGrowth⟩]
def ts : List He.Tab := []
def tf : List He.Defn := []
def exL (K : PySem.W.Frag) : List Bool := [gets.all (fun d => d.ok K)]
def exA (K : PySem.W.Frag) : Bool := (exL K).all id
abbrev hk : PySem.W.Hook := hookG 5 fa fn ts tf exA gets
def ob (s : PySem.W.SharedT) : AlL := obsG 5 fa fn ts tf exA gets (HandSHeadRun.getT s)
theorem ob_eq (s : PySem.W.SharedT) : ob s = hk.obs s.abs := obsG_eq (HandSHeadRun.getT_eq s)
section
variable {w : World} {h : Heap} {K : PySem.W.Frag} {mg : Str → Option Value}
theorem fa_glob {x : Str} (hx : x ∈ globs) : He.Fa.glo x ∈ fa := by
  unfold fa
  exact List.mem_append_left _ (List.mem_append_left _ (List.mem_map.mpr ⟨x, hx, rfl⟩))
theorem fa_free {x : Str} (hx : x ∈ frees) : He.Fa.free x ∈ fa := by
  unfold fa
  exact List.mem_append_left _ (List.mem_append_right _ (List.mem_map.mpr ⟨x, hx, rfl⟩))
theorem fa_more {f : He.Fa} (hx : f ∈ mores) : f ∈ fa := by
  unfold fa
  exact List.mem_append_right _ hx
theorem facts (X : K.In h) (G : h.Ns mainGlobals mg) (c : SaysL fa fn ts tf exA gets w h K) :
    ∃ fd, Fun K "law" "law" sLaw (He.ga K "law") fd ∧ mg "law" = some (.ref (He.ga K "law")) ∧ ∀ (P : Program) (base : Heap), ∃ T : LawT P w K mg base (He.ga K "Lock"), True := by
  have cd := c.t.d
  have g := c.get
  have gl : ∀ {x : Str}, x ∈ globs → mg x = some (.ref (He.ga K x)) := fun hx => He.glo_ok X G (cd.facts (fa_glob hx))
  have fr : ∀ {x : Str}, x ∈ frees → mg x = none := fun hx => He.free_ok X G (cd.facts (fa_free hx))
  have ex : (exL K).all id = true := c.more
  have e0 := all_get ex 0 rfl
  have TL : LockK K mg (He.ga K "Lock") := ⟨gl (by decide +kernel), He.cls_ok (cd.facts (fa_more (by simp [mores]))), He.noat_ok (cd.facts (fa_more (by simp [mores]))), He.noat_ok (cd.facts (fa_more (by simp [mores]))), He.noat_ok (cd.facts (fa_more (by simp [mores]))),
    He.int_ok X G (cd.facts (fa_more (by simp [mores]))), He.int_ok X G (cd.facts (fa_more (by simp [mores]))), He.int_ok X G (cd.facts (fa_more (by simp [mores]))), He.int_ok X G (cd.facts (fa_more (by simp [mores]))), He.int_ok X G (cd.facts (fa_more (by simp [mores]))), He.int_ok X G (cd.facts (fa_more (by simp [mores]))), fr (by decide +kernel)⟩
  have TN : NumK mg := ⟨fr (by decide +kernel), fr (by decide +kernel), fr (by decide +kernel)⟩
  obtain ⟨fdN, FN⟩ := defF (x := "is_number") (st := sNum) cd (by simp [fn])
  obtain ⟨fdO, FO⟩ := defF (x := "longer_pause") (st := sLonger) cd (by simp [fn])
  obtain ⟨fdM, FM⟩ := defF (x := "most_refusals") (st := sMost) cd (by simp [fn])
  obtain ⟨fdE, FE⟩ := defF (x := "least_time") (st := sLeast) cd (by simp [fn])
  obtain ⟨fdT, FT⟩ := defF (x := "_law_taken") (st := sTaken) cd (by simp [fn])
  obtain ⟨fdL, FL⟩ := defF (x := "law") (st := sLaw) cd (by simp [fn])
  obtain ⟨fdI, FI⟩ := defM (x := "Lock") (m := "__init__") (q := "Lock.__init__") (st := sLInit) cd (by simp [fn])
  have gk : ∀ (i : Nat) (d : GetD), gets[i]? = some d → ∃ fd, Fun K d.m d.qual d.st (gAd K d.cls d.m) fd ∧ PropOf K (He.ga K d.cls) d.m (He.ma K (He.ga K d.cls) d.m) (gAd K d.cls d.m) := fun i d hi => by
    have z : (gets.map fun d => fnA K (gAd K d.cls d.m))[i]? = (gets.map GetD.val)[i]? := by rw [g]
    rw [List.getElem?_map, List.getElem?_map, hi] at z
    exact GetD.fun_ (Option.some.inj z) (List.all_eq_true.mp e0 d (List.mem_of_getElem? hi))
  obtain ⟨fd1, F1, P1⟩ := gk 0 _ rfl
  obtain ⟨fd2, F2, P2⟩ := gk 1 _ rfl
  obtain ⟨fd3, F3, P3⟩ := gk 2 _ rfl
  have bN : Binds K fdN ["value", "least", "most"] [] := FN.binds fun _ _ _ _ _ _ us hl => match us, hl with | [_, _, _], _ => rfl
  have bO : Binds K fdO ["lock", "pause"] [] := FO.binds fun _ _ _ _ _ _ us hl => match us, hl with | [_, _], _ => rfl
  have bM : Binds K fdM ["lock", "end"] [] := FM.binds fun _ _ _ _ _ _ us hl => match us, hl with | [_, _], _ => rfl
  have bE : Binds K fdE ["lock", "count"] [] := FE.binds fun _ _ _ _ _ _ us hl => match us, hl with | [_, _], _ => rfl
  have bT : Binds K fdT ["_law_row", "_law_many"] [] := FT.binds fun _ _ _ _ _ _ us hl => match us, hl with | [_, _], _ => rfl
  have bI : Binds K fdI ["self", "tries", "pause", "growth"] [] := FI.binds fun _ _ _ _ _ _ us hl => match us, hl with | [_, _, _, _], _ => rfl
  have b1 : Binds K fd1 ["self"] [] := F1.binds fun _ _ _ _ _ _ us hl => match us, hl with | [_], _ => rfl
  have b2 : Binds K fd2 ["self"] [] := F2.binds fun _ _ _ _ _ _ us hl => match us, hl with | [_], _ => rfl
  have b3 : Binds K fd3 ["self"] [] := F3.binds fun _ _ _ _ _ _ us hl => match us, hl with | [_], _ => rfl
  refine ⟨fdL, FL, gl (by decide +kernel), fun P base => ?_⟩
  have GN : FnOk P w K mg base CX0 1 (He.ga K "is_number") fdN ["value", "least", "most"] (spNum K) := ok_num FN TN
  have GT : GetK P w K mg base (He.ga K "Lock") "tries" (spGet (He.ga K "Lock") fun t _ _ => t) := ⟨ok_ltries F1 TL, b1, P1⟩
  have GP : GetK P w K mg base (He.ga K "Lock") "pause" (spGet (He.ga K "Lock") fun _ p _ => p) := ⟨ok_lpause F2 TL, b2, P2⟩
  have GG : GetK P w K mg base (He.ga K "Lock") "growth" (spGet (He.ga K "Lock") fun _ _ g => g) := ⟨ok_lgrowth F3 TL, b3, P3⟩
  have GO : FnOk P w K mg base CX0 3 (He.ga K "longer_pause") fdO ["lock", "pause"] (spLonger (He.ga K "Lock")) := ok_longer FO TL GG
  exact ⟨{ T := TL, GI := ok_linit FI TL GN (gl (by decide +kernel)) FN.kp bN, bI := bI, Mk := He.mkr_ok (cd.facts (fa_more (by simp [mores]))), GP := GP, GT := GT, GG := GG, GM := ok_most FM TL GN (gl (by decide +kernel)) FN.kp bN GO (gl (by decide +kernel)) FO.kp bO GP GT, gM := gl (by decide +kernel), kM := FM.kp, bM := bM, GL := ok_least FE TL GN (gl (by decide +kernel)) FN.kp bN GO (gl (by decide +kernel)) FO.kp bO GP GT, gL := gl (by decide +kernel), kL := FE.kp, bL := bE, GTk := ok_taken FT (fr (by decide +kernel)) (fr (by decide +kernel)), gTk := gl (by decide +kernel), kTk := FT.kp, bTk := bT, range := fr (by decide +kernel), len := fr (by decide +kernel), min := fr (by decide +kernel), max := fr (by decide +kernel) }, True.intro⟩
end
end LS
namespace LS
open PySem PySem.Spec PyProof.Rows L2
abbrev R : PySem.W.OpenRow := PySem.W.OpenLaw.row rwL
theorem run (w : World) : HandSHeadRun.RunEq R (PySem.W.view R.prog [i_law]) hk ob 5000 loose w := by
  refine PySem.W.byRow2 "special-get-raises" (P := fun w => HandSHeadRun.RunEq R (PySem.W.view R.prog [i_law]) hk ob 5000 loose w) (fun w => ?_) (fun w => ?_) w
  · intro os
    kernel_rfl
  · intro os
    kernel_rfl
end LS
namespace LS
open PySem PySem.Spec PyProof.Rows L2
theorem law_at {w : World} {mg : Str → Option Value} {f : Addr} {h : Heap} {K : PySem.W.Frag} (X : K.In h) (G : h.Ns mainGlobals mg) (hmg : mg "law" = some (.ref f)) (c : SaysL fa fn ts tf exA gets w h K) :
    LamX.LawAtS rwL w K L2.CX0 5 63 "_law_script" mg f h := by
  obtain ⟨fd, FL, gl, T⟩ := facts X G c
  have e := hmg.symm.trans gl
  cases e
  have bL : Binds K fd ["_law_script"] [] := FL.binds fun _ _ _ _ _ _ us hl => match us, hl with | [_], _ => rfl
  obtain ⟨oc, od, kV, doc, pm, an, cdv, ct, osl, rfl, lk, hcd⟩ := FL.ex
  refine ⟨PySem.W.fnOf "law" "law" (defArgs sLaw) (defBody sLaw) (defScope sLaw) .none kV doc pm an cdv ct, [], spLaw K, fun p hp => (nomatch hp), fun p hp => (nomatch hp), fun p hp => (nomatch hp), ?_, ?_, ?_⟩
  · intro s u
    exact .of_eq rfl
  · intro H a ns hl hb hH hS
    exact ⟨a, ns, rfl, hS, fun _ => rfl⟩
  · intro base hK hNs hT
    obtain ⟨t, _⟩ := T rwL.prog base
    exact ok_law FL t
end LS
open PySem PySem.W PySem.Calls PyProof.Rows
theorem PySem.Challenge.cw_loginstacks_k40_whole_bounds_of_locks_holds : PySem.Challenge.rw_loginstacks_k40_whole_bounds_of_locks.Holds := by
  w_on; o_law
  refine HandSHeadRun.head_any (r := OpenLaw.row PySem.Challenge.rw_loginstacks_k40_whole_bounds_of_locks) (q := view (OpenLaw.row PySem.Challenge.rw_loginstacks_k40_whole_bounds_of_locks).prog [LS.i_law]) (H := LS.hk) (ob := LS.ob) (M := 5000) (loose := LS.loose) (d := HandSHeadRun.topDef (OpenLaw.row PySem.Challenge.rw_loginstacks_k40_whole_bounds_of_locks).prog LS.i_law) (kwd := []) LS.ob_eq
    (by kernel_rfl) (fun s => by kernel_rfl) LS.run (by kernel_rfl) (by kernel_rfl) (by kernel_rfl) (by rfl) (by first | assumption | decide +kernel) (by decide +kernel) ⟨rfl, rfl, rfl, rfl, rfl, by decide +kernel⟩ ?hw ?hc
  case hw => w_witness2
  case hc =>
    refine LamX.walk_ofTsE (l := PySem.Challenge.rw_loginstacks_k40_whole_bounds_of_locks) (n := 63) (k := 5) (x := "_law_script") (CX := fun _ => L2.CX0) rfl (by decide) (by kernel_rfl) ⟨rfl, by decide, by decide⟩ ?F (fun _ _ _ _ _ z => z)
    intro w mg f h Y G hmg0
    obtain ⟨K, KX, c⟩ := Y
    have hmg : mg ("law" : PySem.Str) = some (.ref f) := by
      have e : (HandSHeadRun.topDef (OpenLaw.row PySem.Challenge.rw_loginstacks_k40_whole_bounds_of_locks).prog LS.i_law).name = ("law" : PySem.Str) := by kernel_rfl
      rw [← e]
      exact hmg0
    exact ⟨K, KX, LS.law_at KX G hmg c⟩
