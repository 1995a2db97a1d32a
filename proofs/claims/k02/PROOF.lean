import PyProof.Rows.All
import Wide.All
import OpenK.AllK
import Wide.FinOn
import HandS.ForMost
import HandS.Defaults
import HandS.Deep
import HandS.Codes
import HandS.Zip
import HandS.Wide
import PySem.Challenge.RW_deducehall_k02_terms_made_alike
set_option Elab.async false
set_option maxRecDepth 100000
set_option maxHeartbeats 4000000
/-! ## own words over the hand layer, for every law: rules with the written part said, dice, many at once -/
namespace L2
open PySem PySem.Spec PyProof.Rows
theorem units65 {k : Nat} {A : Around} (r : Room k A) : A.units + 65 < cLine := by have := r.un; omega
section
variable {X : Cx} (K : PySem.W.Frag)
theorem ixL (h : X.K = K := by rfl) : IxR X (rIxL K) := by subst h; exact ix_list
theorem ixT (h : X.K = K := by rfl) : IxR X (rIxT K) := by subst h; exact ix_tup
theorem slL (h : X.K = K := by rfl) : SlR X (rSlL K) := by subst h; exact sl_list
theorem slT (h : X.K = K := by rfl) : SlR X (rSlT K) := by subst h; exact sl_tup
theorem eqD (hu : X.A.units + 64 < cLine) (h : X.K = K := by rfl) : OpR X (compareOp .Eq) (rEqD K) := by subst h; exact op_eqD hu
theorem neD (hu : X.A.units + 64 < cLine) (h : X.K = K := by rfl) : OpR X (compareOp .NotEq) (rNeD K) := by subst h; exact op_neD hu
theorem inD (hu : X.A.units + 65 < cLine) (h : X.K = K := by rfl) : OpR X (compareOp .In) (rInD K) := by subst h; exact op_inD hu
theorem notInD (hu : X.A.units + 65 < cLine) (h : X.K = K := by rfl) : OpR X (compareOp .NotIn) (rNotInD K) := by subst h; exact op_notInD hu
theorem inSeq (h : X.K = K := by rfl) : OpR X (compareOp .In) (rIn K false) := by subst h; exact op_in_seq
theorem notInSeq (h : X.K = K := by rfl) : OpR X (compareOp .NotIn) (rIn K true) := by subst h; exact op_notIn_seq
def rLen (K : PySem.W.Frag) : List V → Hp → VK → Prop := fun xs H Q => ∃ p ys, xs = [.ref p] ∧ (SqL K H p ys ∨ SqT K H p ys) ∧ Q (.int ys.length) H
def rListOf (K : PySem.W.Frag) : List V → Hp → VK → Prop := fun xs H Q => ∃ p ys, xs = [.ref p] ∧ (SqL K H p ys ∨ SqT K H p ys) ∧ ∀ l, H l = none → Q (.ref l) (upd H l (.lst ys))
def rTupleOf (K : PySem.W.Frag) : List V → Hp → VK → Prop := fun xs H Q => ∃ p ys, xs = [.ref p] ∧ ((SqL K H p ys ∧ ∀ l, H l = none → Q (.ref l) (upd H l (.tup ys))) ∨ (SqT K H p ys ∧ Q (.ref p) H))
theorem lenK (h : X.K = K := by rfl) : CallR X (.builtin "len") (rLen K) := by subst h; exact call_len_seq
theorem listOf (h : X.K = K := by rfl) : CallR X (.type "list") (rListOf K) := by subst h; exact call_list_of
theorem tupOf (h : X.K = K := by rfl) : CallR X (.type "tuple") (rTupleOf K) := by subst h; exact call_tuple_of
def rAbs : List V → Hp → VK → Prop := fun xs H Q => ∃ i, xs = [.int i] ∧ Q (.int (if i < 0 then -i else i)) H
theorem absK : CallR X (.builtin "abs") rAbs := call_abs
def rInt1 : List V → Hp → VK → Prop := fun xs H Q => (∃ i, xs = [.int i] ∧ Q (.int i) H) ∨ ∃ k, xs = [.bl k] ∧ Q (.int (if k then 1 else 0)) H
theorem int1K : CallR X (.type "int") rInt1 := call_int1
def rMin2 : List V → Hp → VK → Prop := fun xs H Q => ∃ i j, xs = [.int i, .int j] ∧ Q (.int (if j < i then j else i)) H
theorem min2K (hc : X.calm = true := by rfl) : CallR X (.builtin "min") rMin2 := call_min2 hc
variable {e : Expr} {es : List Expr} {f : Str} {pos apos cpos : Pos} {ta to : TE} {t : TA}
theorem fldK (he : PE X e ta) (hb : attributeBase e f X.env (eval e X.env) = eval e X.env) (h : X.K = K := by rfl) : PE X (.Attribute e f pos) (tFld K ta f) := by subst h; exact pe_fld he hb
theorem sfldK {v : Expr} {tv : TE} (he : PE X e ta) (hv : PE X v tv) (hsw : swapsWith v (some (.Attribute e f pos)) cpos.line X.env = pure false) (h : X.K = K := by rfl) : PS X (.Assign [.Attribute e f pos] v cpos) (sFld K ta tv f) := by
  subst h
  exact ps_fld he hv hsw
theorem tupK {k : Nat} {t : TGs} {n : Nat} (hc : X.calm = true) (h : PGs X es t)
    (hn : (assignEach es X.env).length = n := by rfl) (hst : (assignEach es X.env).findIdx? (·.1) = none := by rfl) (hK : X.K = K := by rfl) : PG X (.Tuple es k pos) (gTup K n t) := by
  subst hK
  exact pg_tup hc h hn hst
variable {tg : Expr}
theorem listK (hl : PE X e ta) (h : X.K = K := by rfl) : PI X tg e (iList K ta) := by subst h; exact pi_list hl
theorem tupIK (hl : PE X e ta) (h : X.K = K := by rfl) : PI X tg e (iTup K ta) := by subst h; exact pi_tup hl
theorem enumK {p tpos : Pos} {elts : List Expr} {kk : Nat} (hg : Gl X "enumerate") (hm : X.mg "enumerate" = none) (ha : PA X [e] t) (hs : starEach [e] X.env = [(false, eval e X.env)] := by rfl) (h : X.K = K := by rfl) :
    PI X (.Tuple elts kk tpos) (.Call (.Name "enumerate" p) [e] [] pos) (iEnum K t) := by
  subst h
  exact pi_enum hg hm ha hs
theorem zipK {e2 : Expr} {p tpos : Pos} {elts : List Expr} {kk : Nat} (hg : Gl X "zip") (hm : X.mg "zip" = none) (ha : PA X [e, e2] t)
    (hs : starEach [e, e2] X.env = (false, eval e X.env) :: starEach [e2] X.env := by rfl) (hpl : (backTo pos (starEach [e2] X.env)).any (·.1) = false := by rfl) (h : X.K = K := by rfl) :
    PI X (.Tuple elts kk tpos) (.Call (.Name "zip" p) [e, e2] [] pos) (iZip K t) := by
  subst h
  exact pi_zip hg hm ha hs hpl
theorem appK {o : Expr} (ho : PE X o to) (ha : PA X (e :: es) t) (hbase : attributeBase o "append" X.env (eval o X.env) = eval o X.env := by rfl)
    (hfew : ((backTo cpos (starEach (e :: es) X.env)).all (fun x => !x.1) && (backToKw cpos (keywordEach [] X.env)).all (fun x => x.1.isSome)
      && decide ((e :: es).length + ([] : List Keyword).length + (if ([] : List Keyword).isEmpty then 0 else 1) < 30)) = true := by rfl)
    (hline : (apos.endLine == cpos.line) = true := by rfl) (hs : starEach (e :: es) X.env = (false, eval e X.env) :: starEach es X.env := by rfl) (hplain : (backTo cpos (starEach es X.env)).any (·.1) = false := by rfl) (h : X.K = K := by rfl) :
    PE X (.Call (.Attribute o "append" apos) (e :: es) [] cpos) (tBM K "list" rAppend to t) := by
  subst h
  exact pe_bm PySem.F.plainAttrs_list PySem.F.slot_list_append PySem.F.type_list_append mt_append ho ha hbase hfew hline hs hplain
/-- == of a list and a bare list -/
def rEqL (K : PySem.W.Frag) : R2 := fun x y H Q => ∃ a b xs, x = .ref a ∧ y = .ref b ∧ SqL K H a xs ∧ SqL K H b [] ∧ Q (.bl (decide (xs.length = 0))) H
theorem eqL (hu : X.A.units < cLine) (hK : X.K = K := by rfl) : OpR X (compareOp .Eq) (rEqL K) := by
  subst hK
  intro pins s σ H x y v u Q I rx ry h
  obtain ⟨a, b, xs, rfl, rfl, h1, h2, q⟩ := h
  obtain rfl : v = Value.ref a := rx
  obtain rfl : u = Value.ref b := ry
  obtain ⟨is, r1, ⟨o1, n1, e1, c1, d1, t1⟩, z1⟩ := I.list h1
  obtain ⟨js, r2, ⟨o2, n2, e2, c2, d2, t2⟩, z2⟩ := I.list h2
  have l1 : s.heap.IsList a is.toArray := ⟨o1, e1, c1, n1, t1⟩
  have l2 : s.heap.IsList b js.toArray := ⟨o2, e2, c2, n2, t2⟩
  have hj : js.length = 0 := r2.length.symm
  have hi := r1.length
  show wpAny _ _ (richCompare .Eq (.ref a) (.ref b)) _ _ _
  by_cases hx : xs.length = 0
  · rw [decide_eq_true hx] at q
    have hz : is.toArray.size = js.toArray.size := by simp; omega
    refine SeqAt.RcAt.lists (e := fun _ => true) l1 l2 hz hu (fun j h1 _ => ?_) _ _ _ _ ⟨.bl true, H, I, ?_, q⟩
    · exact absurd h1 (by simp; omega)
    · show Value.bool _ = Value.bool true
      simp
  · rw [decide_eq_false hx] at q
    have hz : (is.toArray.size != js.toArray.size) = true := by simp; omega
    exact SeqAt.RcAt.lists_lengths l1 l2 hz hu _ _ _ _ ⟨.bl false, H, I, rfl, q⟩
end
end L2

namespace Toy
open PySem L2
def top (i : Nat) : PySem.Stmt := PySem.Challenge.pw_deducehall_k02_terms_made_alike.main.body.getD i (.Pass ⟨0, 0, 0, 0⟩)
abbrev s_Term_init : PySem.Stmt := inClass (top 2) 0
abbrev N_Term_init : List Str := ["self", "name", "value"]
theorem sc_Term_init : FnScope N_Term_init ["self", "name", "value"] (defScope s_Term_init) := ⟨rfl, rfl, rfl, by decide +kernel, rfl, by decide +kernel, by decide +kernel⟩
abbrev s_Term_is_variable : PySem.Stmt := inClass (top 2) 1
abbrev N_Term_is_variable : List Str := ["self"]
theorem sc_Term_is_variable : FnScope N_Term_is_variable ["self"] (defScope s_Term_is_variable) := ⟨rfl, rfl, rfl, by decide +kernel, rfl, by decide +kernel, by decide +kernel⟩
abbrev s_Term_shown : PySem.Stmt := inClass (top 2) 2
abbrev N_Term_shown : List Str := ["self"]
theorem sc_Term_shown : FnScope N_Term_shown ["self"] (defScope s_Term_shown) := ⟨rfl, rfl, rfl, by decide +kernel, rfl, by decide +kernel, by decide +kernel⟩
abbrev s_var : PySem.Stmt := top 3
abbrev N_var : List Str := ["name"]
theorem sc_var : FnScope N_var ["name"] (defScope s_var) := ⟨rfl, rfl, rfl, by decide +kernel, rfl, by decide +kernel, by decide +kernel⟩
abbrev s_val : PySem.Stmt := top 4
abbrev N_val : List Str := ["value"]
theorem sc_val : FnScope N_val ["value"] (defScope s_val) := ⟨rfl, rfl, rfl, by decide +kernel, rfl, by decide +kernel, by decide +kernel⟩
abbrev s_led_to : PySem.Stmt := top 5
abbrev N_led_to : List Str := ["term", "links"]
theorem sc_led_to : FnScope N_led_to ["term", "links"] (defScope s_led_to) := ⟨rfl, rfl, rfl, by decide +kernel, rfl, by decide +kernel, by decide +kernel⟩
abbrev s_made_alike : PySem.Stmt := top 6
abbrev N_made_alike : List Str := ["one", "other", "links", "here", "there", "left", "right"]
theorem sc_made_alike : FnScope N_made_alike ["one", "other"] (defScope s_made_alike) := ⟨rfl, rfl, rfl, by decide +kernel, rfl, by decide +kernel, by decide +kernel⟩
abbrev s_put_in : PySem.Stmt := top 7
abbrev N_put_in : List Str := ["terms", "links", "term"]
theorem sc_put_in : FnScope N_put_in ["terms", "links"] (defScope s_put_in) := ⟨rfl, rfl, rfl, by decide +kernel, rfl, by decide +kernel, by decide +kernel⟩
abbrev s_shown_all : PySem.Stmt := top 8
abbrev N_shown_all : List Str := ["terms", "term"]
theorem sc_shown_all : FnScope N_shown_all ["terms"] (defScope s_shown_all) := ⟨rfl, rfl, rfl, by decide +kernel, rfl, by decide +kernel, by decide +kernel⟩
abbrev s_l_dice : PySem.Stmt := top 10
abbrev N_l_dice : List Str := ["cell"]
theorem sc_l_dice : FnScope N_l_dice ["cell"] (defScope s_l_dice) := ⟨rfl, rfl, rfl, by decide +kernel, rfl, by decide +kernel, by decide +kernel⟩
abbrev s_l_roll : PySem.Stmt := top 11
abbrev N_l_roll : List Str := ["dice", "many", "found"]
theorem sc_l_roll : FnScope N_l_roll ["dice", "many"] (defScope s_l_roll) := ⟨rfl, rfl, rfl, by decide +kernel, rfl, by decide +kernel, by decide +kernel⟩
abbrev s_l_rounds : PySem.Stmt := top 12
abbrev N_l_rounds : List Str := ["script", "most", "cells", "cell"]
theorem sc_l_rounds : FnScope N_l_rounds ["script", "most"] (defScope s_l_rounds) := ⟨rfl, rfl, rfl, by decide +kernel, rfl, by decide +kernel, by decide +kernel⟩
abbrev s_l_make : PySem.Stmt := top 13
abbrev N_l_make : List Str := ["term"]
theorem sc_l_make : FnScope N_l_make ["term"] (defScope s_l_make) := ⟨rfl, rfl, rfl, by decide +kernel, rfl, by decide +kernel, by decide +kernel⟩
abbrev s_l_drawn : PySem.Stmt := top 14
abbrev N_l_drawn : List Str := ["dice", "k"]
theorem sc_l_drawn : FnScope N_l_drawn ["dice"] (defScope s_l_drawn) := ⟨rfl, rfl, rfl, by decide +kernel, rfl, by decide +kernel, by decide +kernel⟩
abbrev s_l_fits : PySem.Stmt := top 15
abbrev N_l_fits : List Str := ["one", "other", "found", "number", "table", "left", "right", "kind", "said"]
theorem sc_l_fits : FnScope N_l_fits ["one", "other"] (defScope s_l_fits) := ⟨rfl, rfl, rfl, by decide +kernel, rfl, by decide +kernel, by decide +kernel⟩
abbrev s_law : PySem.Stmt := top 16
abbrev N_law : List Str := ["script", "dice", "one", "other", "left", "right", "links_now", "fits", "table", "name", "kind", "said", "ends", "free", "term", "k", "end"]
theorem sc_law : FnScope N_law ["script"] (defScope s_law) := ⟨rfl, rfl, rfl, by decide +kernel, rfl, by decide +kernel, by decide +kernel⟩
structure Ad where
  f_Term_init : Addr
  d_Term_init : FuncData
  f_Term_is_variable : Addr
  d_Term_is_variable : FuncData
  f_Term_shown : Addr
  d_Term_shown : FuncData
  f_var : Addr
  d_var : FuncData
  f_val : Addr
  d_val : FuncData
  f_led_to : Addr
  d_led_to : FuncData
  f_made_alike : Addr
  d_made_alike : FuncData
  f_put_in : Addr
  d_put_in : FuncData
  f_shown_all : Addr
  d_shown_all : FuncData
  f_l_dice : Addr
  d_l_dice : FuncData
  f_l_roll : Addr
  d_l_roll : FuncData
  f_l_rounds : Addr
  d_l_rounds : FuncData
  f_l_make : Addr
  d_l_make : FuncData
  f_l_drawn : Addr
  d_l_drawn : FuncData
  f_l_fits : Addr
  d_l_fits : FuncData
  f_law : Addr
  d_law : FuncData
  C_Term : Addr
/-- what the top leaves -/
structure Txt (K : PySem.W.Frag) (mg : Str → Option Value) (A : Ad) : Prop where
  F_Term_init : FunD K "__init__" "Term.__init__" (defArgs s_Term_init) (defBody s_Term_init) (defScope s_Term_init) [.non] [] A.f_Term_init A.d_Term_init
  b_Term_init : Binds K A.d_Term_init ["self", "name", "value"] []
  bd_Term_init : ∃ ds, Vals [.non] ds ∧ Binds K A.d_Term_init ["self", "name", "value"] ds
  F_Term_is_variable : Fun K "is_variable" "Term.is_variable" s_Term_is_variable A.f_Term_is_variable A.d_Term_is_variable
  b_Term_is_variable : Binds K A.d_Term_is_variable ["self"] []
  e_Term_is_variable : Meth K A.C_Term "is_variable" A.f_Term_is_variable
  F_Term_shown : Fun K "shown" "Term.shown" s_Term_shown A.f_Term_shown A.d_Term_shown
  b_Term_shown : Binds K A.d_Term_shown ["self"] []
  e_Term_shown : Meth K A.C_Term "shown" A.f_Term_shown
  F_var : Fun K "var" "var" s_var A.f_var A.d_var
  b_var : Binds K A.d_var ["name"] []
  m_var : mg "var" = some (.ref A.f_var)
  F_val : Fun K "val" "val" s_val A.f_val A.d_val
  b_val : Binds K A.d_val ["value"] []
  m_val : mg "val" = some (.ref A.f_val)
  F_led_to : Fun K "led_to" "led_to" s_led_to A.f_led_to A.d_led_to
  b_led_to : Binds K A.d_led_to ["term", "links"] []
  m_led_to : mg "led_to" = some (.ref A.f_led_to)
  F_made_alike : Fun K "made_alike" "made_alike" s_made_alike A.f_made_alike A.d_made_alike
  b_made_alike : Binds K A.d_made_alike ["one", "other"] []
  m_made_alike : mg "made_alike" = some (.ref A.f_made_alike)
  F_put_in : Fun K "put_in" "put_in" s_put_in A.f_put_in A.d_put_in
  b_put_in : Binds K A.d_put_in ["terms", "links"] []
  m_put_in : mg "put_in" = some (.ref A.f_put_in)
  F_shown_all : Fun K "shown_all" "shown_all" s_shown_all A.f_shown_all A.d_shown_all
  b_shown_all : Binds K A.d_shown_all ["terms"] []
  m_shown_all : mg "shown_all" = some (.ref A.f_shown_all)
  F_l_dice : Fun K "_law_dice" "_law_dice" s_l_dice A.f_l_dice A.d_l_dice
  b_l_dice : Binds K A.d_l_dice ["cell"] []
  m_l_dice : mg "_law_dice" = some (.ref A.f_l_dice)
  F_l_roll : Fun K "_law_roll" "_law_roll" s_l_roll A.f_l_roll A.d_l_roll
  b_l_roll : Binds K A.d_l_roll ["dice", "many"] []
  m_l_roll : mg "_law_roll" = some (.ref A.f_l_roll)
  F_l_rounds : Fun K "_law_rounds" "_law_rounds" s_l_rounds A.f_l_rounds A.d_l_rounds
  b_l_rounds : Binds K A.d_l_rounds ["script", "most"] []
  m_l_rounds : mg "_law_rounds" = some (.ref A.f_l_rounds)
  F_l_make : Fun K "_law_make" "_law_make" s_l_make A.f_l_make A.d_l_make
  b_l_make : Binds K A.d_l_make ["term"] []
  m_l_make : mg "_law_make" = some (.ref A.f_l_make)
  F_l_drawn : Fun K "_law_drawn" "_law_drawn" s_l_drawn A.f_l_drawn A.d_l_drawn
  b_l_drawn : Binds K A.d_l_drawn ["dice"] []
  m_l_drawn : mg "_law_drawn" = some (.ref A.f_l_drawn)
  F_l_fits : Fun K "_law_fits" "_law_fits" s_l_fits A.f_l_fits A.d_l_fits
  b_l_fits : Binds K A.d_l_fits ["one", "other"] []
  m_l_fits : mg "_law_fits" = some (.ref A.f_l_fits)
  F_law : Fun K "law" "law" s_law A.f_law A.d_law
  b_law : Binds K A.d_law ["script"] []
  m_law : mg "law" = some (.ref A.f_law)
  m_Term : mg "Term" = some (.ref A.C_Term)
  cl_Term : Cls K A.C_Term
  M_Term : Mk K A.C_Term A.f_Term_init
  n_Term_name : NoAttr K A.C_Term "name"
  n_Term_value : NoAttr K A.C_Term "value"
  z_abs : mg "abs" = none
  z_enumerate : mg "enumerate" = none
  z_int : mg "int" = none
  z_len : mg "len" = none
  z_range : mg "range" = none
  z_tuple : mg "tuple" = none
  z_zip : mg "zip" = none

/-! ### objects: a Term has a name and a value -/
theorem nv_ : ¬ (("name" : Str) = "value") := by decide +kernel
theorem vn_ : ¬ (("value" : Str) = "name") := by decide +kernel
def tf (n : Str) (v : V) : List (Str × V) := putF "value" v (putF "name" (.str n) [])
theorem tf_name (n : Str) (v : V) : (tf n v).lookup ("name" : Str) = some (.str n) := by
  unfold tf
  rw [lookup_putF, if_neg nv_, lookup_putF, if_pos rfl]
theorem tf_value (n : Str) (v : V) : (tf n v).lookup ("value" : Str) = some v := by
  unfold tf
  rw [lookup_putF, if_pos rfl]
theorem tf_no (n : Str) (v : V) {m : Str} (h1 : ¬ m = "value") (h2 : ¬ m = "name") : (tf n v).lookup m = none := by
  unfold tf
  rw [lookup_putF, if_neg h1, lookup_putF, if_neg h2]
  all_goals rfl
/-- a Term stands at a -/
def TmAt (C : Addr) (H : Hp) (a : Addr) (n : Str) (v : V) : Prop := ∃ dx, H a = some (.ins C dx (tf n v))
def sh (n : Str) (v : V) : List V := if n = "" then [.str "val", v] else [.str "var", .str n]

theorem same_new {H : Hp} {p : Addr} {o : HO} (h : H p = none) : Same H (upd H p o) := fun b u e => by
  rw [upd_ne (ne_of_none e h)]
  exact e

def spInit (C : Addr) : Sp := fun vs H Q _ => ∃ (p dx : Addr) (n : Str) (v : V), vs = [.ref p, .str n, v] ∧ H p = some (.ins C dx []) ∧ ∀ H', TmAt C H' p n v → (∀ b o, H b = some o → b ≠ p → H' b = some o) → Q .non H'
def spIsVar (C : Addr) : Sp := fun vs H Q _ => ∃ (p : Addr) (n : Str) (v : V), vs = [.ref p] ∧ TmAt C H p n v ∧ Q (.bl (!decide (n = ""))) H
def spShown (C : Addr) : Sp := fun vs H Q _ => ∃ (p : Addr) (n : Str) (v : V), vs = [.ref p] ∧ TmAt C H p n v ∧ ∀ q, H q = none → Q (.ref q) (upd H q (.tup (sh n v)))
def spVar (C : Addr) : Sp := fun vs H Q _ => ∃ n : Str, vs = [.str n] ∧ ∀ x H', H x = none → TmAt C H' x n .non → Same H H' → Q (.ref x) H'
def spVal (C : Addr) : Sp := fun vs H Q _ => ∃ v : V, vs = [v] ∧ ∀ x H', H x = none → TmAt C H' x "" v → Same H H' → Q (.ref x) H'
section
variable {P : Program} {w : World} {K : PySem.W.Frag} {mg : Str → Option Value} {base : Heap} {A : Ad}
theorem ok_init (T : Txt K mg A) : FnOk P w K mg base CX0 1 A.f_Term_init A.d_Term_init ["self", "name", "value"] (spInit A.C_Term) := by
  refine T.F_Term_init.ok sc_Term_init (fun vs H Q E h => ?_) (fun cdv ar outer s H vs Q E hr h => ?_)
  · obtain ⟨p, dx, n, v, rfl, _⟩ := h
    rfl
  · obtain ⟨p, dx, n, v, rfl, hp, k⟩ := h
    refine ⟨_, (pss_cons (sfldK K (pv 0) (pv 1) rfl)
      (pss_one (sfldK K (pv 0) (pv 2) rfl))), ?_⟩
    refine ⟨_, rfl, _, rfl, p, _, dx, _, rfl, hp, T.cl_Term, T.n_Term_name, (by show 0 < 1000; decide), _, rfl, _, rfl, p, _, dx, _, rfl, upd_same, T.cl_Term, T.n_Term_value, (by show 1 < 1000; decide), ?_⟩
    exact k _ ⟨dx, upd_same⟩ fun b o e hb => by rw [upd_ne hb, upd_ne hb]; exact e
theorem ok_is_variable (T : Txt K mg A) : FnOk P w K mg base CX0 1 A.f_Term_is_variable A.d_Term_is_variable ["self"] (spIsVar A.C_Term) := by
  refine T.F_Term_is_variable.ok sc_Term_is_variable (fun vs H Q E h => ?_) (fun cdv ar outer s H vs Q E hr h => ?_)
  · obtain ⟨p, n, v, rfl, _⟩ := h
    rfl
  · obtain ⟨p, n, v, rfl, ⟨dx, hp⟩, k⟩ := h
    refine ⟨_, (pss_one (ps_ret (pe_cmpR op_ne (fldK K (pv 0) rfl) pe_str (nomark _)))), ?_⟩
    refine ⟨_, rfl, p, _, dx, _, _, rfl, hp, T.cl_Term, T.n_Term_name, tf_name _ _, rfl, ?_⟩
    have e : decide (V.str n = V.str "") = decide (n = ("" : Str)) := by simp
    show Q (V.bl (!decide (V.str n = V.str ""))) H
    rw [e]
    exact k
theorem no_isv (n : Str) (v : V) : (tf n v).lookup ("is_variable" : Str) = none := tf_no n v (by decide +kernel) (by decide +kernel)
theorem no_shown (n : Str) (v : V) : (tf n v).lookup ("shown" : Str) = none := tf_no n v (by decide +kernel) (by decide +kernel)
theorem ok_shown (T : Txt K mg A) : FnOk P w K mg base CX0 2 A.f_Term_shown A.d_Term_shown ["self"] (spShown A.C_Term) := by
  have G_Term_is_variable : FnOk P w K mg base CX0 1 A.f_Term_is_variable A.d_Term_is_variable ["self"] (spIsVar A.C_Term) := ok_is_variable T
  refine T.F_Term_shown.ok sc_Term_shown (fun vs H Q E h => ?_) (fun cdv ar outer s H vs Q E hr h => ?_)
  · obtain ⟨p, n, v, rfl, _⟩ := h
    rfl
  · obtain ⟨p, n, v, rfl, ⟨dx, hp⟩, k⟩ := h
    refine ⟨_, (pss_one (ps_ret (pe_ifExp (pt_val (pe_meth0 (pv 0) T.cl_Term T.e_Term_is_variable G_Term_is_variable (hr.mono (by decide)) T.b_Term_is_variable .nil pass0)) (pe_tup (pa_cons pe_str (pa_cons (fldK K (pv 0) rfl) pa_nil))) (pe_tup (pa_cons pe_str (pa_cons (fldK K (pv 0) rfl) pa_nil)))))), ?_⟩
    refine ⟨_, rfl, p, dx, _, rfl, hp, no_isv _ _, p, n, v, rfl, ⟨dx, hp⟩, _, rfl, ?_⟩
    by_cases e : n = ""
    · have ek : sh n v = [.str "val", v] := if_pos e
      rw [decide_eq_true e]
      refine iteF ⟨_, rfl, p, _, dx, _, _, rfl, hp, T.cl_Term, T.n_Term_value, tf_value _ _, (by show 2 ≤ sizeLine; decide), fun q hq => ?_⟩
      rw [ek] at k
      exact k q hq
    · have ek : sh n v = [.str "var", .str n] := if_neg e
      rw [decide_eq_false e]
      refine iteT ⟨_, rfl, p, _, dx, _, _, rfl, hp, T.cl_Term, T.n_Term_name, tf_name _ _, (by show 2 ≤ sizeLine; decide), fun q hq => ?_⟩
      rw [ek] at k
      exact k q hq
theorem ok_var (T : Txt K mg A) : FnOk P w K mg base CX0 3 A.f_var A.d_var ["name"] (spVar A.C_Term) := by
  have G_Term_init : FnOk P w K mg base CX0 1 A.f_Term_init A.d_Term_init ["self", "name", "value"] (spInit A.C_Term) := ok_init T
  obtain ⟨ds, hv_Term_init, hb_Term_init⟩ := T.bd_Term_init
  refine T.F_var.ok sc_var (fun vs H Q E h => ?_) (fun cdv ar outer s H vs Q E hr h => ?_)
  · obtain ⟨n, rfl, _⟩ := h
    rfl
  · obtain ⟨n, rfl, k⟩ := h
    refine ⟨_, (pss_one (ps_ret (pe_make T.M_Term G_Term_init (hr.mono (by decide)) (by rfl) T.m_Term hb_Term_init hv_Term_init pass0 (pa_cons (pv 0) pa_nil)))), ?_⟩
    refine ⟨_, rfl, fun x dx nx ndx nex => ?_⟩
    refine ⟨x, dx, n, .non, rfl, upd_same, fun H' h1 h2 => ⟨rfl, k x H' nx h1 fun b o e => ?_⟩⟩
    exact h2 b o (by rw [upd_ne (ne_of_none e nx), upd_ne (ne_of_none e ndx)]; exact e) (ne_of_none e nx)
theorem ok_val (T : Txt K mg A) : FnOk P w K mg base CX0 3 A.f_val A.d_val ["value"] (spVal A.C_Term) := by
  have G_Term_init : FnOk P w K mg base CX0 1 A.f_Term_init A.d_Term_init ["self", "name", "value"] (spInit A.C_Term) := ok_init T
  refine T.F_val.ok sc_val (fun vs H Q E h => ?_) (fun cdv ar outer s H vs Q E hr h => ?_)
  · obtain ⟨v, rfl, _⟩ := h
    rfl
  · obtain ⟨v, rfl, k⟩ := h
    refine ⟨_, (pss_one (ps_ret (pe_make T.M_Term G_Term_init (hr.mono (by decide)) (by rfl) T.m_Term T.b_Term_init .nil pass0 (pa_cons pe_str (pa_cons (pv 0) pa_nil))))), ?_⟩
    refine ⟨_, rfl, fun x dx nx ndx nex => ?_⟩
    refine ⟨x, dx, "", v, rfl, upd_same, fun H' h1 h2 => ⟨rfl, k x H' nx h1 fun b o e => ?_⟩⟩
    exact h2 b o (by rw [upd_ne (ne_of_none e nx), upd_ne (ne_of_none e ndx)]; exact e) (ne_of_none e nx)
end
end Toy

set_option Elab.async false
set_option maxRecDepth 100000
set_option maxHeartbeats 4000000
namespace Toy
open PySem L2
theorem iteD {c : Prop} [Decidable c] {A B : Prop} (h1 : c → A) (h2 : ¬ c → B) : if decide c = true then A else B := by
  by_cases h : c
  · rw [decide_eq_true h]; exact iteT (h1 h)
  · rw [decide_eq_false h]; exact iteF (h2 h)
theorem iteND {c : Prop} [Decidable c] {A B : Prop} (h1 : ¬ c → A) (h2 : c → B) : if (!decide c) = true then A else B := by
  by_cases h : c
  · rw [decide_eq_true h]; exact iteF (h2 h)
  · rw [decide_eq_false h]; exact iteT (h1 h)
theorem iteB {c : Bool} {A B : Prop} (h1 : c = true → A) (h2 : c = false → B) : if c = true then A else B := by
  cases c
  · exact iteF (h2 rfl)
  · exact iteT (h1 rfl)
theorem ifs_of {c : TT} {t u : TS} {D : Ends} {σ : L2.St} {H : Hp} (b : Bool) (hc : ∀ Q : Bool → Hp → Prop, Q b H → c σ H Q) (h1 : b = true → t D σ H) (h2 : b = false → u D σ H) : tIfS c t u D σ H :=
  hc _ (iteB h1 h2)
theorem dec_int (i j : Int) : decide (V.int i = V.int j) = decide (i = j) := by simp
theorem dec_str (i j : Str) : decide (V.str i = V.str j) = decide (i = j) := by simp
theorem dec_bl (i j : Bool) : decide (V.bl i = V.bl j) = decide (i = j) := by simp
/-! ### dice -/
def DiceAt (H : Hp) (d : Addr) : Prop := ∃ x y z : Int, H d = some (.lst [.int x, .int y, .int z])
def spDice : Sp := fun vs H Q _ => ∃ c : Int, vs = [.int c] ∧ ∀ (p : Addr) (x y z : Int), H p = none → Q (.ref p) (upd H p (.lst [.int x, .int y, .int z]))
def spRoll : Sp := fun vs H Q _ => ∃ (d : Addr) (m : Int), vs = [.ref d, .int m] ∧ DiceAt H d ∧ 0 < m ∧ m < 1000 ∧ ∀ (k : Int) (H' : Hp), 0 ≤ k → k < m → DiceAt H' d → (∀ b, b ≠ d → H' b = H b) → Q (.int k) H'
def spRounds (K : PySem.W.Frag) : Sp := fun vs H Q _ => ∃ (a : Addr) (ns : List Int), vs = [.ref a, .int 1] ∧ SqL K H a (ns.map V.int) ∧
  ∀ (p d : Addr) (H' : Hp), Same H H' → H p = none → H d = none → d ≠ p → DiceAt H' d → H' p = some (.lst [.ref d]) → Q (.ref p) H'
section
variable {P : Program} {w : World} {K : PySem.W.Frag} {mg : Str → Option Value} {base : Heap} {A : Ad}
theorem ok_dice (T : Txt K mg A) : FnOk P w K mg base CX0 1 A.f_l_dice A.d_l_dice ["cell"] spDice := by
  refine T.F_l_dice.ok sc_l_dice (fun vs H Q E h => ?_) (fun cdv ar outer s H vs Q E hr h => ?_)
  · obtain ⟨c, rfl, _⟩ := h
    rfl
  · obtain ⟨c, rfl, k⟩ := h
    refine ⟨_, (pss_cons (ps_if (pt_chain op_lt op_lt (pe_op op_sub pe_int pe_int) (pv 0) pe_int)
        (pss_one (ps_ret (pe_lst (pa_cons (pe_callB absK (by rfl) T.z_abs (by decide +kernel) (pa_cons (pv 0) pa_nil)) (pa_cons pe_int (pa_cons pe_int pa_nil))))))
        pss_nil)
      (pss_one (ps_ret (pe_lst (pa_cons (pv 0) (pa_cons (pe_op op_add pe_int (pe_op op_mod (pe_callTy int1K (by rfl) T.z_int (by decide +kernel) (pa_cons (pv 0) pa_nil)) pe_int)) (pa_cons (pe_callTy int1K (by rfl) T.z_int (by decide +kernel) (pa_cons (pe_cmpR op_ge (pv 0) (pe_op op_pow pe_int pe_int) (nomark _)) pa_nil)) pa_nil))))))), ?_⟩
    have back : tRet (tLst (tCons (tVar 0) (tCons (tOp (rI0 fun i j => V.int (i + j)) (tC (V.int 1)) (tOp (rI (fun x j => 0 < j) fun i j => V.int (i % j)) (tCB (fun xs H Q => (∃ i, xs = [V.int i] ∧ Q (V.int i) H) ∨ ∃ k, xs = [V.bl k] ∧ Q (V.int (if k = true then 1 else 0)) H) (tCons (tVar 0) tNil)) (tC (V.int 1009))))
        (tCons (tCB (fun xs H Q => (∃ i, xs = [V.int i] ∧ Q (V.int i) H) ∨ ∃ k, xs = [V.bl k] ∧ Q (V.int (if k = true then 1 else 0)) H) (tCons (tOp (rI0 fun i j => V.bl (decide (j ≤ i))) (tVar 0) (tOp (rI CPow fun i j => V.int (i ^ j.toNat)) (tC (V.int 10)) (tC (V.int 18)))) tNil)) tNil))))
        { nx := fun x H' => Q V.non H', rt := Q } (L2.start N_l_dice [V.int c]) H := by
      refine ⟨_, rfl, _, rfl, .inl ⟨_, rfl, _, _, rfl, rfl, (by show (0 : Int) < 1009; decide), _, _, rfl, rfl, _, rfl, _, _, rfl, rfl, (by exact ⟨by decide, by decide, by decide⟩), _, _, rfl, rfl, .inr ⟨_, rfl, (by show 3 ≤ sizeLine; decide), fun p hp => k _ _ _ _ hp⟩⟩⟩
    refine ⟨_, _, rfl, rfl, _, rfl, _, _, rfl, rfl, _, rfl, ?_⟩
    refine iteD (fun _ => ?_) (fun _ => ?_)
    · refine ⟨_, _, rfl, rfl, _, rfl, ?_⟩
      refine iteD (fun _ => ?_) (fun _ => back)
      exact ⟨_, rfl, _, rfl, (by show 3 ≤ sizeLine; decide), fun p hp => k _ _ _ _ hp⟩
    · exact ⟨_, rfl, iteF back⟩
theorem ok_roll (T : Txt K mg A) : FnOk P w K mg base CX0 1 A.f_l_roll A.d_l_roll ["dice", "many"] spRoll := by
  refine T.F_l_roll.ok sc_l_roll (fun vs H Q E h => ?_) (fun cdv ar outer s H vs Q E hr h => ?_)
  · obtain ⟨d, m, rfl, _⟩ := h
    rfl
  · obtain ⟨d, m, rfl, ⟨x, y, z, hd⟩, m0, m1, k⟩ := h
    refine ⟨_, (pss_cons (ps_if (PW.pt (pw_or (pt_cmpR op_eq (pe_ix (ixL K) (pv 0) pe_int (fun _ _ => rfl)) pe_int (nomark _)) (pw_or1 (PW.pt (pw_and (pt_cmpR op_eq (pe_ix (ixL K) (pv 0) pe_int (fun _ _ => rfl)) pe_int (nomark _)) (pw_and1 (pt_cmpR op_gt (pe_ix (ixL K) (pv 0) pe_int (fun _ _ => rfl)) pe_int (nomark _))))))))
        (pss_cons (ps_set (i := 2) sc_l_roll.nd rfl (Or.inl rfl) (pe_op op_mod (pe_callTy int1K (by rfl) T.z_int (by decide +kernel) (pa_cons (pe_ix (ixL K) (pv 0) pe_int (fun _ _ => rfl)) pa_nil)) (pv 1)))
        (pss_cons (ps_asg (pe_op op_fdiv (pe_ix (ixL K) (pv 0) pe_int (fun _ _ => rfl)) (pv 1)) (pg_sub (pv 0) pe_int set_list))
        (pss_one (ps_ret (pv 2)))))
        pss_nil)
      (pss_cons (ps_asg pe_int (pg_sub (pv 0) pe_int set_list))
      (pss_cons (ps_asg (pe_op op_mod (pe_callTy int1K (by rfl) T.z_int (by decide +kernel) (pa_cons (pe_op op_add (pe_op op_add (pe_op op_mul (pe_ix (ixL K) (pv 0) pe_int (fun _ _ => rfl)) pe_int) (pe_op op_mul (pe_ix (ixL K) (pv 0) pe_int (fun _ _ => rfl)) pe_int)) pe_int) pa_nil)) pe_int) (pg_sub (pv 0) pe_int set_list))
      (pss_cons (ps_asg (pe_op op_add (pe_ix (ixL K) (pv 0) pe_int (fun _ _ => rfl)) pe_int) (pg_sub (pv 0) pe_int set_list))
      (pss_one (ps_ret (pe_op op_mod (pe_callTy int1K (by rfl) T.z_int (by decide +kernel) (pa_cons (pe_op op_add (pe_op op_fdiv (pe_ix (ixL K) (pv 0) pe_int (fun _ _ => rfl)) pe_int) (pe_ix (ixL K) (pv 0) pe_int (fun _ _ => rfl))) pa_nil)) (pv 1)))))))), ?_⟩
    refine ifs_of (decide (z = 2) || (decide (z = 1) && decide (0 < x))) (fun Q' q => ?_) (fun hb => ?_) (fun hb => ?_)
    · refine ⟨_, rfl, _, _, _, _, rfl, rfl, SqL.of hd, rfl, rfl, _, rfl, ?_⟩
      rw [dec_int]
      refine iteD (fun h => ?_) (fun h => ?_)
      · rw [decide_eq_true h, Bool.true_or] at q
        exact q
      · rw [decide_eq_false h, Bool.false_or] at q
        refine ⟨_, rfl, _, _, _, _, rfl, rfl, SqL.of hd, rfl, rfl, _, rfl, ?_⟩
        rw [dec_int]
        refine iteD (fun h => ?_) (fun h => ?_)
        · rw [decide_eq_true h, Bool.true_and] at q
          exact ⟨_, rfl, _, _, _, _, rfl, rfl, SqL.of hd, rfl, _, _, rfl, rfl, _, rfl, q⟩
        · rw [decide_eq_false h, Bool.false_and] at q
          exact q
    · refine ⟨_, rfl, _, _, _, _, rfl, rfl, SqL.of hd, rfl, .inl ⟨_, rfl, _, rfl, _, _, rfl, rfl, m0, ?_⟩⟩
      refine ⟨_, rfl, _, _, _, _, rfl, rfl, SqL.of hd, rfl, _, rfl, _, _, rfl, rfl, ⟨m0, by omega⟩, ?_⟩
      refine ⟨_, rfl, _, _, _, _, rfl, rfl, hd, rfl, _, rfl, ?_⟩
      exact k _ _ (Int.emod_nonneg _ (by omega)) (Int.emod_lt_of_pos _ m0) ⟨_, _, _, upd_same⟩ fun b hb => upd_ne hb
    · refine ⟨_, rfl, _, _, _, _, rfl, rfl, hd, rfl, ?_⟩
      refine ⟨_, rfl, _, _, _, _, rfl, rfl, SqL.of upd_same, rfl, _, _, rfl, rfl, .inr (by decide), ?_⟩
      refine ⟨_, rfl, _, _, _, _, rfl, rfl, SqL.of upd_same, rfl, _, _, rfl, rfl, .inr (by decide), ?_⟩
      refine ⟨_, _, rfl, rfl, _, _, rfl, rfl, .inl ⟨_, rfl, _, _, rfl, rfl, (by show (0 : Int) < 2147483647; decide), ?_⟩⟩
      refine ⟨_, rfl, _, _, _, _, rfl, rfl, upd_same, rfl, ?_⟩
      refine ⟨_, rfl, _, _, _, _, rfl, rfl, SqL.of upd_same, rfl, _, _, rfl, rfl, ?_⟩
      refine ⟨_, rfl, _, _, _, _, rfl, rfl, upd_same, rfl, ?_⟩
      refine ⟨_, rfl, _, _, _, _, rfl, rfl, SqL.of upd_same, rfl, _, _, rfl, rfl, ⟨by decide, by decide⟩, ?_⟩
      refine ⟨_, rfl, _, _, _, _, rfl, rfl, SqL.of upd_same, rfl, _, _, rfl, rfl, .inl ⟨_, rfl, _, rfl, _, _, rfl, rfl, m0, ?_⟩⟩
      rw [upd_upd, upd_upd]
      exact k _ _ (Int.emod_nonneg _ (by omega)) (Int.emod_lt_of_pos _ m0) ⟨_, _, _, upd_same⟩ fun b hb => upd_ne hb
theorem ok_rounds (T : Txt K mg A) : FnOk P w K mg base CX0 2 A.f_l_rounds A.d_l_rounds ["script", "most"] (spRounds K) := by
  have G_l_dice : FnOk P w K mg base CX0 1 A.f_l_dice A.d_l_dice ["cell"] spDice := ok_dice T
  refine T.F_l_rounds.ok sc_l_rounds (fun vs H Q E h => ?_) (fun cdv ar outer s H vs Q E hr h => ?_)
  · obtain ⟨a, ns, rfl, _⟩ := h
    rfl
  · obtain ⟨a, ns, rfl, hS, k⟩ := h
    refine ⟨_, (pss_cons (ps_set (i := 2) sc_l_rounds.nd rfl (Or.inl rfl) (pe_slice (slL K) (pv 0) po_none (po_some (pv 1))))
      (pss_cons (ps_if (pt_cmpR (eqD K hr.units) (pv 2) (pe_lst pa_nil) (nomark _))
        (pss_one (ps_set (i := 2) sc_l_rounds.nd rfl (Or.inl rfl) (pe_lst (pa_cons pe_int pa_nil))))
        pss_nil)
      (pss_one (ps_ret (pe_lc (own := [("cell", 3)]) (by rfl) sc_l_rounds.nd (listK K (pv 2)) (blkOk_by (own := [("cell", 3)]) (N := N_l_rounds) (sc := defScope s_l_rounds) (by decide +kernel)) (fun _ _ _ _ _ => (pg_name (i := 3) sc_l_rounds.nd rfl (Or.inl rfl))) (fun _ _ _ _ _ => pts_nil) (fun _ _ _ _ _ => (pe_call G_l_dice (hr.mono (by decide)) (by rfl) T.m_l_dice T.F_l_dice.kp T.b_l_dice .nil pass0 (pa_cons (pv 3) pa_nil)))))))), ?_⟩
    have fin : ∀ (c : Int) (l : Addr) (H1 : Hp), Same H H1 → H1 l = some (.lst [.int c]) → tRet (tLc (iList K (tVar 2)) (gName 3) tYes (tCall spDice [] E0 (tCons (tVar 3) tNil)) [3]) { nx := fun x H' => Q V.non H', rt := Q } [some (.ref a), some (.int 1), some (.ref l), none] H1 := by
      intro c l H1 e1 h1
      refine ⟨_, rfl, l, rfl, ⟨_, SqL.of h1⟩, fun D hD => ?_⟩
      have nlD : l ≠ D := ne_of_none h1 hD
      refine lc_list (K := K) (a := l) (xs := [.int c]) (fun i H' => Same H1 H' ∧ ((i = 0 ∧ H' D = some (.lst [])) ∨ (i = 1 ∧ ∃ d, DiceAt H' d ∧ H1 d = none ∧ d ≠ D ∧ H' D = some (.lst [.ref d]))))
        ⟨same_new hD, .inl ⟨rfl, upd_same⟩⟩ (fun i H' hi hP => SqL.of (hP.1 _ _ h1)) ?_ ?_
      · rintro i x H' hi ⟨s1, hP⟩
        rcases hP with ⟨rfl, hP⟩ | ⟨rfl, _⟩
        · cases hi
          refine ⟨rfl, _, rfl, c, rfl, fun p x y z hp => ?_⟩
          have npD : D ≠ p := ne_of_none hP hp
          refine ⟨[], by rw [upd_ne npD]; exact hP, by decide, ?_, .inr ⟨rfl, p, ⟨x, y, z, ?_⟩, s1.free hp, npD.symm, upd_same⟩⟩
          · intro b o e
            have hb := s1 _ _ e
            rw [upd_ne (ne_of_none e hD), upd_ne (ne_of_none hb hp)]
            exact hb
          · rw [upd_ne npD.symm, upd_same]
        · cases hi
      · rintro H' ⟨s1, hP⟩
        rcases hP with ⟨h0, _⟩ | ⟨_, d, h2, h3, h4, h5⟩
        · cases h0
        · exact k D d H' (e1.trans s1) (e1.free hD) (e1.free h3) h4 h2 h5
    refine ⟨_, rfl, _, rfl, _, rfl, _, _, rfl, hS, fun l hl => ?_⟩
    have hx : ∃ c : Int, cutV (ns.map V.int) none (some 1) = [] ∨ cutV (ns.map V.int) none (some 1) = [V.int c] := by
      cases ns with
      | nil => exact ⟨0, .inl rfl⟩
      | cons n r => exact ⟨n, .inr rfl⟩
    obtain ⟨c, hx⟩ := hx
    have e1 : Same H (upd H l (.lst (cutV (ns.map V.int) none (some 1)))) := same_new hl
    rcases hx with hx | hx
    · rw [hx] at e1 ⊢
      refine ⟨_, rfl, Nat.zero_le _, fun m hm => ?_⟩
      refine ⟨.list [], .list [], .lst (SqL.of (by rw [upd_ne (ne_of_none upd_same hm), upd_same])) .nil, .lst (SqL.of upd_same) .nil, rfl, rfl, _, rfl, ?_⟩
      refine iteT ⟨(by decide), fun q hq => ?_⟩
      exact fin 0 q _ ((e1.trans (same_new hm)).trans (same_new hq)) upd_same
    · rw [hx] at e1 ⊢
      refine ⟨_, rfl, Nat.zero_le _, fun m hm => ?_⟩
      refine ⟨.list [.int c], .list [], .lst (SqL.of (by rw [upd_ne (ne_of_none upd_same hm), upd_same])) (.cons (.int c) .nil), .lst (SqL.of upd_same) .nil, rfl, rfl, _, rfl, ?_⟩
      refine iteF ?_
      exact fin c l _ (e1.trans (same_new hm)) (by rw [upd_ne (ne_of_none upd_same hm), upd_same])
end
end Toy

/-! ### the mathematics: three names, three values -/
namespace U
inductive F3 where | a | b | c
  deriving DecidableEq
inductive Tm where | v (i : F3) | k (j : F3)
  deriving DecidableEq
structure Lk where
  (x y z : Option Tm)
  deriving DecidableEq
structure Tb where
  (x y z : F3)
  deriving DecidableEq
def Lk.get (L : Lk) : F3 → Option Tm
  | .a => L.x | .b => L.y | .c => L.z
def Lk.set (L : Lk) (i : F3) (t : Tm) : Lk := match i with
  | .a => { L with x := some t } | .b => { L with y := some t } | .c => { L with z := some t }
def Tb.get (L : Tb) : F3 → F3
  | .a => L.x | .b => L.y | .c => L.z
def e0 : Lk := ⟨none, none, none⟩
def step (L : Lk) : Tm → Tm
  | .v i => (L.get i).getD (.v i)
  | .k j => .k j
def led (L : Lk) (t : Tm) : Tm := step L (step L (step L t))
def ended (L : Lk) : Tm → Bool
  | .v i => (L.get i).isNone
  | .k _ => true
def all3 : List F3 := [.a, .b, .c]
def allT : List Tm := all3.map .v ++ all3.map .k
def allO : List (Option Tm) := none :: allT.map some
def allL : List Lk := allO.flatMap fun x => allO.flatMap fun y => allO.map fun z => ⟨x, y, z⟩
theorem mem3 (i : F3) : i ∈ all3 := by cases i <;> decide
theorem memT (t : Tm) : t ∈ allT := by
  rcases t with i | i <;> cases i <;> decide
theorem memO (o : Option Tm) : o ∈ allO := by
  rcases o with _ | t
  · exact List.mem_cons_self
  · exact List.mem_cons_of_mem _ (List.mem_map.mpr ⟨t, memT t, rfl⟩)
theorem memL (L : Lk) : L ∈ allL := List.mem_flatMap.mpr ⟨L.x, memO _, List.mem_flatMap.mpr ⟨L.y, memO _, List.mem_map.mpr ⟨L.z, memO _, rfl⟩⟩⟩
def acyc (L : Lk) : Bool := all3.all fun i => ended L (led L (.v i))
def dist (L : Lk) (t : Tm) : Nat := if ended L t then 0 else if ended L (step L t) then 1 else if ended L (step L (step L t)) then 2 else 3
def chk1 : Bool := allL.all fun L => !acyc L || allT.all fun t => ended L (led L t) && (if ended L t then decide (led L t = t) else decide (led L (step L t) = led L t) && decide (dist L (step L t) < dist L t))
theorem chk1_ok : chk1 = true := by decide +kernel
theorem of_chk {p : Lk → Bool} (h : (allL.all fun L => !acyc L || p L) = true) {L : Lk} (a : acyc L = true) : p L = true := by
  have q := List.all_eq_true.mp h L (memL L)
  rw [a] at q
  exact q
theorem led_ended {L : Lk} (a : acyc L = true) (t : Tm) : ended L (led L t) = true := by
  have q := List.all_eq_true.mp (of_chk chk1_ok a) t (memT t)
  exact (Bool.and_eq_true _ _ ▸ q).1
theorem led_self {L : Lk} (a : acyc L = true) {t : Tm} (h : ended L t = true) : led L t = t := by
  have q := List.all_eq_true.mp (of_chk chk1_ok a) t (memT t)
  have q2 := (Bool.and_eq_true _ _ ▸ q).2
  rw [if_pos h] at q2
  exact of_decide_eq_true q2
theorem led_step {L : Lk} (a : acyc L = true) {t : Tm} (h : ended L t = false) : led L (step L t) = led L t ∧ dist L (step L t) < dist L t := by
  have q := List.all_eq_true.mp (of_chk chk1_ok a) t (memT t)
  have q2 := (Bool.and_eq_true _ _ ▸ q).2
  rw [if_neg (by rw [h]; decide)] at q2
  have q3 := Bool.and_eq_true _ _ ▸ q2
  exact ⟨of_decide_eq_true q3.1, of_decide_eq_true q3.2⟩
def chk2 : Bool := allL.all fun L => !acyc L || all3.all fun i => allT.all fun t => !(ended L (.v i)) || !(ended L t) || decide (t = .v i) || acyc (L.set i t)
theorem chk2_ok : chk2 = true := by decide +kernel
theorem acyc_set {L : Lk} (a : acyc L = true) {i : F3} {t : Tm} (h : ended L (.v i) = true) (h2 : ended L t = true) (h3 : t ≠ .v i) : acyc (L.set i t) = true := by
  have q := List.all_eq_true.mp (List.all_eq_true.mp (of_chk chk2_ok a) i (mem3 i)) t (memT t)
  rw [h, h2, decide_eq_false h3] at q
  exact q
/-- the value of a term by a table -/
def val (b : Tb) : Tm → F3
  | .v i => b.get i
  | .k j => j
def resp (L : Lk) (b : Tb) : Bool := all3.all fun i => match L.get i with
  | none => true
  | some t => decide (b.get i = val b t)
theorem resp_get {L : Lk} {b : Tb} (h : resp L b = true) {i : F3} {t : Tm} (e : L.get i = some t) : b.get i = val b t := by
  have q := List.all_eq_true.mp h i (mem3 i)
  rw [e] at q
  exact of_decide_eq_true q
theorem val_step {L : Lk} {b : Tb} (h : resp L b = true) (t : Tm) : val b (step L t) = val b t := by
  rcases t with i | j
  · cases e : L.get i with
    | none => simp [step, e]
    | some t => simp only [step, e, Option.getD]; exact (resp_get h e).symm
  · rfl
theorem val_led {L : Lk} {b : Tb} (h : resp L b = true) (t : Tm) : val b (led L t) = val b t := by
  unfold led
  rw [val_step h, val_step h, val_step h]
theorem resp_set {L : Lk} {b : Tb} {i : F3} {t : Tm} (h : ended L (.v i) = true) : resp (L.set i t) b = (resp L b && decide (b.get i = val b t)) := by
  obtain ⟨x, y, z⟩ := L
  cases i
  · have e : x = none := by simpa [ended, Lk.get] using h
    subst e
    simp [resp, all3, Lk.set, Lk.get, Bool.and_comm, Bool.and_left_comm]
  · have e : y = none := by simpa [ended, Lk.get] using h
    subst e
    simp [resp, all3, Lk.set, Lk.get, Bool.and_comm, Bool.and_left_comm]
  · have e : z = none := by simpa [ended, Lk.get] using h
    subst e
    simp [resp, all3, Lk.set, Lk.get, Bool.and_comm, Bool.and_left_comm]
/-- one turn of the loop -/
def turn (L : Lk) (p : Tm × Tm) : Option Lk :=
  if led L p.1 = led L p.2 then some L else match led L p.1 with
  | .v i => some (L.set i (led L p.2))
  | .k _ => match led L p.2 with
    | .v j => some (L.set j (led L p.1))
    | .k _ => none
def go : Lk → List (Tm × Tm) → Option Lk
  | L, [] => some L
  | L, p :: r => match turn L p with
    | some L' => go L' r
    | none => none
theorem turn_ok {L : Lk} (a : acyc L = true) (p : Tm × Tm) : match turn L p with
    | some L' => acyc L' = true ∧ ∀ b, resp L' b = (resp L b && decide (val b p.1 = val b p.2))
    | none => ∀ b, (resp L b && decide (val b p.1 = val b p.2)) = false := by
  have E1 := led_ended a p.1
  have E2 := led_ended a p.2
  have V : ∀ b, resp L b = true → decide (val b p.1 = val b p.2) = decide (val b (led L p.1) = val b (led L p.2)) := fun b h => by rw [val_led h, val_led h]
  have W : ∀ b, (resp L b && decide (val b p.1 = val b p.2)) = (resp L b && decide (val b (led L p.1) = val b (led L p.2))) := fun b => by
    cases h : resp L b with
    | false => rfl
    | true => rw [V b h]
  unfold turn
  by_cases h : led L p.1 = led L p.2
  · rw [if_pos h]
    refine ⟨a, fun b => ?_⟩
    rw [W b, h]
    simp
  · rw [if_neg h]
    cases e : led L p.1 with
    | v i =>
      simp only
      rw [e] at E1 h
      refine ⟨acyc_set a E1 E2 (Ne.symm h), fun b => ?_⟩
      rw [resp_set E1, W b, e]
      rfl
    | k i =>
      simp only
      cases e2 : led L p.2 with
      | v j =>
        simp only
        rw [e2] at E2 h
        rw [e] at E1 h
        refine ⟨acyc_set a E2 E1 h, fun b => ?_⟩
        rw [resp_set E2, W b, e, e2]
        congr 1
        exact decide_eq_decide.mpr ⟨fun q => q.symm, fun q => q.symm⟩
      | k j =>
        simp only
        intro b
        rw [W b, e, e2]
        rw [e, e2] at h
        have n : ¬ (val b (.k i) = val b (.k j)) := fun q => h (congrArg Tm.k q)
        rw [decide_eq_false n, Bool.and_false]
theorem go_ok : ∀ (ps : List (Tm × Tm)) {L : Lk} (_ : acyc L = true), match go L ps with
    | some L' => acyc L' = true ∧ ∀ b, resp L' b = (resp L b && ps.all fun p => decide (val b p.1 = val b p.2))
    | none => ∀ b, (resp L b && ps.all fun p => decide (val b p.1 = val b p.2)) = false
  | [], L, a => ⟨a, fun b => by simp⟩
  | p :: r, L, a => by
    have t := turn_ok a p
    unfold go
    cases e : turn L p with
    | none =>
      rw [e] at t
      simp only
      intro b
      rw [List.all_cons, ← Bool.and_assoc, t b, Bool.false_and]
    | some L' =>
      rw [e] at t
      simp only
      obtain ⟨a', h⟩ := t
      have ih := go_ok r a'
      cases e2 : go L' r with
      | none =>
        rw [e2] at ih
        simp only at ih ⊢
        intro b
        rw [List.all_cons, ← Bool.and_assoc, ← h b, ih b]
      | some L2 =>
        rw [e2] at ih
        simp only at ih ⊢
        refine ⟨ih.1, fun b => ?_⟩
        rw [ih.2 b, List.all_cons, ← Bool.and_assoc, h b]
def alike (ts us : List Tm) : Option Lk := if ts.length ≠ us.length then none else go e0 (ts.zip us)
def agree (ts us : List Tm) (b : Tb) : Bool := decide (ts.map (val b) = us.map (val b))
def f3 : Nat → F3
  | 0 => .a | 1 => .b | _ => .c
def tbOf (n : Nat) : Tb := ⟨f3 (n % 3), f3 (n / 3 % 3), f3 (n / 9)⟩
def tabs : List Tb := (List.range 27).map tbOf
def fits (ts us : List Tm) : List Tb := tabs.filter (agree ts us)
theorem agree_zip {b : Tb} : ∀ {ts us : List Tm}, ts.length = us.length → agree ts us b = (ts.zip us).all fun p => decide (val b p.1 = val b p.2)
  | [], [], _ => rfl
  | t :: ts, u :: us, h => by
    have ih := agree_zip (b := b) (ts := ts) (us := us) (Nat.succ.inj h)
    unfold agree at ih ⊢
    rw [List.zip_cons_cons, List.all_cons, ← ih, List.map_cons, List.map_cons]
    by_cases e : val b t = val b u
    · by_cases e2 : ts.map (val b) = us.map (val b)
      · rw [decide_eq_true e, decide_eq_true e2, decide_eq_true (by rw [e, e2])]; rfl
      · rw [decide_eq_true e, decide_eq_false e2, decide_eq_false (fun q => e2 (List.cons.inj q).2)]; rfl
    · rw [decide_eq_false e, decide_eq_false (fun q => e (List.cons.inj q).1)]; rfl
theorem agree_len {b : Tb} {ts us : List Tm} (h : ts.length ≠ us.length) : agree ts us b = false := decide_eq_false fun q => h (by
  have z := congrArg List.length q
  rwa [List.length_map, List.length_map] at z)
theorem resp_e0 (b : Tb) : resp e0 b = true := rfl
theorem acyc_e0 : acyc e0 = true := by decide
theorem alike_ok (ts us : List Tm) : match alike ts us with
    | some L => acyc L = true ∧ ts.length = us.length ∧ ∀ b, resp L b = agree ts us b
    | none => ∀ b, agree ts us b = false := by
  unfold alike
  by_cases h : ts.length = us.length
  · rw [if_neg (by simp [h])]
    have g := go_ok (ts.zip us) acyc_e0
    cases e : go e0 (ts.zip us) with
    | none =>
      rw [e] at g
      simp only at g ⊢
      intro b
      rw [agree_zip h, ← g b, resp_e0, Bool.true_and]
    | some L =>
      rw [e] at g
      simp only at g ⊢
      refine ⟨g.1, h, fun b => ?_⟩
      rw [agree_zip h, g.2 b, resp_e0, Bool.true_and]
  · rw [if_pos h]
    exact fun b => agree_len h
theorem fits_none {ts us : List Tm} (h : alike ts us = none) : fits ts us = [] := by
  have q := alike_ok ts us
  rw [h] at q
  exact List.filter_eq_nil_iff.mpr fun b _ => by rw [q b]; decide
theorem fits_some {ts us : List Tm} {L : Lk} (h : alike ts us = some L) : fits ts us = tabs.filter (resp L) := by
  have q := alike_ok ts us
  rw [h] at q
  exact List.filter_congr fun b _ => (q.2.2 b).symm
def isV : Tm → Bool
  | .v _ => true
  | .k _ => false
/-- the ends that are names, each once, counted -/
def ends (L : Lk) : List Tm := [led L (.v .a), led L (.v .b), led L (.v .c)]
def freshAt (L : Lk) (i : Nat) (e : Tm) : Bool := isV e && !(((ends L).take i).any fun z => decide (z = e))
def cnt (L : Lk) : Nat → Nat
  | 0 => 0
  | i + 1 => cnt L i + (match (ends L)[i]? with
    | some e => if freshAt L i e = true then 1 else 0
    | none => 0)
def chk3 : Bool := allL.all fun L => !acyc L || decide (([1, 3, 9, 27] : List Nat)[cnt L 3]? = some (tabs.filter (resp L)).length)
theorem chk3_ok : chk3 = true := by decide +kernel
theorem free_count {L : Lk} (a : acyc L = true) : ([1, 3, 9, 27] : List Nat)[cnt L 3]? = some (tabs.filter (resp L)).length := of_decide_eq_true (of_chk chk3_ok a)
theorem cnt_step {L : Lk} {i : Nat} {e : Tm} (h : (ends L)[i]? = some e) : cnt L (i + 1) = cnt L i + if freshAt L i e = true then 1 else 0 := by
  show cnt L i + (match (ends L)[i]? with | some e => if freshAt L i e = true then 1 else 0 | none => 0) = _
  rw [h]
theorem fits_ne {L : Lk} (a : acyc L = true) : tabs.filter (resp L) ≠ [] := by
  intro e
  have q := free_count a
  rw [e] at q
  have : cnt L 3 < 4 := (List.getElem?_eq_some_iff.mp q).1
  match h : cnt L 3, this with
  | 0, _ => rw [h] at q; cases q
  | 1, _ => rw [h] at q; cases q
  | 2, _ => rw [h] at q; cases q
  | 3, _ => rw [h] at q; cases q
def chk4 : Bool := allL.all fun L => !acyc L || allT.all fun t => allT.all fun u => !ended L t || !ended L u || decide (t = u) || tabs.any fun b => resp L b && !decide (val b t = val b u)
theorem chk4_ok : chk4 = true := by decide +kernel
theorem ends_eq {L : Lk} (a : acyc L = true) {t u : Tm} (h1 : ended L t = true) (h2 : ended L u = true) (h : ∀ b, resp L b = true → val b t = val b u) : t = u := by
  have q := List.all_eq_true.mp (List.all_eq_true.mp (of_chk chk4_ok a) t (memT t)) u (memT u)
  rw [h1, h2] at q
  by_cases e : t = u
  · exact e
  · rw [decide_eq_false e] at q
    obtain ⟨b, _, hb⟩ := List.any_eq_true.mp q
    have hb2 := Bool.and_eq_true _ _ ▸ hb
    have := h b hb2.1
    rw [decide_eq_true this] at hb2
    exact absurd hb2.2 (by decide)
theorem put_eq {ts us : List Tm} {L : Lk} (h : alike ts us = some L) : ts.map (led L) = us.map (led L) := by
  have q := alike_ok ts us
  rw [h] at q
  obtain ⟨a, hl, hr⟩ := q
  refine List.ext_getElem? fun i => ?_
  rw [List.getElem?_map, List.getElem?_map]
  by_cases hi : i < ts.length
  · have hj : i < us.length := by omega
    rw [List.getElem?_eq_getElem hi, List.getElem?_eq_getElem hj]
    simp only [Option.map]
    congr 1
    refine ends_eq a (led_ended a _) (led_ended a _) fun b hb => ?_
    rw [val_led hb, val_led hb]
    have g := of_decide_eq_true ((hr b).symm.trans hb)
    have g1 : (ts.map (val b))[i]? = (us.map (val b))[i]? := by rw [g]
    rw [List.getElem?_map, List.getElem?_map, List.getElem?_eq_getElem hi, List.getElem?_eq_getElem hj] at g1
    exact Option.some.inj g1
  · rw [List.getElem?_eq_none (by omega), List.getElem?_eq_none (by omega)]
theorem fit_val {ts us : List Tm} {L : Lk} (h : alike ts us = some L) {b : Tb} (hb : b ∈ fits ts us) (i : F3) : val b (led L (.v i)) = b.get i := by
  rw [fits_some h] at hb
  exact val_led (List.mem_filter.mp hb).2 (.v i)
end U

set_option Elab.async false
set_option maxRecDepth 100000
set_option maxHeartbeats 4000000
namespace Toy
open PySem L2
open U (F3 Tm Lk Tb led ended acyc dist alike go turn)
theorem same_mut {H H' : Hp} {l : Addr} {o : HO} (s : Same H H') (h : H l = none) : Same H (upd H' l o) := fun b u e => by
  rw [upd_ne (ne_of_none e h)]
  exact s b u e
/-! ### terms as data -/
def cv : F3 → V
  | .a => .int 0 | .b => .int 1 | .c => .str "a"
def nmF : F3 → Str
  | .a => "X" | .b => "Y" | .c => "Z"
def nm : Tm → Str
  | .v i => nmF i | .k _ => ""
def vl : Tm → V
  | .v _ => .non | .k j => cv j
theorem nmF_inj {i j : F3} (h : nmF i = nmF j) : i = j := by
  cases i <;> cases j <;> first | rfl | (exact absurd h (by decide +kernel))
theorem nmF_ne (i : F3) : nmF i ≠ "" := by cases i <;> decide +kernel
theorem nm_var (t : Tm) : (!decide (nm t = "")) = U.isV t := by
  rcases t with i | j
  · show (!decide (nmF i = "")) = true
    rw [decide_eq_false (nmF_ne i)]; rfl
  · rfl
abbrev TAt (C : Addr) (H : Hp) (a : Addr) (t : Tm) : Prop := TmAt C H a (nm t) (vl t)
theorem TmAt.up {C : Addr} {H H' : Hp} {a : Addr} {n : Str} {v : V} (h : TmAt C H a n v) (s : Same H H') : TmAt C H' a n v := by
  obtain ⟨dx, e⟩ := h
  exact ⟨dx, s _ _ e⟩
theorem TmAt.mut {C : Addr} {H : Hp} {a l : Addr} {n : Str} {v : V} {o u : HO} (h : TmAt C H a n v) (hl : H l = some u) (hu : ∀ C dx fs, u ≠ .ins C dx fs) : TmAt C (upd H l o) a n v := by
  obtain ⟨dx, e⟩ := h
  exact ⟨dx, by rw [upd_ne (ne_of e hl (Ne.symm (hu _ _ _)))]; exact e⟩
/-- links of n entries at most -/
def LnAt (C : Addr) (H : Hp) (l : Addr) (L : Lk) (n : Nat) : Prop := ∃ kvs : List (Key × V), H l = some (.dK kvs) ∧ kvs.length ≤ n ∧ ∀ i : F3, match L.get i with
  | none => valV kvs (.inr (nmF i)) = none
  | some t => ∃ a, valV kvs (.inr (nmF i)) = some (.ref a) ∧ TAt C H a t
theorem LnAt.up {C : Addr} {H H' : Hp} {l : Addr} {L : Lk} {n : Nat} (h : LnAt C H l L n) (s : Same H H') : LnAt C H' l L n := by
  obtain ⟨kvs, e, hl, f⟩ := h
  refine ⟨kvs, s _ _ e, hl, fun i => ?_⟩
  have q := f i
  cases g : L.get i with
  | none => rw [g] at q; exact q
  | some t =>
    rw [g] at q
    obtain ⟨a, e1, e2⟩ := q
    exact ⟨a, e1, e2.up s⟩
theorem LnAt.mono {C : Addr} {H : Hp} {l : Addr} {L : Lk} {n m : Nat} (h : LnAt C H l L n) (hm : n ≤ m) : LnAt C H l L m := by
  obtain ⟨kvs, e, hl, f⟩ := h
  exact ⟨kvs, e, Nat.le_trans hl hm, f⟩
theorem get_set (L : Lk) (i j : F3) (t : Tm) : (L.set i t).get j = if j = i then some t else L.get j := by
  cases i <;> cases j <;> rfl
theorem LnAt.put {C : Addr} {H : Hp} {l a : Addr} {L : Lk} {n : Nat} {i : F3} {t : Tm} (h : LnAt C H l L n) (ha : TAt C H a t) (hn : n < sizeLine) :
    ∃ H', DPut H l (.str (nmF i)) (.ref a) H' ∧ LnAt C H' l (L.set i t) (n + 1) ∧ (∃ o, H' = upd H l o) := by
  obtain ⟨kvs, e, hl, f⟩ := h
  refine ⟨_, DPut.k (k := .inr (nmF i)) e (Nat.lt_of_le_of_lt hl hn), ⟨_, upd_same, ?_, fun j => ?_⟩, _, rfl⟩
  · have := length_putK kvs (Sum.inr (nmF i)) (V.ref a)
    omega
  · rw [get_set, valV_put]
    by_cases hj : j = i
    · subst hj
      rw [if_pos rfl, if_pos rfl]
      exact ⟨a, rfl, ha.mut e (fun _ _ _ q => nomatch q)⟩
    · have nk : ¬ ((Sum.inr (nmF j) : Key) = Sum.inr (nmF i)) := fun q => hj (nmF_inj (Sum.inr.inj q))
      rw [if_neg hj, if_neg nk]
      have q := f j
      cases g : L.get j with
      | none => rw [g] at q; exact q
      | some u =>
        rw [g] at q
        obtain ⟨b, e1, e2⟩ := q
        exact ⟨b, e1, e2.mut e (fun _ _ _ q => nomatch q)⟩
/-- a list of terms -/
def TsAt (C : Addr) (H : Hp) (p : Addr) (ts : List Tm) : Prop := ∃ as : List Addr, H p = some (.lst (as.map V.ref)) ∧ as.length = ts.length ∧ ∀ (i : Nat) (a : Addr) (t : Tm), as[i]? = some a → ts[i]? = some t → TAt C H a t
theorem TsAt.up {C : Addr} {H H' : Hp} {p : Addr} {ts : List Tm} (h : TsAt C H p ts) (s : Same H H') : TsAt C H' p ts := by
  obtain ⟨as, e, hl, f⟩ := h
  exact ⟨as, s _ _ e, hl, fun i a t e1 e2 => (f i a t e1 e2).up s⟩
/-- what a term shows, as data -/
def cvD : F3 → PyData
  | .a => .int 0 | .b => .int 1 | .c => .str "a"
def shD : Tm → PyData
  | .v i => .tuple [.str "var", .str (nmF i)]
  | .k j => .tuple [.str "val", cvD j]
theorem dp_cv {K : PySem.W.Frag} {H : Hp} (j : F3) : Dp K H (cv j) (cvD j) := by
  cases j
  · exact .int 0
  · exact .int 1
  · exact .str _
theorem dp_sh {K : PySem.W.Frag} {H : Hp} {q : Addr} {t : Tm} (h : H q = some (.tup (sh (nm t) (vl t)))) : Dp K H (.ref q) (shD t) := by
  rcases t with i | j
  · have e : sh (nm (.v i)) (vl (.v i)) = [.str "var", .str (nmF i)] := if_neg (nmF_ne i)
    rw [e] at h
    exact .tup (SqT.of h) (.cons (.str _) (.cons (.str _) .nil))
  · have e : sh (nm (.k j)) (vl (.k j)) = [.str "val", cv j] := if_pos rfl
    rw [e] at h
    exact .tup (SqT.of h) (.cons (.str _) (.cons (dp_cv j) .nil))
theorem sh_shaped (t : Tm) : SeqAt.shaped (shD t) = true := by
  rcases t with i | i <;> cases i <;> decide +kernel
theorem sh_eqv (t u : Tm) : PyData.eqv (shD t) (shD u) = decide (t = u) := by
  rcases t with i | i <;> rcases u with j | j <;> cases i <;> cases j <;> decide +kernel
def spLed (C : Addr) : Sp := fun vs H Q _ => ∃ (a l : Addr) (t : Tm) (L : Lk) (n : Nat), vs = [.ref a, .ref l] ∧ TAt C H a t ∧ LnAt C H l L n ∧ acyc L = true ∧ ∀ a', TAt C H a' (led L t) → Q (.ref a') H
/-- what made_alike gives -/
def MadeV (C : Addr) (H : Hp) : Option Lk → V → Prop
  | none, v => v = .non
  | some L, v => ∃ l, v = .ref l ∧ LnAt C H l L 8
def spMade (C : Addr) : Sp := fun vs H Q _ => ∃ (p q : Addr) (ts us : List Tm), vs = [.ref p, .ref q] ∧ TsAt C H p ts ∧ TsAt C H q us ∧ ts.length ≤ 8 ∧ ∀ v H', Same H H' → MadeV C H' (alike ts us) v → Q v H'
section
variable {P : Program} {w : World} {K : PySem.W.Frag} {mg : Str → Option Value} {base : Heap} {A : Ad}
theorem ok_led (T : Txt K mg A) : FnOk P w K mg base CX0 2 A.f_led_to A.d_led_to ["term", "links"] (spLed A.C_Term) := by
  have G_Term_is_variable : FnOk P w K mg base CX0 1 A.f_Term_is_variable A.d_Term_is_variable ["self"] (spIsVar A.C_Term) := ok_is_variable T
  refine T.F_led_to.ok sc_led_to (fun vs H Q E h => ?_) (fun cdv ar outer s H vs Q E hr h => ?_)
  · obtain ⟨a, l, t, L, n, rfl, _⟩ := h
    rfl
  · obtain ⟨a, l, t, L, n, rfl, ha, hL, ac, k⟩ := h
    have hu := hu_of hr
    refine ⟨_, (pss_cons (ps_while PassesOwn.never (PW.pt (pw_and (pt_val (pe_meth0 (pv 0) T.cl_Term T.e_Term_is_variable G_Term_is_variable (hr.mono (by decide)) T.b_Term_is_variable .nil pass0)) (pw_and1 (pt_cmp (pc_din hu (fldK K (pv 0) rfl) (pv 1))))))
        (pss_one (ps_set (i := 0) sc_led_to.nd rfl (Or.inl rfl) (pe_dget hu (pv 1) (fldK K (pv 0) rfl) (fun _ _ => rfl)))))
      (pss_one (ps_ret (pv 0)))), ?_⟩
    refine ⟨fun m σ H' => H' = H ∧ ∃ (a' : Addr) (t' : Tm), σ = [some (.ref a'), some (.ref l)] ∧ TAt A.C_Term H a' t' ∧ led L t' = led L t ∧ m = dist L t', ⟨_, rfl, a, t, rfl, ha, rfl, rfl⟩, ?_⟩
    rintro m σ H' ⟨rfl, a', t', rfl, ha', et, rfl⟩
    obtain ⟨dx, hp⟩ := id ha'
    refine ⟨_, rfl, a', dx, _, rfl, hp, no_isv _ _, a', _, _, rfl, ha', _, rfl, ?_⟩
    rw [nm_var]
    have done : ended L t' = true → ∃ v, [some (V.ref a'), some (V.ref l)][0]? = some (some v) ∧ Q v H' := fun he => by
      have e2 : led L t = t' := by rw [← et]; exact U.led_self ac he
      refine ⟨_, rfl, k a' ?_⟩
      rw [e2]
      exact ha'
    rcases t' with i | j
    · refine iteT ?_
      obtain ⟨kvs, hk, hlen, f⟩ := id hL
      refine ⟨_, rfl, a', _, dx, _, _, rfl, hp, T.cl_Term, T.n_Term_name, tf_name _ _, _, rfl, l, _, rfl, DGet.k (k := .inr (nmF i)) hk, _, rfl, ?_⟩
      have q := f i
      cases g : L.get i with
      | none =>
        rw [g] at q
        rw [q]
        exact iteF (done (by show (L.get i).isNone = true; rw [g]; rfl))
      | some t2 =>
        rw [g] at q
        obtain ⟨a2, e1, e2⟩ := q
        have ne : ended L (.v i) = false := by show (L.get i).isNone = false; rw [g]; rfl
        have st : U.step L (.v i) = t2 := by show (L.get i).getD (.v i) = t2; rw [g]; rfl
        obtain ⟨s1, s2⟩ := U.led_step ac ne
        rw [st] at s1 s2
        rw [e1]
        refine iteT ⟨fun σ' H2 => H2 = H' ∧ ∃ (a' : Addr) (t' : Tm), σ' = [some (.ref a'), some (.ref l)] ∧ TAt A.C_Term H' a' t' ∧ led L t' = led L t ∧ dist L t' < dist L (.v i), ?_, ?_⟩
        · rintro σ' H2 ⟨rfl, b, u, rfl, hb, hu, hd⟩
          exact ⟨_, hd, rfl, b, u, rfl, hb, hu, rfl⟩
        · refine ⟨_, rfl, _, rfl, a', _, dx, _, _, rfl, hp, T.cl_Term, T.n_Term_name, tf_name _ _, l, .ref a2, rfl, ?_, ?_⟩
          · have := DGet.k (k := .inr (nmF i)) hk
            rw [e1] at this
            exact this
          · exact ⟨rfl, a2, t2, rfl, e2, s1.trans et, s2⟩
    · exact iteF (iteF (done rfl))
theorem ok_made (T : Txt K mg A) : FnOk P w K mg base CX0 3 A.f_made_alike A.d_made_alike ["one", "other"] (spMade A.C_Term) := by
  have G_Term_is_variable : FnOk P w K mg base CX0 1 A.f_Term_is_variable A.d_Term_is_variable ["self"] (spIsVar A.C_Term) := ok_is_variable T
  have G_Term_shown : FnOk P w K mg base CX0 2 A.f_Term_shown A.d_Term_shown ["self"] (spShown A.C_Term) := ok_shown T
  have G_led_to : FnOk P w K mg base CX0 2 A.f_led_to A.d_led_to ["term", "links"] (spLed A.C_Term) := ok_led T
  refine T.F_made_alike.ok sc_made_alike (fun vs H Q E h => ?_) (fun cdv ar outer s H vs Q E hr h => ?_)
  · obtain ⟨p, q, ts, us, rfl, _⟩ := h
    rfl
  · obtain ⟨p, q, ts, us, rfl, hp, hq, h8, k⟩ := h
    have k1 : alike ts us = none → ∀ H', Same H H' → Q .non H' := fun e H' s => k _ H' s (by rw [e]; rfl)
    have k2 : ∀ L, alike ts us = some L → ∀ l H', Same H H' → LnAt A.C_Term H' l L 8 → Q (.ref l) H' := fun L e l H' s h => k _ H' s (by rw [e]; exact ⟨l, rfl, h⟩)
    have hu := hu_of hr
    refine ⟨_, (pss_cons (ps_if (pt_cmpR op_ne (pe_callB (lenK K) (by rfl) T.z_len (by decide +kernel) (pa_cons (pv 0) pa_nil)) (pe_callB (lenK K) (by rfl) T.z_len (by decide +kernel) (pa_cons (pv 1) pa_nil)) (nomark _))
        (pss_one (ps_ret pe_non))
        pss_nil)
      (pss_cons (ps_set (i := 2) sc_made_alike.nd rfl (Or.inl rfl) pe_dnewK)
      (pss_cons (ps_for PassesOwn.never rfl (zipK K (by rfl) T.z_zip (pa_cons (pv 0) (pa_cons (pv 1) pa_nil))) (tupK K (n := 2) rfl (pgs_cons (pg_name (i := 3) sc_made_alike.nd rfl (Or.inl rfl)) (pgs_cons (pg_name (i := 4) sc_made_alike.nd rfl (Or.inl rfl)) pgs_nil)))
        (pss_cons (ps_par (i := 5) (j := 6) (by rfl) sc_made_alike.nd rfl rfl (by decide) rfl rfl (pa_cons (pe_call G_led_to (hr.mono (by decide)) (by rfl) T.m_led_to T.F_led_to.kp T.b_led_to .nil pass0 (pa_cons (pv 3) (pa_cons (pv 2) pa_nil))) (pa_cons (pe_call G_led_to (hr.mono (by decide)) (by rfl) T.m_led_to T.F_led_to.kp T.b_led_to .nil pass0 (pa_cons (pv 4) (pa_cons (pv 2) pa_nil))) pa_nil)) (by rfl))
        (pss_cons (ps_if (pt_cmpR (eqD K hr.units) (pe_meth0 (pv 5) T.cl_Term T.e_Term_shown G_Term_shown (hr.mono (by decide)) T.b_Term_shown .nil pass0) (pe_meth0 (pv 6) T.cl_Term T.e_Term_shown G_Term_shown (hr.mono (by decide)) T.b_Term_shown .nil pass0) (nomark _))
          (pss_one ps_continue)
          pss_nil)
        (pss_one (ps_if (pt_val (pe_meth0 (pv 5) T.cl_Term T.e_Term_is_variable G_Term_is_variable (hr.mono (by decide)) T.b_Term_is_variable .nil pass0))
          (pss_one (ps_dput hu (pv 2) (fldK K (pv 5) rfl) (pv 6) rfl))
          (pss_one (ps_if (pt_val (pe_meth0 (pv 6) T.cl_Term T.e_Term_is_variable G_Term_is_variable (hr.mono (by decide)) T.b_Term_is_variable .nil pass0))
            (pss_one (ps_dput hu (pv 2) (fldK K (pv 6) rfl) (pv 5) rfl))
            (pss_one (ps_ret pe_non)))))))))
      (pss_one (ps_ret (pv 2)))))), ?_⟩
    obtain ⟨as, ep, lp, fp⟩ := id hp
    obtain ⟨bs, eq, lq, fq⟩ := id hq
    refine ⟨_, rfl, p, _, rfl, .inl (SqL.of ep), _, rfl, q, _, rfl, .inl (SqL.of eq), rfl, _, rfl, ?_⟩
    rw [dec_int, List.length_map, List.length_map, lp, lq]
    refine iteND (fun hne => ?_) (fun heq => ?_)
    · exact k1 (if_pos (fun z => hne (by rw [z]))) H (Same.refl H)
    · have heq : ts.length = us.length := by omega
      refine fun l hl => ?_
      have al : alike ts us = go U.e0 (ts.zip us) := if_neg (fun z => z heq)
      refine ⟨_, rfl, _, rfl, p, q, _, _, rfl, SqL.of (by rw [upd_ne (ne_of_none ep hl)]; exact ep), SqL.of (by rw [upd_ne (ne_of_none eq hl)]; exact eq), ?_⟩
      refine RZ.for_zipL (K := K) (xs := as.map V.ref) (ys := bs.map V.ref) (by rw [List.length_map, List.length_map]; omega)
        (fun i σ H' => i ≤ ts.length ∧ Same H H' ∧ (∃ v3 v4 v5 v6, σ = [some (.ref p), some (.ref q), some (.ref l), v3, v4, v5, v6]) ∧ ∃ L, LnAt A.C_Term H' l L i ∧ acyc L = true ∧ go L ((ts.zip us).drop i) = go U.e0 (ts.zip us))
        ⟨Nat.zero_le _, same_new hl, ⟨_, _, _, _, rfl⟩, U.e0, ⟨[], upd_same, Nat.le_refl _, fun i => by cases i <;> rfl⟩, U.acyc_e0, rfl⟩
        (fun i σ H' h => ⟨SqL.of (h.2.1 _ _ ep), SqL.of (h.2.1 _ _ eq)⟩) ?_ ?_
      · rintro i x y T0 σ H' hx hy ⟨hi, s1, ⟨v3, v4, v5, v6, rfl⟩, L, hL, ac, hg⟩ hT
        rw [List.getElem?_map] at hx hy
        cases ea : as[i]? with
        | none => rw [ea] at hx; cases hx
        | some a =>
        cases eb : bs[i]? with
        | none => rw [eb] at hy; cases hy
        | some b =>
        rw [ea] at hx
        rw [eb] at hy
        cases hx
        cases hy
        have ia : i < ts.length := by rw [← lp]; exact (List.getElem?_eq_some_iff.mp ea).1
        have ib : i < us.length := by omega
        obtain ⟨t, et⟩ : ∃ t, ts[i]? = some t := ⟨_, List.getElem?_eq_getElem ia⟩
        obtain ⟨u, eu⟩ : ∃ u, us[i]? = some u := ⟨_, List.getElem?_eq_getElem ib⟩
        have s2 : Same H (upd H' T0 (.tup [.ref a, .ref b])) := s1.trans (same_new hT)
        have s12 : Same H' (upd H' T0 (.tup [.ref a, .ref b])) := same_new hT
        have ha := (fp i a t ea et).up s2
        have hb := (fq i b u eb eu).up s2
        have hL2 := hL.up s12
        have ez : (ts.zip us).drop i = (t, u) :: (ts.zip us).drop (i + 1) := by
          have hz : i < (ts.zip us).length := by rw [List.length_zip]; omega
          rw [List.drop_eq_getElem_cons hz, List.getElem_zip]
          congr 1
          rw [List.getElem?_eq_getElem ia] at et
          rw [List.getElem?_eq_getElem ib] at eu
          rw [Option.some.inj et, Option.some.inj eu]
        rw [ez] at hg
        have hT2 : upd H' T0 (.tup [.ref a, .ref b]) T0 = some (.tup [.ref a, .ref b]) := upd_same
        generalize upd H' T0 (.tup [.ref a, .ref b]) = H2 at s2 s12 ha hb hL2 hT2 ⊢
        refine ⟨T0, _, rfl, SqT.of hT2, rfl, _, _, rfl, _, _, rfl, rfl, ?_⟩
        refine ⟨_, rfl, _, rfl, a, l, t, L, i, rfl, ha, hL2, ac, fun a5 h5 => ?_⟩
        refine ⟨_, rfl, _, rfl, b, l, u, L, i, rfl, hb, hL2, ac, fun a6 h6 => ?_⟩
        refine ⟨_, _, rfl, ?_⟩
        obtain ⟨d5, g5⟩ := id h5
        refine ⟨_, rfl, a5, d5, _, rfl, g5, no_shown _ _, a5, _, _, rfl, h5, fun q1 hq1 => ?_⟩
        have s3 : Same H2 (upd H2 q1 (.tup (sh (nm (led L t)) (vl (led L t))))) := same_new hq1
        have h61 := h6.up s3
        obtain ⟨d6, g6⟩ := id h61
        refine ⟨_, rfl, a6, d6, _, rfl, g6, no_shown _ _, a6, _, _, rfl, h61, fun q2 hq2 => ?_⟩
        have s4 := same_new (o := .tup (sh (nm (led L u)) (vl (led L u)))) hq2
        refine ⟨shD (led L t), shD (led L u), dp_sh (s4 _ _ upd_same), dp_sh upd_same, sh_shaped _, sh_shaped _, _, rfl, ?_⟩
        rw [sh_eqv]
        have s5 := s3.trans s4
        generalize upd (upd H2 q1 _) q2 _ = H3 at s5 ⊢
        have s6 : Same H H3 := s2.trans s5
        have hL3 := hL2.up s5
        have h53 := h5.up s5
        have h63 := h6.up s5
        obtain ⟨d5, g5⟩ := id h53
        obtain ⟨d6, g6⟩ := id h63
        have tn : go L ((t, u) :: (ts.zip us).drop (i + 1)) = match turn L (t, u) with | some L' => go L' ((ts.zip us).drop (i + 1)) | none => none := rfl
        refine iteD (fun he => ?_) (fun he => ?_)
        · have tt : turn L (t, u) = some L := if_pos he
          rw [tn, tt] at hg
          exact ⟨by omega, s6, ⟨_, _, _, _, rfl⟩, L, hL3.mono (Nat.le_succ i), ac, hg⟩
        · refine ⟨_, rfl, a5, d5, _, rfl, g5, no_isv _ _, a5, _, _, rfl, h53, _, rfl, ?_⟩
          rw [nm_var]
          have tm := U.turn_ok ac (t, u)
          have t0 : turn L (t, u) = match led L t with | .v i => some (L.set i (led L u)) | .k _ => match led L u with | .v j => some (L.set j (led L t)) | .k _ => none := if_neg he
          cases e5 : led L t with
          | v i5 =>
            refine iteT ?_
            rw [e5] at t0 h53 g5
            have t0 : turn L (t, u) = some (L.set i5 (led L u)) := t0
            rw [t0] at tm
            rw [tn, t0] at hg
            obtain ⟨H4, p4, hL4, o4, e4⟩ := hL3.put (i := i5) h63 (Nat.lt_of_lt_of_le ia (Nat.le_trans h8 (by decide)))
            refine ⟨_, rfl, _, rfl, _, rfl, a5, _, d5, _, _, rfl, g5, T.cl_Term, T.n_Term_name, tf_name _ _, l, H4, rfl, p4, ?_⟩
            exact ⟨by omega, by rw [e4]; exact same_mut s6 hl, ⟨_, _, _, _, rfl⟩, _, hL4, tm.1, hg⟩
          | k j5 =>
            refine iteF ?_
            refine ⟨_, rfl, a6, d6, _, rfl, g6, no_isv _ _, a6, _, _, rfl, h63, _, rfl, ?_⟩
            rw [nm_var]
            rw [e5] at t0
            cases e6 : led L u with
            | v j6 =>
              refine iteT ?_
              rw [e6] at t0 h63 g6
              have t0 : turn L (t, u) = some (L.set j6 (.k j5)) := t0
              rw [t0] at tm
              rw [tn, t0] at hg
              rw [e5] at h53
              obtain ⟨H4, p4, hL4, o4, e4⟩ := hL3.put (i := j6) h53 (Nat.lt_of_lt_of_le ia (Nat.le_trans h8 (by decide)))
              refine ⟨_, rfl, _, rfl, _, rfl, a6, _, d6, _, _, rfl, g6, T.cl_Term, T.n_Term_name, tf_name _ _, l, H4, rfl, p4, ?_⟩
              exact ⟨by omega, by rw [e4]; exact same_mut s6 hl, ⟨_, _, _, _, rfl⟩, _, hL4, tm.1, hg⟩
            | k j6 =>
              refine iteF ?_
              rw [e6] at t0
              have t0 : turn L (t, u) = none := t0
              rw [tn, t0] at hg
              exact k1 (al.trans hg.symm) _ s6
      · rintro σ H' ⟨hi, s1, ⟨v3, v4, v5, v6, rfl⟩, L, hL, ac, hg⟩
        rw [List.length_map, lp] at hg hL
        rw [List.drop_of_length_le (by rw [List.length_zip]; omega)] at hg
        exact ⟨_, rfl, k2 L (al.trans hg.symm) l H' s1 (hL.mono h8)⟩
end
end Toy

set_option Elab.async false
set_option maxRecDepth 100000
set_option maxHeartbeats 4000000
namespace Toy
open PySem L2
open U (F3 Tm Lk Tb led ended acyc dist alike go turn)
/-! ### many at once -/
def All2 {α : Type} (R : Addr → α → Prop) (as : List Addr) (ts : List α) : Prop := as.length = ts.length ∧ ∀ (i : Nat) (a : Addr) (t : α), as[i]? = some a → ts[i]? = some t → R a t
theorem All2.nil {α : Type} {R : Addr → α → Prop} : All2 R [] [] := ⟨rfl, fun i a t h => by simp at h⟩
theorem All2.imp {α : Type} {R S : Addr → α → Prop} {as : List Addr} {ts : List α} (h : All2 R as ts) (f : ∀ a t, R a t → S a t) : All2 S as ts := ⟨h.1, fun i a t e1 e2 => f a t (h.2 i a t e1 e2)⟩
theorem All2.snoc {α : Type} {R : Addr → α → Prop} {as : List Addr} {ts : List α} (h : All2 R as ts) {a : Addr} {t : α} (r : R a t) : All2 R (as ++ [a]) (ts ++ [t]) := by
  refine ⟨by rw [List.length_append, List.length_append, h.1]; rfl, fun i b u e1 e2 => ?_⟩
  by_cases hi : i < as.length
  · rw [List.getElem?_append_left hi] at e1
    rw [List.getElem?_append_left (by rw [← h.1]; exact hi)] at e2
    exact h.2 i b u e1 e2
  · have hi2 : i = as.length := by
      have := (List.getElem?_eq_some_iff.mp e1).1
      rw [List.length_append] at this
      have : i < as.length + 1 := this
      omega
    subst hi2
    rw [List.getElem?_append_right (Nat.le_refl _), Nat.sub_self] at e1
    rw [List.getElem?_append_right (by rw [← h.1]; exact Nat.le_refl _), ← h.1, Nat.sub_self] at e2
    cases e1
    cases e2
    exact r
theorem All2.cons {α : Type} {R : Addr → α → Prop} {as : List Addr} {ts : List α} {a : Addr} {t : α} (r : R a t) (h : All2 R as ts) : All2 R (a :: as) (t :: ts) := by
  refine ⟨congrArg Nat.succ h.1, fun i b u e1 e2 => ?_⟩
  cases i with
  | zero => cases e1; cases e2; exact r
  | succ i => exact h.2 i b u e1 e2
theorem All2.tail {α : Type} {R : Addr → α → Prop} {as : List Addr} {ts : List α} {a : Addr} {t : α} (h : All2 R (a :: as) (t :: ts)) : R a t ∧ All2 R as ts :=
  ⟨h.2 0 a t rfl rfl, Nat.succ.inj h.1, fun i b u e1 e2 => h.2 (i + 1) b u e1 e2⟩
theorem All2.take {α : Type} {R : Addr → α → Prop} {as : List Addr} {ts : List α} (h : All2 R as ts) (n : Nat) : All2 R (as.take n) (ts.take n) := by
  refine ⟨by rw [List.length_take, List.length_take, h.1], fun i b u e1 e2 => ?_⟩
  rw [List.getElem?_take] at e1 e2
  by_cases hi : i < n
  · rw [if_pos hi] at e1 e2
    exact h.2 i b u e1 e2
  · rw [if_neg hi] at e1
    cases e1
theorem All2.app {α : Type} {R : Addr → α → Prop} : ∀ {bs : List Addr} {us : List α} {as : List Addr} {ts : List α}, All2 R as ts → All2 R bs us → All2 R (as ++ bs) (ts ++ us)
  | [], [], _, _, h, _ => by rw [List.append_nil, List.append_nil]; exact h
  | b :: bs, u :: us, as, ts, h, g => by
    obtain ⟨r, g⟩ := g.tail
    have := All2.app (h.snoc r) g
    rw [List.append_assoc, List.append_assoc] at this
    exact this
  | [], _ :: _, _, _, _, g => nomatch g.1
  | _ :: _, [], _, _, _, g => nomatch g.1
theorem All2.at {α : Type} {R : Addr → α → Prop} {as : List Addr} {ts : List α} (h : All2 R as ts) {i : Nat} {x : V} (hx : (as.map V.ref)[i]? = some x) : ∃ a t, x = .ref a ∧ as[i]? = some a ∧ ts[i]? = some t ∧ R a t := by
  rw [List.getElem?_map] at hx
  cases e : as[i]? with
  | none => rw [e] at hx; cases hx
  | some a =>
    rw [e] at hx
    cases hx
    have hi : i < ts.length := by rw [← h.1]; exact (List.getElem?_eq_some_iff.mp e).1
    exact ⟨a, ts[i], rfl, rfl, List.getElem?_eq_getElem hi, h.2 i a _ e (List.getElem?_eq_getElem hi)⟩
theorem TsAt.all {C : Addr} {H : Hp} {p : Addr} {ts : List Tm} : TsAt C H p ts ↔ ∃ as : List Addr, H p = some (.lst (as.map V.ref)) ∧ All2 (fun a t => TAt C H a t) as ts := Iff.rfl
/-- a tuple as drawn, or as shown -/
abbrev EncAt (H : Hp) (a : Addr) (t : Tm) : Prop := H a = some (.tup (sh (nm t) (vl t)))
theorem take_one {α : Type} {l : List α} {i : Nat} {x : α} (h : l[i]? = some x) : l.take (i + 1) = l.take i ++ [x] := by
  rw [List.take_add_one, h]
  rfl
theorem sz {n : Nat} (h : n ≤ 1000) : n < sizeLine := small1000 h
theorem sz' {n : Nat} (h : n ≤ 1000) : n ≤ sizeLine := Nat.le_of_lt (small1000 h)
def spPut (C : Addr) : Sp := fun vs H Q _ => ∃ (p l : Addr) (ts : List Tm) (L : Lk) (n : Nat), vs = [.ref p, .ref l] ∧ TsAt C H p ts ∧ ts.length ≤ 8 ∧ LnAt C H l L n ∧ acyc L = true ∧
  ∀ q (as : List Addr) H', Same H H' → H' q = some (.tup (as.map V.ref)) → All2 (fun a t => TAt C H' a t) as (ts.map (led L)) → Q (.ref q) H'
def spShAll (C : Addr) : Sp := fun vs H Q _ => ∃ (q : Addr) (as : List Addr) (ts : List Tm), vs = [.ref q] ∧ H q = some (.tup (as.map V.ref)) ∧ All2 (fun a t => TAt C H a t) as ts ∧ ts.length ≤ 8 ∧
  ∀ r (bs : List Addr) H', Same H H' → H' r = some (.tup (bs.map V.ref)) → All2 (EncAt H') bs ts → Q (.ref r) H'
theorem dp_all {K : PySem.W.Frag} {H : Hp} : ∀ {bs : List Addr} {ts : List Tm}, All2 (EncAt H) bs ts → DpAll K H (bs.map V.ref) (ts.map shD)
  | [], [], _ => .nil
  | b :: bs, t :: ts, h => by
    obtain ⟨r, h⟩ := h.tail
    exact .cons (dp_sh r) (dp_all h)
  | [], _ :: _, g => nomatch g.1
  | _ :: _, [], g => nomatch g.1
section
variable {P : Program} {w : World} {K : PySem.W.Frag} {mg : Str → Option Value} {base : Heap} {A : Ad}
theorem ok_put (T : Txt K mg A) : FnOk P w K mg base CX0 3 A.f_put_in A.d_put_in ["terms", "links"] (spPut A.C_Term) := by
  have G_led_to : FnOk P w K mg base CX0 2 A.f_led_to A.d_led_to ["term", "links"] (spLed A.C_Term) := ok_led T
  refine T.F_put_in.ok sc_put_in (fun vs H Q E h => ?_) (fun cdv ar outer s H vs Q E hr h => ?_)
  · obtain ⟨p, l, ts, L, n, rfl, _⟩ := h
    rfl
  · obtain ⟨p, l, ts, L, n, rfl, hp, h8, hL, ac, k⟩ := h
    refine ⟨_, (pss_one (ps_ret (pe_callTy (tupOf K) (by rfl) T.z_tuple (by decide +kernel) (pa_cons (pe_lc (own := [("term", 2)]) (by rfl) sc_put_in.nd (listK K (pv 0)) (blkOk_by (own := [("term", 2)]) (N := N_put_in) (sc := defScope s_put_in) (by decide +kernel)) (fun _ _ _ _ _ => (pg_name (i := 2) sc_put_in.nd rfl (Or.inl rfl))) (fun _ _ _ _ _ => pts_nil) (fun _ _ _ _ _ => (pe_call G_led_to (hr.mono (by decide)) (by rfl) T.m_led_to T.F_led_to.kp T.b_led_to .nil pass0 (pa_cons (pv 2) (pa_cons (pv 1) pa_nil))))) pa_nil)))), ?_⟩
    obtain ⟨as, ep, fp⟩ := id hp
    have fp : All2 (fun a t => TAt A.C_Term H a t) as ts := fp
    refine ⟨_, rfl, p, rfl, ⟨_, SqL.of ep⟩, fun D hD => ?_⟩
    refine lc_list (K := K) (a := p) (xs := as.map V.ref) (fun i H' => Same H H' ∧ ∃ bs : List Addr, H' D = some (.lst (bs.map V.ref)) ∧ All2 (fun a t => TAt A.C_Term H' a t) bs ((ts.map (led L)).take i))
      ⟨same_new hD, [], upd_same, .nil⟩ (fun i H' _ h => SqL.of (h.1 _ _ ep)) ?_ ?_
    · rintro i x H' hx ⟨s1, bs, eD, hb⟩
      obtain ⟨a, t, rfl, ea, et, ha⟩ := fp.at hx
      refine ⟨rfl, _, rfl, _, rfl, a, l, t, L, n, rfl, ha.up s1, hL.up s1, ac, fun a' h' => ?_⟩
      have hl : bs.length ≤ 8 := by
        rw [hb.1, List.length_take, List.length_map]
        omega
      refine ⟨_, eD, by rw [List.length_map]; exact sz (by omega), same_mut s1 hD, bs ++ [a'], by rw [upd_same, List.map_append]; rfl, ?_⟩
      rw [take_one (x := led L t) (by rw [List.getElem?_map, et]; rfl)]
      exact (hb.snoc h').imp fun a t h => h.mut eD (fun _ _ _ q => nomatch q)
    · rintro H' ⟨s1, bs, eD, hb⟩
      rw [List.length_map, fp.1, List.take_of_length_le (by rw [List.length_map]; exact Nat.le_refl _)] at hb
      refine ⟨D, _, rfl, .inl ⟨SqL.of eD, fun q hq => ?_⟩⟩
      exact k q bs _ (s1.trans (same_new hq)) upd_same (hb.imp fun a t h => h.up (same_new hq))
theorem ok_shall (T : Txt K mg A) : FnOk P w K mg base CX0 3 A.f_shown_all A.d_shown_all ["terms"] (spShAll A.C_Term) := by
  have G_Term_shown : FnOk P w K mg base CX0 2 A.f_Term_shown A.d_Term_shown ["self"] (spShown A.C_Term) := ok_shown T
  refine T.F_shown_all.ok sc_shown_all (fun vs H Q E h => ?_) (fun cdv ar outer s H vs Q E hr h => ?_)
  · obtain ⟨q, as, ts, rfl, _⟩ := h
    rfl
  · obtain ⟨q, as, ts, rfl, eq, fq, h8, k⟩ := h
    refine ⟨_, (pss_one (ps_ret (pe_callTy (tupOf K) (by rfl) T.z_tuple (by decide +kernel) (pa_cons (pe_lc (own := [("term", 1)]) (by rfl) sc_shown_all.nd (tupIK K (pv 0)) (blkOk_by (own := [("term", 1)]) (N := N_shown_all) (sc := defScope s_shown_all) (by decide +kernel)) (fun _ _ _ _ _ => (pg_name (i := 1) sc_shown_all.nd rfl (Or.inl rfl))) (fun _ _ _ _ _ => pts_nil) (fun _ _ _ _ _ => (pe_meth0 (pv 1) T.cl_Term T.e_Term_shown G_Term_shown (hr.mono (by decide)) T.b_Term_shown .nil pass0))) pa_nil)))), ?_⟩
    refine ⟨_, rfl, q, rfl, ⟨_, SqT.of eq⟩, fun D hD => ?_⟩
    refine lc_tup (K := K) (a := q) (xs := as.map V.ref) (fun i H' => Same H H' ∧ ∃ bs : List Addr, H' D = some (.lst (bs.map V.ref)) ∧ All2 (EncAt H') bs (ts.take i))
      ⟨same_new hD, [], upd_same, .nil⟩ (fun i H' _ h => SqT.of (h.1 _ _ eq)) ?_ ?_
    · rintro i x H' hx ⟨s1, bs, eD, hb⟩
      obtain ⟨a, t, rfl, ea, et, ha⟩ := fq.at hx
      have ha1 := ha.up s1
      obtain ⟨dx, g⟩ := id ha1
      refine ⟨rfl, _, rfl, a, dx, _, rfl, g, no_shown _ _, a, _, _, rfl, ha1, fun r hr => ?_⟩
      have nDr : D ≠ r := ne_of_none eD hr
      have hl : bs.length ≤ 8 := by
        rw [hb.1, List.length_take]
        omega
      have eD2 : upd H' r (.tup (sh (nm t) (vl t))) D = some (.lst (bs.map V.ref)) := by rw [upd_ne nDr]; exact eD
      refine ⟨_, eD2, by rw [List.length_map]; exact sz (by omega), same_mut (s1.trans (same_new hr)) hD, bs ++ [r], by rw [upd_same, List.map_append]; rfl, ?_⟩
      rw [take_one et]
      have hb2 : All2 (EncAt (upd H' r (.tup (sh (nm t) (vl t))))) (bs ++ [r]) (ts.take i ++ [t]) := (hb.imp fun a t h => same_new hr _ _ h).snoc upd_same
      exact hb2.imp fun a t h => by
        show upd _ D _ a = _
        rw [upd_ne (ne_of h eD2 (fun q => nomatch q))]
        exact h
    · rintro H' ⟨s1, bs, eD, hb⟩
      rw [List.length_map, fq.1, List.take_of_length_le (Nat.le_refl _)] at hb
      refine ⟨D, _, rfl, .inl ⟨SqL.of eD, fun r hr => ?_⟩⟩
      exact k r bs _ (s1.trans (same_new hr)) upd_same (hb.imp fun a t h => same_new hr _ _ h)
end
end Toy

set_option Elab.async false
set_option maxRecDepth 100000
set_option maxHeartbeats 4000000
namespace Toy
open PySem L2
open U (F3 Tm Lk Tb led ended acyc dist alike go turn)
/-- all but the dice stands -/
def SameX (d : Addr) (H H' : Hp) : Prop := ∀ b o, H b = some o → b ≠ d → H' b = some o
theorem Same.x {H H' : Hp} {d : Addr} (h : Same H H') : SameX d H H' := fun b o e _ => h b o e
theorem SameX.refl (d : Addr) (H : Hp) : SameX d H H := fun _ _ e _ => e
theorem SameX.trans {H H1 H2 : Hp} {d : Addr} (a : SameX d H H1) (b : SameX d H1 H2) : SameX d H H2 := fun c o e n => b c o (a c o e n) n
theorem SameX.free {H H' : Hp} {d a : Addr} (e : SameX d H H') (n : a ≠ d) (h : H' a = none) : H a = none := by
  cases q : H a with
  | none => rfl
  | some o => rw [e a o q n] at h; cases h
theorem DiceAt.up {H H' : Hp} {d : Addr} (h : DiceAt H d) (s : Same H H') : DiceAt H' d := by
  obtain ⟨x, y, z, e⟩ := h
  exact ⟨x, y, z, s _ _ e⟩
theorem DiceAt.up1 {H : Hp} {d p : Addr} {o : HO} (h : DiceAt H d) (n : d ≠ p) : DiceAt (upd H p o) d := by
  obtain ⟨x, y, z, e⟩ := h
  exact ⟨x, y, z, by rw [upd_ne n]; exact e⟩
theorem DiceAt.ne {H : Hp} {d p : Addr} (h : DiceAt H d) (hp : H p = none) : d ≠ p := by
  obtain ⟨x, y, z, e⟩ := h
  exact ne_of_none e hp
theorem DiceAt.ne_tup {H : Hp} {d p : Addr} {xs : List V} (h : DiceAt H d) (hp : H p = some (.tup xs)) : p ≠ d := by
  obtain ⟨x, y, z, e⟩ := h
  exact ne_of hp e (fun q => nomatch q)
theorem sx_of {H H' : Hp} {d : Addr} (f : ∀ b, b ≠ d → H' b = H b) : SameX d H H' := fun b o e n => (f b n).trans e
def spMake (C : Addr) : Sp := fun vs H Q _ => ∃ (a : Addr) (t : Tm), vs = [.ref a] ∧ EncAt H a t ∧ ∀ x H', H x = none → TAt C H' x t → Same H H' → Q (.ref x) H'
def spDrawn : Sp := fun vs H Q _ => ∃ d : Addr, vs = [.ref d] ∧ DiceAt H d ∧ ∀ (p : Addr) (as : List Addr) (ts : List Tm) (H' : Hp), SameX d H H' → DiceAt H' d → H p = none → p ≠ d → H' p = some (.lst (as.map V.ref)) → All2 (EncAt H') as ts → ts.length ≤ 4 → Q (.ref p) H'
section
variable {P : Program} {w : World} {K : PySem.W.Frag} {mg : Str → Option Value} {base : Heap} {A : Ad}
theorem sh_v (i : F3) : sh (nm (.v i)) (vl (.v i)) = [.str "var", .str (nmF i)] := if_neg (nmF_ne i)
theorem sh_k (j : F3) : sh (nm (.k j)) (vl (.k j)) = [.str "val", cv j] := if_pos rfl
theorem ok_make (T : Txt K mg A) : FnOk P w K mg base CX0 4 A.f_l_make A.d_l_make ["term"] (spMake A.C_Term) := by
  have G_var : FnOk P w K mg base CX0 3 A.f_var A.d_var ["name"] (spVar A.C_Term) := ok_var T
  have G_val : FnOk P w K mg base CX0 3 A.f_val A.d_val ["value"] (spVal A.C_Term) := ok_val T
  refine T.F_l_make.ok sc_l_make (fun vs H Q E h => ?_) (fun cdv ar outer s H vs Q E hr h => ?_)
  · obtain ⟨a, t, rfl, _⟩ := h
    rfl
  · obtain ⟨a, t, rfl, ha, k⟩ := h
    refine ⟨_, (pss_one (ps_ret (pe_ifExp (pt_cmpR op_eq (pe_ix (ixT K) (pv 0) pe_int (fun _ _ => rfl)) pe_str (nomark _)) (pe_call G_var (hr.mono (by decide)) (by rfl) T.m_var T.F_var.kp T.b_var .nil pass0 (pa_cons (pe_ix (ixT K) (pv 0) pe_int (fun _ _ => rfl)) pa_nil)) (pe_call G_val (hr.mono (by decide)) (by rfl) T.m_val T.F_val.kp T.b_val .nil pass0 (pa_cons (pe_ix (ixT K) (pv 0) pe_int (fun _ _ => rfl)) pa_nil))))), ?_⟩
    rcases t with i | j
    · have ha2 : H a = some (.tup [.str "var", .str (nmF i)]) := by rw [← sh_v]; exact ha
      refine ⟨_, rfl, a, _, _, _, rfl, rfl, SqT.of ha2, rfl, rfl, _, rfl, ?_⟩
      rw [dec_str, decide_eq_true rfl]
      exact iteT ⟨_, rfl, a, _, _, _, rfl, rfl, SqT.of ha2, rfl, _, rfl, fun x H' nx hx s1 => k x H' nx hx s1⟩
    · have ha2 : H a = some (.tup [.str "val", cv j]) := by rw [← sh_k]; exact ha
      refine ⟨_, rfl, a, _, _, _, rfl, rfl, SqT.of ha2, rfl, rfl, _, rfl, ?_⟩
      rw [dec_str, decide_eq_false (by decide +kernel)]
      exact iteF ⟨_, rfl, a, _, _, _, rfl, rfl, SqT.of ha2, rfl, _, rfl, fun x H' nx hx s1 => k x H' nx hx s1⟩
theorem ok_drawn (T : Txt K mg A) : FnOk P w K mg base CX0 2 A.f_l_drawn A.d_l_drawn ["dice"] spDrawn := by
  have G_l_roll : FnOk P w K mg base CX0 1 A.f_l_roll A.d_l_roll ["dice", "many"] spRoll := ok_roll T
  refine T.F_l_drawn.ok sc_l_drawn (fun vs H Q E h => ?_) (fun cdv ar outer s H vs Q E hr h => ?_)
  · obtain ⟨d, rfl, _⟩ := h
    rfl
  · obtain ⟨d, rfl, hd, k⟩ := h
    refine ⟨_, (pss_one (ps_ret (pe_lc (own := [("k", 1)]) (by rfl) sc_l_drawn.nd (pi_range1 (by rfl) T.z_range (pa_cons (pe_call G_l_roll (hr.mono (by decide)) (by rfl) T.m_l_roll T.F_l_roll.kp T.b_l_roll .nil pass0 (pa_cons (pv 0) (pa_cons pe_int pa_nil))) pa_nil)) (blkOk_by (own := [("k", 1)]) (N := N_l_drawn) (sc := defScope s_l_drawn) (by decide +kernel)) (fun _ _ _ _ _ => (pg_name (i := 1) sc_l_drawn.nd rfl (Or.inl rfl))) (fun _ _ _ _ _ => pts_nil) (fun _ _ _ _ _ => (pe_ifExp (pt_cmpR op_gt (pe_call G_l_roll (hr.mono (by decide)) (by rfl) T.m_l_roll T.F_l_roll.kp T.b_l_roll .nil pass0 (pa_cons (pv 0) (pa_cons pe_int pa_nil))) pe_int (nomark _)) (pe_tup (pa_cons pe_str (pa_cons (pe_ix ix_str pe_str (pe_call G_l_roll (hr.mono (by decide)) (by rfl) T.m_l_roll T.F_l_roll.kp T.b_l_roll .nil pass0 (pa_cons (pv 0) (pa_cons pe_int pa_nil))) (fun _ _ => rfl)) pa_nil))) (pe_tup (pa_cons pe_str (pa_cons (pe_ix (ixL K) (pe_lst (pa_cons pe_int (pa_cons pe_int (pa_cons pe_str pa_nil)))) (pe_call G_l_roll (hr.mono (by decide)) (by rfl) T.m_l_roll T.F_l_roll.kp T.b_l_roll .nil pass0 (pa_cons (pv 0) (pa_cons pe_int pa_nil))) (fun _ _ => rfl)) pa_nil)))))))), ?_⟩
    refine ⟨_, rfl, d, 5, rfl, hd, by decide, by decide, fun n H1 n0 n1 d1 f1 => ⟨_, rfl, by omega, by omega, fun D hD => ?_⟩⟩
    have ndD : d ≠ D := d1.ne hD
    have x1 : SameX d H H1 := sx_of f1
    have hD0 : H D = none := x1.free ndD.symm hD
    refine lc_range (n := n.toNat) (fun i H' => i ≤ n.toNat ∧ SameX d H H' ∧ DiceAt H' d ∧ ∃ (as : List Addr) (ts : List Tm), H' D = some (.lst (as.map V.ref)) ∧ All2 (EncAt H') as ts ∧ ts.length = i)
      ⟨Nat.zero_le _, x1.trans (Same.x (same_new hD)), d1.up1 ndD, [], [], upd_same, .nil, rfl⟩ ?_ ?_
    · rintro i H' hi ⟨_, x2, d2, as, ts, eD, ht, hl⟩
      -- the new item: a tuple at q of a heap that keeps all but the dice
      have last : ∀ (q : Addr) (H3 : Hp) (t : Tm), SameX d H' H3 → DiceAt H3 d → H3 q = none → ∃ acc, upd H3 q (.tup (sh (nm t) (vl t))) D = some (.lst acc) ∧ acc.length < sizeLine ∧
          (i + 1 ≤ n.toNat ∧ SameX d H (upd (upd H3 q (.tup (sh (nm t) (vl t)))) D (.lst (acc ++ [.ref q]))) ∧ DiceAt (upd (upd H3 q (.tup (sh (nm t) (vl t)))) D (.lst (acc ++ [.ref q]))) d ∧
            ∃ (as : List Addr) (ts : List Tm), upd (upd H3 q (.tup (sh (nm t) (vl t)))) D (.lst (acc ++ [.ref q])) D = some (.lst (as.map V.ref)) ∧ All2 (EncAt (upd (upd H3 q (.tup (sh (nm t) (vl t)))) D (.lst (acc ++ [.ref q])))) as ts ∧ ts.length = i + 1) := by
        intro q H3 t x3 d3 hq
        have eD3 : H3 D = some (.lst (as.map V.ref)) := x3 _ _ eD ndD.symm
        have nDq : D ≠ q := ne_of_none eD3 hq
        have ndq : d ≠ q := d3.ne hq
        refine ⟨as.map V.ref, by rw [upd_ne nDq]; exact eD3, by rw [List.length_map, ht.1]; exact sz (by omega), by omega, ?_, (d3.up1 ndq).up1 ndD, as ++ [q], ts ++ [t], by rw [upd_same, List.map_append]; rfl, ?_, by rw [List.length_append, hl]; rfl⟩
        · intro b o e nb
          have e3 := x3 _ _ (x2 _ _ e nb) nb
          rw [upd_ne (ne_of_none e hD0), upd_ne (ne_of_none e3 hq)]
          exact e3
        · have h1 : All2 (EncAt (upd H3 q (.tup (sh (nm t) (vl t))))) (as ++ [q]) (ts ++ [t]) := (ht.imp fun a t h => same_new hq _ _ (x3 _ _ h (d2.ne_tup h))).snoc upd_same
          exact h1.imp fun a u h => by
            have nD : a ≠ D := by
              intro z
              rw [z] at h
              have h : upd H3 q (.tup (sh (nm t) (vl t))) D = some (.tup (sh (nm u) (vl u))) := h
              rw [upd_ne nDq, eD3] at h
              cases h
            show upd _ D _ a = _
            rw [upd_ne nD]
            exact h
      refine ⟨rfl, ?_⟩
      refine ⟨_, rfl, d, 3, rfl, d2, by decide, by decide, fun m H3 m0 m1 d3 f3 => ⟨_, _, rfl, rfl, _, rfl, ?_⟩⟩
      refine iteD (fun _ => ?_) (fun _ => ?_)
      · refine ⟨_, rfl, d, 3, rfl, d3, by decide, by decide, fun j H4 j0 j1 d4 f4 => ?_⟩
        have x4 : SameX d H' H4 := (sx_of f3).trans (sx_of f4)
        obtain ⟨t, ht⟩ : ∃ t : F3, atI (("XYZ" : Str).cps.toList) j = some ((nmF t).cps.getD 0 0) ∧ (.str (nmF t) : V) = .str ⟨#[(nmF t).cps.getD 0 0]⟩ := by
          have : j = 0 ∨ j = 1 ∨ j = 2 := by omega
          rcases this with rfl | rfl | rfl
          · exact ⟨.a, by decide +kernel, by decide +kernel⟩
          · exact ⟨.b, by decide +kernel, by decide +kernel⟩
          · exact ⟨.c, by decide +kernel, by decide +kernel⟩
        refine ⟨_, _, _, rfl, rfl, (by decide +kernel), ht.1, (by show 2 ≤ sizeLine; decide), fun q hq => ?_⟩
        rw [← ht.2]
        have := last q H4 (.v t) x4 d4 hq
        rw [sh_v] at this
        exact this
      · refine ⟨(by show 3 ≤ sizeLine; decide), fun l hl => ?_⟩
        have ndl : d ≠ l := d3.ne hl
        refine ⟨_, rfl, d, 3, rfl, d3.up1 ndl, by decide, by decide, fun j H4 j0 j1 d4 f4 => ?_⟩
        have x4 : SameX d H' H4 := ((sx_of f3).trans (Same.x (same_new hl))).trans (sx_of f4)
        have el : H4 l = some (.lst [.int 0, .int 1, .str "a"]) := by rw [f4 l ndl.symm, upd_same]
        obtain ⟨t, ht⟩ : ∃ t : F3, atI ([.int 0, .int 1, .str "a"] : List V) j = some (cv t) := by
          have : j = 0 ∨ j = 1 ∨ j = 2 := by omega
          rcases this with rfl | rfl | rfl
          · exact ⟨.a, rfl⟩
          · exact ⟨.b, rfl⟩
          · exact ⟨.c, rfl⟩
        refine ⟨l, _, _, _, rfl, rfl, SqL.of el, ht, (by show 2 ≤ sizeLine; decide), fun q hq => ?_⟩
        have := last q H4 (.k t) x4 d4 hq
        rw [sh_k] at this
        exact this
    · rintro H' ⟨_, x2, d2, as, ts, eD, ht, hl⟩
      exact k D as ts H' x2 d2 hD0 ndD.symm eD ht (by omega)
end
end Toy

set_option Elab.async false
set_option maxRecDepth 100000
set_option maxHeartbeats 4000000
namespace Toy
open PySem L2
open U (F3 Tm Lk Tb led ended acyc dist alike go turn)
/-! ### data of little depth -/
theorem lay_all (n : Nat) : ∀ {ds : List PyData}, (∀ d ∈ ds, d.canLay0 = true ∧ d.depth ≤ n) → PyData.canLayAll0 ds = true ∧ PyData.depthAll ds ≤ n
  | [], _ => ⟨by simp [PyData.canLayAll0], by simp [PyData.depthAll]⟩
  | d :: ds, h => by
    obtain ⟨h1, h2⟩ := h d List.mem_cons_self
    obtain ⟨g1, g2⟩ := lay_all n (ds := ds) fun e he => h e (List.mem_cons_of_mem _ he)
    refine ⟨by simp [PyData.canLayAll0, h1, g1], ?_⟩
    simp only [PyData.depthAll]
    omega
theorem shaped_list {n : Nat} {ds : List PyData} (hn : n < 64) (h : ∀ d ∈ ds, d.canLay0 = true ∧ d.depth ≤ n) : SeqAt.shaped (.list ds) = true := by
  obtain ⟨h1, h2⟩ := lay_all n h
  have h3 : PyData.depth (.list ds) ≤ 64 := by
    simp only [PyData.depth]
    omega
  show (PyData.canLay0 (.list ds) && decide (PyData.depth (.list ds) ≤ 64)) = true
  rw [Bool.and_eq_true]
  exact ⟨by simp only [PyData.canLay0]; exact h1, decide_eq_true h3⟩
theorem shaped_tuple {n : Nat} {ds : List PyData} (hn : n < 64) (h : ∀ d ∈ ds, d.canLay0 = true ∧ d.depth ≤ n) : SeqAt.shaped (.tuple ds) = true := by
  obtain ⟨h1, h2⟩ := lay_all n h
  have h3 : PyData.depth (.tuple ds) ≤ 64 := by
    simp only [PyData.depth]
    omega
  show (PyData.canLay0 (.tuple ds) && decide (PyData.depth (.tuple ds) ≤ 64)) = true
  rw [Bool.and_eq_true]
  exact ⟨by simp only [PyData.canLay0]; exact h1, decide_eq_true h3⟩
theorem lay_of {d : PyData} (h : SeqAt.shaped d = true) : d.canLay0 = true := by
  have : (d.canLay0 && decide (d.depth ≤ 64)) = true := h
  rw [Bool.and_eq_true] at this
  exact this.1
theorem cvD_lay (j : F3) : (cvD j).canLay0 = true ∧ (cvD j).depth ≤ 2 := by
  cases j <;> decide +kernel
theorem shD_lay (t : Tm) : (shD t).canLay0 = true ∧ (shD t).depth ≤ 2 := by
  rcases t with i | i <;> cases i <;> decide +kernel
theorem cvD_eqv (i j : F3) : PyData.eqv (cvD i) (cvD j) = decide (i = j) := by
  cases i <;> cases j <;> decide +kernel
theorem cvs_eqvAll : ∀ xs ys : List F3, PyData.eqvAll (xs.map cvD) (ys.map cvD) = decide (xs = ys)
  | [], [] => rfl
  | [], _ :: _ => rfl
  | _ :: _, [] => rfl
  | x :: xs, y :: ys => by
    have ih := cvs_eqvAll xs ys
    simp only [List.map_cons, PyData.eqvAll, ih, cvD_eqv]
    by_cases h : x = y
    · subst h
      by_cases h2 : xs = ys
      · subst h2; simp
      · simp [h2]
    · simp [h]
theorem cvs_eqv (xs ys : List F3) : PyData.eqv (.list (xs.map cvD)) (.list (ys.map cvD)) = decide (xs = ys) := by
  simp only [PyData.eqv]
  exact cvs_eqvAll xs ys
theorem dp_cvs {K : PySem.W.Frag} {H : Hp} : ∀ xs : List F3, DpAll K H (xs.map cv) (xs.map cvD)
  | [] => .nil
  | x :: xs => .cons (dp_cv x) (dp_cvs xs)
/-- a table of the three names -/
def TbAt (H : Hp) (a : Addr) (b : Tb) : Prop := ∃ kvs : List (Key × V), H a = some (.dK kvs) ∧ ∀ i : F3, valV kvs (.inr (nmF i)) = some (cv (b.get i))
theorem TbAt.up {H H' : Hp} {a : Addr} {b : Tb} (h : TbAt H a b) (s : Same H H') : TbAt H' a b := by
  obtain ⟨kvs, e, f⟩ := h
  exact ⟨kvs, s _ _ e, f⟩
theorem TbAt.mut {H : Hp} {a l : Addr} {b : Tb} {xs : List V} {o : HO} (h : TbAt H a b) (hl : H l = some (.lst xs)) : TbAt (upd H l o) a b := by
  obtain ⟨kvs, e, f⟩ := h
  exact ⟨kvs, by rw [upd_ne (ne_of e hl (fun q => nomatch q))]; exact e, f⟩
theorem tb_make {x y z : F3} : ∀ i : F3, valV (κ := Key) (mergeK [] [(Sum.inr ("X" : Str), cv x), (Sum.inr ("Y" : Str), cv y), (Sum.inr ("Z" : Str), cv z)]) (.inr (nmF i)) = some (cv ((⟨x, y, z⟩ : Tb).get i)) := by
  intro i
  show valV (κ := Key) (putK (putK (putK [] (Sum.inr ("X" : Str)) (cv x)) (Sum.inr ("Y" : Str)) (cv y)) (Sum.inr ("Z" : Str)) (cv z)) (.inr (nmF i)) = _
  rw [valV_put, valV_put, valV_put]
  cases i
  · exact (if_neg (by decide +kernel)).trans ((if_neg (by decide +kernel)).trans (if_pos rfl))
  · exact (if_neg (by decide +kernel)).trans (if_pos rfl)
  · exact if_pos rfl
theorem at3 {n : Nat} (h : n < 3) : atI ([.int 0, .int 1, .str "a"] : List V) (n : Int) = some (cv (U.f3 n)) := by
  match n, h with
  | 0, _ => rfl
  | 1, _ => rfl
  | 2, _ => rfl
/-- a list of drawn tuples -/
def EncL (H : Hp) (p : Addr) (ts : List Tm) : Prop := ∃ as : List Addr, H p = some (.lst (as.map V.ref)) ∧ All2 (EncAt H) as ts
theorem EncL.up {H H' : Hp} {p : Addr} {ts : List Tm} (h : EncL H p ts) (s : Same H H') : EncL H' p ts := by
  obtain ⟨as, e, f⟩ := h
  exact ⟨as, s _ _ e, f.imp fun a t h => s _ _ h⟩
def FitL (H : Hp) (r : Addr) (bs : List Tb) : Prop := ∃ cs : List Addr, H r = some (.lst (cs.map V.ref)) ∧ All2 (TbAt H) cs bs
theorem FitL.up {H H' : Hp} {r : Addr} {bs : List Tb} (h : FitL H r bs) (s : Same H H') : FitL H' r bs := by
  obtain ⟨as, e, f⟩ := h
  exact ⟨as, s _ _ e, f.imp fun a t h => h.up s⟩
def spFits : Sp := fun vs H Q _ => ∃ (p q : Addr) (ts us : List Tm), vs = [.ref p, .ref q] ∧ EncL H p ts ∧ EncL H q us ∧ ts.length ≤ 8 ∧ us.length ≤ 8 ∧ ∀ r H', Same H H' → FitL H' r (U.fits ts us) → Q (.ref r) H'
section
variable {P : Program} {w : World} {K : PySem.W.Frag} {mg : Str → Option Value} {base : Heap} {A : Ad}
/-- [table[said] if kind == 'var' else said for kind, said in ..] -/
theorem vals_comp {te : TE} {a0 a1 a2 a3 a5 a6 a7 a8 : Option V} {tb p : Addr} {H : Hp} {ts : List Tm} {b : Tb} {Q : VK} (hsrc : ∀ R : VK, R (.ref p) H → te [a0, a1, a2, a3, some (.ref tb), a5, a6, a7, a8] H R)
    (hp : EncL H p ts) (h8 : ts.length ≤ 8) (ht : TbAt H tb b) (k : ∀ D H', Same H H' → H' D = some (.lst ((ts.map (U.val b)).map cv)) → Q (.ref D) H') :
    tLc (iList K te) (gTup K 2 (gCons (gName 7) (gCons (gName 8) gNil))) tYes (tIf (tTest (tOp rEq (tVar 7) (tC (.str "var")))) (tDGet (tVar 4) (tVar 8)) (tVar 8)) [7, 8] [a0, a1, a2, a3, some (.ref tb), a5, a6, a7, a8] H Q := by
  obtain ⟨as, ep, fp⟩ := id hp
  refine hsrc _ ⟨p, rfl, ⟨_, SqL.of ep⟩, fun D hD => ?_⟩
  refine lc_list (K := K) (a := p) (xs := as.map V.ref) (fun j H' => Same H H' ∧ H' D = some (.lst (((ts.take j).map (U.val b)).map cv))) ⟨same_new hD, upd_same⟩ (fun _ _ _ h => SqL.of (h.1 _ _ ep)) ?_ ?_
  · rintro j x H' hx ⟨s1, eD⟩
    obtain ⟨a, t, rfl, ea, et, ha⟩ := fp.at hx
    have ha := s1 _ _ ha
    have hj : j < ts.length := (List.getElem?_eq_some_iff.mp et).1
    have fin : ∃ acc, H' D = some (.lst acc) ∧ acc.length < sizeLine ∧ Same H (upd H' D (.lst (acc ++ [cv (U.val b t)]))) ∧ upd H' D (.lst (acc ++ [cv (U.val b t)])) D = some (.lst (((ts.take (j + 1)).map (U.val b)).map cv)) := by
      refine ⟨_, eD, by rw [List.length_map, List.length_map, List.length_take]; exact sz (by omega), same_mut s1 hD, ?_⟩
      rw [upd_same, take_one et, List.map_append, List.map_append]
      rfl
    rcases t with i | i
    · rw [sh_v] at ha
      refine ⟨a, _, rfl, SqT.of ha, rfl, _, _, rfl, _, _, rfl, rfl, rfl, _, rfl, rfl, _, rfl, ?_⟩
      rw [dec_str, decide_eq_true rfl]
      obtain ⟨kvs, ek, fk⟩ := ht.up s1
      refine iteT ⟨_, rfl, _, rfl, tb, _, rfl, ?_, fin⟩
      have := DGet.k (k := .inr (nmF i)) ek
      rw [fk i] at this
      exact this
    · rw [sh_k] at ha
      refine ⟨a, _, rfl, SqT.of ha, rfl, _, _, rfl, _, _, rfl, rfl, rfl, _, rfl, rfl, _, rfl, ?_⟩
      rw [dec_str, decide_eq_false (by decide +kernel)]
      exact iteF ⟨_, rfl, fin⟩
  · rintro H' ⟨s1, eD⟩
    rw [List.length_map, fp.1, List.take_of_length_le (Nat.le_refl _)] at eD
    exact k D H' s1 eD
theorem asg_of {te : TE} {g : TG} {D : Ends} {σ : L2.St} {H : Hp} (h : te σ H fun x H1 => g x σ H1 D.nx) : tAsg te g D σ H := h
theorem ok_fits (T : Txt K mg A) : FnOk P w K mg base CX0 1 A.f_l_fits A.d_l_fits ["one", "other"] spFits := by
  refine T.F_l_fits.ok sc_l_fits (fun vs H Q E h => ?_) (fun cdv ar outer s H vs Q E hr h => ?_)
  · obtain ⟨p, q, ts, us, rfl, _⟩ := h
    rfl
  · obtain ⟨p, q, ts, us, rfl, hp, hq, h8, g8, k⟩ := h
    have hu := hu_of hr
    refine ⟨_, (C8.pss_cut (ps_set (i := 2) sc_l_fits.nd rfl (Or.inl rfl) (pe_lst pa_nil))
      (C8.pss_cut (ps_for PassesOwn.never rfl (pi_range1 (by rfl) T.z_range (pa_cons pe_int pa_nil)) (pg_name (i := 3) sc_l_fits.nd rfl (Or.inl rfl))
        (C8.pss_cut (ps_set (i := 4) sc_l_fits.nd rfl (Or.inr rfl) (pe_disp (pps_cons pe_str (pe_ix (ixL K) (pe_lst (pa_cons pe_int (pa_cons pe_int (pa_cons pe_str pa_nil)))) (pe_op op_mod (pv 3) pe_int) (fun _ _ => rfl)) (pps_cons pe_str (pe_ix (ixL K) (pe_lst (pa_cons pe_int (pa_cons pe_int (pa_cons pe_str pa_nil)))) (pe_op op_mod (pe_op op_fdiv (pv 3) pe_int) pe_int) (fun _ _ => rfl)) (pps_cons pe_str (pe_ix (ixL K) (pe_lst (pa_cons pe_int (pa_cons pe_int (pa_cons pe_str pa_nil)))) (pe_op op_fdiv (pv 3) pe_int) (fun _ _ => rfl)) pps_nil))) (by rfl) (by rfl) (fun z => by cases z) (by decide)))
        (C8.pss_cut (ps_setLc (i := 5) (own := [("kind", 7), ("said", 8)]) (by rfl) sc_l_fits.nd rfl rfl (sw_true rfl rfl rfl (by decide +kernel)) (listK K (pv 0)) (blkOk_by (own := [("kind", 7), ("said", 8)]) (N := N_l_fits) (sc := defScope s_l_fits) (by decide +kernel)) (fun _ _ _ _ _ => (tupK K (n := 2) rfl (pgs_cons (pg_name (i := 7) sc_l_fits.nd rfl (Or.inl rfl)) (pgs_cons (pg_name (i := 8) sc_l_fits.nd rfl (Or.inl rfl)) pgs_nil)))) (fun _ _ _ _ _ => pts_nil) (fun _ _ _ _ _ => (pe_ifExp (pt_cmpR op_eq (pv 7) pe_str (nomark _)) (pe_dget hu (pv 4) (pv 8) (fun _ _ => rfl)) (pv 8))))
        (C8.pss_cut (ps_setLc (i := 6) (own := [("kind", 7), ("said", 8)]) (by rfl) sc_l_fits.nd rfl rfl (sw_true rfl rfl rfl (by decide +kernel)) (listK K (pv 1)) (blkOk_by (own := [("kind", 7), ("said", 8)]) (N := N_l_fits) (sc := defScope s_l_fits) (by decide +kernel)) (fun _ _ _ _ _ => (tupK K (n := 2) rfl (pgs_cons (pg_name (i := 7) sc_l_fits.nd rfl (Or.inl rfl)) (pgs_cons (pg_name (i := 8) sc_l_fits.nd rfl (Or.inl rfl)) pgs_nil)))) (fun _ _ _ _ _ => pts_nil) (fun _ _ _ _ _ => (pe_ifExp (pt_cmpR op_eq (pv 7) pe_str (nomark _)) (pe_dget hu (pv 4) (pv 8) (fun _ _ => rfl)) (pv 8))))
        (pss_one (ps_if (pt_cmpR (eqD K hr.units) (pv 5) (pv 6) (nomark _))
          (pss_one (ps_expr (appK K (pv 2) (pa_cons (pv 4) pa_nil))))
          pss_nil))))))
      (pss_one (ps_ret (pv 2))))), ?_⟩
    refine ⟨fun σ H' => ∃ r, H r = none ∧ σ = [some (.ref p), some (.ref q), some (.ref r), none, none, none, none, none, none] ∧ Same H H' ∧ H' r = some (.lst []), ⟨Nat.zero_le _, fun r hrr => ⟨r, hrr, rfl, same_new hrr, upd_same⟩⟩, ?_⟩
    rintro σ H0 ⟨r, hrr, rfl, s0, er0⟩
    refine ⟨fun σ H' => (∃ v3 v4 v5 v6 v7 v8, σ = [some (.ref p), some (.ref q), some (.ref r), v3, v4, v5, v6, v7, v8]) ∧ Same H H' ∧ FitL H' r (U.fits ts us), ⟨27, rfl, by decide, by decide, ?_⟩, ?_⟩
    · refine for_range (n := 27) (fun i σ H' => i ≤ 27 ∧ (∃ v3 v4 v5 v6 v7 v8, σ = [some (.ref p), some (.ref q), some (.ref r), v3, v4, v5, v6, v7, v8]) ∧ Same H H' ∧ FitL H' r (((List.range i).map U.tbOf).filter (U.agree ts us)))
        ⟨Nat.zero_le _, ⟨_, _, _, _, _, _, rfl⟩, s0, [], er0, .nil⟩ ?_ ?_
      · rintro i σ H' hi ⟨_, ⟨v3, v4, v5, v6, v7, v8, rfl⟩, s1, hf⟩
        have c1 : (0 + (i : Int)) % 3 = ((i % 3 : Nat) : Int) := by omega
        have c2 : (0 + (i : Int)) / 3 % 3 = ((i / 3 % 3 : Nat) : Int) := by omega
        have c3 : (0 + (i : Int)) / 9 = ((i / 9 : Nat) : Int) := by omega
        -- table = {..}
        refine ⟨fun σ H4 => ∃ tb, σ = [some (.ref p), some (.ref q), some (.ref r), some (.int (0 + i)), some (.ref tb), v5, v6, v7, v8] ∧ Same H' H4 ∧ TbAt H4 tb (U.tbOf i), ?_, ?_⟩
        · refine fun tb htb => ?_
          have s2 := same_new (o := .dK []) htb
          refine ⟨(by show 3 ≤ sizeLine; decide), fun l1 h1 => ⟨_, rfl, _, _, rfl, rfl, (by show (0 : Int) < 3; decide), l1, _, _, _, rfl, rfl, SqL.of upd_same, (by rw [c1]; exact at3 (by omega)), ?_⟩⟩
          have s3 := same_new (o := .lst [.int 0, .int 1, .str "a"]) h1
          refine ⟨(by show 3 ≤ sizeLine; decide), fun l2 h2 => ⟨_, rfl, _, _, rfl, rfl, ⟨by decide, by decide⟩, _, _, rfl, rfl, (by show (0 : Int) < 3; decide), l2, _, _, _, rfl, rfl, SqL.of upd_same, (by rw [c2]; exact at3 (by omega)), ?_⟩⟩
          have s4 := same_new (o := .lst [.int 0, .int 1, .str "a"]) h2
          refine ⟨(by show 3 ≤ sizeLine; decide), fun l3 h3 => ⟨_, rfl, _, _, rfl, rfl, ⟨by decide, by decide⟩, l3, _, _, _, rfl, rfl, SqL.of upd_same, (by rw [c3]; exact at3 (by omega)), ?_⟩⟩
          have s5 := same_new (o := .lst [.int 0, .int 1, .str "a"]) h3
          have s25 := (s3.trans s4).trans s5
          have etb := s25 _ _ upd_same
          exact ⟨etb, [(Sum.inr ("X" : Str), cv (U.f3 (i % 3))), (Sum.inr ("Y" : Str), cv (U.f3 (i / 3 % 3))), (Sum.inr ("Z" : Str), cv (U.f3 (i / 9)))], rfl, (by show 3 ≤ 15; decide), tb, rfl, same_mut (s2.trans s25) htb, _, upd_same, tb_make⟩
        · rintro σ H4 ⟨tb, rfl, s7, ht⟩
          refine ⟨fun σ H5 => ∃ D1, σ = [some (.ref p), some (.ref q), some (.ref r), some (.int (0 + i)), some (.ref tb), some (.ref D1), v6, v7, v8] ∧ Same H4 H5 ∧ H5 D1 = some (.lst ((ts.map (U.val (U.tbOf i))).map cv)), ?_, ?_⟩
          · exact asg_of (vals_comp (K := K) (ts := ts) (b := U.tbOf i) (fun R hR => ⟨_, rfl, hR⟩) (hp.up (s1.trans s7)) h8 ht fun D1 H5 s8 e1 => ⟨D1, rfl, s8, e1⟩)
          rintro σ H5 ⟨D1, rfl, s8, e1⟩
          refine ⟨fun σ H6 => ∃ D2, σ = [some (.ref p), some (.ref q), some (.ref r), some (.int (0 + i)), some (.ref tb), some (.ref D1), some (.ref D2), v7, v8] ∧ Same H5 H6 ∧ H6 D2 = some (.lst ((us.map (U.val (U.tbOf i))).map cv)), ?_, ?_⟩
          · exact asg_of (vals_comp (K := K) (ts := us) (b := U.tbOf i) (fun R hR => ⟨_, rfl, hR⟩) (hq.up ((s1.trans s7).trans s8)) g8 (ht.up s8) fun D2 H6 s9 e2 => ⟨D2, rfl, s9, e2⟩)
          rintro σ H6 ⟨D2, rfl, s9, e2⟩
          refine ⟨_, rfl, _, rfl, .list ((ts.map (U.val (U.tbOf i))).map cvD), .list ((us.map (U.val (U.tbOf i))).map cvD), .lst (SqL.of (s9 _ _ e1)) (dp_cvs _), .lst (SqL.of e2) (dp_cvs _),
            shaped_list (n := 2) (by decide) (fun d hd => by obtain ⟨j, _, rfl⟩ := List.mem_map.mp hd; exact cvD_lay j), shaped_list (n := 2) (by decide) (fun d hd => by obtain ⟨j, _, rfl⟩ := List.mem_map.mp hd; exact cvD_lay j), _, rfl, ?_⟩
          rw [cvs_eqv]
          have s10 := (s7.trans s8).trans s9
          have hf6 := hf.up s10
          have ht6 := ht.up (s8.trans s9)
          have ag : decide (ts.map (U.val (U.tbOf i)) = us.map (U.val (U.tbOf i))) = U.agree ts us (U.tbOf i) := rfl
          rw [ag]
          have er : ((List.range (i + 1)).map U.tbOf).filter (U.agree ts us) = ((List.range i).map U.tbOf).filter (U.agree ts us) ++ (if U.agree ts us (U.tbOf i) = true then [U.tbOf i] else []) := by
            rw [List.range_succ, List.map_append, List.filter_append, List.map_singleton, List.filter_cons, List.filter_nil]
          refine iteB (fun hb => ?_) (fun hb => ?_)
          · obtain ⟨cs, ec, fc⟩ := hf6
            have hl : cs.length ≤ 27 := by
              rw [fc.1]
              refine Nat.le_trans (List.length_filter_le _ _) ?_
              rw [List.length_map, List.length_range]
              omega
            refine ⟨_, rfl, .inl ⟨rfl, _, SqL.of ec⟩, _, rfl, r, _, _, rfl, rfl, ec, by rw [List.length_map]; exact sz (by omega), ?_⟩
            refine ⟨by omega, ⟨_, _, _, _, _, _, rfl⟩, same_mut (s1.trans s10) hrr, ?_⟩
            rw [er, if_pos hb]
            refine ⟨cs ++ [tb], by rw [upd_same, List.map_append]; rfl, ?_⟩
            exact (fc.snoc ht6).imp fun a t h => h.mut ec
          · refine ⟨by omega, ⟨_, _, _, _, _, _, rfl⟩, s1.trans s10, ?_⟩
            rw [er, if_neg (by rw [hb]; decide), List.append_nil]
            exact hf6
      · rintro σ H' ⟨_, ⟨v3, v4, v5, v6, v7, v8, rfl⟩, s1, hf⟩
        exact ⟨⟨_, _, _, _, _, _, rfl⟩, s1, hf⟩
    · rintro σ H' ⟨⟨v3, v4, v5, v6, v7, v8, rfl⟩, s1, hf⟩
      exact ⟨_, rfl, k r H' s1 hf⟩
end
end Toy

set_option Elab.async false
set_option maxRecDepth 100000
set_option maxHeartbeats 4000000
namespace Toy
open PySem L2
open U (F3 Tm Lk Tb led ended acyc dist alike go turn)
theorem cut_take (xs : List V) (n : Nat) : cutV xs none (some (n : Int)) = xs.take n := by
  unfold cutV
  rw [HT.sIx_none, HT.sIx_nat, List.drop_zero, Nat.sub_zero]
  by_cases h : n ≤ xs.length
  · rw [Nat.min_eq_left h]
  · rw [Nat.min_eq_right (by omega), List.take_of_length_le (Nat.le_refl _), List.take_of_length_le (by omega)]
/-- a comprehension over enumerate of a list that stays -/
theorem lc_enum {K : PySem.W.Frag} {a : Addr} {xs : List V} {g : TG} {tt : TT} {te : TE} {vs : List Nat} {σ : L2.St} {H1 : Hp} {D : Addr} {Qd : Hp → Prop} (Pv : Nat → Hp → Prop) (h0 : Pv 0 (upd H1 D (.lst []))) (hl : ∀ i H, i ≤ xs.length → Pv i H → SqL K H a xs)
    (hs : ∀ i x T H, xs[i]? = some x → Pv i H → H T = none → g (.ref T) (wipe σ vs) (upd H T (.tup [.int (i : Nat), x])) fun σ2 H2 => wipe σ2 vs = wipe σ vs ∧ tt σ2 H2 fun b H3 =>
      if b = true then te σ2 H3 fun y H4 => ∃ acc, H4 D = some (.lst acc) ∧ acc.length < sizeLine ∧ Pv (i + 1) (upd H4 D (.lst (acc ++ [y]))) else Pv (i + 1) H3) (hd : ∀ H, Pv xs.length H → Qd H) :
    ∃ W : Nat → Nat → Hp → Prop, (∃ m, W 0 m (upd H1 D (.lst []))) ∧ ∀ i m H, W i m H →
      ((Ite K a).stop i H ∧ Qd H) ∨ ((Ite K a).go i H ∧ ∃ Nx : Hp → Prop, (∀ H', Nx H' → ∃ m', m' < m ∧ W (i + 1) m' H') ∧ ∀ x H', (Ite K a).yld i H x H' → g x (wipe σ vs) H' fun σ2 H2 => wipe σ2 vs = wipe σ vs ∧ tt σ2 H2 fun b H3 =>
        if b = true then te σ2 H3 fun y H4 => ∃ acc, H4 D = some (.lst acc) ∧ acc.length < sizeLine ∧ Nx (upd H4 D (.lst (acc ++ [y]))) else Nx H3) := by
  refine ⟨fun i m H => m = xs.length - i ∧ i ≤ xs.length ∧ Pv i H, ⟨xs.length, by simp, Nat.zero_le _, h0⟩, ?_⟩
  rintro i m H ⟨rfl, hi, p⟩
  have q := hl i H hi p
  by_cases hlt : i < xs.length
  · refine .inr ⟨⟨xs, xs[i], q, by simp [hlt]⟩, Pv (i + 1), fun H' p' => ⟨xs.length - (i + 1), by omega, rfl, hlt, p'⟩, fun x H' y => ?_⟩
    obtain ⟨T, x', rfl, hT, rfl, f⟩ := y
    exact hs i x' T _ (f xs q) p hT
  · have e : i = xs.length := by omega
    subst e
    exact .inl ⟨⟨xs, q, Nat.le_refl _⟩, hd H p⟩
theorem DiceAt.ne_refs {H : Hp} {d p : Addr} {as : List Addr} (h : DiceAt H d) (hp : H p = some (.lst (as.map V.ref))) : p ≠ d := by
  obtain ⟨x, y, z, e⟩ := h
  refine ne_of hp e fun q => ?_
  injection q with q
  cases as <;> cases q
theorem EncL.upx {H H' : Hp} {p d : Addr} {ts : List Tm} (h : EncL H p ts) (s : SameX d H H') (hd : DiceAt H d) : EncL H' p ts := by
  obtain ⟨as, e, f⟩ := h
  exact ⟨as, s _ _ e (hd.ne_refs e), f.imp fun a t h => s _ _ h (hd.ne_tup h)⟩
theorem par_of {i j : Nat} {ta tb : TE} {D : Ends} {σ : L2.St} {H : Hp} (h : ta σ H fun x H1 => tb σ H1 fun y H2 => ∃ v w, [x, y] = [v, w] ∧ D.nx ((σ.set i (some v)).set j (some w)) H2) : tPar i j (tCons ta (tCons tb tNil)) D σ H := h
theorem scal_cv (j : F3) : scal (cv j) (cv j) = true := by cases j <;> rfl
theorem name_at2 {L : Lk} {i : Nat} {x : V} (h : ([.str "X", .str "Y", .str "Z"] : List V)[i]? = some x) : ∃ n : F3, x = .str (nmF n) ∧ (U.ends L)[i]? = some (led L (.v n)) := by
  match i, h with
  | 0, h => cases h; exact ⟨.a, rfl, rfl⟩
  | 1, h => cases h; exact ⟨.b, rfl, rfl⟩
  | 2, h => cases h; exact ⟨.c, rfl, rfl⟩
theorem name_at {i : Nat} {x : V} (h : ([.str "X", .str "Y", .str "Z"] : List V)[i]? = some x) : ∃ n : F3, x = .str (nmF n) := by
  obtain ⟨n, e, _⟩ := name_at2 (L := U.e0) h
  exact ⟨n, e⟩
theorem cnt_le (L : Lk) : ∀ i, U.cnt L i ≤ i
  | 0 => Nat.le_refl _
  | i + 1 => by
    have ih := cnt_le L i
    show U.cnt L i + _ ≤ i + 1
    split
    · split <;> omega
    · omega
def spLaw (K : PySem.W.Frag) : Sp := fun vs H Q _ => ∃ (a : Addr) (ns : List Int), vs = [.ref a] ∧ SqL K H a (ns.map V.int) ∧ ns.length ≤ 63 ∧ ∀ H', Q (.bl true) H'
theorem MadeV.up {C : Addr} {H H' : Hp} {o : Option Lk} {v : V} (h : MadeV C H o v) (s : Same H H') : MadeV C H' o v := by
  cases o with
  | none => exact h
  | some L =>
    obtain ⟨l, e, hl⟩ := h
    exact ⟨l, e, hl.up s⟩
/-- what stands behind the fourth statement -/
structure Mid (C a d pd : Addr) (ts us : List Tm) (p1 p2 p4 p5 f : Addr) (H : Hp) : Prop where
  hpd : H pd = some (.lst [.ref d])
  e1 : EncL H p1 ts
  e2 : EncL H p2 us
  t4 : TsAt C H p4 ts
  t5 : TsAt C H p5 us
  l1 : ts.length ≤ 4
  l2 : us.length ≤ 4
  hf : FitL H f (U.fits ts us)
theorem Mid.up {C a d pd : Addr} {ts us : List Tm} {p1 p2 p4 p5 f : Addr} {H H' : Hp} (h : Mid C a d pd ts us p1 p2 p4 p5 f H) (s : Same H H') : Mid C a d pd ts us p1 p2 p4 p5 f H' :=
  ⟨s _ _ h.hpd, h.e1.up s, h.e2.up s, h.t4.up s, h.t5.up s, h.l1, h.l2, h.hf.up s⟩
section
variable {P : Program} {w : World} {K : PySem.W.Frag} {mg : Str → Option Value} {base : Heap} {A : Ad}
/-- [_law_make(term) for term in ..] -/
theorem make_comp {C : Addr} {te : TE} {v0 v1 v2 v3 v4 v5 v6 v7 v8 v9 v10 v11 v12 v13 v14 v15 v16 : Option V} {p : Addr} {H : Hp} {ts : List Tm} {Q : VK} (hsrc : ∀ R : VK, R (.ref p) H → te [v0, v1, v2, v3, v4, v5, v6, v7, v8, v9, v10, v11, v12, v13, v14, v15, v16] H R)
    (hp : EncL H p ts) (h8 : ts.length ≤ 8) (k : ∀ D H', Same H H' → TsAt C H' D ts → Q (.ref D) H') :
    tLc (iList K te) (gName 14) tYes (tCall (spMake C) [] E0 (tCons (tVar 14) tNil)) [14] [v0, v1, v2, v3, v4, v5, v6, v7, v8, v9, v10, v11, v12, v13, v14, v15, v16] H Q := by
  obtain ⟨as, ep, fp⟩ := id hp
  refine hsrc _ ⟨p, rfl, ⟨_, SqL.of ep⟩, fun D hD => ?_⟩
  refine lc_list (K := K) (a := p) (xs := as.map V.ref) (fun j H' => Same H H' ∧ ∃ bs : List Addr, H' D = some (.lst (bs.map V.ref)) ∧ All2 (fun a t => TAt C H' a t) bs (ts.take j)) ⟨same_new hD, [], upd_same, .nil⟩ (fun _ _ _ h => SqL.of (h.1 _ _ ep)) ?_ ?_
  · rintro j x H' hx ⟨s1, bs, eD, hb⟩
    obtain ⟨a, t, rfl, ea, et, ha⟩ := fp.at hx
    refine ⟨rfl, _, rfl, a, t, rfl, s1 _ _ ha, fun x H2 nx hx2 s2 => ?_⟩
    have hl : bs.length ≤ 8 := by
      rw [hb.1, List.length_take]
      omega
    refine ⟨_, s2 _ _ eD, by rw [List.length_map]; exact sz (by omega), same_mut (s1.trans s2) hD, bs ++ [x], by rw [upd_same, List.map_append]; rfl, ?_⟩
    rw [take_one et]
    exact ((hb.imp fun a t h => h.up s2).snoc hx2).imp fun a t h => h.mut (s2 _ _ eD) (fun _ _ _ q => nomatch q)
  · rintro H' ⟨s1, bs, eD, hb⟩
    rw [List.length_map, fp.1, List.take_of_length_le (Nat.le_refl _)] at hb
    exact k D H' s1 ⟨bs, eD, hb⟩
theorem ok_law (T : Txt K mg A) : FnOk P w K mg base CX0 5 A.f_law A.d_law ["script"] (spLaw K) := by
  have G_l_rounds : FnOk P w K mg base CX0 2 A.f_l_rounds A.d_l_rounds ["script", "most"] (spRounds K) := ok_rounds T
  have G_l_drawn : FnOk P w K mg base CX0 2 A.f_l_drawn A.d_l_drawn ["dice"] spDrawn := ok_drawn T
  have G_l_roll : FnOk P w K mg base CX0 1 A.f_l_roll A.d_l_roll ["dice", "many"] spRoll := ok_roll T
  have G_l_make : FnOk P w K mg base CX0 4 A.f_l_make A.d_l_make ["term"] (spMake A.C_Term) := ok_make T
  have G_made_alike : FnOk P w K mg base CX0 3 A.f_made_alike A.d_made_alike ["one", "other"] (spMade A.C_Term) := ok_made T
  have G_l_fits : FnOk P w K mg base CX0 1 A.f_l_fits A.d_l_fits ["one", "other"] spFits := ok_fits T
  have G_shown_all : FnOk P w K mg base CX0 3 A.f_shown_all A.d_shown_all ["terms"] (spShAll A.C_Term) := ok_shall T
  have G_put_in : FnOk P w K mg base CX0 3 A.f_put_in A.d_put_in ["terms", "links"] (spPut A.C_Term) := ok_put T
  have G_led_to : FnOk P w K mg base CX0 2 A.f_led_to A.d_led_to ["term", "links"] (spLed A.C_Term) := ok_led T
  have G_var : FnOk P w K mg base CX0 3 A.f_var A.d_var ["name"] (spVar A.C_Term) := ok_var T
  have G_Term_shown : FnOk P w K mg base CX0 2 A.f_Term_shown A.d_Term_shown ["self"] (spShown A.C_Term) := ok_shown T
  refine T.F_law.ok sc_law (fun vs H Q E h => ?_) (fun cdv ar outer s H vs Q E hr h => ?_)
  · obtain ⟨a, ns, rfl, _⟩ := h
    rfl
  · obtain ⟨a, ns, rfl, hS, hlen, k⟩ := h
    have hu := hu_of hr
    have hr65 := hr.un
    refine ⟨_, (C8.pss_cut (ps_for PassesOwn.never rfl (listK K (pe_call G_l_rounds (hr.mono (by decide)) (by rfl) T.m_l_rounds T.F_l_rounds.kp T.b_l_rounds .nil pass0 (pa_cons (pv 0) (pa_cons pe_int pa_nil)))) (pg_name (i := 1) sc_law.nd rfl (Or.inl rfl))
        (C8.pss_cut (ps_par (i := 2) (j := 3) (by rfl) sc_law.nd rfl rfl (by decide) rfl rfl (pa_cons (pe_call G_l_drawn (hr.mono (by decide)) (by rfl) T.m_l_drawn T.F_l_drawn.kp T.b_l_drawn .nil pass0 (pa_cons (pv 1) pa_nil)) (pa_cons (pe_call G_l_drawn (hr.mono (by decide)) (by rfl) T.m_l_drawn T.F_l_drawn.kp T.b_l_drawn .nil pass0 (pa_cons (pv 1) pa_nil)) pa_nil)) (by rfl))
        (C8.pss_cut (ps_if (pt_cmpR op_eq (pe_call G_l_roll (hr.mono (by decide)) (by rfl) T.m_l_roll T.F_l_roll.kp T.b_l_roll .nil pass0 (pa_cons (pv 1) (pa_cons pe_int pa_nil))) pe_int (nomark _))
          (pss_one (ps_set (i := 3) sc_law.nd rfl (Or.inl rfl) (pe_slice (slL K) (pe_op op_cat (pv 3) (pe_op op_rep (pe_lst (pa_cons (pe_tup (pa_cons pe_str (pa_cons pe_str pa_nil))) pa_nil)) pe_int)) po_none (po_some (pe_callB (lenK K) (by rfl) T.z_len (by decide +kernel) (pa_cons (pv 2) pa_nil))))))
          pss_nil)
        (C8.pss_cut (ps_par (i := 4) (j := 5) (by rfl) sc_law.nd rfl rfl (by decide) rfl rfl (pa_cons (pe_lc (own := [("term", 14)]) (by rfl) sc_law.nd (listK K (pv 2)) (blkOk_by (own := [("term", 14)]) (N := N_law) (sc := defScope s_law) (by decide +kernel)) (fun _ _ _ _ _ => (pg_name (i := 14) sc_law.nd rfl (Or.inl rfl))) (fun _ _ _ _ _ => pts_nil) (fun _ _ _ _ _ => (pe_call G_l_make (hr.mono (by decide)) (by rfl) T.m_l_make T.F_l_make.kp T.b_l_make .nil pass0 (pa_cons (pv 14) pa_nil)))) (pa_cons (pe_lc (own := [("term", 14)]) (by rfl) sc_law.nd (listK K (pv 3)) (blkOk_by (own := [("term", 14)]) (N := N_law) (sc := defScope s_law) (by decide +kernel)) (fun _ _ _ _ _ => (pg_name (i := 14) sc_law.nd rfl (Or.inl rfl))) (fun _ _ _ _ _ => pts_nil) (fun _ _ _ _ _ => (pe_call G_l_make (hr.mono (by decide)) (by rfl) T.m_l_make T.F_l_make.kp T.b_l_make .nil pass0 (pa_cons (pv 14) pa_nil)))) pa_nil)) (by rfl))
        (C8.pss_cut (ps_asg (pe_tup (pa_cons (pe_call G_made_alike (hr.mono (by decide)) (by rfl) T.m_made_alike T.F_made_alike.kp T.b_made_alike .nil pass0 (pa_cons (pv 4) (pa_cons (pv 5) pa_nil))) (pa_cons (pe_call G_l_fits (hr.mono (by decide)) (by rfl) T.m_l_fits T.F_l_fits.kp T.b_l_fits .nil pass0 (pa_cons (pv 2) (pa_cons (pv 3) pa_nil))) pa_nil))) (tupK K (n := 2) rfl (pgs_cons (pg_name (i := 6) sc_law.nd rfl (Or.inr rfl)) (pgs_cons (pg_name (i := 7) sc_law.nd rfl (Or.inl rfl)) pgs_nil))))
        (C8.pss_cut (ps_if (pt_cmpR op_ne (pe_cmpR op_isN (pv 6) pe_non (nomark _)) (pe_cmpR (eqL K hr.units0) (pv 7) (pe_lst pa_nil) (nomark _)) (nomark _))
          (pss_one (ps_ret pe_bl))
          pss_nil)
        (C8.pss_cut (ps_if (pt_cmpR op_isN (pv 6) pe_non (nomark _))
          (pss_one (ps_ret pe_bl))
          pss_nil)
        (C8.pss_cut (ps_if (pt_cmpR (neD K hr.units) (pe_call G_shown_all (hr.mono (by decide)) (by rfl) T.m_shown_all T.F_shown_all.kp T.b_shown_all .nil pass0 (pa_cons (pe_call G_put_in (hr.mono (by decide)) (by rfl) T.m_put_in T.F_put_in.kp T.b_put_in .nil pass0 (pa_cons (pv 4) (pa_cons (pv 6) pa_nil))) pa_nil)) (pe_call G_shown_all (hr.mono (by decide)) (by rfl) T.m_shown_all T.F_shown_all.kp T.b_shown_all .nil pass0 (pa_cons (pe_call G_put_in (hr.mono (by decide)) (by rfl) T.m_put_in T.F_put_in.kp T.b_put_in .nil pass0 (pa_cons (pv 5) (pa_cons (pv 6) pa_nil))) pa_nil)) (nomark _))
          (pss_one (ps_ret pe_bl))
          pss_nil)
        (C8.pss_cut (ps_for PassesOwn.never rfl (listK K (pv 7)) (pg_name (i := 8) sc_law.nd rfl (Or.inl rfl))
          (pss_one (ps_for PassesOwn.never rfl (listK K (pe_lst (pa_cons pe_str (pa_cons pe_str (pa_cons pe_str pa_nil))))) (pg_name (i := 9) sc_law.nd rfl (Or.inl rfl))
            (C8.pss_cut (ps_asg (pe_meth0 (pe_call G_led_to (hr.mono (by decide)) (by rfl) T.m_led_to T.F_led_to.kp T.b_led_to .nil pass0 (pa_cons (pe_call G_var (hr.mono (by decide)) (by rfl) T.m_var T.F_var.kp T.b_var .nil pass0 (pa_cons (pv 9) pa_nil)) (pa_cons (pv 6) pa_nil))) T.cl_Term T.e_Term_shown G_Term_shown (hr.mono (by decide)) T.b_Term_shown .nil pass0) (tupK K (n := 2) rfl (pgs_cons (pg_name (i := 10) sc_law.nd rfl (Or.inl rfl)) (pgs_cons (pg_name (i := 11) sc_law.nd rfl (Or.inl rfl)) pgs_nil))))
            (pss_one (ps_if (pt_cmpR op_ne (pe_ifExp (pt_cmpR op_eq (pv 10) pe_str (nomark _)) (pe_dget hu (pv 8) (pv 11) (fun _ _ => rfl)) (pv 11)) (pe_dget hu (pv 8) (pv 9) (fun _ _ => rfl)) (nomark _))
              (pss_one (ps_ret pe_bl))
              pss_nil))))))
        (C8.pss_cut (ps_set (i := 12) sc_law.nd rfl (Or.inr rfl) (pe_lc (own := [("name", 9)]) (by rfl) sc_law.nd (listK K (pe_lst (pa_cons pe_str (pa_cons pe_str (pa_cons pe_str pa_nil))))) (blkOk_by (own := [("name", 9)]) (N := N_law) (sc := defScope s_law) (by decide +kernel)) (fun _ _ _ _ _ => (pg_name (i := 9) sc_law.nd rfl (Or.inl rfl))) (fun _ _ _ _ _ => pts_nil) (fun _ _ _ _ _ => (pe_meth0 (pe_call G_led_to (hr.mono (by decide)) (by rfl) T.m_led_to T.F_led_to.kp T.b_led_to .nil pass0 (pa_cons (pe_call G_var (hr.mono (by decide)) (by rfl) T.m_var T.F_var.kp T.b_var .nil pass0 (pa_cons (pv 9) pa_nil)) (pa_cons (pv 6) pa_nil))) T.cl_Term T.e_Term_shown G_Term_shown (hr.mono (by decide)) T.b_Term_shown .nil pass0))))
        (C8.pss_cut (ps_setLc (i := 13) (own := [("k", 15), ("end", 16)]) (by rfl) sc_law.nd rfl rfl (sw_true rfl rfl rfl (by decide +kernel)) (enumK K (by rfl) T.z_enumerate (pa_cons (pv 12) pa_nil)) (blkOk_by (own := [("k", 15), ("end", 16)]) (N := N_law) (sc := defScope s_law) (by decide +kernel)) (fun _ _ _ _ _ => (tupK K (n := 2) rfl (pgs_cons (pg_name (i := 15) sc_law.nd rfl (Or.inl rfl)) (pgs_cons (pg_name (i := 16) sc_law.nd rfl (Or.inl rfl)) pgs_nil)))) (fun _ _ _ _ _ => (pts_one (PW.pt (pw_and (pt_cmpR op_eq (pe_ix (ixT K) (pv 16) pe_int (fun _ _ => rfl)) pe_str (nomark _)) (pw_and1 (pt_cmpR (notInD K (units65 hr)) (pv 16) (pe_slice (slL K) (pv 12) po_none (po_some (pv 15))) (by rfl))))))) (fun _ _ _ _ _ => (pv 16)))
        (pss_one (ps_if (pt_cmpR op_ne (pe_ix (ixL K) (pe_lst (pa_cons pe_int (pa_cons pe_int (pa_cons pe_int (pa_cons pe_int pa_nil))))) (pe_callB (lenK K) (by rfl) T.z_len (by decide +kernel) (pa_cons (pv 13) pa_nil)) (fun _ _ => rfl)) (pe_callB (lenK K) (by rfl) T.z_len (by decide +kernel) (pa_cons (pv 7) pa_nil)) (nomark _))
          (pss_one (ps_ret pe_bl))
          pss_nil)))))))))))))
      (pss_one (ps_ret pe_bl))), ?_⟩
    refine ⟨fun _ _ => True, ?_, fun _ _ _ => k _⟩
    refine ⟨_, rfl, a, ns, rfl, hS, fun pd d H1 s1 npd nd ndp hd epd => ?_⟩
    refine ⟨pd, rfl, ⟨_, SqL.of epd⟩, ?_⟩
    refine for_list (K := K) (a := pd) (xs := [.ref d]) (fun i σ H' => (i = 0 ∧ σ = [some (.ref a), none, none, none, none, none, none, none, none, none, none, none, none, none, none, none, none] ∧ H' = H1) ∨ (i = 1 ∧ H' pd = some (.lst [.ref d]))) (.inl ⟨rfl, rfl, rfl⟩)
      (fun i σ H' _ h => by rcases h with ⟨_, _, rfl⟩ | ⟨_, h⟩; exact SqL.of epd; exact SqL.of h) ?_ (fun _ _ _ => trivial)
    rintro i x σ H' hx h
    rcases h with ⟨rfl, rfl, rfl⟩ | ⟨rfl, _⟩
    rotate_left
    · cases hx
    cases hx
    -- one, other
    refine ⟨fun σ H => ∃ (p1 p2 : Addr) (ts us : List Tm), σ = [some (.ref a), some (.ref d), some (.ref p1), some (.ref p2), none, none, none, none, none, none, none, none, none, none, none, none, none] ∧ DiceAt H d ∧ H pd = some (.lst [.ref d]) ∧ EncL H p1 ts ∧ EncL H p2 us ∧ ts.length ≤ 4 ∧ us.length ≤ 4, ?_, ?_⟩
    · refine ⟨_, rfl, d, rfl, hd, fun p1 as ts H2 x2 d2 n1 nd1 e1 t1 l1 => ⟨_, rfl, d, rfl, d2, fun p2 bs us H3 x3 d3 n2 nd2 e2 t2 l2 => ⟨_, _, rfl, ?_⟩⟩⟩
      exact ⟨p1, p2, ts, us, rfl, d3, x3 _ _ (x2 _ _ epd ndp.symm) ndp.symm, ⟨as, x3 _ _ e1 nd1, t1.imp fun a t h => x3 _ _ h (d2.ne_tup h)⟩, ⟨bs, e2, t2⟩, l1, l2⟩
    rintro σ H2 ⟨p1, p2, ts, us, rfl, d2, epd2, E1, E2, l1, l2⟩
    -- if _law_roll(dice, 2) == 0
    refine ⟨fun σ H => ∃ (p1 p2 : Addr) (ts us : List Tm), σ = [some (.ref a), some (.ref d), some (.ref p1), some (.ref p2), none, none, none, none, none, none, none, none, none, none, none, none, none] ∧ H pd = some (.lst [.ref d]) ∧ EncL H p1 ts ∧ EncL H p2 us ∧ ts.length ≤ 4 ∧ us.length ≤ 4, ?_, ?_⟩
    · refine ⟨_, rfl, d, 2, rfl, d2, by decide, by decide, fun n H3 n0 n1 d3 f3 => ?_⟩
      have x3 : SameX d H2 H3 := sx_of f3
      refine ⟨rfl, _, rfl, ?_⟩
      show if decide (V.int n = V.int 0) = true then _ else _
      rw [dec_int]
      have U1 := E1.upx x3 d2
      have U2 := E2.upx x3 d2
      have epd3 := x3 _ _ epd2 ndp.symm
      refine iteD (fun _ => ?_) (fun _ => ⟨p1, p2, ts, us, rfl, epd3, U1, U2, l1, l2⟩)
      obtain ⟨as, ep1, fp1⟩ := id U1
      obtain ⟨bs, ep2, fp2⟩ := id U2
      have la : as.length ≤ 4 := by rw [fp1.1]; exact l1
      have lb : bs.length ≤ 4 := by rw [fp2.1]; exact l2
      refine ⟨_, rfl, (by show 2 ≤ sizeLine; decide), fun t1 ht1 => ⟨(by show 1 ≤ sizeLine; decide), fun q1 hq1 => ⟨q1, 4, _, rfl, rfl, upd_same, by decide, by decide, (by show 4 ≤ sizeLine; decide), fun q2 hq2 => ?_⟩⟩⟩
      have z1 := same_new (o := .tup [.str "var", .str "X"]) ht1
      have z2 := same_new (o := .lst [.ref t1]) hq1
      have z3 := same_new (o := .lst [V.ref t1, V.ref t1, V.ref t1, V.ref t1]) hq2
      refine ⟨p2, q2, bs.map V.ref, [V.ref t1, V.ref t1, V.ref t1, V.ref t1], rfl, rfl, z3 _ _ (z2 _ _ (z1 _ _ ep2)), upd_same, ?_, fun q3 hq3 => ?_⟩
      · rw [List.length_map]
        exact Nat.le_trans (Nat.add_le_add_right lb 4) (by decide)
      have z4 := same_new (o := .lst (bs.map V.ref ++ [V.ref t1, V.ref t1, V.ref t1, V.ref t1])) hq3
      refine ⟨_, rfl, p1, _, rfl, .inl (SqL.of (z4 _ _ (z3 _ _ (z2 _ _ (z1 _ _ ep1))))), _, rfl, q3, _, rfl, SqL.of upd_same, fun p5 hp5 => ?_⟩
      rw [cut_take]
      have z5 := same_new (o := .lst ((bs.map V.ref ++ [V.ref t1, V.ref t1, V.ref t1, V.ref t1]).take (as.map V.ref).length)) hp5
      have z25 := ((z2.trans z3).trans z4).trans z5
      have z := z1.trans z25
      have et1 : EncAt _ t1 (.v .a) := z25 _ _ (by rw [sh_v]; exact upd_same)
      refine ⟨p1, p5, ts, (us ++ [Tm.v .a, Tm.v .a, Tm.v .a, Tm.v .a]).take ts.length, rfl, z _ _ epd3, U1.up z, ⟨(bs ++ [t1, t1, t1, t1]).take ts.length, ?_, ?_⟩, l1, ?_⟩
      · rw [upd_same, List.length_map, fp1.1, List.map_take, List.map_append]
        rfl
      · exact All2.take (All2.app (fp2.imp fun a t h => z _ _ h) (.cons et1 (.cons et1 (.cons et1 (.cons et1 .nil))))) _
      · rw [List.length_take]
        omega
    rintro σ H3 ⟨p1, p2, ts, us, rfl, epd3, E1, E2, l1, l2⟩
    -- left, right
    refine ⟨fun σ H => ∃ (p4 p5 : Addr), σ = [some (.ref a), some (.ref d), some (.ref p1), some (.ref p2), some (.ref p4), some (.ref p5), none, none, none, none, none, none, none, none, none, none, none] ∧ H pd = some (.lst [.ref d]) ∧ EncL H p1 ts ∧ EncL H p2 us ∧ TsAt A.C_Term H p4 ts ∧ TsAt A.C_Term H p5 us, ?_, ?_⟩
    · exact par_of (make_comp (K := K) (fun R hR => ⟨_, rfl, hR⟩) E1 (by omega) fun p4 H4 s4 T4 => make_comp (K := K) (fun R hR => ⟨_, rfl, hR⟩) (E2.up s4) (by omega) fun p5 H5 s5 T5 =>
        ⟨_, _, rfl, p4, p5, rfl, (s4.trans s5) _ _ epd3, E1.up (s4.trans s5), E2.up (s4.trans s5), T4.up s5, T5⟩)
    rintro σ H4 ⟨p4, p5, rfl, epd4, E1, E2, T4, T5⟩
    -- links_now, fits
    refine ⟨fun σ H => ∃ (v6 : V) (f : Addr), σ = [some (.ref a), some (.ref d), some (.ref p1), some (.ref p2), some (.ref p4), some (.ref p5), some v6, some (.ref f), none, none, none, none, none, none, none, none, none] ∧ Mid A.C_Term a d pd ts us p1 p2 p4 p5 f H ∧ MadeV A.C_Term H (alike ts us) v6, ?_, ?_⟩
    · refine ⟨_, rfl, _, rfl, p4, p5, ts, us, rfl, T4, T5, by omega, fun v6 H5 s5 m5 => ?_⟩
      refine ⟨_, rfl, _, rfl, p1, p2, ts, us, rfl, E1.up s5, E2.up s5, by omega, by omega, fun f H6 s6 hf => ?_⟩
      refine ⟨(by show 2 ≤ sizeLine; decide), fun t ht => ?_⟩
      have s7 := (s5.trans s6).trans (same_new (o := .tup [v6, .ref f]) ht)
      have s67 := s6.trans (same_new (o := .tup [v6, .ref f]) ht)
      refine ⟨t, _, rfl, SqT.of upd_same, rfl, _, _, rfl, _, _, rfl, rfl, ?_⟩
      exact ⟨v6, f, rfl, ⟨s7 _ _ epd4, E1.up s7, E2.up s7, T4.up s7, T5.up s7, l1, l2, hf.up (same_new ht)⟩, m5.up s67⟩
    rintro σ H5 ⟨v6, f, rfl, M, MV⟩
    -- if (links_now is None) != (fits == [])
    refine ⟨fun σ H => σ = [some (.ref a), some (.ref d), some (.ref p1), some (.ref p2), some (.ref p4), some (.ref p5), some v6, some (.ref f), none, none, none, none, none, none, none, none, none] ∧ Mid A.C_Term a d pd ts us p1 p2 p4 p5 f H ∧ MadeV A.C_Term H (alike ts us) v6, ?_, ?_⟩
    · obtain ⟨cs, ec, fc⟩ := M.hf
      refine ⟨_, rfl, rfl, _, rfl, Nat.zero_le _, fun l hl => ?_⟩
      refine ⟨f, l, _, rfl, rfl, SqL.of (by rw [upd_ne (ne_of_none ec hl)]; exact ec), SqL.of upd_same, rfl, _, rfl, ?_⟩
      have ev : decide (V.bl (decide (v6 = V.non)) = V.bl (decide ((cs.map V.ref).length = 0))) = true := by
        refine decide_eq_true (congrArg V.bl ?_)
        rw [List.length_map, fc.1]
        cases e : alike ts us with
        | none =>
          rw [e] at MV
          have : v6 = V.non := MV
          rw [decide_eq_true this, U.fits_none e]
          rfl
        | some L =>
          rw [e] at MV
          obtain ⟨l, rfl, _⟩ := MV
          have ac := U.alike_ok ts us
          rw [e] at ac
          have := U.fits_ne ac.1
          rw [U.fits_some e]
          rw [decide_eq_false (fun z => nomatch z), decide_eq_false (fun z => this (List.eq_nil_of_length_eq_zero z))]
      show if (!decide (V.bl (decide (v6 = V.non)) = V.bl (decide ((cs.map V.ref).length = 0)))) = true then _ else _
      rw [ev]
      exact iteF ⟨rfl, M.up (same_new hl), MV.up (same_new hl)⟩
    rintro σ H6 ⟨rfl, M, MV⟩
    -- if links_now is None
    refine ⟨fun σ H => ∃ (l : Addr) (L : Lk), alike ts us = some L ∧ LnAt A.C_Term H l L 8 ∧ σ = [some (.ref a), some (.ref d), some (.ref p1), some (.ref p2), some (.ref p4), some (.ref p5), some (.ref l), some (.ref f), none, none, none, none, none, none, none, none, none] ∧ Mid A.C_Term a d pd ts us p1 p2 p4 p5 f H, ?_, ?_⟩
    · refine ⟨_, rfl, rfl, _, rfl, ?_⟩
      cases e : alike ts us with
      | none =>
        rw [e] at MV
        have : v6 = V.non := MV
        rw [decide_eq_true this]
        exact iteT (k _)
      | some L =>
        rw [e] at MV
        obtain ⟨l, rfl, hl⟩ := MV
        rw [decide_eq_false (fun z => nomatch z)]
        exact iteF ⟨l, L, rfl, hl, rfl, M⟩
    rintro σ H7 ⟨l, L, eL, hL, rfl, M⟩
    have ac : acyc L = true := by
      have := U.alike_ok ts us
      rw [eL] at this
      exact this.1
    -- if shown_all(..) != shown_all(..)
    refine ⟨fun σ H => LnAt A.C_Term H l L 8 ∧ σ = [some (.ref a), some (.ref d), some (.ref p1), some (.ref p2), some (.ref p4), some (.ref p5), some (.ref l), some (.ref f), none, none, none, none, none, none, none, none, none] ∧ Mid A.C_Term a d pd ts us p1 p2 p4 p5 f H, ?_, ?_⟩
    · refine ⟨_, rfl, _, rfl, p4, l, ts, L, 8, rfl, M.t4, by have := M.l1; omega, hL, ac, fun q as1 H8 s8 eq ha => ?_⟩
      refine ⟨q, as1, _, rfl, eq, ha, by rw [List.length_map]; have := M.l1; omega, fun r1 bs1 H9 s9 e9 h9 => ?_⟩
      have s79 := s8.trans s9
      refine ⟨_, rfl, _, rfl, p5, l, us, L, 8, rfl, M.t5.up s79, by have := M.l2; omega, hL.up s79, ac, fun q2 as2 H10 s10 eq2 ha2 => ?_⟩
      refine ⟨q2, as2, _, rfl, eq2, ha2, by rw [List.length_map]; have := M.l2; omega, fun r2 bs2 H11 s11 e11 h11 => ?_⟩
      have s911 := s10.trans s11
      have sall := s79.trans s911
      have lay : ∀ xs : List Tm, SeqAt.shaped (.tuple (xs.map shD)) = true := fun xs => shaped_tuple (n := 2) (by decide) (fun d hd => by obtain ⟨j, _, rfl⟩ := List.mem_map.mp hd; exact shD_lay j)
      refine ⟨.tuple ((ts.map (led L)).map shD), .tuple ((us.map (led L)).map shD), .tup (SqT.of (s911 _ _ e9)) (dp_all (h9.imp fun a t h => s911 _ _ h)), .tup (SqT.of e11) (dp_all h11), lay _, lay _, _, rfl, ?_⟩
      rw [U.put_eq eL, SeqAt.eqv_refl _ (lay_of (lay _))]
      exact iteF ⟨hL.up sall, rfl, M.up sall⟩
    rintro σ H8 ⟨hL, rfl, M⟩
    -- for table in fits
    refine ⟨fun σ H => LnAt A.C_Term H l L 8 ∧ (∃ v8 v9 v10 v11, σ = [some (.ref a), some (.ref d), some (.ref p1), some (.ref p2), some (.ref p4), some (.ref p5), some (.ref l), some (.ref f), v8, v9, v10, v11, none, none, none, none, none]) ∧ Mid A.C_Term a d pd ts us p1 p2 p4 p5 f H, ?_, ?_⟩
    · obtain ⟨cs, ec, fc⟩ := M.hf
      refine ⟨_, rfl, f, rfl, ⟨_, SqL.of ec⟩, ?_⟩
      refine for_list (K := K) (a := f) (xs := cs.map V.ref) (fun i σ H' => Same H8 H' ∧ (∃ v8 v9 v10 v11, σ = [some (.ref a), some (.ref d), some (.ref p1), some (.ref p2), some (.ref p4), some (.ref p5), some (.ref l), some (.ref f), v8, v9, v10, v11, none, none, none, none, none]))
        ⟨Same.refl _, ⟨_, _, _, _, rfl⟩⟩ (fun i σ H' _ h => SqL.of (h.1 _ _ ec)) ?_ (fun σ H' h => ⟨hL.up h.1, h.2, M.up h.1⟩)
      rintro i x σ H' hx ⟨s1, ⟨v8, v9, v10, v11, rfl⟩⟩
      obtain ⟨c, b, rfl, ea, eb, hb⟩ := fc.at hx
      have bm : b ∈ U.fits ts us := List.mem_of_getElem? eb
      have hb := hb.up s1
      refine ⟨(by show 3 ≤ sizeLine; decide), fun q hq => ⟨q, rfl, ⟨_, SqL.of upd_same⟩, ?_⟩⟩
      have s2 := s1.trans (same_new (o := .lst [.str "X", .str "Y", .str "Z"]) hq)
      have hb2 := hb.up (same_new (o := .lst [.str "X", .str "Y", .str "Z"]) hq)
      have eq2 : upd H' q (.lst [.str "X", .str "Y", .str "Z"]) q = some (.lst [.str "X", .str "Y", .str "Z"]) := upd_same
      generalize upd H' q (.lst [.str "X", .str "Y", .str "Z"]) = H2 at s2 hb2 eq2 ⊢
      refine for_list (K := K) (a := q) (xs := [.str "X", .str "Y", .str "Z"]) (fun i σ H' => Same H2 H' ∧ (∃ v9 v10 v11, σ = [some (.ref a), some (.ref d), some (.ref p1), some (.ref p2), some (.ref p4), some (.ref p5), some (.ref l), some (.ref f), some (.ref c), v9, v10, v11, none, none, none, none, none]))
        ⟨Same.refl _, ⟨_, _, _, rfl⟩⟩ (fun i σ H' _ h => SqL.of (h.1 _ _ eq2)) ?_ (fun σ H' ⟨h, ⟨v9, v10, v11, e⟩⟩ => ⟨s2.trans h, ⟨some (.ref c), v9, v10, v11, e⟩⟩)
      rintro i x σ H' hx ⟨s3, ⟨v9, v10, v11, rfl⟩⟩
      obtain ⟨n, rfl⟩ : ∃ n : F3, x = .str (nmF n) := name_at hx
      have fv := U.fit_val eL bm n
      have s23 := s2.trans s3
      have hb3 := hb2.up s3
      refine ⟨fun σ H => Same H2 H ∧ ((∃ j, led L (.v n) = .v j ∧ σ = [some (.ref a), some (.ref d), some (.ref p1), some (.ref p2), some (.ref p4), some (.ref p5), some (.ref l), some (.ref f), some (.ref c), some (.str (nmF n)), some (.str "var"), some (.str (nmF j)), none, none, none, none, none]) ∨
          (∃ j, led L (.v n) = .k j ∧ σ = [some (.ref a), some (.ref d), some (.ref p1), some (.ref p2), some (.ref p4), some (.ref p5), some (.ref l), some (.ref f), some (.ref c), some (.str (nmF n)), some (.str "val"), some (cv j), none, none, none, none, none])), ?_, ?_⟩
      · refine ⟨_, rfl, nmF n, rfl, fun y H4 ny hy s4 => ⟨_, rfl, y, l, .v n, L, 8, rfl, hy, hL.up (s23.trans s4), ac, fun a' ha' => ?_⟩⟩
        have s34 := s3.trans s4
        cases e : led L (.v n) with
        | v j =>
          rw [e] at ha'
          obtain ⟨dx, g⟩ := id ha'
          refine ⟨a', dx, _, rfl, g, no_shown _ _, a', _, _, rfl, ha', fun r hrr => ?_⟩
          rw [sh_v]
          exact ⟨r, _, rfl, SqT.of upd_same, rfl, _, _, rfl, _, _, rfl, rfl, s34.trans (same_new hrr), .inl ⟨j, rfl, rfl⟩⟩
        | k j =>
          rw [e] at ha'
          obtain ⟨dx, g⟩ := id ha'
          refine ⟨a', dx, _, rfl, g, no_shown _ _, a', _, _, rfl, ha', fun r hrr => ?_⟩
          rw [sh_k]
          exact ⟨r, _, rfl, SqT.of upd_same, rfl, _, _, rfl, _, _, rfl, rfl, s34.trans (same_new hrr), .inr ⟨j, rfl, rfl⟩⟩
      · rintro σ H5 ⟨s5, h⟩
        obtain ⟨kvs, ek, fk⟩ := hb2.up s5
        have getn : DGet H5 c (.str (nmF n)) (some (cv (b.get n))) := by
          have := DGet.k (k := .inr (nmF n)) ek
          rw [fk n] at this
          exact this
        rcases h with ⟨j, e, rfl⟩ | ⟨j, e, rfl⟩
        · have ev : b.get j = b.get n := by rw [← fv, e]; rfl
          have getj : DGet H5 c (.str (nmF j)) (some (cv (b.get n))) := by
            have := DGet.k (k := .inr (nmF j)) ek
            rw [fk j, ev] at this
            exact this
          refine ⟨_, rfl, rfl, _, rfl, ?_⟩
          rw [dec_str, decide_eq_true rfl]
          refine iteT ⟨_, rfl, _, rfl, c, _, rfl, getj, _, rfl, _, rfl, c, _, rfl, getn, scal_cv _, _, rfl, ?_⟩
          rw [decide_eq_true rfl]
          exact iteF ⟨s5, ⟨_, _, _, rfl⟩⟩
        · have ev : j = b.get n := by rw [← fv, e]; rfl
          refine ⟨_, rfl, rfl, _, rfl, ?_⟩
          rw [dec_str, decide_eq_false (by decide +kernel)]
          refine iteF ⟨_, rfl, _, rfl, _, rfl, c, _, rfl, getn, by rw [← ev]; exact scal_cv _, _, rfl, ?_⟩
          rw [← ev, decide_eq_true rfl]
          exact iteF ⟨s5, ⟨_, _, _, rfl⟩⟩
    rintro σ H9 ⟨hL, ⟨v8, v9, v10, v11, rfl⟩, M⟩
    -- ends
    refine ⟨fun σ H => ∃ (D : Addr) (es : List Addr), H D = some (.lst (es.map V.ref)) ∧ All2 (EncAt H) es (U.ends L) ∧ (∃ v8 v9 v10 v11, σ = [some (.ref a), some (.ref d), some (.ref p1), some (.ref p2), some (.ref p4), some (.ref p5), some (.ref l), some (.ref f), v8, v9, v10, v11, some (.ref D), none, none, none, none]) ∧ Mid A.C_Term a d pd ts us p1 p2 p4 p5 f H, ?_, ?_⟩
    · refine asg_of ⟨(by show 3 ≤ sizeLine; decide), fun q hq => ⟨q, rfl, ⟨_, SqL.of upd_same⟩, ?_⟩⟩
      have s0 := same_new (o := .lst [.str "X", .str "Y", .str "Z"]) hq
      have eq2 : upd H9 q (.lst [.str "X", .str "Y", .str "Z"]) q = some (.lst [.str "X", .str "Y", .str "Z"]) := upd_same
      generalize upd H9 q (.lst [.str "X", .str "Y", .str "Z"]) = H2 at s0 eq2 ⊢
      refine fun D hD => ?_
      refine lc_list (K := K) (a := q) (xs := [.str "X", .str "Y", .str "Z"]) (fun j H' => Same H2 H' ∧ ∃ bs : List Addr, H' D = some (.lst (bs.map V.ref)) ∧ All2 (EncAt H') bs ((U.ends L).take j)) ⟨same_new hD, [], upd_same, .nil⟩ (fun _ _ _ h => SqL.of (h.1 _ _ eq2)) ?_ ?_
      · rintro i x H' hx ⟨s1, bs, eD, hb⟩
        obtain ⟨n, rfl, en⟩ : ∃ n : F3, x = .str (nmF n) ∧ (U.ends L)[i]? = some (led L (.v n)) := name_at2 hx
        refine ⟨rfl, _, rfl, nmF n, rfl, fun y H4 ny hy s4 => ⟨_, rfl, y, l, .v n, L, 8, rfl, hy, hL.up ((s0.trans s1).trans s4), ac, fun a' ha' => ?_⟩⟩
        obtain ⟨dx, g⟩ := id ha'
        refine ⟨a', dx, _, rfl, g, no_shown _ _, a', _, _, rfl, ha', fun r hrr => ?_⟩
        have s5 := same_new (o := .tup (sh (nm (led L (.v n))) (vl (led L (.v n))))) hrr
        have s45 := s4.trans s5
        have eD2 := s45 _ _ eD
        have hl : bs.length ≤ 3 := by
          rw [hb.1, List.length_take]
          exact Nat.le_trans (Nat.min_le_right _ _) (Nat.le_refl 3)
        refine ⟨_, eD2, by rw [List.length_map]; exact sz (by omega), same_mut (s1.trans s45) hD, bs ++ [r], by rw [upd_same, List.map_append]; rfl, ?_⟩
        rw [take_one en]
        have hb2 : All2 (EncAt _) (bs ++ [r]) ((U.ends L).take i ++ [led L (.v n)]) := (hb.imp fun a t h => s45 _ _ h).snoc (R := EncAt (upd H4 r (.tup (sh (nm (led L (.v n))) (vl (led L (.v n))))))) upd_same
        exact hb2.imp fun a t h => by
          show upd _ D _ a = _
          rw [upd_ne (ne_of h eD2 (fun q => nomatch q))]
          exact h
      · rintro H' ⟨s1, bs, eD, hb⟩
        exact ⟨D, bs, eD, hb, ⟨_, _, _, _, rfl⟩, M.up (s0.trans s1)⟩
    rintro σ H10 ⟨D, es, eD, he, ⟨v8, v9, v10, v11, rfl⟩, M⟩
    -- free
    refine ⟨fun σ H => ∃ (F : Addr) (xs : List V), H F = some (.lst xs) ∧ xs.length = U.cnt L 3 ∧ (∃ v8 v9 v10 v11, σ = [some (.ref a), some (.ref d), some (.ref p1), some (.ref p2), some (.ref p4), some (.ref p5), some (.ref l), some (.ref f), v8, v9, v10, v11, some (.ref D), some (.ref F), none, none, none]) ∧ Mid A.C_Term a d pd ts us p1 p2 p4 p5 f H, ?_, ?_⟩
    · have he : All2 (EncAt H10) es (U.ends L) := he
      refine asg_of ⟨_, rfl, D, _, rfl, SqL.of eD, fun F hF => ?_⟩
      refine lc_enum (K := K) (a := D) (xs := es.map V.ref) (fun i H' => i ≤ 3 ∧ Same H10 H' ∧ ∃ xs : List V, H' F = some (.lst xs) ∧ xs.length = U.cnt L i) ⟨by omega, same_new hF, [], upd_same, rfl⟩ (fun _ _ _ h => SqL.of (h.2.1 _ _ eD)) ?_ ?_
      · rintro i x t1 H' hx ⟨hi3, s1, xs, eF, hxl⟩ ht1
        obtain ⟨q, e, rfl, eq, ee, hq⟩ := he.at hx
        have hi : i < 3 := (List.getElem?_eq_some_iff.mp ee).1
        have z1 := same_new (o := .tup [.int (i : Nat), .ref q]) ht1
        have z01 := s1.trans z1
        have hq1 := z01 _ _ hq
        refine ⟨t1, _, rfl, SqT.of upd_same, rfl, _, _, rfl, _, _, rfl, rfl, rfl, ?_⟩
        have eF1 := z1 _ _ eF
        have cl : U.cnt L i ≤ i := cnt_le L i
        have cs := U.cnt_step ee
        generalize upd H' t1 (.tup [.int (i : Nat), .ref q]) = H2 at z01 hq1 eF1 ⊢
        rcases e with j | j
        · rw [sh_v] at hq1
          refine ⟨_, rfl, q, _, _, _, rfl, rfl, SqT.of hq1, rfl, rfl, _, rfl, ?_⟩
          rw [dec_str, decide_eq_true rfl]
          refine iteT ⟨_, rfl, _, rfl, _, rfl, _, rfl, D, _, rfl, SqL.of (z01 _ _ eD), fun s2 hs2 => ?_⟩
          rw [cut_take]
          have z2 := same_new (o := .lst ((es.map V.ref).take i)) hs2
          have z02 := z01.trans z2
          have dq : Dp K (upd H2 s2 (.lst ((es.map V.ref).take i))) (.ref q) (shD (.v j)) := dp_sh (by rw [sh_v]; exact z2 _ _ hq1)
          have ds : Dp K (upd H2 s2 (.lst ((es.map V.ref).take i))) (.ref s2) (.list (((U.ends L).take i).map shD)) := by
            refine .lst (SqL.of upd_same) ?_
            have dd := dp_all (K := K) ((he.imp (S := EncAt (upd H2 s2 (.lst ((es.map V.ref).take i)))) fun a t h => z02 _ _ h).take i)
            rw [List.map_take] at dd
            exact dd
          refine ⟨_, _, dq, ds, sh_shaped _, shaped_list (n := 2) (by decide) (fun d hd => by obtain ⟨j, _, rfl⟩ := List.mem_map.mp hd; exact shD_lay j), _, rfl, ?_⟩
          have ev : (!(((U.ends L).take i).map shD).any fun z => PyData.eqv z (shD (.v j))) = U.freshAt L i (.v j) := by
            unfold U.freshAt
            rw [List.any_map]
            show _ = (true && _)
            rw [Bool.true_and]
            congr 2
            funext z
            exact sh_eqv z (.v j)
          rw [ev]
          have eF2 := z2 _ _ eF1
          refine iteB (fun hf => ?_) (fun hf => ?_)
          · refine ⟨_, rfl, xs, eF2, sz (by omega), by omega, same_mut z02 hF, _, upd_same, ?_⟩
            rw [List.length_append, cs, if_pos hf, hxl]
            rfl
          · exact ⟨by omega, z02, xs, eF2, by rw [cs, if_neg (by rw [hf]; decide), hxl]; rfl⟩
        · rw [sh_k] at hq1
          refine ⟨_, rfl, q, _, _, _, rfl, rfl, SqT.of hq1, rfl, rfl, _, rfl, ?_⟩
          rw [dec_str, decide_eq_false (by decide +kernel)]
          exact iteF (iteF ⟨by omega, z01, xs, eF1, by rw [cs, if_neg (show ¬ U.freshAt L i (.k j) = true from fun z => nomatch (show false = true from z)), hxl]; rfl⟩)
      · rintro H' ⟨_, s1, xs, eF, hxl⟩
        rw [List.length_map, he.1] at hxl
        exact ⟨F, xs, eF, hxl, ⟨_, _, _, _, rfl⟩, M.up s1⟩
    rintro σ H11 ⟨F, xs, eF, hl, ⟨v8, v9, v10, v11, rfl⟩, M⟩
    -- the last test
    obtain ⟨cs, ec, fc⟩ := M.hf
    have hc := U.free_count ac
    rw [← U.fits_some eL, ← hl] at hc
    refine ⟨(by show 4 ≤ sizeLine; decide), fun q hq => ?_⟩
    have z := same_new (o := .lst [.int 1, .int 3, .int 9, .int 27]) hq
    have at4 : atI ([.int 1, .int 3, .int 9, .int 27] : List V) (xs.length : Int) = some (.int ((cs.map V.ref).length : Int)) := by
      rw [List.length_map, fc.1]
      have h4 : xs.length < 4 := (List.getElem?_eq_some_iff.mp hc).1
      match h : xs.length, h4 with
      | 0, _ => rw [h] at hc; rw [← Option.some.inj hc]; rfl
      | 1, _ => rw [h] at hc; rw [← Option.some.inj hc]; rfl
      | 2, _ => rw [h] at hc; rw [← Option.some.inj hc]; rfl
      | 3, _ => rw [h] at hc; rw [← Option.some.inj hc]; rfl
    refine ⟨_, rfl, F, _, rfl, .inl (SqL.of (z _ _ eF)), q, _, _, _, rfl, rfl, SqL.of upd_same, at4, _, rfl, f, _, rfl, .inl (SqL.of (z _ _ ec)), rfl, _, rfl, ?_⟩
    rw [dec_int, decide_eq_true rfl]
    exact iteF (.inr ⟨rfl, z _ _ M.hpd⟩)
end
end Toy

set_option Elab.async false
set_option maxRecDepth 100000
set_option maxHeartbeats 4000000
namespace Toy
open PySem L2
/-! ### the end
-/
theorem all_mk {l : PySem.W.OpenLaw} {w : World} {K : PySem.W.Frag} {h : Heap} {mg : Str → Option Value} {fa : Addr} (X : K.In h) (G : h.Ns mainGlobals mg) (hfa : mg "law" = some (.ref fa))
    {C_Term : Addr}
    {f_Term_init : Addr} {oc_Term_init kV_Term_init dc_Term_init pm_Term_init cd_Term_init ct_Term_init dV_Term_init : Value} {od_Term_init an_Term_init : Option Addr} {sl_Term_init : Array (Option Value)}
    {f_Term_is_variable : Addr} {oc_Term_is_variable kV_Term_is_variable dc_Term_is_variable pm_Term_is_variable cd_Term_is_variable ct_Term_is_variable : Value} {od_Term_is_variable an_Term_is_variable : Option Addr} {sl_Term_is_variable : Array (Option Value)}
    {f_Term_shown : Addr} {oc_Term_shown kV_Term_shown dc_Term_shown pm_Term_shown cd_Term_shown ct_Term_shown : Value} {od_Term_shown an_Term_shown : Option Addr} {sl_Term_shown : Array (Option Value)}
    {f_var : Addr} {oc_var kV_var dc_var pm_var cd_var ct_var : Value} {od_var an_var : Option Addr} {sl_var : Array (Option Value)}
    {f_val : Addr} {oc_val kV_val dc_val pm_val cd_val ct_val : Value} {od_val an_val : Option Addr} {sl_val : Array (Option Value)}
    {f_led_to : Addr} {oc_led_to kV_led_to dc_led_to pm_led_to cd_led_to ct_led_to : Value} {od_led_to an_led_to : Option Addr} {sl_led_to : Array (Option Value)}
    {f_made_alike : Addr} {oc_made_alike kV_made_alike dc_made_alike pm_made_alike cd_made_alike ct_made_alike : Value} {od_made_alike an_made_alike : Option Addr} {sl_made_alike : Array (Option Value)}
    {f_put_in : Addr} {oc_put_in kV_put_in dc_put_in pm_put_in cd_put_in ct_put_in : Value} {od_put_in an_put_in : Option Addr} {sl_put_in : Array (Option Value)}
    {f_shown_all : Addr} {oc_shown_all kV_shown_all dc_shown_all pm_shown_all cd_shown_all ct_shown_all : Value} {od_shown_all an_shown_all : Option Addr} {sl_shown_all : Array (Option Value)}
    {f_l_dice : Addr} {oc_l_dice kV_l_dice dc_l_dice pm_l_dice cd_l_dice ct_l_dice : Value} {od_l_dice an_l_dice : Option Addr} {sl_l_dice : Array (Option Value)}
    {f_l_roll : Addr} {oc_l_roll kV_l_roll dc_l_roll pm_l_roll cd_l_roll ct_l_roll : Value} {od_l_roll an_l_roll : Option Addr} {sl_l_roll : Array (Option Value)}
    {f_l_rounds : Addr} {oc_l_rounds kV_l_rounds dc_l_rounds pm_l_rounds cd_l_rounds ct_l_rounds : Value} {od_l_rounds an_l_rounds : Option Addr} {sl_l_rounds : Array (Option Value)}
    {f_l_make : Addr} {oc_l_make kV_l_make dc_l_make pm_l_make cd_l_make ct_l_make : Value} {od_l_make an_l_make : Option Addr} {sl_l_make : Array (Option Value)}
    {f_l_drawn : Addr} {oc_l_drawn kV_l_drawn dc_l_drawn pm_l_drawn cd_l_drawn ct_l_drawn : Value} {od_l_drawn an_l_drawn : Option Addr} {sl_l_drawn : Array (Option Value)}
    {f_l_fits : Addr} {oc_l_fits kV_l_fits dc_l_fits pm_l_fits cd_l_fits ct_l_fits : Value} {od_l_fits an_l_fits : Option Addr} {sl_l_fits : Array (Option Value)}
    {f_law : Addr} {oc_law kV_law dc_law pm_law cd_law ct_law : Value} {od_law an_law : Option Addr} {sl_law : Array (Option Value)}
    (aC_Term : PySem.W.nsIn K mainGlobals "Term" = some (some (.ref C_Term)))
    (pg_Term : PySem.W.plainGet K C_Term Str.empty = true)
    (hd_Term : PySem.W.hasDictIn K C_Term = true)
    (po_Term : PySem.W.plainOver K C_Term = true)
    (sa_Term : PySem.W.findIn K (.ref C_Term) "__setattr__" = some (some (.builtin "object.__setattr__")))
    (mk_Term : PySem.W.makesIn K C_Term = true)
    (kc_Term : PySem.W.keepIn K (.ref C_Term) = true)
    (n_Term_name : PySem.W.findIn K (.ref C_Term) "name" = some none)
    (n_Term_value : PySem.W.findIn K (.ref C_Term) "value" = some none)
    (a_Term_init : PySem.W.findIn K (.ref C_Term) "__init__" = some (some (.ref f_Term_init)))
    (i_Term_init : PySem.W.isFn K (.ref f_Term_init) = true)
    (l_Term_init : K.lookup f_Term_init = some ⟨oc_Term_init, od_Term_init, .func (PySem.W.fnOf "__init__" "Term.__init__" (defArgs s_Term_init) (defBody s_Term_init) (defScope s_Term_init) dV_Term_init kV_Term_init dc_Term_init pm_Term_init an_Term_init cd_Term_init ct_Term_init), sl_Term_init⟩)
    (v_Term_init : DflV K dV_Term_init [.non])
    (c_Term_init : PySem.W.codeIn K cd_Term_init "Term.__init__" = true)
    (k_Term_init : PySem.W.keepIn K (.ref f_Term_init) = true)
    (a_Term_is_variable : PySem.W.findIn K (.ref C_Term) "is_variable" = some (some (.ref f_Term_is_variable)))
    (i_Term_is_variable : PySem.W.isFn K (.ref f_Term_is_variable) = true)
    (l_Term_is_variable : K.lookup f_Term_is_variable = some ⟨oc_Term_is_variable, od_Term_is_variable, .func (PySem.W.fnOf "is_variable" "Term.is_variable" (defArgs s_Term_is_variable) (defBody s_Term_is_variable) (defScope s_Term_is_variable) .none kV_Term_is_variable dc_Term_is_variable pm_Term_is_variable an_Term_is_variable cd_Term_is_variable ct_Term_is_variable), sl_Term_is_variable⟩)
    (c_Term_is_variable : PySem.W.codeIn K cd_Term_is_variable "Term.is_variable" = true)
    (k_Term_is_variable : PySem.W.keepIn K (.ref f_Term_is_variable) = true)
    (a_Term_shown : PySem.W.findIn K (.ref C_Term) "shown" = some (some (.ref f_Term_shown)))
    (i_Term_shown : PySem.W.isFn K (.ref f_Term_shown) = true)
    (l_Term_shown : K.lookup f_Term_shown = some ⟨oc_Term_shown, od_Term_shown, .func (PySem.W.fnOf "shown" "Term.shown" (defArgs s_Term_shown) (defBody s_Term_shown) (defScope s_Term_shown) .none kV_Term_shown dc_Term_shown pm_Term_shown an_Term_shown cd_Term_shown ct_Term_shown), sl_Term_shown⟩)
    (c_Term_shown : PySem.W.codeIn K cd_Term_shown "Term.shown" = true)
    (k_Term_shown : PySem.W.keepIn K (.ref f_Term_shown) = true)
    (a_var : PySem.W.nsIn K mainGlobals "var" = some (some (.ref f_var)))
    (l_var : K.lookup f_var = some ⟨oc_var, od_var, .func (PySem.W.fnOf "var" "var" (defArgs s_var) (defBody s_var) (defScope s_var) .none kV_var dc_var pm_var an_var cd_var ct_var), sl_var⟩)
    (c_var : PySem.W.codeIn K cd_var "var" = true)
    (k_var : PySem.W.keepIn K (.ref f_var) = true)
    (a_val : PySem.W.nsIn K mainGlobals "val" = some (some (.ref f_val)))
    (l_val : K.lookup f_val = some ⟨oc_val, od_val, .func (PySem.W.fnOf "val" "val" (defArgs s_val) (defBody s_val) (defScope s_val) .none kV_val dc_val pm_val an_val cd_val ct_val), sl_val⟩)
    (c_val : PySem.W.codeIn K cd_val "val" = true)
    (k_val : PySem.W.keepIn K (.ref f_val) = true)
    (a_led_to : PySem.W.nsIn K mainGlobals "led_to" = some (some (.ref f_led_to)))
    (l_led_to : K.lookup f_led_to = some ⟨oc_led_to, od_led_to, .func (PySem.W.fnOf "led_to" "led_to" (defArgs s_led_to) (defBody s_led_to) (defScope s_led_to) .none kV_led_to dc_led_to pm_led_to an_led_to cd_led_to ct_led_to), sl_led_to⟩)
    (c_led_to : PySem.W.codeIn K cd_led_to "led_to" = true)
    (k_led_to : PySem.W.keepIn K (.ref f_led_to) = true)
    (a_made_alike : PySem.W.nsIn K mainGlobals "made_alike" = some (some (.ref f_made_alike)))
    (l_made_alike : K.lookup f_made_alike = some ⟨oc_made_alike, od_made_alike, .func (PySem.W.fnOf "made_alike" "made_alike" (defArgs s_made_alike) (defBody s_made_alike) (defScope s_made_alike) .none kV_made_alike dc_made_alike pm_made_alike an_made_alike cd_made_alike ct_made_alike), sl_made_alike⟩)
    (c_made_alike : PySem.W.codeIn K cd_made_alike "made_alike" = true)
    (k_made_alike : PySem.W.keepIn K (.ref f_made_alike) = true)
    (a_put_in : PySem.W.nsIn K mainGlobals "put_in" = some (some (.ref f_put_in)))
    (l_put_in : K.lookup f_put_in = some ⟨oc_put_in, od_put_in, .func (PySem.W.fnOf "put_in" "put_in" (defArgs s_put_in) (defBody s_put_in) (defScope s_put_in) .none kV_put_in dc_put_in pm_put_in an_put_in cd_put_in ct_put_in), sl_put_in⟩)
    (c_put_in : PySem.W.codeIn K cd_put_in "put_in" = true)
    (k_put_in : PySem.W.keepIn K (.ref f_put_in) = true)
    (a_shown_all : PySem.W.nsIn K mainGlobals "shown_all" = some (some (.ref f_shown_all)))
    (l_shown_all : K.lookup f_shown_all = some ⟨oc_shown_all, od_shown_all, .func (PySem.W.fnOf "shown_all" "shown_all" (defArgs s_shown_all) (defBody s_shown_all) (defScope s_shown_all) .none kV_shown_all dc_shown_all pm_shown_all an_shown_all cd_shown_all ct_shown_all), sl_shown_all⟩)
    (c_shown_all : PySem.W.codeIn K cd_shown_all "shown_all" = true)
    (k_shown_all : PySem.W.keepIn K (.ref f_shown_all) = true)
    (a_l_dice : PySem.W.nsIn K mainGlobals "_law_dice" = some (some (.ref f_l_dice)))
    (l_l_dice : K.lookup f_l_dice = some ⟨oc_l_dice, od_l_dice, .func (PySem.W.fnOf "_law_dice" "_law_dice" (defArgs s_l_dice) (defBody s_l_dice) (defScope s_l_dice) .none kV_l_dice dc_l_dice pm_l_dice an_l_dice cd_l_dice ct_l_dice), sl_l_dice⟩)
    (c_l_dice : PySem.W.codeIn K cd_l_dice "_law_dice" = true)
    (k_l_dice : PySem.W.keepIn K (.ref f_l_dice) = true)
    (a_l_roll : PySem.W.nsIn K mainGlobals "_law_roll" = some (some (.ref f_l_roll)))
    (l_l_roll : K.lookup f_l_roll = some ⟨oc_l_roll, od_l_roll, .func (PySem.W.fnOf "_law_roll" "_law_roll" (defArgs s_l_roll) (defBody s_l_roll) (defScope s_l_roll) .none kV_l_roll dc_l_roll pm_l_roll an_l_roll cd_l_roll ct_l_roll), sl_l_roll⟩)
    (c_l_roll : PySem.W.codeIn K cd_l_roll "_law_roll" = true)
    (k_l_roll : PySem.W.keepIn K (.ref f_l_roll) = true)
    (a_l_rounds : PySem.W.nsIn K mainGlobals "_law_rounds" = some (some (.ref f_l_rounds)))
    (l_l_rounds : K.lookup f_l_rounds = some ⟨oc_l_rounds, od_l_rounds, .func (PySem.W.fnOf "_law_rounds" "_law_rounds" (defArgs s_l_rounds) (defBody s_l_rounds) (defScope s_l_rounds) .none kV_l_rounds dc_l_rounds pm_l_rounds an_l_rounds cd_l_rounds ct_l_rounds), sl_l_rounds⟩)
    (c_l_rounds : PySem.W.codeIn K cd_l_rounds "_law_rounds" = true)
    (k_l_rounds : PySem.W.keepIn K (.ref f_l_rounds) = true)
    (a_l_make : PySem.W.nsIn K mainGlobals "_law_make" = some (some (.ref f_l_make)))
    (l_l_make : K.lookup f_l_make = some ⟨oc_l_make, od_l_make, .func (PySem.W.fnOf "_law_make" "_law_make" (defArgs s_l_make) (defBody s_l_make) (defScope s_l_make) .none kV_l_make dc_l_make pm_l_make an_l_make cd_l_make ct_l_make), sl_l_make⟩)
    (c_l_make : PySem.W.codeIn K cd_l_make "_law_make" = true)
    (k_l_make : PySem.W.keepIn K (.ref f_l_make) = true)
    (a_l_drawn : PySem.W.nsIn K mainGlobals "_law_drawn" = some (some (.ref f_l_drawn)))
    (l_l_drawn : K.lookup f_l_drawn = some ⟨oc_l_drawn, od_l_drawn, .func (PySem.W.fnOf "_law_drawn" "_law_drawn" (defArgs s_l_drawn) (defBody s_l_drawn) (defScope s_l_drawn) .none kV_l_drawn dc_l_drawn pm_l_drawn an_l_drawn cd_l_drawn ct_l_drawn), sl_l_drawn⟩)
    (c_l_drawn : PySem.W.codeIn K cd_l_drawn "_law_drawn" = true)
    (k_l_drawn : PySem.W.keepIn K (.ref f_l_drawn) = true)
    (a_l_fits : PySem.W.nsIn K mainGlobals "_law_fits" = some (some (.ref f_l_fits)))
    (l_l_fits : K.lookup f_l_fits = some ⟨oc_l_fits, od_l_fits, .func (PySem.W.fnOf "_law_fits" "_law_fits" (defArgs s_l_fits) (defBody s_l_fits) (defScope s_l_fits) .none kV_l_fits dc_l_fits pm_l_fits an_l_fits cd_l_fits ct_l_fits), sl_l_fits⟩)
    (c_l_fits : PySem.W.codeIn K cd_l_fits "_law_fits" = true)
    (k_l_fits : PySem.W.keepIn K (.ref f_l_fits) = true)
    (a_law : PySem.W.nsIn K mainGlobals "law" = some (some (.ref f_law)))
    (l_law : K.lookup f_law = some ⟨oc_law, od_law, .func (PySem.W.fnOf "law" "law" (defArgs s_law) (defBody s_law) (defScope s_law) .none kV_law dc_law pm_law an_law cd_law ct_law), sl_law⟩)
    (c_law : PySem.W.codeIn K cd_law "law" = true)
    (k_law : PySem.W.keepIn K (.ref f_law) = true)
    (z_abs : PySem.W.nsIn K mainGlobals "abs" = some none)
    (z_enumerate : PySem.W.nsIn K mainGlobals "enumerate" = some none)
    (z_int : PySem.W.nsIn K mainGlobals "int" = some none)
    (z_len : PySem.W.nsIn K mainGlobals "len" = some none)
    (z_range : PySem.W.nsIn K mainGlobals "range" = some none)
    (z_tuple : PySem.W.nsIn K mainGlobals "tuple" = some none)
    (z_zip : PySem.W.nsIn K mainGlobals "zip" = some none) :
    ∃ fd : FuncData, (∀ (s : Shared) (v : Value), BindsTo s fd ⟨[v], []⟩ [("script", v)]) ∧ ∀ base : Heap, K.In base → base.Ns mainGlobals mg → FnOk l.prog w K mg base CX0 5 fa fd ["script"] (spLaw K) := by
  have ef : f_law = fa := by
    have e := hfa.symm.trans (PySem.W.mg_of X G a_law)
    injection e with e
    injection e with e
    exact e.symm
  subst ef
  let A : Ad := ⟨f_Term_init, (PySem.W.fnOf "__init__" "Term.__init__" (defArgs s_Term_init) (defBody s_Term_init) (defScope s_Term_init) dV_Term_init kV_Term_init dc_Term_init pm_Term_init an_Term_init cd_Term_init ct_Term_init), f_Term_is_variable, (PySem.W.fnOf "is_variable" "Term.is_variable" (defArgs s_Term_is_variable) (defBody s_Term_is_variable) (defScope s_Term_is_variable) .none kV_Term_is_variable dc_Term_is_variable pm_Term_is_variable an_Term_is_variable cd_Term_is_variable ct_Term_is_variable), f_Term_shown, (PySem.W.fnOf "shown" "Term.shown" (defArgs s_Term_shown) (defBody s_Term_shown) (defScope s_Term_shown) .none kV_Term_shown dc_Term_shown pm_Term_shown an_Term_shown cd_Term_shown ct_Term_shown), f_var, (PySem.W.fnOf "var" "var" (defArgs s_var) (defBody s_var) (defScope s_var) .none kV_var dc_var pm_var an_var cd_var ct_var), f_val, (PySem.W.fnOf "val" "val" (defArgs s_val) (defBody s_val) (defScope s_val) .none kV_val dc_val pm_val an_val cd_val ct_val), f_led_to, (PySem.W.fnOf "led_to" "led_to" (defArgs s_led_to) (defBody s_led_to) (defScope s_led_to) .none kV_led_to dc_led_to pm_led_to an_led_to cd_led_to ct_led_to), f_made_alike, (PySem.W.fnOf "made_alike" "made_alike" (defArgs s_made_alike) (defBody s_made_alike) (defScope s_made_alike) .none kV_made_alike dc_made_alike pm_made_alike an_made_alike cd_made_alike ct_made_alike), f_put_in, (PySem.W.fnOf "put_in" "put_in" (defArgs s_put_in) (defBody s_put_in) (defScope s_put_in) .none kV_put_in dc_put_in pm_put_in an_put_in cd_put_in ct_put_in), f_shown_all, (PySem.W.fnOf "shown_all" "shown_all" (defArgs s_shown_all) (defBody s_shown_all) (defScope s_shown_all) .none kV_shown_all dc_shown_all pm_shown_all an_shown_all cd_shown_all ct_shown_all), f_l_dice, (PySem.W.fnOf "_law_dice" "_law_dice" (defArgs s_l_dice) (defBody s_l_dice) (defScope s_l_dice) .none kV_l_dice dc_l_dice pm_l_dice an_l_dice cd_l_dice ct_l_dice), f_l_roll, (PySem.W.fnOf "_law_roll" "_law_roll" (defArgs s_l_roll) (defBody s_l_roll) (defScope s_l_roll) .none kV_l_roll dc_l_roll pm_l_roll an_l_roll cd_l_roll ct_l_roll), f_l_rounds, (PySem.W.fnOf "_law_rounds" "_law_rounds" (defArgs s_l_rounds) (defBody s_l_rounds) (defScope s_l_rounds) .none kV_l_rounds dc_l_rounds pm_l_rounds an_l_rounds cd_l_rounds ct_l_rounds), f_l_make, (PySem.W.fnOf "_law_make" "_law_make" (defArgs s_l_make) (defBody s_l_make) (defScope s_l_make) .none kV_l_make dc_l_make pm_l_make an_l_make cd_l_make ct_l_make), f_l_drawn, (PySem.W.fnOf "_law_drawn" "_law_drawn" (defArgs s_l_drawn) (defBody s_l_drawn) (defScope s_l_drawn) .none kV_l_drawn dc_l_drawn pm_l_drawn an_l_drawn cd_l_drawn ct_l_drawn), f_l_fits, (PySem.W.fnOf "_law_fits" "_law_fits" (defArgs s_l_fits) (defBody s_l_fits) (defScope s_l_fits) .none kV_l_fits dc_l_fits pm_l_fits an_l_fits cd_l_fits ct_l_fits), f_law, (PySem.W.fnOf "law" "law" (defArgs s_law) (defBody s_law) (defScope s_law) .none kV_law dc_law pm_law an_law cd_law ct_law), C_Term⟩
  have F_Term_init : FunD K "__init__" "Term.__init__" (defArgs s_Term_init) (defBody s_Term_init) (defScope s_Term_init) [.non] [] A.f_Term_init A.d_Term_init := ⟨⟨_, _, _, _, _, _, _, _, _, _, rfl, l_Term_init, c_Term_init, v_Term_init, .inl rfl⟩, k_Term_init⟩
  have b_Term_init : Binds K A.d_Term_init ["self", "name", "value"] [] := by
    obtain ⟨ds, hv, hb⟩ := F_Term_init.binds1 (ps := ["self", "name", "value"]) 3 1 (by decide) rfl fun _ _ _ _ _ _ _ us its hl hi => match us, its, hl, hi with | [_, _, _], [_], _, _ => ⟨_, rfl, rfl⟩
    cases hv
    exact hb
  have bd_Term_init := F_Term_init.binds1 (ps := ["self", "name", "value"]) 2 0 (by decide) rfl fun _ _ _ _ _ _ _ us its hl hi => match us, its, hl, hi with | [_, _], [_], _, _ => ⟨_, rfl, rfl⟩
  have F_Term_is_variable := fun_mk (st := s_Term_is_variable) l_Term_is_variable c_Term_is_variable k_Term_is_variable
  have b_Term_is_variable := F_Term_is_variable.binds (ps := ["self"]) fun _ _ _ _ _ _ us hl => match us, hl with | [_], _ => rfl
  have F_Term_shown := fun_mk (st := s_Term_shown) l_Term_shown c_Term_shown k_Term_shown
  have b_Term_shown := F_Term_shown.binds (ps := ["self"]) fun _ _ _ _ _ _ us hl => match us, hl with | [_], _ => rfl
  have F_var := fun_mk (st := s_var) l_var c_var k_var
  have b_var := F_var.binds (ps := ["name"]) fun _ _ _ _ _ _ us hl => match us, hl with | [_], _ => rfl
  have F_val := fun_mk (st := s_val) l_val c_val k_val
  have b_val := F_val.binds (ps := ["value"]) fun _ _ _ _ _ _ us hl => match us, hl with | [_], _ => rfl
  have F_led_to := fun_mk (st := s_led_to) l_led_to c_led_to k_led_to
  have b_led_to := F_led_to.binds (ps := ["term", "links"]) fun _ _ _ _ _ _ us hl => match us, hl with | [_, _], _ => rfl
  have F_made_alike := fun_mk (st := s_made_alike) l_made_alike c_made_alike k_made_alike
  have b_made_alike := F_made_alike.binds (ps := ["one", "other"]) fun _ _ _ _ _ _ us hl => match us, hl with | [_, _], _ => rfl
  have F_put_in := fun_mk (st := s_put_in) l_put_in c_put_in k_put_in
  have b_put_in := F_put_in.binds (ps := ["terms", "links"]) fun _ _ _ _ _ _ us hl => match us, hl with | [_, _], _ => rfl
  have F_shown_all := fun_mk (st := s_shown_all) l_shown_all c_shown_all k_shown_all
  have b_shown_all := F_shown_all.binds (ps := ["terms"]) fun _ _ _ _ _ _ us hl => match us, hl with | [_], _ => rfl
  have F_l_dice := fun_mk (st := s_l_dice) l_l_dice c_l_dice k_l_dice
  have b_l_dice := F_l_dice.binds (ps := ["cell"]) fun _ _ _ _ _ _ us hl => match us, hl with | [_], _ => rfl
  have F_l_roll := fun_mk (st := s_l_roll) l_l_roll c_l_roll k_l_roll
  have b_l_roll := F_l_roll.binds (ps := ["dice", "many"]) fun _ _ _ _ _ _ us hl => match us, hl with | [_, _], _ => rfl
  have F_l_rounds := fun_mk (st := s_l_rounds) l_l_rounds c_l_rounds k_l_rounds
  have b_l_rounds := F_l_rounds.binds (ps := ["script", "most"]) fun _ _ _ _ _ _ us hl => match us, hl with | [_, _], _ => rfl
  have F_l_make := fun_mk (st := s_l_make) l_l_make c_l_make k_l_make
  have b_l_make := F_l_make.binds (ps := ["term"]) fun _ _ _ _ _ _ us hl => match us, hl with | [_], _ => rfl
  have F_l_drawn := fun_mk (st := s_l_drawn) l_l_drawn c_l_drawn k_l_drawn
  have b_l_drawn := F_l_drawn.binds (ps := ["dice"]) fun _ _ _ _ _ _ us hl => match us, hl with | [_], _ => rfl
  have F_l_fits := fun_mk (st := s_l_fits) l_l_fits c_l_fits k_l_fits
  have b_l_fits := F_l_fits.binds (ps := ["one", "other"]) fun _ _ _ _ _ _ us hl => match us, hl with | [_, _], _ => rfl
  have F_law := fun_mk (st := s_law) l_law c_law k_law
  have b_law := F_law.binds (ps := ["script"]) fun _ _ _ _ _ _ us hl => match us, hl with | [_], _ => rfl
  have T : Txt K mg A := {
    F_Term_init := F_Term_init,
    b_Term_init := b_Term_init,
    bd_Term_init := bd_Term_init,
    F_Term_is_variable := F_Term_is_variable,
    b_Term_is_variable := b_Term_is_variable,
    e_Term_is_variable := ⟨a_Term_is_variable, i_Term_is_variable, k_Term_is_variable⟩,
    F_Term_shown := F_Term_shown,
    b_Term_shown := b_Term_shown,
    e_Term_shown := ⟨a_Term_shown, i_Term_shown, k_Term_shown⟩,
    F_var := F_var,
    b_var := b_var,
    m_var := PySem.W.mg_of X G a_var,
    F_val := F_val,
    b_val := b_val,
    m_val := PySem.W.mg_of X G a_val,
    F_led_to := F_led_to,
    b_led_to := b_led_to,
    m_led_to := PySem.W.mg_of X G a_led_to,
    F_made_alike := F_made_alike,
    b_made_alike := b_made_alike,
    m_made_alike := PySem.W.mg_of X G a_made_alike,
    F_put_in := F_put_in,
    b_put_in := b_put_in,
    m_put_in := PySem.W.mg_of X G a_put_in,
    F_shown_all := F_shown_all,
    b_shown_all := b_shown_all,
    m_shown_all := PySem.W.mg_of X G a_shown_all,
    F_l_dice := F_l_dice,
    b_l_dice := b_l_dice,
    m_l_dice := PySem.W.mg_of X G a_l_dice,
    F_l_roll := F_l_roll,
    b_l_roll := b_l_roll,
    m_l_roll := PySem.W.mg_of X G a_l_roll,
    F_l_rounds := F_l_rounds,
    b_l_rounds := b_l_rounds,
    m_l_rounds := PySem.W.mg_of X G a_l_rounds,
    F_l_make := F_l_make,
    b_l_make := b_l_make,
    m_l_make := PySem.W.mg_of X G a_l_make,
    F_l_drawn := F_l_drawn,
    b_l_drawn := b_l_drawn,
    m_l_drawn := PySem.W.mg_of X G a_l_drawn,
    F_l_fits := F_l_fits,
    b_l_fits := b_l_fits,
    m_l_fits := PySem.W.mg_of X G a_l_fits,
    F_law := F_law,
    b_law := b_law,
    m_law := PySem.W.mg_of X G a_law,
    m_Term := PySem.W.mg_of X G aC_Term,
    cl_Term := ⟨pg_Term, hd_Term, po_Term, sa_Term⟩,
    M_Term := ⟨mk_Term, a_Term_init, i_Term_init, kc_Term⟩,
    n_Term_name := n_Term_name,
    n_Term_value := n_Term_value,
    z_abs := PySem.W.mg_none_of X G z_abs,
    z_enumerate := PySem.W.mg_none_of X G z_enumerate,
    z_int := PySem.W.mg_none_of X G z_int,
    z_len := PySem.W.mg_none_of X G z_len,
    z_range := PySem.W.mg_none_of X G z_range,
    z_tuple := PySem.W.mg_none_of X G z_tuple,
    z_zip := PySem.W.mg_none_of X G z_zip }
  exact ⟨A.d_law, fun s v => .of_eq rfl, fun base _ _ => ok_law T⟩
theorem walk {l : PySem.W.OpenLaw} {q : Program} {loose : List Str} {XP : (Str → Option Value) → Heap → Prop} {YP : World → Heap → Prop} {d : DefRec} {K : Params → PySem.W.Frag} (hn : l.most = some 63) (hdf : d.params.defaults = [])
    (hY : ∀ (w : World) (h : Heap), YP w h → (K w.params).In h)
    (F : ∀ (w : World) (mg : Str → Option Value) (fa : Addr) (h : Heap), (K w.params).In h → h.Ns mainGlobals mg → mg d.name = some (.ref fa) →
      ∃ fd : FuncData, (∀ (s : Shared) (u : Value), BindsTo s fd ⟨[u], []⟩ [("script", u)]) ∧ ∀ base : Heap, (K w.params).In base → base.Ns mainGlobals mg → FnOk l.prog w (K w.params) mg base CX0 5 fa fd ["script"] (spLaw (K w.params))) :
    PySem.W.WalkO q loose XP YP l.row.toRowW d [] (fun f vs => PySem.call f vs) :=
  L2.walk_of (n := 63) (k := 5) (x := "script") (CX := fun _ => CX0) (sp := fun w => spLaw (K w.params)) hn (by decide) hdf ⟨rfl, by decide, by decide⟩ hY F (fun _ _ a ns hl _ hS => ⟨a, ns, rfl, hS, hl, fun _ => rfl⟩) fun _ _ _ _ _ z => z
end Toy

open PySem PySem.W PyProof.Rows in
set_option maxRecDepth 100000 in
set_option maxHeartbeats 0 in
theorem PySem.Challenge.cw_deducehall_k02_terms_made_alike_holds : PySem.Challenge.rw_deducehall_k02_terms_made_alike.Holds := by
  w_on; o_law; k_head; (case hw => w_witness2)
  k_fill
  refine Toy.walk (l := PySem.Challenge.rw_deducehall_k02_terms_made_alike) rfl rfl (fun w h Y => PySem.W.kIn_of Y) ?F
  case F =>
    intro w mg fa h KX G hmg
    refine' Toy.all_mk KX G hmg ?aC_Term ?pg_Term ?hd_Term ?po_Term ?sa_Term ?mk_Term ?kc_Term ?n_Term_name ?n_Term_value ?a_Term_init ?i_Term_init ?l_Term_init ?v_Term_init ?c_Term_init ?k_Term_init ?a_Term_is_variable ?i_Term_is_variable ?l_Term_is_variable ?c_Term_is_variable ?k_Term_is_variable ?a_Term_shown ?i_Term_shown ?l_Term_shown ?c_Term_shown ?k_Term_shown ?a_var ?l_var ?c_var ?k_var ?a_val ?l_val ?c_val ?k_val ?a_led_to ?l_led_to ?c_led_to ?k_led_to ?a_made_alike ?l_made_alike ?c_made_alike ?k_made_alike ?a_put_in ?l_put_in ?c_put_in ?k_put_in ?a_shown_all ?l_shown_all ?c_shown_all ?k_shown_all ?a_l_dice ?l_l_dice ?c_l_dice ?k_l_dice ?a_l_roll ?l_l_roll ?c_l_roll ?k_l_roll ?a_l_rounds ?l_l_rounds ?c_l_rounds ?k_l_rounds ?a_l_make ?l_l_make ?c_l_make ?k_l_make ?a_l_drawn ?l_l_drawn ?c_l_drawn ?k_l_drawn ?a_l_fits ?l_l_fits ?c_l_fits ?k_l_fits ?a_law ?l_law ?c_law ?k_law ?z_abs ?z_enumerate ?z_int ?z_len ?z_range ?z_tuple ?z_zip
    (case aC_Term => k_is)
    (case pg_Term => k_is)
    (case hd_Term => k_is)
    (case po_Term => k_is)
    (case sa_Term => k_is)
    (case mk_Term => k_is)
    (case kc_Term => k_is)
    (case n_Term_name => k_is)
    (case n_Term_value => k_is)
    (case a_Term_init => k_is)
    (case i_Term_init => k_is)
    (case l_Term_init => k_is)
    (case v_Term_init => exact .inr ⟨by decide, _, _, _, _, rfl, (by k_is), rfl, .cons rfl .nil⟩)
    (case c_Term_init => k_is)
    (case k_Term_init => k_is)
    (case a_Term_is_variable => k_is)
    (case i_Term_is_variable => k_is)
    (case l_Term_is_variable => k_is)
    (case c_Term_is_variable => k_is)
    (case k_Term_is_variable => k_is)
    (case a_Term_shown => k_is)
    (case i_Term_shown => k_is)
    (case l_Term_shown => k_is)
    (case c_Term_shown => k_is)
    (case k_Term_shown => k_is)
    (case a_var => k_is)
    (case l_var => k_is)
    (case c_var => k_is)
    (case k_var => k_is)
    (case a_val => k_is)
    (case l_val => k_is)
    (case c_val => k_is)
    (case k_val => k_is)
    (case a_led_to => k_is)
    (case l_led_to => k_is)
    (case c_led_to => k_is)
    (case k_led_to => k_is)
    (case a_made_alike => k_is)
    (case l_made_alike => k_is)
    (case c_made_alike => k_is)
    (case k_made_alike => k_is)
    (case a_put_in => k_is)
    (case l_put_in => k_is)
    (case c_put_in => k_is)
    (case k_put_in => k_is)
    (case a_shown_all => k_is)
    (case l_shown_all => k_is)
    (case c_shown_all => k_is)
    (case k_shown_all => k_is)
    (case a_l_dice => k_is)
    (case l_l_dice => k_is)
    (case c_l_dice => k_is)
    (case k_l_dice => k_is)
    (case a_l_roll => k_is)
    (case l_l_roll => k_is)
    (case c_l_roll => k_is)
    (case k_l_roll => k_is)
    (case a_l_rounds => k_is)
    (case l_l_rounds => k_is)
    (case c_l_rounds => k_is)
    (case k_l_rounds => k_is)
    (case a_l_make => k_is)
    (case l_l_make => k_is)
    (case c_l_make => k_is)
    (case k_l_make => k_is)
    (case a_l_drawn => k_is)
    (case l_l_drawn => k_is)
    (case c_l_drawn => k_is)
    (case k_l_drawn => k_is)
    (case a_l_fits => k_is)
    (case l_l_fits => k_is)
    (case c_l_fits => k_is)
    (case k_l_fits => k_is)
    (case a_law => k_is)
    (case l_law => k_is)
    (case c_law => k_is)
    (case k_law => k_is)
    (case z_abs => k_is)
    (case z_enumerate => k_is)
    (case z_int => k_is)
    (case z_len => k_is)
    (case z_range => k_is)
    (case z_tuple => k_is)
    (case z_zip => k_is)

