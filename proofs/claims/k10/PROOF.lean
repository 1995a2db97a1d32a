import PyProof.Rows.All
import Wide.All
import OpenK.AllK
import Wide.FinOn
import PyProof.EqAt
import PyProof.EqKinds
import PyProof.TupleCall
import PyProof.TupleOfSeq
import KE.KLam
import KE.KDictSum
import HandS.ForMost
import HandS.Defaults
import HandS.Deep
import HandS.Codes
import HandS.Zip
import HandS.Conv
import HandS.Exc
import HandS.ForExc
import HandS.TryOnly
import HandS.TryMany
import HandS.Lambda
import HandS.EndOwn
import HandS.RaiseMore
import HandS.FStr
import HandS.IsInst
import HandS.TupAny
import KE.GoesMore
import HandS.Iter
import HandS.WordsExc
import HandS.WordsList
import HandS.DictComp
import HandS.SetKeys
import KE.DataCmp
import KE.KEqNest
import HandS.Text
import HandS.More
import HandS.Walk
import KE.DataMinMax
import PyProof.Rows.SortShellAny
import KE.KDictCopyH
import KE.SortKeyHeap
import HandS.SortKw
import KE.SortData
import HandS.TupLen
import KE.KDictLaws
import HandS.StrMore
import HandS.Replace
import HandS.DictSubView
import KE.KDictWalk
import HandS.Rev
import KE.GoesRaise
import KE.GoesEnum
import HandS.ExcIs
import PySem.Challenge.RW_deducehall_k10_changes_put_together
set_option Elab.async false
set_option linter.all false
set_option maxRecDepth 100000
set_option maxHeartbeats 4000000
/-! ## own rules: tuple of a dict, extend by a tuple, sorted of a tuple of words -/
namespace L2
open PySem PySem.Spec PyProof.Rows
section
variable {prog : Program} {w : World} {A : Around} {E : Value → Shared → Prop} {s : Shared} {d : Addr} {n : Nat} {P : Nat → Value → Prop} {OK : Heap → Prop}
theorem code_tuple_new_src {Q₁ : Value → Shared → Prop} (K : PySem.W.KdlSrc prog w "dict" d d n P OK) (hh : A.handled = none) (hok : OK s.heap) (hn : n ≤ sizeLine)
    (h : ∀ (h' : Heap) (tk : Nat) (acc : Array Value), (∀ b o, s.heap.get? b = some o → h'.get? b = some o) → ItemsOf P acc n →
      Q₁ (.ref h'.objs.size) { s with heap := h'.push { cls := .type "tuple", data := .seq acc }, toks := tk }) :
    codeAny (model prog w) A (.call (.builtin "tuple.__new__") ⟨[.type "tuple", .ref d], []⟩) (wants Q₁ E) s := by
  refine codeAny_of_tree ?_
  show wpAny _ A.in1 (do checkBuiltinCall "tuple.__new__" ⟨[.type "tuple", .ref d], []⟩; again (.builtin "tuple.__new__" ⟨[.type "tuple", .ref d], []⟩)) _ _ s
  refine wpAny_bind (wpAny_of_eq (F.newCall_tuple_1 _) (wpAny_pure ⟨plainId_quiet F.plain_tuple_new _, codeAny_builtin F.entry_tuple_new ?_⟩))
  rw [Around.under_plainId F.plain_tuple_new _]
  have hsub := sub_tuple_self
  have hinit := init_tuple_lookup
  have hmh := madeHere_tuple
  have hTI : s.TypeIs (.ref d) "dict" := K.type s hok
  have hh1 : A.in1.handled = none := hh
  wp_walk using wpAny_typeOf hTI, PySem.W.kdu_collect (A := A.in1) K hh1 hok hn
  intro h' tk acc hk hacc
  show wpAny _ _ (Builtin.Tuple.tupleExact acc.toList.toArray >>= fun v => ret v) _ _ _
  unfold Builtin.Tuple.tupleExact
  refine wpAny_bind (wpAny_newObj_type ?_ (by show acc.toList.toArray.size ≤ sizeLine; simp only [Array.toArray_toList]; rw [hacc.1]; exact hn))
  refine wpAny_pure ?_
  have e : acc.toList.toArray = acc := by simp
  rw [e]
  exact h h' tk acc hk hacc
theorem call_tuple_src {Q : Value → Shared → Prop} (K : PySem.W.KdlSrc prog w "dict" d d n P OK) (hh : A.handled = none) (hok : OK s.heap) (hn : n ≤ sizeLine)
    (hQ : ∀ (h' : Heap) (tk : Nat) (acc : Array Value), (∀ b o, s.heap.get? b = some o → h'.get? b = some o) → ItemsOf P acc n →
      Q (.ref h'.objs.size) { s with heap := h'.push { cls := .type "tuple", data := .seq acc }, toks := tk }) :
    wpAny (model prog w) A (call (.type "tuple") [.ref d]) Q E s := by
  refine callType_codes (Q₁ := fun obj s₁ => s₁.TypeIs obj "tuple" ∧ Q obj s₁) F.called_tuple (F.typeCall_tuple_1 _) F.entry_object_init
    (code_tuple_new_src (A := A.in1) K hh hok hn fun h' tk acc hk hacc => ⟨⟨_, Heap.get?_push_size _ rfl, rfl⟩, hQ h' tk acc hk hacc⟩) fun obj s₁ h₁ => ?_
  exact ⟨h₁.1, F.args_object_init_2 obj _, object_init_meets F.called_tuple.init.lookup F.called_tuple.made (by decide) prog w A.in1 _ s₁ ⟨h₁.1, rfl, h₁.2⟩⟩
end
/-- tuple(d), d a dict of ints and words -/
def rTupD : List V → Hp → VK → Prop := fun xs H Q => ∃ p kvs, xs = [.ref p] ∧ H p = some (.dK kvs) ∧ ∀ q, H q = none → Q (.ref q) (upd H q (.tup (kvs.map fun kv => kV kv.1)))
theorem call_tuple_dK {X : Cx} (hc : X.calm = true := by rfl) : CallR X (.type "tuple") rTupD := by
  intro pins s σ H xs us Q I r h
  obtain ⟨p, kvs, e, hk, q⟩ := h
  subst e
  obtain ⟨u, eu, rx⟩ := vals1 r
  subst eu
  obtain rfl : u = Value.ref p := rx
  obtain ⟨z, lo, vs, rk, hd⟩ := (show ObjOk X.prog X.w H s.heap p (.dK kvs) from I.hok p _ hk)
  obtain ⟨ep, hat⟩ := hd.dictAt
  have hl : kvs.length = vs.length := Paired.length rk
  refine call_tuple_src (PySem.W.kdl_dict (knd := mixKind X.prog X.w) (kvs := vs) (ep := ep) lo) (I.ok.hd hc) hat (by rw [← hl]; exact z) fun h' tk acc hkeep hacc => ?_
  have hv : Vals (kvs.map fun kv => kV kv.1) acc.toList := by
    have el : acc.toList.length = acc.size := by simp
    refine vals_of_at (by rw [List.length_map, el, hacc.1, hl]) fun j x w h1 h2 => ?_
    obtain ⟨k, y, hky, hi⟩ := hacc.2 j w (by rw [← Array.getElem?_toList]; exact h2)
    have e1 : (kvs.map (·.1))[j]? = some k := by
      rw [KV.keys rk, List.getElem?_map, hky] <;> rfl
    have e2 : (kvs.map fun kv => kV kv.1)[j]? = some (kV k) := by
      have e3 : (kvs.map fun kv => kV kv.1) = (kvs.map (·.1)).map kV := by rw [List.map_map] <;> rfl
      rw [e3, List.getElem?_map, e1] <;> rfl
    rw [e2] at h1
    cases h1
    exact keyIs_rel hi
  have I1 : Inv X pins σ H { s with heap := h', toks := tk } := I.kept hkeep
  have I2 : Inv X pins σ (upd H h'.objs.size (.tup (kvs.map fun kv => kV kv.1))) { s with heap := h'.push { cls := .type "tuple", data := .seq acc }, toks := tk } :=
    I1.laid (t' := tk) (fun b o e => Heap.get?_push_of_some _ e) (Nat.le_refl _) (show ObjOk X.prog X.w _ _ _ (.tup (kvs.map fun kv => kV kv.1)) from ⟨by rw [List.length_map]; exact z, acc.toList, hv, by rw [Array.toArray_toList]; exact IsTup.new _ _⟩)
  exact ⟨.ref h'.objs.size, _, I2, rfl, q _ (I1.hok.fresh (Nat.le_refl _))⟩
/-- l.extend(t), t a tuple -/
theorem list_extend_tupW (l : Addr) (items : Array Value) (n : Nat) (b : Addr) (items2 : Array Value) (n2 : Nat) (dd : Option Addr) (sl : Array (Option Value)) (hs0 : ¬(!items.isEmpty && Builtin.List.listTooLong (items.size + items2.size)) = true) (hs1 : items.size ≤ sizeLine) (hs2 : items.size + items2.size ≤ sizeLine + 1) :
    Meets (Builtin.«list.extend» ⟨[.ref l, .ref b], []⟩) (fun _ R s => s.heap.get? l = some { cls := .type "list", dict := none, data := .seq items n, slots := #[] } ∧ s.heap.get? b = some { cls := .type "tuple", dict := dd, data := .seq items2 n2, slots := sl } ∧ R (.ok (.ret Value.none)) { s with heap := s.heap.update l (Obj.mapSeq fun x => x ++ items2), toks := s.toks }) :=
  .of_wp fun prog w A R s h => by
    obtain ⟨hp, g, d, tk, os⟩ := s; obtain ⟨hl, hb, h⟩ := h; have f1 := AutoSeq1.idx_int; have f2 := AutoSeq1.sub_tuple_tuple; have f3 := AutoSeq1.sub_list_list; have f4 := AutoSeq1.sub_tuple_list; have f5 := AutoSeq1.sub_list_tuple;
    have hz' : (items ++ items2).size ≤ sizeLine + 1 := by rw [Array.size_append]; exact hs2
    wp_walk using (wpAny_updateSeq hl rfl (hz := hs1) (_hz' := hz')), AutoSeq1.wpAny_loadPart' hl, AutoSeq1.wpAny_loadPart' hb; exact ⟨_, rfl, h⟩
def rExtT (K : PySem.W.Frag) : V → List V → Hp → VK → Prop := fun x vs H Q => ∃ l b xs zs, x = .ref l ∧ vs = [.ref b] ∧ H l = some (.lst xs) ∧ SqT K H b zs ∧ xs.length + zs.length ≤ sizeLine ∧ Q .non (upd H l (.lst (xs ++ zs)))
theorem mt_extendT {X : Cx} (K : PySem.W.Frag) (hK : X.K = K := by rfl) : MtM X "list.extend" (rExtT K) := by
  subst hK
  intro pins s σ H x vs v us Q I rx rv h
  obtain ⟨l, b, xs, zs, rfl, rfl, hH, hB, hz, q⟩ := h
  cases rx
  obtain ⟨u, rfl, ru⟩ := rv.one
  cases ru
  obtain ⟨z, its, n, r, hl, e⟩ := I.lstM hH
  obtain ⟨its2, r2, ⟨⟨oc, od, dt, sl⟩, e2, c2, n2, d2⟩, hz2⟩ := I.tuple hB
  simp only at c2 d2
  subst c2 d2
  have hl2 := r2.length
  have hsz : its.toArray.size + its2.toArray.size ≤ sizeLine := by rw [List.size_toArray, List.size_toArray]; omega
  have hlong : ¬ (!its.toArray.isEmpty && Builtin.List.listTooLong (its.toArray.size + its2.toArray.size)) = true := by
    rw [notLongL hsz, Bool.and_false]
    exact Bool.false_ne_true
  refine call_meets PySem.F.slot_list_extend ⟨_, e, rfl⟩ PySem.F.entry_list_extend (PySem.F.args_list_extend_2 _ _)
    (list_extend_tupW l its.toArray n b its2.toArray n2 od sl hlong (by rw [List.size_toArray]; omega) (by omega)) ⟨e, e2, ?_⟩
  refine ⟨.non, _, I.lset (its' := its ++ its2) hH e (by simp) (r.append r2) ?_, rfl, q⟩
  rw [List.length_append]
  omega
/-! sorted(t), t a tuple of words -/
section
variable {prog : Program} {w : World} {A : Around} {E : Value → Shared → Prop} {s : Shared}
theorem sorted_tup_strs {l : Addr} {vs : List Value} {ss : List Str} {Q : Value → Shared → Prop} (hl : IsTup s.heap l vs.toArray) (hS : StrsAre vs ss) (h64 : vs.length < 64)
    (h : ∀ (h1 h' : Heap) (out : Array Value) (ss' : List Str) (ep : Nat), (∀ b o', s.heap.get? b = some o' → h1.get? b = some o') → (∀ b o', h1.get? b = some o' → h'.get? b = some o') → h'.get? h1.objs.size = some (seqObj "list" out ep) → StrsAre out.toList ss' → ss'.Perm ss → sortedS ss' = true → Q (.ref h1.objs.size) { s with heap := h' }) :
    wpAny (model prog w) A (call (.builtin "sorted") [.ref l]) Q E s := by
  obtain ⟨o, ho, hc, n, hd⟩ := hl
  refine Calls.call_function_entry kind_sorted plain_sorted entry_sorted (args_sorted1 _) ?_
  unfold Builtin.«sorted»
  refine wpAny_bind (m := checkCount "sorted" 1 1 _) (wpAny_pure ?_)
  refine wpAny_bind (wpAny_collect_seq l (.inr rfl) ho hc hd (fun h1 kp => ?_) (by rw [List.size_toArray, sizeLine_eq]; omega))
  rw [List.toList_toArray]
  refine wpAny_bind (wpAny_newList ?_)
  have hoL : (h1.push (seqObj "list" vs.toArray 0)).get? h1.objs.size = some (seqObj "list" vs.toArray 0) := Heap.get?_push_size _ rfl
  refine wpAny_bind (wpAny_holding (wpAny_call_entry slot_list_sort ⟨_, hoL, rfl⟩ entry_list_sort (list_sort_treeK strKind_oneLt hoL hS.keysOf (fun v₁ v₂ rest e => keyKind_strs (by rw [← e]; exact hS)) h64 fun st' hp hs => ⟨_, rfl, ?_⟩) (args_list_sort _)))
  obtain ⟨ss', a1, a2, a3⟩ := sorted_out_str hS hp hs
  obtain ⟨ep, he⟩ := sortedHeap_at (vs := vs) (out := (arrOf st').map (·.2)) hoL
  refine wpAny_pure ⟨_, rfl, h h1 _ _ ss' ep kp (fun b o' e => ?_) he a1 a2 a3⟩
  have lt := Heap.lt_size e
  rw [sortedHeap_old (Nat.ne_of_lt lt) (by rw [size_push']; exact Nat.lt_succ_of_lt lt)]
  exact Heap.get?_push_of_some _ e
end
def rSortedT (K : PySem.W.Frag) : List V → Hp → VK → Prop := fun vs H Q => ∃ (a : Addr) (xs : List Str), vs = [V.ref a] ∧ SqT K H a (xs.map V.str) ∧ xs.length < 64 ∧
  ∀ (ys : List Str) (p : Addr), ys.Perm xs → sortedS ys = true → H p = none → Q (.ref p) (upd H p (.lst (ys.map V.str)))
theorem cr_sortedT {X : Cx} (K : PySem.W.Frag) (hK : X.K = K := by rfl) : CallR X (.builtin "sorted") (rSortedT K) := by
  subst hK
  intro pins s σ H vs us Q I r h
  obtain ⟨a, xs, rfl, hs, h64, q⟩ := h
  obtain ⟨its, rv, hl, _⟩ := I.tuple hs
  rw [Vals.ref1 r]
  have hlen0 := rv.length
  rw [List.length_map] at hlen0
  refine sorted_tup_strs hl rv.strs (by rw [← hlen0]; exact h64) fun h1 h' out ys ep kp kp2 he h1' h2 h3 => ?_
  have hlen : (ys.map V.str).length ≤ sizeLine := by rw [List.length_map, h2.length_eq]; exact small64 h64
  have I1 : Inv X pins σ H { s with heap := h1 } := I.kept (t' := s.toks) kp
  exact ⟨.ref _, upd H h1.objs.size (.lst (ys.map V.str)), I1.laid (t' := s.toks) kp2 (Nat.le_refl _) ⟨hlen, out.toList, ep, vals_of_strs h1', he⟩, rfl, q ys _ h2 h3 (I1.hok.fresh (Nat.le_refl _))⟩
end L2

set_option Elab.async false
set_option linter.all false
set_option maxRecDepth 100000
set_option maxHeartbeats 4000000
/-! ## own rules: a lambda of one parameter held in a name; told with many excepts; a def whose code's table is known -/
namespace LamX
open PySem PySem.Spec PyProof.Rows L2
/-- a lambda without captured names stands at f -/
def LamO (f : Addr) (q : Str) (params : Arguments) (body : Expr) (scope : Scope) (c' : Addr) : HO := .ext fun h => ∃ pm ctv, h.get? f = some (PySem.W.kla_obj "<lambda>" q params body scope [] pm c' ctv)
theorem lamO_ok {P : Program} {w : World} {H : Hp} {h : Heap} {f c' : Addr} {q : Str} {params : Arguments} {body : Expr} {scope : Scope} {pm ctv : Value} (e : h.get? f = some (PySem.W.kla_obj "<lambda>" q params body scope [] pm c' ctv)) : ObjOk P w H h f (LamO f q params body scope c') :=
  ⟨⟨pm, ctv, e⟩, ⟨_, e⟩, fun h1 h2 ⟨pm, ctv, e1⟩ st => ⟨pm, ctv, st _ e1⟩⟩
section
variable {X : Cx} {pins : List (Addr × Obj)} {σ : L2.St} {H : Hp} {s : Shared}
theorem lam_makeO {T : List (Addr × Str)} {c P : Addr} {params : Arguments} {body : Expr} {scope : Scope} {pos : Pos} {E : Value → Shared → Prop} {Q : Value → Shared → Prop} (I : Inv X pins σ H s) (TB : TabB X.base X.mg c P) (hcode : X.env.code = .ref c)
    (hm : (P, X.env.qual ++ "<lambda>") ∈ T) (hu : ∀ p ∈ T, p.1 = P → p.2 = X.env.qual ++ "<lambda>") (hT : Tabs T H) (hdef : defaultsOf params X.env = ([], [])) (hfree : ∀ y ∈ scope.names, y.2 = .free → ∃ c, X.env.cells.lookup y.1 = some c) (hcl : cloFrom X.env.cells scope.names [] = [])
    (h : ∀ (f c' : Addr) (H1 : Hp) (s' : Shared), Inv X pins σ (upd H1 f (LamO f (X.env.qual ++ "<lambda>") params body scope c')) s' → ExtN H H1 → Tabs T H1 → H1 f = none → H1 c' = some (CodeO c' (X.env.qual ++ "<lambda>")) → Q (.ref f) s') :
    wpAny (model X.prog X.w) X.A (eval (.Lambda params body scope pos) X.env) Q E s := by
  obtain ⟨ps, hP, ht, ha⟩ := hT _ hm
  refine PySem.W.kla_eval hdef ?_
  have bP : s.heap.BuiltinsAt X.mg P := TB.bm.keeps I.bk
  have hP' : s.heap.get? P = some { cls := .none, data := .fields ps } := I.hok P _ hP
  cases hc : codeAmong pos ps.toList with
  | none =>
    refine PySem.W.kla_makeFunction (mg := X.mg) (c := c) (P := P) (ps := ps) (closure_ok hfree) I.ok.glob (I.mod.glob.keeps I.bk) hcode (TB.code.keeps I.bk) hP' ht hc TB.gP bP fun c' ctv h' tk hx hge hlt hrec htb => ?_
    obtain ⟨c2, oc, vs, t, e2, hoc, hd, hv⟩ := hrec
    cases e2
    have nC : H c' = none := I.hok.fresh hge
    have I1 := inv_table (t' := tk) (more := #[rawInt pos.line, rawInt pos.col, .ref c']) (h' := h') I hP hx htb hge ⟨oc, vs, t, hoc, hd, hv⟩
    have hE : ExtN H (upd (upd H P (.tbl (ps ++ #[rawInt pos.line, rawInt pos.col, .ref c']))) c' (CodeO c' (X.env.qual ++ "<lambda>"))) := fun b o e n => by
      rw [upd_ne (ne_of_none e nC), upd_ne (fun z => n ps (Option.some.inj (e.symm.trans (by rw [z]; exact hP))))]
      exact e
    have eL : (ps ++ #[rawInt pos.line, rawInt pos.col, .ref c']).toList = ps.toList ++ [rawInt pos.line, rawInt pos.col, .ref c'] := by simp
    rw [hcl]
    refine h h'.objs.size c' _ _ (I1.laid (t' := tk) (fun b o e => Heap.get?_push_of_some _ e) (Nat.le_refl _) (lamO_ok (Heap.get?_push_size _ rfl))) hE (fun p hp => ?_) (I1.hok.fresh (Nat.le_refl _)) upd_same
    by_cases hb : p.1 = P
    · rw [hu p hp hb, hb]
      refine ⟨_, by rw [upd_ne (ne_of_none hP nC), upd_same], by rw [eL]; exact PySem.TriplesOk_snoc _ _ _ _ ht, fun p' cv hcv => ?_⟩
      rw [eL] at hcv
      rcases among_app _ ht hcv with z | z
      · obtain ⟨c0, e1, e2⟩ := ha p' cv z
        exact ⟨c0, e1, hE _ _ e2 codeO_ne⟩
      · exact ⟨c', z, upd_same⟩
    · obtain ⟨ps', a1, a2, a3⟩ := hT p hp
      refine ⟨ps', by rw [upd_ne (ne_of_none a1 nC), upd_ne hb]; exact a1, a2, fun p' cv hcv => ?_⟩
      obtain ⟨c0, e1, e2⟩ := a3 p' cv hcv
      exact ⟨c0, e1, hE _ _ e2 codeO_ne⟩
  | some cv =>
    obtain ⟨c', e, hco⟩ := ha pos cv hc
    subst e
    refine PySem.W.kla_makeFunctionHit (mg := X.mg) (c := c) (P := P) (ps := ps) (closure_ok hfree) I.ok.glob (I.mod.glob.keeps I.bk) hcode (TB.code.keeps I.bk) hP' ht hc bP fun ctv h' tk hx hsz => ?_
    have I1 : Inv X pins σ H { s with heap := h', toks := tk } := I.kept hx
    rw [hcl]
    exact h h'.objs.size c' H _ (I1.laid (t' := tk) (fun b o e => Heap.get?_push_of_some _ e) (Nat.le_refl _) (lamO_ok (Heap.get?_push_size _ rfl))) (ExtN.refl H) hT (I1.hok.fresh (Nat.le_refl _)) hco
end
def tLamD (T : List (Addr × Str)) (q : Str) (params : Arguments) (body : Expr) (scope : Scope) : TE := fun _ H Q => Tabs T H ∧ ∀ f c' H1, ExtN H H1 → Tabs T H1 → H1 c' = some (CodeO c' q) → H1 f = none → Q (.ref f) (upd H1 f (LamO f q params body scope c'))
/-- lambda x: e, without captured names, as a value -/
theorem pe_lamdef {X : Cx} {T : List (Addr × Str)} {c P : Addr} {params : Arguments} {body : Expr} {scope : Scope} {pos : Pos} (TB : TabB X.base X.mg c P) (hcode : X.env.code = .ref c)
    (hm : (P, X.env.qual ++ "<lambda>") ∈ T) (hu : ∀ p ∈ T, p.1 = P → p.2 = X.env.qual ++ "<lambda>") (hdef : defaultsOf params X.env = ([], [])) (hfree : ∀ y ∈ scope.names, y.2 ≠ .free) (hcl : cloFrom X.env.cells scope.names [] = [] := by rfl) :
    PE X (.Lambda params body scope pos) (tLamD T (X.env.qual ++ "<lambda>") params body scope) := by
  refine ⟨fun pins s σ H Q I h => ?_⟩
  obtain ⟨hT, h⟩ := h
  exact lam_makeO I TB hcode hm hu hT hdef (fun y hy e => absurd e (hfree y hy)) hcl fun f c' H1 s' I1 eN T1 hf hco => ⟨.ref f, _, I1, rfl, h f c' H1 eN T1 hco hf⟩
/-- the lambda is called -/
theorem run_lam {P : Program} {w : World} {K : PySem.W.Frag} {mg : Str → Option Value} {base : Heap} {k : Nat} {f c' : Addr} {q : Str} {params : Arguments} {body : Expr} {scope : Scope} {N ps : List Str} {tb : TE} (S : FnScope N ps scope)
    {A : Around} {outer : List Env} {s : Shared} {H : Hp} {us : List Value} {vs : List V} {Q : VK} (hr : Room (k + 1) A) (e0 : Env0 P w K mg base A outer s H) (hf : H f = some (LamO f q params body scope c')) (hc : H c' = some (CodeO c' q))
    (hb : ∀ pm cv ctv, bindArgs (PySem.W.kla_fn "<lambda>" q params body scope [] pm cv ctv) ⟨us, []⟩ = pure (ps.zip us)) (r : Vals vs us) (hl : vs.length = ps.length)
    (hbody : Room k (A.deeper (envOfC q scope s.heap.objs.size f (.ref c'))) → PE (cxOf C8.CX0 P w K mg base N q scope f (.ref c') A outer s H C8.E0) body tb) (ht : tb (L2.start N vs) H Q) :
    codeAny (model P w) A (.call (.ref f) ⟨us, []⟩) (CR C8.CX0 outer P w H s Q C8.E0) s := by
  have lim : s.heap.NoLimit := e0.mod.nolimit.keeps fun b o e => (e0.bs b o e).1
  have hkind : ∀ y ∈ ps.zip us, scope.names.lookup y.1 = some .local ∨ (scope.names.lookup y.1 = some .cell ∧ ((cellsFrom (s.heap.objs.size + 1) scope.names []).lookup y.1).isSome = true) := fun ⟨n, v⟩ hy => by
    rcases S.par n (List.of_mem_zip hy).1 with q | q
    · exact .inl q
    · exact .inr ⟨q, PySem.W.cellsFrom_some _ _ _ (.inl q)⟩
  obtain ⟨⟨pm, ctv, of⟩, _, _⟩ := e0.hok f _ hf
  obtain ⟨⟨oc, xs, t, hoc, hdc, hvc⟩, _, _⟩ := e0.hok c' _ hc
  refine PySem.W.kla_callFunE hr.depth of rfl S.co S.gen rfl ⟨c', oc, xs, t, rfl, hoc, hdc, hvc⟩ ?_
  rw [hb]
  refine wpAny_pure (wpAny_newFunctionEnv_cells S.kind hkind fun env he s1 x => ?_)
  subst he
  refine ⟨lim.keeps x.toInCall.keep, PySem.W.kla_codeExpr ?_⟩
  have I : Inv (cxOf C8.CX0 P w K mg base N q scope f (.ref c') A outer s H C8.E0) [] (L2.start N vs) H s1 := inv_start S hr.hd e0 hl r x
  refine wpAny_mono ((hbody (hr.deeper _)).run [] s1 (L2.start N vs) H Q I ht) (fun v s' hs => ?_) fun e s' hs => hs
  obtain ⟨w', H', J, rv, q⟩ := hs
  exact ⟨w', H', J.os, J.bare, J.base, J.hok, rv, q⟩
def tLam1 (i : Nat) (N : List Str) (q : Str) (params : Arguments) (body : Expr) (scope : Scope) (t : TA) (tb : TE) : TE := fun σ H Q => ∃ f c', σ[i]? = some (some (.ref f)) ∧ H f = some (LamO f q params body scope c') ∧
  t σ H fun vs H1 => vs.length = 1 ∧ H1 f = some (LamO f q params body scope c') ∧ H1 c' = some (CodeO c' q) ∧ tb (L2.start N vs) H1 Q
/-- x(e), x a name that holds such a lambda -/
theorem pe_lam1 {X : Cx} {k i : Nat} {x a q : Str} {params : Arguments} {body : Expr} {scope : Scope} {N : List Str} {tb : TE} {t : TA} {e : Expr} {p pos : Pos} (S : FnScope N [a] scope) (hr : Room (k + 1) X.A)
    (hb : ∀ pm cv ctv u, bindArgs (PySem.W.kla_fn "<lambda>" q params body scope [] pm cv ctv) ⟨[u], []⟩ = pure [(a, u)])
    (hbody : ∀ (A : Around) (outer : List Env) (s : Shared) (H : Hp) (f c' : Addr), Room k (A.deeper (envOfC q scope s.heap.objs.size f (.ref c'))) → PE (cxOf C8.CX0 X.prog X.w X.K X.mg X.base N q scope f (.ref c') A outer s H C8.E0) body tb)
    (hN : X.N[i]? = some x) (hv : Vis X.env.scope x) (ha : PA X [e] t) (hdb : (x == ("__debug__" : Str)) = false := by decide) (hcd : (x == ("__classdict__" : Str)) = false := by decide)
    (he : starEach [e] X.env = (false, eval e X.env) :: starEach [] X.env := by rfl) :
    PE X (.Call (.Name x p) [e] [] pos) (tLam1 i N q params body scope t tb) := by
  refine ⟨fun pins s σ H Q I h => ?_⟩
  obtain ⟨f, c', hs, hf, ht⟩ := h
  refine wpAny_Call_Name_kw (thn ((pe_var (pos := p) hN hv hdb hcd).run pins s σ H (fun v H1 => v = .ref f ∧ H1 = H) I ⟨.ref f, hs, rfl, rfl⟩) fun u s1 ⟨v, H1, I1, r1, q1⟩ => ?_)
  obtain ⟨rfl, rfl⟩ := q1
  obtain rfl : u = Value.ref f := r1
  obtain ⟨⟨pm, ctv, of⟩, _, _⟩ := I1.hok f _ hf
  have FA : PySem.W.FnAt f s1.heap := ⟨_, _, _, _, of⟩
  refine PySem.W.callWith_F (pos := pos) (env := X.env) (e := e) (rest := []) (first := []) FA (thn (ha.run pos pins s1 σ _ _ I1 ht) fun us s2 ⟨vs, H2, I2, r, hl, hf2, hc2, hq⟩ => ?_) he (by rfl)
  obtain ⟨⟨pm2, ctv2, of2⟩, _, _⟩ := I2.hok f _ hf2
  refine ⟨⟨_, _, _, _, of2⟩, ?_⟩
  have hlen := r.length
  obtain ⟨y, rfl⟩ : ∃ y, us = [y] := by
    match us, hlen with
    | [y], _ => exact ⟨y, rfl⟩
    | [], z =>
      rw [hl] at z
      cases z
    | _ :: _ :: _, z =>
      rw [hl] at z
      simp at z
  refine wpAny_call (codeAny_mono (run_lam (ps := [a]) S hr I2.env0 hf2 hc2 (fun pm cv ctv => hb pm cv ctv y) r hl (fun hr' => hbody _ _ _ _ f c' hr') hq) fun r' s' hq' => ?_)
  cases r' with
  | error e => exact (show False from hq').elim
  | ok fl =>
    cases fl with
    | ret u => exact I2.after hq'
    | next => exact False.elim hq'
    | brk => exact False.elim hq'
    | cont => exact False.elim hq'
/-! ### told: try: return a() / except x1: return r1 / .. -/
def wTold (K : PySem.W.Frag) (Q : VK) : List (Value × Str) → Value → Hp → Prop
  | [], _, _ => False
  | (c, r) :: l, cls, H => ∃ b, PySem.W.exmOne K cls c = some b ∧ (b = true → Q (.str r) H) ∧ (b = false → wTold K Q l cls H)
def TTm (K : PySem.W.Frag) (l : List (Value × Str)) : (XK → Hp → VK → Prop) → Hp → VK → Prop := fun tl H Q => tl (fun cls _ H' => wTold K Q l cls H') H Q
abbrev retsOf (l : List (Value × Str)) : List (Value × (Addr → Value → Option Addr → TS)) := l.map fun q => (q.1, fun _ _ _ => tRet (tC (.str q.2)))
theorem many_of {K : PySem.W.Frag} {D : Ends} {cls : Value} {d : Option Addr} {σ : L2.St} {H : Hp} : ∀ {l : List (Value × Str)}, wTold K D.rt l cls H → wMany K (fun _ _ _ _ => False) D (retsOf l) cls d σ H
  | [], h => h
  | (c, r) :: l, ⟨b, e, h1, h2⟩ => ⟨b, e, fun hb a _ => h1 hb, fun hb => many_of (h2 hb)⟩
theorem told_givesM {X : Cx} {Ng : List Str} {x a q : Str} {sg : Scope} {g : Addr} {cdg : Value} {h0 : ExceptHandler} {hds : List ExceptHandler} {l : List (Value × Str)} {p1 p2 p3 p8 : Pos} (h0' : ∀ f : Addr, (L2.start Ng [V.ref f])[0]? = some (some (V.ref f)))
    (hh : ∀ s H, HdsOk (cxOf C8.CX0 X.prog X.w X.K X.mg X.base Ng x sg g cdg X.A X.stack s H C8.E0).nox (h0 :: hds) (retsOf l)) :
    GivesTo X Ng x sg g cdg [.Try [.Return (some (.Call (.Name a p1) [] [] p2)) p3] (h0 :: hds) [] [] p8] a q (TTm X.K l) := by
  intro f c' s H Q tl act hc h
  refine ⟨_, pss_one (ps_try_many (X := (cxOf C8.CX0 X.prog X.w X.K X.mg X.base Ng x sg g cdg X.A X.stack s H C8.E0).nox) (Wout := fun _ _ _ _ => False)
      (tb := fun W D σ H => ∃ Ech : XK, (∀ cls d σ' H', Ech cls d H' → W cls d σ' H') ∧ σ[0]? = some (some (.ref f)) ∧ H c' = some (CodeO c' q) ∧ tl Ech H D.rt)
      rfl rfl takes0 (fun W pn xe tk _ => ?_) (hh s H)), ?_⟩
  · refine ⟨fun pins s' σ H' D I h' => ?_⟩
    obtain ⟨Ech, hW, h1, h2, h3⟩ := h'
    have hp := act W pn xe Ech p1 p2 tk hW
    have hq := pss_one (ps_ret (pos := p3) hp)
    exact hq.run pins s' σ H' D I ⟨h1, h2, h3⟩
  · exact ⟨fun cls _ H' => wTold X.K Q l cls H', fun cls d σ' H' hw => many_of hw, h0' f, hc, h⟩
end LamX

set_option Elab.async false
set_option linter.all false
set_option maxRecDepth 100000
set_option maxHeartbeats 4000000
/-! ## own rules: enumerate of a tuple -/
namespace L2
open PySem PySem.Spec PyProof.Rows
open AutoSeq1 (wpAny_loadPart')
theorem meets_enumerate_newT (l : Addr) (items : Array Value) (n : Nat) (dct : Option Addr) (sl : Array (Option Value)) :
    Meets (Builtin.«enumerate.__new__» ⟨[.type "enumerate", .ref l], []⟩) (fun _ R s => s.heap.get? l = some { cls := .type "tuple", dict := dct, data := .seq items n, slots := sl } ∧
      R (.ok (.ret (.ref (s.heap.push { cls := .type "tuple_iterator", data := .fields #[.ref l, .int 0 0] }).objs.size)))
        { s with heap := (s.heap.push { cls := .type "tuple_iterator", data := .fields #[.ref l, .int 0 0] }).push { cls := .type "enumerate", data := .fields #[.none, .bool false, .ref s.heap.objs.size, rawInt 0, .none, .none] } }) :=
  .of_wp fun prog w A R s h => by
    obtain ⟨hp, g, d, tk, os⟩ := s; obtain ⟨hl, h⟩ := h
    have hsub := sub_enumerate
    have hL : Heap.IsTuple (Shared.heap ⟨hp, g, d, tk, os⟩) l items := ⟨_, hl, rfl, n, rfl⟩
    wp_walk using wpAny_loadPart' hl
    refine wpAny_stack_any fun st => wpAny_pure ?_
    split
    · rename_i c _ _ _ _ _
      cases (c == Value.type "enumerate")
      · wp_walk using wpAny_loadPart' hl, wpAny_pyIter_tuple hL
        exact ⟨_, rfl, h⟩
      · wp_walk using wpAny_loadPart' hl, wpAny_pyIter_tuple hL
        exact ⟨_, rfl, h⟩
    · wp_walk using wpAny_loadPart' hl, wpAny_pyIter_tuple hL
      exact ⟨_, rfl, h⟩
section
variable {prog : Program} {w : World} {A : Around} {E : Value → Shared → Prop} {s : Shared}
theorem call_enumerate_tuple {l : Addr} {items : Array Value} {Q : Value → Shared → Prop} (hL : s.heap.IsTuple l items)
    (h : ∀ h', IsEnum h' (s.heap.objs.size + 1) s.heap.objs.size 0 .none → h'.IsTupleIter s.heap.objs.size l 0 → h'.objs.size = s.heap.objs.size + 2 →
      (∀ b o, s.heap.get? b = some o → h'.get? b = some o) → Q (.ref (s.heap.objs.size + 1)) { s with heap := h' }) :
    wpAny (model prog w) A (call (.type "enumerate") [.ref l]) Q E s := by
  obtain ⟨⟨c, dct, dt, sl⟩, hl, hc, n, hd⟩ := hL
  replace hc : c = .type "tuple" := hc
  replace hd : dt = .seq items n := hd
  subst hc hd
  refine callType_new F.called_enumerate (by decide) (F.typeCall_enumerate_1 _) (F.newCall_enumerate_1 _) (fun obj => F.args_object_init_2 obj _) F.entry_enumerate_new
    (meets_enumerate_newT l items n dct sl) ⟨hl, ?_⟩
  have hz : (s.heap.push { cls := .type "tuple_iterator", data := .fields #[.ref l, .int 0 0] }).objs.size = s.heap.objs.size + 1 := Heap.size_push ..
  show _ ∧ _
  rw [hz]
  have he : IsEnum ((s.heap.push { cls := .type "tuple_iterator", data := .fields #[.ref l, .int 0 0] }).push
      { cls := .type "enumerate", data := .fields #[.none, .bool false, .ref s.heap.objs.size, rawInt 0, .none, .none] }) (s.heap.objs.size + 1) s.heap.objs.size 0 .none := by
    have := Heap.get?_push_size (s.heap.push { cls := .type "tuple_iterator", data := .fields #[.ref l, .int 0 0] })
      (o := { cls := .type "enumerate", data := .fields #[.none, .bool false, .ref s.heap.objs.size, rawInt 0, .none, .none] }) rfl
    rw [hz] at this; exact this
  refine ⟨⟨_, he, rfl⟩, h _ he ⟨_, Heap.get?_push_of_some _ (Heap.get?_push_size _ rfl), rfl, rfl⟩ (by rw [Heap.size_push, hz]) fun b o x => Heap.get?_push_of_some _ (Heap.get?_push_of_some _ x)⟩
end
/-- the tuple at a, each item in a new pair -/
def IteT (K : PySem.W.Frag) (a : Addr) : It :=
  ⟨fun i H => ∃ (xs : List V) (x : V), SqT K H a xs ∧ xs[i]? = some x, fun i H v H' => ∃ T x, v = .ref T ∧ H T = none ∧ H' = upd H T (.tup [.int (i : Nat), x]) ∧ ∀ xs, SqT K H a xs → xs[i]? = some x, fun i H => ∃ xs : List V, SqT K H a xs ∧ xs.length ≤ i⟩
theorem tup_apart {h : Heap} {a it : Addr} {i : Nat} {items : Array Value} (p : h.IsTuple a items) (q : h.IsTupleIter it a i) : a ≠ it := fun z => by
  obtain ⟨o, e1, c1, _⟩ := p
  obtain ⟨o2, e2, c2, _⟩ := q
  rw [z, e2] at e1
  cases e1
  rw [c2] at c1
  exact absurd (Value.type.inj c1) (by decide)
theorem next_enum_endT {prog : Program} {w : World} {A : Around} {E : Value → Shared → Prop} {s : Shared} {e it l : Addr} {i : Nat} {items : Array Value} {old : Value} {Q : Option Value → Shared → Prop} (hh : A.handled = none)
    (he : IsEnum s.heap e it i old) (hit : s.heap.IsTupleIter it l i) (hl : s.heap.IsTuple l items) (hx : items[i]? = none)
    (hQ : ∀ h', Heap.ExtBut it s.heap h' → Q none { s with heap := h' }) : wpAny (model prog w) A (pyNext (.ref e)) Q E s := by
  have hT : s.TypeIs (.ref e) "enumerate" := ⟨_, he, rfl⟩
  unfold pyNext
  refine wpAny_bind (wpAny_attempt (wpAny_callSpecial?_slot (name := Str.ofString "__next__") hT F.slot_enumerate_next
    (wpAny_call_entry F.slot_enumerate_next hT F.entry_enumerate_next ?_ (F.args_enumerate_next_1 _))))
  show wpAny _ _ (field (.ref e) 2 >>= _) _ _ _
  refine wpAny_bind (wpAny_field he rfl (x := .ref it) rfl ?_)
  refine wpAny_bind (wpAny_nextOf_tuple_end hh hit hl hx fun h' x he' hx' => ?_)
  obtain ⟨o, ho, hc⟩ := hx'
  refine wpAny_bind (wpAny_isInstance (T := "StopIteration") (b := true) ⟨o, ho, hc⟩ isSubtype_stop ?_)
  exact wpAny_pure (hQ _ he')
theorem turn_enumT {P : Program} {w : World} {K : PySem.W.Frag} {elts : List Expr} {kk : Nat} {tpos : Pos} (a e it : Addr) :
    Turn P w K (.Tuple elts kk tpos) (IteT K a) [e, it] e (fun i h => (∃ old, IsEnum h e it ((i : Nat) : Int) old) ∧ h.IsTupleIter it a i ∧ e ≠ it) where
  mem := by simp
  obj := fun i h st b hb => by
    obtain ⟨⟨old, he⟩, ⟨o, ho, hc, hd⟩, _⟩ := st
    have e' : b = e ∨ b = it := by simpa using hb
    rcases e' with z | z
    · rw [z]; exact ⟨_, he, fun v q => nomatch q⟩
    · rw [z]; exact ⟨o, ho, fun v q => by rw [hd] at q; cases q⟩
  keep := fun i h h' st k => let ⟨⟨old, he⟩, ⟨o, ho, r⟩, hne⟩ := st; ⟨⟨old, k e (by simp) _ he⟩, ⟨o, k it (by simp) o ho, r⟩, hne⟩
  item := by
    intro X hP hw hK hc i pins s σ H E I hf st hg
    subst hP hw hK
    obtain ⟨⟨old, he⟩, hit, hne⟩ := st
    obtain ⟨xs, x, hq, hx⟩ := hg
    obtain ⟨its, rv, p, hz⟩ := I.tuple hq
    obtain ⟨u, hu, ru⟩ := rv.get hx
    have hel : e < s.heap.objs.size := Heap.lt_size he
    have hil : it < s.heap.objs.size := by obtain ⟨_, q, _⟩ := hit; exact Heap.lt_size q
    have hlt : i < its.toArray.size := by
      rcases Nat.lt_or_ge i its.length with z | z
      · simpa using z
      · rw [List.getElem?_eq_none z] at hu
        cases hu
    have hai := tup_apart p hit
    have hae : e ≠ a := fun z => by
      obtain ⟨o, e1, c1, _⟩ := p
      have he1 : s.heap.get? e = some _ := he
      rw [← z, he1] at e1
      cases e1
      exact absurd (Value.type.inj c1) (by decide)
    have D := Draws.tuple (prog := X.prog) (w := X.w) (A := X.A.in1) (I.ok.hd hc) it a hai its.toArray
    have hef : e ∉ [it, a] := by
      simp only [List.mem_cons, List.not_mem_nil, or_false, not_or]
      exact ⟨hne, hae⟩
    refine wpAny_pyNext_enum_itemD D he (by exact ⟨hit, p⟩) hlt hne hef fun y h' tk hy ho hst' hT hsz hk => ?_
    have ey : y = u := by
      have e1 : its.toArray[i]? = some u := by simpa using hu
      rw [e1] at hy
      exact (Option.some.inj hy).symm
    subst ey
    refine ⟨_, rfl, wpAny_letOwnedTupleGo_enum (s := { s with heap := h', toks := tk + 1 }) ho fun h'' he' sb => ?_⟩
    have hT2 : h''.get? s.heap.objs.size = some { cls := .type "tuple", data := .seq #[.int i tk, y] } := (sb.2 _ (Nat.ne_of_gt hel)).trans hT
    have new : ObjOk X.prog X.w (upd H s.heap.objs.size (.tup [.int (i : Nat), x])) h'' s.heap.objs.size (.tup [.int (i : Nat), x]) :=
      ⟨by show 2 ≤ sizeLine; decide, [.int i tk, y], .cons ⟨_, rfl⟩ (.cons ru .nil), ⟨_, hT2, rfl, _, rfl⟩⟩
    have I1 : Inv X pins σ (upd H s.heap.objs.size (.tup [.int (i : Nat), x])) { s with heap := h'', toks := tk + 1 } :=
      I.turnedNew (ch := [e, it]) (fun b ob hb q => (sb.2 b (fun z => hb (by simp [z]))).trans (hk b ob (fun z => hb (by simp [z])) (fun z => hb (by simp [z])) q)) hf (Nat.le_refl _) new
    refine ⟨.ref s.heap.objs.size, _, I1, rfl, ⟨_, x, rfl, I.hok.fresh (Nat.le_refl _), rfl, fun ys hy => by rw [I.tuple_inj hy hq]; exact hx⟩, ⟨⟨y, ?_⟩, ?_, hne⟩, fun b hb => ?_⟩
    · have e1 : ((i + 1 : Nat) : Int) = (i : Int) + 1 := by omega
      rw [e1]; exact he'
    · obtain ⟨o, e1, c1, d1⟩ := hst'.1
      exact ⟨o, (sb.2 it (Ne.symm hne)).trans e1, c1, d1⟩
    · have hb' : b < s.heap.objs.size := by
        have e' : b = e ∨ b = it := by simpa using hb
        rcases e' with z | z
        · rw [z]; exact hel
        · rw [z]; exact hil
      rw [upd_ne (Nat.ne_of_lt hb')]
      exact (hf b hb).1
  done := by
    intro X hP hw hK hc i pins s σ H E I hf st hg
    subst hP hw hK
    obtain ⟨⟨old, he⟩, hit, hne⟩ := st
    obtain ⟨xs, hq, hx⟩ := hg
    obtain ⟨its, rv, p, hz⟩ := I.tuple hq
    obtain ⟨f0, f1, f2, f3, f4, f5⟩ := hf it (by simp)
    have hl := rv.length
    exact next_enum_endT (I.ok.hd hc) he hit p (by simp; omega) fun h' eb => ⟨rfl, I.turned (t' := s.toks) (fun b o hb q => eb b o hb q) f0 f1 f3 f4 f5⟩
  self := fun A i s Q E st h => let ⟨⟨_, he⟩, _⟩ := st; wpAny_pyIter_enum he h
def iEnumT (K : PySem.W.Frag) (ta : TA) : TI := fun σ H R => ta σ H fun vs H1 => ∃ a xs, vs = [.ref a] ∧ SqT K H1 a xs ∧ R (IteT K a) H1
theorem enumTK {X : Cx} (K : PySem.W.Frag) {e : Expr} {ta : TA} {p pos tpos : Pos} {elts : List Expr} {kk : Nat} (hg : Gl X "enumerate") (hm : X.mg "enumerate" = none) (ha : PA X [e] ta) (hs : starEach [e] X.env = [(false, eval e X.env)] := by rfl) (hK : X.K = K := by rfl) :
    PI X (.Tuple elts kk tpos) (.Call (.Name "enumerate" p) [e] [] pos) (iEnumT K ta) := by
  subst hK
  refine ⟨fun pins s σ H R I h => ?_⟩
  refine Call_ (ld_blt I hg hm boot_enumerate (PyProof.Rows.callWith_type1 (thn (ha.run pos pins s σ H _ I h) fun us s1 ⟨vs, H1, I1, r1, q1⟩ => ?_) hs rfl))
  obtain ⟨a, xs, ex, hq, q⟩ := q1
  subst ex
  cases r1 with
  | cons r rr =>
    cases rr
    cases r
    obtain ⟨its, rv, p', hz⟩ := I1.tuple hq
    refine call_enumerate_tuple p' fun h' he hit hsz hk => wpAny_pyIter_enum he ?_
    have I2 : Inv X pins σ H1 { s1 with heap := h' } := I1.kept (t' := s1.toks) hk
    refine ⟨s1.heap.objs.size + 1, [s1.heap.objs.size + 1, s1.heap.objs.size], _, _, H1, rfl, I2, turn_enumT a (s1.heap.objs.size + 1) s1.heap.objs.size, ⟨⟨.none, he⟩, hit, Nat.succ_ne_self _⟩, fun b hb => ?_, q⟩
    have e' : b = s1.heap.objs.size + 1 ∨ b = s1.heap.objs.size := by simpa using hb
    have hle : s1.heap.objs.size ≤ b := by
      rcases e' with z | z
      · rw [z]; exact Nat.le_add_right _ _
      · rw [z]; exact Nat.le_refl _
    exact I1.fpOk hle (I1.hok.fresh hle)
/-- a comprehension over enumerate of a tuple that stays -/
theorem lc_enumT {K : PySem.W.Frag} {a : Addr} {xs : List V} {g : TG} {tt : TT} {te : TE} {vs : List Nat} {σ : L2.St} {H1 : Hp} {D : Addr} {Qd : Hp → Prop} (Pv : Nat → Hp → Prop) (h0 : Pv 0 (upd H1 D (.lst []))) (hl : ∀ i H, i ≤ xs.length → Pv i H → SqT K H a xs)
    (hs : ∀ i x T H, xs[i]? = some x → Pv i H → H T = none → g (.ref T) (wipe σ vs) (upd H T (.tup [.int (i : Nat), x])) fun σ2 H2 => wipe σ2 vs = wipe σ vs ∧ tt σ2 H2 fun b H3 =>
      if b = true then te σ2 H3 fun y H4 => ∃ acc, H4 D = some (.lst acc) ∧ acc.length < sizeLine ∧ Pv (i + 1) (upd H4 D (.lst (acc ++ [y]))) else Pv (i + 1) H3) (hd : ∀ H, Pv xs.length H → Qd H) :
    ∃ W : Nat → Nat → Hp → Prop, (∃ m, W 0 m (upd H1 D (.lst []))) ∧ ∀ i m H, W i m H →
      ((IteT K a).stop i H ∧ Qd H) ∨ ((IteT K a).go i H ∧ ∃ Nx : Hp → Prop, (∀ H', Nx H' → ∃ m', m' < m ∧ W (i + 1) m' H') ∧ ∀ x H', (IteT K a).yld i H x H' → g x (wipe σ vs) H' fun σ2 H2 => wipe σ2 vs = wipe σ vs ∧ tt σ2 H2 fun b H3 =>
        if b = true then te σ2 H3 fun y H4 => ∃ acc, H4 D = some (.lst acc) ∧ acc.length < sizeLine ∧ Nx (upd H4 D (.lst (acc ++ [y]))) else Nx H3) := by
  refine ⟨fun i m H => m = xs.length - i ∧ i ≤ xs.length ∧ Pv i H, ⟨xs.length, by simp, Nat.zero_le _, h0⟩, ?_⟩
  rintro i m H ⟨rfl, hi, p⟩
  have q := hl i H hi p
  by_cases hlt : i < xs.length
  · refine .inr ⟨⟨xs, xs[i], q, by simp [hlt]⟩, Pv (i + 1), fun H' p' => ⟨xs.length - (i + 1), by omega, rfl, hlt, p'⟩, fun x H' y => ?_⟩
    obtain ⟨T, x', rfl, hT, rfl, f⟩ := y
    exact hs i x' T _ (f xs q) p hT
  · have e : i = xs.length := by omega
    subst e
    exact .inl ⟨⟨xs, q, Nat.le_refl _⟩, hd H p⟩
end L2

set_option Elab.async false
set_option linter.all false
set_option maxRecDepth 100000
set_option maxHeartbeats 4000000
/-! ## own rules, with the written part said -/
namespace L2
open PySem PySem.Spec PyProof.Rows
section
variable {X : Cx} (K : PySem.W.Frag)
theorem anyK (hc : X.calm = true := by rfl) (h : X.K = K := by rfl) : CallR X (.builtin "any") (rAny K) := by subst h; exact cr_any hc
theorem allK (hc : X.calm = true := by rfl) (h : X.K = K := by rfl) : CallR X (.builtin "all") (rAll K) := by subst h; exact cr_all hc
theorem isiK (h : X.K = K := by rfl) : CallR X (.builtin "isinstance") (rIsi K) := by subst h; exact call_isi
theorem catAK (h : X.K = K := by rfl) : OpR X (binaryOp .Add) (rCatA K) := by subst h; exact op_catA
theorem slAK (h : X.K = K := by rfl) : SlR X (rSlA K) := by subst h; exact sl_tupA
theorem sortedSK (h : X.K = K := by rfl) : CallR X (.builtin "sorted") (rSortedS K) := by subst h; exact cr_sortedS
theorem tupDK (hc : X.calm = true := by rfl) : CallR X (.type "tuple") rTupD := call_tuple_dK hc
/-- x in a dict or a row of flat things -/
def rInAny (K : PySem.W.Frag) : R2 := fun x y H Q => ∃ p b, y = .ref p ∧ ((∃ ov, DGet H p x ov ∧ b = ov.isSome) ∨ ∃ xs, (SqL K H p xs ∨ SqT K H p xs) ∧ flatV x = true ∧ xs.all flatV = true ∧ b = inV x xs) ∧ Q (.bl b) H
theorem inAny (hu : X.A.units + 1 < cLine) (h : X.K = K := by rfl) : OpR X (compareOp .In) (rInAny K) := by
  subst h
  intro pins s σ H x y v u Q I rx ry h
  obtain ⟨p, b, rfl, h, q⟩ := h
  rcases h with ⟨ov, g, rfl⟩ | ⟨xs, h1, h2, h3, rfl⟩
  · obtain rfl : u = Value.ref p := ry
    exact d_in hu I g rx fun s3 I3 => ⟨.bl ov.isSome, H, I3, rfl, q⟩
  · exact op_in_seq pins s σ H x _ v u Q I rx ry ⟨p, xs, rfl, h1, h2, h3, q⟩
/-- == of a tuple and a bare tuple -/
def rEqT0 (K : PySem.W.Frag) : R2 := fun x y H Q => ∃ a b xs, x = .ref a ∧ y = .ref b ∧ SqT K H a xs ∧ SqT K H b [] ∧ Q (.bl (decide (xs.length = 0))) H
theorem eqT0 (hu : X.A.units < cLine) (hK : X.K = K := by rfl) : OpR X (compareOp .Eq) (rEqT0 K) := by
  subst hK
  intro pins s σ H x y v u Q I rx ry h
  obtain ⟨a, b, xs, rfl, rfl, h1, h2, q⟩ := h
  obtain rfl : v = Value.ref a := rx
  obtain rfl : u = Value.ref b := ry
  obtain ⟨is, r1, l1, z1⟩ := I.tuple h1
  obtain ⟨js, r2, l2, z2⟩ := I.tuple h2
  have hj : js.length = 0 := r2.length.symm
  have hi := r1.length
  show wpAny _ _ (richCompare .Eq (.ref a) (.ref b)) _ _ _
  have e0 : decide (xs.length = 0) = ((List.range (min is.toArray.size js.toArray.size)).all (fun _ => true) && is.toArray.size == js.toArray.size) := by
    simp only [List.size_toArray, hj, hi]
    cases is <;> simp
  rw [e0] at q
  exact SeqAt.RcAt.tuples (e := fun _ => true) l1 l2 hu (fun j h1 h2 => absurd h2 (by simp; omega)) _ _ _ _ ⟨.bl _, H, I, rfl, q⟩
/-- x is not True, x a bool -/
def rNotTrue : R2 := fun x y H Q => ∃ k, x = .bl k ∧ y = .bl true ∧ Q (.bl (!k)) H
theorem opNotTrue : OpR X (compareOp .IsNot) rNotTrue := by
  intro pins s σ H x y v u Q I rx ry h
  obtain ⟨k, rfl, rfl, q⟩ := h
  obtain rfl : v = Value.bool k := rx
  obtain rfl : u = Value.bool true := ry
  refine PySem.wpAny_isNot_plain (by rfl) ⟨.bl (!k), H, I, ?_, q⟩
  cases k <;> rfl
end
end L2

set_option Elab.async false
set_option linter.all false
set_option maxRecDepth 100000
set_option maxHeartbeats 4000000
/-! ## own rules: a def whose code object is known -/
namespace L2
open PySem PySem.Spec PyProof.Rows
structure FunC (K : PySem.W.Frag) (x qual : Str) (st : Stmt) (f : Addr) (fd : FuncData) (c : Addr) : Prop where
  ex : ∃ (oc : Value) (od : Option Addr) (kV doc pm : Value) (an : Option Addr) (ct : Value) (osl : Array (Option Value)),
    fd = PySem.W.fnOf x qual (defArgs st) (defBody st) (defScope st) .none kV doc pm an (.ref c) ct ∧ K.lookup f = some ⟨oc, od, .func fd, osl⟩ ∧ PySem.W.codeIn K (.ref c) qual = true
theorem FunC.ok {P : Program} {w : World} {K : PySem.W.Frag} {mg : Str → Option Value} {base : Heap} {x qual : Str} {st : Stmt} {f c : Addr} {fd : FuncData} {N ps : List Str} {k : Nat} {sp : Sp} (F : FunC K x qual st f fd c) (S : FnScope N ps (defScope st)) (len : ∀ vs H Q E, sp vs H Q E → vs.length = ps.length)
    (hbody : ∀ (A : Around) (outer : List Env) (s : Shared) (H : Hp) (vs : List V) (Q : VK) (E : XK), Room k (A.deeper (envOfC qual (defScope st) s.heap.objs.size f (.ref c))) → sp vs H Q E →
      ∃ t, PSs (cxOf CX0 P w K mg base N qual (defScope st) f (.ref c) A outer s H E).nox (defBody st) t ∧ t { nx := fun _ H' => Q .non H', rt := Q } (start N vs) H) : FnOk P w K mg base CX0 (k + 1) f fd ps sp := by
  obtain ⟨oc, od, kV, doc, pm, an, ct, osl, rfl, lk, hcd⟩ := F.ex
  refine fn_of lk hcd S len fun A outer s H vs Q E hr hsp => ?_
  obtain ⟨t, h, q⟩ := hbody A outer s H vs Q E hr hsp
  exact ⟨t, h.nox, q⟩
theorem FunC.tab {K : PySem.W.Frag} {h : Heap} {x qual : Str} {st : Stmt} {f c Pt : Addr} {fd : FuncData} (F : FunC K x qual st f fd c) (hd : PySem.W.codeHdIn K c Pt = true) (OT : LamX.OwnTab K f h) : h.get? Pt = some { cls := .none, data := .fields #[] } := by
  obtain ⟨oc, od, kV, doc, pm, an, ct, osl, rfl, lk, hcd⟩ := F.ex
  unfold PySem.W.codeHdIn at hd
  split at hd
  · rename_i vs sl hk
    simp only [Bool.and_eq_true] at hd
    obtain ⟨⟨⟨⟨⟨e1, _⟩, _⟩, _⟩, _⟩, _⟩ := hd
    split at e1
    · rename_i P' h11
      have hP : P' = Pt := beq_iff_eq.mp e1
      subst hP
      exact OT c P' _ _ _ _ vs _ lk rfl rfl hk h11
    · cases e1
  · cases hd
section
variable {X : Cx} {e : Expr} {es : List Expr} {t : TA} {o : Expr} {to : TE} {apos cpos : Pos}
theorem extK (K : PySem.W.Frag) (ho : PE X o to) (ha : PA X (e :: es) t) (hbase : attributeBase o "extend" X.env (eval o X.env) = eval o X.env := by rfl)
    (hfew : ((backTo cpos (starEach (e :: es) X.env)).all (fun x => !x.1) && (backToKw cpos (keywordEach [] X.env)).all (fun x => x.1.isSome)
      && decide ((e :: es).length + ([] : List Keyword).length + (if ([] : List Keyword).isEmpty then 0 else 1) < 30)) = true := by rfl)
    (hline : (apos.endLine == cpos.line) = true := by rfl) (hs : starEach (e :: es) X.env = (false, eval e X.env) :: starEach es X.env := by rfl) (hplain : (backTo cpos (starEach es X.env)).any (·.1) = false := by rfl) (h : X.K = K := by rfl) :
    PE X (.Call (.Attribute o "extend" apos) (e :: es) [] cpos) (tBM K "list" (rExtT K) to t) := by
  subst h
  exact pe_bm PySem.F.plainAttrs_list PySem.F.slot_list_extend PySem.F.type_list_extend (mt_extendT X.K) ho ha hbase hfew hline hs hplain
end
end L2

set_option Elab.async false
set_option linter.all false
set_option maxRecDepth 100000
set_option maxHeartbeats 4000000
/-! ## own rules: e.f op= value with K said -/
namespace L2
open PySem PySem.Spec PyProof.Rows
section
variable {X : Cx} (K : PySem.W.Frag) {o e value : Expr} {f : Str} {pos pos' tpos : Pos} {ta tv : TE}
theorem fldaugK {op : Operator} {rd : V → V → Hp → VK → Prop} (ha : PE X o ta) (hv : PE X value tv) (hop : InOp X op rd) (hK : X.K = K := by rfl) : PS X (.AugAssign (.Attribute o f tpos) op value pos) (sFldAug K ta tv rd f) := by
  subst hK
  exact ps_fldaug ha hv hop
end
end L2

set_option Elab.async false
set_option linter.all false
set_option maxRecDepth 100000
set_option maxHeartbeats 4000000
/-! ## own rules: lists of one dict compared, rows of unlike kinds compared, a bare dict seen as one of rows -/
namespace PySem.SeqAt
open AutoSeq1 (wpAny_loadPart')
open MeetsSeq MeetsSeq2 MeetsSeq3 SeqRoads2
section
variable {P : Program} {W : World}
theorem unlike_end (p q : Addr) (xs ys : Array Value) (nx : xs[1]? = none) (ny : ys[1]? = none) (hz : xs.size = ys.size) (m m2 : Nat) (o o2 : Option Addr) (z z2 : Array (Option Value)) :
    MeetsIn P W (Builtin.«list.__eq__.loop» ⟨[.ref p, .ref q, rawInt 1, rawInt 3], []⟩)
      (fun _ F t => (t.heap.get? p = some { cls := .type "list", dict := o, data := .seq xs m, slots := z } ∧ t.heap.get? q = some { cls := .type "list", dict := o2, data := .seq ys m2, slots := z2 }) ∧
        F (.ok (.ret (.bool false))) t) := by
  rintro B F ⟨hp, g, d, tk, os⟩ ⟨⟨h1, h2⟩, f⟩
  wp_walk using wpAny_loadPart' h1, wpAny_loadPart' h2
  have nx' : xs[Int.toNat 1]? = none := nx
  have ny' : ys[Int.toNat 1]? = none := ny
  rw [nx', ny']
  wp_walk using wpAny_loadPart' h1, wpAny_loadPart' h2
  show F (.ok (.ret (.bool (xs.size != ys.size)))) _
  rw [hz]
  simpa using f
theorem unlike_loop (p q : Addr) (xs ys : Array Value) {x y : Value} (sx : xs[0]? = some x) (sy : ys[0]? = some y) (nx : xs[1]? = none) (ny : ys[1]? = none) (hz : xs.size = ys.size) (m m2 : Nat) (o o2 : Option Addr) (z z2 : Array (Option Value)) :
    MeetsIn P W (Builtin.«list.__eq__.loop» ⟨[.ref p, .ref q, rawInt 0, rawInt 3], []⟩)
      (fun B F t => (t.heap.get? p = some { cls := .type "list", dict := o, data := .seq xs m, slots := z } ∧ t.heap.get? q = some { cls := .type "list", dict := o2, data := .seq ys m2, slots := z2 }) ∧
        EqIn P W B.in1 t x y true ∧ F (.ok (.ret (.bool false))) t) := by
  rintro B F ⟨hp, g, d, tk, os⟩ ⟨⟨h1, h2⟩, k, f⟩
  wp_walk using wpAny_loadPart' h1, wpAny_loadPart' h2
  have sx' : xs[Int.toNat 0]? = some x := sx
  have sy' : ys[Int.toNat 0]? = some y := sy
  rw [sx', sy']
  refine wpAny_bind (k _ _ ?_)
  wp_walk
  refine ⟨plainId_quiet plain_eq_loop _, codeAny_builtin entry_eq_loop ?_⟩
  rw [Around.under_plainId plain_eq_loop _]
  exact unlike_end p q xs ys nx ny hz m m2 o o2 z z2 _ _ _ ⟨⟨h1, h2⟩, f⟩
theorem unlike_one (p q : Addr) (xs ys : Array Value) {x y : Value} (sx : xs[0]? = some x) (sy : ys[0]? = some y) (nx : xs[1]? = none) (ny : ys[1]? = none) (hz : xs.size = ys.size) (m m2 : Nat) (o o2 : Option Addr) (z z2 : Array (Option Value)) :
    MeetsIn P W (Builtin.«list.__ne__» ⟨[.ref p, .ref q], []⟩)
      (fun B F t => (t.heap.get? p = some { cls := .type "list", dict := o, data := .seq xs m, slots := z } ∧ t.heap.get? q = some { cls := .type "list", dict := o2, data := .seq ys m2, slots := z2 }) ∧
        EqIn P W B.in1 t x y true ∧ F (.ok (.ret (.bool false))) t) := by
  rintro B F ⟨hp, g, d, tk, os⟩ ⟨⟨h1, h2⟩, k, f⟩
  have sub := AutoSeq1.sub_list_list
  have nn : ¬ (xs.size != ys.size) = true := by simp [hz]
  wp_walk using wpAny_loadPart' h1, wpAny_loadPart' h2
  refine ⟨plainId_quiet plain_eq_loop _, codeAny_builtin entry_eq_loop ?_⟩
  rw [Around.under_plainId plain_eq_loop _]
  exact unlike_loop p q xs ys sx sy nx ny hz m m2 o o2 z z2 _ _ _ ⟨⟨h1, h2⟩, k, f⟩
theorem unlike_lists {B : Around} {t : Shared} {Fq : Value → Shared → Prop} {G : Value → Shared → Prop} {p q : Addr} {x y : Value} (h1 : t.heap.IsList p #[x]) (h2 : t.heap.IsList q #[y]) (room : B.units < cLine)
    (k : EqIn P W B.in1 t x y true) (f : Fq (.bool false) t) : wpAny (model P W) B (richCompare .NotEq (.ref p) (.ref q)) Fq G t := by
  obtain ⟨⟨c, o, u, z⟩, e1, e2, m, e3⟩ := id h1
  obtain ⟨⟨c2, o2, u2, z2⟩, g1, g2, m2, g3⟩ := id h2
  simp only at e2 e3 g2 g3
  subst e2 e3 g2 g3
  refine wpAny_richCompare_same_room (T := "list") (op := .NotEq) ⟨_, e1, rfl⟩ ⟨_, g1, rfl⟩ F.slot_list_ne ?_ room
  exact call_meetsIn F.slot_list_ne ⟨_, e1, rfl⟩ F.entry_list_ne (F.args_list_ne_2 _ _) (unlike_one p q #[x] #[y] rfl rfl rfl rfl rfl m m2 o o2 z z2) ⟨⟨e1, g1⟩, k, fun w => (nomatch w), f⟩
end
end PySem.SeqAt
namespace L2
open PySem PySem.Spec PyProof.Rows
section
variable {X : Cx} (K : PySem.W.Frag)
theorem seenT {pins : List (Addr × Obj)} {s : Shared} {σ : L2.St} {H : Hp} {d : Addr} (I : Inv X pins σ H s) (e : H d = some (.dK [])) : Inv X pins σ (upd H d (.dT [])) s := by
  obtain ⟨_, nm, vs, kv, o, es, ep, g, ex, dt, ky, pr, nd⟩ := I.hok d _ e
  cases kv
  have z : es.toList = [] := by
    revert pr
    generalize es.toList = l
    intro pr
    cases pr
    rfl
  exact I.write (x := d) (e := d) (h' := s.heap) (t' := s.toks) (by rw [e]; trivial) (.inl rfl) (fun _ _ _ h => h) ⟨o, g⟩ ⟨Nat.zero_le _, nm, [], .nil, o, es, ep, g, ex, dt, z, List.nodup_nil⟩
def tAsT (t : TE) : TE := fun σ H Q => t σ H fun v H1 => ∃ d, v = .ref d ∧ H1 d = some (.dK []) ∧ Q v (upd H1 d (.dT []))
theorem pe_asT {e : Expr} {t : TE} (h : PE X e t) : PE X e (tAsT t) := ⟨fun pins s σ H Q I q => by
  refine thn (h.run pins s σ H _ I q) fun u s1 ⟨v, H1, I1, r, d, _, e1, q1⟩ => ?_
  exact ⟨v, _, seenT I1 e1, r, q1⟩⟩
def rLtD (K : PySem.W.Frag) : R2 := fun x y H Q => ∃ d e, Dp K H x d ∧ Dp K H y e ∧ PySem.W.alike d e = true ∧ d ≠ .none ∧ d.depth ≤ 8 ∧ Q (.bl (PySem.W.dataLt d e)) H
def rLeD (K : PySem.W.Frag) : R2 := fun x y H Q => ∃ d e, Dp K H x d ∧ Dp K H y e ∧ PySem.W.alike d e = true ∧ d ≠ .none ∧ d.depth ≤ 8 ∧ Q (.bl (!PySem.W.dataLt e d)) H
theorem ltD (hu : X.A.units + 64 < cLine) (hK : X.K = K := by rfl) : OpR X (compareOp .Lt) (rLtD K) := by
  subst hK
  rintro pins s σ H x y v u Q I rx ry ⟨d, e, hd, he, al, nn, dp, q⟩
  obtain ⟨as, r1⟩ := Dp.reads I d x v hd rx
  obtain ⟨bs, r2⟩ := Dp.reads I e y u he ry
  exact PySem.W.lt_data r1 r2 al nn (by omega) ⟨.bl _, H, I, rfl, q⟩
theorem leD (hu : X.A.units + 64 < cLine) (hK : X.K = K := by rfl) : OpR X (compareOp .LtE) (rLeD K) := by
  subst hK
  rintro pins s σ H x y v u Q I rx ry ⟨d, e, hd, he, al, nn, dp, q⟩
  obtain ⟨as, r1⟩ := Dp.reads I d x v hd rx
  obtain ⟨bs, r2⟩ := Dp.reads I e y u he ry
  exact PySem.W.le_data r1 r2 al nn (by omega) ⟨.bl _, H, I, rfl, q⟩
/-- x < y, two numbers or two words -/
def rLtIS : R2 := fun x y H Q => (∃ i j, x = .int i ∧ y = .int j ∧ Q (.bl (decide (i < j))) H) ∨ ∃ i j, x = .str i ∧ y = .str j ∧ Q (.bl (decide (i.cps.toList < j.cps.toList))) H
theorem ltIS : OpR X (compareOp .Lt) rLtIS := by
  rintro pins s σ H x y v u Q I rx ry (h | h)
  · exact op_lt pins s σ H x y v u Q I rx ry h
  · exact op_lt_str pins s σ H x y v u Q I rx ry h
/-- two lists of at most one dict, alike: != says no -/
def rNeDicts (K : PySem.W.Frag) : R2 := fun x y H Q => ∃ a b, x = .ref a ∧ y = .ref b ∧ Q (.bl false) H ∧ ((H a = some (.lst []) ∧ H b = some (.lst [])) ∨
  ∃ c d ks ls, H a = some (.lst [.ref c]) ∧ H b = some (.lst [.ref d]) ∧ c ≠ d ∧ H c = some (.dK ks) ∧ H d = some (.dK ls) ∧ ks.length = ls.length ∧ ∀ p ∈ ks, valV ls p.1 = some p.2 ∧ flatB p.2 = true)
theorem neDicts (hu : X.A.units + 1 < cLine) : OpR X (compareOp .NotEq) (rNeDicts K) := by
  rintro pins s σ H x y v u Q I rx ry ⟨a, b, rfl, rfl, q, h⟩
  obtain rfl : v = Value.ref a := rx
  obtain rfl : u = Value.ref b := ry
  show wpAny _ _ (richCompare .NotEq (.ref a) (.ref b)) _ _ _
  rcases h with ⟨e1, e2⟩ | ⟨c, d, ks, ls, e1, e2, ncd, ec, ed, hl, hp⟩
  · obtain ⟨_, is, n1, v1, g1⟩ := I.hok a _ e1
    obtain ⟨_, js, n2, v2, g2⟩ := I.hok b _ e2
    cases v1
    cases v2
    exact SeqAt.RcNeAt.lists (e := fun _ => true) ⟨_, g1, rfl, _, rfl⟩ ⟨_, g2, rfl, _, rfl⟩ rfl (by omega) (fun j h1 _ => absurd h1 (Nat.not_lt_zero _)) _ _ _ _ ⟨.bl false, H, I, rfl, q⟩
  · obtain ⟨_, is, n1, v1, g1⟩ := I.hok a _ e1
    obtain ⟨_, js, n2, v2, g2⟩ := I.hok b _ e2
    cases v1 with
    | cons r1 t1 =>
      cases t1
      cases v2 with
      | cons r2 t2 =>
        cases t2
        cases r1
        cases r2
        obtain ⟨_, yc, vc, rc, dc⟩ := (show ObjOk X.prog X.w H s.heap c (.dK ks) from I.hok c _ ec)
        obtain ⟨_, yd, vd, rd, dd⟩ := (show ObjOk X.prog X.w H s.heap d (.dK ls) from I.hok d _ ed)
        have hlen : vc.length = vd.length := by rw [← rc.length, ← rd.length]; exact hl
        refine SeqAt.unlike_lists ⟨_, g1, rfl, _, rfl⟩ ⟨_, g2, rfl, _, rfl⟩ (by omega) (SeqAt.EqIn.of_refs ncd fun E' Q' z => ?_) ⟨.bl false, H, I, rfl, q⟩
        refine PySem.W.keq_eq (knd := mixKind X.prog X.w) (r := true) yc yd dc dd ?_ (fun _ => hits_all rd rc hp) ?_
        · show X.A.units + 1 < cLine
          exact hu
        · simpa [hlen] using z
variable {e : Expr} {t : TA}
theorem zipTK {e2 : Expr} {p tpos pos : Pos} {elts : List Expr} {kk : Nat} (hg : Gl X "zip") (hm : X.mg "zip" = none) (ha : PA X [e, e2] t)
    (hs : starEach [e, e2] X.env = (false, eval e X.env) :: starEach [e2] X.env := by rfl) (hpl : (backTo pos (starEach [e2] X.env)).any (·.1) = false := by rfl) (h : X.K = K := by rfl) :
    PI X (.Tuple elts kk tpos) (.Call (.Name "zip" p) [e, e2] [] pos) (RZ.iZipA K t) := by
  subst h
  exact RZ.pi_zipA hg hm ha hs hpl
def rListT : List V → Hp → VK → Prop := fun xs H Q => ∃ d kvs, xs = [V.ref d] ∧ H d = some (.dT kvs) ∧ ∀ p bs, H p = none → IsKeys H kvs bs → Q (.ref p) (upd H p (.lst (bs.map V.ref)))
theorem call_listT (hc : X.calm = true := by rfl) : CallR X (.type "list") rListT := by
  intro pins s σ H vs us Q I r h
  obtain ⟨d, kvs, e, ed, k⟩ := h
  exact call_list_dT hc pins s σ H vs us Q I r ⟨d, kvs, e, .inl ed, k⟩
variable {pos apos cpos : Pos} {to : TE} {es : List Expr}
theorem extLK {o : Expr} (ho : PE X o to) (ha : PA X (e :: es) t) (hbase : attributeBase o "extend" X.env (eval o X.env) = eval o X.env := by rfl)
    (hfew : ((backTo cpos (starEach (e :: es) X.env)).all (fun x => !x.1) && (backToKw cpos (keywordEach [] X.env)).all (fun x => x.1.isSome)
      && decide ((e :: es).length + ([] : List Keyword).length + (if ([] : List Keyword).isEmpty then 0 else 1) < 30)) = true := by rfl)
    (hline : (apos.endLine == cpos.line) = true := by rfl) (hs : starEach (e :: es) X.env = (false, eval e X.env) :: starEach es X.env := by rfl) (hplain : (backTo cpos (starEach es X.env)).any (·.1) = false := by rfl) (h : X.K = K := by rfl) :
    PE X (.Call (.Attribute o "extend" apos) (e :: es) [] cpos) (tBM K "list" rExtend to t) := by
  subst h
  exact pe_bm PySem.F.plainAttrs_list PySem.F.slot_list_extend PySem.F.type_list_extend mt_extend ho ha hbase hfew hline hs hplain
end
end L2

set_option Elab.async false
set_option linter.all false
set_option maxRecDepth 100000
set_option maxHeartbeats 4000000
/-! ## own rules: the least of a list of rows of four numbers; sorted of a row of numbers -/
namespace L2
open PySem PySem.Spec PyProof.Rows
section
variable {prog : Program} {w : World} {A : Around} {E : Value → Shared → Prop} {s : Shared}
theorem sorted_tup_ints {l : Addr} {vs : List Value} {ns : List Int} {Q : Value → Shared → Prop} (hl : IsTup s.heap l vs.toArray) (hI : IntsAre vs ns) (h64 : vs.length < 64)
    (h : ∀ (h1 h' : Heap) (out : Array Value) (ns' : List Int) (ep : Nat), (∀ b o', s.heap.get? b = some o' → h1.get? b = some o') → (∀ b o', h1.get? b = some o' → h'.get? b = some o') → h'.get? h1.objs.size = some (seqObj "list" out ep) → IntsAre out.toList ns' → ns'.Perm ns → ns'.Pairwise (· ≤ ·) → Q (.ref h1.objs.size) { s with heap := h' }) :
    wpAny (model prog w) A (call (.builtin "sorted") [.ref l]) Q E s := by
  obtain ⟨o, ho, hc, n, hd⟩ := hl
  refine Calls.call_function_entry kind_sorted plain_sorted entry_sorted (args_sorted1 _) ?_
  unfold Builtin.«sorted»
  refine wpAny_bind (m := checkCount "sorted" 1 1 _) (wpAny_pure ?_)
  refine wpAny_bind (wpAny_collect_seq l (.inr rfl) ho hc hd (fun h1 kp => ?_) (by rw [List.size_toArray, sizeLine_eq]; omega))
  rw [List.toList_toArray]
  refine wpAny_bind (wpAny_newList ?_)
  have hoL : (h1.push (seqObj "list" vs.toArray 0)).get? h1.objs.size = some (seqObj "list" vs.toArray 0) := Heap.get?_push_size _ rfl
  refine wpAny_bind (wpAny_holding (wpAny_call_entry slot_list_sort ⟨_, hoL, rfl⟩ entry_list_sort (list_sort_treeK intKind_oneLt hoL hI.keysOfInt (fun v₁ v₂ rest e => keyKind_ints (by rw [← e]; exact hI)) h64 fun st' hp hs => ⟨_, rfl, ?_⟩) (args_list_sort _)))
  obtain ⟨ns', a1, a2, a3⟩ := sorted_out hI hp (sortedTo_of_int hs)
  obtain ⟨ep, he⟩ := sortedHeap_at (vs := vs) (out := (arrOf st').map (·.2)) hoL
  refine wpAny_pure ⟨_, rfl, h h1 _ _ ns' ep kp (fun b o' e => ?_) he a1 a2 a3⟩
  have lt := Heap.lt_size e
  rw [sortedHeap_old (Nat.ne_of_lt lt) (by rw [size_push']; exact Nat.lt_succ_of_lt lt)]
  exact Heap.get?_push_of_some _ e
end
def rSortedTI (K : PySem.W.Frag) : List V → Hp → VK → Prop := fun vs H Q => ∃ (a : Addr) (xs : List Int), vs = [V.ref a] ∧ SqT K H a (xs.map V.int) ∧ xs.length < 64 ∧
  ∀ (ys : List Int) (p : Addr), ys.Perm xs → ys.Pairwise (· ≤ ·) → H p = none → Q (.ref p) (upd H p (.lst (ys.map V.int)))
theorem cr_sortedTI {X : Cx} (K : PySem.W.Frag) (hK : X.K = K := by rfl) : CallR X (.builtin "sorted") (rSortedTI K) := by
  subst hK
  intro pins s σ H vs us Q I r h
  obtain ⟨a, xs, rfl, hs, h64, q⟩ := h
  obtain ⟨its, rv, hl, _⟩ := I.tuple hs
  rw [Vals.ref1 r]
  have hlen0 := rv.length
  rw [List.length_map] at hlen0
  refine sorted_tup_ints hl rv.ints (by rw [← hlen0]; exact h64) fun h1 h' out ys ep kp kp2 he h1' h2 h3 => ?_
  have hlen : (ys.map V.int).length ≤ sizeLine := by rw [List.length_map, h2.length_eq]; exact small64 h64
  have I1 : Inv X pins σ H { s with heap := h1 } := I.kept (t' := s.toks) kp
  exact ⟨.ref _, upd H h1.objs.size (.lst (ys.map V.int)), I1.laid (t' := s.toks) kp2 (Nat.le_refl _) ⟨hlen, out.toList, ep, vals_of_ints h1', he⟩, rfl, q ys _ h2 h3 (I1.hok.fresh (Nat.le_refl _))⟩
/-- four numbers -/
structure N4 where
  (a b c d : Int)
  deriving DecidableEq
def N4.vs (x : N4) : List V := [.int x.a, .int x.b, .int x.c, .int x.d]
def N4.dat (x : N4) : PyData := .tuple [.int x.a, .int x.b, .int x.c, .int x.d]
def lt4 (x y : N4) : Bool := decide (x.a < y.a) || (decide (x.a = y.a) && (decide (x.b < y.b) || (decide (x.b = y.b) && (decide (x.c < y.c) || (decide (x.c = y.c) && decide (x.d < y.d))))))
def min4 (x : N4) (ys : List N4) : N4 := ys.foldl (fun a y => if lt4 y a = true then y else a) x
theorem dat_inj {x y : N4} (h : x.dat = y.dat) : x = y := by
  cases x
  cases y
  simp [N4.dat] at h
  simp [h]
theorem lx_ne (a b : Int) (r : Bool) : (decide (a < b) || (!decide (b < a) && r)) = (decide (a < b) || (decide (a = b) && r)) := by
  rcases Int.lt_trichotomy a b with h | h | h
  · rw [decide_eq_true h]
    rfl
  · subst h
    simp
  · have h1 : ¬ a < b := by omega
    have h2 : ¬ a = b := by omega
    simp [h, h1, h2]
theorem lx_same (r : Bool) : (decide ((1 : Int) < 1) || (!decide ((1 : Int) < 1) && r)) = r := by
  simp
theorem dat_lt (x y : N4) : PySem.W.dataLt x.dat y.dat = lt4 x y := by
  have e : ∀ (p q : Int) (l m : List (Int ⊕ List Nat)), PyProof.Rows.lexLt PyProof.Rows.itemOrd (.inl p :: l) (.inl q :: m) = (decide (p < q) || (!decide (q < p) && PyProof.Rows.lexLt PyProof.Rows.itemOrd l m)) := fun p q l m => PyProof.Rows.lex_cons (O := PyProof.Rows.itemOrd) _ _ _ _
  simp only [N4.dat, PySem.W.dataLt_tuple, PySem.W.keyToksAll, PySem.W.keyToks, List.cons_append, List.nil_append]
  rw [e, lx_same, e, e, lx_same, e, e, lx_same, e, e, lx_same, e, e]
  rw [lx_ne, lx_ne, lx_ne, lx_ne]
  have z : (decide ((0 : Int) < 0) || (!decide ((0 : Int) < 0) && PyProof.Rows.lexLt PyProof.Rows.itemOrd [] [])) = false := by
    simp [PyProof.Rows.lexLt]
  rw [z]
  unfold lt4
  simp
theorem min_dat (x : N4) : ∀ ys : List N4, PySem.W.minD x.dat (ys.map N4.dat) = (min4 x ys).dat := by
  intro ys
  unfold PySem.W.minD min4
  induction ys generalizing x with
  | nil => rfl
  | cons y ys ih =>
    rw [List.map_cons, List.foldl_cons, List.foldl_cons, dat_lt, ← ih]
    cases lt4 y x <;> rfl
def rMin4 (K : PySem.W.Frag) : List V → Hp → VK → Prop := fun vs H Q => ∃ (p : Addr) (as : List Addr) (x : N4) (xs : List N4), vs = [.ref p] ∧ SqL K H p (as.map V.ref) ∧ as.length = (x :: xs).length ∧ (∀ (i : Nat) (a : Addr) (y : N4), as[i]? = some a → (x :: xs)[i]? = some y → SqT K H a y.vs) ∧
  ∀ a, SqT K H a (min4 x xs).vs → Q (.ref a) H
theorem dp4_all {K : PySem.W.Frag} {H : Hp} : ∀ {as : List Addr} {ys : List N4}, as.length = ys.length → (∀ (i : Nat) (a : Addr) (y : N4), as[i]? = some a → ys[i]? = some y → SqT K H a y.vs) → DpAll K H (as.map V.ref) (ys.map N4.dat)
  | [], [], _, _ => .nil
  | a :: as, y :: ys, hl, h => .cons (.tup (h 0 a y rfl rfl) (.cons (.int _) (.cons (.int _) (.cons (.int _) (.cons (.int _) .nil))))) (dp4_all (Nat.succ.inj hl) fun i b z e1 e2 => h (i + 1) b z e1 e2)
  | [], _ :: _, hl, _ => nomatch hl
  | _ :: _, [], hl, _ => nomatch hl
theorem paired_at {α β : Type} {R : α → β → Prop} : ∀ {xs : List α} {ys : List β}, Paired R xs ys → ∀ {i : Nat} {x : α} {y : β}, xs[i]? = some x → ys[i]? = some y → R x y
  | _, _, .nil, _, _, _, h, _ => by simp at h
  | _, _, .cons r t, 0, _, _, h1, h2 => by
    cases h1
    cases h2
    exact r
  | _, _, .cons r t, i + 1, _, _, h1, h2 => paired_at t (i := i) h1 h2
theorem min4K {X : Cx} (K : PySem.W.Frag) (hu : X.A.units + 64 < cLine) (hc : X.calm = true := by rfl) (hK : X.K = K := by rfl) : CallR X (.builtin "min") (rMin4 K) := by
  subst hK
  intro pins s σ H vs us Q I r h
  obtain ⟨p, as, x, xs, rfl, hs, hlen, hall, q⟩ := h
  obtain ⟨its, rv, hl, _⟩ := I.list hs
  rw [Vals.ref1 r]
  obtain ⟨bs, hr⟩ := Dp.readsAll I ((x :: xs).map N4.dat) (as.map V.ref) its (dp4_all hlen hall) rv
  have hal : PySem.W.AlikeAll ((x :: xs).map N4.dat) := ⟨fun d hd e he => by
    obtain ⟨y, _, rfl⟩ := List.mem_map.mp hd
    obtain ⟨z, _, rfl⟩ := List.mem_map.mp he
    rfl, fun d hd => by
    obtain ⟨y, _, rfl⟩ := List.mem_map.mp hd
    exact fun z => nomatch z⟩
  have hdep : ∀ l : List N4, PyData.depthAll (l.map N4.dat) ≤ 8 := fun l => by
    induction l with
    | nil => simp [PyData.depthAll]
    | cons y l ih =>
      simp only [List.map_cons, PyData.depthAll, N4.dat, PyData.depth]
      omega
  have hd8 := hdep (x :: xs)
  refine PySem.W.min_list_data (I.ok.hd hc) hl.isList (by simpa using hr) hal (by simp only [List.map_cons] at hd8; omega) fun i v h' tk cs hv hrd hk => ?_
  rw [min_dat] at hrd
  -- the value is one of the items
  have hv' : its[i]? = some v := by simpa using hv
  have hil : i < as.length := by
    have := (List.getElem?_eq_some_iff.mp hv').1
    have e := rv.length
    rw [List.length_map] at e
    omega
  have hia : as[i]? = some as[i] := List.getElem?_eq_getElem hil
  have hrel : RelV (.ref as[i]) v := paired_at rv (by rw [List.getElem?_map, hia]; rfl) hv'
  obtain rfl : v = Value.ref as[i] := hrel
  have hix : i < (x :: xs).length := by rw [← hlen]; exact hil
  have hst := hall i as[i] (x :: xs)[i] hia (List.getElem?_eq_getElem hix)
  obtain ⟨cs2, hr2⟩ := Dp.reads I (x :: xs)[i].dat (.ref as[i]) (.ref as[i]) (.tup hst (.cons (.int _) (.cons (.int _) (.cons (.int _) (.cons (.int _) .nil))))) rfl
  have e := PySem.W.alike_unique (min4 x xs).dat (x :: xs)[i].dat _ _ _ rfl hrd (PySem.W.reads_keeps hk hr2)
  have e2 := dat_inj e
  exact ⟨.ref as[i], H, I.kept hk, rfl, q as[i] (by rw [e2]; exact hst)⟩
end L2

set_option Elab.async false
set_option linter.all false
set_option maxRecDepth 100000
set_option maxHeartbeats 4000000
/-! ## own words over the hand layer, for every law: rules with the written part said, dice, many at once -/
namespace L2
open PySem PySem.Spec PyProof.Rows
theorem units65 {k : Nat} {A : Around} (r : Room k A) : A.units + 65 < cLine := by have := r.un; omega
section
variable {X : Cx} (K : PySem.W.Frag)
theorem ixL (h : X.K = K := by rfl) : IxR X (rIxL K) := by subst h; exact ix_list
theorem ixT (h : X.K = K := by rfl) : IxR X (rIxT K) := by subst h; exact ix_tup
theorem slL (h : X.K = K := by rfl) : SlR X (rSlL K) := by subst h; exact sl_list
theorem slT (h : X.K = K := by rfl) : SlR X (rSlT K) := by subst h; exact sl_tup
theorem eqD (hu : X.A.units + 64 < cLine) (h : X.K = K := by rfl) : OpR X (compareOp .Eq) (rEqD K) := by subst h; exact op_eqD hu
theorem neD (hu : X.A.units + 64 < cLine) (h : X.K = K := by rfl) : OpR X (compareOp .NotEq) (rNeD K) := by subst h; exact op_neD hu
theorem inD (hu : X.A.units + 65 < cLine) (h : X.K = K := by rfl) : OpR X (compareOp .In) (rInD K) := by subst h; exact op_inD hu
theorem notInD (hu : X.A.units + 65 < cLine) (h : X.K = K := by rfl) : OpR X (compareOp .NotIn) (rNotInD K) := by subst h; exact op_notInD hu
theorem inSeq (h : X.K = K := by rfl) : OpR X (compareOp .In) (rIn K false) := by subst h; exact op_in_seq
theorem notInSeq (h : X.K = K := by rfl) : OpR X (compareOp .NotIn) (rIn K true) := by subst h; exact op_notIn_seq
def rLenQ (K : PySem.W.Frag) : List V → Hp → VK → Prop := fun xs H Q => ∃ p ys, xs = [.ref p] ∧ (SqL K H p ys ∨ SqT K H p ys) ∧ Q (.int ys.length) H
def rListOf (K : PySem.W.Frag) : List V → Hp → VK → Prop := fun xs H Q => ∃ p ys, xs = [.ref p] ∧ (SqL K H p ys ∨ SqT K H p ys) ∧ ∀ l, H l = none → Q (.ref l) (upd H l (.lst ys))
def rTupleOf (K : PySem.W.Frag) : List V → Hp → VK → Prop := fun xs H Q => ∃ p ys, xs = [.ref p] ∧ ((SqL K H p ys ∧ ∀ l, H l = none → Q (.ref l) (upd H l (.tup ys))) ∨ (SqT K H p ys ∧ Q (.ref p) H))
theorem lenK (h : X.K = K := by rfl) : CallR X (.builtin "len") (rLenQ K) := by subst h; exact call_len_seq
theorem listOf (h : X.K = K := by rfl) : CallR X (.type "list") (rListOf K) := by subst h; exact call_list_of
theorem tupOf (h : X.K = K := by rfl) : CallR X (.type "tuple") (rTupleOf K) := by subst h; exact call_tuple_of
def rAbs : List V → Hp → VK → Prop := fun xs H Q => ∃ i, xs = [.int i] ∧ Q (.int (if i < 0 then -i else i)) H
theorem absK : CallR X (.builtin "abs") rAbs := call_abs
def rInt1 : List V → Hp → VK → Prop := fun xs H Q => (∃ i, xs = [.int i] ∧ Q (.int i) H) ∨ ∃ k, xs = [.bl k] ∧ Q (.int (if k then 1 else 0)) H
theorem int1K : CallR X (.type "int") rInt1 := call_int1
def rMin2 : List V → Hp → VK → Prop := fun xs H Q => ∃ i j, xs = [.int i, .int j] ∧ Q (.int (if j < i then j else i)) H
theorem min2K (hc : X.calm = true := by rfl) : CallR X (.builtin "min") rMin2 := call_min2 hc
variable {e : Expr} {es : List Expr} {f : Str} {pos apos cpos : Pos} {ta to : TE} {t : TA}
theorem fldK (he : PE X e ta) (hb : attributeBase e f X.env (eval e X.env) = eval e X.env) (h : X.K = K := by rfl) : PE X (.Attribute e f pos) (tFld K ta f) := by subst h; exact pe_fld he hb
theorem sfldK {v : Expr} {tv : TE} (he : PE X e ta) (hv : PE X v tv) (hsw : swapsWith v (some (.Attribute e f pos)) cpos.line X.env = pure false) (h : X.K = K := by rfl) : PS X (.Assign [.Attribute e f pos] v cpos) (sFld K ta tv f) := by
  subst h
  exact ps_fld he hv hsw
theorem tupK {k : Nat} {t : TGs} {n : Nat} (hc : X.calm = true) (h : PGs X es t)
    (hn : (assignEach es X.env).length = n := by rfl) (hst : (assignEach es X.env).findIdx? (·.1) = none := by rfl) (hK : X.K = K := by rfl) : PG X (.Tuple es k pos) (gTup K n t) := by
  subst hK
  exact pg_tup hc h hn hst
variable {tg : Expr}
theorem listK (hl : PE X e ta) (h : X.K = K := by rfl) : PI X tg e (iList K ta) := by subst h; exact pi_list hl
theorem tupIK (hl : PE X e ta) (h : X.K = K := by rfl) : PI X tg e (iTup K ta) := by subst h; exact pi_tup hl
theorem enumK {p tpos : Pos} {elts : List Expr} {kk : Nat} (hg : Gl X "enumerate") (hm : X.mg "enumerate" = none) (ha : PA X [e] t) (hs : starEach [e] X.env = [(false, eval e X.env)] := by rfl) (h : X.K = K := by rfl) :
    PI X (.Tuple elts kk tpos) (.Call (.Name "enumerate" p) [e] [] pos) (iEnum K t) := by
  subst h
  exact pi_enum hg hm ha hs
theorem zipK {e2 : Expr} {p tpos : Pos} {elts : List Expr} {kk : Nat} (hg : Gl X "zip") (hm : X.mg "zip" = none) (ha : PA X [e, e2] t)
    (hs : starEach [e, e2] X.env = (false, eval e X.env) :: starEach [e2] X.env := by rfl) (hpl : (backTo pos (starEach [e2] X.env)).any (·.1) = false := by rfl) (h : X.K = K := by rfl) :
    PI X (.Tuple elts kk tpos) (.Call (.Name "zip" p) [e, e2] [] pos) (iZip K t) := by
  subst h
  exact pi_zip hg hm ha hs hpl
theorem appK {o : Expr} (ho : PE X o to) (ha : PA X (e :: es) t) (hbase : attributeBase o "append" X.env (eval o X.env) = eval o X.env := by rfl)
    (hfew : ((backTo cpos (starEach (e :: es) X.env)).all (fun x => !x.1) && (backToKw cpos (keywordEach [] X.env)).all (fun x => x.1.isSome)
      && decide ((e :: es).length + ([] : List Keyword).length + (if ([] : List Keyword).isEmpty then 0 else 1) < 30)) = true := by rfl)
    (hline : (apos.endLine == cpos.line) = true := by rfl) (hs : starEach (e :: es) X.env = (false, eval e X.env) :: starEach es X.env := by rfl) (hplain : (backTo cpos (starEach es X.env)).any (·.1) = false := by rfl) (h : X.K = K := by rfl) :
    PE X (.Call (.Attribute o "append" apos) (e :: es) [] cpos) (tBM K "list" rAppend to t) := by
  subst h
  exact pe_bm PySem.F.plainAttrs_list PySem.F.slot_list_append PySem.F.type_list_append mt_append ho ha hbase hfew hline hs hplain
/-- == of a list and a bare list -/
def rEqL (K : PySem.W.Frag) : R2 := fun x y H Q => ∃ a b xs, x = .ref a ∧ y = .ref b ∧ SqL K H a xs ∧ SqL K H b [] ∧ Q (.bl (decide (xs.length = 0))) H
theorem eqL (hu : X.A.units < cLine) (hK : X.K = K := by rfl) : OpR X (compareOp .Eq) (rEqL K) := by
  subst hK
  intro pins s σ H x y v u Q I rx ry h
  obtain ⟨a, b, xs, rfl, rfl, h1, h2, q⟩ := h
  obtain rfl : v = Value.ref a := rx
  obtain rfl : u = Value.ref b := ry
  obtain ⟨is, r1, ⟨o1, n1, e1, c1, d1, t1⟩, z1⟩ := I.list h1
  obtain ⟨js, r2, ⟨o2, n2, e2, c2, d2, t2⟩, z2⟩ := I.list h2
  have l1 : s.heap.IsList a is.toArray := ⟨o1, e1, c1, n1, t1⟩
  have l2 : s.heap.IsList b js.toArray := ⟨o2, e2, c2, n2, t2⟩
  have hj : js.length = 0 := r2.length.symm
  have hi := r1.length
  show wpAny _ _ (richCompare .Eq (.ref a) (.ref b)) _ _ _
  by_cases hx : xs.length = 0
  · rw [decide_eq_true hx] at q
    have hz : is.toArray.size = js.toArray.size := by simp; omega
    refine SeqAt.RcAt.lists (e := fun _ => true) l1 l2 hz hu (fun j h1 _ => ?_) _ _ _ _ ⟨.bl true, H, I, ?_, q⟩
    · exact absurd h1 (by simp; omega)
    · show Value.bool _ = Value.bool true
      simp
  · rw [decide_eq_false hx] at q
    have hz : (is.toArray.size != js.toArray.size) = true := by simp; omega
    exact SeqAt.RcAt.lists_lengths l1 l2 hz hu _ _ _ _ ⟨.bl false, H, I, rfl, q⟩
end
end L2

set_option Elab.async false
set_option linter.all false
set_option maxRecDepth 100000
set_option maxHeartbeats 4000000
/-! ## the data layer: what a reading evaluates to, as plain data -/
namespace DL
open PySem L2
/-- data that nobody changes any more -/
inductive D where
  | non | bl (b : Bool) | int (i : Int) | str (s : Str) | tup (l : List D) | tupK (l : List D) | lst (l : List D) | lstK (l : List D) | dct (l : List (D × D)) | ins (C : Addr) (l : List (Str × D)) | cls (n : String)
/-- a value: data, or the n-th of the objects that change -/
inductive Vl where
  | d (x : D) | mu (n : Nat)
inductive M where
  | lst (l : List Vl) | dct (l : List (D × Vl)) | ins (C : Addr) (l : List (Str × Vl)) | lk (l : List (D × Vl)) | dead
def Vl.below (k : Nat) : Vl → Bool
  | .d _ => true
  | .mu n => decide (n < k)
def M.below (k : Nat) : M → Bool
  | .lst l => l.all (·.below k)
  | .dct l => l.all (·.2.below k)
  | .ins _ l => l.all (·.2.below k)
  | .lk l => l.all (·.2.below k)
  | .dead => true
abbrev Ms := List M
def Closed (W : Ms) : Prop := W.all (M.below W.length) = true
abbrev Ev := List (Option Vl)
inductive Res (α : Type) where
  | ok (x : α) (W : Ms) | exc (C : Addr) (W : Ms) | stuck
inductive Out where
  | nx (ρ : Ev) (W : Ms) | rt (v : Vl) (W : Ms) | bk (ρ : Ev) (W : Ms) | ct (ρ : Ev) (W : Ms) | exc (C : Addr) (W : Ms) | stuck
def Res.bind {α β : Type} (r : Res α) (k : α → Ms → Res β) : Res β := match r with
  | .ok x W => k x W
  | .exc C W => .exc C W
  | .stuck => .stuck
def Res.bindS {α : Type} (r : Res α) (k : α → Ms → Out) : Out := match r with
  | .ok x W => k x W
  | .exc C W => .exc C W
  | .stuck => .stuck
@[simp] theorem Res.bind_ok {α β : Type} (x : α) (W : Ms) (k : α → Ms → Res β) : (Res.ok x W).bind k = k x W := rfl
@[simp] theorem Res.bind_exc {α β : Type} (C : Addr) (W : Ms) (k : α → Ms → Res β) : (Res.exc C W).bind k = .exc C W := rfl
@[simp] theorem Res.bind_stuck {α β : Type} (k : α → Ms → Res β) : (Res.stuck : Res α).bind k = .stuck := rfl
@[simp] theorem Res.bindS_ok {α : Type} (x : α) (W : Ms) (k : α → Ms → Out) : (Res.ok x W).bindS k = k x W := rfl
@[simp] theorem Res.bindS_exc {α : Type} (C : Addr) (W : Ms) (k : α → Ms → Out) : (Res.exc C W : Res α).bindS k = .exc C W := rfl
@[simp] theorem Res.bindS_stuck {α : Type} (k : α → Ms → Out) : (Res.stuck : Res α).bindS k = .stuck := rfl

/-! ### what stands for what -/
def kD : Key → D
  | .inl i => .int i
  | .inr s => .str s
/-- the written part and the world -/
structure Fr where
  K : PySem.W.Frag
  w : World
/-! ### keys that are tuples -/
mutual
def nkOf : D → Option NestedKey
  | .non => some .none
  | .int i => some (.num i)
  | .str s => some (.text s)
  | .tup l => (nkL l).map NestedKey.tup
  | _ => none
def nkL : List D → Option (List NestedKey)
  | [] => some []
  | x :: l => match nkOf x, nkL l with
    | some k, some ks => some (k :: ks)
    | _, _ => none
end
/-- a dict whose keys are tuples, by their addresses -/
def dN (w : World) (a : Addr) (xs : List (NestedKey × Addr × V)) : HO := .ext fun h => xs.length ≤ sizeLine ∧ (a == sysModules) = false ∧
  ∃ (us : List (NestedKey × Addr × Value)) (o : Obj) (es : Array DictEntry) (ep : Nat), Paired (fun x u => x.1 = u.1 ∧ x.2.1 = u.2.1 ∧ RelV x.2.2 u.2.2) xs us ∧
    h.get? a = some o ∧ o.ExactDict ∧ o.data = .dict es ep ∧ es.toList = us.map (fun u => ⟨u.1.hash w, .ref u.2.1, u.2.2⟩) ∧ (us.map (·.1)).Nodup
/-- the class at C and the names of its instances' attributes -/
structure ClsF (K : Fr) (C : Addr) (fs : List Str) : Prop where
  cl : L2.Cls K.K C
  no : ∀ f ∈ fs, L2.NoAttr K.K C f
mutual
inductive Rp (K : Fr) (G : Hp) : V → D → Prop
  | non : Rp K G .non .non
  | bl (b : Bool) : Rp K G (.bl b) (.bl b)
  | int (i : Int) : Rp K G (.int i) (.int i)
  | str (s : Str) : Rp K G (.str s) (.str s)
  | cls (n : String) : Rp K G (.ty n) (.cls n)
  | tup {a : Addr} {vs : List V} {l : List D} : G a = some (.tup vs) → RpL K G vs l → Rp K G (.ref a) (.tup l)
  | tupK {a : Addr} {vs : List V} {l : List D} : SqT K.K G a vs → RpL K G vs l → Rp K G (.ref a) (.tupK l)
  | lstK {a : Addr} {vs : List V} {l : List D} : SqL K.K G a vs → RpL K G vs l → Rp K G (.ref a) (.lstK l)
  | lst {a : Addr} {vs : List V} {l : List D} : G a = some (.lst vs) → RpL K G vs l → Rp K G (.ref a) (.lst l)
  | dct {a : Addr} {kvs : List (Key × V)} {l : List (D × D)} : Rd G a (.dK kvs) → RpK K G kvs l → Rp K G (.ref a) (.dct l)
  | dcN {a : Addr} {kvs : List (NestedKey × Addr × V)} {l : List (D × D)} : Rd G a (dN K.w a kvs) → l ≠ [] → RpN K G kvs l → Rp K G (.ref a) (.dct l)
  | ins {a C dx : Addr} {fs : List (Str × V)} {l : List (Str × D)} : G a = some (.ins C dx fs) → ClsF K C (fs.map (·.1)) → RpF K G fs l → Rp K G (.ref a) (.ins C l)
inductive RpL (K : Fr) (G : Hp) : List V → List D → Prop
  | nil : RpL K G [] []
  | cons {v : V} {x : D} {vs : List V} {l : List D} : Rp K G v x → RpL K G vs l → RpL K G (v :: vs) (x :: l)
inductive RpK (K : Fr) (G : Hp) : List (Key × V) → List (D × D) → Prop
  | nil : RpK K G [] []
  | cons {k : Key} {v : V} {x : D} {vs : List (Key × V)} {l : List (D × D)} : Rp K G v x → RpK K G vs l → RpK K G ((k, v) :: vs) ((kD k, x) :: l)
inductive RpN (K : Fr) (G : Hp) : List (NestedKey × Addr × V) → List (D × D) → Prop
  | nil : RpN K G [] []
  | cons {nk : NestedKey} {b : Addr} {k : D} {v : V} {x : D} {vs : List (NestedKey × Addr × V)} {l : List (D × D)} : Rp K G (.ref b) k → nkOf k = some nk → nk.depth ≤ 8 → Rp K G v x → RpN K G vs l → RpN K G ((nk, b, v) :: vs) ((k, x) :: l)
inductive RpF (K : Fr) (G : Hp) : List (Str × V) → List (Str × D) → Prop
  | nil : RpF K G [] []
  | cons {f : Str} {v : V} {x : D} {vs : List (Str × V)} {l : List (Str × D)} : Rp K G v x → RpF K G vs l → RpF K G ((f, v) :: vs) ((f, x) :: l)
end
/-- what stands in G is to be read in G', too -/
structure Rds (K : Fr) (G G' : Hp) : Prop where
  t : ∀ a vs, SqT K.K G a vs → SqT K.K G' a vs
  L : ∀ a vs, SqL K.K G a vs → SqL K.K G' a vs
  u : ∀ a vs, G a = some (.tup vs) → G' a = some (.tup vs)
  l : ∀ a vs, G a = some (.lst vs) → G' a = some (.lst vs)
  k : ∀ a kvs, Rd G a (.dK kvs) → Rd G' a (.dK kvs)
  T : ∀ w a kvs, Rd G a (dN w a kvs) → Rd G' a (dN w a kvs)
  i : ∀ a C dx fs, G a = some (.ins C dx fs) → G' a = some (.ins C dx fs)
section
variable {K : Fr} {G G' : Hp}
theorem Rds.of (h : Same G G') : Rds K G G' :=
  have r : ∀ a u, Rd G a u → Rd G' a u := fun a u e => e.elim (fun e => .inl (h _ _ e)) fun ⟨o, e⟩ => .inr ⟨o, h _ _ e⟩
  ⟨fun a vs e => e.elim (fun e => .inl (r _ _ e)) .inr, fun a vs e => e.elim (fun e => .inl (r _ _ e)) .inr, fun _ _ e => h _ _ e, fun _ _ e => h _ _ e, fun _ _ e => r _ _ e, fun _ _ _ e => r _ _ e, fun _ _ _ _ e => h _ _ e⟩
mutual
theorem Rp.to (m : Rds K G G') : ∀ {v : V} {x : D}, Rp K G v x → Rp K G' v x
  | _, _, .non => .non
  | _, _, .bl b => .bl b
  | _, _, .int i => .int i
  | _, _, .str s => .str s
  | _, _, .cls n => .cls n
  | _, _, .tup h r => .tup (m.u _ _ h) (RpL.to m r)
  | _, _, .tupK h r => .tupK (m.t _ _ h) (RpL.to m r)
  | _, _, .lstK h r => .lstK (m.L _ _ h) (RpL.to m r)
  | _, _, .lst h r => .lst (m.l _ _ h) (RpL.to m r)
  | _, _, .dct h r => .dct (m.k _ _ h) (RpK.to m r)
  | _, _, .dcN h n r => .dcN (m.T _ _ _ h) n (RpN.to m r)
  | _, _, .ins h c r => .ins (m.i _ _ _ _ h) c (RpF.to m r)
theorem RpL.to (m : Rds K G G') : ∀ {vs : List V} {l : List D}, RpL K G vs l → RpL K G' vs l
  | _, _, .nil => .nil
  | _, _, .cons h r => .cons (Rp.to m h) (RpL.to m r)
theorem RpK.to (m : Rds K G G') : ∀ {vs : List (Key × V)} {l : List (D × D)}, RpK K G vs l → RpK K G' vs l
  | _, _, .nil => .nil
  | _, _, .cons h r => .cons (Rp.to m h) (RpK.to m r)
theorem RpN.to (m : Rds K G G') : ∀ {vs : List (NestedKey × Addr × V)} {l : List (D × D)}, RpN K G vs l → RpN K G' vs l
  | _, _, .nil => .nil
  | _, _, .cons h0 h1 h2 h r => .cons (Rp.to m h0) h1 h2 (Rp.to m h) (RpN.to m r)
theorem RpF.to (m : Rds K G G') : ∀ {vs : List (Str × V)} {l : List (Str × D)}, RpF K G vs l → RpF K G' vs l
  | _, _, .nil => .nil
  | _, _, .cons h r => .cons (Rp.to m h) (RpF.to m r)
end
inductive RpV (K : Fr) (ws : List Addr) (G : Hp) : V → Vl → Prop
  | d {v : V} {x : D} : Rp K G v x → RpV K ws G v (.d x)
  | mu {a : Addr} {n : Nat} : ws[n]? = some a → RpV K ws G (.ref a) (.mu n)
abbrev RpVs (K : Fr) (ws : List Addr) (G : Hp) : List V → List Vl → Prop := Paired (RpV K ws G)
def RpVK (K : Fr) (ws : List Addr) (G : Hp) : List (Key × V) → List (D × Vl) → Prop := Paired fun p q => q.1 = kD p.1 ∧ RpV K ws G p.2 q.2
def RpVN (K : Fr) (ws : List Addr) (G : Hp) : List (NestedKey × Addr × V) → List (D × Vl) → Prop := Paired fun p q => (Rp K G (.ref p.2.1) q.1 ∧ nkOf q.1 = some p.1 ∧ p.1.depth ≤ 8) ∧ RpV K ws G p.2.2 q.2
def RpVF (K : Fr) (ws : List Addr) (G : Hp) : List (Str × V) → List (Str × Vl) → Prop := Paired fun p q => q.1 = p.1 ∧ RpV K ws G p.2 q.2
theorem Paired.imp {α β : Type} {F F' : α → β → Prop} (f : ∀ a b, F a b → F' a b) : ∀ {l : List α} {r : List β}, Paired F l r → Paired F' l r
  | _, _, .nil => .nil
  | _, _, .cons h t => .cons (f _ _ h) (Paired.imp f t)
theorem Paired.impB {α β : Type} {F F' : α → β → Prop} : ∀ {l : List α} {r : List β}, Paired F l r → (∀ a b, b ∈ r → F a b → F' a b) → Paired F' l r
  | _, _, .nil, _ => .nil
  | _, _, .cons h t, f => .cons (f _ _ List.mem_cons_self h) (Paired.impB t fun a b hb => f a b (List.mem_cons_of_mem _ hb))
theorem Paired.app {α β : Type} {F : α → β → Prop} : ∀ {l l' : List α} {r r' : List β}, Paired F l r → Paired F l' r' → Paired F (l ++ l') (r ++ r')
  | _, _, _, _, .nil, h => h
  | _, _, _, _, .cons h t, g => .cons h (Paired.app t g)
theorem Paired.at' {α β : Type} {F : α → β → Prop} : ∀ {l : List α} {r : List β} {i : Nat} {b : β}, Paired F l r → r[i]? = some b → ∃ a, l[i]? = some a ∧ F a b
  | _, _, _, _, .nil, e => by simp at e
  | _, _, 0, _, .cons h _, e => by simp at e; subst e; exact ⟨_, rfl, h⟩
  | _, _, i + 1, _, .cons _ t, e => by
    obtain ⟨a, h1, h2⟩ := Paired.at' (i := i) t (by simpa using e)
    exact ⟨a, by simpa using h1, h2⟩
theorem Paired.set' {α β : Type} {F : α → β → Prop} {a : α} {b : β} (h : F a b) : ∀ {l : List α} {r : List β} (i : Nat), Paired F l r → Paired F (l.set i a) (r.set i b)
  | _, _, _, .nil => .nil
  | _, _, 0, .cons _ t => .cons h t
  | _, _, i + 1, .cons g t => .cons g (Paired.set' h i t)
variable {ws ws' : List Addr}
theorem RpV.to (m : Rds K G G') (hw : ∀ (n : Nat) (a : Addr), ws[n]? = some a → ws'[n]? = some a) {v : V} {x : Vl} (h : RpV K ws G v x) : RpV K ws' G' v x := by
  cases h with
  | d h => exact .d (h.to m)
  | mu h => exact .mu (hw _ _ h)
theorem RpV.bel {v : V} {x : Vl} (h : RpV K ws G v x) (k : Nat) (hb : x.below k = true) : RpV K (ws.take k) G v x := by
  cases h with
  | d h => exact .d h
  | mu h =>
    refine .mu ?_
    rw [List.getElem?_take, if_pos (of_decide_eq_true hb)]
    exact h
/-! ### the state -/
def MAt (K : Fr) (ws : List Addr) (G H : Hp) (a : Addr) : M → Prop
  | .lst l => ∃ vs, H a = some (.lst vs) ∧ RpVs K ws G vs l
  | .dct l => (∃ kvs, H a = some (.dK kvs) ∧ RpVK K ws G kvs l) ∨ ∃ kvs, H a = some (dN K.w a kvs) ∧ RpVN K ws G kvs l ∧ l ≠ []
  | .ins C l => ∃ dx fs, H a = some (.ins C dx fs) ∧ ClsF K C (fs.map (·.1)) ∧ RpVF K ws G fs l
  | .lk l => (∃ ob kvs, H a = some (.frz ob (.dK kvs)) ∧ RpVK K ws G kvs l) ∨ ∃ ob kvs, H a = some (.frz ob (dN K.w a kvs)) ∧ RpVN K ws G kvs l ∧ l ≠ []
  | .dead => True
structure Cf (K : Fr) (TB : List (Addr × Str)) (ws : List Addr) (G H : Hp) (W : Ms) : Prop where
  g : Same G H
  len : ws.length = W.length
  nd : ws.Nodup
  dm : ∀ a, a ∈ ws → ∃ o, H a = some o ∧ ∀ ps, o ≠ .tbl ps
  nt : ∀ a ps, G a ≠ some (.tbl ps)
  ob : ∀ (n : Nat) (a : Addr) (m : M), ws[n]? = some a → W[n]? = some m → m ≠ .dead → G a = none ∧ MAt K ws G H a m
  tb : LamX.Tabs TB H
structure Gr (ws : List Addr) (G H : Hp) (ws' : List Addr) (G' H' : Hp) : Prop where
  g : Same G G'
  p : ∃ more, ws' = ws ++ more
  fr : ∀ a o, H a = some o → a ∉ ws → (∀ ps, o ≠ .tbl ps) → H' a = some o
  fz : ∀ a o u, H a = some (.frz o u) → H' a = some (.frz o u)
  nw : ∀ a o, H a = some o → (∀ ps, o ≠ .tbl ps) → a ∉ ws → a ∉ ws'
  nf : ∀ a o, H a = some o → G a = none → a ∉ ws → (∀ ps, o ≠ .tbl ps) → G' a = none ∨ ∃ xs, o = .tup xs
variable {H H' H1 H2 G1 G2 : Hp} {ws1 ws2 : List Addr} {W W' : Ms} {TB : List (Addr × Str)}
theorem Gr.refl : Gr ws G H ws G H := ⟨fun _ _ h => h, ⟨[], by simp⟩, fun a o h _ _ => h, fun _ _ _ h => h, fun a o _ _ h => h, fun a _ _ h _ _ => .inl h⟩
theorem Gr.trans (a : Gr ws G H ws1 G1 H1) (b : Gr ws1 G1 H1 ws2 G2 H2) : Gr ws G H ws2 G2 H2 where
  g := fun x o h => b.g x o (a.g x o h)
  p := by
    obtain ⟨m, e⟩ := a.p
    obtain ⟨m', e'⟩ := b.p
    exact ⟨m ++ m', by rw [e', e, List.append_assoc]⟩
  fr := fun x o h hw n => b.fr x o (a.fr x o h hw n) (a.nw x o h n hw) n
  fz := fun x o u h => b.fz x o u (a.fz x o u h)
  nw := fun x o h n hw => b.nw x o (a.fr x o h hw n) n (a.nw x o h n hw)
  nf := fun x o h hg hw n => (a.nf x o h hg hw n).elim (fun k => b.nf x o (a.fr x o h hw n) k (a.nw x o h n hw) n) .inr
theorem Gr.at (a : Gr ws G H ws1 G1 H1) {n : Nat} {x : Addr} (h : ws[n]? = some x) : ws1[n]? = some x := by
  obtain ⟨m, e⟩ := a.p
  rw [e, List.getElem?_append_left (List.getElem?_eq_some_iff.mp h).1]
  exact h
theorem Gr.rp (a : Gr ws G H ws1 G1 H1) {v : V} {x : D} (h : Rp K G v x) : Rp K G1 v x := h.to (.of a.g)
theorem Gr.rv (a : Gr ws G H ws1 G1 H1) {v : V} {x : Vl} (h : RpV K ws G v x) : RpV K ws1 G1 v x := h.to (.of a.g) fun _ _ e => a.at e
theorem Gr.rvs (a : Gr ws G H ws1 G1 H1) {vs : List V} {xs : List Vl} (h : RpVs K ws G vs xs) : RpVs K ws1 G1 vs xs := Paired.imp (fun _ _ => a.rv) h
/-! ### slots -/
def RpO (K : Fr) (ws : List Addr) (G : Hp) (ov : Option V) : Option Vl → Prop
  | none => True
  | some x => ∃ v, ov = some v ∧ RpV K ws G v x
abbrev EnvR (K : Fr) (ws : List Addr) (G : Hp) : L2.St → Ev → Prop := Paired (RpO K ws G)
theorem EnvR.up {σ : L2.St} {ρ : Ev} (a : Gr ws G H ws1 G1 H1) (e : EnvR K ws G σ ρ) : EnvR K ws1 G1 σ ρ := Paired.imp (fun ov od h => by
  cases od with
  | none => trivial
  | some x =>
    obtain ⟨v, e, r⟩ := h
    exact ⟨v, e, a.rv r⟩) e
theorem EnvR.at {σ : L2.St} {ρ : Ev} (e : EnvR K ws G σ ρ) {i : Nat} {x : Vl} (h : ρ[i]? = some (some x)) : ∃ v, σ[i]? = some (some v) ∧ RpV K ws G v x := by
  obtain ⟨ov, h1, v, h2, r⟩ := Paired.at' e h
  subst h2
  exact ⟨v, h1, r⟩
theorem EnvR.set {σ : L2.St} {ρ : Ev} (e : EnvR K ws G σ ρ) (i : Nat) {v : V} {x : Vl} (h : RpV K ws G v x) : EnvR K ws G (σ.set i (some v)) (ρ.set i (some x)) := Paired.set' ⟨v, rfl, h⟩ i e
def wipeE (ρ : Ev) : List Nat → Ev
  | [] => ρ
  | v :: vs => (wipeE ρ vs).set v none
theorem EnvR.wipe {σ : L2.St} {ρ : Ev} (e : EnvR K ws G σ ρ) : ∀ vs : List Nat, EnvR K ws G (L2.wipe σ vs) (wipeE ρ vs)
  | [] => e
  | v :: vs => Paired.set' trivial v (EnvR.wipe e vs)
end
/-! ### what is wanted -/
section
variable {α β α' β' : Type} (K : Fr) (TB : List (Addr × Str))
def Wish (R : List Addr → Hp → Hp → β → α → Prop) (E : XK) (ws : List Addr) (G H : Hp) (Q : β → Hp → Prop) : Res α → Prop
  | .ok x W' => ∀ b ws' G' H', Gr ws G H ws' G' H' → Cf K TB ws' G' H' W' → R ws' G' H' b x → Q b H'
  | .exc C W' => ∀ ws' G' H', Gr ws G H ws' G' H' → Cf K TB ws' G' H' W' → E (.ref C) none H'
  | .stuck => False
def WishS (E : XK) (ws : List Addr) (G H : Hp) (Dn : Ends) : Out → Prop
  | .nx ρ W' => ∀ σ' ws' G' H', Gr ws G H ws' G' H' → Cf K TB ws' G' H' W' → EnvR K ws' G' σ' ρ → Dn.nx σ' H'
  | .rt x W' => ∀ v ws' G' H', Gr ws G H ws' G' H' → Cf K TB ws' G' H' W' → RpV K ws' G' v x → Dn.rt v H'
  | .bk ρ W' => ∀ σ' ws' G' H', Gr ws G H ws' G' H' → Cf K TB ws' G' H' W' → EnvR K ws' G' σ' ρ → Dn.bk σ' H'
  | .ct ρ W' => ∀ σ' ws' G' H', Gr ws G H ws' G' H' → Cf K TB ws' G' H' W' → EnvR K ws' G' σ' ρ → Dn.ct σ' H'
  | .exc C W' => ∀ ws' G' H', Gr ws G H ws' G' H' → Cf K TB ws' G' H' W' → E (.ref C) none H'
  | .stuck => False
def Snd (R : List Addr → Hp → Hp → β → α → Prop) (E : XK) (t : L2.St → Hp → (β → Hp → Prop) → Prop) (f : Ev → Ms → Res α) : Prop :=
  ∀ (σ : L2.St) (ws : List Addr) (G H : Hp) (ρ : Ev) (W : Ms) (Q : β → Hp → Prop), EnvR K ws G σ ρ → Cf K TB ws G H W → Wish K TB R E ws G H Q (f ρ W) → t σ H Q
abbrev RV : List Addr → Hp → Hp → V → Vl → Prop := fun ws G _ => RpV K ws G
abbrev RVs : List Addr → Hp → Hp → List V → List Vl → Prop := fun ws G _ => RpVs K ws G
abbrev SE (E : XK) (t : TE) (f : Ev → Ms → Res Vl) : Prop := Snd K TB (RV K) E t f
abbrev SA (E : XK) (t : TA) (f : Ev → Ms → Res (List Vl)) : Prop := Snd K TB (RVs K) E t f
abbrev ST (E : XK) (t : TT) (f : Ev → Ms → Res Bool) : Prop := Snd K TB (fun _ _ _ b x => b = x) E t f
def SS (E : XK) (t : TS) (f : Ev → Ms → Out) : Prop :=
  ∀ (σ : L2.St) (ws : List Addr) (G H : Hp) (ρ : Ev) (W : Ms) (Dn : Ends), EnvR K ws G σ ρ → Cf K TB ws G H W → WishS K TB E ws G H Dn (f ρ W) → t Dn σ H
def spD (F : List Vl → Ms → Res Vl) : Sp := fun vs H Q E => ∃ ws G W ds, Cf K TB ws G H W ∧ RpVs K ws G vs ds ∧ Wish K TB (RV K) E ws G H Q (F ds W)
variable {K TB} {R : List Addr → Hp → Hp → β → α → Prop} {R' : List Addr → Hp → Hp → β' → α' → Prop} {E : XK} {ws ws1 : List Addr} {G H G1 H1 : Hp} {Q : β → Hp → Prop} {Q' : β' → Hp → Prop} {Dn : Ends}
theorem Wish.up {r : Res α} (w : Wish K TB R E ws G H Q r) (a : Gr ws G H ws1 G1 H1) : Wish K TB R E ws1 G1 H1 Q r := by
  cases r with
  | ok x W' => exact fun b ws' G' H' g c r => w b ws' G' H' (a.trans g) c r
  | exc C W' => exact fun ws' G' H' g c => w ws' G' H' (a.trans g) c
  | stuck => exact w
theorem WishS.up {r : Out} (w : WishS K TB E ws G H Dn r) (a : Gr ws G H ws1 G1 H1) : WishS K TB E ws1 G1 H1 Dn r := by
  cases r with
  | nx ρ W' => exact fun b ws' G' H' g c r => w b ws' G' H' (a.trans g) c r
  | rt ρ W' => exact fun b ws' G' H' g c r => w b ws' G' H' (a.trans g) c r
  | bk ρ W' => exact fun b ws' G' H' g c r => w b ws' G' H' (a.trans g) c r
  | ct ρ W' => exact fun b ws' G' H' g c r => w b ws' G' H' (a.trans g) c r
  | exc C W' => exact fun ws' G' H' g c => w ws' G' H' (a.trans g) c
  | stuck => exact w
theorem Wish.ok {x : α} {W : Ms} {b : β} (w : Wish K TB R E ws G H Q (.ok x W)) (c : Cf K TB ws G H W) (r : R ws G H b x) : Q b H := w b ws G H .refl c r
/-- go through a part -/
theorem Snd.go {t : L2.St → Hp → (β' → Hp → Prop) → Prop} {f : Ev → Ms → Res α'} {σ : L2.St} {ρ : Ev} {W : Ms} {k : α' → Ms → Res α} (h : Snd K TB R' E t f) (e : EnvR K ws G σ ρ) (c : Cf K TB ws G H W)
    (w : Wish K TB R E ws G H Q ((f ρ W).bind k))
    (nx : ∀ b x W1 ws1 G1 H1, Gr ws G H ws1 G1 H1 → Cf K TB ws1 G1 H1 W1 → R' ws1 G1 H1 b x → Wish K TB R E ws1 G1 H1 Q (k x W1) → Q' b H1) : t σ H Q' := by
  refine h σ ws G H ρ W Q' e c ?_
  cases q : f ρ W with
  | ok x W1 =>
    rw [q] at w
    exact fun b ws1 G1 H1 g c1 r => nx b x W1 ws1 G1 H1 g c1 r (Wish.up w g)
  | exc C W1 =>
    rw [q] at w
    exact w
  | stuck =>
    rw [q] at w
    exact w
theorem Snd.goS {t : L2.St → Hp → (β' → Hp → Prop) → Prop} {f : Ev → Ms → Res α'} {σ : L2.St} {ρ : Ev} {W : Ms} {k : α' → Ms → Out} (h : Snd K TB R' E t f) (e : EnvR K ws G σ ρ) (c : Cf K TB ws G H W)
    (w : WishS K TB E ws G H Dn ((f ρ W).bindS k))
    (nx : ∀ b x W1 ws1 G1 H1, Gr ws G H ws1 G1 H1 → Cf K TB ws1 G1 H1 W1 → R' ws1 G1 H1 b x → WishS K TB E ws1 G1 H1 Dn (k x W1) → Q' b H1) : t σ H Q' := by
  refine h σ ws G H ρ W Q' e c ?_
  cases q : f ρ W with
  | ok x W1 =>
    rw [q] at w
    exact fun b ws1 G1 H1 g c1 r => nx b x W1 ws1 G1 H1 g c1 r (WishS.up w g)
  | exc C W1 =>
    rw [q] at w
    exact w
  | stuck =>
    rw [q] at w
    exact w
end
end DL

set_option Elab.async false
set_option linter.all false
set_option maxRecDepth 100000
set_option maxHeartbeats 4000000
namespace DL
open PySem L2
/-! ## what happens to the state -/
section
variable {K : Fr} {TB : List (Addr × Str)} {ws ws' : List Addr} {G G' H H' : Hp} {W W' : Ms} {p a : Addr} {o u : HO} {m : M} {n : Nat}
theorem idx_inj {l : List Addr} (nd : l.Nodup) {i n : Nat} {a : Addr} (h1 : l[i]? = some a) (h2 : l[n]? = some a) : i = n := by
  have hp : l.Pairwise (· ≠ ·) := nd
  rw [List.pairwise_iff_getElem] at hp
  obtain ⟨q1, e1⟩ := List.getElem?_eq_some_iff.mp h1
  obtain ⟨q2, e2⟩ := List.getElem?_eq_some_iff.mp h2
  rcases Nat.lt_trichotomy i n with h | h | h
  · exact absurd (e1.trans e2.symm) (hp i n q1 q2 h)
  · exact h
  · exact absurd (e2.trans e1.symm) (hp n i q2 q1 h)
def Plain (u : HO) : Prop := (∀ ps, u ≠ .tbl ps) ∧ (∀ c q, u ≠ LamX.CodeO c q) ∧ ∀ xs, u ≠ .tup xs
theorem dN_ne_code {w : World} {a : Addr} {xs : List (NestedKey × Addr × V)} (c : Addr) (q : Str) : dN w a xs ≠ LamX.CodeO c q := by
  intro e
  injection e with e
  have hg : (⟨Array.replicate (c + 1) { cls := .none, data := .fields #[.none, .str q 0] }, {}⟩ : Heap).get? c = some { cls := .none, data := .fields #[.none, .str q 0] } := by
    unfold Heap.get?
    simp
  have h2 := congrFun e (⟨Array.replicate (c + 1) { cls := .none, data := .fields #[.none, .str q 0] }, {}⟩ : Heap)
  have h3 := (Eq.mpr h2 ⟨_, _, 0, hg, rfl, rfl⟩ : _)
  obtain ⟨_, _, us, o, es, ep, _, h4, _, h5, _⟩ := h3
  unfold Heap.get? at h4
  by_cases ha : a < c + 1
  · simp [ha] at h4
    rw [← h4] at h5
    cases h5
  · simp [ha] at h4
theorem plain_dN {w : World} {a : Addr} {xs : List (NestedKey × Addr × V)} : Plain (dN w a xs) := ⟨fun _ z => (nomatch z), dN_ne_code, fun _ z => (nomatch z)⟩
theorem plain_lst {xs : List V} : Plain (.lst xs) := ⟨fun _ z => (nomatch z), fun _ _ z => (nomatch z), fun _ z => (nomatch z)⟩
theorem plain_dK {xs : List (Key × V)} : Plain (.dK xs) := ⟨fun _ z => (nomatch z), fun _ _ z => (nomatch z), fun _ z => (nomatch z)⟩
theorem plain_ins {C dx : Addr} {fs : List (Str × V)} : Plain (.ins C dx fs) := ⟨fun _ z => (nomatch z), fun _ _ z => (nomatch z), fun _ z => (nomatch z)⟩
theorem plain_frz {o : Obj} {u : HO} : Plain (.frz o u) := ⟨fun _ z => (nomatch z), fun _ _ z => (nomatch z), fun _ z => (nomatch z)⟩
theorem nf_lst {xs : List V} : Plain (.lst xs) ∧ ∀ o' u', HO.lst xs ≠ .frz o' u' := ⟨plain_lst, fun _ _ z => (nomatch z)⟩
theorem nf_dK {xs : List (Key × V)} : Plain (.dK xs) ∧ ∀ o' u', HO.dK xs ≠ .frz o' u' := ⟨plain_dK, fun _ _ z => (nomatch z)⟩
theorem nf_dN {w : World} {a : Addr} {xs : List (NestedKey × Addr × V)} : Plain (dN w a xs) ∧ ∀ o' u', dN w a xs ≠ .frz o' u' := ⟨plain_dN, fun _ _ z => (nomatch z)⟩
theorem nf_ins {C dx : Addr} {fs : List (Str × V)} : Plain (.ins C dx fs) ∧ ∀ o' u', HO.ins C dx fs ≠ .frz o' u' := ⟨plain_ins, fun _ _ z => (nomatch z)⟩
theorem MAt.plain (h : MAt K ws G H a m) (hm : m ≠ .dead) : ∃ u, H a = some u ∧ Plain u := by
  cases m with
  | lst l => obtain ⟨vs, e, _⟩ := h; exact ⟨_, e, plain_lst⟩
  | dct l =>
    rcases h with ⟨kvs, e, _⟩ | ⟨kvs, e, _⟩
    · exact ⟨_, e, plain_dK⟩
    · exact ⟨_, e, plain_dN⟩
  | ins C l => obtain ⟨dx, fs, e, _⟩ := h; exact ⟨_, e, plain_ins⟩
  | lk l => rcases h with ⟨ob, kvs, e, _⟩ | ⟨ob, kvs, e, _⟩ <;> exact ⟨_, e, plain_frz⟩
  | dead => exact absurd rfl hm
theorem MAt.to (h : MAt K ws G H a m) (r : ∀ v x, RpV K ws G v x → RpV K ws' G' v x) (e : H' a = H a) : MAt K ws' G' H' a m := by
  have r0 : ∀ v x, Rp K G v x → Rp K G' v x := fun v x h => by
    cases r v (.d x) (.d h) with
    | d h => exact h
  cases m with
  | lst l => obtain ⟨vs, q, h⟩ := h; exact ⟨vs, e.trans q, Paired.imp r h⟩
  | dct l =>
    rcases h with ⟨kvs, q, h⟩ | ⟨kvs, q, h, nl⟩
    · exact .inl ⟨kvs, e.trans q, Paired.imp (fun _ _ z => ⟨z.1, r _ _ z.2⟩) h⟩
    · exact .inr ⟨kvs, e.trans q, Paired.imp (fun _ _ z => ⟨⟨r0 _ _ z.1.1, z.1.2⟩, r _ _ z.2⟩) h, nl⟩
  | ins C l => obtain ⟨dx, fs, q, c, h⟩ := h; exact ⟨dx, fs, e.trans q, c, Paired.imp (fun _ _ z => ⟨z.1, r _ _ z.2⟩) h⟩
  | lk l =>
    rcases h with ⟨ob, kvs, q, h⟩ | ⟨ob, kvs, q, h, nl⟩
    · exact .inl ⟨ob, kvs, e.trans q, Paired.imp (fun _ _ z => ⟨z.1, r _ _ z.2⟩) h⟩
    · exact .inr ⟨ob, kvs, e.trans q, Paired.imp (fun _ _ z => ⟨⟨r0 _ _ z.1.1, z.1.2⟩, r _ _ z.2⟩) h, nl⟩
  | dead => exact trivial
theorem same_upd (h : G p = none) : Same G (upd G p o) := fun b u e => by
  rw [upd_ne (ne_of_none e h)]
  exact e
theorem Cf.gn (c : Cf K TB ws G H W) (h : H p = none) : G p = none := by
  cases e : G p with
  | none => rfl
  | some o => rw [c.g p o e] at h; cases h
theorem Cf.wn (c : Cf K TB ws G H W) (h : H p = none) : p ∉ ws := fun z => by
  obtain ⟨o, e, _⟩ := c.dm p z
  rw [h] at e
  cases e
theorem Cf.ne (c : Cf K TB ws G H W) (h : H p = none) {n : Nat} {a : Addr} (e : ws[n]? = some a) : a ≠ p := fun z => c.wn h (z ▸ List.mem_of_getElem? e)
/-- a new object that nobody changes -/
theorem Cf.new (c : Cf K TB ws G H W) (h : H p = none) (ho : ∀ ps, o ≠ .tbl ps := by intro _ z; cases z) : Cf K TB ws (upd G p o) (upd H p o) W where
  g := fun b u e => by
    by_cases q : b = p
    · subst q; rw [upd_same] at e ⊢; exact e
    · rw [upd_ne q] at e ⊢; exact c.g b u e
  len := c.len
  nd := c.nd
  nt := fun b ps q => by
    by_cases z : b = p
    · subst z; rw [upd_same] at q; exact ho ps (Option.some.inj q)
    · rw [upd_ne z] at q; exact c.nt b ps q
  dm := fun b hb => by have ne : b ≠ p := fun z => c.wn h (z ▸ hb); rw [upd_ne ne]; exact c.dm b hb
  ob := fun n a m e1 e2 hm => by
    obtain ⟨h1, h2⟩ := c.ob n a m e1 e2 hm
    have ne := c.ne h e1
    exact ⟨by rw [upd_ne ne]; exact h1, h2.to (fun v x r => r.to (.of (same_upd (c.gn h))) fun _ _ e => e) (upd_ne ne)⟩
  tb := c.tb.ext (same_upd h)
theorem Gr.new (c : Cf K TB ws G H W) (h : H p = none) : Gr ws G H ws (upd G p o) (upd H p o) where
  g := same_upd (c.gn h)
  p := ⟨[], by simp⟩
  fr := fun b u e _ _ => by rw [upd_ne (ne_of_none e h)]; exact e
  fz := fun b o u e => by rw [upd_ne (ne_of_none e h)]; exact e
  nw := fun _ _ _ _ hw => hw
  nf := fun b u hb hg hw _ => .inl (by rw [upd_ne (ne_of_none hb h)]; exact hg)
/-- a new object that is not told of -/
theorem Cf.junk (c : Cf K TB ws G H W) (h : H p = none) : Cf K TB ws G (upd H p o) W where
  g := fun b u e => by
    rw [upd_ne (ne_of_none e (c.gn h))]
    exact c.g b u e
  len := c.len
  nd := c.nd
  nt := c.nt
  dm := fun b hb => by have ne : b ≠ p := fun z => c.wn h (z ▸ hb); rw [upd_ne ne]; exact c.dm b hb
  ob := fun n a m e1 e2 hm => by
    obtain ⟨h1, h2⟩ := c.ob n a m e1 e2 hm
    exact ⟨h1, h2.to (fun v x r => r) (upd_ne (c.ne h e1))⟩
  tb := c.tb.ext (same_upd h)
theorem Gr.junk (h : H p = none) : Gr ws G H ws G (upd H p o) where
  g := fun _ _ e => e
  p := ⟨[], by simp⟩
  fr := fun b u e _ _ => by rw [upd_ne (ne_of_none e h)]; exact e
  fz := fun b o u e => by rw [upd_ne (ne_of_none e h)]; exact e
  nw := fun _ _ _ _ hw => hw
  nf := fun b u hb hg hw _ => .inl hg
/-- such an object is written -/
theorem Cf.junkW (c : Cf K TB ws G H W) (hg : G p = none) (hw : p ∉ ws) (hp : ∃ u, H p = some u ∧ Plain u) : Cf K TB ws G (upd H p o) W where
  g := fun b u e => by
    rw [upd_ne (ne_of_none e hg)]
    exact c.g b u e
  len := c.len
  nd := c.nd
  nt := c.nt
  dm := fun b hb => by have ne : b ≠ p := fun z => hw (z ▸ hb); rw [upd_ne ne]; exact c.dm b hb
  ob := fun n a m e1 e2 hm => by
    obtain ⟨h1, h2⟩ := c.ob n a m e1 e2 hm
    exact ⟨h1, h2.to (fun v x r => r) (upd_ne (show a ≠ p from fun z => hw (z ▸ List.mem_of_getElem? e1)))⟩
  tb := fun q hq => by
    obtain ⟨ps, h1, h2, h3⟩ := c.tb q hq
    obtain ⟨u, eu, pu⟩ := hp
    refine ⟨ps, by rw [upd_ne (fun z => by rw [z, eu] at h1; exact pu.1 _ (Option.some.inj h1))]; exact h1, h2, fun pos cv hc => ?_⟩
    obtain ⟨d, e1, e2⟩ := h3 pos cv hc
    exact ⟨d, e1, by rw [upd_ne (fun z => by rw [z, eu] at e2; exact pu.2.1 _ _ (Option.some.inj e2))]; exact e2⟩
theorem Gr.junkW (g : Gr ws G H ws' G' H') (h : H p = none) : Gr ws G H ws' G' (upd H' p o) where
  g := g.g
  p := g.p
  fr := fun b u e h2 n => by
    rw [upd_ne (ne_of_none e h)]
    exact g.fr b u e h2 n
  fz := fun b o u e => by rw [upd_ne (ne_of_none e h)]; exact g.fz b o u e
  nw := g.nw
  nf := g.nf
/-- a new object that changes -/
theorem Cf.newM (c : Cf K TB ws G H W) (h : H p = none) (hm : MAt K (ws ++ [p]) G (upd H p o) p m) (ho : ∀ ps, o ≠ .tbl ps := by intro _ z; cases z) : Cf K TB (ws ++ [p]) G (upd H p o) (W ++ [m]) where
  nt := c.nt
  g := fun b u e => by
    rw [upd_ne (ne_of_none e (c.gn h))]
    exact c.g b u e
  len := by rw [List.length_append, List.length_append, c.len]; rfl
  nd := List.nodup_append.mpr ⟨c.nd, by simp, fun a ha b hb z => by
    rw [List.mem_singleton] at hb
    exact c.wn h (hb ▸ z ▸ ha)⟩
  dm := fun b hb => by
    rcases List.mem_append.mp hb with hb | hb
    · have ne : b ≠ p := fun z => c.wn h (z ▸ hb)
      rw [upd_ne ne]; exact c.dm b hb
    · rw [List.mem_singleton.mp hb, upd_same]; exact ⟨_, rfl, ho⟩
  ob := fun n a x e1 e2 hx => by
    by_cases hn : n < ws.length
    · rw [List.getElem?_append_left hn] at e1
      rw [List.getElem?_append_left (by rw [← c.len]; exact hn)] at e2
      obtain ⟨h1, h2⟩ := c.ob n a x e1 e2 hx
      refine ⟨h1, h2.to (fun v x r => r.to (.of fun _ _ e => e) fun i b e => ?_) (upd_ne (c.ne h e1))⟩
      rw [List.getElem?_append_left (List.getElem?_eq_some_iff.mp e).1]
      exact e
    · have hn2 : n = ws.length := by
        have := (List.getElem?_eq_some_iff.mp e1).1
        rw [List.length_append] at this
        have : n < ws.length + 1 := this
        omega
      subst hn2
      rw [List.getElem?_append_right (Nat.le_refl _), Nat.sub_self] at e1
      rw [List.getElem?_append_right (by rw [c.len]; exact Nat.le_refl _), ← c.len, Nat.sub_self] at e2
      cases e1
      cases e2
      exact ⟨c.gn h, hm⟩
  tb := c.tb.ext (same_upd h)
theorem Gr.newM (c : Cf K TB ws G H W) (h : H p = none) : Gr ws G H (ws ++ [p]) G (upd H p o) where
  g := fun _ _ e => e
  p := ⟨[p], rfl⟩
  fr := fun b u e _ _ => by rw [upd_ne (ne_of_none e h)]; exact e
  fz := fun b o u e => by rw [upd_ne (ne_of_none e h)]; exact e
  nw := fun b u hb _ hw z => by
    rcases List.mem_append.mp z with z | z
    · exact hw z
    · rw [List.mem_singleton.mp z, h] at hb
      cases hb
  nf := fun b u hb hg hw _ => .inl hg
/-- an object is changed -/
theorem Cf.put (c : Cf K TB ws G H W) (e : ws[n]? = some a) {m0 : M} (e0 : W[n]? = some m0) (hd : m0 ≠ .dead) (hm : MAt K ws G (upd H a o) a m) (ho : ∀ ps, o ≠ .tbl ps := by intro _ z; cases z) : Cf K TB ws G (upd H a o) (W.set n m) where
  nt := c.nt
  g := fun b u q => by
    rw [upd_ne (ne_of_none q (c.ob n a m0 e e0 hd).1)]
    exact c.g b u q
  len := by rw [List.length_set]; exact c.len
  nd := c.nd
  dm := fun b hb => by
    by_cases z : b = a
    · subst z; rw [upd_same]; exact ⟨_, rfl, ho⟩
    · rw [upd_ne z]; exact c.dm b hb
  ob := fun i b x e1 e2 hx => by
    by_cases hi : i = n
    · subst hi
      rw [e] at e1
      cases e1
      rw [List.getElem?_set_self (List.getElem?_eq_some_iff.mp e0).1] at e2
      cases e2
      exact ⟨(c.ob i a m0 e e0 hd).1, hm⟩
    · rw [List.getElem?_set_ne (Ne.symm hi)] at e2
      obtain ⟨h1, h2⟩ := c.ob i b x e1 e2 hx
      exact ⟨h1, h2.to (fun v x r => r) (upd_ne (show b ≠ a from fun z => hi (idx_inj c.nd e1 (z ▸ e))))⟩
  tb := fun q hq => by
    obtain ⟨ps, h1, h2, h3⟩ := c.tb q hq
    obtain ⟨u, eu, pu⟩ := (c.ob n a m0 e e0 hd).2.plain hd
    refine ⟨ps, by rw [upd_ne (fun z => by rw [z, eu] at h1; exact pu.1 _ (Option.some.inj h1))]; exact h1, h2, fun pos cv hc => ?_⟩
    obtain ⟨d, e1, e2⟩ := h3 pos cv hc
    exact ⟨d, e1, by rw [upd_ne (fun z => by rw [z, eu] at e2; exact pu.2.1 _ _ (Option.some.inj e2))]; exact e2⟩
theorem Gr.put (e : ws[n]? = some a) (hp : ∃ u, H a = some u ∧ Plain u ∧ ∀ o' u', u ≠ .frz o' u') : Gr ws G H ws G (upd H a o) where
  g := fun _ _ e => e
  p := ⟨[], by simp⟩
  fr := fun b u q hw _ => by have ne : b ≠ a := fun z => hw (z ▸ List.mem_of_getElem? e); rw [upd_ne ne]; exact q
  fz := fun b o' u' q => by
    obtain ⟨u, eu, _, pu⟩ := hp
    have ne : b ≠ a := by rintro rfl; rw [q] at eu; exact pu _ _ (Option.some.inj eu).symm
    rw [upd_ne ne]
    exact q
  nw := fun _ _ _ _ hw => hw
  nf := fun b u hb hg hw _ => .inl hg
/-- an object will be changed no more -/
theorem Cf.freeze (c : Cf K TB ws G H W) (e : ws[n]? = some a) {m0 : M} (e0 : W[n]? = some m0) (hd : m0 ≠ .dead) (eo : H a = some o) : Cf K TB ws (upd G a o) H (W.set n .dead) where
  g := fun b u q => by
    by_cases z : b = a
    · subst z; rw [upd_same] at q; rw [← q]; exact eo
    · rw [upd_ne z] at q; exact c.g b u q
  len := by rw [List.length_set]; exact c.len
  nd := c.nd
  nt := fun b ps q => by
    by_cases z : b = a
    · subst z
      rw [upd_same] at q
      obtain ⟨u, eu, pu⟩ := (c.ob n b m0 e e0 hd).2.plain hd
      rw [eo] at eu
      cases eu
      exact pu.1 ps (Option.some.inj q)
    · rw [upd_ne z] at q; exact c.nt b ps q
  dm := c.dm
  ob := fun i b x e1 e2 hx => by
    by_cases hi : i = n
    · subst hi
      rw [List.getElem?_set_self (List.getElem?_eq_some_iff.mp e0).1] at e2
      cases e2
      exact absurd rfl hx
    · rw [List.getElem?_set_ne (Ne.symm hi)] at e2
      obtain ⟨h1, h2⟩ := c.ob i b x e1 e2 hx
      have ne : b ≠ a := fun z => hi (idx_inj c.nd e1 (z ▸ e))
      exact ⟨by rw [upd_ne ne]; exact h1, h2.to (fun v x r => r.to (.of (same_upd (c.ob n a m0 e e0 hd).1)) fun _ _ e => e) rfl⟩
  tb := c.tb
theorem Gr.freeze (c : Cf K TB ws G H W) (e : ws[n]? = some a) {m0 : M} (e0 : W[n]? = some m0) (hd : m0 ≠ .dead) : Gr ws G H ws (upd G a o) H where
  g := same_upd (c.ob n a m0 e e0 hd).1
  p := ⟨[], by simp⟩
  fr := fun b u q _ _ => q
  fz := fun _ _ _ q => q
  nw := fun _ _ _ _ hw => hw
  nf := fun b u hb hg hw _ => .inl (by have ne : b ≠ a := fun z => hw (z ▸ List.mem_of_getElem? e); rw [upd_ne ne]; exact hg)
/-- what was made on the way is forgotten -/
def Chk (k : Nat) (W0 W : Ms) : Prop := ∀ i, i < k → W[i]? = W0[i]? ∨ ∃ m, W[i]? = some m ∧ m.below k = true
theorem MAt.bel (k : Nat) (h : MAt K ws G H a m) (hb : m.below k = true) : MAt K (ws.take k) G H a m := by
  cases m with
  | lst l => obtain ⟨vs, e, h⟩ := h; exact ⟨vs, e, Paired.impB h fun v x hx r => r.bel k (List.all_eq_true.mp hb x hx)⟩
  | dct l =>
    rcases h with ⟨kvs, e, h⟩ | ⟨kvs, e, h, nl⟩
    · exact .inl ⟨kvs, e, Paired.impB h fun v x hx r => ⟨r.1, r.2.bel k (List.all_eq_true.mp hb x hx)⟩⟩
    · exact .inr ⟨kvs, e, Paired.impB h fun v x hx r => ⟨r.1, r.2.bel k (List.all_eq_true.mp hb x hx)⟩, nl⟩
  | ins C l => obtain ⟨dx, fs, e, c, h⟩ := h; exact ⟨dx, fs, e, c, Paired.impB h fun v x hx r => ⟨r.1, r.2.bel k (List.all_eq_true.mp hb x hx)⟩⟩
  | lk l =>
    rcases h with ⟨ob, kvs, e, h⟩ | ⟨ob, kvs, e, h, nl⟩
    · exact .inl ⟨ob, kvs, e, Paired.impB h fun v x hx r => ⟨r.1, r.2.bel k (List.all_eq_true.mp hb x hx)⟩⟩
    · exact .inr ⟨ob, kvs, e, Paired.impB h fun v x hx r => ⟨r.1, r.2.bel k (List.all_eq_true.mp hb x hx)⟩, nl⟩
  | dead => exact trivial
theorem Paired.mem' {α β : Type} {F : α → β → Prop} {b : β} : ∀ {l : List α} {r : List β}, Paired F l r → b ∈ r → ∃ a, F a b
  | _, _, .nil, h => nomatch h
  | _, _, .cons f t, h => by
    rcases List.mem_cons.mp h with e | h
    · subst e; exact ⟨_, f⟩
    · exact Paired.mem' t h
theorem RpV.lt {v : V} {x : Vl} (r : RpV K ws G v x) : x.below ws.length = true := by
  cases r with
  | d h => rfl
  | mu h => exact decide_eq_true (List.getElem?_eq_some_iff.mp h).1
theorem MAt.lt (h : MAt K ws G H a m) : m.below ws.length = true := by
  cases m with
  | lst l =>
    obtain ⟨vs, e, h⟩ := h
    exact List.all_eq_true.mpr fun x hx => let ⟨_, r⟩ := Paired.mem' h hx; r.lt
  | dct l =>
    rcases h with ⟨kvs, e, h⟩ | ⟨kvs, e, h, _⟩ <;> exact List.all_eq_true.mpr fun x hx => let ⟨_, r⟩ := Paired.mem' h hx; r.2.lt
  | ins C l =>
    obtain ⟨dx, fs, e, c, h⟩ := h
    exact List.all_eq_true.mpr fun x hx => let ⟨_, r⟩ := Paired.mem' h hx; r.2.lt
  | lk l =>
    rcases h with ⟨ob, kvs, e, h⟩ | ⟨ob, kvs, e, h, _⟩ <;> exact List.all_eq_true.mpr fun x hx => let ⟨_, r⟩ := Paired.mem' h hx; r.2.lt
  | dead => rfl
theorem Gr.take (g : Gr ws G H ws' G' H') (hk : ws.length = n) : ws'.take n = ws := by
  obtain ⟨more, e⟩ := g.p
  rw [e, ← hk, List.take_left']
  rfl
theorem Cf.trim (c0 : Cf K TB ws G H W) (g : Gr ws G H ws' G' H') (c : Cf K TB ws' G' H' W') (h : Chk W.length W W') : Cf K TB ws G' H' (W'.take W.length) where
  g := c.g
  len := by
    obtain ⟨more, e⟩ := g.p
    have := c.len
    rw [e, List.length_append] at this
    rw [List.length_take, c0.len] at *
    omega
  nd := c0.nd
  nt := c.nt
  dm := fun a ha => c.dm a (by obtain ⟨more, e⟩ := g.p; rw [e]; exact List.mem_append_left _ ha)
  ob := fun i a m e1 e2 hm => by
    have hi : i < W.length := by rw [← c0.len]; exact (List.getElem?_eq_some_iff.mp e1).1
    rw [List.getElem?_take, if_pos hi] at e2
    obtain ⟨h1, h2⟩ := c.ob i a m (g.at e1) e2 hm
    refine ⟨h1, ?_⟩
    have hb : m.below W.length = true := by
      rcases h i hi with q | ⟨m', q, hb⟩
      · rw [e2] at q
        rw [← c0.len]
        exact (c0.ob i a m e1 q.symm hm).2.lt
      · rw [e2] at q
        cases q
        exact hb
    have z := h2.bel W.length hb
    rw [g.take c0.len] at z
    exact z
  tb := c.tb
theorem Gr.trim (g : Gr ws G H ws' G' H') : Gr ws G H ws G' H' where
  g := g.g
  p := ⟨[], by simp⟩
  fr := g.fr
  fz := g.fz
  nw := fun _ _ _ _ hw => hw
  nf := g.nf
/-- a tuple that stands is taken over -/
theorem Cf.adopt {xs : List V} (c : Cf K TB ws G H W) (e : H p = some (.tup xs)) : Cf K TB ws (upd G p (.tup xs)) H W where
  g := fun b u q => by
    by_cases z : b = p
    · subst z; rw [upd_same] at q; cases q; exact e
    · rw [upd_ne z] at q; exact c.g b u q
  len := c.len
  nd := c.nd
  nt := fun b ps q => by
    by_cases z : b = p
    · subst z; rw [upd_same] at q; cases q
    · rw [upd_ne z] at q; exact c.nt b ps q
  dm := c.dm
  ob := fun i a m e1 e2 hm => by
    obtain ⟨h1, h2⟩ := c.ob i a m e1 e2 hm
    have ne : a ≠ p := by
      rintro rfl
      obtain ⟨u, eu, pu⟩ := h2.plain hm
      rw [e] at eu
      exact pu.2.2 _ (Option.some.inj eu).symm
    refine ⟨by rw [upd_ne ne]; exact h1, h2.to (fun v x r => r.to (.of fun b u q => ?_) fun _ _ z => z) rfl⟩
    by_cases z : b = p
    · subst z
      rw [c.g _ _ q] at e
      cases e
      rw [upd_same]
    · rw [upd_ne z]; exact q
  tb := c.tb
theorem Gr.adopt {xs : List V} (c : Cf K TB ws G H W) (e : H p = some (.tup xs)) : Gr ws G H ws (upd G p (.tup xs)) H where
  g := fun b u q => by
    by_cases z : b = p
    · subst z
      rw [c.g _ _ q] at e
      cases e
      rw [upd_same]
    · rw [upd_ne z]; exact q
  p := ⟨[], by simp⟩
  fr := fun b u q _ _ => q
  fz := fun _ _ _ q => q
  nw := fun _ _ _ _ hw => hw
  nf := fun b u hb hg hw _ => by
    by_cases z : b = p
    · subst z
      rw [e] at hb
      cases hb
      exact .inr ⟨_, rfl⟩
    · exact .inl (by rw [upd_ne z]; exact hg)
open Classical in
/-- a def's end -/
noncomputable def fin (W0 : Ms) (v : Vl) (W : Ms) : Res Vl := if v.below W0.length = true ∧ Chk W0.length W0 W then .ok v (W.take W0.length) else .ok v W
open Classical in
noncomputable def finX {α : Type} (W0 : Ms) (C : Addr) (W : Ms) : Res α := if Chk W0.length W0 W then .exc C (W.take W0.length) else .exc C W
end
end DL

set_option Elab.async false
set_option linter.all false
set_option maxRecDepth 100000
set_option maxHeartbeats 4000000
namespace DL
open PySem L2
/-! ## the parts of expressions -/
abbrev FE := Ev → Ms → Res Vl
abbrev FA := Ev → Ms → Res (List Vl)
abbrev FT := Ev → Ms → Res Bool
abbrev FS := Ev → Ms → Out
abbrev FD := List Vl → Ms → Res Vl
def eVar (i : Nat) : FE := fun ρ W => match ρ[i]? with
  | some (some x) => .ok x W
  | _ => .stuck
def eC (x : D) : FE := fun _ W => .ok (.d x) W
def aNil : FA := fun _ W => .ok [] W
def aCons (f : FE) (g : FA) : FA := fun ρ W => (f ρ W).bind fun x W1 => (g ρ W1).bind fun xs W2 => .ok (x :: xs) W2
def dsOf : List Vl → Option (List D)
  | [] => some []
  | .d x :: l => (dsOf l).map (x :: ·)
  | _ => none
def mkTup (xs : List Vl) (W : Ms) : Res Vl := if xs.length ≤ 1000000 then (match dsOf xs with
  | some l => .ok (.d (.tup l)) W
  | none => .stuck) else .stuck
def mkLst (xs : List Vl) (W : Ms) : Res Vl := if xs.length ≤ 1000000 then (match dsOf xs with
  | some l => .ok (.d (.lst l)) W
  | none => .stuck) else .stuck
def mkLstM (xs : List Vl) (W : Ms) : Res Vl := if xs.length ≤ 1000000 then .ok (.mu W.length) (W ++ [.lst xs]) else .stuck
def eTup (g : FA) : FE := fun ρ W => (g ρ W).bind mkTup
def eLst (g : FA) : FE := fun ρ W => (g ρ W).bind mkLst
def eLstM (g : FA) : FE := fun ρ W => (g ρ W).bind mkLstM
def eDnew : FE := fun _ W => .ok (.d (.dct [])) W
def eDnewM : FE := fun _ W => .ok (.mu W.length) (W ++ [.dct []])
def eOp (g : Ms → Vl → Vl → Res Vl) (fa fb : FE) : FE := fun ρ W => (fa ρ W).bind fun x W1 => (fb ρ W1).bind fun y W2 => g W2 x y
def eUn (g : Ms → Vl → Res Vl) (fa : FE) : FE := fun ρ W => (fa ρ W).bind fun x W1 => g W1 x
def eCB (g : Ms → List Vl → Res Vl) (fs : FA) : FE := fun ρ W => (fs ρ W).bind fun xs W1 => g W1 xs
def eCall (F : FD) (dd : List Vl) (fs : FA) : FE := fun ρ W => (fs ρ W).bind fun xs W1 => F (xs ++ dd) W1
def insOf (W : Ms) : Vl → Option (Addr × List (Str × Vl))
  | .d (.ins C l) => some (C, l.map fun p => (p.1, .d p.2))
  | .mu n => match W[n]? with
    | some (.ins C l) => some (C, l)
    | _ => none
  | _ => none
def fldOf (f : Str) (W : Ms) (x : Vl) : Res Vl := match insOf W x with
  | some (_, l) => (match l.lookup f with
    | some y => .ok y W
    | none => .stuck)
  | none => .stuck
def eFld (f : Str) (fa : FE) : FE := eUn (fldOf f) fa
def isI (C : Addr) (m : Str) (W : Ms) (x : Vl) : Bool := match insOf W x with
  | some (C', l) => C' == C && (l.lookup m).isNone
  | none => false
def eMeth (C : Addr) (m : Str) (F : FD) (dd : List Vl) (fa : FE) (fs : FA) : FE := fun ρ W => (fa ρ W).bind fun x W1 => if isI C m W1 x = true then (fs ρ W1).bind fun xs W2 => F (x :: (xs ++ dd)) W2 else .stuck
def isNon : Vl → Bool
  | .d .non => true
  | _ => false
def eMakeM (C : Addr) (F : FD) (dd : List Vl) (fs : FA) : FE := fun ρ W => (fs ρ W).bind fun xs W1 =>
  (F (.mu W1.length :: (xs ++ dd)) (W1 ++ [.ins C []])).bind fun r W2 => if isNon r = true then .ok (.mu W1.length) W2 else .stuck
def insD : List (Str × Vl) → Option (List (Str × D))
  | [] => some []
  | (f, .d x) :: l => (insD l).map ((f, x) :: ·)
  | _ => none
def frozen : M → Option D
  | .lst l => (dsOf l).map D.lst
  | .dct l => (l.foldr (fun p acc => match p.2, acc with
    | .d x, some r => some ((p.1, x) :: r)
    | _, _ => none) (some [])).map D.dct
  | .ins C l => (insD l).map (D.ins C)
  | _ => none
/-- nobody changes the n-th any more -/
def frz (W : Ms) : Vl → Res Vl
  | .d x => .ok (.d x) W
  | .mu n => match W[n]? with
    | some m => (match frozen m with
      | some x => .ok (.d x) (W.set n .dead)
      | none => .stuck)
    | none => .stuck
open Classical in
/-- the objects made behind the first k are forgotten -/
noncomputable def trimTo (W0 : Ms) (v : Vl) (W : Ms) : Res Vl := fin W0 v W
noncomputable def eMake (C : Addr) (F : FD) (dd : List Vl) (fs : FA) : FE := fun ρ W => (fs ρ W).bind fun xs W1 =>
  (F (.mu W1.length :: (xs ++ dd)) (W1 ++ [.ins C []])).bind fun r W2 => if isNon r = true then (frz W2 (.mu W1.length)).bind fun v W3 => fin W1 v W3 else .stuck
def eIf (c : FT) (a b : FE) : FE := fun ρ W => (c ρ W).bind fun t W1 => if t = true then a ρ W1 else b ρ W1
def blOf : Vl → Option Bool
  | .d (.bl b) => some b
  | _ => none
def eAndV (a b : FE) : FE := fun ρ W => (a ρ W).bind fun x W1 => match blOf x with
  | some t => if t = true then b ρ W1 else .ok (.d (.bl false)) W1
  | none => .stuck
def eOrV (a b : FE) : FE := fun ρ W => (a ρ W).bind fun x W1 => match blOf x with
  | some t => if t = true then .ok (.d (.bl true)) W1 else b ρ W1
  | none => .stuck
def eNotV (a : FE) : FE := eUn (fun W x => match blOf x with
  | some t => .ok (.d (.bl (!t))) W
  | none => .stuck) a
/-- tests -/
def tstV (f : FE) : FT := fun ρ W => (f ρ W).bind fun x W1 => match blOf x with
  | some t => .ok t W1
  | none => .stuck
def tstAnd (a b : FT) : FT := fun ρ W => (a ρ W).bind fun t W1 => if t = true then b ρ W1 else .ok false W1
def tstOr (a b : FT) : FT := fun ρ W => (a ρ W).bind fun t W1 => if t = true then .ok true W1 else b ρ W1
def tstNot (a : FT) : FT := fun ρ W => (a ρ W).bind fun t W1 => .ok (!t) W1
def tstYes : FT := fun _ W => .ok true W

section
variable {K : Fr} {TB : List (Addr × Str)} {E : XK}
abbrev OpD (K : Fr) (TB : List (Addr × Str)) (r : R2) (g : Ms → Vl → Vl → Res Vl) : Prop :=
  ∀ (E : XK) (ws : List Addr) (G H : Hp) (W : Ms) (x y : V) (a b : Vl) (Q : VK), Cf K TB ws G H W → RpV K ws G x a → RpV K ws G y b → Wish K TB (RV K) E ws G H Q (g W a b) → r x y H Q
abbrev UnD (K : Fr) (TB : List (Addr × Str)) (r : V → Hp → VK → Prop) (g : Ms → Vl → Res Vl) : Prop :=
  ∀ (E : XK) (ws : List Addr) (G H : Hp) (W : Ms) (x : V) (a : Vl) (Q : VK), Cf K TB ws G H W → RpV K ws G x a → Wish K TB (RV K) E ws G H Q (g W a) → r x H Q
abbrev CallD (K : Fr) (TB : List (Addr × Str)) (r : List V → Hp → VK → Prop) (g : Ms → List Vl → Res Vl) : Prop :=
  ∀ (E : XK) (ws : List Addr) (G H : Hp) (W : Ms) (xs : List V) (as : List Vl) (Q : VK), Cf K TB ws G H W → RpVs K ws G xs as → Wish K TB (RV K) E ws G H Q (g W as) → r xs H Q
theorem s_var (i : Nat) : SE K TB E (tVar i) (eVar i) := by
  intro σ ws G H ρ W Q e c w
  unfold eVar at w
  cases h : ρ[i]? with
  | none => rw [h] at w; exact w.elim
  | some o =>
    cases o with
    | none => rw [h] at w; exact w.elim
    | some x =>
      rw [h] at w
      obtain ⟨v, hv, r⟩ := e.at h
      exact ⟨v, hv, w.ok c r⟩
theorem s_c {v : V} {x : D} (h : ∀ G, Rp K G v x) : SE K TB E (tC v) (eC x) := fun σ ws G H ρ W Q e c w => w.ok c (.d (h G))
theorem s_int (i : Int) : SE K TB E (tC (.int i)) (eC (.int i)) := s_c fun _ => .int i
theorem s_str (s : Str) : SE K TB E (tC (.str s)) (eC (.str s)) := s_c fun _ => .str s
theorem s_bl (b : Bool) : SE K TB E (tC (.bl b)) (eC (.bl b)) := s_c fun _ => .bl b
theorem s_non : SE K TB E (tC .non) (eC .non) := s_c fun _ => .non
theorem s_anil : SA K TB E tNil aNil := fun σ ws G H ρ W Q e c w => w.ok c .nil
theorem s_acons {ta : TE} {tr : TA} {f : FE} {g : FA} (h : SE K TB E ta f) (k : SA K TB E tr g) : SA K TB E (tCons ta tr) (aCons f g) := by
  intro σ ws G H ρ W Q e c w
  refine h.go (R := RVs K) e c w fun x dx W1 ws1 G1 H1 g1 c1 r1 w1 => ?_
  refine k.go (R := RVs K) (e.up g1) c1 w1 fun xs dxs W2 ws2 G2 H2 g2 c2 r2 w2 => ?_
  exact w2.ok c2 (.cons (g2.rv r1) r2)
theorem dsOf_rp {ws : List Addr} {G : Hp} : ∀ {xs : List V} {as : List Vl} {l : List D}, RpVs K ws G xs as → dsOf as = some l → RpL K G xs l
  | _, _, _, .nil, h => by cases h; exact .nil
  | _, .d x :: as, l, .cons r t, h => by
    cases q : dsOf as with
    | none => simp [dsOf, q] at h
    | some l' =>
      simp [dsOf, q] at h
      subst h
      cases r with
      | d r => exact .cons r (dsOf_rp t q)
  | _, .mu n :: as, l, .cons r t, h => by simp [dsOf] at h
theorem mil {n : Nat} (h : n ≤ 1000000) : n ≤ sizeLine := by rw [sizeLine_eq]; omega
theorem mil' {n : Nat} (h : n ≤ 1000000) : n < sizeLine := by rw [sizeLine_eq]; omega
variable {ws : List Addr} {G H : Hp} {W : Ms} {Q : VK}
theorem mk_tup {xs : List V} {as : List Vl} (c : Cf K TB ws G H W) (r : RpVs K ws G xs as) (w : Wish K TB (RV K) E ws G H Q (mkTup as W)) : xs.length ≤ sizeLine ∧ ∀ p, H p = none → Q (.ref p) (upd H p (.tup xs)) := by
  unfold mkTup at w
  split at w
  · rename_i hl
    cases q : dsOf as with
    | none => rw [q] at w; exact w.elim
    | some l =>
      rw [q] at w
      refine ⟨mil (by rw [Paired.length r]; exact hl), fun p hp => w _ ws _ _ (Gr.new c hp) (c.new hp) (.d (.tup upd_same ?_))⟩
      exact (dsOf_rp r q).to (.of (same_upd (c.gn hp)))
  · exact w.elim
theorem mk_lst {xs : List V} {as : List Vl} (c : Cf K TB ws G H W) (r : RpVs K ws G xs as) (w : Wish K TB (RV K) E ws G H Q (mkLst as W)) : xs.length ≤ sizeLine ∧ ∀ p, H p = none → Q (.ref p) (upd H p (.lst xs)) := by
  unfold mkLst at w
  split at w
  · rename_i hl
    cases q : dsOf as with
    | none => rw [q] at w; exact w.elim
    | some l =>
      rw [q] at w
      refine ⟨mil (by rw [Paired.length r]; exact hl), fun p hp => w _ ws _ _ (Gr.new c hp) (c.new hp) (.d (.lst upd_same ?_))⟩
      exact (dsOf_rp r q).to (.of (same_upd (c.gn hp)))
  · exact w.elim
theorem at_end {l : List Addr} {p : Addr} {n : Nat} (h : l.length = n) : (l ++ [p])[n]? = some p := by
  rw [List.getElem?_append_right (by omega), h, Nat.sub_self]; rfl
theorem mk_lstM {xs : List V} {as : List Vl} (c : Cf K TB ws G H W) (r : RpVs K ws G xs as) (w : Wish K TB (RV K) E ws G H Q (mkLstM as W)) : xs.length ≤ sizeLine ∧ ∀ p, H p = none → Q (.ref p) (upd H p (.lst xs)) := by
  unfold mkLstM at w
  split at w
  · rename_i hl
    refine ⟨mil (by rw [Paired.length r]; exact hl), fun p hp => w _ _ _ _ (Gr.newM c hp) (c.newM hp ⟨_, upd_same, ?_⟩) (.mu (at_end c.len))⟩
    exact (Gr.newM (o := .lst xs) c hp).rvs r
  · exact w.elim
theorem s_tup {t : TA} {g : FA} (h : SA K TB E t g) : SE K TB E (tTup t) (eTup g) := by
  intro σ ws G H ρ W Q e c w
  exact h.go (R := RV K) e c w fun xs as W1 ws1 G1 H1 g1 c1 r1 w1 => mk_tup c1 r1 w1
theorem s_lst {t : TA} {g : FA} (h : SA K TB E t g) : SE K TB E (tLst t) (eLst g) := by
  intro σ ws G H ρ W Q e c w
  exact h.go (R := RV K) e c w fun xs as W1 ws1 G1 H1 g1 c1 r1 w1 => mk_lst c1 r1 w1
theorem s_lstM {t : TA} {g : FA} (h : SA K TB E t g) : SE K TB E (tLst t) (eLstM g) := by
  intro σ ws G H ρ W Q e c w
  exact h.go (R := RV K) e c w fun xs as W1 ws1 G1 H1 g1 c1 r1 w1 => mk_lstM c1 r1 w1
theorem s_dnew : SE K TB E tDNewK eDnew := fun σ ws G H ρ W Q e c w p hp => w _ ws _ _ (Gr.new c hp) (c.new hp) (.d (.dct (.inl upd_same) .nil))
theorem s_dnewM : SE K TB E tDNewK eDnewM := fun σ ws G H ρ W Q e c w p hp => w _ _ _ _ (Gr.newM c hp) (c.newM hp (.inl ⟨_, upd_same, .nil⟩)) (.mu (at_end c.len))
theorem s_op {ta tb : TE} {fa fb : FE} {r : R2} {g : Ms → Vl → Vl → Res Vl} (hg : OpD K TB r g) (ha : SE K TB E ta fa) (hb : SE K TB E tb fb) : SE K TB E (tOp r ta tb) (eOp g fa fb) := by
  intro σ ws G H ρ W Q e c w
  refine ha.go (R := RV K) e c w fun x dx W1 ws1 G1 H1 g1 c1 r1 w1 => ?_
  refine hb.go (R := RV K) (e.up g1) c1 w1 fun y dy W2 ws2 G2 H2 g2 c2 r2 w2 => ?_
  exact hg E _ _ _ _ _ _ _ _ _ c2 (g2.rv r1) r2 w2
theorem s_un {ta : TE} {fa : FE} {r : V → Hp → VK → Prop} {g : Ms → Vl → Res Vl} (hg : UnD K TB r g) (ha : SE K TB E ta fa) : SE K TB E (tUn r ta) (eUn g fa) := by
  intro σ ws G H ρ W Q e c w
  exact ha.go (R := RV K) e c w fun x dx W1 ws1 G1 H1 g1 c1 r1 w1 => hg E _ _ _ _ _ _ _ c1 r1 w1
theorem s_cb {t : TA} {fs : FA} {r : List V → Hp → VK → Prop} {g : Ms → List Vl → Res Vl} (hg : CallD K TB r g) (ha : SA K TB E t fs) : SE K TB E (tCB r t) (eCB g fs) := by
  intro σ ws G H ρ W Q e c w
  exact ha.go (R := RV K) e c w fun x dx W1 ws1 G1 H1 g1 c1 r1 w1 => hg E _ _ _ _ _ _ _ c1 r1 w1
abbrev DvOk (K : Fr) (dvs : List V) (dd : List Vl) : Prop := ∀ ws G, RpVs K ws G dvs dd
theorem dv_nil : DvOk K [] [] := fun _ _ => .nil
theorem s_call {F : FD} {dvs : List V} {dd : List Vl} {t : TA} {fs : FA} (hd : DvOk K dvs dd) (ha : SA K TB E t fs) : SE K TB E (tCall (spD K TB F) dvs E t) (eCall F dd fs) := by
  intro σ ws G H ρ W Q e c w
  exact ha.go (R := RV K) e c w fun xs as W1 ws1 G1 H1 g1 c1 r1 w1 => ⟨ws1, G1, W1, _, c1, Paired.app r1 (hd ws1 G1), w1⟩
theorem RpF.vf {ws : List Addr} : ∀ {fs : List (Str × V)} {l : List (Str × D)}, RpF K G fs l → RpVF K ws G fs (l.map fun p => (p.1, .d p.2))
  | _, _, .nil => .nil
  | _, _, .cons h t => .cons ⟨rfl, .d h⟩ (RpF.vf t)
theorem ins_at {v : V} {x : Vl} {C : Addr} {l : List (Str × Vl)} (c : Cf K TB ws G H W) (r : RpV K ws G v x) (h : insOf W x = some (C, l)) :
    ∃ a dx fs, v = .ref a ∧ H a = some (.ins C dx fs) ∧ ClsF K C (fs.map (·.1)) ∧ RpVF K ws G fs l := by
  cases r with
  | d r =>
    cases r with
    | ins e k rf =>
      simp only [insOf, Option.some.injEq, Prod.mk.injEq] at h
      obtain ⟨rfl, rfl⟩ := h
      exact ⟨_, _, _, rfl, c.g _ _ e, k, rf.vf⟩
    | _ => simp [insOf] at h
  | @mu a n e =>
    simp only [insOf] at h
    cases q : W[n]? with
    | none => rw [q] at h; cases h
    | some m =>
      rw [q] at h
      cases m with
      | ins C' l' =>
        simp only [Option.some.injEq, Prod.mk.injEq] at h
        obtain ⟨rfl, rfl⟩ := h
        obtain ⟨_, dx, fs, e1, k, rf⟩ := c.ob n a _ e q (by simp)
        exact ⟨a, dx, fs, rfl, e1, k, rf⟩
      | _ => cases h
theorem lookup_vf {f : Str} : ∀ {fs : List (Str × V)} {l : List (Str × Vl)}, RpVF K ws G fs l → (l.lookup f = none → fs.lookup f = none) ∧ ∀ y, l.lookup f = some y → ∃ v, fs.lookup f = some v ∧ RpV K ws G v y ∧ f ∈ fs.map (·.1)
  | _, _, .nil => ⟨fun _ => rfl, fun y h => by simp at h⟩
  | (f1, v1) :: fs, (f2, y2) :: l, .cons ⟨h1, h2⟩ t => by
    obtain ⟨i1, i2⟩ := lookup_vf (f := f) t
    obtain rfl : f2 = f1 := h1
    by_cases e : f = f2
    · subst e
      refine ⟨fun h => by simp [List.lookup] at h, fun y h => ⟨v1, by simp [List.lookup], ?_, by simp⟩⟩
      simp [List.lookup] at h
      subst h
      exact h2
    · have eb : (f == f2) = false := beq_eq_false_iff_ne.mpr e
      refine ⟨fun h => ?_, fun y h => ?_⟩
      · simp only [List.lookup, eb] at h ⊢
        exact i1 h
      · simp only [List.lookup, eb] at h ⊢
        obtain ⟨v, q1, q2, q3⟩ := i2 y h
        exact ⟨v, q1, q2, by simp; right; simpa using q3⟩
theorem s_fld {ta : TE} {fa : FE} {f : Str} (ha : SE K TB E ta fa) : SE K TB E (tFld K.K ta f) (eFld f fa) := by
  intro σ ws G H ρ W Q e c w
  refine ha.go (R := RV K) e c w fun x dx W1 ws1 G1 H1 g1 c1 r1 w1 => ?_
  unfold fldOf at w1
  cases q : insOf W1 dx with
  | none => rw [q] at w1; exact w1.elim
  | some p =>
    obtain ⟨C, l⟩ := p
    rw [q] at w1
    obtain ⟨a, d, fs, rfl, h1, k, rf⟩ := ins_at c1 r1 q
    simp only at w1
    cases z : l.lookup f with
    | none => rw [z] at w1; exact w1.elim
    | some y =>
      rw [z] at w1
      obtain ⟨v, e1, r2, hf⟩ := (lookup_vf rf).2 y z
      exact ⟨a, C, d, fs, v, rfl, h1, k.cl, k.no f hf, e1, w1.ok c1 r2⟩
theorem s_meth {ta : TE} {fa : FE} {C : Addr} {m : Str} {F : FD} {dvs : List V} {dd : List Vl} {t : TA} {fs : FA} (hd : DvOk K dvs dd) (ha : SE K TB E ta fa) (hs : SA K TB E t fs) : SE K TB E (tMeth C m (spD K TB F) dvs E ta t) (eMeth C m F dd fa fs) := by
  intro σ ws G H ρ W Q e c w
  refine ha.go (R := RV K) e c w fun x dx W1 ws1 G1 H1 g1 c1 r1 w1 => ?_
  split at w1
  · rename_i hi
    unfold isI at hi
    cases q : insOf W1 dx with
    | none => rw [q] at hi; cases hi
    | some p =>
      obtain ⟨C', l⟩ := p
      rw [q] at hi
      simp only [Bool.and_eq_true, beq_iff_eq, Option.isNone_iff_eq_none] at hi
      obtain ⟨rfl, hn⟩ := hi
      obtain ⟨a, d, fs', rfl, h1, k, rf⟩ := ins_at c1 r1 q
      refine ⟨a, d, fs', rfl, h1, (lookup_vf rf).1 hn, ?_⟩
      refine hs.go (R := RV K) (e.up g1) c1 w1 fun xs as W2 ws2 G2 H2 g2 c2 r2 w2 => ?_
      exact ⟨ws2, G2, W2, _, c2, .cons (g2.rv r1) (Paired.app r2 (hd ws2 G2)), w2⟩
  · exact w1.elim
theorem isNon_rp {v : V} {x : Vl} (r : RpV K ws G v x) (h : isNon x = true) : v = .non := by
  cases r with
  | d r => cases r <;> first | rfl | cases h
  | mu _ => cases h
/-- a new instance and its dict -/
theorem make_at (cl : L2.Cls K.K C) (c : Cf K TB ws G H W) {x dx : Addr} (nx : H x = none) (nd : H dx = none) (ne : dx ≠ x) :
    Gr ws G H (ws ++ [x]) G (upd (upd H dx (.own x)) x (.ins C dx [])) ∧ Cf K TB (ws ++ [x]) G (upd (upd H dx (.own x)) x (.ins C dx [])) (W ++ [.ins C []]) := by
  have nx' : upd H dx (.own x) x = none := by rw [upd_ne (Ne.symm ne)]; exact nx
  have c1 := c.junk (o := .own x) nd
  exact ⟨(Gr.junk nd).trans (Gr.newM c1 nx'), c1.newM nx' ⟨dx, [], upd_same, ⟨cl, fun f hf => nomatch hf⟩, .nil⟩⟩
theorem s_makeM {C : Addr} {F : FD} {dvs : List V} {dd : List Vl} {t : TA} {fs : FA} (cl : L2.Cls K.K C) (hd : DvOk K dvs dd) (hs : SA K TB E t fs) : SE K TB E (tMake C (spD K TB F) dvs E t) (eMakeM C F dd fs) := by
  intro σ ws G H ρ W Q e c w
  refine hs.go (R := RV K) e c w fun xs as W1 ws1 G1 H1 g1 c1 r1 w1 => fun x dx nx nd ne => ?_
  obtain ⟨g2, c2⟩ := make_at cl c1 nx nd ne
  refine ⟨_, _, _, _, c2, .cons (.mu (at_end c1.len)) (Paired.app (g2.rvs r1) (hd _ _)), ?_⟩
  cases q : F (.mu W1.length :: (as ++ dd)) (W1 ++ [.ins C []]) with
  | stuck => rw [q] at w1; exact w1
  | exc C' W2 => rw [q] at w1; exact Wish.up (R := RV K) (Q := Q) w1 g2
  | ok r W2 =>
    rw [q] at w1
    intro v ws3 G3 H3 g3 c3 r3
    rw [Res.bind_ok] at w1
    split at w1
    · rename_i hn
      exact ⟨isNon_rp r3 hn, w1 _ _ _ _ (g2.trans g3) c3 (.mu (g3.at (at_end c1.len)))⟩
    · exact w1.elim
theorem dsOf_len {as : List Vl} {l : List D} (h : dsOf as = some l) : as = l.map Vl.d := by
  induction as generalizing l with
  | nil => cases h; rfl
  | cons a as ih =>
    cases a with
    | mu n => simp [dsOf] at h
    | d x =>
      cases q : dsOf as with
      | none => simp [dsOf, q] at h
      | some l' =>
        simp [dsOf, q] at h
        subst h
        rw [List.map_cons, ← ih q]
theorem insD_rp {fs : List (Str × V)} {l : List (Str × Vl)} (r : RpVF K ws G fs l) : ∀ {l' : List (Str × D)}, insD l = some l' → RpF K G fs l' := by
  induction r with
  | nil => intro l' h; cases h; exact .nil
  | @cons p q fs l h t ih =>
    intro l' hl
    obtain ⟨f, x⟩ := q
    obtain ⟨f1, v⟩ := p
    obtain ⟨h1, h2⟩ := h
    obtain rfl : f = f1 := h1
    cases x with
    | mu n => simp [insD] at hl
    | d x =>
      cases q : insD l with
      | none => simp [insD, q] at hl
      | some l2 =>
        simp [insD, q] at hl
        subst hl
        cases h2 with
        | d h2 => exact .cons h2 (ih q)
def dctD : List (D × Vl) → Option (List (D × D)) := fun l => l.foldr (fun p acc => match p.2, acc with
    | .d x, some r => some ((p.1, x) :: r)
    | _, _ => none) (some [])
theorem dctK_rp {fs : List (Key × V)} {l : List (D × Vl)} (r : RpVK K ws G fs l) : ∀ {l' : List (D × D)}, dctD l = some l' → RpK K G fs l' := by
  induction r with
  | nil => intro l' h; cases h; exact .nil
  | @cons p q fs l h t ih =>
    intro l' hl
    obtain ⟨f, x⟩ := q
    obtain ⟨f1, v⟩ := p
    obtain ⟨h1, h2⟩ := h
    obtain rfl : f = kD f1 := h1
    cases x with
    | mu n => simp [dctD] at hl
    | d x =>
      cases q : dctD l with
      | none =>
        have q' := q
        unfold dctD at q' hl
        rw [List.foldr_cons, q'] at hl
        cases hl
      | some l2 =>
        have q' := q
        unfold dctD at q' hl
        rw [List.foldr_cons, q'] at hl
        cases hl
        cases h2 with
        | d h2 => exact .cons h2 (ih q)
theorem dctN_rp {fs : List (NestedKey × Addr × V)} {l : List (D × Vl)} (r : RpVN K ws G fs l) : ∀ {l' : List (D × D)}, dctD l = some l' → RpN K G fs l' := by
  induction r with
  | nil => intro l' h; cases h; exact .nil
  | @cons p q fs l h t ih =>
    intro l' hl
    obtain ⟨f, x⟩ := q
    obtain ⟨f1, b, v⟩ := p
    obtain ⟨⟨h0, h1, h3⟩, h2⟩ := h
    cases x with
    | mu n => simp [dctD] at hl
    | d x =>
      cases q : dctD l with
      | none =>
        have q' := q
        unfold dctD at q' hl
        rw [List.foldr_cons, q'] at hl
        cases hl
      | some l2 =>
        have q' := q
        unfold dctD at q' hl
        rw [List.foldr_cons, q'] at hl
        cases hl
        cases h2 with
        | d h2 => exact .cons h0 h1 h3 h2 (ih q)
theorem dctD_ne {l : List (D × Vl)} (h : l ≠ []) {l' : List (D × D)} (e : dctD l = some l') : l' ≠ [] := by
  cases l with
  | nil => exact absurd rfl h
  | cons p l =>
    unfold dctD at e
    rw [List.foldr_cons] at e
    split at e
    · cases e; exact List.cons_ne_nil _ _
    · cases e
/-- the same value, now never changed any more -/
theorem frz_ok {v : V} {x : Vl} (c : Cf K TB ws G H W) (r : RpV K ws G v x) (w : Wish K TB (RV K) E ws G H Q (frz W x)) : Q v H := by
  cases r with
  | d r => exact w.ok c (.d r)
  | @mu a n e =>
    simp only [frz] at w
    cases q : W[n]? with
    | none => rw [q] at w; exact w.elim
    | some m =>
      rw [q] at w
      simp only at w
      cases z : frozen m with
      | none => rw [z] at w; exact w.elim
      | some y =>
        rw [z] at w
        have hd : m ≠ .dead := by rintro rfl; simp [frozen] at z
        obtain ⟨hg, hm⟩ := c.ob n a m e q hd
        have fin : ∀ o, H a = some o → Rp K (upd G a o) (.ref a) y → Q (.ref a) H := fun o eo rp => w _ _ _ _ (Gr.freeze c e q hd) (c.freeze e q hd eo) (.d rp)
        have up : ∀ o, Rds K G (upd G a o) := fun o => .of (same_upd hg)
        cases m with
        | lst l =>
          obtain ⟨vs, e1, rv⟩ := hm
          simp only [frozen] at z
          cases k : dsOf l with
          | none => rw [k] at z; cases z
          | some l' =>
            rw [k] at z
            cases z
            exact fin _ e1 (.lst upd_same ((dsOf_rp rv k).to (up _)))
        | dct l =>
          simp only [frozen] at z
          cases k : dctD l with
          | none =>
            have k' := k
            unfold dctD at k'
            rw [k'] at z
            cases z
          | some l' =>
            have k' := k
            unfold dctD at k'
            rw [k'] at z
            cases z
            rcases hm with ⟨kvs, e1, rv⟩ | ⟨kvs, e1, rv, nl⟩
            · exact fin _ e1 (.dct (.inl upd_same) ((dctK_rp rv k).to (up _)))
            · exact fin _ e1 (.dcN (.inl upd_same) (dctD_ne nl k) ((dctN_rp rv k).to (up _)))
        | ins C l =>
          obtain ⟨dx, fs, e1, k1, rv⟩ := hm
          simp only [frozen] at z
          cases k : insD l with
          | none => rw [k] at z; cases z
          | some l' =>
            rw [k] at z
            cases z
            exact fin _ e1 (.ins upd_same k1 ((insD_rp rv k).to (up _)))
        | lk l => simp [frozen] at z
        | dead => simp [frozen] at z
theorem s_frz {ta : TE} {fa : FE} (ha : SE K TB E ta fa) : SE K TB E ta (eUn frz fa) := by
  intro σ ws G H ρ W Q e c w
  exact ha.go (R := RV K) e c w fun x dx W1 ws1 G1 H1 g1 c1 r1 w1 => frz_ok c1 r1 w1
/-- behind a call: what it made on the way is forgotten -/
theorem fin_ok {ws1 : List Addr} {G1 H1 : Hp} {W1 : Ms} {v : V} {x : Vl} (c : Cf K TB ws G H W) (g : Gr ws G H ws1 G1 H1) (c1 : Cf K TB ws1 G1 H1 W1) (r : RpV K ws1 G1 v x) (w : Wish K TB (RV K) E ws G H Q (fin W x W1)) : Q v H1 := by
  unfold fin at w
  split at w
  · rename_i h
    refine w _ _ _ _ g.trim (Cf.trim c g c1 h.2) ?_
    have z := r.bel W.length h.1
    rw [g.take c.len] at z
    exact z
  · exact w _ _ _ _ g c1 r
theorem finX_ok {α β : Type} {R : List Addr → Hp → Hp → β → α → Prop} {Q : β → Hp → Prop} {ws1 : List Addr} {G1 H1 : Hp} {W1 : Ms} {C : Addr} (c : Cf K TB ws G H W) (g : Gr ws G H ws1 G1 H1) (c1 : Cf K TB ws1 G1 H1 W1) (w : Wish K TB R E ws G H Q (finX W C W1)) : E (.ref C) none H1 := by
  unfold finX at w
  split at w
  · rename_i h
    exact w _ _ _ g.trim (Cf.trim c g c1 h)
  · exact w _ _ _ g c1
theorem s_make {C : Addr} {F : FD} {dvs : List V} {dd : List Vl} {t : TA} {fs : FA} (cl : L2.Cls K.K C) (hd : DvOk K dvs dd) (hs : SA K TB E t fs) : SE K TB E (tMake C (spD K TB F) dvs E t) (eMake C F dd fs) := by
  intro σ ws G H ρ W Q e c w
  refine hs.go (R := RV K) e c w fun xs as W1 ws1 G1 H1 g1 c1 r1 w1 => fun x dx nx nd ne => ?_
  obtain ⟨g2, c2⟩ := make_at cl c1 nx nd ne
  refine ⟨_, _, _, _, c2, .cons (.mu (at_end c1.len)) (Paired.app (g2.rvs r1) (hd _ _)), ?_⟩
  cases q : F (.mu W1.length :: (as ++ dd)) (W1 ++ [.ins C []]) with
  | stuck => rw [q] at w1; exact w1
  | exc C' W2 => rw [q] at w1; exact Wish.up (R := RV K) (Q := Q) w1 g2
  | ok r W2 =>
    rw [q] at w1
    intro v ws3 G3 H3 g3 c3 r3
    rw [Res.bind_ok] at w1
    split at w1
    · rename_i hn
      refine ⟨isNon_rp r3 hn, ?_⟩
      refine frz_ok (Q := Q) (E := E) c3 (.mu (g3.at (at_end c1.len))) ?_
      cases z : frz W2 (.mu W1.length) with
      | stuck => rw [z] at w1; exact w1
      | exc C' W3 => rw [z] at w1; exact Wish.up (R := RV K) (Q := Q) w1 (g2.trans g3)
      | ok y W3 =>
        rw [z] at w1
        intro b ws4 G4 H4 g4 c4 r4
        exact fin_ok c1 ((g2.trans g3).trans g4) c4 r4 w1
    · exact w1.elim
theorem s_if {tc : TT} {ta tb : TE} {fc : FT} {fa fb : FE} (hc : ST K TB E tc fc) (ha : SE K TB E ta fa) (hb : SE K TB E tb fb) : SE K TB E (tIf tc ta tb) (eIf fc fa fb) := by
  intro σ ws G H ρ W Q e c w
  refine hc.go (R := RV K) e c w fun t b W1 ws1 G1 H1 g1 c1 r1 w1 => ?_
  obtain rfl : t = b := r1
  cases t
  · exact hb _ _ _ _ _ _ _ (e.up g1) c1 w1
  · exact ha _ _ _ _ _ _ _ (e.up g1) c1 w1
theorem blOf_rp {v : V} {x : Vl} {t : Bool} (r : RpV K ws G v x) (h : blOf x = some t) : v = .bl t := by
  cases r with
  | d r => cases r <;> first | (cases h; rfl) | cases h
  | mu _ => cases h
theorem s_andV {ta tb : TE} {fa fb : FE} (ha : SE K TB E ta fa) (hb : SE K TB E tb fb) : SE K TB E (tAndV ta tb) (eAndV fa fb) := by
  intro σ ws G H ρ W Q e c w
  refine ha.go (R := RV K) e c w fun x dx W1 ws1 G1 H1 g1 c1 r1 w1 => ?_
  cases q : blOf dx with
  | none => rw [q] at w1; exact w1.elim
  | some t =>
    rw [q] at w1
    refine ⟨t, blOf_rp r1 q, ?_⟩
    cases t
    · exact Wish.ok (R := RV K) w1 c1 (.d (.bl false))
    · exact hb _ _ _ _ _ _ _ (e.up g1) c1 w1
theorem s_orV {ta tb : TE} {fa fb : FE} (ha : SE K TB E ta fa) (hb : SE K TB E tb fb) : SE K TB E (tOrV ta tb) (eOrV fa fb) := by
  intro σ ws G H ρ W Q e c w
  refine ha.go (R := RV K) e c w fun x dx W1 ws1 G1 H1 g1 c1 r1 w1 => ?_
  cases q : blOf dx with
  | none => rw [q] at w1; exact w1.elim
  | some t =>
    rw [q] at w1
    refine ⟨t, blOf_rp r1 q, ?_⟩
    cases t
    · exact hb _ _ _ _ _ _ _ (e.up g1) c1 w1
    · exact Wish.ok (R := RV K) w1 c1 (.d (.bl true))
theorem s_notV {ta : TE} {fa : FE} (ha : SE K TB E ta fa) : SE K TB E (tNotV ta) (eNotV fa) := by
  intro σ ws G H ρ W Q e c w
  refine ha.go (R := RV K) e c w fun x dx W1 ws1 G1 H1 g1 c1 r1 w1 => ?_
  cases q : blOf dx with
  | none => simp only [q] at w1; exact w1.elim
  | some t =>
    simp only [q] at w1
    exact ⟨t, blOf_rp r1 q, Wish.ok (R := RV K) w1 c1 (.d (.bl (!t)))⟩
theorem s_tst {ta : TE} {fa : FE} (ha : SE K TB E ta fa) : ST K TB E (tTest ta) (tstV fa) := by
  intro σ ws G H ρ W Q e c w
  refine ha.go e c w fun x dx W1 ws1 G1 H1 g1 c1 r1 w1 => ?_
  cases q : blOf dx with
  | none => rw [q] at w1; exact w1.elim
  | some t =>
    rw [q] at w1
    exact ⟨t, blOf_rp r1 q, w1.ok c1 rfl⟩
theorem s_tstB {ta : TE} {fa : FE} (ha : SE K TB E ta fa) : ST K TB E (tB ta) (tstV fa) := by
  intro σ ws G H ρ W Q e c w
  refine ha.go e c w fun x dx W1 ws1 G1 H1 g1 c1 r1 w1 => ?_
  cases q : blOf dx with
  | none => rw [q] at w1; exact w1.elim
  | some t =>
    rw [q] at w1
    exact ⟨t, blOf_rp r1 q, w1.ok c1 rfl⟩
theorem s_and {ta tb : TT} {fa fb : FT} (ha : ST K TB E ta fa) (hb : ST K TB E tb fb) : ST K TB E (tAnd ta tb) (tstAnd fa fb) := by
  intro σ ws G H ρ W Q e c w
  refine ha.go e c w fun x dx W1 ws1 G1 H1 g1 c1 r1 w1 => ?_
  obtain rfl : x = dx := r1
  cases x
  · exact w1.ok c1 rfl
  · exact hb _ _ _ _ _ _ _ (e.up g1) c1 w1
theorem s_or {ta tb : TT} {fa fb : FT} (ha : ST K TB E ta fa) (hb : ST K TB E tb fb) : ST K TB E (tOr ta tb) (tstOr fa fb) := by
  intro σ ws G H ρ W Q e c w
  refine ha.go e c w fun x dx W1 ws1 G1 H1 g1 c1 r1 w1 => ?_
  obtain rfl : x = dx := r1
  cases x
  · exact hb _ _ _ _ _ _ _ (e.up g1) c1 w1
  · exact w1.ok c1 rfl
theorem s_not {ta : TT} {fa : FT} (ha : ST K TB E ta fa) : ST K TB E (tNot ta) (tstNot fa) := by
  intro σ ws G H ρ W Q e c w
  refine ha.go e c w fun x dx W1 ws1 G1 H1 g1 c1 r1 w1 => ?_
  obtain rfl : x = dx := r1
  exact w1.ok c1 rfl
theorem s_yes : ST K TB E tYes tstYes := fun σ ws G H ρ W Q e c w => w.ok c rfl
end
end DL

set_option Elab.async false
set_option linter.all false
set_option maxRecDepth 100000
set_option maxHeartbeats 4000000
namespace DL
open PySem L2 PyProof.Rows
/-! ## statements -/
def sNil : FS := fun ρ W => .nx ρ W
def sSeq (f g : FS) : FS := fun ρ W => match f ρ W with
  | .nx ρ1 W1 => g ρ1 W1
  | o => o
def sBreak : FS := fun ρ W => .bk ρ W
def sCont : FS := fun ρ W => .ct ρ W
def sExpr (f : FE) : FS := fun ρ W => (f ρ W).bindS fun _ W1 => .nx ρ W1
def sRet (f : FE) : FS := fun ρ W => (f ρ W).bindS fun v W1 => .rt v W1
def sRetN : FS := fun _ W => .rt (.d .non) W
def sIf (c : FT) (a b : FS) : FS := fun ρ W => (c ρ W).bindS fun t W1 => if t = true then a ρ W1 else b ρ W1
abbrev FG := Vl → Ev → Option Ev
abbrev FGs := List Vl → Ev → Option Ev
def gN (i : Nat) : FG := fun x ρ => some (ρ.set i (some x))
def gsNil : FGs := fun xs ρ => match xs with
  | [] => some ρ
  | _ => none
def gsCons (g : FG) (gs : FGs) : FGs := fun xs ρ => match xs with
  | x :: r => (g x ρ).bind fun ρ1 => gs r ρ1
  | [] => none
def tupOf : Vl → Option (List D)
  | .d (.tup l) => some l
  | .d (.tupK l) => some l
  | _ => none
def gT (n : Nat) (gs : FGs) : FG := fun x ρ => match tupOf x with
  | some l => if l.length = n then gs (l.map Vl.d) ρ else none
  | none => none
def sAsg (f : FE) (g : FG) : FS := fun ρ W => (f ρ W).bindS fun x W1 => match g x ρ with
  | some ρ1 => .nx ρ1 W1
  | none => .stuck
def sSet (i : Nat) (f : FE) : FS := fun ρ W => (f ρ W).bindS fun x W1 => .nx (ρ.set i (some x)) W1
/-- a, b, .. = x, y, ..: the pair itself is forgotten -/
def sAsgT (n : Nat) (fs : FA) (gs : FGs) : FS := fun ρ W => (fs ρ W).bindS fun xs W1 => if xs.length = n ∧ n ≤ 1000 then (match gs xs ρ with
  | some ρ1 => .nx ρ1 W1
  | none => .stuck) else .stuck
def sAug (i : Nat) (g : Ms → Vl → Vl → Res Vl) (f : FE) : FS := fun ρ W => match ρ[i]? with
  | some (some x) => (f ρ W).bindS fun y W1 => (g W1 x y).bindS fun z W2 => .nx (ρ.set i (some z)) W2
  | _ => .stuck
def sRaise (C : Addr) (f : FE) : FS := fun ρ W => (f ρ W).bindS fun _ W1 => .exc C W1
def sNever : FS := fun _ _ => .stuck
def putV {α : Type} (f : Str) (y : α) : List (Str × α) → List (Str × α)
  | [] => [(f, y)]
  | (g, x) :: r => if g = f then (g, y) :: r else (g, x) :: putV f y r
def setFld (C : Addr) (f : Str) (W : Ms) (y x : Vl) : Option Ms := match x with
  | .mu n => (match W[n]? with
    | some (.ins C' l) => if C' = C ∧ l.length < 1000 then some (W.set n (.ins C' (putV f y l))) else none
    | _ => none)
  | _ => none
def sFldSet (C : Addr) (f : Str) (fx fy : FE) : FS := fun ρ W => (fy ρ W).bindS fun y W1 => (fx ρ W1).bindS fun x W2 => match setFld C f W2 y x with
  | some W3 => .nx ρ W3
  | none => .stuck
/-- what a loop walks -/
structure Itm where
  xs : List Vl
  kp : Ms → Prop
abbrev FI := Ev → Ms → Res Itm
open Classical in
noncomputable def forL (kp : Ms → Prop) (fg : FG) (b : FS) : List Vl → Ev → Ms → Out
  | [], ρ, W => if kp W then .nx ρ W else .stuck
  | x :: xs, ρ, W => if kp W then (match fg x ρ with
    | some ρ1 => (match b ρ1 W with
      | .nx ρ2 W2 => forL kp fg b xs ρ2 W2
      | .ct ρ2 W2 => forL kp fg b xs ρ2 W2
      | .bk ρ2 W2 => .nx ρ2 W2
      | .rt v W2 => .rt v W2
      | .exc C W2 => .exc C W2
      | .stuck => .stuck)
    | none => .stuck) else .stuck
noncomputable def sFor (fi : FI) (fg : FG) (b : FS) : FS := fun ρ W => (fi ρ W).bindS fun it W1 => forL it.kp fg b it.xs ρ W1
open Classical in
noncomputable def lcL (kp : Ms → Prop) (fg : FG) (t : FT) (f : FE) (ρ : Ev) : List Vl → Ms → Res (List Vl)
  | [], W => if kp W then .ok [] W else .stuck
  | x :: xs, W => if kp W then (match fg x ρ with
    | some ρ1 => (t ρ1 W).bind fun b W1 => if b = true then (f ρ1 W1).bind fun y W2 => (lcL kp fg t f ρ xs W2).bind fun ys W3 => .ok (y :: ys) W3 else lcL kp fg t f ρ xs W1
    | none => .stuck) else .stuck
noncomputable def lcB (fg : FG) (t : FT) (f : FE) (vs : List Nat) (ρ : Ev) (it : Itm) (W1 : Ms) : Res (List Vl) := if it.xs.length ≤ 1000000 then lcL it.kp fg t f (wipeE ρ vs) it.xs W1 else .stuck
noncomputable def lcA (fi : FI) (fg : FG) (t : FT) (f : FE) (vs : List Nat) : FA := fun ρ W => (fi ρ W).bind (lcB fg t f vs ρ)
noncomputable def eLc (fi : FI) (fg : FG) (t : FT) (f : FE) (vs : List Nat) : FE := fun ρ W => (lcA fi fg t f vs ρ W).bind mkLst
noncomputable def eLcM (fi : FI) (fg : FG) (t : FT) (f : FE) (vs : List Nat) : FE := fun ρ W => (lcA fi fg t f vs ρ W).bind mkLstM
/-- while: at most n turns -/
def whl (c : FT) (b : FS) : Nat → Ev → Ms → Out
  | 0, _, _ => .stuck
  | n + 1, ρ, W => (c ρ W).bindS fun t W1 => if t = true then (match b ρ W1 with
      | .nx ρ2 W2 => whl c b n ρ2 W2
      | .ct ρ2 W2 => whl c b n ρ2 W2
      | .bk ρ2 W2 => .nx ρ2 W2
      | .rt v W2 => .rt v W2
      | .exc C W2 => .exc C W2
      | .stuck => .stuck) else .nx ρ W1
def sWhile (n : Nat) (c : FT) (b : FS) : FS := whl c b n
def startE (nn : Nat) (ds : List Vl) : Ev := ds.map some ++ List.replicate (nn - ds.length) none
noncomputable def runB (np nn : Nat) (b : FS) : FD := fun ds W => if ds.length = np then (match b (startE nn ds) W with
  | .nx _ W' => fin W (.d .non) W'
  | .rt v W' => fin W v W'
  | .exc C W' => finX W C W'
  | _ => .stuck) else .stuck
/-- a def that makes nothing that changes -/
def run0 (np nn : Nat) (b : FS) : FD := fun ds W => if ds.length = np then (match b (startE nn ds) W with
  | .nx _ W' => .ok (.d .non) W'
  | .rt v W' => .ok v W'
  | .exc C W' => .exc C W'
  | _ => .stuck) else .stuck

section
variable {K : Fr} {TB : List (Addr × Str)} {E : XK}
/-- what a walk asks of the growth -/
structure GrI (ws : List Addr) (G H : Hp) (ws' : List Addr) (G' H' : Hp) : Prop where
  g : Same G G'
  p : ∃ more, ws' = ws ++ more
  fz : ∀ a o u, H a = some (.frz o u) → H' a = some (.frz o u)
theorem Gr.i {ws ws' : List Addr} {G H G' H' : Hp} (a : Gr ws G H ws' G' H') : GrI ws G H ws' G' H' := ⟨a.g, a.p, a.fz⟩
theorem GrI.trans {ws ws1 ws2 : List Addr} {G H G1 H1 G2 H2 : Hp} (a : GrI ws G H ws1 G1 H1) (b : GrI ws1 G1 H1 ws2 G2 H2) : GrI ws G H ws2 G2 H2 :=
  ⟨fun x o h => b.g x o (a.g x o h), let ⟨m, e⟩ := a.p; let ⟨m', e'⟩ := b.p; ⟨m ++ m', by rw [e', e, List.append_assoc]⟩, fun x o u h => b.fz x o u (a.fz x o u h)⟩
def ItOk (K : Fr) (TB : List (Addr × Str)) (ws : List Addr) (G H : Hp) (J : It) (it : Itm) : Prop :=
  ∀ (ws2 : List Addr) (G2 H2 : Hp) (W2 : Ms), GrI ws G H ws2 G2 H2 → Cf K TB ws2 G2 H2 W2 → it.kp W2 → ∀ i,
    (it.xs.length ≤ i → J.stop i H2) ∧ ∀ x, it.xs[i]? = some x → J.go i H2 ∧ ∀ v H3, J.yld i H2 v H3 → ∃ G3, Gr ws2 G2 H2 ws2 G3 H3 ∧ Cf K TB ws2 G3 H3 W2 ∧ RpV K ws2 G3 v x
abbrev SI (K : Fr) (TB : List (Addr × Str)) (E : XK) (t : TI) (f : FI) : Prop := Snd K TB (ItOk K TB) E t f
def SG (K : Fr) (TB : List (Addr × Str)) (vs : List Nat) (g : TG) (fg : FG) : Prop :=
  ∀ (v : V) (x : Vl) (σ : L2.St) (ρ ρ' : Ev) (ws : List Addr) (G H : Hp) (W : Ms) (Q : L2.St → Hp → Prop), EnvR K ws G σ ρ → Cf K TB ws G H W → RpV K ws G v x → fg x ρ = some ρ' → (∀ σ', EnvR K ws G σ' ρ' → L2.wipe σ' vs = L2.wipe σ vs → Q σ' H) → g v σ H Q
def SGs (K : Fr) (TB : List (Addr × Str)) (vs : List Nat) (g : TGs) (fg : FGs) : Prop :=
  ∀ (v : List V) (x : List Vl) (σ : L2.St) (ρ ρ' : Ev) (ws : List Addr) (G H : Hp) (W : Ms) (Q : L2.St → Hp → Prop), EnvR K ws G σ ρ → Cf K TB ws G H W → RpVs K ws G v x → fg x ρ = some ρ' → (∀ σ', EnvR K ws G σ' ρ' → L2.wipe σ' vs = L2.wipe σ vs → Q σ' H) → g v σ H Q
theorem set_none_comm (σ : L2.St) (i j : Nat) : (σ.set i none).set j none = (σ.set j none).set i none := by
  by_cases h : i = j
  · subst h; rfl
  · exact List.set_comm _ _ h
theorem wipe_out (σ : L2.St) (i : Nat) : ∀ vs : List Nat, (L2.wipe σ vs).set i none = L2.wipe (σ.set i none) vs
  | [] => rfl
  | v :: vs => by
    show ((L2.wipe σ vs).set v none).set i none = (L2.wipe (σ.set i none) vs).set v none
    rw [set_none_comm, wipe_out]
theorem wipe_set (σ : L2.St) (i : Nat) (o : Option V) : ∀ {vs : List Nat}, i ∈ vs → L2.wipe (σ.set i o) vs = L2.wipe σ vs
  | v :: vs, h => by
    show (L2.wipe (σ.set i o) vs).set v none = (L2.wipe σ vs).set v none
    rcases List.mem_cons.mp h with e | h
    · subst e
      rw [wipe_out, wipe_out, List.set_set]
    · rw [wipe_set σ i o h]
theorem wipe_idem (σ : L2.St) (vs : List Nat) : L2.wipe (L2.wipe σ vs) vs = L2.wipe σ vs := by
  have : ∀ (us : List Nat), (∀ i ∈ us, i ∈ vs) → L2.wipe (L2.wipe σ us) vs = L2.wipe σ vs := by
    intro us
    induction us with
    | nil => intro _; rfl
    | cons u us ih =>
      intro h
      show L2.wipe ((L2.wipe σ us).set u none) vs = _
      rw [wipe_set _ _ _ (h u List.mem_cons_self)]
      exact ih fun i hi => h i (List.mem_cons_of_mem _ hi)
  exact this vs fun _ h => h
theorem g_name {vs : List Nat} (i : Nat) (h : i ∈ vs) : SG K TB vs (gName i) (gN i) := fun v x σ ρ ρ' ws G H W Q e c r q k => by
  cases q
  exact k _ (e.set i r) (wipe_set σ i _ h)
theorem gs_nil {vs : List Nat} : SGs K TB vs gNil gsNil := fun v x σ ρ ρ' ws G H W Q e c r q k => by
  cases r with
  | nil =>
    cases q
    exact ⟨rfl, k _ e rfl⟩
  | cons _ _ => cases q
theorem gs_cons {vs : List Nat} {g : TG} {gs : TGs} {fg : FG} {fgs : FGs} (h : SG K TB vs g fg) (hs : SGs K TB vs gs fgs) : SGs K TB vs (gCons g gs) (gsCons fg fgs) := fun v x σ ρ ρ' ws G H W Q e c r q k => by
  cases r with
  | nil => cases q
  | @cons a b as bs r1 r2 =>
    simp only [gsCons] at q
    cases z : fg b ρ with
    | none => rw [z] at q; cases q
    | some ρ1 =>
      rw [z] at q
      refine ⟨a, as, rfl, ?_⟩
      exact h a b σ ρ ρ1 ws G H W _ e c r1 z fun σ1 e1 w1 => hs as bs σ1 ρ1 ρ' ws G H W _ e1 c r2 q fun σ2 e2 w2 => k σ2 e2 (w2.trans w1)
theorem RpL.vs {ws : List Addr} {G : Hp} : ∀ {xs : List V} {l : List D}, RpL K G xs l → RpVs K ws G xs (l.map Vl.d)
  | _, _, .nil => .nil
  | _, _, .cons h t => .cons (.d h) (RpL.vs t)
theorem RpL.len {G : Hp} : ∀ {xs : List V} {l : List D}, RpL K G xs l → xs.length = l.length
  | _, _, .nil => rfl
  | _, _, .cons h t => congrArg Nat.succ (RpL.len t)
theorem RpL.at {G : Hp} : ∀ {xs : List V} {l : List D} {i : Nat} {x : D}, RpL K G xs l → l[i]? = some x → ∃ v, xs[i]? = some v ∧ Rp K G v x
  | _, _, _, _, .nil, e => by simp at e
  | _, _, 0, _, .cons h _, e => by simp at e; subst e; exact ⟨_, rfl, h⟩
  | _, _, i + 1, _, .cons _ t, e => by
    obtain ⟨a, h1, h2⟩ := RpL.at (i := i) t (by simpa using e)
    exact ⟨a, by simpa using h1, h2⟩
theorem tup_rp {ws : List Addr} {G H : Hp} {W : Ms} {v : V} {x : Vl} {l : List D} (c : Cf K TB ws G H W) (r : RpV K ws G v x) (h : tupOf x = some l) : ∃ a vs, v = .ref a ∧ SqT K.K G a vs ∧ SqT K.K H a vs ∧ RpL K G vs l := by
  cases r with
  | d r =>
    cases r with
    | tup e rl => cases h; exact ⟨_, _, rfl, SqT.of e, SqT.of (c.g _ _ e), rl⟩
    | tupK e rl => cases h; exact ⟨_, _, rfl, e, (Rds.of c.g (K := K)).t _ _ e, rl⟩
    | _ => cases h
  | mu _ => cases h
theorem g_tup {vs : List Nat} {n : Nat} {gs : TGs} {fgs : FGs} (hs : SGs K TB vs gs fgs) : SG K TB vs (gTup K.K n gs) (gT n fgs) := fun v x σ ρ ρ' ws G H W Q e c r q k => by
  unfold gT at q
  cases z : tupOf x with
  | none => rw [z] at q; cases q
  | some l =>
    rw [z] at q
    simp only at q
    split at q
    · rename_i hl
      obtain ⟨a, us, rfl, _, h2, rl⟩ := tup_rp c r z
      exact ⟨a, us, rfl, h2, rl.len.trans hl, hs us _ σ ρ ρ' ws G H W Q e c rl.vs q k⟩
    · cases q
variable {σ : L2.St} {ws : List Addr} {G H : Hp} {ρ : Ev} {W : Ms} {Dn : Ends}
theorem s_nil : SS K TB E tNext sNil := fun σ ws G H ρ W Dn e c w => w σ ws G H .refl c e
theorem s_break : SS K TB E tBreak sBreak := fun σ ws G H ρ W Dn e c w => w σ ws G H .refl c e
theorem s_cont : SS K TB E tCont sCont := fun σ ws G H ρ W Dn e c w => w σ ws G H .refl c e
theorem s_never : SS K TB E tNever sNever := fun σ ws G H ρ W Dn e c w => w
theorem s_seq {t u : TS} {f g : FS} (h : SS K TB E t f) (k : SS K TB E u g) : SS K TB E (tSeq t u) (sSeq f g) := by
  intro σ ws G H ρ W Dn e c w
  refine h σ ws G H ρ W _ e c ?_
  unfold sSeq at w
  cases q : f ρ W with
  | nx ρ1 W1 =>
    rw [q] at w
    exact fun σ1 ws1 G1 H1 g1 c1 e1 => k _ _ _ _ _ _ _ e1 c1 (WishS.up w g1)
  | rt v W1 => rw [q] at w; exact w
  | bk v W1 => rw [q] at w; exact w
  | ct v W1 => rw [q] at w; exact w
  | exc v W1 => rw [q] at w; exact w
  | stuck => rw [q] at w; exact w
theorem s_expr {te : TE} {f : FE} (h : SE K TB E te f) : SS K TB E (tDrop te) (sExpr f) := fun σ ws G H ρ W Dn e c w =>
  h.goS e c w fun v x W1 ws1 G1 H1 g1 c1 r1 w1 => w1 σ ws1 G1 H1 .refl c1 (e.up g1)
theorem s_ret {te : TE} {f : FE} (h : SE K TB E te f) : SS K TB E (tRet te) (sRet f) := fun σ ws G H ρ W Dn e c w =>
  h.goS (Dn := Dn) e c w fun v x W1 ws1 G1 H1 g1 c1 r1 w1 => w1 v ws1 G1 H1 .refl c1 r1
theorem s_retN : SS K TB E tRetN sRetN := fun σ ws G H ρ W Dn e c w => w .non ws G H .refl c (.d .non)
theorem s_ifS {tc : TT} {ta tb : TS} {fc : FT} {fa fb : FS} (hc : ST K TB E tc fc) (ha : SS K TB E ta fa) (hb : SS K TB E tb fb) : SS K TB E (tIfS tc ta tb) (sIf fc fa fb) := fun σ ws G H ρ W Dn e c w =>
  hc.goS e c w fun v x W1 ws1 G1 H1 g1 c1 r1 w1 => by
    obtain rfl : v = x := r1
    cases v
    · exact hb _ _ _ _ _ _ _ (e.up g1) c1 w1
    · exact ha _ _ _ _ _ _ _ (e.up g1) c1 w1
theorem s_asg {te : TE} {f : FE} {g : TG} {fg : FG} {vs : List Nat} (h : SE K TB E te f) (hg : SG K TB vs g fg) : SS K TB E (tAsg te g) (sAsg f fg) := fun σ ws G H ρ W Dn e c w =>
  h.goS e c w fun v x W1 ws1 G1 H1 g1 c1 r1 w1 => by
    cases z : fg x ρ with
    | none => rw [z] at w1; exact w1.elim
    | some ρ1 =>
      rw [z] at w1
      exact hg _ _ _ _ _ _ _ _ _ _ (e.up g1) c1 r1 z fun σ1 e1 _ => w1 σ1 ws1 G1 H1 .refl c1 e1
theorem s_set {te : TE} {f : FE} (i : Nat) (h : SE K TB E te f) : SS K TB E (tAsg te (gName i)) (sSet i f) := fun σ ws G H ρ W Dn e c w =>
  h.goS e c w fun v x W1 ws1 G1 H1 g1 c1 r1 w1 => w1 _ ws1 G1 H1 .refl c1 ((e.up g1).set i r1)
theorem s_asgT {t : TA} {fs : FA} {n : Nat} {gs : TGs} {fgs : FGs} {vs : List Nat} (h : SA K TB E t fs) (hg : SGs K TB vs gs fgs) : SS K TB E (tAsg (tTup t) (gTup K.K n gs)) (sAsgT n fs fgs) := fun σ ws G H ρ W Dn e c w =>
  h.goS e c w fun v x W1 ws1 G1 H1 g1 c1 r1 w1 => by
    split at w1
    · rename_i hn
      refine ⟨mil (by rw [Paired.length r1]; omega), fun p hp => ⟨p, v, rfl, SqT.of upd_same, (Paired.length r1).trans hn.1, ?_⟩⟩
      cases z : fgs x ρ with
      | none => rw [z] at w1; exact w1.elim
      | some ρ1 =>
        rw [z] at w1
        have c2 := c1.junk (o := .tup v) hp
        exact hg _ _ _ _ _ _ _ _ _ _ (e.up g1) c2 r1 z fun σ1 e1 _ => w1 σ1 ws1 G1 _ (Gr.junk hp) c2 e1
    · exact w1.elim
theorem s_par {t : TA} {fs : FA} {i j : Nat} (h : SA K TB E t fs) : SS K TB E (tPar i j t) (sAsgT 2 fs (gsCons (gN i) (gsCons (gN j) gsNil))) := fun σ ws G H ρ W Dn e c w =>
  h.goS e c w fun v x W1 ws1 G1 H1 g1 c1 r1 w1 => by
    split at w1
    · rename_i hn
      match x, v, r1, hn with
      | [x1, x2], [v1, v2], .cons r1 (.cons r2 .nil), _ =>
        exact ⟨v1, v2, rfl, w1 _ ws1 G1 H1 .refl c1 (((e.up g1).set i r1).set j r2)⟩
    · exact w1.elim
theorem s_aug {i : Nat} {te : TE} {f : FE} {r : TIp} {g : Ms → Vl → Vl → Res Vl} (hg : OpD K TB r g) (h : SE K TB E te f) : SS K TB E (tAug i te r) (sAug i g f) := fun σ ws G H ρ W Dn e c w => by
  unfold sAug at w
  cases q : ρ[i]? with
  | none => rw [q] at w; exact w.elim
  | some o =>
    cases o with
    | none => rw [q] at w; exact w.elim
    | some x =>
      rw [q] at w
      obtain ⟨v, hv, r⟩ := e.at q
      refine ⟨v, hv, h.goS e c w fun y dy W1 ws1 G1 H1 g1 c1 r1 w1 => ?_⟩
      refine hg E _ _ _ _ _ _ _ _ _ c1 (g1.rv r) r1 ?_
      cases z : g W1 x dy with
      | stuck => rw [z] at w1; exact w1
      | exc C W2 => rw [z] at w1; exact w1
      | ok d W2 =>
        rw [z] at w1
        exact fun b ws2 G2 H2 g2 c2 r2 => w1 _ ws2 G2 H2 g2 c2 (((e.up g1).up g2).set i r2)
theorem s_raise {C : Addr} {te : TE} {f : FE} (h : SE K TB E te f) : SS K TB E (fun _ σ H => te σ H fun _ H1 => E (.ref C) none H1) (sRaise C f) := fun σ ws G H ρ W Dn e c w =>
  h.goS (Dn := Dn) e c w fun v x W1 ws1 G1 H1 g1 c1 r1 w1 => w1 ws1 G1 H1 .refl c1
theorem putV_rp {f : Str} {v : V} {y : Vl} (r : RpV K ws G v y) : ∀ {fs : List (Str × V)} {l : List (Str × Vl)}, RpVF K ws G fs l → RpVF K ws G (L2.putF f v fs) (putV f y l)
  | _, _, .nil => .cons ⟨rfl, r⟩ .nil
  | (g, a) :: fs, (g', b) :: l, .cons ⟨h1, h2⟩ t => by
    obtain rfl : g' = g := h1
    unfold L2.putF putV
    by_cases q : g' = f
    · rw [if_pos q, if_pos q]; exact .cons ⟨rfl, r⟩ t
    · rw [if_neg q, if_neg q]; exact .cons ⟨rfl, h2⟩ (putV_rp r t)
theorem putF_names {f : Str} {v : V} : ∀ {fs : List (Str × V)} {g : Str}, g ∈ (L2.putF f v fs).map (·.1) → g = f ∨ g ∈ fs.map (·.1)
  | [], g, h => by
    rw [show L2.putF f v [] = [(f, v)] from rfl, List.map_cons, List.map_nil, List.mem_singleton] at h
    exact .inl h
  | (k, a) :: fs, g, h => by
    unfold L2.putF at h
    by_cases q : k = f
    · rw [if_pos q] at h; exact .inr h
    · rw [if_neg q, List.map_cons] at h
      rcases List.mem_cons.mp h with e | h
      · exact .inr (by rw [List.map_cons, e]; exact List.mem_cons_self)
      · rcases putF_names h with h | h
        · exact .inl h
        · exact .inr (by rw [List.map_cons]; exact List.mem_cons_of_mem _ h)
theorem s_fldset {C : Addr} {f : Str} {ta tv : TE} {fx fy : FE} (hn : L2.NoAttr K.K C f) (hx : SE K TB E ta fx) (hy : SE K TB E tv fy) : SS K TB E (sFld K.K ta tv f) (sFldSet C f fx fy) := fun σ ws G H ρ W Dn e c w =>
  hy.goS e c w fun v y W1 ws1 G1 H1 g1 c1 r1 w1 => by
    refine hx.goS (e.up g1) c1 w1 fun u x W2 ws2 G2 H2 g2 c2 r2 w2 => ?_
    unfold setFld at w2
    cases r2 with
    | d _ => exact w2.elim
    | @mu a n ea =>
      cases q : W2[n]? with
      | none => simp only [q] at w2; exact w2.elim
      | some m =>
        cases m with
        | ins C' l =>
          simp only [q] at w2
          split at w2
          · rename_i z
            split at z
            · rename_i hc
              cases z
              obtain ⟨rfl, hl⟩ := hc
              obtain ⟨hg, dx, fs, e1, k, rf⟩ := c2.ob n a _ ea q (by simp)
              refine ⟨a, C', dx, fs, rfl, e1, k.cl, hn, by rw [Paired.length rf]; exact hl, ?_⟩
              refine w2 σ ws2 G2 _ (Gr.put ea ⟨_, e1, nf_ins⟩) (c2.put ea q (by simp) ⟨dx, _, upd_same, ⟨k.cl, fun g hg => ?_⟩, putV_rp (g2.rv r1) rf⟩) ((e.up g1).up g2)
              rcases putF_names hg with z | z
              · rw [z]; exact hn
              · exact k.no g z
            · cases z
          · exact w2.elim
        | _ => simp only [q] at w2; exact w2.elim
/-! ### loops -/
theorem ItOk.up {ws1 : List Addr} {G1 H1 : Hp} {J : It} {it : Itm} (h : ItOk K TB ws G H J it) (g : Gr ws G H ws1 G1 H1) : ItOk K TB ws1 G1 H1 J it := fun ws2 G2 H2 W2 s c k i => h ws2 G2 H2 W2 (g.i.trans s) c k i
theorem for_core {g : TG} {tb : TS} {fg : FG} {b : FS} {vs : List Nat} {J : It} {it : Itm} {ws1 : List Addr} {G1 H1 : Hp} {W1 : Ms} (hg : SG K TB vs g fg) (hb : SS K TB E tb b) (ok : ItOk K TB ws1 G1 H1 J it) (c1 : Cf K TB ws1 G1 H1 W1) (e1 : EnvR K ws1 G1 σ ρ)
    (w1 : WishS K TB E ws1 G1 H1 Dn (forL it.kp fg b it.xs ρ W1)) : ∃ Wv : Nat → Nat → L2.St → Hp → Prop, (∃ m, Wv 0 m σ H1) ∧ ∀ i m σ H, Wv i m σ H →
  (J.stop i H ∧ Dn.nx σ H) ∨ (J.go i H ∧ ∃ N : L2.St → Hp → Prop, (∀ σ' H', N σ' H' → ∃ m', m' < m ∧ Wv (i + 1) m' σ' H') ∧ ∀ x H', J.yld i H x H' → g x σ H' fun σ2 H2 => tb { Dn with nx := N, ct := N, bk := Dn.nx } σ2 H2) := by
  refine ⟨fun i m σ2 H2 => i + m = it.xs.length ∧ ∃ ws2 G2 W2 ρ2, Gr ws1 G1 H1 ws2 G2 H2 ∧ Cf K TB ws2 G2 H2 W2 ∧ EnvR K ws2 G2 σ2 ρ2 ∧ WishS K TB E ws2 G2 H2 Dn (forL it.kp fg b (it.xs.drop i) ρ2 W2),
    ⟨it.xs.length, Nat.zero_add _, ws1, G1, W1, ρ, .refl, c1, e1, by rw [List.drop_zero]; exact w1⟩, ?_⟩
  rintro i m σ2 H2 ⟨hm, ws2, G2, W2, ρ2, g2, c2, e2, w2⟩
  by_cases hl : it.xs.length ≤ i
  · rw [List.drop_of_length_le hl] at w2
    unfold forL at w2
    split at w2
    · rename_i hk
      exact .inl ⟨((ok ws2 G2 H2 W2 g2.i c2 hk) i).1 hl, w2 σ2 ws2 G2 H2 .refl c2 e2⟩
    · exact w2.elim
  · have hi' : i < it.xs.length := by omega
    rw [List.drop_eq_getElem_cons hi'] at w2
    unfold forL at w2
    split at w2
    · rename_i hk
      obtain ⟨go, yl⟩ := ((ok ws2 G2 H2 W2 g2.i c2 hk) i).2 _ (List.getElem?_eq_getElem hi')
      cases z : fg it.xs[i] ρ2 with
      | none => simp only [z] at w2; exact w2.elim
      | some ρ3 =>
        simp only [z] at w2
        refine .inr ⟨go, fun σ' H' => ∃ m', m' < m ∧ i + 1 + m' = it.xs.length ∧ ∃ ws4 G4 W4 ρ4, Gr ws1 G1 H1 ws4 G4 H' ∧ Cf K TB ws4 G4 H' W4 ∧ EnvR K ws4 G4 σ' ρ4 ∧ WishS K TB E ws4 G4 H' Dn (forL it.kp fg b (it.xs.drop (i + 1)) ρ4 W4), fun σ' H' h => h, fun v H3 hy => ?_⟩
        obtain ⟨G3, g3, c3, r3⟩ := yl v H3 hy
        refine hg v _ σ2 ρ2 ρ3 ws2 G3 H3 W2 _ (e2.up g3) c3 r3 z fun σ3 e3 _ => ?_
        refine hb _ _ _ _ _ _ _ e3 c3 ?_
        cases q : b ρ3 W2 with
        | nx ρ4 W4 =>
          simp only [q] at w2
          exact fun σ4 ws4 G4 H4 g4 c4 e4 => ⟨m - 1, by omega, by omega, ws4, G4, W4, ρ4, (g2.trans g3).trans g4, c4, e4, WishS.up w2 (g3.trans g4)⟩
        | ct ρ4 W4 =>
          simp only [q] at w2
          exact fun σ4 ws4 G4 H4 g4 c4 e4 => ⟨m - 1, by omega, by omega, ws4, G4, W4, ρ4, (g2.trans g3).trans g4, c4, e4, WishS.up w2 (g3.trans g4)⟩
        | bk ρ4 W4 =>
          simp only [q] at w2
          exact fun σ4 ws4 G4 H4 g4 c4 e4 => w2 σ4 ws4 G4 H4 (g3.trans g4) c4 e4
        | rt v4 W4 =>
          simp only [q] at w2
          exact fun σ4 ws4 G4 H4 g4 c4 e4 => w2 σ4 ws4 G4 H4 (g3.trans g4) c4 e4
        | exc C4 W4 =>
          simp only [q] at w2
          exact fun ws4 G4 H4 g4 c4 => w2 ws4 G4 H4 (g3.trans g4) c4
        | stuck =>
          simp only [q] at w2
          exact w2.elim
    · exact w2.elim
theorem s_for {wi : TI} {g : TG} {tb : TS} {fi : FI} {fg : FG} {b : FS} {vs : List Nat} (hi : SI K TB E wi fi) (hg : SG K TB vs g fg) (hb : SS K TB E tb b) : SS K TB E (tFor wi g tb) (sFor fi fg b) := fun σ ws G H ρ W Dn e c w =>
  hi.goS (Dn := Dn) e c w fun J it W1 ws1 G1 H1 g1 c1 ok w1 => for_core hg hb ok c1 (e.up g1) w1
theorem s_while {tc : TT} {tb : TS} {fc : FT} {b : FS} (n : Nat) (hc : ST K TB E tc fc) (hb : SS K TB E tb b) : SS K TB E (tWhile tc tb) (sWhile n fc b) := fun σ ws G H ρ W Dn e c w => by
  refine ⟨fun m σ2 H2 => ∃ ws2 G2 W2 ρ2, Gr ws G H ws2 G2 H2 ∧ Cf K TB ws2 G2 H2 W2 ∧ EnvR K ws2 G2 σ2 ρ2 ∧ WishS K TB E ws2 G2 H2 Dn (whl fc b m ρ2 W2), ⟨n, ws, G, W, ρ, .refl, c, e, w⟩, ?_⟩
  rintro m σ2 H2 ⟨ws2, G2, W2, ρ2, g2, c2, e2, w2⟩
  cases m with
  | zero => exact w2.elim
  | succ m =>
    unfold whl at w2
    refine hc.goS e2 c2 w2 fun t d W3 ws3 G3 H3 g3 c3 r3 w3 => ?_
    obtain rfl : t = d := r3
    cases t
    · exact w3 σ2 ws3 G3 H3 .refl c3 (e2.up g3)
    · refine iteT ⟨fun σ' H' => ∃ m', m' < m + 1 ∧ ∃ ws4 G4 W4 ρ4, Gr ws G H ws4 G4 H' ∧ Cf K TB ws4 G4 H' W4 ∧ EnvR K ws4 G4 σ' ρ4 ∧ WishS K TB E ws4 G4 H' Dn (whl fc b m' ρ4 W4), fun σ' H' h => h, ?_⟩
      refine hb _ _ _ _ _ _ _ (e2.up g3) c3 ?_
      simp only [if_pos] at w3
      cases q : b ρ2 W3 with
      | nx ρ4 W4 =>
        simp only [q] at w3
        exact fun σ4 ws4 G4 H4 g4 c4 e4 => ⟨m, by omega, ws4, G4, W4, ρ4, (g2.trans g3).trans g4, c4, e4, WishS.up w3 g4⟩
      | ct ρ4 W4 =>
        simp only [q] at w3
        exact fun σ4 ws4 G4 H4 g4 c4 e4 => ⟨m, by omega, ws4, G4, W4, ρ4, (g2.trans g3).trans g4, c4, e4, WishS.up w3 g4⟩
      | bk ρ4 W4 =>
        simp only [q] at w3
        exact fun σ4 ws4 G4 H4 g4 c4 e4 => w3 σ4 ws4 G4 H4 g4 c4 e4
      | rt v4 W4 =>
        simp only [q] at w3
        exact fun σ4 ws4 G4 H4 g4 c4 e4 => w3 σ4 ws4 G4 H4 g4 c4 e4
      | exc C4 W4 =>
        simp only [q] at w3
        exact fun ws4 G4 H4 g4 c4 => w3 ws4 G4 H4 g4 c4
      | stuck =>
        simp only [q] at w3
        exact w3.elim
/-- a fresh object that was built is told of from now on -/
theorem Cf.own {p : Addr} {o : HO} (c : Cf K TB ws G H W) (hg : G p = none) (hw : p ∉ ws) (e : H p = some o) (ho : ∀ ps, o ≠ .tbl ps := by intro _ z; cases z) : Cf K TB ws (upd G p o) H W where
  g := fun b u q => by
    by_cases z : b = p
    · subst z; rw [upd_same] at q; rw [← q]; exact e
    · rw [upd_ne z] at q; exact c.g b u q
  len := c.len
  nd := c.nd
  nt := fun b ps q => by
    by_cases z : b = p
    · subst z; rw [upd_same] at q; exact ho ps (Option.some.inj q)
    · rw [upd_ne z] at q; exact c.nt b ps q
  dm := c.dm
  ob := fun i a m e1 e2 hm => by
    obtain ⟨h1, h2⟩ := c.ob i a m e1 e2 hm
    have ne : a ≠ p := fun z => hw (z ▸ List.mem_of_getElem? e1)
    exact ⟨by rw [upd_ne ne]; exact h1, h2.to (fun v x r => r.to (.of (same_upd hg)) fun _ _ z => z) rfl⟩
  tb := c.tb
theorem Gr.own {p : Addr} {o : HO} {ws1 : List Addr} {G1 H1 : Hp} (g : Gr ws G H ws1 G1 H1) (h : H p = none) (hG : G p = none) (hg : G1 p = none) : Gr ws G H ws1 (upd G1 p o) H1 where
  g := fun a u e => by
    rw [upd_ne (ne_of_none e hG)]
    exact g.g a u e
  p := g.p
  fr := g.fr
  fz := g.fz
  nw := g.nw
  nf := fun a u e e2 hw m => by
    rcases g.nf a u e e2 hw m with n | n
    · exact .inl (by rw [upd_ne (ne_of_none e h)]; exact n)
    · exact .inr n
theorem Cf.ownM {p : Addr} {m : M} (c : Cf K TB ws G H W) (hg : G p = none) (hw : p ∉ ws) (hp : ∃ o, H p = some o ∧ ∀ ps, o ≠ .tbl ps) (hm : MAt K (ws ++ [p]) G H p m) : Cf K TB (ws ++ [p]) G H (W ++ [m]) where
  nt := c.nt
  g := c.g
  len := by rw [List.length_append, List.length_append, c.len]; rfl
  nd := List.nodup_append.mpr ⟨c.nd, by simp, fun a ha b hb z => by
    rw [List.mem_singleton] at hb
    exact hw (hb ▸ z ▸ ha)⟩
  dm := fun b hb => by
    rcases List.mem_append.mp hb with hb | hb
    · exact c.dm b hb
    · rw [List.mem_singleton.mp hb]; exact hp
  ob := fun n a x e1 e2 hx => by
    by_cases hn : n < ws.length
    · rw [List.getElem?_append_left hn] at e1
      rw [List.getElem?_append_left (by rw [← c.len]; exact hn)] at e2
      obtain ⟨h1, h2⟩ := c.ob n a x e1 e2 hx
      refine ⟨h1, h2.to (fun v x r => r.to (.of fun _ _ e => e) fun i b e => ?_) rfl⟩
      rw [List.getElem?_append_left (List.getElem?_eq_some_iff.mp e).1]
      exact e
    · have hn2 : n = ws.length := by
        have := (List.getElem?_eq_some_iff.mp e1).1
        rw [List.length_append] at this
        have : n < ws.length + 1 := this
        omega
      subst hn2
      rw [List.getElem?_append_right (Nat.le_refl _), Nat.sub_self] at e1
      rw [List.getElem?_append_right (by rw [c.len]; exact Nat.le_refl _), ← c.len, Nat.sub_self] at e2
      cases e1
      cases e2
      exact ⟨hg, hm⟩
  tb := c.tb
theorem Gr.ownM {p : Addr} {ws1 : List Addr} {G1 H1 : Hp} (g : Gr ws G H ws1 G1 H1) (h : H p = none) : Gr ws G H (ws1 ++ [p]) G1 H1 where
  g := g.g
  p := by
    obtain ⟨m, e⟩ := g.p
    exact ⟨m ++ [p], by rw [e, List.append_assoc]⟩
  fr := g.fr
  fz := g.fz
  nw := fun a u ha n hw z => by
    rcases List.mem_append.mp z with z | z
    · exact g.nw a u ha n hw z
    · rw [List.mem_singleton.mp z, h] at ha
      cases ha
  nf := g.nf
/-- as Snd.go, the wish told from an earlier state -/
theorem Snd.goB {α β α' β' : Type} {R : List Addr → Hp → Hp → β → α → Prop} {R' : List Addr → Hp → Hp → β' → α' → Prop} {Q : β → Hp → Prop} {Q' : β' → Hp → Prop} {t : L2.St → Hp → (β' → Hp → Prop) → Prop} {f : Ev → Ms → Res α'} {k : α' → Ms → Res α}
    {wsb : List Addr} {Gb Hb : Hp} (h : Snd K TB R' E t f) (e : EnvR K ws G σ ρ) (c : Cf K TB ws G H W) (gb : Gr wsb Gb Hb ws G H)
    (w : Wish K TB R E wsb Gb Hb Q ((f ρ W).bind k))
    (nx : ∀ b x W1 ws1 G1 H1, Gr ws G H ws1 G1 H1 → Cf K TB ws1 G1 H1 W1 → R' ws1 G1 H1 b x → Wish K TB R E wsb Gb Hb Q (k x W1) → Q' b H1) : t σ H Q' := by
  refine h σ ws G H ρ W Q' e c ?_
  cases q : f ρ W with
  | ok x W1 =>
    rw [q] at w
    exact fun b ws1 G1 H1 g c1 r => nx b x W1 ws1 G1 H1 g c1 r w
  | exc C W1 =>
    rw [q] at w
    exact fun ws1 G1 H1 g c1 => w ws1 G1 H1 (gb.trans g) c1
  | stuck =>
    rw [q] at w
    exact w
/-- what a comprehension asks of the walk -/
def lcR (g : TG) (tt : TT) (te : TE) (vs : List Nat) (σ : L2.St) (Q : VK) : It → Hp → Prop := fun J H1 => ∀ D, H1 D = none → ∃ W : Nat → Nat → Hp → Prop, (∃ m, W 0 m (upd H1 D (.lst []))) ∧ ∀ i m H, W i m H →
  (J.stop i H ∧ Q (.ref D) H) ∨ (J.go i H ∧ ∃ Nx : Hp → Prop, (∀ H', Nx H' → ∃ m', m' < m ∧ W (i + 1) m' H') ∧ ∀ x H', J.yld i H x H' → g x (L2.wipe σ vs) H' fun σ2 H2 => L2.wipe σ2 vs = L2.wipe σ vs ∧ tt σ2 H2 fun b H3 =>
    if b = true then te σ2 H3 fun y H4 => ∃ acc, H4 D = some (.lst acc) ∧ acc.length < sizeLine ∧ Nx (upd H4 D (.lst (acc ++ [y]))) else Nx H3)
/-- the walk of a comprehension -/
theorem lc_core {g : TG} {tt : TT} {te : TE} {fg : FG} {ft : FT} {fe : FE} {vs : List Nat} {J : It} {it : Itm} {ws1 : List Addr} {G1 H1 : Hp} {W1 : Ms} (hg : SG K TB vs g fg) (ht : ST K TB E tt ft) (he : SE K TB E te fe)
    {mk : List Vl → Ms → Res Vl} {Q : VK} (ok : ItOk K TB ws1 G1 H1 J it)
    (e1 : EnvR K ws1 G1 σ ρ) (c1 : Cf K TB ws1 G1 H1 W1) (w1 : Wish K TB (RV K) E ws1 G1 H1 Q ((lcB fg ft fe vs ρ it W1).bind mk))
    (end_ : ∀ (p : Addr) (ws2 : List Addr) (G2 H2 : Hp) (W2 : Ms) (xs : List V) (as : List Vl), H1 p = none → Gr ws1 G1 H1 ws2 G2 H2 → Cf K TB ws2 G2 H2 W2 → G2 p = none → p ∉ ws2 → H2 p = some (.lst xs) → RpVs K ws2 G2 xs as →
      Wish K TB (RV K) E ws1 G1 H1 Q (mk as W2) → Q (.ref p) H2) : lcR g tt te vs σ Q J H1 := by
  intro p hp
  unfold lcB at w1
  by_cases hsz : it.xs.length ≤ 1000000
  · rw [if_pos hsz] at w1
    have hG1 := c1.gn hp
    refine ⟨fun i m H2 => i + m = it.xs.length ∧ ∃ ws2 G2 W2 xs as, Gr ws1 G1 H1 ws2 G2 H2 ∧ Cf K TB ws2 G2 H2 W2 ∧ G2 p = none ∧ p ∉ ws2 ∧ H2 p = some (.lst xs) ∧ xs.length ≤ i ∧ RpVs K ws2 G2 xs as ∧
        Wish K TB (RV K) E ws1 G1 H1 Q ((lcL it.kp fg ft fe (wipeE ρ vs) (it.xs.drop i) W2).bind fun ys W3 => mk (as ++ ys) W3),
      ⟨it.xs.length, Nat.zero_add _, ws1, G1, W1, [], [], Gr.junk hp, c1.junk hp, hG1, c1.wn hp, upd_same, Nat.zero_le _, .nil, ?_⟩, ?_⟩
    · rw [List.drop_zero]
      exact w1
    rintro i m H2 ⟨hm, ws2, G2, W2, xs, as, g2, c2, n1, n2, hx, hxl, rx, w2⟩
    have e2 : EnvR K ws2 G2 (L2.wipe σ vs) (wipeE ρ vs) := (e1.up g2).wipe vs
    by_cases hl : it.xs.length ≤ i
    · rw [List.drop_of_length_le hl] at w2
      unfold lcL at w2
      split at w2
      · rename_i hk
        refine .inl ⟨((ok ws2 G2 H2 W2 g2.i c2 hk) i).1 hl, end_ p ws2 G2 H2 W2 xs as hp g2 c2 n1 n2 hx rx ?_⟩
        rw [Res.bind_ok, List.append_nil] at w2
        exact w2
      · exact w2.elim
    · have hi' : i < it.xs.length := by omega
      rw [List.drop_eq_getElem_cons hi'] at w2
      unfold lcL at w2
      split at w2
      · rename_i hk
        obtain ⟨go, yl⟩ := ((ok ws2 G2 H2 W2 g2.i c2 hk) i).2 _ (List.getElem?_eq_getElem hi')
        cases z : fg it.xs[i] (wipeE ρ vs) with
        | none => simp only [z] at w2; exact w2.elim
        | some ρ3 =>
          simp only [z] at w2
          refine .inr ⟨go, fun H' => ∃ m', m' < m ∧ i + 1 + m' = it.xs.length ∧ ∃ ws4 G4 W4 xs4 as4, Gr ws1 G1 H1 ws4 G4 H' ∧ Cf K TB ws4 G4 H' W4 ∧ G4 p = none ∧ p ∉ ws4 ∧ H' p = some (.lst xs4) ∧ xs4.length ≤ i + 1 ∧ RpVs K ws4 G4 xs4 as4 ∧
            Wish K TB (RV K) E ws1 G1 H1 Q ((lcL it.kp fg ft fe (wipeE ρ vs) (it.xs.drop (i + 1)) W4).bind fun ys W3 => mk (as4 ++ ys) W3), fun H' h => h, fun v H3 hy => ?_⟩
          obtain ⟨G3, g3, c3, r3⟩ := yl v H3 hy
          have keep : ∀ {ws' : List Addr} {G' H' : Hp} {us : List V}, Gr ws2 G2 H2 ws' G' H' → G' p = none ∧ p ∉ ws' ∧ H' p = some (.lst xs) := fun {ws' G' H' us} gr => by
            refine ⟨?_, gr.nw p _ hx (fun _ z => nomatch z) n2, ?_⟩
            · rcases gr.nf p _ hx n1 n2 (fun _ z => nomatch z) with q | ⟨ys, q⟩
              · exact q
              · cases q
            · have e1 := gr.fr p _ hx n2 (fun _ z => nomatch z)
              exact e1
          refine hg v _ _ _ ρ3 ws2 G3 H3 W2 _ (e2.up g3) c3 r3 z fun σ3 e3 q3 => ⟨q3.trans (wipe_idem σ vs), ?_⟩
          have w3 : Wish K TB (RV K) E ws1 G1 H1 Q ((ft ρ3 W2).bind fun b W1 => (if b = true then (fe ρ3 W1).bind fun y W2 => (lcL it.kp fg ft fe (wipeE ρ vs) (it.xs.drop (i + 1)) W2).bind fun ys W3 => .ok (y :: ys) W3 else lcL it.kp fg ft fe (wipeE ρ vs) (it.xs.drop (i + 1)) W1).bind fun ys W3 => mk (as ++ ys) W3) := by
            cases q : ft ρ3 W2 with
            | ok b W5 => rw [q] at w2; exact w2
            | exc C W5 => rw [q] at w2; exact w2
            | stuck => rw [q] at w2; exact w2
          refine ht.goB (R := RV K) e3 c3 (g2.trans g3) w3 fun b b' W5 ws5 G5 H5 g5 c5 r5 w5 => ?_
          obtain rfl : b = b' := r5
          obtain ⟨k1, k2, k3⟩ := keep (us := xs) (g3.trans g5)
          cases b
          · refine iteF ?_
            simp only [Bool.false_eq_true, if_false] at w5
            exact ⟨m - 1, by omega, by omega, ws5, G5, W5, xs, as, (g2.trans g3).trans g5, c5, k1, k2, k3, by omega, (g3.trans g5).rvs rx, w5⟩
          · refine iteT ?_
            simp only [if_true] at w5
            have w6 : Wish K TB (RV K) E ws1 G1 H1 Q ((fe ρ3 W5).bind fun y W2 => (lcL it.kp fg ft fe (wipeE ρ vs) (it.xs.drop (i + 1)) W2).bind fun ys W3 => mk (as ++ y :: ys) W3) := by
              cases q : fe ρ3 W5 with
              | ok b W6 =>
                rw [q] at w5
                rw [Res.bind_ok] at w5 ⊢
                cases q2 : lcL it.kp fg ft fe (wipeE ρ vs) (it.xs.drop (i + 1)) W6 with
                | ok ys W7 => rw [q2] at w5; exact w5
                | exc C W7 => rw [q2] at w5; exact w5
                | stuck => rw [q2] at w5; exact w5
              | exc C W6 => rw [q] at w5; exact w5
              | stuck => rw [q] at w5; exact w5
            refine he.goB (R := RV K) (e3.up g5) c5 ((g2.trans g3).trans g5) w6 fun y dy W6 ws6 G6 H6 g6 c6 r6 w7 => ?_
            obtain ⟨k1, k2, k3⟩ := keep (us := xs) ((g3.trans g5).trans g6)
            refine ⟨xs, k3, mil' (by omega), m - 1, by omega, by omega, ws6, G6, W6, xs ++ [y], as ++ [dy], Gr.junkW (((g2.trans g3).trans g5).trans g6) hp, c6.junkW k1 k2 ⟨_, k3, plain_lst⟩, k1, k2, upd_same, by rw [List.length_append]; exact Nat.succ_le_succ hxl, ?_, ?_⟩
            · exact Paired.app (((g3.trans g5).trans g6).rvs rx) (.cons r6 .nil)
            · have ez : ∀ ys : List Vl, as ++ [dy] ++ ys = as ++ dy :: ys := fun ys => by simp
              simp only [ez]
              exact w7
      · exact w2.elim
  · rw [if_neg hsz] at w1
    exact w1.elim
theorem s_lcG {wi : TI} {g : TG} {tt : TT} {te : TE} {fi : FI} {fg : FG} {ft : FT} {fe : FE} {vs : List Nat} {mk : List Vl → Ms → Res Vl} (hi : SI K TB E wi fi) (hg : SG K TB vs g fg) (ht : ST K TB E tt ft) (he : SE K TB E te fe)
    (end_ : ∀ (ws1 : List Addr) (G1 H1 : Hp) (W1 : Ms) (Q : VK) (p : Addr) (ws2 : List Addr) (G2 H2 : Hp) (W2 : Ms) (xs : List V) (as : List Vl), Cf K TB ws1 G1 H1 W1 → H1 p = none → Gr ws1 G1 H1 ws2 G2 H2 → Cf K TB ws2 G2 H2 W2 → G2 p = none → p ∉ ws2 → H2 p = some (.lst xs) → RpVs K ws2 G2 xs as →
      Wish K TB (RV K) E ws1 G1 H1 Q (mk as W2) → Q (.ref p) H2) : SE K TB E (tLc wi g tt te vs) (fun ρ W => ((fi ρ W).bind (lcB fg ft fe vs ρ)).bind mk) := by
  intro σ ws G H ρ W Q e c w
  have w' : Wish K TB (RV K) E ws G H Q ((fi ρ W).bind fun it W1 => (lcB fg ft fe vs ρ it W1).bind mk) := by
    cases q : fi ρ W with
    | ok it W1 => simp only [q] at w; exact w
    | exc C W1 => simp only [q] at w; exact w
    | stuck => simp only [q] at w; exact w
  exact hi.go (R := RV K) (Q' := lcR g tt te vs σ Q) e c w' fun J it W1 ws1 G1 H1 g1 c1 ok w1 => lc_core hg ht he ok (e.up g1) c1 w1 fun p ws2 G2 H2 W2 xs as => end_ ws1 G1 H1 W1 Q p ws2 G2 H2 W2 xs as c1
theorem end_lst {ws1 : List Addr} {G1 H1 : Hp} {W1 : Ms} {Q : VK} {p : Addr} {ws2 : List Addr} {G2 H2 : Hp} {W2 : Ms} {xs : List V} {as : List Vl} (c1 : Cf K TB ws1 G1 H1 W1) (hp : H1 p = none) (g2 : Gr ws1 G1 H1 ws2 G2 H2) (c2 : Cf K TB ws2 G2 H2 W2) (n1 : G2 p = none) (n2 : p ∉ ws2) (hx : H2 p = some (.lst xs)) (rx : RpVs K ws2 G2 xs as)
      (w2 : Wish K TB (RV K) E ws1 G1 H1 Q (mkLst as W2)) : Q (.ref p) H2 := by
  unfold mkLst at w2
  split at w2
  · cases q : dsOf as with
    | none => rw [q] at w2; exact w2.elim
    | some l =>
      rw [q] at w2
      exact w2 _ ws2 (upd G2 p (.lst xs)) H2 (Gr.own g2 hp (c1.gn hp) n1) (c2.own n1 n2 hx) (.d (.lst upd_same ((dsOf_rp rx q).to (.of (same_upd n1)))))
  · exact w2.elim
theorem end_lstM {ws1 : List Addr} {G1 H1 : Hp} {W1 : Ms} {Q : VK} {p : Addr} {ws2 : List Addr} {G2 H2 : Hp} {W2 : Ms} {xs : List V} {as : List Vl} (c1 : Cf K TB ws1 G1 H1 W1) (hp : H1 p = none) (g2 : Gr ws1 G1 H1 ws2 G2 H2) (c2 : Cf K TB ws2 G2 H2 W2) (n1 : G2 p = none) (n2 : p ∉ ws2) (hx : H2 p = some (.lst xs)) (rx : RpVs K ws2 G2 xs as)
      (w2 : Wish K TB (RV K) E ws1 G1 H1 Q (mkLstM as W2)) : Q (.ref p) H2 := by
  unfold mkLstM at w2
  split at w2
  · refine w2 _ (ws2 ++ [p]) G2 H2 (Gr.ownM g2 hp) (c2.ownM n1 n2 ⟨_, hx, fun _ z => nomatch z⟩ ⟨xs, hx, ?_⟩) (.mu (at_end c2.len))
    exact Paired.imp (fun _ _ r => r.to (.of fun _ _ z => z) fun i b z => by
      rw [List.getElem?_append_left (List.getElem?_eq_some_iff.mp z).1]
      exact z) rx
  · exact w2.elim
theorem s_lc {wi : TI} {g : TG} {tt : TT} {te : TE} {fi : FI} {fg : FG} {ft : FT} {fe : FE} {vs : List Nat} (hi : SI K TB E wi fi) (hg : SG K TB vs g fg) (ht : ST K TB E tt ft) (he : SE K TB E te fe) : SE K TB E (tLc wi g tt te vs) (eLc fi fg ft fe vs) :=
  s_lcG hi hg ht he fun _ _ _ _ _ _ _ _ _ _ _ _ c1 hp g2 c2 n1 n2 hx rx w => end_lst c1 hp g2 c2 n1 n2 hx rx w
theorem s_lcM {wi : TI} {g : TG} {tt : TT} {te : TE} {fi : FI} {fg : FG} {ft : FT} {fe : FE} {vs : List Nat} (hi : SI K TB E wi fi) (hg : SG K TB vs g fg) (ht : ST K TB E tt ft) (he : SE K TB E te fe) : SE K TB E (tLc wi g tt te vs) (eLcM fi fg ft fe vs) :=
  s_lcG hi hg ht he fun _ _ _ _ _ _ _ _ _ _ _ _ c1 hp g2 c2 n1 n2 hx rx w => end_lstM c1 hp g2 c2 n1 n2 hx rx w
/-! ### a def -/
theorem some_ok : ∀ {vs : List V} {ds : List Vl}, RpVs K ws G vs ds → EnvR K ws G (vs.map some) (ds.map some)
  | _, _, .nil => .nil
  | _, _, .cons h t => .cons ⟨_, rfl, h⟩ (some_ok t)
theorem startE_ok {vs : List V} {ds : List Vl} (nn : List Str) (r : RpVs K ws G vs ds) : EnvR K ws G (L2.start nn vs) (startE nn.length ds) := by
  unfold L2.start startE
  rw [Paired.length r]
  refine Paired.app ?_ ?_
  · exact some_ok r
  · generalize nn.length - ds.length = k
    induction k with
    | zero => exact .nil
    | succ k ih => exact .cons trivial ih
theorem body_ok {t : TS} {b : FS} {np : Nat} {nn : List Str} {vs : List V} {ds : List Vl} {Q : VK} (hb : SS K TB E t b) (c : Cf K TB ws G H W) (r : RpVs K ws G vs ds) (w : Wish K TB (RV K) E ws G H Q (runB np nn.length b ds W)) :
    t { nx := fun _ H' => Q .non H', rt := Q } (L2.start nn vs) H := by
  unfold runB at w
  split at w
  · refine hb _ ws G H _ W _ (startE_ok nn r) c ?_
    cases q : b (startE nn.length ds) W with
    | nx ρ1 W1 =>
      simp only [q] at w
      exact fun σ' ws1 G1 H1 g1 c1 _ => fin_ok (E := E) c g1 c1 (.d .non) w
    | rt v W1 =>
      simp only [q] at w
      exact fun σ' ws1 G1 H1 g1 c1 r1 => fin_ok (E := E) c g1 c1 r1 w
    | bk ρ1 W1 => simp only [q] at w; exact w.elim
    | ct ρ1 W1 => simp only [q] at w; exact w.elim
    | exc C W1 =>
      simp only [q] at w
      exact fun ws1 G1 H1 g1 c1 => finX_ok (R := RV K) (Q := Q) c g1 c1 w
    | stuck => simp only [q] at w; exact w
  · exact w.elim
theorem body0_ok {t : TS} {b : FS} {np : Nat} {nn : List Str} {vs : List V} {ds : List Vl} {Q : VK} (hb : SS K TB E t b) (c : Cf K TB ws G H W) (r : RpVs K ws G vs ds) (w : Wish K TB (RV K) E ws G H Q (run0 np nn.length b ds W)) :
    t { nx := fun _ H' => Q .non H', rt := Q } (L2.start nn vs) H := by
  unfold run0 at w
  split at w
  · refine hb _ ws G H _ W _ (startE_ok nn r) c ?_
    cases q : b (startE nn.length ds) W with
    | nx ρ1 W1 =>
      simp only [q] at w
      exact fun σ' ws1 G1 H1 g1 c1 _ => w _ _ _ _ g1 c1 (.d .non)
    | rt v W1 =>
      simp only [q] at w
      exact fun σ' ws1 G1 H1 g1 c1 r1 => w _ _ _ _ g1 c1 r1
    | bk ρ1 W1 => simp only [q] at w; exact w.elim
    | ct ρ1 W1 => simp only [q] at w; exact w.elim
    | exc C W1 =>
      simp only [q] at w
      exact fun ws1 G1 H1 g1 c1 => w _ _ _ g1 c1
    | stuck => simp only [q] at w; exact w
  · exact w.elim
theorem runB_len {np nn : Nat} {b : FS} {ds : List Vl} {W : Ms} {Q : VK} (w : Wish K TB (RV K) E ws G H Q (runB np nn b ds W)) : ds.length = np := by
  unfold runB at w
  split at w
  · assumption
  · exact w.elim
theorem run0_len {np nn : Nat} {b : FS} {ds : List Vl} {W : Ms} {Q : VK} (w : Wish K TB (RV K) E ws G H Q (run0 np nn b ds W)) : ds.length = np := by
  unfold run0 at w
  split at w
  · assumption
  · exact w.elim
end
/-- THE RULE for a def: its body as a term of rules, and what that evaluates to -/
theorem Fun.okB {P : Program} {w : World} {K : Fr} {TB : List (Addr × Str)} {mg : Str → Option Value} {base : Heap} {x qual : Str} {st : Stmt} {f : Addr} {fd : FuncData} {N ps : List Str} {k : Nat} {b : FS}
    (F : L2.Fun K.K x qual st f fd) (S : L2.FnScope N ps (L2.defScope st))
    (hbody : ∀ (cdv : Value) (A : Around) (outer : List Env) (s : Shared) (H : Hp) (E : XK), L2.Room k (A.deeper (envOfC qual (L2.defScope st) s.heap.objs.size f cdv)) →
      ∃ t, L2.PSs (L2.cxOf (L2.CX P w) P w K.K mg base N qual (L2.defScope st) f cdv A outer s H E) (L2.defBody st) t ∧ SS K TB E t b) : L2.FnOk P w K.K mg base (L2.CX P w) (k + 1) f fd ps (spD K TB (runB ps.length N.length b)) := by
  refine F.okX S (fun vs H Q E h => ?_) (fun cdv ar outer s H vs Q E hr h => ?_)
  · obtain ⟨ws, G, W, ds, c, r, w⟩ := h
    exact (Paired.length r).trans (runB_len w)
  · obtain ⟨ws, G, W, ds, c, r, w⟩ := h
    obtain ⟨t, h1, h2⟩ := hbody cdv ar outer s H E hr
    exact ⟨t, h1, body_ok h2 c r w⟩
theorem Fun.ok0 {P : Program} {w : World} {K : Fr} {TB : List (Addr × Str)} {mg : Str → Option Value} {base : Heap} {x qual : Str} {st : Stmt} {f : Addr} {fd : FuncData} {N ps : List Str} {k : Nat} {b : FS}
    (F : L2.Fun K.K x qual st f fd) (S : L2.FnScope N ps (L2.defScope st))
    (hbody : ∀ (cdv : Value) (A : Around) (outer : List Env) (s : Shared) (H : Hp) (E : XK), L2.Room k (A.deeper (envOfC qual (L2.defScope st) s.heap.objs.size f cdv)) →
      ∃ t, L2.PSs (L2.cxOf (L2.CX P w) P w K.K mg base N qual (L2.defScope st) f cdv A outer s H E) (L2.defBody st) t ∧ SS K TB E t b) : L2.FnOk P w K.K mg base (L2.CX P w) (k + 1) f fd ps (spD K TB (run0 ps.length N.length b)) := by
  refine F.okX S (fun vs H Q E h => ?_) (fun cdv ar outer s H vs Q E hr h => ?_)
  · obtain ⟨ws, G, W, ds, c, r, w⟩ := h
    exact (Paired.length r).trans (run0_len w)
  · obtain ⟨ws, G, W, ds, c, r, w⟩ := h
    obtain ⟨t, h1, h2⟩ := hbody cdv ar outer s H E hr
    exact ⟨t, h1, body0_ok h2 c r w⟩
end DL

set_option Elab.async false
set_option linter.all false
set_option maxRecDepth 100000
set_option maxHeartbeats 4000000
/-! ## dicts whose keys are tuples of any depth -/
namespace DL
open PySem PySem.Spec PyProof.Rows L2
mutual
inductive Nk (H : Hp) : V → NestedKey → Prop
  | non : Nk H .non .none
  | num (i : Int) : Nk H (.int i) (.num i)
  | text (s : Str) : Nk H (.str s) (.text s)
  | tup {a : Addr} {vs : List V} {ks : List NestedKey} : H a = some (.tup vs) → NkL H vs ks → Nk H (.ref a) (.tup ks)
inductive NkL (H : Hp) : List V → List NestedKey → Prop
  | nil : NkL H [] []
  | cons {v : V} {k : NestedKey} {vs : List V} {ks : List NestedKey} : Nk H v k → NkL H vs ks → NkL H (v :: vs) (k :: ks)
end
section
variable {P : Program} {w : World} {H : Hp} {h : Heap}
mutual
theorem Nk.is (ok : HOk P w H h) : ∀ {v : V} {k : NestedKey} {u : Value}, Nk H v k → RelV v u → NestedIs h k u
  | _, _, _, .non, r => by cases r; exact .none
  | _, _, _, .num i, r => by obtain ⟨t, rfl⟩ := r; exact .int i t
  | _, _, _, .text s, r => by obtain ⟨t, rfl⟩ := r; exact .text s t
  | _, _, _, .tup (a := a) (vs := vs) (ks := ks) e l, r => by
    cases r
    obtain ⟨_, its, rv, o, h1, h2, n, h3⟩ := (show ObjOk P w H h a (.tup vs) from ok a _ e)
    exact .tup h1 h2 h3 (by simpa using NkL.is ok l rv)
theorem NkL.is (ok : HOk P w H h) : ∀ {vs : List V} {ks : List NestedKey} {us : List Value}, NkL H vs ks → Vals vs us → NestedAll h ks us
  | _, _, _, .nil, .nil => .nil
  | _, _, _, .cons n l, .cons r t => .cons (Nk.is ok n r) (NkL.is ok l t)
end
def NkAll (H : Hp) (xs : List (NestedKey × Addr × V)) : Prop := ∀ x ∈ xs, Nk H (.ref x.2.1) x.1 ∧ x.1.depth ≤ 8
def valN : List (NestedKey × Addr × V) → NestedKey → Option V
  | [], _ => none
  | x :: xs, k => if x.1 = k then some x.2.2 else valN xs k
def putN (xs : List (NestedKey × Addr × V)) (k : NestedKey) (b : Addr) (v : V) : List (NestedKey × Addr × V) :=
  if (xs.any fun x => decide (x.1 = k)) = true then xs.map fun x => if x.1 = k then (x.1, x.2.1, v) else x else xs ++ [(k, b, v)]
def dropN (xs : List (NestedKey × Addr × V)) (k : NestedKey) : List (NestedKey × Addr × V) := xs.filter fun x => decide (x.1 ≠ k)
abbrev XU (x : NestedKey × Addr × V) (u : NestedKey × Addr × Value) : Prop := x.1 = u.1 ∧ x.2.1 = u.2.1 ∧ RelV x.2.2 u.2.2
theorem xu_mem {xs : List (NestedKey × Addr × V)} {us : List (NestedKey × Addr × Value)} (r : Paired XU xs us) {u : NestedKey × Addr × Value} (hu : u ∈ us) : ∃ x, x ∈ xs ∧ x.1 = u.1 ∧ x.2.1 = u.2.1 := by
  induction r with
  | nil => exact nomatch hu
  | cons f t ih =>
    rcases List.mem_cons.mp hu with q | q
    · subst q; exact ⟨_, List.mem_cons_self, f.1, f.2.1⟩
    · obtain ⟨x, k1, k2⟩ := ih q
      exact ⟨x, List.mem_cons_of_mem _ k1, k2⟩
theorem dn_rd {a : Addr} {xs : List (NestedKey × Addr × V)} (ok : HOk P w H h) (e : Rd H a (dN w a xs)) (hk : NkAll H xs) : xs.length ≤ sizeLine ∧ (a == sysModules) = false ∧
    ∃ us, Paired XU xs us ∧ h.DictOfH (nestedKind P w) a us := by
  obtain ⟨⟨z, y, us, o, es, ep, r, h1, h2, h3, h4, h5⟩, _, _⟩ := (show ObjOk P w H h a (dN w a xs) from e.ok ok)
  refine ⟨z, y, us, r, o, es, ep, h1, h2, h3, h4, fun u hu => ?_, h5⟩
  obtain ⟨x, q1, q2, q3⟩ := xu_mem r hu
  obtain ⟨n1, n2⟩ := hk x q1
  rw [q2] at n1 n2
  rw [q3] at n1
  exact ⟨n1.is ok rfl, n2⟩
theorem dn_ok {a : Addr} {xs : List (NestedKey × Addr × V)} {us : List (NestedKey × Addr × Value)} {h' : Heap} {H' : Hp} (z : xs.length ≤ sizeLine) (y : (a == sysModules) = false) (r : Paired XU xs us) (d : h'.DictOfH (nestedKind P w) a us) : ObjOk P w H' h' a (dN w a xs) := by
  obtain ⟨o, es, ep, h1, h2, h3, h4, _, h5⟩ := d
  refine ⟨⟨z, y, us, o, es, ep, r, h1, h2, h3, h4, h5⟩, ⟨o, h1⟩, fun g1 g2 ⟨z, y, us, o, es, ep, r, h1, h2, h3, h4, h5⟩ k => ⟨z, y, us, o, es, ep, r, k o h1, h2, h3, h4, h5⟩⟩
theorem xu_val {xs : List (NestedKey × Addr × V)} {us : List (NestedKey × Addr × Value)} (r : Paired XU xs us) (k : NestedKey) : RelO (valN xs k) ((atKey us k).map (·.2)) := by
  induction r with
  | nil => exact True.intro
  | @cons p q ps qs f t ih =>
    obtain ⟨h1, _, h2⟩ := f
    unfold valN
    by_cases e : p.1 = k
    · have e' : q.1 = k := h1.symm.trans e
      have b : atKey (q :: qs) k = some q.2 := by simp [atKey, List.find?_cons, e']
      rw [if_pos e, b]; exact h2
    · have e' : ¬ q.1 = k := fun z => e (h1.trans z)
      have b : atKey (q :: qs) k = atKey qs k := by simp [atKey, List.find?_cons, e']
      rw [if_neg e, b]; exact ih
theorem valN_any (xs : List (NestedKey × Addr × V)) (k : NestedKey) : (xs.any fun x => decide (x.1 = k)) = (valN xs k).isSome := by
  induction xs with
  | nil => rfl
  | cons x xs ih =>
    unfold valN
    rw [List.any_cons, ih]
    by_cases e : x.1 = k
    · rw [if_pos e, decide_eq_true e]; rfl
    · rw [if_neg e, decide_eq_false e]; rfl
theorem xu_put {xs : List (NestedKey × Addr × V)} {us : List (NestedKey × Addr × Value)} (r : Paired XU xs us) (k : NestedKey) {b : Addr} {y : V} {u : Value} (ry : RelV y u) : Paired XU (putN xs k b y) (storedH us k b u) := by
  have e : (xs.any fun x => decide (x.1 = k)) = (atKey us k).isSome := by
    rw [valN_any, (xu_val r k).isSome_eq, Option.isSome_map]
  unfold putN storedH
  rw [e]
  by_cases q : (atKey us k).isSome = true
  · rw [if_pos q, if_pos q]
    clear e q
    induction r with
    | nil => exact .nil
    | @cons p q ps qs f t ih =>
      rw [List.map_cons, List.map_cons]
      refine .cons ?_ ih
      obtain ⟨h1, h2, h3⟩ := f
      unfold putAt
      by_cases e : p.1 = k
      · rw [if_pos e, if_pos (h1.symm.trans e)]; exact ⟨h1, h2, ry⟩
      · rw [if_neg e, if_neg (fun z => e (h1.trans z))]; exact ⟨h1, h2, h3⟩
  · rw [if_neg q, if_neg q]
    exact Paired.app r (.cons ⟨rfl, rfl, ry⟩ .nil)
theorem xu_drop {xs : List (NestedKey × Addr × V)} {us : List (NestedKey × Addr × Value)} (r : Paired XU xs us) (k : NestedKey) : Paired XU (dropN xs k) (withoutH us k) := by
  unfold dropN withoutH
  induction r with
  | nil => exact .nil
  | @cons p q ps qs f t ih =>
    obtain ⟨h1, h2, h3⟩ := f
    by_cases e : p.1 = k
    · have e' : q.1 = k := h1.symm.trans e
      rw [List.filter_cons_of_neg (by simp [e]), List.filter_cons_of_neg (by simp [e'])]
      exact ih
    · have e' : ¬ q.1 = k := fun z => e (h1.trans z)
      rw [List.filter_cons_of_pos (by simp [e]), List.filter_cons_of_pos (by simp [e'])]
      exact .cons ⟨h1, h2, h3⟩ ih
theorem length_putN (xs : List (NestedKey × Addr × V)) (k : NestedKey) (b : Addr) (v : V) : (putN xs k b v).length ≤ xs.length + 1 := by
  unfold putN
  split
  · rw [List.length_map]; omega
  · rw [List.length_append]; exact Nat.le_refl _
end
section
variable {X : Cx} {pins : List (Addr × Obj)} {σ : L2.St} {H : Hp} {s : Shared} {a b : Addr} {y v z : V} {u r : Value} {o : Option V} {A : Around} {E : Value → Shared → Prop} {xs : List (NestedKey × Addr × V)} {nk : NestedKey}
theorem nk_room (hu : A.units + 16 < cLine) : (nestedKind X.prog X.w).room A.in1 := by
  show A.in1.units + 8 < cLine
  have : A.in1.units = A.units + 1 := rfl
  omega
theorem nk_key (ok : HOk X.prog X.w H s.heap) (hb : Nk H (.ref b) nk) (hd : nk.depth ≤ 8) : (nestedKind X.prog X.w).is s.heap nk b := ⟨hb.is ok rfl, hd⟩
/-- an empty dict is a dict of tuple keys, too -/
theorem dk_nil (I : Inv X pins σ H s) (e : Rd H a (.dK [])) : (a == sysModules) = false ∧ s.heap.DictOfH (nestedKind X.prog X.w) a [] := by
  obtain ⟨_, hd, vs, rel, ob, es, ep, h1, h2, h3, h4, h5⟩ := dk_rd I.hok e
  cases rel
  refine ⟨hd, ob, es, ep, h1, h2, h3, ?_, fun _ hx => (nomatch hx), List.nodup_nil⟩
  obtain ⟨h5, _⟩ := h5
  generalize es.toList = l at h5 ⊢
  cases h5
  rfl
/-- what the dict at a holds at the key y -/
def GetA (w : World) (H : Hp) (a : Addr) (y : V) (r : Option V) : Prop := DGet H a y r ∨ ∃ xs nk b, (Rd H a (dN w a xs) ∨ (Rd H a (.dK []) ∧ xs = [])) ∧ NkAll H xs ∧ y = .ref b ∧ Nk H (.ref b) nk ∧ nk.depth ≤ 8 ∧ r = valN xs nk
theorem getA_of (I : Inv X pins σ H s) (g : Rd H a (dN X.w a xs) ∨ (Rd H a (.dK []) ∧ xs = [])) (hk : NkAll H xs) : xs.length ≤ sizeLine ∧ (a == sysModules) = false ∧ ∃ us, Paired XU xs us ∧ s.heap.DictOfH (nestedKind X.prog X.w) a us := by
  rcases g with g | ⟨g, rfl⟩
  · exact dn_rd I.hok g hk
  · obtain ⟨h1, h2⟩ := dk_nil I g
    exact ⟨Nat.zero_le _, h1, [], .nil, h2⟩
theorem getA_type (I : Inv X pins σ H s) (g : GetA X.w H a y o) : s.TypeIs (.ref a) "dict" ∧ ∀ b, Value.ref a = .ref b → ∃ ob, s.heap.get? b = some ob ∧ ob.dict = none := by
  rcases g with g | ⟨xs, nk, b, g, hk, _⟩
  · exact ⟨dict_typeIs I g, dict_noDict I g⟩
  · obtain ⟨_, _, us, _, dd⟩ := getA_of I g hk
    refine ⟨dd.typeIs, fun c q => ?_⟩
    cases q
    obtain ⟨ob, _, _, h1, h2, _⟩ := dd
    exact ⟨ob, h1, h2.2.1⟩
theorem a_getItem {Q : Value → Shared → Prop} (hu : A.units + 16 < cLine) (I : Inv X pins σ H s) (g : GetA X.w H a y (some v)) (ry : RelV y u) (h : ∀ w' s', Inv X pins σ H s' → RelV v w' → Q w' s') :
    wpAny (model X.prog X.w) A (getItem (.ref a) u) Q E s := by
  rcases g with g | ⟨xs, nk, b, g, hk, rfl, hb, hd, l⟩
  · exact d_getItem (by omega) I g ry h
  · cases (show u = Value.ref b from ry)
    obtain ⟨z, _, us, rel, dd⟩ := getA_of I g hk
    obtain ⟨w', hw, rw'⟩ := RelO.some_of (v := v) (o := (atKey us nk).map (·.2)) (by rw [l]; exact xu_val rel nk)
    obtain ⟨p, hp, hp2⟩ := Option.map_eq_some_iff.mp hw
    refine wpAny_getItem_heap (nk_room (X := X) hu) (nk_key I.hok hb hd) dd hp ?_
    rw [hp2]
    exact h w' _ (I.tok _) rw'
theorem a_in {Q : Value → Shared → Prop} (hu : A.units + 16 < cLine) (I : Inv X pins σ H s) (g : GetA X.w H a y o) (ry : RelV y u) (h : ∀ s', Inv X pins σ H s' → Q (.bool o.isSome) s') :
    wpAny (model X.prog X.w) A (compareOp .In u (.ref a)) Q E s := by
  rcases g with g | ⟨xs, nk, b, g, hk, rfl, hb, hd, l⟩
  · exact d_in (by omega) I g ry h
  · cases (show u = Value.ref b from ry)
    obtain ⟨z, hm, us, rel, dd⟩ := getA_of I g hk
    refine wpAny_in_heap (nk_room (X := X) hu) (nk_key I.hok hb hd) hm dd ?_
    have q := (xu_val rel nk).isSome_eq
    rw [Option.isSome_map] at q
    rw [← q, ← l]
    exact h _ (I.tok _)
theorem a_notIn {Q : Value → Shared → Prop} (hu : A.units + 16 < cLine) (I : Inv X pins σ H s) (g : GetA X.w H a y o) (ry : RelV y u) (h : ∀ s', Inv X pins σ H s' → Q (.bool (!o.isSome)) s') :
    wpAny (model X.prog X.w) A (compareOp .NotIn u (.ref a)) Q E s := by
  rcases g with g | ⟨xs, nk, b, g, hk, rfl, hb, hd, l⟩
  · exact d_notIn (by omega) I g ry h
  · cases (show u = Value.ref b from ry)
    obtain ⟨z, hm, us, rel, dd⟩ := getA_of I g hk
    refine wpAny_notIn_heap (nk_room (X := X) hu) (nk_key I.hok hb hd) hm dd ?_
    have q := (xu_val rel nk).isSome_eq
    rw [Option.isSome_map] at q
    rw [← q, ← l]
    exact h _ (I.tok _)
theorem a_get1 {Q : Value → Shared → Prop} (hu : A.units + 16 < cLine) (I : Inv X pins σ H s) (g : GetA X.w H a y o) (ry : RelV y u) (h : ∀ w' s', Inv X pins σ H s' → RelV (o.getD .non) w' → Q w' s') :
    wpAny (model X.prog X.w) A (call (.builtin "dict.get") [.ref a, u]) Q E s := by
  rcases g with g | ⟨xs, nk, b, g, hk, rfl, hb, hd, l⟩
  · exact d_get1 (by omega) I g ry h
  · cases (show u = Value.ref b from ry)
    obtain ⟨z, hm, us, rel, dd⟩ := getA_of I g hk
    refine call_meetsIn PySem.F.slot_dict_get dd.typeIs PySem.F.entry_dict_get (PySem.F.args_dict_get_2 _ _) (meetsH_dict_get (nestedKind X.prog X.w) a b hm) ⟨nk_room (X := X) hu, nk, us, nk_key I.hok hb hd, dd, h _ _ (I.tok _) ?_⟩
    rw [l]
    exact (xu_val rel nk).getD rfl
theorem a_get2 {Q : Value → Shared → Prop} (hu : A.units + 16 < cLine) (I : Inv X pins σ H s) (g : GetA X.w H a y o) (ry : RelV y u) (rd : RelV z r) (h : ∀ w' s', Inv X pins σ H s' → RelV (o.getD z) w' → Q w' s') :
    wpAny (model X.prog X.w) A (call (.builtin "dict.get") [.ref a, u, r]) Q E s := by
  rcases g with g | ⟨xs, nk, b, g, hk, rfl, hb, hd, l⟩
  · exact d_get2 (by omega) I g ry rd h
  · cases (show u = Value.ref b from ry)
    obtain ⟨z, hm, us, rel, dd⟩ := getA_of I g hk
    refine call_meetsIn PySem.F.slot_dict_get dd.typeIs PySem.F.entry_dict_get (PySem.F.args_dict_get_3 _ _ _) (meetsH_dict_get_default (nestedKind X.prog X.w) a b hm r) ⟨nk_room (X := X) hu, nk, us, nk_key I.hok hb hd, dd, h _ _ (I.tok _) ?_⟩
    rw [l]
    exact (xu_val rel nk).getD rd
/-- the heap behind a[y] = v -/
def PutA (w : World) (H : Hp) (a : Addr) (y v : V) (H' : Hp) : Prop := DPut H a y v H' ∨ ∃ xs nk b, (H a = some (dN w a xs) ∨ (H a = some (.dK []) ∧ xs = [])) ∧ NkAll H xs ∧ y = .ref b ∧ Nk H (.ref b) nk ∧ nk.depth ≤ 8 ∧ xs.length < sizeLine ∧ H' = upd H a (dN w a (putN xs nk b v))
theorem rds_of (g : H a = some (dN X.w a xs) ∨ (H a = some (.dK []) ∧ xs = [])) : (Rd H a (dN X.w a xs) ∨ (Rd H a (.dK []) ∧ xs = [])) ∧ Mut (H a) := by
  rcases g with g | ⟨g, e⟩
  · exact ⟨.inl (.inl g), by rw [g]; exact True.intro⟩
  · exact ⟨.inr ⟨.inl g, e⟩, by rw [g]; exact True.intro⟩
theorem a_setItem {H' : Hp} {Q : Unit → Shared → Prop} (hu : A.units + 16 < cLine) (I : Inv X pins σ H s) (g : PutA X.w H a y v H') (ry : RelV y u) (rv : RelV v r) (h : ∀ s', Inv X pins σ H' s' → Q () s') :
    wpAny (model X.prog X.w) A (setItem (.ref a) u r) Q E s := by
  rcases g with g | ⟨xs, nk, b, g, hk, rfl, hb, hd, l, rfl⟩
  · exact d_setItem (by omega) I g ry rv h
  · cases (show u = Value.ref b from ry)
    obtain ⟨g1, mu⟩ := rds_of g
    obtain ⟨z, hm, us, rel, dd⟩ := getA_of I g1 hk
    have hz : us.length ≤ sizeLine := by rw [← Paired.length rel]; exact z
    have hl : (putN xs nk b v).length ≤ sizeLine := by have := length_putN xs nk b v; omega
    refine wpAny_setItem_heap (hsz := hz) (nk_room (X := X) hu) (nk_key I.hok hb hd) dd fun h' dd' hs => h _ ?_
    have he : ∃ q, h'.get? a = some q := let ⟨q, _, _, hq, _⟩ := dd'; ⟨q, hq⟩
    exact d_write I mu hs he (dn_ok hl hm (xu_put rel nk rv) dd')
/-- an empty dict is one of whole numbers and texts -/
def dNe (w : World) (a : Addr) (xs : List (NestedKey × Addr × V)) : HO := match xs with
  | [] => .dK []
  | _ => dN w a xs
theorem dne_ok {P : Program} {w : World} {us : List (NestedKey × Addr × Value)} {h' : Heap} {H' : Hp} (z : xs.length ≤ sizeLine) (y : (a == sysModules) = false) (r : Paired XU xs us) (d : h'.DictOfH (nestedKind P w) a us) : ObjOk P w H' h' a (dNe w a xs) := by
  cases xs with
  | nil =>
    cases r
    obtain ⟨o, es, ep, h1, h2, h3, h4, _, h5⟩ := d
    refine ⟨Nat.zero_le _, y, [], .nil, o, es, ep, h1, h2, h3, fun e he => ?_, ?_, List.nodup_nil⟩
    · have : es.toList = [] := h4
      rw [← Array.mem_toList_iff, this] at he
      cases he
    · have : es.toList = [] := h4
      rw [this]
      exact .nil
  | cons x xs => exact dn_ok z y r d
/-- the heap behind del a[y] -/
def DelA (w : World) (H : Hp) (a : Addr) (y : V) (v : V) (H' : Hp) : Prop := (∃ kvs k, H a = some (.dK kvs) ∧ y = kV k ∧ valV kvs k = some v ∧ H' = upd H a (.dK (dropK kvs k))) ∨
  ∃ xs nk b, H a = some (dN w a xs) ∧ NkAll H xs ∧ y = .ref b ∧ Nk H (.ref b) nk ∧ nk.depth ≤ 8 ∧ valN xs nk = some v ∧ H' = upd H a (dNe w a (dropN xs nk))
theorem a_delItem {H' : Hp} {Q : Unit → Shared → Prop} (hu : A.units + 16 < cLine) (I : Inv X pins σ H s) (g : DelA X.w H a y v H') (ry : RelV y u) (h : ∀ s', Inv X pins σ H' s' → Q () s') :
    wpAny (model X.prog X.w) A (delItem (.ref a) u) Q E s := by
  rcases g with ⟨kvs, k, e, rfl, l, rfl⟩ | ⟨xs, nk, b, e, hk, rfl, hb, hd, l, rfl⟩
  · exact d_delItem I e ry (by rw [l]; rfl) h
  · cases (show u = Value.ref b from ry)
    obtain ⟨z, hm, us, rel, dd⟩ := getA_of I (.inl (.inl e)) hk
    obtain ⟨w', hw, _⟩ := RelO.some_of (v := v) (o := (atKey us nk).map (·.2)) (by rw [← l]; exact xu_val rel nk)
    obtain ⟨p, hp, _⟩ := Option.map_eq_some_iff.mp hw
    refine wpAny_delItem_heap (nk_room (X := X) hu) (nk_key I.hok hb hd) hm dd hp (hsz := by rw [← Paired.length rel]; exact z) fun h' dd' hs => h _ ?_
    have he : ∃ q, h'.get? a = some q := let ⟨q, _, _, hq, _⟩ := dd'; ⟨q, hq⟩
    exact d_write I (by rw [e]; exact True.intro) hs he (dne_ok (Nat.le_trans (List.length_filter_le _ _) z) hm (xu_drop rel nk) dd')
theorem a_pop {more : List Value} {H' : Hp} {Q : Value → Shared → Prop} (hu : A.units + 16 < cLine) (I : Inv X pins σ H s) (g : DelA X.w H a y v H') (ry : RelV y u) (hm : more = [] ∨ ∃ x, more = [x]) (h : ∀ w' s', Inv X pins σ H' s' → RelV v w' → Q w' s') :
    wpAny (model X.prog X.w) A (call (.builtin "dict.pop") (.ref a :: u :: more)) Q E s := by
  rcases g with ⟨kvs, k, e, rfl, l, rfl⟩ | ⟨xs, nk, b, e, hk, rfl, hb, hd, l, rfl⟩
  · exact d_pop I e ry l hm h
  · cases (show u = Value.ref b from ry)
    obtain ⟨z, hmm, us, rel, dd⟩ := getA_of I (.inl (.inl e)) hk
    obtain ⟨w', hw, rw'⟩ := RelO.some_of (v := v) (o := (atKey us nk).map (·.2)) (by rw [← l]; exact xu_val rel nk)
    obtain ⟨p, hp, hp2⟩ := Option.map_eq_some_iff.mp hw
    have ha : argsOk "dict.pop" ⟨.ref a :: .ref b :: more, []⟩ := by
      rcases hm with q | ⟨x, q⟩
      · subst q; exact PySem.F.args_dict_pop_2 _ _
      · subst q; exact PySem.F.args_dict_pop_3 _ _ _
    refine call_pop_heap hm ha (nk_room (X := X) hu) (nk_key I.hok hb hd) hmm dd hp (hsz := by rw [← Paired.length rel]; exact z) fun h' dd' hs => ?_
    have he : ∃ q, h'.get? a = some q := let ⟨q, _, _, hq, _⟩ := dd'; ⟨q, hq⟩
    rw [hp2]
    exact h w' _ (d_write I (by rw [e]; exact True.intro) hs he (dne_ok (Nat.le_trans (List.length_filter_le _ _) z) hmm (xu_drop rel nk) dd')) rw'
end
end DL

set_option Elab.async false
set_option linter.all false
set_option maxRecDepth 100000
set_option maxHeartbeats 4000000
/-! ## operations on values -/
namespace DL
open PySem PySem.Spec PyProof.Rows L2
/-! ### rules -/
section
variable {X : Cx}
def rGetA (w : World) : R2 := fun x y H Q => ∃ a v, x = .ref a ∧ GetA w H a y (some v) ∧ Q v H
theorem ix_dictA (hu : X.A.units + 16 < cLine) : IxR X (rGetA X.w) := by
  intro value slice pins s σ H x y v u Q I rx ry h hs
  obtain ⟨a, z, rfl, g, q⟩ := h
  cases rx
  exact tail_any (getA_type I g).1 PySem.F.slot_dict_getitem.lookup (a_getItem hu I g ry fun w' s3 I3 rw' => ⟨z, H, I3, rw', q⟩) hs
def rIxA (K : PySem.W.Frag) (w : World) : R2 := fun x y H Q => rIx K x y H Q ∨ rGetA w x y H Q
theorem ixA (K : PySem.W.Frag) (w : World) (hu : X.A.units + 16 < cLine) (hK : X.K = K := by rfl) (hw : X.w = w := by rfl) : IxR X (rIxA K w) := by
  subst hK hw
  exact ix_seq.or (ix_dictA hu)
def rInA (K : PySem.W.Frag) (w : World) (neg : Bool) : R2 := fun x y H Q => (∃ a o, y = .ref a ∧ GetA w H a x o ∧ Q (.bl (if neg then !o.isSome else o.isSome)) H) ∨ rIn K neg x y H Q ∨ (if neg then rNotInD K x y H Q else rInD K x y H Q) ∨
  ∃ i j, x = .str i ∧ y = .str j ∧ Q (.bl (if neg then !(!(Builtin.Str.occurrences j i 0 j.length 1).isEmpty) else (!(Builtin.Str.occurrences j i 0 j.length 1).isEmpty))) H
theorem inA (K : PySem.W.Frag) (w : World) (hu : X.A.units + 65 < cLine) (hK : X.K = K := by rfl) (hw : X.w = w := by rfl) : OpR X (compareOp .In) (rInA K w false) := by
  subst hK hw
  intro pins s σ H x y v u Q I rx ry h
  rcases h with ⟨a, o, rfl, g, q⟩ | h | h | h
  · cases ry
    exact a_in (by omega) I g rx fun s3 I3 => ⟨.bl o.isSome, H, I3, rfl, q⟩
  · exact op_in_seq pins s σ H x y v u Q I rx ry h
  · exact op_inD hu pins s σ H x y v u Q I rx ry h
  · exact op_in_str pins s σ H x y v u Q I rx ry h
theorem notInA (K : PySem.W.Frag) (w : World) (hu : X.A.units + 65 < cLine) (hK : X.K = K := by rfl) (hw : X.w = w := by rfl) : OpR X (compareOp .NotIn) (rInA K w true) := by
  subst hK hw
  intro pins s σ H x y v u Q I rx ry h
  rcases h with ⟨a, o, rfl, g, q⟩ | h | h | h
  · cases ry
    exact a_notIn (by omega) I g rx fun s3 I3 => ⟨.bl (!o.isSome), H, I3, rfl, q⟩
  · exact op_notIn_seq pins s σ H x y v u Q I rx ry h
  · exact op_notInD hu pins s σ H x y v u Q I rx ry h
  · exact op_notin_str pins s σ H x y v u Q I rx ry h
def rEqA (K : PySem.W.Frag) : R2 := fun x y H Q => rEq x y H Q ∨ rEqD K x y H Q
def rNeA (K : PySem.W.Frag) : R2 := fun x y H Q => rNe x y H Q ∨ rNeD K x y H Q
theorem eqA (K : PySem.W.Frag) (hu : X.A.units + 64 < cLine) (hK : X.K = K := by rfl) : OpR X (compareOp .Eq) (rEqA K) := by
  subst hK
  exact op_eq.or (op_eqD hu)
theorem neA (K : PySem.W.Frag) (hu : X.A.units + 64 < cLine) (hK : X.K = K := by rfl) : OpR X (compareOp .NotEq) (rNeA K) := by
  subst hK
  exact op_ne.or (op_neD hu)
def rLtA (K : PySem.W.Frag) : R2 := fun x y H Q => rLtIS x y H Q ∨ rLtD K x y H Q
theorem ltA (K : PySem.W.Frag) (hu : X.A.units + 64 < cLine) (hK : X.K = K := by rfl) : OpR X (compareOp .Lt) (rLtA K) := ltIS.or (ltD K hu hK)
def rLeA (K : PySem.W.Frag) : R2 := fun x y H Q => (rI0 fun i j => .bl (decide (i ≤ j))) x y H Q ∨ rLeD K x y H Q
theorem leA (K : PySem.W.Frag) (hu : X.A.units + 64 < cLine) (hK : X.K = K := by rfl) : OpR X (compareOp .LtE) (rLeA K) := op_le.or (leD K hu hK)
def rAddA (K : PySem.W.Frag) : R2 := fun x y H Q => (rI0 fun i j => .int (i + j)) x y H Q ∨ rCat x y H Q ∨ rCatA K x y H Q ∨ ∃ i j, x = .str i ∧ y = .str j ∧ i.length + j.length ≤ sizeLine ∧ Q (.str (i ++ j)) H
theorem addA (K : PySem.W.Frag) (hK : X.K = K := by rfl) : OpR X (binaryOp .Add) (rAddA K) := op_add.or (op_cat.or ((catAK K hK).or op_add_str))
def rMulA : R2 := fun x y H Q => (rI CMul fun i j => .int (i * j)) x y H Q
end
/-! ### values read -/
def lstOf (W : Ms) : Vl → Option (List Vl)
  | .d (.lst l) => some (l.map Vl.d)
  | .mu n => match W[n]? with
    | some (.lst l) => some l
    | _ => none
  | _ => none
def dctOf (W : Ms) : Vl → Option (List (D × Vl))
  | .d (.dct l) => some (l.map fun p => (p.1, .d p.2))
  | .mu n => match W[n]? with
    | some (.dct l) => some l
    | some (.lk l) => some l
    | _ => none
  | _ => none
def strOf : Vl → Option Str
  | .d (.str s) => some s
  | _ => none
def intOf : Vl → Option Int
  | .d (.int i) => some i
  | _ => none
open Classical in
noncomputable def getK {α : Type} : List (D × α) → D → Option α
  | [], _ => none
  | (k', v) :: l, k => if k' = k then some v else getK l k
open Classical in
noncomputable def putKD {α : Type} (k : D) (v : α) (l : List (D × α)) : List (D × α) :=
  if ∃ p ∈ l, p.1 = k then l.map (fun p => if p.1 = k then (p.1, v) else p) else l ++ [(k, v)]
open Classical in
noncomputable def delKD {α : Type} (k : D) (l : List (D × α)) : List (D × α) := l.filter fun p => decide (p.1 ≠ k)
def isTupD : D → Bool
  | .tup _ => true
  | _ => false
def keyOk : D → Bool
  | .int _ => true
  | .str _ => true
  | .tup l => match nkOf (.tup l) with
    | some nk => decide (nk.depth ≤ 8)
    | none => false
  | _ => false
/-- a key of the dict's own kind -/
def kindOk {α : Type} : List (D × α) → D → Bool
  | [], _ => true
  | (k0, _) :: _, k => isTupD k0 == isTupD k
def okKey {α : Type} (l : List (D × α)) (k : D) : Bool := keyOk k && kindOk l k
section
variable {K : Fr} {TB : List (Addr × Str)} {E : XK} {ws : List Addr} {G H : Hp} {W : Ms} {Q : VK} {v : V} {x : Vl}
theorem lst_at {l : List Vl} (c : Cf K TB ws G H W) (r : RpV K ws G v x) (h : lstOf W x = some l) : ∃ a vs, v = .ref a ∧ H a = some (.lst vs) ∧ RpVs K ws G vs l := by
  cases r with
  | d r =>
    cases r with
    | lst e rl => cases h; exact ⟨_, _, rfl, c.g _ _ e, rl.vs⟩
    | _ => cases h
  | @mu a n e =>
    simp only [lstOf] at h
    cases q : W[n]? with
    | none => rw [q] at h; cases h
    | some m =>
      rw [q] at h
      cases m with
      | lst l' =>
        cases h
        obtain ⟨_, vs, e1, rv⟩ := c.ob n a _ e q (by simp)
        exact ⟨a, vs, rfl, e1, rv⟩
      | _ => cases h
theorem RpK.vk : ∀ {kvs : List (Key × V)} {l : List (D × D)}, RpK K G kvs l → RpVK K ws G kvs (l.map fun p => (p.1, .d p.2))
  | _, _, .nil => .nil
  | _, _, .cons h t => .cons ⟨rfl, .d h⟩ (RpK.vk t)
theorem RpN.vn : ∀ {kvs : List (NestedKey × Addr × V)} {l : List (D × D)}, RpN K G kvs l → RpVN K ws G kvs (l.map fun p => (p.1, .d p.2))
  | _, _, .nil => .nil
  | _, _, .cons h0 h1 h2 h t => .cons ⟨⟨h0, h1, h2⟩, .d h⟩ (RpN.vn t)
theorem rd_up (c : Cf K TB ws G H W) {a : Addr} {u : HO} (h : Rd G a u) : Rd H a u := h.elim (fun e => .inl (c.g _ _ e)) fun ⟨o, e⟩ => .inr ⟨o, c.g _ _ e⟩
theorem dct_at {l : List (D × Vl)} (c : Cf K TB ws G H W) (r : RpV K ws G v x) (h : dctOf W x = some l) : ∃ a, v = .ref a ∧ ((∃ kvs, Rd H a (.dK kvs) ∧ RpVK K ws G kvs l) ∨ ∃ kvs, Rd H a (dN K.w a kvs) ∧ RpVN K ws G kvs l ∧ l ≠ []) := by
  cases r with
  | d r =>
    cases r with
    | dct e rl => cases h; exact ⟨_, rfl, .inl ⟨_, rd_up c e, rl.vk⟩⟩
    | dcN e n rl => cases h; exact ⟨_, rfl, .inr ⟨_, rd_up c e, rl.vn, fun z => n (List.map_eq_nil_iff.mp z)⟩⟩
    | _ => cases h
  | @mu a n e =>
    simp only [dctOf] at h
    cases q : W[n]? with
    | none => rw [q] at h; cases h
    | some m =>
      rw [q] at h
      cases m with
      | dct l' =>
        cases h
        obtain ⟨_, hm⟩ := c.ob n a _ e q (by simp)
        rcases hm with ⟨kvs, e1, rv⟩ | ⟨kvs, e1, rv, nl⟩
        · exact ⟨a, rfl, .inl ⟨kvs, .inl e1, rv⟩⟩
        · exact ⟨a, rfl, .inr ⟨kvs, .inl e1, rv, nl⟩⟩
      | lk l' =>
        cases h
        obtain ⟨_, hm⟩ := c.ob n a _ e q (by simp)
        rcases hm with ⟨ob, kvs, e1, rv⟩ | ⟨ob, kvs, e1, rv, nl⟩
        · exact ⟨a, rfl, .inl ⟨kvs, .inr ⟨ob, e1⟩, rv⟩⟩
        · exact ⟨a, rfl, .inr ⟨kvs, .inr ⟨ob, e1⟩, rv, nl⟩⟩
      | _ => cases h
mutual
theorem Rp.nk (s : Same G H) : ∀ {v : V} {x : D} {k : NestedKey}, Rp K G v x → nkOf x = some k → Nk H v k
  | _, _, _, .non, h => by cases h; exact .non
  | _, _, _, .int i, h => by cases h; exact .num i
  | _, _, _, .str i, h => by cases h; exact .text i
  | _, _, k, .tup (l := l) e r, h => by
    simp only [nkOf] at h
    cases q : nkL l with
    | none => rw [q] at h; cases h
    | some ks =>
      rw [q] at h
      cases h
      exact .tup (s _ _ e) (RpL.nk s r q)
  | _, _, _, .bl b, h => by simp [nkOf] at h
  | _, _, _, .tupK _ _, h => by simp [nkOf] at h
  | _, _, _, .lstK _ _, h => by simp [nkOf] at h
  | _, _, _, .lst _ _, h => by simp [nkOf] at h
  | _, _, _, .dct _ _, h => by simp [nkOf] at h
  | _, _, _, .dcN _ _ _, h => by simp [nkOf] at h
  | _, _, _, .ins _ _ _, h => by simp [nkOf] at h
  | _, _, _, .cls _, h => by simp [nkOf] at h
theorem RpL.nk (s : Same G H) : ∀ {vs : List V} {l : List D} {ks : List NestedKey}, RpL K G vs l → nkL l = some ks → NkL H vs ks
  | _, _, _, .nil, h => by cases h; exact .nil
  | _, _, _, .cons (x := x) (l := l) r t, h => by
    simp only [nkL] at h
    cases q : nkOf x with
    | none => rw [q] at h; cases h
    | some k =>
      cases q2 : nkL l with
      | none => rw [q, q2] at h; cases h
      | some ks =>
        rw [q, q2] at h
        cases h
        exact .cons (Rp.nk s r q) (RpL.nk s t q2)
end
mutual
theorem nk_inj : ∀ (x y : D) (k : NestedKey), nkOf x = some k → nkOf y = some k → x = y
  | .non, y, k, h, h2 => by
    cases h
    cases y <;> simp [nkOf] at h2
    rfl
  | .int i, y, k, h, h2 => by
    cases h
    cases y <;> simp [nkOf] at h2
    rw [h2]
  | .str i, y, k, h, h2 => by
    cases h
    cases y <;> simp [nkOf] at h2
    rw [h2]
  | .tup l, y, k, h, h2 => by
    simp only [nkOf] at h
    cases q : nkL l with
    | none => rw [q] at h; cases h
    | some ks =>
      rw [q] at h
      cases h
      cases y with
      | tup l2 =>
        simp only [nkOf] at h2
        cases q2 : nkL l2 with
        | none => rw [q2] at h2; cases h2
        | some ks2 =>
          rw [q2] at h2
          cases h2
          rw [nkL_inj l l2 ks q q2]
      | _ => simp [nkOf] at h2
  | .bl b, _, _, h, _ => by simp [nkOf] at h
  | .tupK _, _, _, h, _ => by simp [nkOf] at h
  | .lstK _, _, _, h, _ => by simp [nkOf] at h
  | .lst _, _, _, h, _ => by simp [nkOf] at h
  | .dct _, _, _, h, _ => by simp [nkOf] at h
  | .ins _ _, _, _, h, _ => by simp [nkOf] at h
  | .cls _, _, _, h, _ => by simp [nkOf] at h
theorem nkL_inj : ∀ (x y : List D) (k : List NestedKey), nkL x = some k → nkL y = some k → x = y
  | [], y, k, h, h2 => by
    cases h
    cases y with
    | nil => rfl
    | cons a l =>
      simp only [nkL] at h2
      split at h2 <;> cases h2
  | a :: l, y, k, h, h2 => by
    simp only [nkL] at h
    cases q : nkOf a with
    | none => rw [q] at h; cases h
    | some k1 =>
      cases q2 : nkL l with
      | none => rw [q, q2] at h; cases h
      | some ks =>
        rw [q, q2] at h
        cases h
        cases y with
        | nil => cases h2
        | cons b l2 =>
          simp only [nkL] at h2
          cases p : nkOf b with
          | none => rw [p] at h2; cases h2
          | some k3 =>
            cases p2 : nkL l2 with
            | none => rw [p, p2] at h2; cases h2
            | some ks3 =>
              rw [p, p2] at h2
              cases h2
              rw [nk_inj a b _ q p, nkL_inj l l2 _ q2 p2]
end
theorem kD_inj {a b : Key} (h : kD a = kD b) : a = b := by
  cases a <;> cases b <;> first | (injection h with h; rw [h]) | cases h
theorem vk_get (k : Key) : ∀ {kvs : List (Key × V)} {l : List (D × Vl)}, RpVK K ws G kvs l → (getK l (kD k) = none → valV kvs k = none) ∧ ∀ y, getK l (kD k) = some y → ∃ v, valV kvs k = some v ∧ RpV K ws G v y
  | _, _, .nil => ⟨fun _ => rfl, fun y h => nomatch h⟩
  | (k1, v1) :: kvs, (d1, y1) :: l, .cons ⟨h1, h2⟩ t => by
    obtain ⟨i1, i2⟩ := vk_get k t
    obtain rfl : d1 = kD k1 := h1
    unfold getK
    by_cases e : k1 = k
    · subst e
      rw [if_pos rfl, valV_pos rfl]
      exact ⟨fun h => (nomatch h), fun y h => by cases h; exact ⟨_, rfl, h2⟩⟩
    · rw [if_neg (fun z => e (kD_inj z)), valV_neg e]
      exact ⟨i1, i2⟩
theorem vn_get {k : D} {nk : NestedKey} (hk : nkOf k = some nk) : ∀ {kvs : List (NestedKey × Addr × V)} {l : List (D × Vl)}, RpVN K ws G kvs l → (getK l k = none → valN kvs nk = none) ∧ ∀ y, getK l k = some y → ∃ v, valN kvs nk = some v ∧ RpV K ws G v y
  | _, _, .nil => ⟨fun _ => rfl, fun y h => nomatch h⟩
  | (n1, b1, v1) :: kvs, (d1, y1) :: l, .cons ⟨⟨h0, h1, h3⟩, h2⟩ t => by
    obtain ⟨i1, i2⟩ := vn_get hk t
    unfold getK valN
    by_cases e : n1 = nk
    · have ed : d1 = k := nk_inj _ _ _ (h1.trans (congrArg some e)) hk
      rw [if_pos ed, if_pos e]
      exact ⟨fun h => (nomatch h), fun y h => by cases h; exact ⟨_, rfl, h2⟩⟩
    · rw [if_neg (fun z => e (by subst z; rw [hk] at h1; exact (Option.some.inj h1).symm)), if_neg e]
      exact ⟨i1, i2⟩
theorem nk_all (s : Same G H) {kvs : List (NestedKey × Addr × V)} {l : List (D × Vl)} (r : RpVN K ws G kvs l) : NkAll H kvs := by
  induction r with
  | nil => exact fun _ h => nomatch h
  | cons h t ih =>
    intro x hx
    rcases List.mem_cons.mp hx with e | hx
    · subst e; exact ⟨h.1.1.nk s h.1.2.1, h.1.2.2⟩
    · exact ih x hx
theorem vn_kind {kvs : List (NestedKey × Addr × V)} {l : List (D × Vl)} {k : D} (rn : RpVN K ws G kvs l) (nl : l ≠ []) (hk : isTupD k = false) : ¬ kindOk l k = true := by
  cases rn with
  | nil => exact absurd rfl nl
  | @cons p q _ _ hh t =>
    obtain ⟨p1, b, p2⟩ := p
    obtain ⟨q1, q2⟩ := q
    obtain ⟨⟨h0, h1, _⟩, _⟩ := hh
    have e : isTupD q1 = true := by
      simp only at h0 h1
      cases h0 with
      | tup _ _ => rfl
      | _ => simp [nkOf] at h1
    simp [kindOk, e, hk]
/-- what a dict holds at a key of its own kind -/
theorem get_at {y : V} {k : D} {l : List (D × Vl)} (c : Cf K TB ws G H W) (r : RpV K ws G v x) (h : dctOf W x = some l) (ry : RpV K ws G y (.d k)) (hk : okKey l k = true) :
    ∃ a, v = .ref a ∧ (getK l k = none → GetA K.w H a y none) ∧ ∀ z, getK l k = some z → ∃ u, GetA K.w H a y (some u) ∧ RpV K ws G u z := by
  obtain ⟨a, rfl, hd⟩ := dct_at c r h
  refine ⟨a, rfl, ?_⟩
  simp only [okKey, Bool.and_eq_true] at hk
  obtain ⟨hk1, hk2⟩ := hk
  cases ry with
  | d ry =>
  cases ry with
  | int i =>
    rcases hd with ⟨kvs, e, rk⟩ | ⟨kvs, e, rn, nl⟩
    · obtain ⟨g1, g2⟩ := vk_get (Sum.inl i) rk
      exact ⟨fun q => .inl (.inl ⟨kvs, Sum.inl i, e, rfl, (g1 q).symm⟩), fun z q => by
        obtain ⟨u, q1, q2⟩ := g2 z q
        exact ⟨u, .inl (.inl ⟨kvs, Sum.inl i, e, rfl, q1.symm⟩), q2⟩⟩
    · exact absurd hk2 (vn_kind rn nl rfl)
  | str i =>
    rcases hd with ⟨kvs, e, rk⟩ | ⟨kvs, e, rn, nl⟩
    · obtain ⟨g1, g2⟩ := vk_get (Sum.inr i) rk
      exact ⟨fun q => .inl (.inl ⟨kvs, Sum.inr i, e, rfl, (g1 q).symm⟩), fun z q => by
        obtain ⟨u, q1, q2⟩ := g2 z q
        exact ⟨u, .inl (.inl ⟨kvs, Sum.inr i, e, rfl, q1.symm⟩), q2⟩⟩
    · exact absurd hk2 (vn_kind rn nl rfl)
  | @tup b vs l' e0 rl =>
    simp only [keyOk] at hk1
    cases q0 : nkOf (.tup l') with
    | none => rw [q0] at hk1; cases hk1
    | some nk =>
      rw [q0] at hk1
      have hdp : nk.depth ≤ 8 := of_decide_eq_true hk1
      have hnk : Nk H (.ref b) nk := Rp.nk c.g (.tup e0 rl) q0
      rcases hd with ⟨kvs, e, rk⟩ | ⟨kvs, e, rn, nl⟩
      · cases rk with
        | nil => exact ⟨fun _ => .inr ⟨[], nk, b, .inr ⟨e, rfl⟩, fun _ h => (nomatch h), rfl, hnk, hdp, rfl⟩, fun z q => nomatch q⟩
        | @cons p q _ _ hh t =>
          obtain ⟨p1, p2⟩ := p
          obtain ⟨q1, q2⟩ := q
          obtain ⟨h1, _⟩ := hh
          obtain rfl : q1 = kD p1 := h1
          cases p1 <;> simp [kindOk, kD, isTupD] at hk2
      · obtain ⟨g1, g2⟩ := vn_get q0 rn
        exact ⟨fun q => .inr ⟨kvs, nk, b, .inl e, nk_all c.g rn, rfl, hnk, hdp, (g1 q).symm⟩, fun z q => by
          obtain ⟨u, q1, q2⟩ := g2 z q
          exact ⟨u, .inr ⟨kvs, nk, b, .inl e, nk_all c.g rn, rfl, hnk, hdp, q1.symm⟩, q2⟩⟩
  | _ => simp [keyOk] at hk1
end
end DL

set_option Elab.async false
set_option linter.all false
set_option maxRecDepth 100000
set_option maxHeartbeats 4000000
/-! ## operations on values: what they give -/
namespace DL
open PySem PySem.Spec PyProof.Rows L2
mutual
def D.ok : D → Bool
  | .non => true
  | .int _ => true
  | .str s => PyData.strOk s
  | .tup l => okL l
  | .lst l => okL l
  | _ => false
def okL : List D → Bool
  | [] => true
  | x :: l => D.ok x && okL l
end
mutual
def D.dep : D → Nat
  | .tup l => depL l + 1
  | .lst l => depL l + 1
  | _ => 0
def depL : List D → Nat
  | [] => 0
  | x :: l => max (D.dep x) (depL l)
end
mutual
def toP : D → PyData
  | .non => .none
  | .bl b => .bool b
  | .int i => .int i
  | .str s => .str s
  | .tup l => .tuple (toPs l)
  | .lst l => .list (toPs l)
  | _ => .none
def toPs : List D → List PyData
  | [] => []
  | x :: l => toP x :: toPs l
end
mutual
theorem toP_lay : ∀ x : D, x.ok = true → (toP x).canLay0 = true
  | .non, _ => rfl
  | .int i, _ => rfl
  | .str s, h => by simpa [toP, PyData.canLay0, D.ok] using h
  | .tup l, h => by
    simp only [toP, PyData.canLay0]
    exact toPs_lay l (by simpa [D.ok] using h)
  | .lst l, h => by
    simp only [toP, PyData.canLay0]
    exact toPs_lay l (by simpa [D.ok] using h)
  | .bl _, h => by simp [D.ok] at h
  | .tupK _, h => by simp [D.ok] at h
  | .lstK _, h => by simp [D.ok] at h
  | .dct _, h => by simp [D.ok] at h
  | .ins _ _, h => by simp [D.ok] at h
  | .cls _, h => by simp [D.ok] at h
theorem toPs_lay : ∀ l : List D, okL l = true → PyData.canLayAll0 (toPs l) = true
  | [], _ => rfl
  | x :: l, h => by
    simp only [okL, Bool.and_eq_true] at h
    simp only [toPs, PyData.canLayAll0, toP_lay x h.1, toPs_lay l h.2, Bool.and_self]
end
mutual
theorem toP_dep : ∀ x : D, x.ok = true → (toP x).depth = x.dep
  | .non, _ => by simp [toP, PyData.depth, D.dep]
  | .int i, _ => by simp [toP, PyData.depth, D.dep]
  | .str s, h => by simp [toP, PyData.depth, D.dep]
  | .tup l, h => by simp [toP, PyData.depth, D.dep, toPs_dep l (by simpa [D.ok] using h)]
  | .lst l, h => by simp [toP, PyData.depth, D.dep, toPs_dep l (by simpa [D.ok] using h)]
  | .bl _, h => by simp [D.ok] at h
  | .tupK _, h => by simp [D.ok] at h
  | .lstK _, h => by simp [D.ok] at h
  | .dct _, h => by simp [D.ok] at h
  | .ins _ _, h => by simp [D.ok] at h
  | .cls _, h => by simp [D.ok] at h
theorem toPs_dep : ∀ l : List D, okL l = true → PyData.depthAll (toPs l) = depL l
  | [], _ => by simp [toPs, PyData.depthAll, depL]
  | x :: l, h => by
    simp only [okL, Bool.and_eq_true] at h
    simp [toPs, PyData.depthAll, depL, toP_dep x h.1, toPs_dep l h.2]
end
mutual
theorem eqv_toP : ∀ x y : D, x.ok = true → y.ok = true → (PyData.eqv (toP x) (toP y) = true ↔ x = y)
  | .non, y, h, k => by cases y <;> simp_all [toP, PyData.eqv, D.ok]
  | .int i, y, h, k => by cases y <;> simp_all [toP, PyData.eqv, D.ok]
  | .str s, y, h, k => by cases y <;> simp_all [toP, PyData.eqv, D.ok]
  | .tup l, y, h, k => by
    cases y with
    | tup l2 => simp only [toP, PyData.eqv, D.tup.injEq]; exact eqvs_toP l l2 (by simpa [D.ok] using h) (by simpa [D.ok] using k)
    | _ => simp_all [toP, PyData.eqv, D.ok]
  | .lst l, y, h, k => by
    cases y with
    | lst l2 => simp only [toP, PyData.eqv, D.lst.injEq]; exact eqvs_toP l l2 (by simpa [D.ok] using h) (by simpa [D.ok] using k)
    | _ => simp_all [toP, PyData.eqv, D.ok]
  | .bl _, _, h, _ => by simp [D.ok] at h
  | .tupK _, _, h, _ => by simp [D.ok] at h
  | .lstK _, _, h, _ => by simp [D.ok] at h
  | .dct _, _, h, _ => by simp [D.ok] at h
  | .ins _ _, _, h, _ => by simp [D.ok] at h
  | .cls _, _, h, _ => by simp [D.ok] at h
theorem eqvs_toP : ∀ l m : List D, okL l = true → okL m = true → (PyData.eqvAll (toPs l) (toPs m) = true ↔ l = m)
  | [], [], _, _ => by simp [toPs, PyData.eqvAll]
  | [], _ :: _, _, _ => by simp [toPs, PyData.eqvAll]
  | _ :: _, [], _, _ => by simp [toPs, PyData.eqvAll]
  | x :: l, y :: m, h, k => by
    simp only [okL, Bool.and_eq_true] at h k
    simp only [toPs, PyData.eqvAll, Bool.and_eq_true, List.cons.injEq, eqv_toP x y h.1 k.1, eqvs_toP l m h.2 k.2]
end
mutual
theorem Rp.dp {K : Fr} {G H : Hp} (s : Same G H) : ∀ {v : V} {x : D}, Rp K G v x → x.ok = true → Dp K.K H v (toP x)
  | _, _, .non, _ => .non
  | _, _, .int i, _ => .int i
  | _, _, .str i, _ => .str i
  | _, _, .tup e r, h => .tup (SqT.of (s _ _ e)) (RpL.dp s r (by simpa [D.ok] using h))
  | _, _, .lst e r, h => .lst (SqL.of (s _ _ e)) (RpL.dp s r (by simpa [D.ok] using h))
  | _, _, .bl _, h => by simp [D.ok] at h
  | _, _, .tupK _ _, h => by simp [D.ok] at h
  | _, _, .lstK _ _, h => by simp [D.ok] at h
  | _, _, .dct _ _, h => by simp [D.ok] at h
  | _, _, .dcN _ _ _, h => by simp [D.ok] at h
  | _, _, .ins _ _ _, h => by simp [D.ok] at h
  | _, _, .cls _, h => by simp [D.ok] at h
theorem RpL.dp {K : Fr} {G H : Hp} (s : Same G H) : ∀ {vs : List V} {l : List D}, RpL K G vs l → okL l = true → DpAll K.K H vs (toPs l)
  | _, _, .nil, _ => .nil
  | _, _, .cons r t, h => by
    simp only [okL, Bool.and_eq_true] at h
    exact .cons (Rp.dp s r h.1) (RpL.dp s t h.2)
end
/-- the list as data -/
def rdD (W : Ms) : Vl → Option D
  | .d x => some x
  | .mu n => match W[n]? with
    | some (.lst l) => (dsOf l).map D.lst
    | _ => none
def isScal : D → Bool
  | .non => true
  | .int _ => true
  | .str _ => true
  | .bl _ => true
  | _ => false
def scalD : D → D → Bool
  | .non, .non => true | .non, .int _ => true | .int _, .non => true | .non, .bl _ => true | .bl _, .non => true | .non, .str _ => true | .str _, .non => true
  | .int _, .int _ => true | .bl _, .bl _ => true | .str _, .str _ => true
  | .int _, .str _ => true | .str _, .int _ => true | .bl _, .str _ => true | .str _, .bl _ => true
  | _, _ => false
def shapedD (a : D) : Bool := a.ok && decide (a.dep ≤ 64)
open Classical in
noncomputable def eqD (W : Ms) (x y : Vl) : Res Vl := match rdD W x, rdD W y with
  | some a, some b => if scalD a b = true ∨ (shapedD a = true ∧ shapedD b = true) then .ok (.d (.bl (decide (a = b)))) W else .stuck
  | _, _ => .stuck
open Classical in
noncomputable def neD (W : Ms) (x y : Vl) : Res Vl := match rdD W x, rdD W y with
  | some a, some b => if scalD a b = true ∨ (shapedD a = true ∧ shapedD b = true) then .ok (.d (.bl (!decide (a = b)))) W else .stuck
  | _, _ => .stuck
def seqOf (W : Ms) (x : Vl) : Option (List Vl) := match lstOf W x with
  | some l => some l
  | none => (tupOf x).map (·.map Vl.d)
noncomputable def ixD (W : Ms) (x y : Vl) : Res Vl := match dctOf W x with
  | some l => (match y with
    | .d k => if okKey l k = true then (match getK l k with
      | some z => .ok z W
      | none => .stuck) else .stuck
    | _ => .stuck)
  | none => (match intOf y with
    | some i => (match seqOf W x with
      | some l => (match atI l i with
        | some z => .ok z W
        | none => .stuck)
      | none => (match strOf x with
        | some s => if s.length ≤ 1000000 then (match atI s.cps.toList i with
          | some c => .ok (.d (.str ⟨#[c]⟩)) W
          | none => .stuck) else .stuck
        | none => .stuck))
    | none => .stuck)
def flatD : D → Bool
  | .non => true
  | .int _ => true
  | .str _ => true
  | _ => false
open Classical in
/-- x in y -/
noncomputable def isIn (W : Ms) (x y : Vl) : Option Bool := match dctOf W y with
  | some l => (match x with
    | .d k => if okKey l k = true then some (getK l k).isSome else none
    | _ => none)
  | none => (match x with
    | .d k => (match seqOf W y with
      | some l' => (match dsOf l' with
        | some l => if flatD k = true ∧ l.all flatD = true then some (decide (k ∈ l)) else if (lstOf W y).isSome = true ∧ shapedD k = true ∧ shapedD (.lst l) = true then some (decide (k ∈ l)) else none
        | none => none)
      | none => (match k, strOf y with
        | .str i, some j => some (!(Builtin.Str.occurrences j i 0 j.length 1).isEmpty)
        | _, _ => none))
    | _ => none)
noncomputable def inD (W : Ms) (x y : Vl) : Res Vl := match isIn W x y with
  | some b => .ok (.d (.bl b)) W
  | none => .stuck
noncomputable def notInD (W : Ms) (x y : Vl) : Res Vl := match isIn W x y with
  | some b => .ok (.d (.bl (!b))) W
  | none => .stuck
def arI (g : Int → Int → D) (W : Ms) (x y : Vl) : Res Vl := match intOf x, intOf y with
  | some i, some j => .ok (.d (g i j)) W
  | _, _ => .stuck
open Classical in
noncomputable def arC (C : Int → Int → Prop) (g : Int → Int → D) (W : Ms) (x y : Vl) : Res Vl := match intOf x, intOf y with
  | some i, some j => if C i j then .ok (.d (g i j)) W else .stuck
  | _, _ => .stuck
def addD (W : Ms) (x y : Vl) : Res Vl := match intOf x, intOf y with
  | some i, some j => .ok (.d (.int (i + j))) W
  | _, _ => (match strOf x, strOf y with
    | some i, some j => if i.length + j.length ≤ 1000000 then .ok (.d (.str (i ++ j))) W else .stuck
    | _, _ => (match lstOf W x, lstOf W y with
      | some l, some m => mkLst (l ++ m) W
      | _, _ => (match x, y with
        | .d (.tup l), .d (.tup m) => if l.length + m.length ≤ 1000000 then .ok (.d (.tup (l ++ m))) W else .stuck
        | _, _ => .stuck)))
def isNoneD (W : Ms) (x y : Vl) : Res Vl := match y with
  | .d .non => .ok (.d (.bl (isNon x))) W
  | _ => .stuck
def notNoneD (W : Ms) (x y : Vl) : Res Vl := match y with
  | .d .non => .ok (.d (.bl (!isNon x))) W
  | _ => .stuck
def isNonD : D → Bool
  | .non => true
  | _ => false
/-- x < y -/
def ltO (x y : D) : Option Bool := match x, y with
  | .int i, .int j => some (decide (i < j))
  | .str i, .str j => some (decide (i.cps.toList < j.cps.toList))
  | x, y => if x.ok && y.ok && !isNonD x && PySem.W.alike (toP x) (toP y) && decide (x.dep ≤ 8) then some (PySem.W.dataLt (toP x) (toP y)) else none
def leO (x y : D) : Option Bool := match x, y with
  | .int i, .int j => some (decide (i ≤ j))
  | x, y => if x.ok && y.ok && !isNonD x && PySem.W.alike (toP x) (toP y) && decide (x.dep ≤ 8) then some (!PySem.W.dataLt (toP y) (toP x)) else none
def cmpD (f : D → D → Option Bool) (W : Ms) (x y : Vl) : Res Vl := match rdD W x, rdD W y with
  | some a, some b => (match f a b with
    | some t => .ok (.d (.bl t)) W
    | none => .stuck)
  | _, _ => .stuck
section
variable {K : Fr} {TB : List (Addr × Str)}
theorem Wish.d {E : XK} {ws : List Addr} {G H : Hp} {Q : VK} {W : Ms} {x : D} {v : V} (w : Wish K TB (RV K) E ws G H Q (.ok (.d x) W)) (c : Cf K TB ws G H W) (r : Rp K G v x) : Q v H := w.ok c (.d r)
theorem intOf_at {ws : List Addr} {G : Hp} {v : V} {x : Vl} {i : Int} (r : RpV K ws G v x) (h : intOf x = some i) : v = .int i := by
  cases r with
  | d r => cases r <;> simp [intOf] at h; rw [h]
  | mu _ => cases h
theorem strOf_at {ws : List Addr} {G : Hp} {v : V} {x : Vl} {i : Str} (r : RpV K ws G v x) (h : strOf x = some i) : v = .str i := by
  cases r with
  | d r => cases r <;> simp [strOf] at h; rw [h]
  | mu _ => cases h
theorem seqOf_at {ws : List Addr} {G H : Hp} {W : Ms} {v : V} {x : Vl} {l : List Vl} (c : Cf K TB ws G H W) (r : RpV K ws G v x) (h : seqOf W x = some l) : ∃ a vs, v = .ref a ∧ (SqL K.K H a vs ∨ SqT K.K H a vs) ∧ RpVs K ws G vs l := by
  unfold seqOf at h
  cases q : lstOf W x with
  | some l' =>
    rw [q] at h
    cases h
    obtain ⟨a, vs, e, e2, rv⟩ := lst_at c r q
    exact ⟨a, vs, e, .inl (SqL.of e2), rv⟩
  | none =>
    rw [q] at h
    cases q2 : tupOf x with
    | none => simp [q2] at h
    | some l' =>
      simp [q2] at h
      subst h
      obtain ⟨a, vs, e, _, e2, rl⟩ := tup_rp c r q2
      exact ⟨a, vs, e, .inr e2, rl.vs⟩
theorem rdD_at {ws : List Addr} {G H : Hp} {W : Ms} {v : V} {x : Vl} {a : D} (c : Cf K TB ws G H W) (r : RpV K ws G v x) (h : rdD W x = some a) (ha : a.ok = true) : Dp K.K H v (toP a) := by
  cases r with
  | d r => cases h; exact r.dp c.g ha
  | @mu b n e =>
    simp only [rdD] at h
    cases q : W[n]? with
    | none => rw [q] at h; cases h
    | some m =>
      rw [q] at h
      cases m with
      | lst l =>
        cases k : dsOf l with
        | none => simp [k] at h
        | some l' =>
          simp [k] at h
          subst h
          obtain ⟨_, vs, e1, rv⟩ := c.ob n b _ e q (by simp)
          exact .lst (SqL.of e1) (RpL.dp c.g (dsOf_rp rv k) (by simpa [D.ok] using ha))
      | _ => cases h
theorem rdD_scal {ws : List Addr} {G : Hp} {W : Ms} {v : V} {x : Vl} {a : D} (r : RpV K ws G v x) (h : rdD W x = some a) (ha : isScal a = true) : Rp K G v a := by
  cases r with
  | d r => cases h; exact r
  | @mu b n e =>
    simp only [rdD] at h
    cases q : W[n]? with
    | none => rw [q] at h; cases h
    | some m =>
      rw [q] at h
      cases m with
      | lst l =>
        cases k : dsOf l with
        | none => simp [k] at h
        | some l' => simp [k] at h; subst h; simp [isScal] at ha
      | _ => cases h
theorem scal_dec {G : Hp} {v u : V} {a b : D} (h : scalD a b = true) (r : Rp K G v a) (s : Rp K G u b) : scal v u = true ∧ decide (v = u) = @decide (a = b) (Classical.propDecidable _) := by
  cases a <;> cases b <;> simp [scalD] at h <;> cases r <;> cases s <;> simp [scal]
theorem scalD_left {a b : D} (h : scalD a b = true) : isScal a = true := by
  cases a <;> cases b <;> simp [scalD] at h <;> rfl
theorem scalD_right {a b : D} (h : scalD a b = true) : isScal b = true := by
  cases a <;> cases b <;> simp [scalD] at h <;> rfl
theorem shaped_toP {a : D} (h : shapedD a = true) : a.ok = true ∧ SeqAt.shaped (toP a) = true := by
  simp only [shapedD, Bool.and_eq_true, decide_eq_true_eq] at h
  refine ⟨h.1, ?_⟩
  show ((toP a).canLay0 && decide ((toP a).depth ≤ 64)) = true
  rw [toP_lay a h.1, toP_dep a h.1, decide_eq_true h.2]
  rfl
open Classical in
theorem o_eq : OpD K TB (rEqA K.K) eqD := fun E ws G H W x y a b Q c rx ry w => by
  unfold eqD at w
  cases q1 : rdD W a with
  | none => rw [q1] at w; exact w.elim
  | some da =>
    cases q2 : rdD W b with
    | none => rw [q1, q2] at w; exact w.elim
    | some db =>
      rw [q1, q2] at w
      simp only at w
      split at w
      · rename_i h
        rcases h with h | ⟨h1, h2⟩
        · obtain ⟨e1, e2⟩ := scal_dec h (rdD_scal rx q1 (scalD_left h)) (rdD_scal ry q2 (scalD_right h))
          refine .inl ⟨e1, ?_⟩
          rw [e2]
          exact w.d c (.bl _)
        · obtain ⟨k1, s1⟩ := shaped_toP h1
          obtain ⟨k2, s2⟩ := shaped_toP h2
          refine .inr ⟨_, _, rdD_at c rx q1 k1, rdD_at c ry q2 k2, s1, s2, ?_⟩
          have e : PyData.eqv (toP da) (toP db) = decide (da = db) := by
            rw [Bool.eq_iff_iff, eqv_toP da db k1 k2, decide_eq_true_eq]
          rw [e]
          exact w.d c (.bl _)
      · exact w.elim
open Classical in
theorem o_ne : OpD K TB (rNeA K.K) neD := fun E ws G H W x y a b Q c rx ry w => by
  unfold neD at w
  cases q1 : rdD W a with
  | none => rw [q1] at w; exact w.elim
  | some da =>
    cases q2 : rdD W b with
    | none => rw [q1, q2] at w; exact w.elim
    | some db =>
      rw [q1, q2] at w
      simp only at w
      split at w
      · rename_i h
        rcases h with h | ⟨h1, h2⟩
        · obtain ⟨e1, e2⟩ := scal_dec h (rdD_scal rx q1 (scalD_left h)) (rdD_scal ry q2 (scalD_right h))
          refine .inl ⟨e1, ?_⟩
          rw [e2]
          exact w.d c (.bl _)
        · obtain ⟨k1, s1⟩ := shaped_toP h1
          obtain ⟨k2, s2⟩ := shaped_toP h2
          refine .inr ⟨_, _, rdD_at c rx q1 k1, rdD_at c ry q2 k2, s1, s2, ?_⟩
          have e : PyData.eqv (toP da) (toP db) = decide (da = db) := by
            rw [Bool.eq_iff_iff, eqv_toP da db k1 k2, decide_eq_true_eq]
          rw [e]
          exact w.d c (.bl _)
      · exact w.elim
theorem atI_rel {α β : Type} {F : α → β → Prop} {l : List α} {m : List β} (h : Paired F l m) {i : Int} {b : β} (e : atI m i = some b) : ∃ a, atI l i = some a ∧ F a b := by
  unfold atI at e ⊢
  rw [Paired.length h]
  cases q : ixN m.length i with
  | none => rw [q] at e; cases e
  | some j =>
    rw [q] at e
    obtain ⟨a, h1, h2⟩ := Paired.at' h e
    exact ⟨a, h1, h2⟩
theorem o_ix : OpD K TB (rIxA K.K K.w) ixD := fun E ws G H W x y a b Q c rx ry w => by
  unfold ixD at w
  cases q : dctOf W a with
  | some l =>
    rw [q] at w
    cases b with
    | mu n => exact w.elim
    | d k =>
      simp only at w
      split at w
      · rename_i hk
        obtain ⟨p, rfl, _, g⟩ := get_at c rx q ry hk
        cases z : getK l k with
        | none => rw [z] at w; exact w.elim
        | some u =>
          rw [z] at w
          obtain ⟨v, g1, r1⟩ := g u z
          exact .inr ⟨p, v, rfl, g1, w.ok c r1⟩
      · exact w.elim
  | none =>
    rw [q] at w
    cases q2 : intOf b with
    | none => simp only [q2] at w; exact w.elim
    | some i =>
      obtain rfl := intOf_at ry q2
      simp only [q2] at w
      cases q3 : seqOf W a with
      | some l =>
        simp only [q3] at w
        cases z : atI l i with
        | none => simp only [z] at w; exact w.elim
        | some u =>
          simp only [z] at w
          obtain ⟨p, vs, rfl, hs, rv⟩ := seqOf_at c rx q3
          obtain ⟨v, e1, r1⟩ := atI_rel rv z
          rcases hs with hs | hs
          · exact .inl (.inl ⟨p, vs, i, v, rfl, rfl, hs, e1, w.ok c r1⟩)
          · exact .inl (.inr (.inl ⟨p, vs, i, v, rfl, rfl, hs, e1, w.ok c r1⟩))
      | none =>
        simp only [q3] at w
        cases q4 : strOf a with
        | none => simp only [q4] at w; exact w.elim
        | some s =>
          simp only [q4] at w
          obtain rfl := strOf_at rx q4
          split at w
          · rename_i hl
            cases z : atI s.cps.toList i with
            | none => simp only [z] at w; exact w.elim
            | some u =>
              simp only [z] at w
              exact .inl (.inr (.inr ⟨s, i, u, rfl, rfl, mil hl, z, w.d c (.str _)⟩))
          · exact w.elim
theorem flat_rp {G : Hp} {v : V} {x : D} (r : Rp K G v x) (h : flatD x = true) : flatV v = true := by
  cases r <;> simp [flatD] at h <;> rfl
theorem flat_eq {G : Hp} {v u : V} {x y : D} (r : Rp K G v x) (s : Rp K G u y) (h : flatD x = true) (k : flatD y = true) : (eqV v u = true ↔ x = y) := by
  cases r <;> simp [flatD] at h <;> cases s <;> simp [flatD] at k <;> simp [eqV]
theorem flat_in {G : Hp} {v : V} {x : D} (r : Rp K G v x) (h : flatD x = true) : ∀ {vs : List V} {l : List D}, RpL K G vs l → l.all flatD = true → vs.all flatV = true ∧ (inV v vs = true ↔ x ∈ l)
  | _, _, .nil, _ => ⟨rfl, by simp [inV]⟩
  | _, _, .cons s t, k => by
    simp only [List.all_cons, Bool.and_eq_true] at k
    obtain ⟨i1, i2⟩ := flat_in r h t k.2
    refine ⟨by simp [flat_rp s k.1, i1], ?_⟩
    have e := flat_eq s r k.1 h
    simp only [inV, List.any_cons, Bool.or_eq_true, List.mem_cons] at i2 ⊢
    rw [e, i2]
    exact ⟨fun z => z.imp Eq.symm id, fun z => z.imp Eq.symm id⟩
theorem any_toPs {x : D} (hx : x.ok = true) : ∀ l : List D, okL l = true → ((toPs l).any (fun z => PyData.eqv z (toP x)) = true ↔ x ∈ l)
  | [], _ => by simp [toPs]
  | y :: l, h => by
    simp only [okL, Bool.and_eq_true] at h
    simp only [toPs, List.any_cons, Bool.or_eq_true, List.mem_cons, eqv_toP y x h.1 hx, any_toPs hx l h.2]
    exact ⟨fun z => z.imp Eq.symm id, fun z => z.imp Eq.symm id⟩
open Classical in
theorem isIn_at {ws : List Addr} {G H : Hp} {W : Ms} {x y : V} {a b : Vl} {t neg : Bool} {Q : VK} (c : Cf K TB ws G H W) (rx : RpV K ws G x a) (ry : RpV K ws G y b) (h : isIn W a b = some t) (hq : Q (.bl (if neg then !t else t)) H) : rInA K.K K.w neg x y H Q := by
  unfold isIn at h
  cases q : dctOf W b with
  | some l =>
    rw [q] at h
    cases a with
    | mu n => cases h
    | d k =>
      simp only at h
      split at h
      · rename_i hk
        cases h
        obtain ⟨p, rfl, g0, g⟩ := get_at c ry q rx hk
        cases z : getK l k with
        | none =>
          rw [z] at hq
          exact .inl ⟨p, none, rfl, g0 z, hq⟩
        | some u =>
          rw [z] at hq
          obtain ⟨v, g1, _⟩ := g u z
          exact .inl ⟨p, some v, rfl, g1, hq⟩
      · cases h
  | none =>
    rw [q] at h
    cases a with
    | mu n => cases h
    | d k =>
      simp only at h
      cases q2 : seqOf W b with
      | some l' =>
        rw [q2] at h
        simp only at h
        cases q3 : dsOf l' with
        | none => rw [q3] at h; cases h
        | some l =>
          rw [q3] at h
          simp only at h
          obtain ⟨p, vs, rfl, hs, rv⟩ := seqOf_at c ry q2
          have rl := dsOf_rp rv q3
          cases rx with
          | d rx =>
          split at h
          · rename_i hf
            cases h
            obtain ⟨f1, f2⟩ := flat_in rx hf.1 rl hf.2
            refine .inr (.inl ⟨p, vs, rfl, hs, flat_rp rx hf.1, f1, ?_⟩)
            have e : inV x vs = decide (k ∈ l) := by rw [Bool.eq_iff_iff, f2, decide_eq_true_eq]
            rw [e]
            exact hq
          · split at h
            · rename_i hf
              cases h
              obtain ⟨hl, hk, hsl⟩ := hf
              cases q4 : lstOf W b with
              | none => rw [q4] at hl; cases hl
              | some l2 =>
                have e3 : l2 = l' := by
                  have z := q2
                  unfold seqOf at z
                  rw [q4] at z
                  exact Option.some.inj z
                subst e3
                obtain ⟨p2, vs2, e2, hH, rv2⟩ := lst_at c ry q4
                cases e2
                obtain ⟨k1, s1⟩ := shaped_toP hk
                obtain ⟨k2, s2⟩ := shaped_toP hsl
                have k2' : okL l = true := by simpa [D.ok] using k2
                have dl : Dp K.K H (.ref p) (.list (toPs l)) := .lst (SqL.of hH) (RpL.dp c.g (dsOf_rp rv2 q3) k2')
                have e : ((toPs l).any fun z => PyData.eqv z (toP k)) = decide (k ∈ l) := by rw [Bool.eq_iff_iff, any_toPs k1 l k2', decide_eq_true_eq]
                refine .inr (.inr (.inl ?_))
                have s2' : SeqAt.shaped (.list (toPs l)) = true := by simpa [toP] using s2
                cases neg
                · refine ⟨_, _, rx.dp c.g k1, dl, s1, s2', ?_⟩
                  rw [e]; exact hq
                · refine ⟨_, _, rx.dp c.g k1, dl, s1, s2', ?_⟩
                  rw [e]; exact hq
            · cases h
      | none =>
        rw [q2] at h
        simp only at h
        split at h
        · rename_i i j e1
          cases h
          cases rx with
          | d rx =>
          cases rx
          obtain rfl := strOf_at ry e1
          exact .inr (.inr (.inr ⟨i, j, rfl, rfl, hq⟩))
        · cases h
end
end DL

set_option Elab.async false
set_option linter.all false
set_option maxRecDepth 100000
set_option maxHeartbeats 4000000
namespace DL
open PySem PySem.Spec PyProof.Rows L2
section
variable {K : Fr} {TB : List (Addr × Str)}
theorem o_in : OpD K TB (rInA K.K K.w false) inD := fun E ws G H W x y a b Q c rx ry w => by
  unfold inD at w
  cases q : isIn W a b with
  | none => rw [q] at w; exact w.elim
  | some t =>
    rw [q] at w
    exact isIn_at (neg := false) c rx ry q (w.d c (.bl _))
theorem o_notIn : OpD K TB (rInA K.K K.w true) notInD := fun E ws G H W x y a b Q c rx ry w => by
  unfold notInD at w
  cases q : isIn W a b with
  | none => rw [q] at w; exact w.elim
  | some t =>
    rw [q] at w
    exact isIn_at (neg := true) c rx ry q (w.d c (.bl _))
theorem o_arI {g : Int → Int → V} {h : Int → Int → D} (hg : ∀ G i j, Rp K G (g i j) (h i j)) : OpD K TB (rI0 g) (arI h) := fun E ws G H W x y a b Q c rx ry w => by
  unfold arI at w
  cases q : intOf a with
  | none => rw [q] at w; exact w.elim
  | some i =>
    cases q2 : intOf b with
    | none => rw [q, q2] at w; exact w.elim
    | some j =>
      rw [q, q2] at w
      obtain rfl := intOf_at rx q
      obtain rfl := intOf_at ry q2
      exact ⟨i, j, rfl, rfl, w.d c (hg _ _ _)⟩
theorem o_arC {C : Int → Int → Prop} {g : Int → Int → V} {h : Int → Int → D} (hg : ∀ G i j, Rp K G (g i j) (h i j)) : OpD K TB (rI C g) (arC C h) := fun E ws G H W x y a b Q c rx ry w => by
  unfold arC at w
  cases q : intOf a with
  | none => rw [q] at w; exact w.elim
  | some i =>
    cases q2 : intOf b with
    | none => rw [q, q2] at w; exact w.elim
    | some j =>
      rw [q, q2] at w
      simp only at w
      split at w
      · rename_i hc
        obtain rfl := intOf_at rx q
        obtain rfl := intOf_at ry q2
        exact ⟨i, j, rfl, rfl, hc, w.d c (hg _ _ _)⟩
      · exact w.elim
def subD := arI fun i j => .int (i - j)
noncomputable def mulD := arC CMul fun i j => .int (i * j)
noncomputable def fdivD := arC CDiv fun i j => .int (i / j)
noncomputable def modD := arC (fun _ j => 0 < j) fun i j => .int (i % j)
noncomputable def powD := arC CPow fun i j => .int (i ^ j.toNat)
def ltI := arI fun i j => .bl (decide (i < j))
def leI := arI fun i j => .bl (decide (i ≤ j))
def gtI := arI fun i j => .bl (decide (j < i))
def geI := arI fun i j => .bl (decide (j ≤ i))
theorem o_sub : OpD K TB (rI0 fun i j => .int (i - j)) subD := o_arI fun _ _ _ => .int _
theorem o_mul : OpD K TB (rI CMul fun i j => .int (i * j)) mulD := o_arC fun _ _ _ => .int _
theorem o_fdiv : OpD K TB (rI CDiv fun i j => .int (i / j)) fdivD := o_arC fun _ _ _ => .int _
theorem o_mod : OpD K TB (rI (fun _ j => 0 < j) fun i j => .int (i % j)) modD := o_arC fun _ _ _ => .int _
theorem o_pow : OpD K TB (rI CPow fun i j => .int (i ^ j.toNat)) powD := o_arC fun _ _ _ => .int _
theorem o_ltI : OpD K TB (rI0 fun i j => .bl (decide (i < j))) ltI := o_arI fun _ _ _ => .bl _
theorem o_leI : OpD K TB (rI0 fun i j => .bl (decide (i ≤ j))) leI := o_arI fun _ _ _ => .bl _
theorem o_gtI : OpD K TB (rI0 fun i j => .bl (decide (j < i))) gtI := o_arI fun _ _ _ => .bl _
theorem o_geI : OpD K TB (rI0 fun i j => .bl (decide (j ≤ i))) geI := o_arI fun _ _ _ => .bl _
def negD (W : Ms) (x : Vl) : Res Vl := match intOf x with
  | some i => .ok (.d (.int (-i))) W
  | none => .stuck
theorem o_neg : UnD K TB (rU fun i => .int (-i)) negD := fun E ws G H W x a Q c rx w => by
  unfold negD at w
  cases q : intOf a with
  | none => rw [q] at w; exact w.elim
  | some i =>
    rw [q] at w
    obtain rfl := intOf_at rx q
    exact ⟨i, rfl, w.d c (.int _)⟩
theorem non_dec {ws : List Addr} {G : Hp} {v : V} {x : Vl} (r : RpV K ws G v x) : decide (v = .non) = isNon x := by
  cases r with
  | d r => cases r <;> simp [isNon]
  | mu _ => simp [isNon]
theorem o_isN : OpD K TB (fun x y H Q => y = .non ∧ Q (.bl (decide (x = .non))) H) isNoneD := fun E ws G H W x y a b Q c rx ry w => by
  unfold isNoneD at w
  split at w
  · cases ry with
    | d ry =>
    cases ry
    refine ⟨rfl, ?_⟩
    rw [non_dec rx]
    exact w.d c (.bl _)
  · exact w.elim
theorem o_notN : OpD K TB (fun x y H Q => y = .non ∧ Q (.bl (!decide (x = .non))) H) notNoneD := fun E ws G H W x y a b Q c rx ry w => by
  unfold notNoneD at w
  split at w
  · cases ry with
    | d ry =>
    cases ry
    refine ⟨rfl, ?_⟩
    rw [non_dec rx]
    exact w.d c (.bl _)
  · exact w.elim
theorem pair_map {vs us : List V} {l m : List D} {G : Hp} : RpL K G vs l → RpL K G us m → RpL K G (vs ++ us) (l ++ m)
  | .nil, h => h
  | .cons r t, h => .cons r (pair_map t h)
theorem mk_lst_cat {E : XK} {ws : List Addr} {G H : Hp} {W : Ms} {Q : VK} {xs : List V} {as : List Vl} (c : Cf K TB ws G H W) (r : RpVs K ws G xs as) (w : Wish K TB (RV K) E ws G H Q (mkLst as W)) : xs.length ≤ sizeLine ∧ ∀ p, H p = none → Q (.ref p) (upd H p (.lst xs)) := mk_lst c r w
theorem o_add : OpD K TB (rAddA K.K) addD := fun E ws G H W x y a b Q c rx ry w => by
  unfold addD at w
  split at w
  · rename_i i j q1 q2
    obtain rfl := intOf_at rx q1
    obtain rfl := intOf_at ry q2
    exact .inl ⟨i, j, rfl, rfl, w.d c (.int _)⟩
  · split at w
    · rename_i i j q1 q2
      obtain rfl := strOf_at rx q1
      obtain rfl := strOf_at ry q2
      split at w
      · rename_i hl
        exact .inr (.inr (.inr ⟨i, j, rfl, rfl, mil hl, w.d c (.str _)⟩))
      · exact w.elim
    · split at w
      · rename_i l m q1 q2
        obtain ⟨p1, vs1, rfl, h1, r1⟩ := lst_at c rx q1
        obtain ⟨p2, vs2, rfl, h2, r2⟩ := lst_at c ry q2
        obtain ⟨k1, k2⟩ := mk_lst c (Paired.app r1 r2) w
        exact .inr (.inl ⟨p1, p2, vs1, vs2, rfl, rfl, h1, h2, by rw [List.length_append] at k1; exact k1, k2⟩)
      · split at w
        · rename_i l m
          cases rx with
          | d rx =>
          cases ry with
          | d ry =>
          cases rx with
          | tup e1 r1 =>
          cases ry with
          | tup e2 r2 =>
          split at w
          · rename_i hl
            refine .inr (.inr (.inl ⟨_, _, _, _, rfl, rfl, SqT.of (c.g _ _ e1), SqT.of (c.g _ _ e2), by rw [r1.len, r2.len]; exact mil hl, fun z => ?_, fun _ z => ?_, fun _ _ p hp => ?_⟩))
            · subst z
              cases r1
              exact w.d c (.tup e2 r2)
            · subst z
              cases r2
              rw [List.append_nil] at w
              exact w.d c (.tup e1 r1)
            · exact w _ ws _ _ (Gr.new c hp) (c.new hp) (.d (.tup upd_same ((pair_map r1 r2).to (.of (same_upd (c.gn hp))))))
          · exact w.elim
        · exact w.elim
theorem o_lt : OpD K TB (rLtA K.K) (cmpD ltO) := fun E ws G H W x y a b Q c rx ry w => by
  unfold cmpD at w
  cases q1 : rdD W a with
  | none => rw [q1] at w; exact w.elim
  | some da =>
    cases q2 : rdD W b with
    | none => rw [q1, q2] at w; exact w.elim
    | some db =>
      simp only [q1, q2] at w
      cases q3 : ltO da db with
      | none => rw [q3] at w; exact w.elim
      | some t =>
        rw [q3] at w
        have wq := fun v r => w.d (v := v) c r
        unfold ltO at q3
        split at q3
        · cases q3
          cases rdD_scal rx q1 rfl
          cases rdD_scal ry q2 rfl
          exact .inl (.inl ⟨_, _, rfl, rfl, wq _ (.bl _)⟩)
        · cases q3
          cases rdD_scal rx q1 rfl
          cases rdD_scal ry q2 rfl
          exact .inl (.inr ⟨_, _, rfl, rfl, wq _ (.bl _)⟩)
        · split at q3
          · rename_i h
            cases q3
            simp only [Bool.and_eq_true, decide_eq_true_eq] at h
            obtain ⟨⟨⟨⟨h1, h2⟩, h3⟩, h4⟩, h5⟩ := h
            refine .inr ⟨_, _, rdD_at c rx q1 h1, rdD_at c ry q2 h2, h4, ?_, by rw [toP_dep _ h1]; exact h5, wq _ (.bl _)⟩
            intro z
            cases da <;> simp_all [toP, D.ok, isNonD]
          · cases q3
theorem o_le : OpD K TB (rLeA K.K) (cmpD leO) := fun E ws G H W x y a b Q c rx ry w => by
  unfold cmpD at w
  cases q1 : rdD W a with
  | none => rw [q1] at w; exact w.elim
  | some da =>
    cases q2 : rdD W b with
    | none => rw [q1, q2] at w; exact w.elim
    | some db =>
      simp only [q1, q2] at w
      cases q3 : leO da db with
      | none => rw [q3] at w; exact w.elim
      | some t =>
        rw [q3] at w
        have wq := fun v r => w.d (v := v) c r
        unfold leO at q3
        split at q3
        · cases q3
          cases rdD_scal rx q1 rfl
          cases rdD_scal ry q2 rfl
          exact .inl ⟨_, _, rfl, rfl, wq _ (.bl _)⟩
        · split at q3
          · rename_i h
            cases q3
            simp only [Bool.and_eq_true, decide_eq_true_eq] at h
            obtain ⟨⟨⟨⟨h1, h2⟩, h3⟩, h4⟩, h5⟩ := h
            refine .inr ⟨_, _, rdD_at c rx q1 h1, rdD_at c ry q2 h2, h4, ?_, by rw [toP_dep _ h1]; exact h5, wq _ (.bl _)⟩
            intro z
            cases da <;> simp_all [toP, D.ok, isNonD]
          · cases q3
end
end DL

set_option Elab.async false
set_option linter.all false
set_option maxRecDepth 100000
set_option maxHeartbeats 4000000
/-! ## walks -/
namespace DL
open PySem PySem.Spec PyProof.Rows L2
theorem PI.alt {X : Cx} {tg iter : Expr} {w1 w2 : TI} (h1 : PI X tg iter w1) (h2 : PI X tg iter w2) : PI X tg iter (fun σ H R => w1 σ H R ∨ w2 σ H R) :=
  ⟨fun pins s σ H R I h => h.elim (h1.run pins s σ H R I) (h2.run pins s σ H R I)⟩
theorem PS.alt {X : Cx} {st : Stmt} {t u : TS} (h1 : PS X st t) (h2 : PS X st u) : PS X st (fun D σ H => t D σ H ∨ u D σ H) :=
  ⟨fun pins s σ H D I h => h.elim (h1.run pins s σ H D I) (h2.run pins s σ H D I)⟩
theorem PE.alt {X : Cx} {e : Expr} {t u : TE} (h1 : PE X e t) (h2 : PE X e u) : PE X e (fun σ H Q => t σ H Q ∨ u σ H Q) :=
  ⟨fun pins s σ H Q I h => h.elim (h1.run pins s σ H Q I) (h2.run pins s σ H Q I)⟩
section
variable {X : Cx} {pins : List (Addr × Obj)} {σ : L2.St} {H : Hp} {s : Shared} {d : Addr} {o : Obj}
theorem paired_at {α β : Type} {F : α → β → Prop} {l : List α} {r : List β} (h : Paired F l r) {i : Nat} {a : α} (e : l[i]? = some a) : ∃ b, r[i]? = some b ∧ F a b := by
  induction h generalizing i with
  | nil => simp at e
  | cons f t ih =>
    cases i with
    | zero => simp at e; subst e; exact ⟨_, rfl, f⟩
    | succ i =>
      obtain ⟨b, h1, h2⟩ := ih (i := i) (by simpa using e)
      exact ⟨b, by simpa using h1, h2⟩
theorem Inv.frzN {kvs : List (NestedKey × Addr × V)} (I : Inv X pins σ H s) (h : H d = some (.frz o (dN X.w d kvs))) :
    (d == sysModules) = false ∧ s.heap.get? d = some o ∧ o.ExactDict ∧ ∃ (es : Array DictEntry) (ep : Nat), o.data = .dict es ep ∧ es.size = kvs.length ∧
      ∀ (i : Nat) (k : NestedKey) (b : Addr) (v : V), kvs[i]? = some (k, b, v) → ∃ (en : DictEntry), es[i]? = some en ∧ en.key = .ref b ∧ RelV v en.val := by
  obtain ⟨hd, ⟨z, hs, us, o', es, ep, pr, ho, hx, hdt, he, _⟩, _⟩ := I.hok d _ h
  rw [hd] at ho
  cases ho
  have l1 : es.size = us.length := by
    have := congrArg List.length he
    simpa using this
  refine ⟨hs, hd, hx, es, ep, hdt, l1.trans (Paired.length pr).symm, fun i k b v e => ?_⟩
  obtain ⟨u, hu, e1, e2, e3⟩ := paired_at pr e
  have q : es.toList[i]? = some ⟨u.1.hash X.w, .ref u.2.1, u.2.2⟩ := by rw [he, List.getElem?_map, hu]; rfl
  refine ⟨⟨u.1.hash X.w, .ref u.2.1, u.2.2⟩, by rw [← Array.getElem?_toList]; exact q, ?_, e3⟩
  show Value.ref u.2.1 = Value.ref b
  rw [← e2]
/-- the keys of a locked dict of tuple keys: their own tuples -/
def Itn (w : World) (d : Addr) (o : Obj) (kvs : List (NestedKey × Addr × V)) : It :=
  ⟨fun i H => H d = some (.frz o (dN w d kvs)) ∧ i < kvs.length, fun i H x H' => H' = H ∧ ∃ (k : NestedKey) (v : V) (q : Addr), kvs[i]? = some (k, q, v) ∧ x = .ref q, fun i H => H d = some (.frz o (dN w d kvs)) ∧ kvs.length ≤ i⟩
theorem turn_keysN {P : Program} {w : World} {K : PySem.W.Frag} {tg : Expr} {es : Array DictEntry} {ep : Nat} {kvs : List (NestedKey × Addr × V)} (it : Addr) (hod : o.data = .dict es ep) : Turn P w K tg (Itn w d o kvs) [it] it (fun i h => h.IsKeyIter it d i kvs.length ep) where
  mem := by simp
  obj := fun i h st b hb => by
    have e : b = it := by simpa using hb
    subst e
    obtain ⟨oi, e, c, dd⟩ := st
    exact ⟨oi, e, fun v z => by rw [dd] at z; cases z⟩
  keep := fun i h h' st k => st.at fun oi e => k it (by simp) oi e
  item := by
    intro X hP hw hK hc i pins s σ H E I hf st hg
    subst hP hw hK
    obtain ⟨hd, hi⟩ := hg
    obtain ⟨f0, f1, f2, f3, f4, f5⟩ := hf it (by simp)
    obtain ⟨hs, hgd, hx, es', ep', hdt, hsz, ent⟩ := Inv.frzN I hd
    obtain ⟨rfl, rfl⟩ := dict_ep hod hdt
    obtain ⟨⟨k, b, v⟩, hkv⟩ : ∃ p, kvs[i]? = some p := ⟨kvs[i], List.getElem?_eq_getElem hi⟩
    obtain ⟨en, hen, hkey, _⟩ := ent i k b v hkv
    refine next_key_item st hgd hdt hsz hen fun h' st' sb => ?_
    have I1 : Inv X pins σ H { s with heap := h' } := I.turned (t' := s.toks) (fun b ob hb e => (sb.2 b hb).trans e) f0 f1 f3 f4 f5
    obtain ⟨oi, e, c, dd⟩ := id st'
    exact ⟨en.key, rfl, go_of (s := { s with heap := h' }) e c dd (by decide) ⟨.ref b, H, I1, hkey, ⟨rfl, k, v, b, hkv, rfl⟩, st', fun b hb => (hf b hb).1⟩⟩
  done := by
    intro X hP hw hK hc i pins s σ H E I hf st hg
    subst hP hw hK
    obtain ⟨hd, hi⟩ := hg
    obtain ⟨f0, f1, f2, f3, f4, f5⟩ := hf it (by simp)
    obtain ⟨hs, hgd, hx, es', ep', hdt, hsz, ent⟩ := Inv.frzN I hd
    obtain ⟨rfl, rfl⟩ := dict_ep hod hdt
    exact next_key_end (I.ok.hd hc) st hgd hdt hsz hi fun h' eb => ⟨rfl, I.turned (t' := s.toks) (fun b ob hb e => eb b ob hb e) f0 f1 f3 f4 f5⟩
  self := fun A i s Q E st h => by
    refine wpAny_pyIter_slot st.typeIs F.slot_dict_keyiterator_iter (wpAny_call_entry F.slot_dict_keyiterator_iter st.typeIs F.entry_dict_keyiterator_iter ?_ (F.args_dict_keyiterator_iter_1 _))
    show wpAny _ _ (ret (.ref it)) _ _ s
    exact wpAny_pure ⟨_, rfl, "dict_keyiterator", _, st.typeIs, F.slot_dict_keyiterator_next.lookup, h⟩
def iKeysA (w : World) (td : TE) : TI := fun σ H R => td σ H fun x H1 => ∃ d o, x = .ref d ∧ ((∃ kvs, H1 d = some (.frz o (.dK kvs)) ∧ R (Itk d o kvs) H1) ∨ ∃ kvs, H1 d = some (.frz o (dN w d kvs)) ∧ R (Itn w d o kvs) H1)
theorem pi_keysA (w : World) {tg e : Expr} {td : TE} (he : PE X e td) (hw : X.w = w := by rfl) : PI X tg e (iKeysA w td) := by
  subst hw
  refine ⟨fun pins s σ H R I h => ?_⟩
  refine thn (he.run pins s σ H _ I h) fun u s1 ⟨x, H1, I1, rx, d, o, ex, q⟩ => ?_
  subst ex
  obtain rfl : u = Value.ref d := rx
  rcases q with ⟨kvs, hd, q⟩ | ⟨kvs, hd, q⟩
  · obtain ⟨hs, hgd, hx, es, ep, vs, hdt, hsz, kv, hm⟩ := I1.frzK hd
    refine iter_keys hs hgd hx hdt (pi_one (tk := s1.toks) I1 _ (turn_keys _ hdt) ⟨_, Heap.get?_push_size _ rfl, rfl, ?_⟩ q)
    rw [hsz] <;> rfl
  · obtain ⟨hs, hgd, hx, es, ep, hdt, hsz, ent⟩ := Inv.frzN I1 hd
    refine iter_keys hs hgd hx hdt (pi_one (tk := s1.toks) I1 _ (turn_keysN _ hdt) ⟨_, Heap.get?_push_size _ rfl, rfl, ?_⟩ q)
    rw [hsz] <;> rfl
/-- a list, a tuple or a text is walked -/
def iSeq (K : PySem.W.Frag) (te : TE) : TI := fun σ H R => iList K te σ H R ∨ iTup K te σ H R ∨ iStr te σ H R
theorem pi_seq (K : PySem.W.Frag) {tg e : Expr} {te : TE} (he : PE X e te) (hK : X.K = K := by rfl) : PI X tg e (iSeq K te) := by
  subst hK
  exact PI.alt (pi_list he) (PI.alt (pi_tup he) (pi_str he))
end
/-! ### what they give -/
def yes : Ms → Prop := fun _ => True
def seqItm (x : Vl) (W : Ms) : Res Itm := match x with
  | .d (.lst l) => .ok ⟨l.map Vl.d, yes⟩ W
  | .d (.tup l) => .ok ⟨l.map Vl.d, yes⟩ W
  | .d (.tupK l) => .ok ⟨l.map Vl.d, yes⟩ W
  | .d (.str s) => .ok ⟨s.cps.toList.map fun c => Vl.d (.str ⟨#[c]⟩), yes⟩ W
  | .mu n => (match W[n]? with
    | some (.lst l) => .ok ⟨l, fun W => W[n]? = some (.lst l)⟩ W
    | _ => .stuck)
  | _ => .stuck
def iS (f : FE) : FI := fun ρ W => (f ρ W).bind seqItm
section
variable {K : Fr} {TB : List (Addr × Str)} {E : XK}
theorem SqL.uniq {Kf : PySem.W.Frag} {H : Hp} {a : Addr} {xs ys : List V} (h : H a = some (.lst xs)) (h2 : SqL Kf H a ys) (hk : Kf.lookup a = none) : ys = xs := by
  rcases h2 with (h2 | ⟨o, h2⟩) | ⟨o, its, n, h2, _⟩
  · rw [h] at h2; cases h2; rfl
  · rw [h] at h2; cases h2
  · rw [hk] at h2; cases h2
theorem it_lst {ws : List Addr} {G H : Hp} {a : Addr} {vs : List V} {l : List D} (e : G a = some (.lst vs)) (r : RpL K G vs l) : ItOk K TB ws G H (Itl K.K a) ⟨l.map Vl.d, yes⟩ := by
  intro ws2 G2 H2 W2 gg c _ i
  have s := gg.g
  have e2 := c.g _ _ (s _ _ e)
  have hs : SqL K.K H2 a vs := SqL.of e2
  refine ⟨fun h => ⟨vs, hs, by rw [r.len]; simpa using h⟩, fun x hx => ?_⟩
  rw [List.getElem?_map] at hx
  cases q : l[i]? with
  | none => rw [q] at hx; cases hx
  | some y =>
    rw [q] at hx
    cases hx
    obtain ⟨v, h1, h2⟩ := r.at q
    refine ⟨⟨vs, v, hs, h1⟩, fun u H3 hy => ?_⟩
    obtain ⟨rfl, hy⟩ := hy
    have := hy vs hs
    rw [h1] at this
    cases this
    exact ⟨G2, .refl, c, .d (h2.to (.of s))⟩
theorem it_tup {ws : List Addr} {G H : Hp} {a : Addr} {vs : List V} {l : List D} (e : SqT K.K G a vs) (r : RpL K G vs l) : ItOk K TB ws G H (Itt K.K a) ⟨l.map Vl.d, yes⟩ := by
  intro ws2 G2 H2 W2 gg c _ i
  have s := gg.g
  have hs : SqT K.K H2 a vs := (Rds.of (K := K) c.g).t _ _ ((Rds.of (K := K) s).t _ _ e)
  refine ⟨fun h => ⟨vs, hs, by rw [r.len]; simpa using h⟩, fun x hx => ?_⟩
  rw [List.getElem?_map] at hx
  cases q : l[i]? with
  | none => rw [q] at hx; cases hx
  | some y =>
    rw [q] at hx
    cases hx
    obtain ⟨v, h1, h2⟩ := r.at q
    refine ⟨⟨vs, v, hs, h1⟩, fun u H3 hy => ?_⟩
    obtain ⟨rfl, hy⟩ := hy
    have := hy vs hs
    rw [h1] at this
    cases this
    exact ⟨G2, .refl, c, .d (h2.to (.of s))⟩
theorem it_mu {ws : List Addr} {G H : Hp} {a : Addr} {n : Nat} {l : List Vl} (e : ws[n]? = some a) : ItOk K TB ws G H (Itl K.K a) ⟨l, fun W => W[n]? = some (.lst l)⟩ := by
  intro ws2 G2 H2 W2 gg c k i
  have s := gg.g
  have p := gg.p
  have e2 : ws2[n]? = some a := by
    obtain ⟨m, q⟩ := p
    rw [q, List.getElem?_append_left (List.getElem?_eq_some_iff.mp e).1]
    exact e
  obtain ⟨_, vs, hH, rv⟩ := c.ob n a _ e2 k (by simp)
  have hs : SqL K.K H2 a vs := SqL.of hH
  refine ⟨fun h => ⟨vs, hs, by rw [Paired.length rv]; exact h⟩, fun x hx => ?_⟩
  obtain ⟨v, h1, h2⟩ := Paired.at' rv hx
  refine ⟨⟨vs, v, hs, h1⟩, fun u H3 hy => ?_⟩
  obtain ⟨rfl, hy⟩ := hy
  have := hy vs hs
  rw [h1] at this
  cases this
  exact ⟨G2, .refl, c, h2⟩
theorem it_str {ws : List Addr} {G H : Hp} {z : Str} : ItOk K TB ws G H (Its z) ⟨z.cps.toList.map fun c => Vl.d (.str ⟨#[c]⟩), yes⟩ := by
  intro ws2 G2 H2 W2 gg c _ i
  have s := gg.g
  refine ⟨fun h => by simpa [Its] using h, fun x hx => ?_⟩
  rw [List.getElem?_map] at hx
  cases q : z.cps.toList[i]? with
  | none => rw [q] at hx; cases hx
  | some y =>
    rw [q] at hx
    cases hx
    have q' : z.cps[i]? = some y := by simpa using q
    refine ⟨(Array.getElem?_eq_some_iff.mp q').1, fun u H3 hy => ?_⟩
    obtain ⟨rfl, c2, h1, rfl⟩ := hy
    rw [q'] at h1
    cases h1
    exact ⟨G2, .refl, c, .d (.str _)⟩
theorem s_iS {te : TE} {f : FE} (h : SE K TB E te f) : SI K TB E (iSeq K.K te) (iS f) := fun σ ws G H ρ W R e c w => by
  unfold iS at w
  have go : ∀ Q' : VK, (∀ x W1, f ρ W = .ok x W1 → ∀ v ws1 G1 H1, Gr ws G H ws1 G1 H1 → Cf K TB ws1 G1 H1 W1 → RpV K ws1 G1 v x → Q' v H1) → te σ H Q' := fun Q' hq => by
    refine h σ ws G H ρ W Q' e c ?_
    cases q : f ρ W with
    | stuck => rw [q] at w; exact w.elim
    | exc C W1 => rw [q] at w; exact w
    | ok x W1 => exact fun v ws1 G1 H1 g c r => hq x W1 q v ws1 G1 H1 g c r
  cases q : f ρ W with
  | stuck => rw [q] at w; exact w.elim
  | exc C W1 => exact .inl (go _ fun x W2 q2 => by rw [q] at q2; cases q2)
  | ok x W1 =>
    rw [q, Res.bind_ok] at w
    cases x with
    | d x =>
      cases x with
      | lst l =>
        refine .inl (go _ fun x W2 q2 v ws1 G1 H1 g c1 r => ?_)
        rw [q] at q2
        cases q2
        cases r with
        | d r =>
        cases r with
        | lst e1 rl => exact ⟨_, rfl, ⟨_, SqL.of (c1.g _ _ e1)⟩, w _ _ _ _ g c1 (it_lst e1 rl)⟩
      | tup l =>
        refine .inr (.inl (go _ fun x W2 q2 v ws1 G1 H1 g c1 r => ?_))
        rw [q] at q2
        cases q2
        cases r with
        | d r =>
        cases r with
        | tup e1 rl => exact ⟨_, rfl, ⟨_, SqT.of (c1.g _ _ e1)⟩, w _ _ _ _ g c1 (it_tup (SqT.of e1) rl)⟩
      | tupK l =>
        refine .inr (.inl (go _ fun x W2 q2 v ws1 G1 H1 g c1 r => ?_))
        rw [q] at q2
        cases q2
        cases r with
        | d r =>
        cases r with
        | tupK e1 rl => exact ⟨_, rfl, ⟨_, (Rds.of (K := K) c1.g).t _ _ e1⟩, w _ _ _ _ g c1 (it_tup e1 rl)⟩
      | str z =>
        refine .inr (.inr (go _ fun x W2 q2 v ws1 G1 H1 g c1 r => ?_))
        rw [q] at q2
        cases q2
        cases r with
        | d r =>
        cases r
        exact ⟨_, rfl, w _ _ _ _ g c1 it_str⟩
      | _ => exact w.elim
    | mu n =>
      simp only [seqItm] at w
      cases q3 : W1[n]? with
      | none => rw [q3] at w; exact w.elim
      | some m =>
        rw [q3] at w
        cases m with
        | lst l =>
          refine .inl (go _ fun x W2 q2 v ws1 G1 H1 g c1 r => ?_)
          rw [q] at q2
          cases q2
          cases r with
          | mu e1 =>
          obtain ⟨_, vs, hH, _⟩ := c1.ob n _ _ e1 q3 (by simp)
          exact ⟨_, rfl, ⟨_, SqL.of hH⟩, w _ _ _ _ g c1 (it_mu e1)⟩
        | _ => exact w.elim
/-! ### ranges, enumerate, zip -/
noncomputable def iRg1 (fs : FA) : FI := fun ρ W => (fs ρ W).bind fun xs W1 => match xs with
  | [x] => (match intOf x with
    | some j => if -(2 ^ 62) ≤ j ∧ j < 2 ^ 62 then .ok ⟨(List.range j.toNat).map fun i => Vl.d (.int (0 + (i : Nat))), yes⟩ W1 else .stuck
    | none => .stuck)
  | _ => .stuck
noncomputable def iRg2 (fs : FA) : FI := fun ρ W => (fs ρ W).bind fun xs W1 => match xs with
  | [x, y] => (match intOf x, intOf y with
    | some i, some j => if (-(2 ^ 62) ≤ i ∧ i < 2 ^ 62) ∧ -(2 ^ 62) ≤ j ∧ j < 2 ^ 62 then .ok ⟨(List.range (j - i).toNat).map fun k => Vl.d (.int (i + (k : Nat))), yes⟩ W1 else .stuck
    | _, _ => .stuck)
  | _ => .stuck
theorem it_rng {ws : List Addr} {G H : Hp} {lo : Int} {n : Nat} : ItOk K TB ws G H (Itr lo n) ⟨(List.range n).map fun i => Vl.d (.int (lo + (i : Nat))), yes⟩ := by
  intro ws2 G2 H2 W2 gg c _ i
  have s := gg.g
  refine ⟨fun h => by simpa [Itr] using h, fun x hx => ?_⟩
  rw [List.getElem?_map] at hx
  cases q : (List.range n)[i]? with
  | none => rw [q] at hx; cases hx
  | some y =>
    rw [q] at hx
    cases hx
    obtain ⟨h1, h2⟩ := List.getElem?_eq_some_iff.mp q
    rw [List.length_range] at h1
    rw [List.getElem_range] at h2
    subst h2
    refine ⟨h1, fun u H3 hy => ?_⟩
    obtain ⟨rfl, rfl⟩ := hy
    exact ⟨G2, .refl, c, .d (.int _)⟩
theorem one_of {ws : List Addr} {G : Hp} {vs : List V} {x : Vl} (r : RpVs K ws G vs [x]) : ∃ v, vs = [v] ∧ RpV K ws G v x := by
  cases r with
  | cons h t => cases t; exact ⟨_, rfl, h⟩
theorem two_of {ws : List Addr} {G : Hp} {vs : List V} {x y : Vl} (r : RpVs K ws G vs [x, y]) : ∃ v u, vs = [v, u] ∧ RpV K ws G v x ∧ RpV K ws G u y := by
  cases r with
  | cons h t =>
    obtain ⟨u, rfl, h2⟩ := one_of t
    exact ⟨_, _, rfl, h, h2⟩
theorem s_iRg1 {t : TA} {fs : FA} (h : SA K TB E t fs) : SI K TB E (iRng1 t) (iRg1 fs) := fun σ ws G H ρ W R e c w =>
  h.go (R := ItOk K TB) e c w fun v x W1 ws1 G1 H1 g1 c1 r1 w1 => by
    match x, r1, w1 with
    | [], _, w1 => exact w1.elim
    | _ :: _ :: _, _, w1 => exact w1.elim
    | [x], r1, w1 =>
      obtain ⟨v, rfl, r⟩ := one_of r1
      cases q : intOf x with
      | none => simp only [q] at w1; exact w1.elim
      | some j =>
        simp only [q] at w1
        split at w1
        · rename_i hj
          obtain rfl := intOf_at r q
          exact ⟨j, rfl, hj.1, hj.2, w1 _ _ _ _ .refl c1 it_rng⟩
        · exact w1.elim
theorem s_iRg2 {t : TA} {fs : FA} (h : SA K TB E t fs) : SI K TB E (iRng2 t) (iRg2 fs) := fun σ ws G H ρ W R e c w =>
  h.go (R := ItOk K TB) e c w fun v x W1 ws1 G1 H1 g1 c1 r1 w1 => by
    match x, r1, w1 with
    | [], _, w1 => exact w1.elim
    | [_], _, w1 => exact w1.elim
    | _ :: _ :: _ :: _, _, w1 => exact w1.elim
    | [x, y], r1, w1 =>
      obtain ⟨v, u, rfl, r, r2⟩ := two_of r1
      cases q : intOf x with
      | none => simp only [q] at w1; exact w1.elim
      | some i =>
        cases q2 : intOf y with
        | none => simp only [q, q2] at w1; exact w1.elim
        | some j =>
          simp only [q, q2] at w1
          split at w1
          · rename_i hj
            obtain rfl := intOf_at r q
            obtain rfl := intOf_at r2 q2
            exact ⟨i, j, rfl, ⟨hj.1.1, hj.1.2, hj.2.1, hj.2.2⟩, w1 _ _ _ _ .refl c1 it_rng⟩
          · exact w1.elim
/-- (0, x), (1, y), .. -/
def enumL : Nat → List D → List Vl
  | _, [] => []
  | n, x :: l => .d (.tup [.int (n : Nat), x]) :: enumL (n + 1) l
theorem enumL_at : ∀ (l : List D) (n i : Nat), (enumL n l)[i]? = l[i]?.map fun x => Vl.d (.tup [.int ((n + i : Nat) : Int), x])
  | [], _, _ => by simp [enumL]
  | x :: l, n, 0 => by simp [enumL]
  | x :: l, n, i + 1 => by
    rw [enumL, List.getElem?_cons_succ, List.getElem?_cons_succ, enumL_at l (n + 1) i, show n + 1 + i = n + (i + 1) by omega]
theorem enumL_len : ∀ (l : List D) (n : Nat), (enumL n l).length = l.length
  | [], _ => rfl
  | x :: l, n => by rw [enumL, List.length_cons, List.length_cons, enumL_len l]
def iEn (fs : FA) : FI := fun ρ W => (fs ρ W).bind fun xs W1 => match xs with
  | [.d (.lst l)] => .ok ⟨enumL 0 l, yes⟩ W1
  | [.d (.tup l)] => .ok ⟨enumL 0 l, yes⟩ W1
  | _ => .stuck
def iEnumA (K : PySem.W.Frag) (t : TA) : TI := fun σ H R => iEnum K t σ H R ∨ iEnumT K t σ H R
theorem new_tup {ws : List Addr} {G H : Hp} {W : Ms} {p : Addr} {vs : List V} {l : List D} (c : Cf K TB ws G H W) (hp : H p = none) (r : RpL K G vs l) : ∃ G3, Gr ws G H ws G3 (upd H p (.tup vs)) ∧ Cf K TB ws G3 (upd H p (.tup vs)) W ∧ RpV K ws G3 (.ref p) (.d (.tup l)) :=
  ⟨_, Gr.new c hp, c.new hp, .d (.tup upd_same (r.to (.of (same_upd (c.gn hp)))))⟩
theorem it_enum {ws : List Addr} {G H : Hp} {a : Addr} {vs : List V} {l : List D} (e : G a = some (.lst vs)) (r : RpL K G vs l) : ItOk K TB ws G H (Ite K.K a) ⟨enumL 0 l, yes⟩ := by
  intro ws2 G2 H2 W2 gg c _ i
  have s := gg.g
  have hs : SqL K.K H2 a vs := SqL.of (c.g _ _ (s _ _ e))
  refine ⟨fun h => ⟨vs, hs, by rw [r.len]; simpa [enumL_len] using h⟩, fun x hx => ?_⟩
  rw [enumL_at] at hx
  cases q : l[i]? with
  | none => rw [q] at hx; cases hx
  | some y =>
    rw [q] at hx
    cases hx
    obtain ⟨v, h1, h2⟩ := r.at q
    refine ⟨⟨vs, v, hs, h1⟩, fun u H3 hy => ?_⟩
    obtain ⟨T, x, rfl, hT, rfl, hy⟩ := hy
    have := hy vs hs
    rw [h1] at this
    cases this
    rw [Nat.zero_add]
    exact new_tup c hT (.cons (.int _) (.cons (h2.to (.of s)) .nil))
theorem it_enumT {ws : List Addr} {G H : Hp} {a : Addr} {vs : List V} {l : List D} (e : G a = some (.tup vs)) (r : RpL K G vs l) : ItOk K TB ws G H (IteT K.K a) ⟨enumL 0 l, yes⟩ := by
  intro ws2 G2 H2 W2 gg c _ i
  have s := gg.g
  have hs : SqT K.K H2 a vs := SqT.of (c.g _ _ (s _ _ e))
  refine ⟨fun h => ⟨vs, hs, by rw [r.len]; simpa [enumL_len] using h⟩, fun x hx => ?_⟩
  rw [enumL_at] at hx
  cases q : l[i]? with
  | none => rw [q] at hx; cases hx
  | some y =>
    rw [q] at hx
    cases hx
    obtain ⟨v, h1, h2⟩ := r.at q
    refine ⟨⟨vs, v, hs, h1⟩, fun u H3 hy => ?_⟩
    obtain ⟨T, x, rfl, hT, rfl, hy⟩ := hy
    have := hy vs hs
    rw [h1] at this
    cases this
    rw [Nat.zero_add]
    exact new_tup c hT (.cons (.int _) (.cons (h2.to (.of s)) .nil))
/-- as Snd.go, what comes known -/
theorem Snd.gk {α β : Type} {R : List Addr → Hp → Hp → β → α → Prop} {t : L2.St → Hp → (β → Hp → Prop) → Prop} {f : Ev → Ms → Res α} {σ : L2.St} {ρ : Ev} {W W1 : Ms} {x : α} {ws : List Addr} {G H : Hp} {Q' : β → Hp → Prop} (h : Snd K TB R E t f) (e : EnvR K ws G σ ρ) (c : Cf K TB ws G H W)
    (q : f ρ W = .ok x W1) (nx : ∀ b ws1 G1 H1, Gr ws G H ws1 G1 H1 → Cf K TB ws1 G1 H1 W1 → R ws1 G1 H1 b x → Q' b H1) : t σ H Q' := by
  refine h σ ws G H ρ W Q' e c ?_
  rw [q]
  exact nx
theorem Snd.gx {α β α' β' : Type} {R : List Addr → Hp → Hp → β → α → Prop} {R' : List Addr → Hp → Hp → β' → α' → Prop} {t : L2.St → Hp → (β → Hp → Prop) → Prop} {f : Ev → Ms → Res α} {σ : L2.St} {ρ : Ev} {W W1 : Ms} {C : Addr} {ws : List Addr} {G H : Hp} {Q' : β → Hp → Prop} {Q : β' → Hp → Prop} (h : Snd K TB R E t f) (e : EnvR K ws G σ ρ) (c : Cf K TB ws G H W)
    (q : f ρ W = .exc C W1) (w : Wish K TB R' E ws G H Q (.exc C W1 : Res α')) : t σ H Q' := by
  refine h σ ws G H ρ W Q' e c ?_
  rw [q]
  exact w
theorem s_iEn {t : TA} {fs : FA} (h : SA K TB E t fs) : SI K TB E (iEnumA K.K t) (iEn fs) := fun σ ws G H ρ W R e c w => by
  unfold iEn at w
  cases q : fs ρ W with
  | stuck => rw [q] at w; exact w.elim
  | exc C W1 => rw [q] at w; exact .inl (h.gx (R' := ItOk K TB) e c q w)
  | ok x W1 =>
    rw [q, Res.bind_ok] at w
    split at w
    · refine .inl (h.gk e c q fun b ws1 G1 H1 g c1 r => ?_)
      obtain ⟨v, rfl, r1⟩ := one_of r
      cases r1 with
      | d r2 =>
      cases r2 with
      | lst e1 rl => exact ⟨_, _, rfl, SqL.of (c1.g _ _ e1), w _ _ _ _ g c1 (it_enum e1 rl)⟩
    · refine .inr (h.gk e c q fun b ws1 G1 H1 g c1 r => ?_)
      obtain ⟨v, rfl, r1⟩ := one_of r
      cases r1 with
      | d r2 =>
      cases r2 with
      | tup e1 rl => exact ⟨_, _, rfl, SqT.of (c1.g _ _ e1), w _ _ _ _ g c1 (it_enumT e1 rl)⟩
    · exact w.elim
/-- (x, u), (y, v), .. -/
def zipL : List D → List D → List Vl
  | x :: l, y :: m => .d (.tup [x, y]) :: zipL l m
  | _, _ => []
theorem zipL_at : ∀ (l m : List D) (i : Nat), (zipL l m)[i]? = (l[i]?).bind fun x => (m[i]?).map fun y => Vl.d (.tup [x, y])
  | [], _, _ => by simp [zipL]
  | x :: l, [], i => by
    cases h : (x :: l)[i]? <;> simp [zipL]
  | x :: l, y :: m, 0 => by simp [zipL]
  | x :: l, y :: m, i + 1 => by
    rw [zipL, List.getElem?_cons_succ, zipL_at l m i, List.getElem?_cons_succ, List.getElem?_cons_succ]
theorem zipL_len : ∀ (l m : List D), (zipL l m).length = min l.length m.length
  | [], m => by simp [zipL]
  | _ :: _, [] => by simp [zipL]
  | x :: l, y :: m => by simp [zipL, zipL_len l m]
def iZp (fs : FA) : FI := fun ρ W => (fs ρ W).bind fun xs W1 => match xs with
  | [.d (.lst l), .d (.lst m)] => .ok ⟨zipL l m, yes⟩ W1
  | [.d (.tup l), .d (.tup m)] => .ok ⟨zipL l m, yes⟩ W1
  | _ => .stuck
theorem it_zip {ws : List Addr} {G H : Hp} {a b : Addr} {vs us : List V} {l m : List D} (e : G a = some (.lst vs)) (r : RpL K G vs l) (e2 : G b = some (.lst us)) (r2 : RpL K G us m) : ItOk K TB ws G H (Itz K.K a b) ⟨zipL l m, yes⟩ := by
  intro ws2 G2 H2 W2 gg c _ i
  have s := gg.g
  have hs : SqL K.K H2 a vs := SqL.of (c.g _ _ (s _ _ e))
  have hs2 : SqL K.K H2 b us := SqL.of (c.g _ _ (s _ _ e2))
  refine ⟨fun h => ⟨vs, us, hs, hs2, by rw [r.len, r2.len]; rw [zipL_len] at h; omega⟩, fun x hx => ?_⟩
  rw [zipL_at] at hx
  cases q : l[i]? with
  | none => rw [q] at hx; cases hx
  | some y =>
    cases q2 : m[i]? with
    | none => rw [q, q2] at hx; cases hx
    | some z =>
      rw [q, q2] at hx
      cases hx
      obtain ⟨v, h1, h2⟩ := r.at q
      obtain ⟨u, h3, h4⟩ := r2.at q2
      refine ⟨⟨vs, us, v, u, hs, hs2, h1, h3⟩, fun w H3 hy => ?_⟩
      obtain ⟨T, x, y, rfl, hT, rfl, hy, hy2⟩ := hy
      have k1 := hy vs hs
      have k2 := hy2 us hs2
      rw [h1] at k1
      rw [h3] at k2
      cases k1
      cases k2
      exact new_tup c hT (.cons (h2.to (.of s)) (.cons (h4.to (.of s)) .nil))
theorem it_zipT {ws : List Addr} {G H : Hp} {a b : Addr} {vs us : List V} {l m : List D} (e : G a = some (.tup vs)) (r : RpL K G vs l) (e2 : G b = some (.tup us)) (r2 : RpL K G us m) : ItOk K TB ws G H (RZ.ItzT K.K a b) ⟨zipL l m, yes⟩ := by
  intro ws2 G2 H2 W2 gg c _ i
  have s := gg.g
  have hs : SqT K.K H2 a vs := SqT.of (c.g _ _ (s _ _ e))
  have hs2 : SqT K.K H2 b us := SqT.of (c.g _ _ (s _ _ e2))
  refine ⟨fun h => ⟨vs, us, hs, hs2, by rw [r.len, r2.len]; rw [zipL_len] at h; omega⟩, fun x hx => ?_⟩
  rw [zipL_at] at hx
  cases q : l[i]? with
  | none => rw [q] at hx; cases hx
  | some y =>
    cases q2 : m[i]? with
    | none => rw [q, q2] at hx; cases hx
    | some z =>
      rw [q, q2] at hx
      cases hx
      obtain ⟨v, h1, h2⟩ := r.at q
      obtain ⟨u, h3, h4⟩ := r2.at q2
      refine ⟨⟨vs, us, v, u, hs, hs2, h1, h3⟩, fun w H3 hy => ?_⟩
      obtain ⟨T, x, y, rfl, hT, rfl, hy, hy2⟩ := hy
      have k1 := hy vs hs
      have k2 := hy2 us hs2
      rw [h1] at k1
      rw [h3] at k2
      cases k1
      cases k2
      exact new_tup c hT (.cons (h2.to (.of s)) (.cons (h4.to (.of s)) .nil))
theorem s_iZp {t : TA} {fs : FA} (h : SA K TB E t fs) : SI K TB E (RZ.iZipA K.K t) (iZp fs) := fun σ ws G H ρ W R e c w => by
  unfold iZp at w
  cases q : fs ρ W with
  | stuck => rw [q] at w; exact w.elim
  | exc C W1 => rw [q] at w; exact h.gx (R' := ItOk K TB) e c q w
  | ok x W1 =>
    rw [q, Res.bind_ok] at w
    split at w
    · refine h.gk e c q fun b ws1 G1 H1 g c1 r => ?_
      obtain ⟨v, u, rfl, r1, r2⟩ := two_of r
      cases r1 with
      | d r1 =>
      cases r2 with
      | d r2 =>
      cases r1 with
      | lst e1 rl =>
      cases r2 with
      | lst e2 rl2 => exact ⟨_, _, _, _, rfl, .inl ⟨SqL.of (c1.g _ _ e1), SqL.of (c1.g _ _ e2), w _ _ _ _ g c1 (it_zip e1 rl e2 rl2)⟩⟩
    · refine h.gk e c q fun b ws1 G1 H1 g c1 r => ?_
      obtain ⟨v, u, rfl, r1, r2⟩ := two_of r
      cases r1 with
      | d r1 =>
      cases r2 with
      | d r2 =>
      cases r1 with
      | tup e1 rl =>
      cases r2 with
      | tup e2 rl2 => exact ⟨_, _, _, _, rfl, .inr ⟨SqT.of (c1.g _ _ e1), SqT.of (c1.g _ _ e2), w _ _ _ _ g c1 (it_zipT e1 rl e2 rl2)⟩⟩
    · exact w.elim
end
end DL

set_option Elab.async false
set_option linter.all false
set_option maxRecDepth 100000
set_option maxHeartbeats 4000000
/-! ## dicts walked: locked from the walk's start to its end -/
namespace DL
open PySem PySem.Spec PyProof.Rows L2
def NoFrz (X : Cx) (d : Addr) : Prop := ∀ o' u', X.H_0 d ≠ some (.frz o' u')
/-- P holds of the heap, once all that was locked is unlocked -/
inductive Unl (Nf : Addr → Prop) (P : Hp → Prop) : Hp → Prop
  | here {H : Hp} : P H → Unl Nf P H
  | un {H : Hp} {d : Addr} {od : Obj} {u : HO} : H d = some (.frz od u) → Nf d → Unl Nf P (upd H d u) → Unl Nf P H
theorem Unl.inv {X : Cx} {pins : List (Addr × Obj)} {σ : L2.St} {s : Shared} {P : Hp → Prop} {H : Hp} (h : Unl (NoFrz X) P H) (I : Inv X pins σ H s) : ∃ H', Inv X pins σ H' s ∧ P H' ∧ ∀ a, H a = none → H' a = none := by
  induction h with
  | here p => exact ⟨_, I, p, fun _ h => h⟩
  | @un H d od u e n _ ih =>
    obtain ⟨H', I', p, k⟩ := ih (I.unlock e n)
    exact ⟨H', I', p, fun a ha => k a (by rw [upd_ne (fun z => by subst z; rw [ha] at e; cases e)]; exact ha)⟩
def tUnl (Nf : Addr → Prop) (t : TS) : TS := fun D σ H => t ⟨fun σ' H' => Unl Nf (D.nx σ') H', fun v H' => Unl Nf (D.rt v) H', fun σ' H' => Unl Nf (D.bk σ') H', fun σ' H' => Unl Nf (D.ct σ') H'⟩ σ H
def tUnlE (Nf : Addr → Prop) (t : TE) : TE := fun σ H Q => t σ H fun v H' => Unl Nf (Q v) H'
def UE (Nf : Addr → Prop) (E : XK) : XK := fun c d H => Unl Nf (E c d) H
section
variable {X : Cx}
theorem ps_unl {st : Stmt} {t : TS} (h : PS X st t) : PS X st (tUnl (NoFrz X) t) := by
  refine ⟨fun pins s σ H D I hw => ?_⟩
  refine thn (h.run pins s σ _ _ I hw) fun f s1 q => ?_
  cases f with
  | next =>
    obtain ⟨σ', H', I2, q⟩ := q
    obtain ⟨H3, I3, p, _⟩ := q.inv I2
    exact ⟨σ', H3, I3, p⟩
  | brk =>
    obtain ⟨σ', H', I2, q⟩ := q
    obtain ⟨H3, I3, p, _⟩ := q.inv I2
    exact ⟨σ', H3, I3, p⟩
  | cont =>
    obtain ⟨σ', H', I2, q⟩ := q
    obtain ⟨H3, I3, p, _⟩ := q.inv I2
    exact ⟨σ', H3, I3, p⟩
  | ret v =>
    obtain ⟨x, σ', H', I2, r, q⟩ := q
    obtain ⟨H3, I3, p, _⟩ := q.inv I2
    exact ⟨x, σ', H3, I3, r, p⟩
theorem pe_unl {e : Expr} {t : TE} (h : PE X e t) : PE X e (tUnlE (NoFrz X) t) := by
  refine ⟨fun pins s σ H Q I hw => ?_⟩
  refine thn (h.run pins s σ _ _ I hw) fun v s1 ⟨x, H1, I2, r, q⟩ => ?_
  obtain ⟨H3, I3, p, _⟩ := q.inv I2
  exact ⟨x, H3, I3, r, p⟩
theorem takes_unl {E : XK} (tk : Takes X (fun c d _ H => E c d H)) : Takes X (fun c d _ H => UE (NoFrz X) E c d H) := fun u s' ⟨a, B, sI, pins, σ, H, cls, d, e, I, nb, up, sky, na, os, ag, w⟩ => by
  obtain ⟨H3, I3, p, k⟩ := Unl.inv w I
  exact tk u s' ⟨a, B, sI, pins, σ, H3, cls, d, e, I3, nb, up, sky, k a na, os, ag, p⟩
def iKeysL (w : World) (Nf : Addr → Prop) (td : TE) : TI := fun σ H R => td σ H fun x H1 => ∃ d, x = .ref d ∧
  ((∃ kvs, H1 d = some (.dK kvs) ∧ ∀ od, Nf d → R (Itk d od kvs) (upd H1 d (.frz od (.dK kvs)))) ∨ (∃ kvs, H1 d = some (dN w d kvs) ∧ ∀ od, Nf d → R (Itn w d od kvs) (upd H1 d (.frz od (dN w d kvs)))) ∨
   (∃ od kvs, H1 d = some (.frz od (.dK kvs)) ∧ R (Itk d od kvs) H1) ∨ ∃ od kvs, H1 d = some (.frz od (dN w d kvs)) ∧ R (Itn w d od kvs) H1)
theorem pi_keysL (w : World) {tg e : Expr} {td : TE} (he : PE X e td) (hw : X.w = w := by rfl) : PI X tg e (iKeysL w (NoFrz X) td) := by
  subst hw
  refine ⟨fun pins s σ H R I h => ?_⟩
  refine thn (he.run pins s σ H _ I h) fun u s1 ⟨x, H1, I1, rx, d, ex, q⟩ => ?_
  subst ex
  obtain rfl : u = Value.ref d := rx
  have k1 : ∀ {H2 : Hp} (od : Obj) (kvs : List (Key × V)), Inv X pins σ H2 s1 → H2 d = some (.frz od (.dK kvs)) → R (Itk d od kvs) H2 → wpAny (model X.prog X.w) X.A (pyIter (.ref d)) (PIE X pins σ tg R) X.xe s1 := fun od kvs I1 hd q => by
    obtain ⟨hs, hgd, hx, es, ep, vs, hdt, hsz, kv, hm⟩ := I1.frzK hd
    refine iter_keys hs hgd hx hdt (pi_one (tk := s1.toks) I1 _ (turn_keys _ hdt) ⟨_, Heap.get?_push_size _ rfl, rfl, ?_⟩ q)
    rw [hsz] <;> rfl
  have k2 : ∀ {H2 : Hp} (od : Obj) (kvs : List (NestedKey × Addr × V)), Inv X pins σ H2 s1 → H2 d = some (.frz od (dN X.w d kvs)) → R (Itn X.w d od kvs) H2 → wpAny (model X.prog X.w) X.A (pyIter (.ref d)) (PIE X pins σ tg R) X.xe s1 := fun od kvs I1 hd q => by
    obtain ⟨hs, hgd, hx, es, ep, hdt, hsz, ent⟩ := Inv.frzN I1 hd
    refine iter_keys hs hgd hx hdt (pi_one (tk := s1.toks) I1 _ (turn_keysN _ hdt) ⟨_, Heap.get?_push_size _ rfl, rfl, ?_⟩ q)
    rw [hsz] <;> rfl
  rcases q with ⟨kvs, hd, q⟩ | ⟨kvs, hd, q⟩ | ⟨od, kvs, hd, q⟩ | ⟨od, kvs, hd, q⟩
  · obtain ⟨od, I2⟩ := I1.lock hd True.intro
    exact k1 od kvs I2 upd_same (q od (I1.nofrz hd True.intro))
  · obtain ⟨od, I2⟩ := I1.lock hd True.intro
    exact k2 od kvs I2 upd_same (q od (I1.nofrz hd True.intro))
  · exact k1 od kvs I1 hd q
  · exact k2 od kvs I1 hd q
end
/-! ### what it gives -/
section
variable {K : Fr} {TB : List (Addr × Str)} {E : XK} {Nf : Addr → Prop}
def UnlC (Nf : Addr → Prop) (E : XK) : Prop := ∀ (c : Value) (dx : Option Addr) (H : Hp) (d : Addr) (od : Obj) (u : HO), H d = some (.frz od u) → Nf d → E c dx (upd H d u) → E c dx H
theorem ue_c {E : XK} : UnlC Nf (UE Nf E) := fun c dx H d od u e n h => .un e n h
theorem e0_c : UnlC Nf E0 := fun c dx H d od u e n h => h
def isDct : HO → Prop := fun u => (∃ kvs, u = .dK kvs) ∨ ∃ w a xs, u = dN w a xs
theorem isDct.plain {u : HO} (h : isDct u) : Plain u := by
  rcases h with ⟨kvs, rfl⟩ | ⟨w, a, xs, rfl⟩
  · exact plain_dK
  · exact plain_dN
/-- reading does not mind a lock -/
theorem rds_lock {G : Hp} {d : Addr} {od : Obj} {u : HO} (hu : isDct u) (e : G d = some u) : Rds K G (upd G d (.frz od u)) := by
  have ne : ∀ a o, G a = some o → ¬ isDct o → a ≠ d := fun a o h hn z => by
    subst z; rw [e] at h; cases h; exact hn hu
  have nf : ∀ a o o', G a = some (.frz o o') → a ≠ d := fun a o o' h => ne a _ h (by rintro (⟨k, z⟩ | ⟨w, b, k, z⟩) <;> cases z)
  refine ⟨fun a vs h => ?_, fun a vs h => ?_, fun a vs h => ?_, fun a vs h => ?_, fun a kvs h => ?_, fun w a kvs h => ?_, fun a C dx fs h => ?_⟩
  · rcases h with (h | ⟨o, h⟩) | h
    · exact .inl (.inl (by rw [upd_ne (ne a _ h (by rintro (⟨k, z⟩ | ⟨w, b, k, z⟩) <;> cases z))]; exact h))
    · exact .inl (.inr ⟨o, by rw [upd_ne (nf a _ _ h)]; exact h⟩)
    · exact .inr h
  · rcases h with (h | ⟨o, h⟩) | h
    · exact .inl (.inl (by rw [upd_ne (ne a _ h (by rintro (⟨k, z⟩ | ⟨w, b, k, z⟩) <;> cases z))]; exact h))
    · exact .inl (.inr ⟨o, by rw [upd_ne (nf a _ _ h)]; exact h⟩)
    · exact .inr h
  · rw [upd_ne (ne a _ h (by rintro (⟨k, z⟩ | ⟨w, b, k, z⟩) <;> cases z))]; exact h
  · rw [upd_ne (ne a _ h (by rintro (⟨k, z⟩ | ⟨w, b, k, z⟩) <;> cases z))]; exact h
  · by_cases q : a = d
    · subst q
      rcases h with h | ⟨o, h⟩
      · rw [e] at h; cases h; exact .inr ⟨od, upd_same⟩
      · exact absurd rfl (nf a _ _ h)
    · exact h.elim (fun h => .inl (by rw [upd_ne q]; exact h)) fun ⟨o, h⟩ => .inr ⟨o, by rw [upd_ne q]; exact h⟩
  · by_cases q : a = d
    · subst q
      rcases h with h | ⟨o, h⟩
      · rw [e] at h; cases h; exact .inr ⟨od, upd_same⟩
      · exact absurd rfl (nf a _ _ h)
    · exact h.elim (fun h => .inl (by rw [upd_ne q]; exact h)) fun ⟨o, h⟩ => .inr ⟨o, by rw [upd_ne q]; exact h⟩
  · rw [upd_ne (ne a _ h (by rintro (⟨k, z⟩ | ⟨w, b, k, z⟩) <;> cases z))]; exact h
theorem rds_unlock {G : Hp} {d : Addr} {od : Obj} {u : HO} (hu : isDct u) (e : G d = some (.frz od u)) : Rds K G (upd G d u) := by
  have ne : ∀ a o, G a = some o → (∀ o' u', o ≠ .frz o' u') → a ≠ d := fun a o h hn z => by
    subst z; rw [e] at h; cases h; exact hn _ _ rfl
  have rd : ∀ a x, isDct x → Rd G a x → Rd (upd G d u) a x := fun a x hx h => by
    by_cases q : a = d
    · subst q
      rcases h with h | ⟨o, h⟩
      · rw [e] at h
        cases h
        rcases hx with ⟨k, z⟩ | ⟨w, b, k, z⟩ <;> cases z
      · rw [e] at h; cases h; exact .inl upd_same
    · exact h.elim (fun h => .inl (by rw [upd_ne q]; exact h)) fun ⟨o, h⟩ => .inr ⟨o, by rw [upd_ne q]; exact h⟩
  refine ⟨fun a vs h => ?_, fun a vs h => ?_, fun a vs h => ?_, fun a vs h => ?_, fun a kvs h => rd a _ (.inl ⟨_, rfl⟩) h, fun w a kvs h => rd a _ (.inr ⟨_, _, _, rfl⟩) h, fun a C dx fs h => ?_⟩
  · rcases h with (h | ⟨o, h⟩) | h
    · exact .inl (.inl (by rw [upd_ne (ne a _ h fun _ _ z => (nomatch z))]; exact h))
    · refine .inl (.inr ⟨o, ?_⟩)
      have q : a ≠ d := fun z => by
        subst z
        rw [e] at h
        cases h
        rcases hu with ⟨k, z⟩ | ⟨w, b, k, z⟩ <;> cases z
      rw [upd_ne q]; exact h
    · exact .inr h
  · rcases h with (h | ⟨o, h⟩) | h
    · exact .inl (.inl (by rw [upd_ne (ne a _ h fun _ _ z => (nomatch z))]; exact h))
    · refine .inl (.inr ⟨o, ?_⟩)
      have q : a ≠ d := fun z => by
        subst z
        rw [e] at h
        cases h
        rcases hu with ⟨k, z⟩ | ⟨w, b, k, z⟩ <;> cases z
      rw [upd_ne q]; exact h
    · exact .inr h
  · rw [upd_ne (ne a _ h fun _ _ z => (nomatch z))]; exact h
  · rw [upd_ne (ne a _ h fun _ _ z => (nomatch z))]; exact h
  · rw [upd_ne (ne a _ h fun _ _ z => (nomatch z))]; exact h
variable {ws ws' : List Addr} {G G' H H' : Hp} {W W' : Ms} {d : Addr} {od : Obj} {u : HO}
theorem Cf.lock (c : Cf K TB ws G H W) (hu : isDct u) (e : G d = some u) : Cf K TB ws (upd G d (.frz od u)) (upd H d (.frz od u)) W where
  g := fun b x q => by
    by_cases z : b = d
    · subst z; rw [upd_same] at q ⊢; exact q
    · rw [upd_ne z] at q ⊢; exact c.g b x q
  len := c.len
  nd := c.nd
  nt := fun b ps q => by
    by_cases z : b = d
    · subst z; rw [upd_same] at q; cases q
    · rw [upd_ne z] at q; exact c.nt b ps q
  dm := fun b hb => by
    by_cases z : b = d
    · subst z; rw [upd_same]; exact ⟨_, rfl, fun _ z => nomatch z⟩
    · rw [upd_ne z]; exact c.dm b hb
  ob := fun n a m e1 e2 hm => by
    obtain ⟨h1, h2⟩ := c.ob n a m e1 e2 hm
    have ne : a ≠ d := fun z => by subst z; rw [e] at h1; cases h1
    exact ⟨by rw [upd_ne ne]; exact h1, h2.to (fun v x r => r.to (rds_lock hu e) fun _ _ z => z) (upd_ne ne)⟩
  tb := fun q hq => by
    obtain ⟨ps, h1, h2, h3⟩ := c.tb q hq
    have pu := hu.plain
    have eu := c.g _ _ e
    refine ⟨ps, by rw [upd_ne (fun z => by rw [z, eu] at h1; exact pu.1 _ (Option.some.inj h1))]; exact h1, h2, fun pos cv hc => ?_⟩
    obtain ⟨x, e1, e2⟩ := h3 pos cv hc
    exact ⟨x, e1, by rw [upd_ne (fun z => by rw [z, eu] at e2; exact pu.2.1 _ _ (Option.some.inj e2))]; exact e2⟩
theorem Cf.unlock (c : Cf K TB ws G H W) (hu : isDct u) (e : G d = some (.frz od u)) : Cf K TB ws (upd G d u) (upd H d u) W where
  g := fun b x q => by
    by_cases z : b = d
    · subst z; rw [upd_same] at q ⊢; exact q
    · rw [upd_ne z] at q ⊢; exact c.g b x q
  len := c.len
  nd := c.nd
  nt := fun b ps q => by
    by_cases z : b = d
    · subst z; rw [upd_same] at q; exact hu.plain.1 ps (Option.some.inj q)
    · rw [upd_ne z] at q; exact c.nt b ps q
  dm := fun b hb => by
    by_cases z : b = d
    · subst z; rw [upd_same]; exact ⟨_, rfl, hu.plain.1⟩
    · rw [upd_ne z]; exact c.dm b hb
  ob := fun n a m e1 e2 hm => by
    obtain ⟨h1, h2⟩ := c.ob n a m e1 e2 hm
    have ne : a ≠ d := fun z => by subst z; rw [e] at h1; cases h1
    exact ⟨by rw [upd_ne ne]; exact h1, h2.to (fun v x r => r.to (rds_unlock hu e) fun _ _ z => z) (upd_ne ne)⟩
  tb := fun q hq => by
    obtain ⟨ps, h1, h2, h3⟩ := c.tb q hq
    have eu := c.g _ _ e
    refine ⟨ps, by rw [upd_ne (fun z => by rw [z, eu] at h1; cases h1)]; exact h1, h2, fun pos cv hc => ?_⟩
    obtain ⟨x, e1, e2⟩ := h3 pos cv hc
    exact ⟨x, e1, by rw [upd_ne (fun z => by rw [z, eu] at e2; cases e2)]; exact e2⟩
/-- from the lock to the unlocking -/
theorem Gr.unlock (g : Gr ws (upd G d (.frz od u)) (upd H d (.frz od u)) ws' G' H') (hu : isDct u) (c : Cf K TB ws G H W) (e : G d = some u) : Gr ws G H ws' (upd G' d u) (upd H' d u) where
  g := fun a o h => by
    by_cases z : a = d
    · subst z; rw [upd_same]; rw [e] at h; exact h
    · rw [upd_ne z]; exact g.g a o (by rw [upd_ne z]; exact h)
  p := g.p
  fr := fun a o h hw n => by
    by_cases z : a = d
    · subst z
      rw [c.g _ _ e] at h
      cases h
      exact upd_same
    · rw [upd_ne z]
      exact g.fr a o (by rw [upd_ne z]; exact h) hw n
  fz := fun a o' u' h => by
    have z : a ≠ d := fun z => by
      subst z
      rw [c.g _ _ e] at h
      rcases hu with ⟨k, q⟩ | ⟨w, b, k, q⟩ <;> (rw [q] at h; cases h)
    rw [upd_ne z]
    exact g.fz a o' u' (by rw [upd_ne z]; exact h)
  nw := fun a o ha n hw => by
    by_cases z : a = d
    · subst z; exact g.nw a _ upd_same (fun _ q => nomatch q) hw
    · exact g.nw a o (by rw [upd_ne z]; exact ha) n hw
  nf := fun a o h hg hw n => by
    have z : a ≠ d := fun z => by subst z; rw [e] at hg; cases hg
    rcases g.nf a o (by rw [upd_ne z]; exact h) (by rw [upd_ne z]; exact hg) hw n with k | k
    · exact .inl (by rw [upd_ne z]; exact k)
    · exact .inr k
theorem env_lock {σ : L2.St} {ρ : Ev} (e : EnvR K ws G σ ρ) (m : Rds K G G') : EnvR K ws G' σ ρ := Paired.imp (fun ov od h => by
  cases od with
  | none => trivial
  | some x =>
    obtain ⟨v, e, r⟩ := h
    exact ⟨v, e, r.to m fun _ _ z => z⟩) e
theorem vk_keys {kvs : List (Key × V)} {l : List (D × Vl)} (r : RpVK K ws G kvs l) : (l.map fun p => Vl.d p.1) = kvs.map fun p => Vl.d (kD p.1) := by
  induction r with
  | nil => rfl
  | cons h t ih => rw [List.map_cons, List.map_cons, ih, h.1]
theorem it_keysK {kvs : List (Key × V)} (hk : H d = some (.frz od (.dK kvs))) : ItOk K TB ws G H (Itk d od kvs) ⟨kvs.map fun p => Vl.d (kD p.1), yes⟩ := by
  intro ws2 G2 H2 W2 gg c k i
  have e2 := gg.fz _ _ _ hk
  refine ⟨fun h => ⟨e2, by simpa using h⟩, fun x hx => ?_⟩
  rw [List.getElem?_map] at hx
  cases q : kvs[i]? with
  | none => rw [q] at hx; cases hx
  | some y =>
    rw [q] at hx
    cases hx
    refine ⟨⟨e2, (List.getElem?_eq_some_iff.mp q).1⟩, fun v H3 hy => ?_⟩
    obtain ⟨rfl, k, z, q2, rfl⟩ := hy
    rw [q] at q2
    cases q2
    refine ⟨G2, .refl, c, .d ?_⟩
    cases k with
    | inl i => exact .int i
    | inr s => exact .str s
theorem it_keysN {kvs : List (NestedKey × Addr × V)} {l : List (D × Vl)} (r : RpVN K ws G kvs l) (hk : H d = some (.frz od (dN K.w d kvs))) : ItOk K TB ws G H (Itn K.w d od kvs) ⟨l.map fun p => Vl.d p.1, yes⟩ := by
  intro ws2 G2 H2 W2 gg c k i
  have e2 := gg.fz _ _ _ hk
  refine ⟨fun h => ⟨e2, by rw [Paired.length r]; simpa using h⟩, fun x hx => ?_⟩
  rw [List.getElem?_map] at hx
  cases q : l[i]? with
  | none => rw [q] at hx; cases hx
  | some y =>
    rw [q] at hx
    cases hx
    obtain ⟨a, h1, h2⟩ := Paired.at' r q
    refine ⟨⟨e2, (List.getElem?_eq_some_iff.mp h1).1⟩, fun v H3 hy => ?_⟩
    obtain ⟨rfl, k, z, b, q2, rfl⟩ := hy
    rw [h1] at q2
    cases q2
    exact ⟨G2, .refl, c, .d (h2.1.1.to (.of gg.g))⟩
def DnU (Nf : Addr → Prop) (D : Ends) : Ends := ⟨fun σ' H' => Unl Nf (D.nx σ') H', fun v H' => Unl Nf (D.rt v) H', fun σ' H' => Unl Nf (D.bk σ') H', fun σ' H' => Unl Nf (D.ct σ') H'⟩
theorem wishS_here {Dn : Ends} {r : Out} (w : WishS K TB E ws G H Dn r) : WishS K TB E ws G H (DnU Nf Dn) r := by
  cases r with
  | nx ρ W => exact fun σ ws' G' H' g c e => .here (w σ ws' G' H' g c e)
  | bk ρ W => exact fun σ ws' G' H' g c e => .here (w σ ws' G' H' g c e)
  | ct ρ W => exact fun σ ws' G' H' g c e => .here (w σ ws' G' H' g c e)
  | rt v W => exact fun v ws' G' H' g c e => .here (w v ws' G' H' g c e)
  | exc C W => exact w
  | stuck => exact w
theorem wishS_lock {Dn : Ends} {r : Out} (hE : UnlC Nf E) (hu : isDct u) (e : G d = some u) (hn : Nf d) (c : Cf K TB ws G H W) (w : WishS K TB E ws G H Dn r) : WishS K TB E ws (upd G d (.frz od u)) (upd H d (.frz od u)) (DnU Nf Dn) r := by
  cases r with
  | nx ρ W1 =>
    intro σ ws' G' H' g c' e'
    have k := g.g d _ upd_same
    exact .un (c'.g _ _ k) hn (.here (w σ ws' _ _ (g.unlock hu c e) (c'.unlock hu k) (env_lock e' (rds_unlock hu k))))
  | bk ρ W1 =>
    intro σ ws' G' H' g c' e'
    have k := g.g d _ upd_same
    exact .un (c'.g _ _ k) hn (.here (w σ ws' _ _ (g.unlock hu c e) (c'.unlock hu k) (env_lock e' (rds_unlock hu k))))
  | ct ρ W1 =>
    intro σ ws' G' H' g c' e'
    have k := g.g d _ upd_same
    exact .un (c'.g _ _ k) hn (.here (w σ ws' _ _ (g.unlock hu c e) (c'.unlock hu k) (env_lock e' (rds_unlock hu k))))
  | rt v W1 =>
    intro v ws' G' H' g c' r'
    have k := g.g d _ upd_same
    exact .un (c'.g _ _ k) hn (.here (w v ws' _ _ (g.unlock hu c e) (c'.unlock hu k) (r'.to (rds_unlock hu k) fun _ _ z => z)))
  | exc C W1 =>
    intro ws' G' H' g c'
    have k := g.g d _ upd_same
    exact hE _ _ _ _ _ _ (c'.g _ _ k) hn (w ws' _ _ (g.unlock hu c e) (c'.unlock hu k))
  | stuck => exact w
/-- the n-th, a dict, is locked while it is walked -/
def lkK (n : Nat) (l : List (D × Vl)) : Ms → Prop := fun W => W[n]? = some (.lk l)
open Classical in
noncomputable def unlk (n : Nat) (l : List (D × Vl)) : Out → Out
  | .nx ρ W => if lkK n l W then .nx ρ (W.set n (.dct l)) else .stuck
  | .bk ρ W => if lkK n l W then .bk ρ (W.set n (.dct l)) else .stuck
  | .ct ρ W => if lkK n l W then .ct ρ (W.set n (.dct l)) else .stuck
  | .rt v W => if lkK n l W then .rt v (W.set n (.dct l)) else .stuck
  | .exc C W => if lkK n l W then .exc C (W.set n (.dct l)) else .stuck
  | .stuck => .stuck
noncomputable def forK (fg : FG) (b : FS) (x : Vl) (ρ : Ev) (W : Ms) : Out := match x with
  | .d (.dct l) => forL yes fg b (l.map fun p => Vl.d p.1) ρ W
  | .mu n => (match W[n]? with
    | some (.dct l) => unlk n l (forL yes fg b (l.map fun p => Vl.d p.1) ρ (W.set n (.lk l)))
    | some (.lk l) => forL yes fg b (l.map fun p => Vl.d p.1) ρ W
    | _ => .stuck)
  | _ => .stuck
noncomputable def sForK (fe : FE) (fg : FG) (b : FS) : FS := fun ρ W => (fe ρ W).bindS fun x W1 => forK fg b x ρ W1
theorem lk_un {n : Nat} {a : Addr} {l : List (D × Vl)} (c : Cf K TB ws G H W) (ea : ws[n]? = some a) (h : lkK n l W) : ∃ ob u, isDct u ∧ H a = some (.frz ob u) ∧ Cf K TB ws G (upd H a u) (W.set n (.dct l)) := by
  obtain ⟨hg, hm⟩ := c.ob n a _ ea h (by simp)
  rcases hm with ⟨ob, kvs, e, r⟩ | ⟨ob, kvs, e, r, nl⟩
  · exact ⟨ob, .dK kvs, .inl ⟨_, rfl⟩, e, c.put ea h (by simp) (.inl ⟨kvs, upd_same, r⟩)⟩
  · exact ⟨ob, dN K.w a kvs, .inr ⟨_, _, _, rfl⟩, e, c.put ea h (by simp) (.inr ⟨kvs, upd_same, r, nl⟩)⟩
theorem Gr.unlkM {n : Nat} {a : Addr} {od : Obj} {u u' v : HO} (g : Gr ws G (upd H a (.frz od u)) ws' G' H') (ea : ws[n]? = some a) (e : H a = some v) (pv : Plain v ∧ ∀ o' u', v ≠ .frz o' u') : Gr ws G H ws' G' (upd H' a u') where
  g := g.g
  p := g.p
  fr := fun b o h hw n => by
    have z : b ≠ a := fun z => hw (z ▸ List.mem_of_getElem? ea)
    rw [upd_ne z]
    exact g.fr b o (by rw [upd_ne z]; exact h) hw n
  fz := fun b o' u' h => by
    have z : b ≠ a := fun z => by
      subst z
      rw [e] at h
      exact pv.2 _ _ (Option.some.inj h)
    rw [upd_ne z]
    exact g.fz b o' u' (by rw [upd_ne z]; exact h)
  nw := fun b o ha n hw => by
    have z : b ≠ a := fun z => hw (z ▸ List.mem_of_getElem? ea)
    exact g.nw b o (by rw [upd_ne z]; exact ha) n hw
  nf := fun b o h hg hw n => by
    have z : b ≠ a := fun z => hw (z ▸ List.mem_of_getElem? ea)
    exact g.nf b o (by rw [upd_ne z]; exact h) hg hw n
theorem wishS_lkM {Dn : Ends} {r : Out} {n : Nat} {a : Addr} {l : List (D × Vl)} {od : Obj} {u v : HO} (hE : UnlC Nf E) (hn : Nf a) (ea : ws[n]? = some a) (e : H a = some v) (pv : Plain v ∧ ∀ o' u', v ≠ .frz o' u') (w : WishS K TB E ws G H Dn (unlk n l r)) : WishS K TB E ws G (upd H a (.frz od u)) (DnU Nf Dn) r := by
  cases r with
  | nx ρ W1 =>
    intro σ ws' G' H' g c' e'
    simp only [unlk] at w
    split at w
    · rename_i h
      obtain ⟨ob, u, hu, k, c2⟩ := lk_un c' (g.at ea) h
      exact .un k hn (.here (w σ ws' _ _ (g.unlkM ea e pv) c2 e'))
    · exact w.elim
  | bk ρ W1 =>
    intro σ ws' G' H' g c' e'
    simp only [unlk] at w
    split at w
    · rename_i h
      obtain ⟨ob, u, hu, k, c2⟩ := lk_un c' (g.at ea) h
      exact .un k hn (.here (w σ ws' _ _ (g.unlkM ea e pv) c2 e'))
    · exact w.elim
  | ct ρ W1 =>
    intro σ ws' G' H' g c' e'
    simp only [unlk] at w
    split at w
    · rename_i h
      obtain ⟨ob, u, hu, k, c2⟩ := lk_un c' (g.at ea) h
      exact .un k hn (.here (w σ ws' _ _ (g.unlkM ea e pv) c2 e'))
    · exact w.elim
  | rt v W1 =>
    intro v' ws' G' H' g c' e'
    simp only [unlk] at w
    split at w
    · rename_i h
      obtain ⟨ob, u, hu, k, c2⟩ := lk_un c' (g.at ea) h
      exact .un k hn (.here (w v' ws' _ _ (g.unlkM ea e pv) c2 e'))
    · exact w.elim
  | exc C W1 =>
    intro ws' G' H' g c'
    simp only [unlk] at w
    split at w
    · rename_i h
      obtain ⟨ob, u, hu, k, c2⟩ := lk_un c' (g.at ea) h
      exact hE _ _ _ _ _ _ k hn (w ws' _ _ (g.unlkM ea e pv) c2)
    · exact w.elim
  | stuck => exact w
/-- the ways in which a dict is walked: what is asked of the walk -/
theorem walk_keys {R : It → Hp → Prop} {v : V} {x : Vl} (c : Cf K TB ws G H W) (r : RpV K ws G v x)
    (frozen : ∀ l, x = .d (.dct l) → (∀ J, ItOk K TB ws G H J ⟨l.map fun p => Vl.d p.1, yes⟩ → R J H) ∧ ∀ d od u, isDct u → G d = some u → Nf d → ∀ J, ItOk K TB ws (upd G d (.frz od u)) (upd H d (.frz od u)) J ⟨l.map fun p => Vl.d p.1, yes⟩ → R J (upd H d (.frz od u)))
    (mutd : ∀ n l, x = .mu n → W[n]? = some (.dct l) → ∀ a od u, ws[n]? = some a → Nf a → H a = some u → (Plain u ∧ ∀ o' u', u ≠ .frz o' u') → Cf K TB ws G (upd H a (.frz od u)) (W.set n (.lk l)) → ∀ J, ItOk K TB ws G (upd H a (.frz od u)) J ⟨l.map fun p => Vl.d p.1, yes⟩ → R J (upd H a (.frz od u)))
    (lkd : ∀ n l, x = .mu n → W[n]? = some (.lk l) → ∀ J, ItOk K TB ws G H J ⟨l.map fun p => Vl.d p.1, yes⟩ → R J H)
    (hx : (∃ l, x = .d (.dct l)) ∨ ∃ n l, x = .mu n ∧ (W[n]? = some (.dct l) ∨ W[n]? = some (.lk l))) :
    ∃ d, v = .ref d ∧
  ((∃ kvs, H d = some (.dK kvs) ∧ ∀ od, Nf d → R (Itk d od kvs) (upd H d (.frz od (.dK kvs)))) ∨ (∃ kvs, H d = some (dN K.w d kvs) ∧ ∀ od, Nf d → R (Itn K.w d od kvs) (upd H d (.frz od (dN K.w d kvs)))) ∨
   (∃ od kvs, H d = some (.frz od (.dK kvs)) ∧ R (Itk d od kvs) H) ∨ ∃ od kvs, H d = some (.frz od (dN K.w d kvs)) ∧ R (Itn K.w d od kvs) H) := by
  rcases hx with ⟨l, rfl⟩ | ⟨n, l, rfl, hW⟩
  · obtain ⟨f1, f2⟩ := frozen l rfl
    cases r with
    | d r =>
    cases r with
    | @dct d kvs _ e rk =>
      have ek : (l.map fun p => Vl.d p.1) = kvs.map fun p => Vl.d (kD p.1) := by
        have := vk_keys (rk.vk (ws := ws))
        rwa [List.map_map] at this
      refine ⟨d, rfl, ?_⟩
      rcases e with e | ⟨od, e⟩
      · refine .inl ⟨kvs, c.g _ _ e, fun od hn => f2 d od _ (.inl ⟨_, rfl⟩) e hn _ ?_⟩
        rw [ek]
        exact it_keysK upd_same
      · refine .inr (.inr (.inl ⟨od, kvs, c.g _ _ e, f1 _ ?_⟩))
        rw [ek]
        exact it_keysK (c.g _ _ e)
    | @dcN d kvs _ e nl rn =>
      have ek : (l.map fun p => Vl.d p.1) = (l.map fun p => (p.1, Vl.d p.2)).map fun p => Vl.d p.1 := by rw [List.map_map]; rfl
      refine ⟨d, rfl, ?_⟩
      rcases e with e | ⟨od, e⟩
      · refine .inr (.inl ⟨kvs, c.g _ _ e, fun od hn => f2 d od _ (.inr ⟨_, _, _, rfl⟩) e hn _ ?_⟩)
        rw [ek]
        exact it_keysN ((rn.to (rds_lock (.inr ⟨_, _, _, rfl⟩) e)).vn) upd_same
      · refine .inr (.inr (.inr ⟨od, kvs, c.g _ _ e, f1 _ ?_⟩))
        rw [ek]
        exact it_keysN rn.vn (c.g _ _ e)
  · cases r with
    | @mu a _ ea =>
    refine ⟨a, rfl, ?_⟩
    rcases hW with hW | hW
    · obtain ⟨hg, hm⟩ := c.ob n a _ ea hW (by simp)
      rcases hm with ⟨kvs, e, rk⟩ | ⟨kvs, e, rn, nl⟩
      · refine .inl ⟨kvs, e, fun od hn => mutd n l rfl hW a od _ ea hn e nf_dK (c.put ea hW (by simp) (.inl ⟨od, kvs, upd_same, rk⟩)) _ ?_⟩
        rw [vk_keys rk]
        exact it_keysK upd_same
      · exact .inr (.inl ⟨kvs, e, fun od hn => mutd n l rfl hW a od _ ea hn e nf_dN (c.put ea hW (by simp) (.inr ⟨od, kvs, upd_same, rn, nl⟩)) _ (it_keysN rn upd_same)⟩)
    · obtain ⟨hg, hm⟩ := c.ob n a _ ea hW (by simp)
      rcases hm with ⟨ob, kvs, e, rk⟩ | ⟨ob, kvs, e, rn, nl⟩
      · refine .inr (.inr (.inl ⟨ob, kvs, e, lkd n l rfl hW _ ?_⟩))
        rw [vk_keys rk]
        exact it_keysK e
      · exact .inr (.inr (.inr ⟨ob, kvs, e, lkd n l rfl hW _ (it_keysN rn e)⟩))
def forR (g : TG) (tb : TS) (D : Ends) (σ : L2.St) : It → Hp → Prop := fun J H1 => ∃ W : Nat → Nat → L2.St → Hp → Prop, (∃ m, W 0 m σ H1) ∧ ∀ i m σ H, W i m σ H →
  (J.stop i H ∧ D.nx σ H) ∨ (J.go i H ∧ ∃ N : L2.St → Hp → Prop, (∀ σ' H', N σ' H' → ∃ m', m' < m ∧ W (i + 1) m' σ' H') ∧ ∀ x H', J.yld i H x H' → g x σ H' fun σ2 H2 => tb { D with nx := N, ct := N, bk := D.nx } σ2 H2)
theorem s_forK {td : TE} {fe : FE} {g : TG} {tb : TS} {fg : FG} {b : FS} {vs : List Nat} (hE : UnlC Nf E) (h : SE K TB E td fe) (hg : SG K TB vs g fg) (hb : SS K TB E tb b) : SS K TB E (tUnl Nf (tFor (iKeysL K.w Nf td) g tb)) (sForK fe fg b) := fun σ ws G H ρ W Dn e c w =>
  h.goS (Dn := Dn) e c w fun v x W1 ws1 G1 H1 g1 c1 r1 w1 => by
    have e1 := e.up g1
    refine walk_keys (R := forR g tb (DnU Nf Dn) σ) c1 r1 (fun l hl => ⟨fun J ok => ?_, fun d od u hu eu hn J ok => ?_⟩) (fun n l hl hW a od u ea hn eu pu c2 J ok => ?_) (fun n l hl hW J ok => ?_) ?_
    · subst hl
      exact for_core (Dn := DnU Nf Dn) hg hb ok c1 e1 (wishS_here w1)
    · subst hl
      exact for_core (Dn := DnU Nf Dn) hg hb ok (c1.lock hu eu) (env_lock e1 (rds_lock hu eu)) (wishS_lock hE hu eu hn c1 w1)
    · subst hl
      simp only [forK, hW] at w1
      exact for_core (Dn := DnU Nf Dn) hg hb ok c2 e1 (wishS_lkM hE hn ea eu pu w1)
    · subst hl
      simp only [forK, hW] at w1
      exact for_core (Dn := DnU Nf Dn) hg hb ok c1 e1 (wishS_here w1)
    · cases x with
      | d x => cases x <;> first | exact .inl ⟨_, rfl⟩ | exact (show False from w1).elim
      | mu n =>
        simp only [forK] at w1
        cases q : W1[n]? with
        | none => rw [q] at w1; exact w1.elim
        | some m =>
          rw [q] at w1
          cases m with
          | dct l => exact .inr ⟨n, l, rfl, .inl q⟩
          | lk l => exact .inr ⟨n, l, rfl, .inr q⟩
          | _ => exact w1.elim
end
end DL

set_option Elab.async false
set_option linter.all false
set_option maxRecDepth 100000
set_option maxHeartbeats 4000000
/-! ## tuples sorted, some of them empty -/
namespace DS
open PySem PySem.Spec PySem.Calls PyProof.Rows PySem.W
open SeqAt (pairEq)
theorem each_right {α β : Type} {R : α → β → Prop} : ∀ {as : List α} {bs : List β}, EachIs R as bs → ∀ b ∈ bs, ∃ a, a ∈ as ∧ R a b
  | _, _, .nil, b, h => nomatch h
  | _, _, .cons h t, b, hb => by
    rcases List.mem_cons.mp hb with rfl | hb
    · exact ⟨_, List.mem_cons_self, h⟩
    · obtain ⟨a, h1, h2⟩ := each_right t b hb
      exact ⟨a, List.mem_cons_of_mem _ h1, h2⟩
/-- all are tuples, or none is a tuple or None -/
def Sorta (ds : List PyData) : Prop := Sortable ds ∨ ∀ d, d ∈ ds → ∃ xs, d = .tuple xs
section
variable {prog : Program} {w : World} {A : Around} {E : Value → Shared → Prop} {s : Shared}
theorem call_tuple_lt {Q : Value → Shared → Prop} {l b : Addr} {items items2 : Array Value} {e r : Nat → Bool} (hl : s.heap.IsTuple l items) (hb : s.heap.IsTuple b items2)
    (he : ∀ j (h1 : j < items.size) (h2 : j < items2.size), SeqAt.EqAt A.in1 s items[j] items2[j] (e j)) (hr : ∀ j (h1 : j < items.size) (h2 : j < items2.size), e j = false → SeqAt.RcLt A.in1 s items[j] items2[j] (r j))
    (h : Q (.bool (SeqAt.firstLt e r (decide (items.size < items2.size)) (List.range (min items.size items2.size)))) s) : wpAny (model prog w) A (call (.builtin "tuple.__lt__") [.ref l, .ref b]) Q E s := by
  obtain ⟨⟨c1, d1, dt1, s1⟩, ho, hc, n, hd⟩ := id hl
  obtain ⟨⟨c2, d2, dt2, s2⟩, ho2, hc2, n2, hd2⟩ := id hb
  simp only at hc hd hc2 hd2
  subst hc hd hc2 hd2
  exact call_meets F.slot_tuple_lt ⟨_, ho, rfl⟩ F.entry_tuple_lt (F.args_tuple_lt_2 _ _) (SeqAt.tuple_ltAt l b items items2 n n2 d1 d2 s1 s2 e r) ⟨ho, ho2, he, hr, h⟩
theorem oneLt_tuples {xs ys : List PyData} {a b : Value} {as bs : List Addr} {Q : Bool → Shared → Prop} (ra : Reads s.heap a (.tuple xs) as) (rb : Reads s.heap b (.tuple ys) bs) (h : alike (.tuple xs) (.tuple ys) = true)
    (hu : A.units + min (PyData.tuple xs).depth (PyData.tuple ys).depth < cLine) (hq : Q (dataLt (.tuple xs) (.tuple ys)) s) : wpAny (model prog w) A (oneLt' true a b) Q E s := by
  have hal : alikeAll xs ys = true := by simpa [alike] using h
  cases ra with
  | @tuple l o vs n _ as₁ h1 h2 h3 h4 =>
    cases rb with
    | @tuple l' o' vs' n' _ bs₁ k1 k2 k3 k4 =>
      have n1 : vs.size = xs.length := by simpa using SeqAt.ReadsAll.length _ _ _ h4
      have n2 : vs'.size = ys.length := by simpa using SeqAt.ReadsAll.length _ _ _ k4
      rw [dataLt_tuple, ← firstLt_toks xs ys hal, ← n1, ← n2] at hq
      rw [oneLt'_eq]
      simp only [if_true]
      refine wpAny_bind (wpAny_cRoomFor (SeqAt.room_here hu) ?_)
      refine wpAny_bind (wpAny_callSpecialIfBound?_slot (T := "tuple") ⟨_, h1, h2⟩ F.slot_tuple_lt (call_tuple_lt (e := pairEq xs ys) (r := fun j => dataLt (xs.getD j .none) (ys.getD j .none)) ⟨_, h1, h2, _, h3⟩ ⟨_, k1, k2, _, k3⟩ (fun j j1 j2 => ?_) (fun j j1 j2 hj => ?_) ?_))
      · have := eqAt_alikeAll xs ys A.in1 s vs.toList vs'.toList _ _ h4 k4 hal (SeqAt.room_in hu) j (by simpa using j1) (by simpa using j2)
        simpa using this
      · have := rcLt_alikeAll xs ys A.in1 s vs.toList vs'.toList _ _ h4 k4 hal (SeqAt.room_in hu) j (by simpa using j1) (by simpa using j2) hj
        simpa using this
      · exact wpAny_truthy_bool hq
/-- the first items, none for an empty tuple -/
theorem firsts_any : ∀ {vs : List Value} {ds : List PyData}, EachIs (fun v d => ∃ as, Reads s.heap v d as) vs ds → (∀ d, d ∈ ds → ∃ xs, d = .tuple xs) → ∀ {Q : List (Option Value) → Shared → Prop},
    (∀ fs : List (Option Value), EachIs (fun f d => f.isSome = true ↔ ∃ x r, d = PyData.tuple (x :: r)) fs ds → Q fs s) → wpAny (model prog w) A (vs.mapM firstOfTuple') Q E s
  | _, _, .nil, _, _, h => by rw [List.mapM_nil]; exact wpAny_pure (h [] .nil)
  | _, _, .cons (b := d) ⟨as, r⟩ t, ht, Q, h => by
    obtain ⟨xs, rfl⟩ := ht d List.mem_cons_self
    cases r with
    | @tuple a o ys n _ _ ho hc hd hr =>
      rw [List.mapM_cons]
      refine wpAny_bind ?_
      rw [kas_first_eq]
      refine wpAny_bind (Looks.here (show Looks _ s.heap (typeOf (.ref a)) o.cls from (Looks.ld ho).andThen .now) ?_)
      rw [hc, if_neg (by first | decide | simp)]
      refine wpAny_bind (listItems_at ho hd (wpAny_pure ?_))
      refine wpAny_bind (firsts_any t (fun d' hd' => ht d' (List.mem_cons_of_mem _ hd')) fun fs hfs => wpAny_pure (h _ (.cons ?_ hfs)))
      cases xs with
      | nil =>
        have : ys.toList = [] := by cases hl : ys.toList with
          | nil => rfl
          | cons x l => rw [hl] at hr; cases hr
        have e : ys[0]? = none := by rw [← Array.getElem?_toList, this]; rfl
        rw [e]
        exact ⟨fun z => (nomatch z), fun ⟨x, r, z⟩ => by cases z⟩
      | cons x xs =>
        cases hl : ys.toList with
        | nil => rw [hl] at hr; cases hr
        | cons y l =>
          have e : ys[0]? = some y := by rw [← Array.getElem?_toList, hl]; rfl
          rw [e]
          exact ⟨fun _ => ⟨x, xs, rfl⟩, fun _ => rfl⟩
theorem SortsAt.any {vs : List Value} {ds : List PyData} (e : EachIs (fun v d => ∃ as, Reads s.heap v d as) vs ds) (hal : AllAlike ds) (hk : Sorta ds) (hu : ∀ d, d ∈ ds → A.units + d.depth < cLine) : SortsAt prog w A s (dataKind s.heap ds) vs := by
  rcases hk with hk | ht
  · exact PySem.W.SortsAt.data e hal hk hu
  by_cases hs : Sortable ds
  · exact PySem.W.SortsAt.data e hal hs hu
  have room : ∀ {d d' : PyData}, d ∈ ds → A.units + min d.depth d'.depth < cLine := fun {d d'} hd => Nat.lt_of_le_of_lt (Nat.add_le_add_left (Nat.min_le_left _ _) _) (hu d hd)
  refine ⟨fun v hv => ?_, ?_⟩
  · obtain ⟨d, hd, as, r⟩ := e.left v hv
    exact ⟨_, dataKind_some hal hd r⟩
  have nn : ∀ d ∈ ds, d ≠ .none := fun d hd z => by
    obtain ⟨xs, q⟩ := ht d hd
    rw [z] at q
    cases q
  have lt : ∀ b : Bool, ∀ (E : Value → Shared → Prop) (x y : Value) (p q : (dataKind s.heap ds).α) {Q : Bool → Shared → Prop}, (dataKind s.heap ds).keyOf x = some p → (dataKind s.heap ds).keyOf y = some q → Q ((dataKind s.heap ds).blt p q) s → wpAny (model prog w) A (oneLt' b x y) Q E s := by
    intro b E x y p q Q ha hb hq
    obtain ⟨d, as, hd, ra, rfl⟩ := dataKind_inv ha
    obtain ⟨d', as', hd', rb, rfl⟩ := dataKind_inv hb
    cases b with
    | false => exact oneLt_alike (fun z => (nomatch z)) ra rb (hal d hd d' hd') (nn d hd) (room hd) hq
    | true =>
      obtain ⟨xs, rfl⟩ := ht d hd
      obtain ⟨ys, rfl⟩ := ht d' hd'
      exact oneLt_tuples ra rb (hal _ hd _ hd') (room hd) hq
  cases ds with
  | nil => exact absurd (Or.inl fun d hd => nomatch hd) hs
  | cons d₀ ds₀ =>
    have bad : ∀ fs : List (Option Value), EachIs (fun f d => f.isSome = true ↔ ∃ x r, d = PyData.tuple (x :: r)) fs (d₀ :: ds₀) → (fs.toArray.all fun f => f.isSome) = false := by
      intro fs hfs
      cases q : fs.toArray.all fun f => f.isSome with
      | false => rfl
      | true =>
        refine absurd (Or.inl fun d hd => ?_) hs
        obtain ⟨f, hf, h1⟩ := each_right hfs d hd
        simp only [List.all_toArray, List.all_eq_true] at q
        exact h1.mp (q f hf)
    by_cases hf : ∃ x r, d₀ = PyData.tuple (x :: r)
    · refine ⟨general', fun E x y p q Q ha hb hq => lt false E x y p q ha hb hq, fun h2 E Q hq => ?_⟩
      rw [keyKind'_eq, List.mapM_toArray, map_eq_pure_bind]
      refine wpAny_bind (wpAny_bind (firsts_any e ht fun fs hfs => wpAny_pure ?_))
      rw [bad fs hfs]
      cases hfs with
      | cons h1 t =>
        rename_i f fs
        have : (((f :: fs).toArray[0]?).bind id).isSome = true := by
          simpa using h1.mpr hf
        simp only [Bool.false_eq_true, if_false, this, if_true]
        exact wpAny_pure hq
    · refine ⟨oneType', fun E x y p q Q ha hb hq => lt true E x y p q ha hb hq, fun h2 E Q hq => ?_⟩
      rw [keyKind'_eq, List.mapM_toArray, map_eq_pure_bind]
      refine wpAny_bind (wpAny_bind (firsts_any e ht fun fs hfs => wpAny_pure ?_))
      rw [bad fs hfs]
      cases hfs with
      | cons h1 t =>
        rename_i f fs
        have : (((f :: fs).toArray[0]?).bind id).isSome = false := by
          cases f with
          | none => rfl
          | some y => exact absurd (h1.mp rfl) hf
        simp only [Bool.false_eq_true, if_false, this]
        cases e with
        | cons e1 e2 =>
          rename_i v vs
          rw [oneTypeOnly'_eq, List.mapM_toArray, map_eq_pure_bind]
          refine wpAny_bind (wpAny_bind (wpAny_bind (kas_mapM (r := Value.type "tuple") _ (fun u hu' Q' hq' => ?_) (wpAny_pure ?_))))
          · obtain ⟨d, hd, as, r⟩ := (EachIs.cons e1 e2).left u hu'
            obtain ⟨xs, rfl⟩ := ht d hd
            exact (looks_reads r).here hq'
          · have hall : ((List.map (fun _ => Value.type "tuple") (v :: vs)).toArray.all fun x => x == Value.type "tuple") = true := by
              simp only [List.all_toArray, List.all_map, List.all_eq_true]
              intro _ _
              rfl
            have h0 : (List.map (fun _ => Value.type "tuple") (v :: vs)).toArray[0]? = some (Value.type "tuple") := by simp
            rw [h0]
            simp only [hall, if_true]
            exact wpAny_pure (wpAny_pure hq)
end
section
variable {prog : Program} {w : World} {A : Around} {E : Value → Shared → Prop} {s : Shared} {β : Type} {vs : List Value} {bs : List β} {enc : β → PyData} {R : Value → β → Prop}
/-- xs.sort(), tuples of any lengths among them -/
theorem list_sort_any {a : Addr} {n : Nat} {Q : Value → Shared → Prop} (ho : s.heap.get? a = some (seqObj "list" vs.toArray n)) (e : EachIs R vs bs)
    (er : EachIs (fun v b => ∃ as, Reads s.heap v (enc b) as ∧ a ∉ as) vs bs) (hal : AllAlike (bs.map enc)) (hk : Sorta (bs.map enc)) (hL : bs.length ≤ sizeLine) (hu : ∀ b, b ∈ bs → A.units + 1 + (enc b).depth < cLine)
    (h : ∀ out, out.length = bs.length → EachIs R out (bs.mergeSort (dataLe false enc)) → Q .none { s with heap := sortedHeap s.heap a vs (List.toArray out) }) :
    wpAny (model prog w) A (call (.builtin "list.sort") [.ref a]) Q E s := by
  have keep : EachIs (fun v b => ∃ as, Reads (sortingHeap s.heap a vs) v (enc b) as) vs bs :=
    each_keepBut (h' := sortingHeap s.heap a vs) (fun _ _ hb q => sortingHeap_old hb q) (fun o q => by rw [ho] at q; rw [← Option.some.inj q]) hal er
  have S := SortsAt.any (prog := prog) (w := w) (A := A.in1) (s := { s with heap := sortingHeap s.heap a vs }) (each_map (R := fun v d => ∃ as, Reads (sortingHeap s.heap a vs) v d as) enc keep) hal hk (bound_map hu)
  refine wpAny_call_entry slot_list_sort ⟨_, ho, rfl⟩ entry_list_sort ?_ (args_list_sort _)
  refine list_sort_vals (κ := dataKind (sortingHeap s.heap a vs) (bs.map enc)) ho S (by rw [e.length]; exact hL) ⟨.none, rfl, ?_⟩
  exact h _ (by rw [sortVals_length false rfl]; exact e.length) (sortVals_data false e keep hal)
end
end DS

set_option Elab.async false
set_option linter.all false
set_option maxRecDepth 100000
set_option maxHeartbeats 4000000
/-! ## calls of built-ins -/
namespace DL
open PySem PySem.Spec PyProof.Rows L2
/-! ### sorted: what is collected, in order -/
mutual
def noL : PyData → Bool
  | .tuple xs => noLs xs
  | .list _ => false
  | .dict _ => false
  | _ => true
def noLs : List PyData → Bool
  | [] => true
  | x :: xs => noL x && noLs xs
end
mutual
theorem reads_nil {h : Heap} : ∀ {d : PyData} {v : Value} {as : List Addr}, noL d = true → Reads h v d as → as = []
  | .none, _, _, _, r => by cases r; rfl
  | .bool _, _, _, _, r => by cases r; rfl
  | .int _, _, _, _, r => by cases r; rfl
  | .str _, _, _, _, r => by cases r; rfl
  | .tuple xs, _, _, n, r => by
    cases r with
    | tuple _ _ _ ra => exact readsAll_nil (by simpa [noL] using n) ra
  | .list _, _, _, n, _ => by simp [noL] at n
  | .dict _, _, _, n, _ => by simp [noL] at n
theorem readsAll_nil {h : Heap} : ∀ {d : List PyData} {v : List Value} {as : List Addr}, noLs d = true → ReadsAll h v d as → as = []
  | [], _, _, _, r => by cases r; rfl
  | x :: xs, _, _, n, r => by
    simp only [noLs, Bool.and_eq_true] at n
    cases r with
    | cons r1 r2 => rw [reads_nil n.1 r1, readsAll_nil n.2 r2]; rfl
end
section
variable {prog : Program} {w : World} {A : Around} {E : Value → Shared → Prop} {s : Shared} {β : Type} {R : Value → β → Prop} {enc : β → PyData} {bs : List β}
open PySem.W in
theorem sorted_coll {l : Addr} {Q : Value → Shared → Prop} (hL : bs.length ≤ sizeLine) (hal : AllAlike (bs.map enc)) (hk : DS.Sorta (bs.map enc)) (hu : ∀ b, b ∈ bs → A.units + 2 + (enc b).depth < cLine) (hn : ∀ b, b ∈ bs → noL (enc b) = true)
    (coll : ∀ (B : Around) (R' : List Value → Shared → Prop), B.handled = A.handled → (∀ (h1 : Heap) (tk : Nat) (us : List Value), (∀ b o, s.heap.get? b = some o → h1.get? b = some o) → EachIs R us bs → EachIs (fun v b => ∃ as, Reads h1 v (enc b) as) us bs → R' us { s with heap := h1, toks := tk }) → wpAny (model prog w) B (collect (.ref l)) R' E s)
    (h : ∀ (h1 h' : Heap) (tk : Nat) (out : List Value) (c : Nat), (∀ b o, s.heap.get? b = some o → h1.get? b = some o) → (∀ b o, h1.get? b = some o → h'.get? b = some o) → h'.get? h1.objs.size = some (seqObj "list" out.toArray c) → out.length = bs.length → EachIs R out (bs.mergeSort (dataLe false enc)) → Q (.ref h1.objs.size) { s with heap := h', toks := tk }) :
    wpAny (model prog w) A (call (.builtin "sorted") [.ref l]) Q E s := by
  refine Calls.call_function_entry kind_sorted plain_sorted entry_sorted (args_sorted1 _) ?_
  unfold Builtin.«sorted»
  refine wpAny_bind (m := checkCount "sorted" 1 1 _) (wpAny_pure ?_)
  refine wpAny_bind (coll _ _ rfl fun h1 tk us kp e er => ?_)
  have hus : us.length = bs.length := e.length
  refine wpAny_bind (wpAny_newList ?_ (by rw [hus]; exact hL))
  have hoL : (h1.push (seqObj "list" us.toArray 0)).get? h1.objs.size = some (seqObj "list" us.toArray 0) := Heap.get?_push_size _ rfl
  have er' : EachIs (fun v b => ∃ as, Reads (h1.push (seqObj "list" us.toArray 0)) v (enc b) as ∧ h1.objs.size ∉ as) us bs := by
    refine (each_mem er).mono fun v b ⟨⟨as, r⟩, hb⟩ => ⟨as, PyProof.Rows.Reads.keeps (fun b o q => Heap.get?_push_of_some _ q) r, ?_⟩
    rw [reads_nil (hn b hb) r]
    exact List.not_mem_nil
  refine wpAny_bind (wpAny_holding ?_)
  refine DS.list_sort_any (n := 0) hoL e er' hal hk hL (fun b hb => by have := hu b hb; show A.in1.units + 1 + _ < _; have : A.in1.units = A.units + 1 := rfl; omega) fun out ho eo => ?_
  obtain ⟨c, hc⟩ := sortedHeap_at (vs := us) (out := out.toArray) hoL
  refine wpAny_pure ⟨_, rfl, h h1 _ tk out c kp (fun b o q => ?_) hc ho eo⟩
  have lt := Heap.lt_size q
  rw [sortedHeap_old (Nat.ne_of_lt lt) (by rw [size_push']; exact Nat.lt_succ_of_lt lt)]
  exact Heap.get?_push_of_some _ q
end
/-! ### the source of a list of values: a list, a tuple, a dict -/
section
variable {X : Cx} {pins : List (Addr × Obj)} {σ : L2.St} {H : Hp} {s : Shared} {a : Addr}
/-- what stands at a gives the values vs, in turn -/
inductive Src (K : PySem.W.Frag) (w : World) (H : Hp) (a : Addr) : List V → Prop
  | l {vs : List V} : SqL K H a vs → Src K w H a vs
  | t {vs : List V} : SqT K H a vs → Src K w H a vs
  | k {kvs : List (Key × V)} : Rd H a (.dK kvs) → Src K w H a (kvs.map fun p => kV p.1)
  | n {kvs : List (NestedKey × Addr × V)} : Rd H a (dN w a kvs) → Src K w H a (kvs.map fun p => .ref p.2.1)
theorem raw_of {kvs : List (NestedKey × Addr × V)} (I : Inv X pins σ H s) (e : Rd H a (dN X.w a kvs)) : (a == sysModules) = false ∧ kvs.length ≤ sizeLine ∧ ∃ es ep, s.heap.DictRaw a es ep ∧ es.size = kvs.length ∧ ∀ (i : Nat) (p : NestedKey × Addr × V), kvs[i]? = some p → ∃ en, es[i]? = some en ∧ en.key = .ref p.2.1 ∧ RelV p.2.2 en.val := by
  obtain ⟨⟨z, hs, us, o, es, ep, pr, ho, hx, hdt, he, _⟩, _, _⟩ := (show ObjOk X.prog X.w H s.heap a (dN X.w a kvs) from e.ok I.hok)
  have l1 : es.size = us.length := by
    have := congrArg List.length he
    simpa using this
  refine ⟨hs, z, es, ep, ⟨o, ho, hx, hdt⟩, l1.trans (Paired.length pr).symm, fun i p e => ?_⟩
  obtain ⟨u, hu, e1, e2, e3⟩ := paired_at pr e
  have q : es.toList[i]? = some ⟨u.1.hash X.w, .ref u.2.1, u.2.2⟩ := by rw [he, List.getElem?_map, hu]; rfl
  refine ⟨⟨u.1.hash X.w, .ref u.2.1, u.2.2⟩, by rw [← Array.getElem?_toList]; exact q, ?_, e3⟩
  show Value.ref u.2.1 = Value.ref p.2.1
  rw [← e2]
theorem items_vals {kvs : List (NestedKey × Addr × V)} {es : Array DictEntry} (hs : es.size = kvs.length) (hk : ∀ (i : Nat) (p : NestedKey × Addr × V), kvs[i]? = some p → ∃ en, es[i]? = some en ∧ en.key = .ref p.2.1 ∧ RelV p.2.2 en.val) {acc : Array Value}
    (hacc : ItemsOf (fun i v => ∃ hi : i < es.size, v = es[i].key) acc es.size) : Vals (kvs.map fun p => V.ref p.2.1) acc.toList := by
  refine vals_of_at (by
    have el : acc.toList.length = acc.size := by simp
    rw [List.length_map, el, hacc.1, hs]) fun j x w h1 h2 => ?_
  rw [List.getElem?_map] at h1
  cases q : kvs[j]? with
  | none => rw [q] at h1; cases h1
  | some p =>
    rw [q] at h1
    cases h1
    obtain ⟨en, e1, e2, _⟩ := hk j p q
    obtain ⟨hi, e3⟩ := hacc.2 j w (by rw [← Array.getElem?_toList]; exact h2)
    have e4 : es[j] = en := by
      rw [Array.getElem?_eq_getElem hi] at e1
      exact Option.some.inj e1
    rw [e4, e2] at e3
    exact e3
theorem keys_vals {kvs : List (Key × V)} {vs : List (Key × Value)} (rk : KV kvs vs) {acc : Array Value} {prog : Program} {w : World}
    (hacc : ItemsOf (fun i key => ∃ k v, vs[i]? = some (k, v) ∧ (mixKind prog w).is k key = true) acc vs.length) : Vals (kvs.map fun kv => kV kv.1) acc.toList := by
  have hl : kvs.length = vs.length := Paired.length rk
  refine vals_of_at (by
    have el : acc.toList.length = acc.size := by simp
    rw [List.length_map, el, hacc.1, hl]) fun j x w h1 h2 => ?_
  obtain ⟨k, y, hky, hi⟩ := hacc.2 j w (by rw [← Array.getElem?_toList]; exact h2)
  obtain ⟨p, hp, e1, _⟩ := Paired.at' rk hky
  rw [List.getElem?_map, hp] at h1
  cases h1
  show RelV (kV p.1) w
  rw [e1]
  exact keyIs_rel hi
theorem src_collect {B : Around} {E : Value → Shared → Prop} {R' : List Value → Shared → Prop} {vs : List V} (I : Inv X pins σ H s) (S : Src X.K X.w H a vs) (hh : B.handled = none) (hn : vs.length ≤ sizeLine)
    (h : ∀ (h1 : Heap) (tk : Nat) (us : List Value), (∀ b o, s.heap.get? b = some o → h1.get? b = some o) → Vals vs us → R' us { s with heap := h1, toks := tk }) : wpAny (model X.prog X.w) B (collect (.ref a)) R' E s := by
  cases S with
  | l hl =>
    obtain ⟨its, rv, ⟨o, n, ho, hc, _, hd⟩, hz⟩ := I.list hl
    refine wpAny_collect_seq a (.inl rfl) ho hc hd (fun h1 kp => ?_) (by rw [List.size_toArray, ← rv.length]; exact hn)
    rw [List.toList_toArray]
    exact h h1 s.toks its kp rv
  | t hl =>
    obtain ⟨its, rv, ⟨o, ho, hc, n, hd⟩, hz⟩ := I.tuple hl
    refine wpAny_collect_seq a (.inr rfl) ho hc hd (fun h1 kp => ?_) (by rw [List.size_toArray, ← rv.length]; exact hn)
    rw [List.toList_toArray]
    exact h h1 s.toks its kp rv
  | @k kvs e =>
    obtain ⟨z, lo, vs, rk, hd⟩ := dk_rd I.hok e
    obtain ⟨ep, hat⟩ := hd.dictAt
    refine PySem.W.kdu_collect (PySem.W.kdl_dict (knd := mixKind X.prog X.w) (kvs := vs) (ep := ep) lo) hh hat (by rw [← Paired.length rk]; exact z) fun h' tk acc kp hacc => ?_
    exact h h' tk acc.toList kp (keys_vals rk hacc)
  | @n kvs e =>
    obtain ⟨lo, z, es, ep, hr, hs, hk⟩ := raw_of I e
    refine PySem.W.kdu_collect (KdlSrc.rawDict (es := es) (ep := ep) lo) hh hr (by rw [hs]; exact z) fun h' tk acc kp hacc => ?_
    exact h h' tk acc.toList kp (items_vals hs hk hacc)
theorem each_vals : ∀ {out : List Value} {zs : List (V × PyData)}, PySem.W.EachIs (fun v z => RelV z.1 v) out zs → Vals (zs.map (·.1)) out
  | _, _, .nil => .nil
  | _, _, .cons h t => .cons h (each_vals t)
/-- sorted(x): data in order -/
def rSortA (K : PySem.W.Frag) (w : World) : List V → Hp → VK → Prop := fun xs H Q => ∃ (a : Addr) (zs : List (V × PyData)), xs = [.ref a] ∧ Src K w H a (zs.map (·.1)) ∧ zs.length ≤ 1000000 ∧ (∀ z ∈ zs, Dp K H z.1 z.2 ∧ z.2.depth ≤ 8 ∧ noL z.2 = true) ∧ PySem.W.AllAlike (zs.map (·.2)) ∧ DS.Sorta (zs.map (·.2)) ∧
  ∀ p, H p = none → Q (.ref p) (upd H p (.lst ((zs.mergeSort (PySem.W.dataLe false (·.2))).map (·.1))))
theorem sortA (K : PySem.W.Frag) (w : World) (hu : X.A.units + 64 < cLine) (hc : X.calm = true := by rfl) (hK : X.K = K := by rfl) (hw : X.w = w := by rfl) : CallR X (.builtin "sorted") (rSortA K w) := by
  subst hK hw
  intro pins s σ H xs us Q I r h
  obtain ⟨a, zs, rfl, S, hz, hd, hal, hk, q⟩ := h
  obtain ⟨u, rfl, ru⟩ := vals1 r
  cases ru
  have hz' : zs.length ≤ sizeLine := mil hz
  have each : ∀ {zs : List (V × PyData)} {us : List Value} {t : Shared} {H' : Hp}, Inv X pins σ H' t → (∀ z ∈ zs, Dp X.K H' z.1 z.2) → Vals (zs.map (·.1)) us → PySem.W.EachIs (fun v z => RelV z.1 v) us zs ∧ PySem.W.EachIs (fun v (z : V × PyData) => ∃ as, Reads t.heap v z.2 as) us zs := by
    intro zs
    induction zs with
    | nil => intro us t H' _ _ rv; cases rv; exact ⟨.nil, .nil⟩
    | cons z zs ih =>
      intro us t H' I' hd rv
      rw [List.map_cons] at rv
      cases rv with
      | cons r1 r2 =>
        obtain ⟨i1, i2⟩ := ih I' (fun y hy => hd y (List.mem_cons_of_mem _ hy)) r2
        exact ⟨.cons r1 i1, .cons (Dp.reads I' _ _ _ (hd z List.mem_cons_self) r1) i2⟩
  refine sorted_coll (β := V × PyData) (R := fun v z => RelV z.1 v) (enc := fun z => z.2) (bs := zs) hz' hal hk (fun b hb => by have := (hd b hb).2.1; omega) (fun b hb => (hd b hb).2.2) (fun B R' hB hR => ?_) (fun h1 h' tk out c k1 k2 he hl eo => ?_)
  · refine src_collect I S (hB.trans (I.ok.hd hc)) (by rw [List.length_map]; exact hz') fun h1 tk us k rv => ?_
    obtain ⟨e1, e2⟩ := each (I.kept (t' := tk) k) (fun z hz => (hd z hz).1) rv
    exact hR h1 tk us k e1 e2
  · have I1 : Inv X pins σ H { s with heap := h1, toks := tk } := I.kept (t' := tk) k1
    have rv : Vals ((zs.mergeSort (PySem.W.dataLe false (·.2))).map (·.1)) out := by
      exact each_vals eo
    have hlen : ((zs.mergeSort (PySem.W.dataLe false (·.2))).map (·.1)).length ≤ sizeLine := by rw [List.length_map, List.length_mergeSort]; exact hz'
    exact ⟨.ref _, upd H h1.objs.size (.lst ((zs.mergeSort (PySem.W.dataLe false (·.2))).map (·.1))), I1.laid (t' := tk) k2 (Nat.le_refl _) ⟨hlen, out, c, rv, he⟩, rfl, q _ (I1.hok.fresh (Nat.le_refl _))⟩
end
end DL

set_option Elab.async false
set_option linter.all false
set_option maxRecDepth 100000
set_option maxHeartbeats 4000000
namespace DL
open PySem PySem.Spec PyProof.Rows L2
section
variable {X : Cx}
def rLenA (K : PySem.W.Frag) (w : World) : List V → Hp → VK → Prop := fun xs H Q => (∃ x n, xs = [x] ∧ LenV K x H n ∧ Q (.int n) H) ∨ (∃ a kvs, xs = [V.ref a] ∧ Rd H a (.dK kvs) ∧ Q (.int kvs.length) H) ∨ ∃ a kvs, xs = [V.ref a] ∧ Rd H a (dN w a kvs) ∧ NkAll H kvs ∧ Q (.int kvs.length) H
theorem lenA (K : PySem.W.Frag) (w : World) (hK : X.K = K := by rfl) (hw : X.w = w := by rfl) : CallR X (.builtin "len") (rLenA K w) := by
  subst hK hw
  intro pins s σ H xs us Q I r h
  rcases h with h | ⟨a, kvs, rfl, e, q⟩ | ⟨a, kvs, rfl, e, hk, q⟩
  · exact call_len pins s σ H xs us Q I r h
  · obtain ⟨u, rfl, ru⟩ := vals1 r
    cases ru
    exact d_len I e fun t s' I' => ⟨.int kvs.length, H, I', ⟨t, rfl⟩, q⟩
  · obtain ⟨u, rfl, ru⟩ := vals1 r
    cases ru
    obtain ⟨z, hd, us2, rel, dd⟩ := dn_rd I.hok e hk
    refine PySem.call_len_dictH hd dd (by rw [← Paired.length rel]; rw [sizeLine_eq] at z; omega) ?_
    rw [← Paired.length rel]
    exact ⟨.int kvs.length, H, I.tok _, ⟨_, rfl⟩, q⟩
/-- tuple(x), x a dict -/
def rTupS (K : PySem.W.Frag) (w : World) : List V → Hp → VK → Prop := fun xs H Q => ∃ a, xs = [.ref a] ∧ ((∃ kvs, Rd H a (.dK kvs) ∧ ∀ q, H q = none → Q (.ref q) (upd H q (.tup (kvs.map fun p => kV p.1)))) ∨ ∃ kvs, Rd H a (dN w a kvs) ∧ ∀ q, H q = none → Q (.ref q) (upd H q (.tup (kvs.map fun p => V.ref p.2.1))))
theorem tup_src (w : World) (K : PySem.W.Frag) (hc : X.calm = true := by rfl) (hw : X.w = w := by rfl) : CallR X (.type "tuple") (rTupS K w) := by
  subst hw
  intro pins s σ H xs us Q I r h
  obtain ⟨a, rfl, h⟩ := h
  obtain ⟨u, rfl, ru⟩ := vals1 r
  cases ru
  have fin : ∀ {vs : List V} {h' : Heap} {tk : Nat} {acc : Array Value}, vs.length ≤ sizeLine → (∀ b o, s.heap.get? b = some o → h'.get? b = some o) → Vals vs acc.toList → (∀ q, H q = none → Q (.ref q) (upd H q (.tup vs))) →
      EP X pins σ Q (.ref h'.objs.size) { s with heap := h'.push { cls := .type "tuple", data := .seq acc }, toks := tk } := fun {vs h' tk acc} hz k rv q => by
    have I1 : Inv X pins σ H { s with heap := h', toks := tk } := I.kept k
    exact ⟨.ref h'.objs.size, _, I1.laid (t' := tk) (fun b o e => Heap.get?_push_of_some _ e) (Nat.le_refl _) (show ObjOk X.prog X.w _ _ _ (.tup vs) from ⟨hz, acc.toList, rv, by rw [Array.toArray_toList]; exact IsTup.new _ _⟩), rfl, q _ (I1.hok.fresh (Nat.le_refl _))⟩
  rcases h with ⟨kvs, e, q⟩ | ⟨kvs, e, q⟩
  · obtain ⟨z, lo, vs, rk, hd⟩ := dk_rd I.hok e
    obtain ⟨ep, hat⟩ := hd.dictAt
    exact call_tuple_src (PySem.W.kdl_dict (knd := mixKind X.prog X.w) (kvs := vs) (ep := ep) lo) (I.ok.hd hc) hat (by rw [← Paired.length rk]; exact z) fun h' tk acc k hacc => fin (by rw [List.length_map]; exact z) k (keys_vals rk hacc) q
  · obtain ⟨lo, z, es, ep, hr, hs, hk⟩ := raw_of I e
    exact call_tuple_src (KdlSrc.rawDict (es := es) (ep := ep) lo) (I.ok.hd hc) hr (by rw [hs]; exact z) fun h' tk acc k hacc => fin (by rw [List.length_map]; exact z) k (items_vals hs hk hacc) q
def rTupA (K : PySem.W.Frag) (w : World) : List V → Hp → VK → Prop := fun xs H Q => rTupleOf K xs H Q ∨ rTupS K w xs H Q
theorem tupA (K : PySem.W.Frag) (w : World) (hc : X.calm = true := by rfl) (hK : X.K = K := by rfl) (hw : X.w = w := by rfl) : CallR X (.type "tuple") (rTupA K w) := (L2.tupOf K hK).or (tup_src w K hc hw)
/-- list(x), x a dict -/
def rLstS (K : PySem.W.Frag) (w : World) : List V → Hp → VK → Prop := fun xs H Q => ∃ a, xs = [.ref a] ∧ ((∃ kvs, Rd H a (.dK kvs) ∧ ∀ q, H q = none → Q (.ref q) (upd H q (.lst (kvs.map fun p => kV p.1)))) ∨ ∃ kvs, Rd H a (dN w a kvs) ∧ ∀ q, H q = none → Q (.ref q) (upd H q (.lst (kvs.map fun p => V.ref p.2.1))))
theorem lst_src (w : World) (K : PySem.W.Frag) (hc : X.calm = true := by rfl) (hw : X.w = w := by rfl) : CallR X (.type "list") (rLstS K w) := by
  subst hw
  intro pins s σ H xs us Q I r h
  obtain ⟨a, rfl, h⟩ := h
  obtain ⟨u, rfl, ru⟩ := vals1 r
  cases ru
  have fin : ∀ {vs : List V} {h' : Heap} {tk c : Nat} {acc : Array Value}, vs.length ≤ sizeLine → (∀ b o, s.heap.get? b = some o → h'.get? b = some o) → h'.get? s.heap.objs.size = some { cls := .type "list", dict := none, data := .seq acc c, slots := #[] } → Vals vs acc.toList → (∀ q, H q = none → Q (.ref q) (upd H q (.lst vs))) →
      EP X pins σ Q (.ref s.heap.objs.size) { s with heap := h', toks := tk } := fun {vs h' tk c acc} hz k e rv q => by
    exact ⟨.ref s.heap.objs.size, _, I.laid (t' := tk) k (Nat.le_refl _) (show ObjOk X.prog X.w _ _ _ (.lst vs) from ⟨hz, acc.toList, c, rv, by rw [Array.toArray_toList]; exact e⟩), rfl, q _ (I.hok.fresh (Nat.le_refl _))⟩
  rcases h with ⟨kvs, e, q⟩ | ⟨kvs, e, q⟩
  · obtain ⟨z, lo, vs, rk, hd⟩ := dk_rd I.hok e
    obtain ⟨ep, hat⟩ := hd.dictAt
    exact PySem.W.kdl_call (PySem.W.kdl_dict (knd := mixKind X.prog X.w) (kvs := vs) (ep := ep) lo) (I.ok.hd hc) hat (by rw [← Paired.length rk]; exact z) fun h' tk acc c k e hacc => fin (by rw [List.length_map]; exact z) k e (keys_vals rk hacc) q
  · obtain ⟨lo, z, es, ep, hr, hs, hk⟩ := raw_of I e
    exact PySem.W.kdl_call (KdlSrc.rawDict (es := es) (ep := ep) lo) (I.ok.hd hc) hr (by rw [hs]; exact z) fun h' tk acc c k e hacc => fin (by rw [List.length_map]; exact z) k e (items_vals hs hk hacc) q
def rLstA (K : PySem.W.Frag) (w : World) : List V → Hp → VK → Prop := fun xs H Q => rListOf K xs H Q ∨ rLstS K w xs H Q
theorem lstA (K : PySem.W.Frag) (w : World) (hc : X.calm = true := by rfl) (hK : X.K = K := by rfl) (hw : X.w = w := by rfl) : CallR X (.type "list") (rLstA K w) := (listOf K hK).or (lst_src w K hc hw)
end
/-! ### what they give -/
def srcOf (W : Ms) (x : Vl) : Option (List Vl) := match seqOf W x with
  | some l => some l
  | none => (dctOf W x).map (·.map fun p => Vl.d p.1)
def lenD (W : Ms) (xs : List Vl) : Res Vl := match xs with
  | [x] => (match srcOf W x with
    | some l => .ok (.d (.int (l.length : Nat))) W
    | none => (match strOf x with
      | some s => if s.length ≤ 1000000 then .ok (.d (.int (s.length : Nat))) W else .stuck
      | none => .stuck))
  | _ => .stuck
def tupD (W : Ms) (xs : List Vl) : Res Vl := match xs with
  | [x] => (match tupOf x with
    | some _ => .ok x W
    | none => (match srcOf W x with
      | some l => mkTup l W
      | none => .stuck))
  | _ => .stuck
def lstD (W : Ms) (xs : List Vl) : Res Vl := match xs with
  | [x] => (match srcOf W x with
    | some l => mkLst l W
    | none => .stuck)
  | _ => .stuck
def lstDM (W : Ms) (xs : List Vl) : Res Vl := match xs with
  | [x] => (match srcOf W x with
    | some l => mkLstM l W
    | none => .stuck)
  | _ => .stuck
def leP (a b : D) : Bool := PySem.W.dataLe false toP a b
def sortable (l : List D) : Bool := (l.all fun a => a.ok && decide (a.dep ≤ 8) && noL (toP a)) && (l.all fun a => l.all fun b => PySem.W.alike (toP a) (toP b)) && (l.all (fun a => match a with | .tup _ => true | _ => false) || l.all (fun a => match a with | .tup _ => false | .non => false | _ => true))
def sortD (W : Ms) (xs : List Vl) : Res Vl := match xs with
  | [x] => (match srcOf W x with
    | some l' => (match dsOf l' with
      | some l => if l.length ≤ 1000000 ∧ sortable l = true then .ok (.d (.lst (l.mergeSort leP))) W else .stuck
      | none => .stuck)
    | none => .stuck)
  | _ => .stuck
section
variable {K : Fr} {TB : List (Addr × Str)} {E : XK} {ws : List Addr} {G H : Hp} {W : Ms}
theorem vn_vals {kvs : List (NestedKey × Addr × V)} {l : List (D × Vl)} (r : RpVN K ws G kvs l) : RpVs K ws G (kvs.map fun p => V.ref p.2.1) (l.map fun p => Vl.d p.1) := by
  induction r with
  | nil => exact .nil
  | cons h t ih => exact .cons (.d h.1.1) ih
theorem vk_vals {kvs : List (Key × V)} {l : List (D × Vl)} (r : RpVK K ws G kvs l) : RpVs K ws G (kvs.map fun p => kV p.1) (l.map fun p => Vl.d p.1) := by
  induction r with
  | nil => exact .nil
  | @cons p q _ _ h t ih =>
    refine .cons (.d ?_) ih
    obtain ⟨p1, p2⟩ := p
    rw [h.1]
    cases p1 with
    | inl i => exact .int i
    | inr s => exact .str s
/-- where the values come from: a list or tuple, or a dict's keys -/
theorem src_at {v : V} {x : Vl} {l : List Vl} (c : Cf K TB ws G H W) (r : RpV K ws G v x) (h : srcOf W x = some l) : ∃ a, v = .ref a ∧ ((∃ vs, (SqL K.K H a vs ∨ SqT K.K H a vs) ∧ RpVs K ws G vs l) ∨ (∃ kvs, Rd H a (.dK kvs) ∧ RpVs K ws G (kvs.map fun p => kV p.1) l) ∨ ∃ kvs, Rd H a (dN K.w a kvs) ∧ NkAll H kvs ∧ RpVs K ws G (kvs.map fun p => V.ref p.2.1) l) := by
  unfold srcOf at h
  cases q : seqOf W x with
  | some l' =>
    rw [q] at h
    cases h
    obtain ⟨a, vs, e, hs, rv⟩ := seqOf_at c r q
    exact ⟨a, e, .inl ⟨vs, hs, rv⟩⟩
  | none =>
    rw [q] at h
    cases q2 : dctOf W x with
    | none => simp [q2] at h
    | some l' =>
      simp [q2] at h
      subst h
      obtain ⟨a, e, hd⟩ := dct_at c r q2
      rcases hd with ⟨kvs, e1, rk⟩ | ⟨kvs, e1, rn, _⟩
      · exact ⟨a, e, .inr (.inl ⟨kvs, e1, vk_vals rk⟩)⟩
      · exact ⟨a, e, .inr (.inr ⟨kvs, e1, nk_all c.g rn, vn_vals rn⟩)⟩
theorem o_len : CallD K TB (rLenA K.K K.w) lenD := fun E ws G H W xs as Q c r w => by
  unfold lenD at w
  split at w
  · obtain ⟨v, rfl, r1⟩ := one_of r
    split at w
    · rename_i l q
      obtain ⟨a, rfl, hs⟩ := src_at c r1 q
      rcases hs with ⟨vs, hs, rv⟩ | ⟨kvs, e, rv⟩ | ⟨kvs, e, hk, rv⟩
      · refine .inl ⟨_, vs.length, rfl, ?_, by rw [Paired.length rv]; exact w.d c (.int _)⟩
        rcases hs with hs | hs
        · exact .inl ⟨vs, hs, rfl⟩
        · exact .inr ⟨vs, hs, rfl⟩
      · refine .inr (.inl ⟨a, kvs, rfl, e, ?_⟩)
        have := Paired.length rv
        rw [List.length_map] at this
        rw [this]
        exact w.d c (.int _)
      · refine .inr (.inr ⟨a, kvs, rfl, e, hk, ?_⟩)
        have := Paired.length rv
        rw [List.length_map] at this
        rw [this]
        exact w.d c (.int _)
    · split at w
      · rename_i s q
        obtain rfl := strOf_at r1 q
        split at w
        · rename_i hl
          exact .inl ⟨_, s.length, rfl, ⟨mil hl, rfl⟩, w.d c (.int _)⟩
        · exact w.elim
      · exact w.elim
  · exact w.elim
theorem src_lst {v : V} {x : Vl} {l : List Vl} (c : Cf K TB ws G H W) (r : RpV K ws G v x) (n : tupOf x = none) (h : srcOf W x = some l) : ∃ a, v = .ref a ∧ ((∃ vs, SqL K.K H a vs ∧ RpVs K ws G vs l) ∨ (∃ kvs, Rd H a (.dK kvs) ∧ RpVs K ws G (kvs.map fun p => kV p.1) l) ∨ ∃ kvs, Rd H a (dN K.w a kvs) ∧ RpVs K ws G (kvs.map fun p => V.ref p.2.1) l) := by
  unfold srcOf seqOf at h
  cases q : lstOf W x with
  | some l' =>
    rw [q] at h
    cases h
    obtain ⟨a, vs, e, hs, rv⟩ := lst_at c r q
    exact ⟨a, e, .inl ⟨vs, SqL.of hs, rv⟩⟩
  | none =>
    rw [q, n] at h
    cases q2 : dctOf W x with
    | none => simp [q2] at h
    | some l' =>
      simp [q2] at h
      subst h
      obtain ⟨a, e, hd⟩ := dct_at c r q2
      rcases hd with ⟨kvs, e1, rk⟩ | ⟨kvs, e1, rn, _⟩
      · exact ⟨a, e, .inr (.inl ⟨kvs, e1, vk_vals rk⟩)⟩
      · exact ⟨a, e, .inr (.inr ⟨kvs, e1, vn_vals rn⟩)⟩
theorem o_tup : CallD K TB (rTupA K.K K.w) tupD := fun E ws G H W xs as Q c r w => by
  unfold tupD at w
  split at w
  · rename_i x
    obtain ⟨v, rfl, r1⟩ := one_of r
    cases q0 : tupOf x with
    | some l =>
      simp only [q0] at w
      obtain ⟨a, vs, rfl, _, hs, _⟩ := tup_rp c r1 q0
      exact .inl ⟨a, vs, rfl, .inr ⟨hs, w.ok c r1⟩⟩
    | none =>
      simp only [q0] at w
      cases q : srcOf W x with
      | none => simp only [q] at w; exact w.elim
      | some l =>
        simp only [q] at w
        obtain ⟨a, rfl, hs⟩ := src_lst c r1 q0 q
        rcases hs with ⟨vs, hs, rv⟩ | ⟨kvs, e, rv⟩ | ⟨kvs, e, rv⟩
        · exact .inl ⟨a, vs, rfl, .inl ⟨hs, (mk_tup c rv w).2⟩⟩
        · exact .inr ⟨a, rfl, .inl ⟨kvs, e, (mk_tup c rv w).2⟩⟩
        · exact .inr ⟨a, rfl, .inr ⟨kvs, e, (mk_tup c rv w).2⟩⟩
  · exact w.elim
theorem o_lst : CallD K TB (rLstA K.K K.w) lstD := fun E ws G H W xs as Q c r w => by
  unfold lstD at w
  split at w
  · rename_i x
    obtain ⟨v, rfl, r1⟩ := one_of r
    cases q : srcOf W x with
    | none => simp only [q] at w; exact w.elim
    | some l =>
      simp only [q] at w
      obtain ⟨a, rfl, hs⟩ := src_at c r1 q
      rcases hs with ⟨vs, hs, rv⟩ | ⟨kvs, e, rv⟩ | ⟨kvs, e, hk, rv⟩
      · exact .inl ⟨a, vs, rfl, hs, (mk_lst c rv w).2⟩
      · exact .inr ⟨a, rfl, .inl ⟨kvs, e, (mk_lst c rv w).2⟩⟩
      · exact .inr ⟨a, rfl, .inr ⟨kvs, e, (mk_lst c rv w).2⟩⟩
  · exact w.elim
theorem o_lstM : CallD K TB (rLstA K.K K.w) lstDM := fun E ws G H W xs as Q c r w => by
  unfold lstDM at w
  split at w
  · rename_i x
    obtain ⟨v, rfl, r1⟩ := one_of r
    cases q : srcOf W x with
    | none => simp only [q] at w; exact w.elim
    | some l =>
      simp only [q] at w
      obtain ⟨a, rfl, hs⟩ := src_at c r1 q
      rcases hs with ⟨vs, hs, rv⟩ | ⟨kvs, e, rv⟩ | ⟨kvs, e, hk, rv⟩
      · exact .inl ⟨a, vs, rfl, hs, (mk_lstM c rv w).2⟩
      · exact .inr ⟨a, rfl, .inl ⟨kvs, e, (mk_lstM c rv w).2⟩⟩
      · exact .inr ⟨a, rfl, .inr ⟨kvs, e, (mk_lstM c rv w).2⟩⟩
  · exact w.elim
/-! ### sorted -/
theorem zip_rp : ∀ {vs : List V} {l : List D}, RpL K G vs l → (vs.zip l).map (·.1) = vs ∧ (vs.zip l).map (·.2) = l ∧ ∀ p ∈ vs.zip l, Rp K G p.1 p.2
  | _, _, .nil => ⟨rfl, rfl, fun _ h => nomatch h⟩
  | _, _, .cons h t => by
    obtain ⟨i1, i2, i3⟩ := zip_rp t
    refine ⟨by simp [i1], by simp [i2], fun p hp => ?_⟩
    rcases List.mem_cons.mp hp with e | hp
    · subst e; exact h
    · exact i3 p hp
theorem rpl_of : ∀ {ps : List (V × D)}, (∀ p ∈ ps, Rp K G p.1 p.2) → RpL K G (ps.map (·.1)) (ps.map (·.2))
  | [], _ => .nil
  | p :: ps, h => .cons (h p List.mem_cons_self) (rpl_of fun q hq => h q (List.mem_cons_of_mem _ hq))
theorem src_of {a : Addr} {vs : List V} (hs : (SqL K.K H a vs ∨ SqT K.K H a vs)) : Src K.K K.w H a vs := hs.elim .l .t
theorem o_sort : CallD K TB (rSortA K.K K.w) sortD := fun E ws G H W xs as Q c r w => by
  unfold sortD at w
  split at w
  · rename_i x
    obtain ⟨v, rfl, r1⟩ := one_of r
    cases q : srcOf W x with
    | none => simp only [q] at w; exact w.elim
    | some l' =>
      simp only [q] at w
      cases q2 : dsOf l' with
      | none => simp only [q2] at w; exact w.elim
      | some l =>
        simp only [q2] at w
        split at w
        · rename_i hl
          obtain ⟨hl, hs⟩ := hl
          simp only [sortable, Bool.and_eq_true, List.all_eq_true, decide_eq_true_eq, Bool.or_eq_true] at hs
          obtain ⟨⟨h1, h2⟩, h3⟩ := hs
          obtain ⟨a, rfl, hs⟩ := src_at c r1 q
          have main : ∀ vs, Src K.K K.w H a vs → RpVs K ws G vs l' → rSortA K.K K.w [.ref a] H Q := fun vs S rv => by
            have rl := dsOf_rp rv q2
            obtain ⟨e1, e2, e3⟩ := zip_rp rl
            have hlen : (vs.zip l).length = l.length := by
              have := congrArg List.length e2
              rwa [List.length_map] at this
            have hmem : ∀ p ∈ vs.zip l, p.2 ∈ l := fun p hp => by
              rw [← e2]; exact List.mem_map_of_mem hp
            have em : ((vs.zip l).map fun p => (p.1, toP p.2)).map (·.1) = vs := by rw [List.map_map]; exact e1
            have em2 : ((vs.zip l).map fun p => (p.1, toP p.2)).map (·.2) = l.map toP := by
              rw [List.map_map, ← e2, List.map_map, e2]; rfl
            refine ⟨a, (vs.zip l).map fun p => (p.1, toP p.2), rfl, by rw [em]; exact S, by rw [List.length_map, hlen]; exact hl, fun z hz => ?_, ?_, ?_, fun p hp => ?_⟩
            · obtain ⟨y, hy, rfl⟩ := List.mem_map.mp hz
              obtain ⟨⟨k1, k2⟩, k3⟩ := h1 y.2 (hmem y hy)
              exact ⟨(e3 y hy).dp c.g k1, by rw [toP_dep _ k1]; exact k2, k3⟩
            · rw [em2]
              intro d hd d' hd'
              obtain ⟨y, hy, rfl⟩ := List.mem_map.mp hd
              obtain ⟨z, hz, rfl⟩ := List.mem_map.mp hd'
              exact h2 y hy z hz
            · rw [em2]
              rcases h3 with h3 | h3
              · refine .inr fun d hd => ?_
                obtain ⟨y, hy, rfl⟩ := List.mem_map.mp hd
                have := h3 y hy
                cases y with
                | tup m => exact ⟨toPs m, by simp [toP]⟩
                | _ => cases this
              · refine .inl (.inr fun d hd => ?_)
                obtain ⟨y, hy, rfl⟩ := List.mem_map.mp hd
                have k := h3 y hy
                have k1 := (h1 y hy).1.1
                cases y <;> simp_all [toP, D.ok]
            · have es : ((vs.zip l).map fun p => (p.1, toP p.2)).mergeSort (PySem.W.dataLe false (·.2)) = ((vs.zip l).mergeSort fun p q => leP p.2 q.2).map fun p => (p.1, toP p.2) :=
                (PySem.W.sort_maps (r := fun p q => leP p.2 q.2) (s := PySem.W.dataLe false (·.2)) (fun p : V × D => (p.1, toP p.2)) (fun _ _ _ _ => rfl)).symm
              have el : ((vs.zip l).mergeSort fun p q => leP p.2 q.2).map (·.2) = l.mergeSort leP := by
                rw [PySem.W.sort_maps (r := fun p q => leP p.2 q.2) (s := leP) (fun p : V × D => p.2) (fun _ _ _ _ => rfl), e2]
              rw [es, List.map_map]
              have rs := rpl_of (K := K) (G := G) (ps := (vs.zip l).mergeSort fun p q => leP p.2 q.2) fun p hp => e3 p (List.mem_mergeSort.mp hp)
              rw [el] at rs
              exact w _ ws _ _ (Gr.new c hp) (c.new hp) (.d (.lst upd_same (rs.to (.of (same_upd (c.gn hp))))))
          rcases hs with ⟨vs, hs, rv⟩ | ⟨kvs, e, rv⟩ | ⟨kvs, e, hk, rv⟩
          · exact main vs (src_of hs) rv
          · exact main _ (.k e) rv
          · exact main _ (.n e) rv
        · exact w.elim
  · exact w.elim
end
end DL

set_option Elab.async false
set_option linter.all false
set_option maxRecDepth 100000
set_option maxHeartbeats 4000000
namespace DL
open PySem PySem.Spec PyProof.Rows L2
def blsOf : List Vl → Option (List Bool)
  | [] => some []
  | .d (.bl b) :: l => (blsOf l).map (b :: ·)
  | _ => none
def intsOf : List Vl → Option (List Int)
  | [] => some []
  | .d (.int b) :: l => (intsOf l).map (b :: ·)
  | _ => none
def anyD (W : Ms) (xs : List Vl) : Res Vl := match xs with
  | [x] => (match lstOf W x with
    | some l => (match blsOf l with
      | some bs => .ok (.d (.bl (bs.any id))) W
      | none => .stuck)
    | none => .stuck)
  | _ => .stuck
def allD (W : Ms) (xs : List Vl) : Res Vl := match xs with
  | [x] => (match lstOf W x with
    | some l => (match blsOf l with
      | some bs => .ok (.d (.bl (bs.all id))) W
      | none => .stuck)
    | none => .stuck)
  | _ => .stuck
def sumD (W : Ms) (xs : List Vl) : Res Vl := match xs with
  | [x] => (match lstOf W x with
    | some l => (match intsOf l with
      | some is => .ok (.d (.int is.sum)) W
      | none => .stuck)
    | none => .stuck)
  | _ => .stuck
def int1 (g : Int → D) (W : Ms) (xs : List Vl) : Res Vl := match xs with
  | [x] => (match intOf x with
    | some i => .ok (.d (g i)) W
    | none => .stuck)
  | _ => .stuck
def int2 (g : Int → Int → D) (W : Ms) (xs : List Vl) : Res Vl := match xs with
  | [x, y] => (match intOf x, intOf y with
    | some i, some j => .ok (.d (g i j)) W
    | _, _ => .stuck)
  | _ => .stuck
def absD := int1 fun i => .int (if i < 0 then -i else i)
def min2D := int2 fun i j => .int (if j < i then j else i)
def max2D := int2 fun i j => .int (if j > i then j else i)
def intD (W : Ms) (xs : List Vl) : Res Vl := match xs with
  | [.d (.int i)] => .ok (.d (.int i)) W
  | [.d (.bl k)] => .ok (.d (.int (if k = true then 1 else 0))) W
  | _ => .stuck
/-- isinstance(x, T) -/
def tyOfD : D → Option String
  | .non => some "NoneType"
  | .bl _ => some "bool"
  | .int _ => some "int"
  | .str _ => some "str"
  | .tup _ => some "tuple"
  | .lst _ => some "list"
  | _ => none
def isiD (W : Ms) (xs : List Vl) : Res Vl := match xs with
  | [.d x, .d (.cls n)] => (match tyOfD x with
    | some t => (match kitB t n with
      | some b => .ok (.d (.bl b)) W
      | none => .stuck)
    | none => .stuck)
  | _ => .stuck
/-- dict(d): a copy -/
def dictD (W : Ms) (xs : List Vl) : Res Vl := match xs with
  | [x] => (match dctOf W x with
    | some l => (match dctD l with
      | some l' => .ok (.d (.dct l')) W
      | none => .stuck)
    | none => .stuck)
  | _ => .stuck
section
variable {K : Fr} {TB : List (Addr × Str)} {E : XK}
theorem bls_at {ws : List Addr} {G : Hp} : ∀ {vs : List V} {l : List Vl} {bs : List Bool}, RpVs K ws G vs l → blsOf l = some bs → vs = bs.map V.bl
  | _, _, _, .nil, h => by cases h; rfl
  | _, .d (.bl b) :: l, _, .cons r t, h => by
    cases q : blsOf l with
    | none => simp [blsOf, q] at h
    | some bs =>
      simp [blsOf, q] at h
      subst h
      cases r with
      | d r =>
      cases r
      rw [bls_at t q]
      rfl
  | _, .d .non :: _, _, .cons _ _, h => by simp [blsOf] at h
  | _, .d (.int _) :: _, _, .cons _ _, h => by simp [blsOf] at h
  | _, .d (.str _) :: _, _, .cons _ _, h => by simp [blsOf] at h
  | _, .d (.tup _) :: _, _, .cons _ _, h => by simp [blsOf] at h
  | _, .d (.tupK _) :: _, _, .cons _ _, h => by simp [blsOf] at h
  | _, .d (.lstK _) :: _, _, .cons _ _, h => by simp [blsOf] at h
  | _, .d (.lst _) :: _, _, .cons _ _, h => by simp [blsOf] at h
  | _, .d (.dct _) :: _, _, .cons _ _, h => by simp [blsOf] at h
  | _, .d (.ins _ _) :: _, _, .cons _ _, h => by simp [blsOf] at h
  | _, .d (.cls _) :: _, _, .cons _ _, h => by simp [blsOf] at h
  | _, .mu _ :: _, _, .cons _ _, h => by simp [blsOf] at h
theorem ints_at {ws : List Addr} {G : Hp} : ∀ {vs : List V} {l : List Vl} {bs : List Int}, RpVs K ws G vs l → intsOf l = some bs → vs = bs.map V.int
  | _, _, _, .nil, h => by cases h; rfl
  | _, .d (.int b) :: l, _, .cons r t, h => by
    cases q : intsOf l with
    | none => simp [intsOf, q] at h
    | some bs =>
      simp [intsOf, q] at h
      subst h
      cases r with
      | d r =>
      cases r
      rw [ints_at t q]
      rfl
  | _, .d .non :: _, _, .cons _ _, h => by simp [intsOf] at h
  | _, .d (.bl _) :: _, _, .cons _ _, h => by simp [intsOf] at h
  | _, .d (.str _) :: _, _, .cons _ _, h => by simp [intsOf] at h
  | _, .d (.tup _) :: _, _, .cons _ _, h => by simp [intsOf] at h
  | _, .d (.tupK _) :: _, _, .cons _ _, h => by simp [intsOf] at h
  | _, .d (.lstK _) :: _, _, .cons _ _, h => by simp [intsOf] at h
  | _, .d (.lst _) :: _, _, .cons _ _, h => by simp [intsOf] at h
  | _, .d (.dct _) :: _, _, .cons _ _, h => by simp [intsOf] at h
  | _, .d (.ins _ _) :: _, _, .cons _ _, h => by simp [intsOf] at h
  | _, .d (.cls _) :: _, _, .cons _ _, h => by simp [intsOf] at h
  | _, .mu _ :: _, _, .cons _ _, h => by simp [intsOf] at h
theorem o_any : CallD K TB (rAny K.K) anyD := fun E ws G H W xs as Q c r w => by
  unfold anyD at w
  split at w
  · rename_i x
    obtain ⟨v, rfl, r1⟩ := one_of r
    cases q : lstOf W x with
    | none => simp only [q] at w; exact w.elim
    | some l =>
      simp only [q] at w
      cases q2 : blsOf l with
      | none => simp only [q2] at w; exact w.elim
      | some bs =>
        simp only [q2] at w
        obtain ⟨a, vs, rfl, hs, rv⟩ := lst_at c r1 q
        rw [bls_at rv q2] at hs
        exact ⟨a, bs, rfl, SqL.of hs, w.d c (.bl _)⟩
  · exact w.elim
theorem o_all : CallD K TB (rAll K.K) allD := fun E ws G H W xs as Q c r w => by
  unfold allD at w
  split at w
  · rename_i x
    obtain ⟨v, rfl, r1⟩ := one_of r
    cases q : lstOf W x with
    | none => simp only [q] at w; exact w.elim
    | some l =>
      simp only [q] at w
      cases q2 : blsOf l with
      | none => simp only [q2] at w; exact w.elim
      | some bs =>
        simp only [q2] at w
        obtain ⟨a, vs, rfl, hs, rv⟩ := lst_at c r1 q
        rw [bls_at rv q2] at hs
        exact ⟨a, bs, rfl, SqL.of hs, w.d c (.bl _)⟩
  · exact w.elim
theorem o_sum : CallD K TB (rSum K.K) sumD := fun E ws G H W xs as Q c r w => by
  unfold sumD at w
  split at w
  · rename_i x
    obtain ⟨v, rfl, r1⟩ := one_of r
    cases q : lstOf W x with
    | none => simp only [q] at w; exact w.elim
    | some l =>
      simp only [q] at w
      cases q2 : intsOf l with
      | none => simp only [q2] at w; exact w.elim
      | some bs =>
        simp only [q2] at w
        obtain ⟨a, vs, rfl, hs, rv⟩ := lst_at c r1 q
        rw [ints_at rv q2] at hs
        exact ⟨a, bs, rfl, SqL.of hs, w.d c (.int _)⟩
  · exact w.elim
theorem o_abs : CallD K TB rAbs absD := fun E ws G H W xs as Q c r w => by
  unfold absD int1 at w
  split at w
  · rename_i x
    obtain ⟨v, rfl, r1⟩ := one_of r
    cases q : intOf x with
    | none => simp only [q] at w; exact w.elim
    | some i =>
      simp only [q] at w
      obtain rfl := intOf_at r1 q
      exact ⟨i, rfl, w.d c (.int _)⟩
  · exact w.elim
theorem o_min2 : CallD K TB rMin2 min2D := fun E ws G H W xs as Q c r w => by
  unfold min2D int2 at w
  split at w
  · rename_i x y
    obtain ⟨v, u, rfl, r1, r2⟩ := two_of r
    cases q : intOf x with
    | none => simp only [q] at w; exact w.elim
    | some i =>
      cases q2 : intOf y with
      | none => simp only [q, q2] at w; exact w.elim
      | some j =>
        simp only [q, q2] at w
        obtain rfl := intOf_at r1 q
        obtain rfl := intOf_at r2 q2
        exact ⟨i, j, rfl, w.d c (.int _)⟩
  · exact w.elim
def rMax2' : List V → Hp → VK → Prop := fun xs H Q => ∃ i j, xs = [.int i, .int j] ∧ Q (.int (if j > i then j else i)) H
theorem max2K {X : Cx} (hc : X.calm = true := by rfl) : CallR X (.builtin "max") rMax2' := call_max2 hc
theorem o_max2 : CallD K TB rMax2' max2D := fun E ws G H W xs as Q c r w => by
  unfold max2D int2 at w
  split at w
  · rename_i x y
    obtain ⟨v, u, rfl, r1, r2⟩ := two_of r
    cases q : intOf x with
    | none => simp only [q] at w; exact w.elim
    | some i =>
      cases q2 : intOf y with
      | none => simp only [q, q2] at w; exact w.elim
      | some j =>
        simp only [q, q2] at w
        obtain rfl := intOf_at r1 q
        obtain rfl := intOf_at r2 q2
        exact ⟨i, j, rfl, w.d c (.int _)⟩
  · exact w.elim
theorem o_int : CallD K TB rInt1 intD := fun E ws G H W xs as Q c r w => by
  unfold intD at w
  split at w
  · obtain ⟨v, rfl, r1⟩ := one_of r
    cases r1 with
    | d r1 =>
    cases r1
    exact .inl ⟨_, rfl, w.d c (.int _)⟩
  · obtain ⟨v, rfl, r1⟩ := one_of r
    cases r1 with
    | d r1 =>
    cases r1
    exact .inr ⟨_, rfl, w.d c (.int _)⟩
  · exact w.elim
theorem ty_at {G H : Hp} {v : V} {x : D} {t : String} (s : Same G H) (r : Rp K G v x) (h : tyOfD x = some t) : TyX K.K H v (.type t) := by
  cases r with
  | non => cases h; exact .base .non
  | bl b => cases h; exact .base (.bl b)
  | int i => cases h; exact .base (.int i)
  | str z => cases h; exact .base (.str z)
  | tup e _ => cases h; exact .base (.tup (s _ _ e))
  | lst e _ => cases h; exact .base (.lst (s _ _ e))
  | _ => cases h
theorem o_isi : CallD K TB (rIsi K.K) isiD := fun E ws G H W xs as Q c r w => by
  unfold isiD at w
  split at w
  · rename_i x n
    obtain ⟨v, u, rfl, r1, r2⟩ := two_of r
    cases q : tyOfD x with
    | none => simp only [q] at w; exact w.elim
    | some t =>
      simp only [q] at w
      cases q2 : kitB t n with
      | none => simp only [q2] at w; exact w.elim
      | some b =>
        simp only [q2] at w
        cases r1 with
        | d r1 =>
        cases r2 with
        | d r2 =>
        cases r2
        exact ⟨_, _, _, _, b, rfl, .ty n, ty_at c.g r1 q, kit_ty q2, w.d c (.bl _)⟩
  · exact w.elim
end
end DL

set_option Elab.async false
set_option linter.all false
set_option maxRecDepth 100000
set_option maxHeartbeats 4000000
/-! ## what stands in lists and dicts is changed -/
namespace DL
open PySem PySem.Spec PyProof.Rows L2
section
variable {X : Cx}
def rSetA (w : World) : TSet := fun o i v H Q => rSetL o i v H Q ∨ ∃ a H', o = .ref a ∧ PutA w H a i v H' ∧ Q H'
theorem setA (w : World) (hu : X.A.units + 16 < cLine) (hw : X.w = w := by rfl) : PSet X (rSetA w) := by
  subst hw
  intro pins s σ H o i v ov iv u Q I ro ri rv h
  rcases h with h | ⟨a, H', rfl, g, q⟩
  · exact set_list pins s σ H o i v ov iv u Q I ro ri rv h
  · cases ro
    exact a_setItem hu I g ri rv fun s' I' => ⟨H', I', q⟩
theorem pgetA (w : World) (hu : X.A.units + 16 < cLine) (hw : X.w = w := by rfl) : PGet X (rGetA w) := by
  subst hw
  intro pins s σ H o i ov iv Q I ro ri h
  obtain ⟨a, v, rfl, g, q⟩ := h
  cases ro
  exact a_getItem hu I g ri fun w' s' I' rw' => ⟨v, H, I', rw', q⟩
/-- del d[y] -/
def sDelA (w : World) (td ty : TE) : TS := fun D σ H => td σ H fun x H1 => ty σ H1 fun y H2 => ∃ a v H', x = .ref a ∧ DelA w H2 a y v H' ∧ D.nx σ H'
theorem ps_delA {o i : Expr} {tpos pos : Pos} {td ty : TE} (w : World) (hu : X.A.units + 16 < cLine) (ho : PE X o td) (hi : PE X i ty) (hw : X.w = w := by rfl) : PS X (.Delete [.Subscript o i tpos] pos) (sDelA w td ty) := by
  subst hw
  constructor
  intro pins s σ H Dn I h
  apply wpAny_Delete
  apply wpAny_deleteEach_cons
  apply wpAny_delete_Subscript
  refine thn (ho.run pins s σ H _ I h) fun u s1 q => ?_
  obtain ⟨x, H1, I1, rx, q⟩ := q
  refine thn (hi.run pins s1 σ H1 _ I1 q) fun iv s2 q => ?_
  obtain ⟨y, H2, I2, ry, a, v, H', ex, g, q3⟩ := q
  subst ex
  cases rx
  exact a_delItem hu I2 g ry fun s3 I3 => wpAny_deleteEach_nil ⟨σ, _, I3, q3⟩
end
/-! ### as data -/
noncomputable def setIx (W : Ms) (o i v : Vl) : Option Ms := match o with
  | .mu n => (match W[n]? with
    | some (.lst l) => (match i with
      | .d (.int k) => (ixN l.length k).map fun j => W.set n (.lst (l.set j v))
      | _ => none)
    | some (.dct l) => (match i with
      | .d k => if okKey l k = true ∧ l.length < sizeLine then some (W.set n (.dct (putKD k v l))) else none
      | _ => none)
    | _ => none)
  | _ => none
noncomputable def delIx (W : Ms) (o i : Vl) : Option (Vl × Ms) := match o with
  | .mu n => (match W[n]? with
    | some (.dct l) => (match i with
      | .d k => if okKey l k = true then (getK l k).map fun v => (v, W.set n (.dct (delKD k l))) else none
      | _ => none)
    | _ => none)
  | _ => none
noncomputable def sPut (fo fi fv : FE) : FS := fun ρ W => (fv ρ W).bindS fun y W1 => (fo ρ W1).bindS fun o W2 => (fi ρ W2).bindS fun i W3 => match setIx W3 o i y with
  | some W4 => .nx ρ W4
  | none => .stuck
/-- d[k] -/
noncomputable def gixD (W : Ms) (o i : Vl) : Option Vl := match dctOf W o with
  | some l => (match i with
    | .d k => if okKey l k = true then getK l k else none
    | _ => none)
  | none => none
noncomputable def sAugS (fo fi : FE) (g : Ms → Vl → Vl → Res Vl) (f : FE) : FS := fun ρ W => (fo ρ W).bindS fun o W1 => (fi ρ W1).bindS fun i W2 => match gixD W2 o i with
  | some x => ((f ρ W2).bindS fun y W4 => (g W4 x y).bindS fun z W5 => match setIx W5 o i z with
    | some W6 => .nx ρ W6
    | none => .stuck)
  | none => .stuck
noncomputable def sDel (fo fi : FE) : FS := fun ρ W => (fo ρ W).bindS fun o W1 => (fi ρ W1).bindS fun i W2 => match delIx W2 o i with
  | some (_, W3) => .nx ρ W3
  | none => .stuck
section
variable {K : Fr} {TB : List (Addr × Str)} {E : XK} {ws : List Addr} {G H : Hp} {W : Ms}
theorem ex_key {k : Key} : ∀ {kvs : List (Key × V)} {l : List (D × Vl)}, RpVK K ws G kvs l → ((kvs.any fun kv => decide (kv.1 = k)) = true ↔ ∃ p ∈ l, p.1 = kD k)
  | _, _, .nil => by simp
  | (k1, v1) :: kvs, (d1, y1) :: l, .cons ⟨h1, h2⟩ t => by
    obtain rfl : d1 = kD k1 := h1
    have ih := ex_key (k := k) t
    simp only [List.any_cons, Bool.or_eq_true, decide_eq_true_eq, List.mem_cons, exists_eq_or_imp, ih]
    constructor
    · rintro (e | e)
      · exact .inl (congrArg kD e)
      · exact .inr e
    · rintro (e | e)
      · exact .inl (kD_inj e)
      · exact .inr e
theorem Paired.map2 {α β α' β' : Type} {F : α → β → Prop} {F' : α' → β' → Prop} {f : α → α'} {g : β → β'} (h : ∀ a b, F a b → F' (f a) (g b)) : ∀ {l : List α} {r : List β}, Paired F l r → Paired F' (l.map f) (r.map g)
  | _, _, .nil => .nil
  | _, _, .cons a t => .cons (h _ _ a) (Paired.map2 h t)
theorem vk_put {k : Key} {v : V} {y : Vl} (rv : RpV K ws G v y) {kvs : List (Key × V)} {l : List (D × Vl)} (r : RpVK K ws G kvs l) : RpVK K ws G (putK kvs k v) (putKD (kD k) y l) := by
  unfold putK putKD
  by_cases h : ∃ p ∈ l, p.1 = kD k
  · rw [if_pos ((ex_key r).2 h), if_pos h]
    refine Paired.map2 (fun a b hab => ?_) r
    obtain ⟨k1, v1⟩ := a
    obtain ⟨d1, y1⟩ := b
    obtain ⟨h1, h2⟩ := hab
    obtain rfl : d1 = kD k1 := h1
    by_cases e : k1 = k
    · subst e
      rw [if_pos rfl, if_pos rfl]
      exact ⟨rfl, rv⟩
    · rw [if_neg e, if_neg (fun z => e (kD_inj z))]
      exact ⟨rfl, h2⟩
  · rw [if_neg (fun z => h ((ex_key r).1 z)), if_neg h]
    exact Paired.app r (.cons ⟨rfl, rv⟩ .nil)
theorem vk_drop {k : Key} : ∀ {kvs : List (Key × V)} {l : List (D × Vl)}, RpVK K ws G kvs l → RpVK K ws G (dropK kvs k) (delKD (kD k) l)
  | _, _, .nil => .nil
  | (k1, v1) :: kvs, (d1, y1) :: l, .cons ⟨h1, h2⟩ t => by
    obtain rfl : d1 = kD k1 := h1
    have ih := vk_drop (k := k) t
    unfold dropK delKD at *
    by_cases e : k1 = k
    · subst e
      simpa using ih
    · have e2 : ¬ kD k1 = kD k := fun z => e (kD_inj z)
      simp only [List.filter_cons, ne_eq, e, e2, not_false_eq_true, decide_true, if_true]
      exact .cons ⟨rfl, h2⟩ ih
theorem nk_iff {k d1 : D} {nk n1 : NestedKey} (hk : nkOf k = some nk) (h1 : nkOf d1 = some n1) : n1 = nk ↔ d1 = k := by
  constructor
  · intro e
    subst e
    exact nk_inj _ _ _ h1 hk
  · intro e
    subst e
    rw [hk] at h1
    exact (Option.some.inj h1).symm
theorem ex_keyN {k : D} {nk : NestedKey} (hk : nkOf k = some nk) : ∀ {kvs : List (NestedKey × Addr × V)} {l : List (D × Vl)}, RpVN K ws G kvs l → ((kvs.any fun x => decide (x.1 = nk)) = true ↔ ∃ p ∈ l, p.1 = k)
  | _, _, .nil => by simp
  | (n1, b1, v1) :: kvs, (d1, y1) :: l, .cons ⟨⟨h0, h1, h3⟩, h2⟩ t => by
    have ih := ex_keyN hk t
    simp only [List.any_cons, Bool.or_eq_true, decide_eq_true_eq, List.mem_cons, exists_eq_or_imp, ih]
    rw [nk_iff hk h1]
theorem vn_put {k : D} {nk : NestedKey} {b : Addr} {v : V} {y : Vl} (hk : nkOf k = some nk) (hd : nk.depth ≤ 8) (rb : Rp K G (.ref b) k) (rv : RpV K ws G v y) {kvs : List (NestedKey × Addr × V)} {l : List (D × Vl)} (r : RpVN K ws G kvs l) :
    RpVN K ws G (putN kvs nk b v) (putKD k y l) := by
  unfold putN putKD
  by_cases h : ∃ p ∈ l, p.1 = k
  · rw [if_pos ((ex_keyN hk r).2 h), if_pos h]
    refine Paired.map2 (fun a c hab => ?_) r
    obtain ⟨n1, b1, v1⟩ := a
    obtain ⟨d1, y1⟩ := c
    obtain ⟨⟨h0, h1, h3⟩, h2⟩ := hab
    by_cases e : d1 = k
    · have e1 := (nk_iff hk h1).2 e
      simp only at e1
      rw [if_pos e1, if_pos e]
      exact ⟨⟨h0, h1, h3⟩, rv⟩
    · have e1 : ¬ n1 = nk := fun z => e ((nk_iff hk h1).1 z)
      rw [if_neg e1, if_neg e]
      exact ⟨⟨h0, h1, h3⟩, h2⟩
  · rw [if_neg (fun z => h ((ex_keyN hk r).1 z)), if_neg h]
    exact Paired.app r (.cons ⟨⟨rb, hk, hd⟩, rv⟩ .nil)
theorem vn_drop {k : D} {nk : NestedKey} (hk : nkOf k = some nk) : ∀ {kvs : List (NestedKey × Addr × V)} {l : List (D × Vl)}, RpVN K ws G kvs l → RpVN K ws G (dropN kvs nk) (delKD k l)
  | _, _, .nil => .nil
  | (n1, b1, v1) :: kvs, (d1, y1) :: l, .cons ⟨⟨h0, h1, h3⟩, h2⟩ t => by
    have ih := vn_drop hk t
    have i := nk_iff hk h1
    simp only at i
    unfold dropN delKD at *
    by_cases e : d1 = k
    · have e1 := i.2 e
      subst e
      subst e1
      simpa using ih
    · have e1 : ¬ n1 = nk := fun z => e (i.1 z)
      simp only [List.filter_cons, ne_eq, e, e1, not_false_eq_true, decide_true, if_true]
      exact .cons ⟨⟨h0, h1, h3⟩, h2⟩ ih
theorem put_ne {k : D} {y : Vl} {l : List (D × Vl)} : putKD k y l ≠ [] := by
  unfold putKD
  split
  · rename_i h
    obtain ⟨p, hp, _⟩ := h
    cases l with
    | nil => cases hp
    | cons a l => simp
  · simp
/-- a key that stands for itself: a number, a text, or a tuple -/
theorem key_cases {i : V} {k : D} {l : List (D × Vl)} (c : Cf K TB ws G H W) (ri : RpV K ws G i (.d k)) (hk : okKey l k = true) :
    (∃ kk : Key, i = kV kk ∧ k = kD kk ∧ isTupD k = false) ∨ ∃ b nk, i = .ref b ∧ Rp K G (.ref b) k ∧ nkOf k = some nk ∧ nk.depth ≤ 8 ∧ Nk H (.ref b) nk ∧ isTupD k = true := by
  simp only [okKey, Bool.and_eq_true] at hk
  cases ri with
  | d ri =>
  cases ri with
  | int i => exact .inl ⟨.inl i, rfl, rfl, rfl⟩
  | str i => exact .inl ⟨.inr i, rfl, rfl, rfl⟩
  | @tup b vs l' e0 rl =>
    have hk1 := hk.1
    simp only [keyOk] at hk1
    cases q0 : nkOf (.tup l') with
    | none => rw [q0] at hk1; cases hk1
    | some nk =>
      rw [q0] at hk1
      exact .inr ⟨b, nk, rfl, .tup e0 rl, rfl, of_decide_eq_true hk1, Rp.nk c.g (.tup e0 rl) q0, rfl⟩
  | _ => exact absurd hk.1 (by simp [keyOk])
theorem vk_kind {kvs : List (Key × V)} {l : List (D × Vl)} {k : D} (rk : RpVK K ws G kvs l) (hk : kindOk l k = true) (ht : isTupD k = true) : kvs = [] ∧ l = [] := by
  cases rk with
  | nil => exact ⟨rfl, rfl⟩
  | @cons p q _ _ hh t =>
    obtain ⟨p1, p2⟩ := p
    obtain ⟨q1, q2⟩ := q
    obtain ⟨h1, _⟩ := hh
    obtain rfl : q1 = kD p1 := h1
    change (isTupD (kD p1) == isTupD k) = true at hk
    rw [ht] at hk
    cases p1 <;> cases hk
theorem set_at {o i v : V} {x k y : Vl} {W' : Ms} {Q : Hp → Prop} (c : Cf K TB ws G H W) (ro : RpV K ws G o x) (ri : RpV K ws G i k) (rv : RpV K ws G v y) (h : setIx W x k y = some W')
    (q : ∀ H', Gr ws G H ws G H' → Cf K TB ws G H' W' → Q H') : rSetA K.w o i v H Q := by
  unfold setIx at h
  cases ro with
  | d _ => cases h
  | @mu a n e =>
    cases q0 : W[n]? with
    | none => simp only [q0] at h; cases h
    | some m =>
      cases m with
      | lst l =>
        simp only [q0] at h
        cases ri with
        | mu _ => cases h
        | d ri =>
          cases ri with
          | int z =>
            simp only [Option.map_eq_some_iff] at h
            obtain ⟨j, hj, rfl⟩ := h
            obtain ⟨_, vs, e1, rl⟩ := c.ob n a _ e q0 (by simp)
            exact .inl ⟨a, vs, z, j, rfl, rfl, e1, by rw [Paired.length rl]; exact hj, q _ (Gr.put e ⟨_, e1, nf_lst⟩) (c.put e q0 (by simp) ⟨_, upd_same, Paired.set' rv j rl⟩)⟩
          | _ => cases h
      | dct l =>
        simp only [q0] at h
        cases k with
        | mu _ => cases h
        | d k =>
          simp only at h
          split at h
          · rename_i hh
            obtain ⟨hk, hl⟩ := hh
            cases h
            have hkd : kindOk l k = true := by
              simp only [okKey, Bool.and_eq_true] at hk
              exact hk.2
            obtain ⟨_, hm⟩ := c.ob n a _ e q0 (by simp)
            refine .inr ?_
            rcases key_cases c ri hk with ⟨kk, rfl, rfl, ht⟩ | ⟨b, nk, rfl, rb, hn, hd, hnk, ht⟩
            · rcases hm with ⟨kvs, e1, rk⟩ | ⟨kvs, e1, rn, nl⟩
              · exact ⟨a, _, rfl, .inl (DPut.k e1 (by rw [Paired.length rk]; exact hl)), q _ (Gr.put e ⟨_, e1, nf_dK⟩) (c.put e q0 (by simp) (.inl ⟨_, upd_same, vk_put rv rk⟩))⟩
              · exact absurd hkd (vn_kind rn nl ht)
            · rcases hm with ⟨kvs, e1, rk⟩ | ⟨kvs, e1, rn, nl⟩
              · obtain ⟨rfl, rfl⟩ := vk_kind rk hkd ht
                exact ⟨a, _, rfl, .inr ⟨[], nk, b, .inr ⟨e1, rfl⟩, (fun _ z => nomatch z), rfl, hnk, hd, hl, rfl⟩, q _ (Gr.put e ⟨_, e1, nf_dK⟩) (c.put e q0 (by simp) (.inr ⟨_, upd_same, vn_put hn hd rb rv .nil, put_ne⟩))⟩
              · exact ⟨a, _, rfl, .inr ⟨kvs, nk, b, .inl e1, nk_all c.g rn, rfl, hnk, hd, by rw [Paired.length rn]; exact hl, rfl⟩, q _ (Gr.put e ⟨_, e1, nf_dN⟩) (c.put e q0 (by simp) (.inr ⟨_, upd_same, vn_put hn hd rb rv rn, put_ne⟩))⟩
          · cases h
      | _ => simp only [q0] at h; cases h
theorem dne_at {b : Addr} {kvs : List (NestedKey × Addr × V)} {l : List (D × Vl)} {H' : Hp} (h : H' b = some (dNe K.w b kvs)) (r : RpVN K ws G kvs l) : MAt K ws G H' b (.dct l) := by
  cases r with
  | nil => exact .inl ⟨[], h, .nil⟩
  | cons a t => exact .inr ⟨_, h, .cons a t, by simp⟩
theorem del_at {o i : V} {x k y : Vl} {W' : Ms} (c : Cf K TB ws G H W) (ro : RpV K ws G o x) (ri : RpV K ws G i k) (h : delIx W x k = some (y, W')) :
    ∃ a v H', o = .ref a ∧ DelA K.w H a i v H' ∧ RpV K ws G v y ∧ Gr ws G H ws G H' ∧ Cf K TB ws G H' W' := by
  unfold delIx at h
  cases ro with
  | d _ => cases h
  | @mu a n e =>
    cases q0 : W[n]? with
    | none => simp only [q0] at h; cases h
    | some m =>
      cases m with
      | dct l =>
        simp only [q0] at h
        cases k with
        | mu _ => cases h
        | d k =>
          simp only at h
          split at h
          · rename_i hk
            rw [Option.map_eq_some_iff] at h
            obtain ⟨y', hg, h⟩ := h
            cases h
            have hkd : kindOk l k = true := by
              simp only [okKey, Bool.and_eq_true] at hk
              exact hk.2
            obtain ⟨_, hm⟩ := c.ob n a _ e q0 (by simp)
            rcases key_cases c ri hk with ⟨kk, rfl, rfl, ht⟩ | ⟨b, nk, rfl, rb, hn, hd, hnk, ht⟩
            · rcases hm with ⟨kvs, e1, rk⟩ | ⟨kvs, e1, rn, nl⟩
              · obtain ⟨v, h1, h2⟩ := (vk_get kk rk).2 _ hg
                exact ⟨a, v, _, rfl, .inl ⟨kvs, kk, e1, rfl, h1, rfl⟩, h2, Gr.put e ⟨_, e1, nf_dK⟩, c.put e q0 (by simp) (.inl ⟨_, upd_same, vk_drop rk⟩)⟩
              · exact absurd hkd (vn_kind rn nl ht)
            · rcases hm with ⟨kvs, e1, rk⟩ | ⟨kvs, e1, rn, nl⟩
              · obtain ⟨rfl, rfl⟩ := vk_kind rk hkd ht
                cases hg
              · obtain ⟨v, h1, h2⟩ := (vn_get hn rn).2 _ hg
                exact ⟨a, v, _, rfl, .inr ⟨kvs, nk, b, e1, nk_all c.g rn, rfl, hnk, hd, h1, rfl⟩, h2, Gr.put e ⟨_, e1, nf_dN⟩, c.put e q0 (by simp) (dne_at upd_same (vn_drop hn rn)) (by intro _ z; unfold dNe at z; split at z <;> cases z)⟩
          · cases h
      | _ => simp only [q0] at h; cases h
/-- o[i] = v -/
theorem s_put {to ti tv : TE} {fo fi fv : FE} (hv : SE K TB E tv fv) (ho : SE K TB E to fo) (hi : SE K TB E ti fi) : SS K TB E (tAsg tv (gSub to ti (rSetA K.w))) (sPut fo fi fv) := fun σ ws G H ρ W Dn e c w =>
  hv.goS e c w fun v y W1 ws1 G1 H1 g1 c1 r1 w1 => by
    refine ho.goS (e.up g1) c1 w1 fun o x W2 ws2 G2 H2 g2 c2 r2 w2 => ?_
    refine hi.goS ((e.up g1).up g2) c2 w2 fun i k W3 ws3 G3 H3 g3 c3 r3 w3 => ?_
    cases q : setIx W3 x k y with
    | none => simp only [q] at w3; exact w3.elim
    | some W4 =>
      simp only [q] at w3
      exact set_at c3 (g3.rv r2) r3 (g3.rv (g2.rv r1)) q fun H' g c' => w3 _ _ _ _ g c' ((((e.up g1).up g2).up g3).up g)
theorem gix_at {o i : V} {x k z : Vl} (c : Cf K TB ws G H W) (ro : RpV K ws G o x) (ri : RpV K ws G i k) (h : gixD W x k = some z) : ∃ a v, o = .ref a ∧ GetA K.w H a i (some v) ∧ RpV K ws G v z := by
  unfold gixD at h
  cases q : dctOf W x with
  | none => simp only [q] at h; cases h
  | some l =>
    simp only [q] at h
    cases k with
    | mu _ => cases h
    | d k =>
      simp only at h
      split at h
      · rename_i hk
        obtain ⟨p, rfl, _, g⟩ := get_at c ro q ri hk
        obtain ⟨v, g1, r1⟩ := g z h
        exact ⟨p, v, rfl, g1, r1⟩
      · cases h
/-- o[i] op= v -/
theorem s_augS {to ti tv : TE} {fo fi fv : FE} {r : TIp} {g : Ms → Vl → Vl → Res Vl} (hg : OpD K TB r g) (ho : SE K TB E to fo) (hi : SE K TB E ti fi) (hv : SE K TB E tv fv) : SS K TB E (tAugS to ti tv (rGetA K.w) r (rSetA K.w)) (sAugS fo fi g fv) := fun σ ws G H ρ W Dn e c w =>
  ho.goS e c w fun o x W1 ws1 G1 H1 g1 c1 r1 w1 => by
    refine hi.goS (e.up g1) c1 w1 fun i k W2 ws2 G2 H2 g2 c2 r2 w2 => ?_
    cases q : gixD W2 x k with
    | none => simp only [q] at w2; exact w2.elim
    | some z =>
      simp only [q] at w2
      obtain ⟨a, v, rfl, ga, rz⟩ := gix_at c2 (g2.rv r1) r2 q
      refine ⟨a, v, rfl, ga, ?_⟩
      refine hv.goS ((e.up g1).up g2) c2 w2 fun y dy W3 ws3 G3 H3 g3 c3 r3 w3 => ?_
      refine hg E _ _ _ _ _ _ _ _ _ c3 (g3.rv rz) r3 ?_
      cases q2 : g W3 z dy with
      | stuck => rw [q2] at w3; exact w3
      | exc C W4 => rw [q2] at w3; exact fun ws' G' H' g' c' => w3 ws' G' H' g' c'
      | ok u W4 =>
        rw [q2] at w3
        intro b ws4 G4 H4 g4 c4 r4
        simp only [Res.bindS_ok] at w3
        cases q3 : setIx W4 x k u with
        | none => simp only [q3] at w3; exact w3.elim
        | some W5 =>
          simp only [q3] at w3
          exact set_at c4 (g4.rv (g3.rv (g2.rv r1))) (g4.rv (g3.rv r2)) r4 q3 fun H' g5 c5 => w3 _ _ _ _ (g4.trans g5) c5 (((((e.up g1).up g2).up g3).up g4).up g5)
theorem s_del {to ti : TE} {fo fi : FE} (ho : SE K TB E to fo) (hi : SE K TB E ti fi) : SS K TB E (sDelA K.w to ti) (sDel fo fi) := fun σ ws G H ρ W Dn e c w =>
  ho.goS e c w fun o x W1 ws1 G1 H1 g1 c1 r1 w1 => by
    refine hi.goS (e.up g1) c1 w1 fun i k W2 ws2 G2 H2 g2 c2 r2 w2 => ?_
    cases q : delIx W2 x k with
    | none => simp only [q] at w2; exact w2.elim
    | some z =>
      obtain ⟨y, W4⟩ := z
      simp only [q] at w2
      obtain ⟨a, v, H', rfl, d, _, g, c'⟩ := del_at c2 (g2.rv r1) r2 q
      exact ⟨a, v, H', rfl, d, w2 _ _ _ _ g c' (((e.up g1).up g2).up g)⟩
end
end DL

set_option Elab.async false
set_option linter.all false
set_option maxRecDepth 100000
set_option maxHeartbeats 4000000
/-! ## methods of what is built in -/
namespace DL
open PySem PySem.Spec PyProof.Rows L2
/-- of the type T -/
def tyA (K : PySem.W.Frag) (w : World) (T : String) (x : V) (H : Hp) : Prop := tyV K T x H ∨ (T = "dict" ∧ ∃ a, x = .ref a ∧ ((∃ kvs, Rd H a (.dK kvs)) ∨ ∃ kvs, Rd H a (dN w a kvs) ∧ NkAll H kvs))
def tAM (K : PySem.W.Frag) (w : World) (T : String) (r : V → List V → Hp → VK → Prop) (to : TE) (t : TA) : TE := fun σ H Q => to σ H fun x H1 => tyA K w T x H1 ∧ t σ H1 fun xs H2 => r x xs H2 Q
section
variable {X : Cx} {pins : List (Addr × Obj)} {σ : L2.St} {H : Hp} {s : Shared} {T id : String} {x : V} {v : Value}
theorem tyA_is (I : Inv X pins σ H s) (r : RelV x v) (ty : tyA X.K X.w T x H) : s.TypeIs v T ∧ ∀ a, v = .ref a → ∃ ob, s.heap.get? a = some ob ∧ ob.dict = none := by
  rcases ty with ty | ⟨rfl, a, rfl, ⟨kvs, e⟩ | ⟨kvs, e, hk⟩⟩
  · exact tyV_is I r ty
  · cases r
    obtain ⟨_, _, vs, _, dd⟩ := dk_rd I.hok e
    refine ⟨dd.typeIs, fun c z => ?_⟩
    cases z
    obtain ⟨ob, _, _, k1, k2, _⟩ := dd
    exact ⟨ob, k1, k2.2.1⟩
  · cases r
    obtain ⟨_, _, us, _, dd⟩ := dn_rd I.hok e hk
    refine ⟨dd.typeIs, fun c z => ?_⟩
    cases z
    obtain ⟨ob, _, _, k1, k2, _⟩ := dd
    exact ⟨ob, k1, k2.2.1⟩
variable {o e : Expr} {es : List Expr} {to : TE} {t : TA} {name : Str} {apos cpos : Pos} {r : V → List V → Hp → VK → Prop}
theorem pe_am0 (K : PySem.W.Frag) (w : World) (pa : PlainAttrs T) (slot : Slot T name id) (hty : typeOf (.builtin id) = pure (.type "method_descriptor")) (hm : MtR X id r) (ho : PE X o to) (hK : X.K = K := by rfl) (hw : X.w = w := by rfl)
    (hbase : attributeBase o name X.env (eval o X.env) = eval o X.env := by rfl) (hline : (apos.endLine == cpos.line) = true := by rfl) : PE X (.Call (.Attribute o name apos) [] [] cpos) (tAM K w T r to tNil) := by
  subst hK hw
  constructor
  intro pins s σ H Q I h
  refine wpAny_Call_method0_late hbase hline (thn (ho.run pins s σ H _ I h) fun v s1 z => ?_)
  obtain ⟨x, H1, I1, r1, ty, q1⟩ := z
  obtain ⟨t1, t2⟩ := tyA_is I1 r1 ty
  exact ⟨T, id, pa, slot, hty, t1, t2, Calls.callWith_builtin rfl (PySem.evalArgs_none (hm pins s1 σ H1 x [] v [] Q I1 r1 .nil q1))⟩
theorem pe_am (K : PySem.W.Frag) (w : World) (pa : PlainAttrs T) (slot : Slot T name id) (hty : typeOf (.builtin id) = pure (.type "method_descriptor")) (hm : MtR X id r) (ho : PE X o to) (ha : PA X (e :: es) t) (hK : X.K = K := by rfl) (hw : X.w = w := by rfl)
    (hbase : attributeBase o name X.env (eval o X.env) = eval o X.env := by rfl)
    (hfew : ((backTo cpos (starEach (e :: es) X.env)).all (fun x => !x.1) && (backToKw cpos (keywordEach [] X.env)).all (fun x => x.1.isSome) && decide ((e :: es).length + ([] : List Keyword).length + (if ([] : List Keyword).isEmpty then 0 else 1) < 30)) = true := by rfl)
    (hline : (apos.endLine == cpos.line) = true := by rfl) (hs : starEach (e :: es) X.env = (false, eval e X.env) :: starEach es X.env := by rfl) (hplain : (backTo cpos (starEach es X.env)).any (·.1) = false := by rfl) :
    PE X (.Call (.Attribute o name apos) (e :: es) [] cpos) (tAM K w T r to t) := by
  subst hK hw
  constructor
  intro pins s σ H Q I h
  refine wpAny_Call_method_late hbase hfew hline rfl (thn (ho.run pins s σ H _ I h) fun v s1 z => ?_)
  obtain ⟨x, H1, I1, r1, ty, q1⟩ := z
  obtain ⟨t1, t2⟩ := tyA_is I1 r1 ty
  refine ⟨T, id, pa, slot, hty, t1, t2, ?_⟩
  have aa := ha.run cpos pins s1 σ H1 _ I1 q1
  rw [hs] at aa ⊢
  have pl : ((false, eval e X.env) :: backTo cpos (starEach es X.env)).any (·.1) = false := by
    rw [List.any_cons, hplain]
    rfl
  refine Calls.callWith_builtin pl (Calls.evalArgs_plain ?_)
  exact thn aa fun us s2 z => by
    obtain ⟨vs, H2, I2, r2, q2⟩ := z
    exact hm pins s2 σ H2 x vs v us Q I2 r1 r2 q2
/-! ### of dicts -/
def rGet (w : World) : V → List V → Hp → VK → Prop := fun x xs H Q => (∃ a y o, x = .ref a ∧ xs = [y] ∧ GetA w H a y o ∧ Q (o.getD .non) H) ∨ ∃ a y z o, x = .ref a ∧ xs = [y, z] ∧ GetA w H a y o ∧ Q (o.getD z) H
theorem mtGet (w : World) (hu : X.A.units + 16 < cLine) (hw : X.w = w := by rfl) : MtR X "dict.get" (rGet w) := by
  subst hw
  intro pins s σ H x xs v us Q I rx rs h
  rcases h with ⟨a, y, o, rfl, rfl, g, q⟩ | ⟨a, y, z, o, rfl, rfl, g, q⟩
  · obtain ⟨u, rfl, ru⟩ := Vals.one rs
    cases rx
    exact a_get1 hu I g ru fun w' s' I' r' => ⟨_, H, I', r', q⟩
  · obtain ⟨u, u2, rfl, ru, ru2⟩ := Vals.two rs
    cases rx
    exact a_get2 hu I g ru ru2 fun w' s' I' r' => ⟨_, H, I', r', q⟩
def rDPop (w : World) : V → List V → Hp → VK → Prop := fun x xs H Q => ∃ a y v H', x = .ref a ∧ (xs = [y] ∨ ∃ z, xs = [y, z]) ∧ DelA w H a y v H' ∧ Q v H'
theorem mtDPop (w : World) (hu : X.A.units + 16 < cLine) (hw : X.w = w := by rfl) : MtR X "dict.pop" (rDPop w) := by
  subst hw
  intro pins s σ H x xs v us Q I rx rs h
  obtain ⟨a, y, v', H', rfl, hx, g, q⟩ := h
  cases rx
  rcases hx with rfl | ⟨z, rfl⟩
  · obtain ⟨u, rfl, ru⟩ := Vals.one rs
    exact a_pop hu I g ru (.inl rfl) fun w' s' I' r' => ⟨_, _, I', r', q⟩
  · obtain ⟨u, u2, rfl, ru, ru2⟩ := Vals.two rs
    exact a_pop hu I g ru (.inr ⟨u2, rfl⟩) fun w' s' I' r' => ⟨_, _, I', r', q⟩
def rSetDf (w : World) : V → List V → Hp → VK → Prop := fun x xs H Q => ∃ a y z, x = .ref a ∧ xs = [y, z] ∧
  ((∃ kvs k, H a = some (.dK kvs) ∧ y = kV k ∧ kvs.length < sizeLine ∧ (∀ v, valV kvs k = some v → Q v H) ∧ (valV kvs k = none → Q z (upd H a (.dK (putK kvs k z))))) ∨
   ∃ ns nk b, (H a = some (dN w a ns) ∨ (H a = some (.dK []) ∧ ns = [])) ∧ NkAll H ns ∧ y = .ref b ∧ Nk H (.ref b) nk ∧ nk.depth ≤ 8 ∧ ns.length < sizeLine ∧ (∀ v, valN ns nk = some v → Q v H) ∧ (valN ns nk = none → Q z (upd H a (dN w a (putN ns nk b z)))))
theorem mtSetDf (w : World) (hu : X.A.units + 16 < cLine) (hw : X.w = w := by rfl) : MtR X "dict.setdefault" (rSetDf w) := by
  subst hw
  intro pins s σ H x xs v us Q I rx rs h
  obtain ⟨a, y, z, rfl, rfl, h⟩ := h
  obtain ⟨u, u2, rfl, ru, ru2⟩ := Vals.two rs
  cases rx
  rcases h with ⟨kvs, k, e, rfl, hl, h1, h2⟩ | ⟨ns, nk, b, g, hk, rfl, hb, hd, hl, h1, h2⟩
  · obtain ⟨hz, hm, vs, rel, dd⟩ := dk_of I.hok e
    refine call_meetsIn PySem.F.slot_dict_setdefault dd.typeIs PySem.F.entry_dict_setdefault (PySem.F.args_dict_setdefault_3 _ _ _) (kt_meets_setdefault (mixKind X.prog X.w) _ (kV_is ru) hm _) ⟨vs, dd, by rw [← rel.length]; exact hz, fun p hp => ?_, fun hn h' dd' hs => ?_⟩
    · have rr := rel.val k
      rw [hp] at rr
      cases hv : valV kvs k with
      | none => rw [hv] at rr; exact False.elim rr
      | some x => rw [hv] at rr; exact ⟨x, H, I.tok _, rr, h1 x hv⟩
    · have rr := rel.val k
      rw [hn] at rr
      cases hv : valV kvs k with
      | some x => rw [hv] at rr; exact False.elim rr
      | none =>
        have he : ∃ q, h'.get? a = some q := let ⟨q, _, _, hq, _⟩ := dd'; ⟨q, hq⟩
        have hl2 : (putK kvs k z).length ≤ sizeLine := by have := length_putK kvs k z; omega
        exact ⟨z, _, d_write I (by rw [e]; exact True.intro) hs he (dk_new hl2 hm (rel.put k ru2) dd'), ru2, h2 hv⟩
  · cases (show u = Value.ref b from ru)
    obtain ⟨g1, mu⟩ := rds_of g
    obtain ⟨z1, hm, us, rel, dd⟩ := getA_of I g1 hk
    have hl2 : (putN ns nk b z).length ≤ sizeLine := by have := length_putN ns nk b z; omega
    have rr := xu_val rel nk
    refine call_setdefault_heap (hsz := by rw [← Paired.length rel]; exact z1) (nk_room (X := X) hu) (nk_key I.hok hb hd) hm dd (fun p hp => ?_) fun hn h' dd' hs => ?_
    · rw [hp] at rr
      cases hv : valN ns nk with
      | none => rw [hv] at rr; exact False.elim rr
      | some x => rw [hv] at rr; exact ⟨x, H, I.tok _, rr, h1 x hv⟩
    · rw [hn] at rr
      cases hv : valN ns nk with
      | some x => rw [hv] at rr; exact False.elim rr
      | none =>
        have he : ∃ q, h'.get? a = some q := let ⟨q, _, _, hq, _⟩ := dd'; ⟨q, hq⟩
        exact ⟨z, _, d_write I mu hs he (dn_ok hl2 hm (xu_put rel nk ru2) dd'), ru2, h2 hv⟩
end
end DL

set_option Elab.async false
set_option linter.all false
set_option maxRecDepth 100000
set_option maxHeartbeats 4000000
/-! ## methods as data -/
namespace DL
open PySem PySem.Spec PyProof.Rows L2
abbrev FM := Ms → Vl → List Vl → Res Vl
def eMt (ty : Ms → Vl → Bool) (g : FM) (fo : FE) (fs : FA) : FE := fun ρ W => (fo ρ W).bind fun x W1 => if ty W1 x = true then (fs ρ W1).bind fun xs W2 => g W2 x xs else .stuck
def tyLst (W : Ms) (x : Vl) : Bool := (lstOf W x).isSome
def tyDct (W : Ms) (x : Vl) : Bool := (dctOf W x).isSome
def tyStr (_ : Ms) (x : Vl) : Bool := (strOf x).isSome
noncomputable def getM : FM := fun W x xs => match dctOf W x with
  | some l => (match xs with
    | [.d k] => if okKey l k = true then .ok ((getK l k).getD (.d .non)) W else .stuck
    | [.d k, z] => if okKey l k = true then .ok ((getK l k).getD z) W else .stuck
    | _ => .stuck)
  | none => .stuck
noncomputable def dpopM : FM := fun W x xs => match xs with
  | [k] => (match delIx W x k with
    | some (v, W') => .ok v W'
    | none => .stuck)
  | [k, _] => (match delIx W x k with
    | some (v, W') => .ok v W'
    | none => .stuck)
  | _ => .stuck
noncomputable def setDfM : FM := fun W x xs => match x, xs with
  | .mu n, [.d k, z] => (match W[n]? with
    | some (.dct l) => if okKey l k = true ∧ l.length < sizeLine then (match getK l k with
      | some v => .ok v W
      | none => .ok z (W.set n (.dct (putKD k z l)))) else .stuck
    | _ => .stuck)
  | _, _ => .stuck
def lstMu (W : Ms) (x : Vl) : Option (Nat × List Vl) := match x with
  | .mu n => (match W[n]? with
    | some (.lst l) => some (n, l)
    | _ => none)
  | _ => none
def appM : FM := fun W x xs => match lstMu W x with
  | some (n, l) => (match xs with
    | [y] => if l.length < sizeLine then .ok (.d .non) (W.set n (.lst (l ++ [y]))) else .stuck
    | _ => .stuck)
  | none => .stuck
def extM : FM := fun W x xs => match lstMu W x with
  | some (n, l) => (match xs with
    | [y] => (match seqOf W y with
      | some r => if l.length + r.length ≤ sizeLine then .ok (.d .non) (W.set n (.lst (l ++ r))) else .stuck
      | none => .stuck)
    | _ => .stuck)
  | none => .stuck
def popM : FM := fun W x xs => match lstMu W x with
  | some (n, l) => (match xs with
    | [] => (match l[l.length - 1]? with
      | some y => .ok y (W.set n (.lst l.dropLast))
      | none => .stuck)
    | [.d (.int i)] => if -(2 ^ 63) ≤ i ∧ i < 2 ^ 63 then (match seqIndex? i l.length with
      | some k => (match l[k]? with
        | some y => .ok y (W.set n (.lst (l.eraseIdx k)))
        | none => .stuck)
      | none => .stuck) else .stuck
    | _ => .stuck)
  | none => .stuck
section
variable {K : Fr} {TB : List (Addr × Str)} {E : XK}
abbrev MethD (K : Fr) (TB : List (Addr × Str)) (r : V → List V → Hp → VK → Prop) (g : FM) : Prop :=
  ∀ (E : XK) (ws : List Addr) (G H : Hp) (W : Ms) (x : V) (xs : List V) (a : Vl) (as : List Vl) (Q : VK), Cf K TB ws G H W → RpV K ws G x a → RpVs K ws G xs as → Wish K TB (RV K) E ws G H Q (g W a as) → r x xs H Q
abbrev TyD (K : Fr) (TB : List (Addr × Str)) (T : String) (ty : Ms → Vl → Bool) : Prop :=
  ∀ (ws : List Addr) (G H : Hp) (W : Ms) (x : V) (a : Vl), Cf K TB ws G H W → RpV K ws G x a → ty W a = true → tyA K.K K.w T x H
theorem s_mt {T : String} {ty : Ms → Vl → Bool} {r : V → List V → Hp → VK → Prop} {g : FM} {to : TE} {t : TA} {fo : FE} {fs : FA} (ht : TyD K TB T ty) (hg : MethD K TB r g) (ho : SE K TB E to fo) (ha : SA K TB E t fs) : SE K TB E (tAM K.K K.w T r to t) (eMt ty g fo fs) := by
  intro σ ws G H ρ W Q e c w
  refine ho.go (R := RV K) e c w fun x a W1 ws1 G1 H1 g1 c1 r1 w1 => ?_
  split at w1
  · rename_i h
    refine ⟨ht _ _ _ _ _ _ c1 r1 h, ?_⟩
    refine ha.go (R := RV K) (e.up g1) c1 w1 fun xs as W2 ws2 G2 H2 g2 c2 r2 w2 => ?_
    exact hg E _ _ _ _ _ _ _ _ _ c2 (g2.rv r1) r2 w2
  · exact w1.elim
theorem ty_lst : TyD K TB "list" tyLst := fun ws G H W x a c r h => by
  unfold tyLst at h
  cases q : lstOf W a with
  | none => rw [q] at h; cases h
  | some l =>
    obtain ⟨p, vs, rfl, e, _⟩ := lst_at c r q
    exact .inl (.inl ⟨rfl, vs, SqL.of e⟩)
theorem ty_dct : TyD K TB "dict" tyDct := fun ws G H W x a c r h => by
  unfold tyDct at h
  cases q : dctOf W a with
  | none => rw [q] at h; cases h
  | some l =>
    obtain ⟨p, rfl, hd⟩ := dct_at c r q
    refine .inr ⟨rfl, p, rfl, ?_⟩
    rcases hd with ⟨kvs, e, _⟩ | ⟨kvs, e, rn, _⟩
    · exact .inl ⟨kvs, e⟩
    · exact .inr ⟨kvs, e, nk_all c.g rn⟩
theorem ty_str : TyD K TB "str" tyStr := fun ws G H W x a c r h => by
  unfold tyStr at h
  cases q : strOf a with
  | none => rw [q] at h; cases h
  | some l =>
    cases strOf_at r q
    exact .inl rfl
theorem m_get : MethD K TB (rGet K.w) getM := fun E ws G H W x xs a as Q c rx rs w => by
  unfold getM at w
  cases q : dctOf W a with
  | none => simp only [q] at w; exact w.elim
  | some l =>
    simp only [q] at w
    split at w
    · rename_i k
      obtain ⟨y, rfl, ry⟩ := one_of rs
      split at w
      · rename_i hk
        obtain ⟨p, rfl, g0, g1⟩ := get_at c rx q ry hk
        cases z : getK l k with
        | none => rw [z] at w; exact .inl ⟨p, y, none, rfl, rfl, g0 z, w.ok c (.d .non)⟩
        | some u =>
          rw [z] at w
          obtain ⟨v, g2, r2⟩ := g1 u z
          exact .inl ⟨p, y, some v, rfl, rfl, g2, w.ok c r2⟩
      · exact w.elim
    · rename_i k zz
      obtain ⟨y, y2, rfl, ry, ry2⟩ := two_of rs
      split at w
      · rename_i hk
        obtain ⟨p, rfl, g0, g1⟩ := get_at c rx q ry hk
        cases z : getK l k with
        | none => rw [z] at w; exact .inr ⟨p, y, y2, none, rfl, rfl, g0 z, w.ok c ry2⟩
        | some u =>
          rw [z] at w
          obtain ⟨v, g2, r2⟩ := g1 u z
          exact .inr ⟨p, y, y2, some v, rfl, rfl, g2, w.ok c r2⟩
      · exact w.elim
    · exact w.elim
theorem m_dpop : MethD K TB (rDPop K.w) dpopM := fun E ws G H W x xs a as Q c rx rs w => by
  unfold dpopM at w
  split at w
  · rename_i k
    obtain ⟨y, rfl, ry⟩ := one_of rs
    cases q : delIx W a k with
    | none => simp only [q] at w; exact w.elim
    | some z =>
      obtain ⟨u, W'⟩ := z
      simp only [q] at w
      obtain ⟨p, v, H', rfl, d, rv, g, c'⟩ := del_at c rx ry q
      exact ⟨p, y, v, H', rfl, .inl rfl, d, w v ws G H' g c' rv⟩
  · rename_i k zz
    obtain ⟨y, y2, rfl, ry, ry2⟩ := two_of rs
    cases q : delIx W a k with
    | none => simp only [q] at w; exact w.elim
    | some z =>
      obtain ⟨u, W'⟩ := z
      simp only [q] at w
      obtain ⟨p, v, H', rfl, d, rv, g, c'⟩ := del_at c rx ry q
      exact ⟨p, y, v, H', rfl, .inr ⟨y2, rfl⟩, d, w v ws G H' g c' rv⟩
  · exact w.elim
theorem m_setDf : MethD K TB (rSetDf K.w) setDfM := fun E ws G H W x xs a as Q c rx rs w => by
  unfold setDfM at w
  split at w
  · rename_i n k zz
    obtain ⟨y, y2, rfl, ry, ry2⟩ := two_of rs
    cases rx with
    | mu e =>
    rename_i p
    cases q : W[n]? with
    | none => simp only [q] at w; exact w.elim
    | some m =>
      cases m with
      | dct l =>
        simp only [q] at w
        split at w
        · rename_i hh
          obtain ⟨hk, hl⟩ := hh
          have hkd : kindOk l k = true := by
            simp only [okKey, Bool.and_eq_true] at hk
            exact hk.2
          obtain ⟨_, hm⟩ := c.ob n p _ e q (by simp)
          refine ⟨p, y, y2, rfl, rfl, ?_⟩
          rcases key_cases c ry hk with ⟨kk, rfl, rfl, ht⟩ | ⟨b, nk, rfl, rb, hn, hd, hnk, ht⟩
          · rcases hm with ⟨kvs, e1, rk⟩ | ⟨kvs, e1, rn, nl⟩
            · obtain ⟨g1, g2⟩ := vk_get kk rk
              refine .inl ⟨kvs, kk, e1, rfl, by rw [Paired.length rk]; exact hl, fun v hv => ?_, fun hv => ?_⟩
              · cases z : getK l (kD kk) with
                | none => rw [g1 z] at hv; cases hv
                | some u =>
                  rw [z] at w
                  obtain ⟨v', h1, h2⟩ := g2 u z
                  rw [h1] at hv
                  cases hv
                  exact w.ok c h2
              · cases z : getK l (kD kk) with
                | some u =>
                  obtain ⟨v', h1, h2⟩ := g2 u z
                  rw [h1] at hv
                  cases hv
                | none =>
                  rw [z] at w
                  exact w _ _ _ _ (Gr.put e ⟨_, e1, nf_dK⟩) (c.put e q (by simp) (.inl ⟨_, upd_same, vk_put ry2 rk⟩)) ry2
            · exact absurd hkd (vn_kind rn nl ht)
          · rcases hm with ⟨kvs, e1, rk⟩ | ⟨kvs, e1, rn, nl⟩
            · obtain ⟨rfl, rfl⟩ := vk_kind rk hkd ht
              refine .inr ⟨[], nk, b, .inr ⟨e1, rfl⟩, (fun _ z => nomatch z), rfl, hnk, hd, hl, (fun v hv => nomatch hv), fun hv => ?_⟩
              exact w _ _ _ _ (Gr.put e ⟨_, e1, nf_dK⟩) (c.put e q (by simp) (.inr ⟨_, upd_same, vn_put hn hd rb ry2 .nil, put_ne⟩)) ry2
            · obtain ⟨g1, g2⟩ := vn_get hn rn
              refine .inr ⟨kvs, nk, b, .inl e1, nk_all c.g rn, rfl, hnk, hd, by rw [Paired.length rn]; exact hl, fun v hv => ?_, fun hv => ?_⟩
              · cases z : getK l k with
                | none => rw [g1 z] at hv; cases hv
                | some u =>
                  rw [z] at w
                  obtain ⟨v', h1, h2⟩ := g2 u z
                  rw [h1] at hv
                  cases hv
                  exact w.ok c h2
              · cases z : getK l k with
                | some u =>
                  obtain ⟨v', h1, h2⟩ := g2 u z
                  rw [h1] at hv
                  cases hv
                | none =>
                  rw [z] at w
                  exact w _ _ _ _ (Gr.put e ⟨_, e1, nf_dN⟩) (c.put e q (by simp) (.inr ⟨_, upd_same, vn_put hn hd rb ry2 rn, put_ne⟩)) ry2
        · exact w.elim
      | _ => simp only [q] at w; exact w.elim
  · exact w.elim
theorem lstMu_at {ws : List Addr} {G H : Hp} {W : Ms} {x : V} {a : Vl} {n : Nat} {l : List Vl} (c : Cf K TB ws G H W) (r : RpV K ws G x a) (h : lstMu W a = some (n, l)) :
    ∃ p vs, x = .ref p ∧ H p = some (.lst vs) ∧ RpVs K ws G vs l ∧ ∀ vs' l', RpVs K ws G vs' l' → Gr ws G H ws G (upd H p (.lst vs')) ∧ Cf K TB ws G (upd H p (.lst vs')) (W.set n (.lst l')) := by
  unfold lstMu at h
  cases r with
  | d _ => cases h
  | @mu p k e =>
    cases q : W[k]? with
    | none => simp only [q] at h; cases h
    | some m =>
      cases m with
      | lst l1 =>
        simp only [q] at h
        cases h
        obtain ⟨_, vs, e1, rl⟩ := c.ob n p _ e q (by simp)
        exact ⟨p, vs, rfl, e1, rl, fun vs' l' r' => ⟨Gr.put e ⟨_, e1, nf_lst⟩, c.put e q (by simp) ⟨vs', upd_same, r'⟩⟩⟩
      | _ => simp only [q] at h; cases h
theorem m_app : MethD K TB rAppend appM := fun E ws G H W x xs a as Q c rx rs w => by
  unfold appM at w
  cases q : lstMu W a with
  | none => simp only [q] at w; exact w.elim
  | some z =>
    obtain ⟨n, l⟩ := z
    simp only [q] at w
    split at w
    · obtain ⟨y, rfl, ry⟩ := one_of rs
      split at w
      · rename_i hl
        obtain ⟨p, vs, rfl, e, rv, f⟩ := lstMu_at c rx q
        obtain ⟨g, c'⟩ := f _ _ (Paired.app rv (.cons ry .nil))
        exact ⟨p, vs, y, rfl, rfl, e, by rw [Paired.length rv]; exact hl, w _ _ _ _ g c' (.d .non)⟩
      · exact w.elim
    · exact w.elim
def rExtA (K : PySem.W.Frag) : V → List V → Hp → VK → Prop := fun x xs H Q => rExtend x xs H Q ∨ rExtT K x xs H Q
theorem mtExt {X : Cx} (K : PySem.W.Frag) (hK : X.K = K := by rfl) : MtR X "list.extend" (rExtA K) := MtR.or (id := "list.extend") mt_extend (mt_extendT K hK)
theorem m_ext : MethD K TB (rExtA K.K) extM := fun E ws G H W x xs a as Q c rx rs w => by
  unfold extM at w
  cases q : lstMu W a with
  | none => simp only [q] at w; exact w.elim
  | some z =>
    obtain ⟨n, l⟩ := z
    simp only [q] at w
    split at w
    · rename_i b
      obtain ⟨y, rfl, ry⟩ := one_of rs
      cases q2 : seqOf W b with
      | none => simp only [q2] at w; exact w.elim
      | some r =>
        simp only [q2] at w
        split at w
        · rename_i hl
          obtain ⟨p, vs, rfl, e, rv, f⟩ := lstMu_at c rx q
          unfold seqOf at q2
          cases q3 : lstOf W b with
          | some l2 =>
            rw [q3] at q2
            cases q2
            obtain ⟨p2, us, rfl, e2, ru⟩ := lst_at c ry q3
            obtain ⟨g, c'⟩ := f _ _ (Paired.app rv ru)
            exact .inl ⟨p, p2, vs, us, rfl, rfl, e, e2, by rw [Paired.length rv, Paired.length ru]; exact hl, w _ _ _ _ g c' (.d .non)⟩
          | none =>
            rw [q3] at q2
            cases q4 : tupOf b with
            | none => simp [q4] at q2
            | some l' =>
              simp [q4] at q2
              subst q2
              obtain ⟨p2, us, rfl, _, hs, ru⟩ := tup_rp c ry q4
              obtain ⟨g, c'⟩ := f _ _ (Paired.app rv ru.vs)
              exact .inr ⟨p, p2, vs, us, rfl, rfl, e, hs, by rw [Paired.length rv, Paired.length (RpL.vs (ws := ws) ru)]; exact hl, w _ _ _ _ g c' (.d .non)⟩
        · exact w.elim
    · exact w.elim
theorem paired_take {α β : Type} {F : α → β → Prop} : ∀ {l : List α} {r : List β} (n : Nat), Paired F l r → Paired F (l.take n) (r.take n)
  | _, _, _, .nil => by simpa using .nil
  | _, _, 0, .cons _ _ => .nil
  | _, _, n + 1, .cons a t => .cons a (paired_take n t)
theorem paired_drop {α β : Type} {F : α → β → Prop} : ∀ {l : List α} {r : List β} (n : Nat), Paired F l r → Paired F (l.drop n) (r.drop n)
  | _, _, _, .nil => by simpa using .nil
  | _, _, 0, .cons a t => .cons a t
  | _, _, n + 1, .cons _ t => paired_drop n t
theorem paired_erase {α β : Type} {F : α → β → Prop} : ∀ {l : List α} {r : List β} (n : Nat), Paired F l r → Paired F (l.eraseIdx n) (r.eraseIdx n)
  | _, _, _, .nil => by simpa using .nil
  | _, _, 0, .cons _ t => t
  | _, _, n + 1, .cons a t => .cons a (paired_erase n t)
theorem m_pop : MethD K TB (fun x xs H Q => rPop x xs H Q ∨ rPopAt x xs H Q) popM := fun E ws G H W x xs a as Q c rx rs w => by
  unfold popM at w
  cases q : lstMu W a with
  | none => simp only [q] at w; exact w.elim
  | some z =>
    obtain ⟨n, l⟩ := z
    simp only [q] at w
    obtain ⟨p, vs, rfl, e, rv, f⟩ := lstMu_at c rx q
    split at w
    · cases rs
      cases z : l[l.length - 1]? with
      | none => simp only [z] at w; exact w.elim
      | some y =>
        simp only [z] at w
        obtain ⟨u, h1, h2⟩ := Paired.at' rv z
        have rd : RpVs K ws G vs.dropLast l.dropLast := by
          rw [List.dropLast_eq_take, List.dropLast_eq_take, Paired.length rv]
          exact paired_take _ rv
        obtain ⟨g, c'⟩ := f _ _ rd
        exact .inl ⟨p, vs, u, rfl, rfl, e, by rw [Paired.length rv]; exact h1, w _ _ _ _ g c' h2⟩
    · rename_i i
      obtain ⟨y, rfl, ry⟩ := one_of rs
      cases ry with
      | d ry =>
      cases ry
      split at w
      · rename_i hi
        cases z : seqIndex? i l.length with
        | none => simp only [z] at w; exact w.elim
        | some k =>
          simp only [z] at w
          cases z2 : l[k]? with
          | none => simp only [z2] at w; exact w.elim
          | some y =>
            simp only [z2] at w
            obtain ⟨u, h1, h2⟩ := Paired.at' rv z2
            obtain ⟨g, c'⟩ := f _ _ (paired_erase k rv)
            exact .inr ⟨p, vs, i, k, u, rfl, rfl, e, hi.1, hi.2, by rw [Paired.length rv]; exact z, h1, w _ _ _ _ g c' h2⟩
      · exact w.elim
    · exact w.elim
end
end DL

set_option Elab.async false
set_option linter.all false
set_option maxRecDepth 100000
set_option maxHeartbeats 4000000
/-! ## cuts, texts written, chains, fields changed -/
namespace DL
open PySem PySem.Spec PyProof.Rows L2
/-! ### cuts -/
def cutL {α : Type} (xs : List α) (lo hi : Option Int) : List α := (xs.drop (HT.sIx xs.length 0 lo)).take (HT.sIx xs.length xs.length hi - HT.sIx xs.length 0 lo)
def lstSq (W : Ms) : Vl → Option (List Vl)
  | .d (.lstK l) => some (l.map Vl.d)
  | x => lstOf W x
def slD (W : Ms) (x : Vl) (lo hi : Option Int) : Res Vl := match lstSq W x with
  | some l => mkLst (cutL l lo hi) W
  | none => (match tupOf x with
    | some l => if HT.sIx l.length 0 lo = 0 ∧ HT.sIx l.length l.length hi = l.length then .ok x W else mkTup (cutL (l.map Vl.d) lo hi) W
    | none => (match strOf x with
      | some s => if s.length ≤ 1000000 then .ok (.d (.str (cutS s lo hi))) W else .stuck
      | none => .stuck))
abbrev FO := Ev → Ms → Res (Option Int)
def pNo : FO := fun _ W => .ok none W
def pSome (f : FE) : FO := fun ρ W => (f ρ W).bind fun x W1 => match intOf x with
  | some i => .ok (some i) W1
  | none => .stuck
def eSl (f : FE) (lo hi : FO) : FE := fun ρ W => (f ρ W).bind fun x W1 => (lo ρ W1).bind fun l W2 => (hi ρ W2).bind fun h W3 => slD W3 x l h
def rSlAll (K : PySem.W.Frag) : V → Option Int → Option Int → Hp → VK → Prop := fun x lo hi H Q => rSlL K x lo hi H Q ∨ rSlA K x lo hi H Q ∨ rSlS x lo hi H Q
theorem slAll {X : Cx} (K : PySem.W.Frag) (hK : X.K = K := by rfl) : SlR X (rSlAll K) := by
  subst hK
  intro pins s σ H x v vl vu lo hi sl Q I rx hs pl pu q
  rcases q with q | q | q
  · exact sl_list pins s σ H x v vl vu lo hi sl Q I rx hs pl pu q
  · exact sl_tupA pins s σ H x v vl vu lo hi sl Q I rx hs pl pu q
  · exact sl_str pins s σ H x v vl vu lo hi sl Q I rx hs pl pu q
/-! ### texts written -/
def fmtD (W : Ms) (x : Vl) : Res Vl := match strOf x with
  | some s => if s.length ≤ 1000000 then .ok x W else .stuck
  | none => (match intOf x with
    | some i => if i.natAbs.log2 < 1920 then .ok (.d (.str (toString i))) W else .stuck
    | none => .stuck)
def eFmt (f : FE) : FE := eUn fmtD f
def fJs : List FE → Str → Ev → Ms → Res Str
  | [], acc, _, W => .ok acc W
  | f :: fs, acc, ρ, W => (f ρ W).bind fun x W1 => match strOf x with
    | some y => if (acc ++ y).length ≤ sizeLine then fJs fs (acc ++ y) ρ W1 else .stuck
    | none => .stuck
def eJoin (fs : List FE) : FE := fun ρ W => (fJs fs Str.empty ρ W).bind fun s W1 => .ok (.d (.str s)) W1
/-! ### a < b < c -/
def eChain (g g' : Ms → Vl → Vl → Res Vl) (fa fb fc : FE) : FE := fun ρ W => (fa ρ W).bind fun x W1 => (fb ρ W1).bind fun y W2 => (g W2 x y).bind fun z W3 => match blOf z with
  | some k => if k = true then (fc ρ W3).bind fun w W4 => g' W4 y w else .ok (.d (.bl false)) W3
  | none => .stuck
/-! ### e.f op= v -/
def insMu (W : Ms) (x : Vl) : Option (Addr × List (Str × Vl)) := match x with
  | .mu n => (match W[n]? with
    | some (.ins C l) => some (C, l)
    | _ => none)
  | _ => none
def sFldAugD (C : Addr) (f : Str) (fx : FE) (g : Ms → Vl → Vl → Res Vl) (fy : FE) : FS := fun ρ W => (fx ρ W).bindS fun x W1 => match insMu W1 x with
  | some (C', l) => if C' = C then (match l.lookup f with
    | some v => ((fy ρ W1).bindS fun y W2 => (g W2 v y).bindS fun z W3 => match setFld C f W3 z x with
      | some W4 => .nx ρ W4
      | none => .stuck)
    | none => .stuck) else .stuck
  | none => .stuck
section
variable {K : Fr} {TB : List (Addr × Str)} {E : XK}
abbrev SO (K : Fr) (TB : List (Addr × Str)) (E : XK) (t : TO) (f : FO) : Prop := Snd K TB (fun _ _ _ b x => b = x) E t f
theorem s_po0 : SO K TB E tNoPart pNo := fun σ ws G H ρ W Q e c w => w.ok c rfl
theorem s_po {te : TE} {f : FE} (h : SE K TB E te f) : SO K TB E (tPart te) (pSome f) := fun σ ws G H ρ W Q e c w => by
  refine h.go (R := fun _ _ _ b x => b = x) e c w fun x a W1 ws1 G1 H1 g1 c1 r1 w1 => ?_
  cases q : intOf a with
  | none => rw [q] at w1; exact w1.elim
  | some i =>
    rw [q] at w1
    exact ⟨i, intOf_at r1 q, w1.ok c1 rfl⟩
theorem cut_rel {α β : Type} {F : α → β → Prop} {l : List α} {r : List β} (h : Paired F l r) (lo hi : Option Int) : Paired F (cutL l lo hi) (cutL r lo hi) := by
  unfold cutL
  rw [Paired.length h]
  exact paired_take _ (paired_drop _ h)
theorem lstSq_at {ws : List Addr} {G H : Hp} {W : Ms} {v : V} {x : Vl} {l : List Vl} (c : Cf K TB ws G H W) (r : RpV K ws G v x) (h : lstSq W x = some l) : ∃ a vs, v = .ref a ∧ SqL K.K H a vs ∧ RpVs K ws G vs l := by
  unfold lstSq at h
  split at h
  · cases h
    cases r with
    | d r =>
      cases r with
      | lstK e rl => exact ⟨_, _, rfl, (Rds.of c.g (K := K)).L _ _ e, rl.vs⟩
  · obtain ⟨a, vs, e, h1, h2⟩ := lst_at c r h
    exact ⟨a, vs, e, SqL.of h1, h2⟩
theorem sl_at {ws : List Addr} {G H : Hp} {W : Ms} {x : V} {a : Vl} {lo hi : Option Int} {Q : VK} (c : Cf K TB ws G H W) (rx : RpV K ws G x a) (w : Wish K TB (RV K) E ws G H Q (slD W a lo hi)) : rSlAll K.K x lo hi H Q := by
  unfold slD at w
  cases q : lstSq W a with
  | some l =>
    simp only [q] at w
    obtain ⟨p, vs, rfl, e, rv⟩ := lstSq_at c rx q
    exact .inl ⟨p, vs, rfl, e, (mk_lst c (cut_rel rv lo hi) w).2⟩
  | none =>
    simp only [q] at w
    cases q2 : tupOf a with
    | some l =>
      simp only [q2] at w
      obtain ⟨p, vs, rfl, _, hs, rl⟩ := tup_rp c rx q2
      have rv := RpL.vs (ws := ws) rl
      have hl : vs.length = l.length := by rw [Paired.length rv, List.length_map]
      refine .inr (.inl ⟨p, vs, rfl, hs, fun hh => ?_, fun hh => ?_⟩)
      · rw [hl] at hh
        rw [if_pos hh] at w
        exact w.ok c rx
      · rw [hl] at hh
        rw [if_neg hh] at w
        exact (mk_tup c (cut_rel rv lo hi) w).2
    | none =>
      simp only [q2] at w
      cases q3 : strOf a with
      | none => simp only [q3] at w; exact w.elim
      | some s =>
        simp only [q3] at w
        split at w
        · rename_i hl
          cases strOf_at rx q3
          exact .inr (.inr ⟨s, rfl, mil hl, w.ok c (.d (.str _))⟩)
        · exact w.elim
theorem s_sl {te : TE} {tl th : TO} {f : FE} {lo hi : FO} (h : SE K TB E te f) (hl : SO K TB E tl lo) (hh : SO K TB E th hi) : SE K TB E (tSl (rSlAll K.K) te tl th) (eSl f lo hi) := by
  intro σ ws G H ρ W Q e c w
  refine h.go (R := RV K) e c w fun x a W1 ws1 G1 H1 g1 c1 r1 w1 => ?_
  refine hl.go (R := RV K) (e.up g1) c1 w1 fun l l' W2 ws2 G2 H2 g2 c2 r2 w2 => ?_
  refine hh.go (R := RV K) ((e.up g1).up g2) c2 w2 fun u u' W3 ws3 G3 H3 g3 c3 r3 w3 => ?_
  subst r2 r3
  exact sl_at c3 (g3.rv (g2.rv r1)) w3
theorem s_fmt {te : TE} {f : FE} (h : SE K TB E te f) : SE K TB E (tFmt te) (eFmt f) := by
  intro σ ws G H ρ W Q e c w
  refine h.go (R := RV K) e c w fun x a W1 ws1 G1 H1 g1 c1 r1 w1 => ?_
  unfold fmtD at w1
  cases q : strOf a with
  | some s =>
    simp only [q] at w1
    split at w1
    · rename_i hl
      cases strOf_at r1 q
      exact .inl ⟨s, rfl, mil hl, w1.ok c1 r1⟩
    · exact w1.elim
  | none =>
    simp only [q] at w1
    cases q2 : intOf a with
    | none => simp only [q2] at w1; exact w1.elim
    | some i =>
      simp only [q2] at w1
      split at w1
      · rename_i hl
        exact .inr ⟨i, intOf_at r1 q2, hl, w1.ok c1 (.d (.str _))⟩
      · exact w1.elim
theorem s_js : ∀ {ts : List TE} {fs : List FE} (acc : Str), Paired (SE K TB E) ts fs → Snd K TB (fun _ _ _ b x => b = x) E (tJs ts acc) (fJs fs acc)
  | _, _, acc, .nil => fun σ ws G H ρ W Q e c w => w.ok c rfl
  | _, _, acc, .cons h t => fun σ ws G H ρ W Q e c w => by
    refine h.go (R := fun _ _ _ b x => b = x) e c w fun x a W1 ws1 G1 H1 g1 c1 r1 w1 => ?_
    cases q : strOf a with
    | none => simp only [q] at w1; exact w1.elim
    | some y =>
      simp only [q] at w1
      split at w1
      · rename_i hl
        exact ⟨y, strOf_at r1 q, hl, s_js (acc ++ y) t σ ws1 G1 H1 _ W1 Q (e.up g1) c1 w1⟩
      · exact w1.elim
theorem s_join {ts : List TE} {fs : List FE} (h : Paired (SE K TB E) ts fs) : SE K TB E (fun σ H Q => tJs ts Str.empty σ H fun out H1 => Q (.str out) H1) (eJoin fs) := by
  intro σ ws G H ρ W Q e c w
  refine (s_js Str.empty h).go (R := RV K) e c w fun x a W1 ws1 G1 H1 g1 c1 r1 w1 => ?_
  subst r1
  exact w1.ok c1 (.d (.str _))
theorem blOf_at {ws : List Addr} {G : Hp} {v : V} {x : Vl} {b : Bool} (r : RpV K ws G v x) (h : blOf x = some b) : v = .bl b := by
  cases x with
  | mu _ => cases h
  | d x =>
    cases r with
    | d r =>
    cases r with
    | bl b => cases h; rfl
    | _ => cases h
theorem s_chain {r r' : R2} {g g' : Ms → Vl → Vl → Res Vl} {ta tb tc : TE} {fa fb fc : FE} (hg : OpD K TB r g) (hg' : OpD K TB r' g') (ha : SE K TB E ta fa) (hb : SE K TB E tb fb) (hc : SE K TB E tc fc) : SE K TB E (tChain r r' ta tb tc) (eChain g g' fa fb fc) := by
  intro σ ws G H ρ W Q e c w
  refine ha.go (R := RV K) e c w fun x a W1 ws1 G1 H1 g1 c1 r1 w1 => ?_
  refine hb.go (R := RV K) (e.up g1) c1 w1 fun y b W2 ws2 G2 H2 g2 c2 r2 w2 => ?_
  refine hg E _ _ _ _ _ _ _ _ _ c2 (g2.rv r1) r2 ?_
  cases q : g W2 a b with
  | stuck => rw [q] at w2; exact w2
  | exc C W4 => rw [q] at w2; exact fun ws' G' H' g' c' => w2 ws' G' H' g' c'
  | ok z W3 =>
    rw [q] at w2
    intro zv ws3 G3 H3 g3 c3 r3
    simp only [Res.bind_ok] at w2
    cases q2 : blOf z with
    | none => simp only [q2] at w2; exact w2.elim
    | some k =>
      simp only [q2] at w2
      have w2' := w2.up g3
      refine ⟨k, blOf_at r3 q2, ?_⟩
      cases k with
      | false => exact w2'.ok c3 (.d (.bl false))
      | true =>
        refine hc.go (R := RV K) (((e.up g1).up g2).up g3) c3 w2' fun u d W4 ws4 G4 H4 g4 c4 r4 w4 => ?_
        exact hg' E _ _ _ _ _ _ _ _ _ c4 (g4.rv (g3.rv r2)) r4 w4
theorem insMu_at {ws : List Addr} {G H : Hp} {W : Ms} {x : V} {a : Vl} {C : Addr} {l : List (Str × Vl)} (c : Cf K TB ws G H W) (r : RpV K ws G x a) (h : insMu W a = some (C, l)) :
    ∃ p n dx fs, x = .ref p ∧ a = .mu n ∧ ws[n]? = some p ∧ H p = some (.ins C dx fs) ∧ ClsF K C (fs.map (·.1)) ∧ RpVF K ws G fs l := by
  unfold insMu at h
  cases r with
  | d _ => cases h
  | @mu p k e =>
    cases q : W[k]? with
    | none => simp only [q] at h; cases h
    | some m =>
      cases m with
      | ins C1 l1 =>
        simp only [q] at h
        cases h
        obtain ⟨_, dx, fs, e1, k1, rf⟩ := c.ob k p _ e q (by simp)
        exact ⟨p, k, dx, fs, rfl, rfl, e, e1, k1, rf⟩
      | _ => simp only [q] at h; cases h
theorem lookup_at {ws : List Addr} {G : Hp} {f : Str} : ∀ {fs : List (Str × V)} {l : List (Str × Vl)} {z : Vl}, RpVF K ws G fs l → l.lookup f = some z → ∃ v, fs.lookup f = some v ∧ RpV K ws G v z
  | _, _, _, .nil, h => nomatch h
  | (f1, v1) :: fs, (f2, z2) :: l, z, .cons ⟨h1, h2⟩ t, h => by
    obtain rfl : f2 = f1 := h1
    rw [List.lookup_cons] at h
    rw [List.lookup_cons]
    by_cases q : f == f2
    · rw [q] at h ⊢
      cases h
      exact ⟨v1, rfl, h2⟩
    · rw [Bool.not_eq_true] at q
      rw [q] at h ⊢
      exact lookup_at t h
/-- e.f op= v -/
theorem s_fldaug {C : Addr} {f : Str} {r : TIp} {ta tv : TE} {g : Ms → Vl → Vl → Res Vl} {fx fy : FE} (hn : L2.NoAttr K.K C f) (hg : OpD K TB r g) (hx : SE K TB E ta fx) (hy : SE K TB E tv fy) : SS K TB E (sFldAug K.K ta tv r f) (sFldAugD C f fx g fy) := fun σ ws G H ρ W Dn e c w =>
  hx.goS e c w fun u x W1 ws1 G1 H1 g1 c1 r1 w1 => by
    cases q : insMu W1 x with
    | none => simp only [q] at w1; exact w1.elim
    | some z =>
      obtain ⟨C', l⟩ := z
      simp only [q] at w1
      obtain ⟨p, n, dx, fs, rfl, rfl, ea, e1, kc, rf⟩ := insMu_at c1 r1 q
      split at w1
      · rename_i hc
        subst hc
        cases q2 : l.lookup f with
        | none => simp only [q2] at w1; exact w1.elim
        | some zv =>
          simp only [q2] at w1
          obtain ⟨v, hv, rz⟩ := lookup_at rf q2
          refine ⟨p, C', dx, fs, v, rfl, e1, kc.cl, hn, hv, ?_⟩
          refine hy.goS (e.up g1) c1 w1 fun y dy W2 ws2 G2 H2 g2 c2 r2 w2 => ?_
          refine hg E _ _ _ _ _ _ _ _ _ c2 (g2.rv rz) r2 ?_
          cases q3 : g W2 zv dy with
          | stuck => rw [q3] at w2; exact w2
          | exc C W4 => rw [q3] at w2; exact fun ws' G' H' g' c' => w2 ws' G' H' g' c'
          | ok zz W3 =>
            rw [q3] at w2
            intro b ws3 G3 H3 g3 c3 r3
            simp only [Res.bindS_ok] at w2
            cases q4 : setFld C' f W3 zz (.mu n) with
            | none => simp only [q4] at w2; exact w2.elim
            | some W4 =>
              simp only [q4] at w2
              have w2' := WishS.up w2 g3
              have ea3 : ws3[n]? = some p := g3.at (g2.at ea)
              unfold setFld at q4
              cases q5 : W3[n]? with
              | none => simp only [q5] at q4; cases q4
              | some m =>
                cases m with
                | ins C2 l2 =>
                  simp only [q5] at q4
                  split at q4
                  · rename_i hc
                    cases q4
                    obtain ⟨rfl, hl⟩ := hc
                    obtain ⟨hg0, dx2, fs2, e2, k2, rf2⟩ := c3.ob n p _ ea3 q5 (by simp)
                    refine ⟨dx2, fs2, e2, by rw [Paired.length rf2]; exact hl, ?_⟩
                    refine w2' σ ws3 G3 _ (Gr.put ea3 ⟨_, e2, nf_ins⟩) (c3.put ea3 q5 (by simp) ⟨dx2, _, upd_same, ⟨k2.cl, fun h hh => ?_⟩, putV_rp r3 rf2⟩) (((e.up g1).up g2).up g3)
                    rcases putF_names hh with z | z
                    · rw [z]; exact hn
                    · exact k2.no h z
                  · cases q4
                | _ => simp only [q5] at q4; cases q4
      · exact w1.elim
end
end DL

set_option Elab.async false
set_option linter.all false
set_option maxRecDepth 100000
set_option maxHeartbeats 4000000
/-! ## dict comprehensions, what may not be refused, defs with defaults -/
namespace DL
open PySem PySem.Spec PyProof.Rows L2
open Classical in
noncomputable def dcL (kp : Ms → Prop) (fg : FG) (t : FT) (fk fv : FE) (ρ : Ev) : List (D × Vl) → List Vl → Ms → Res (List (D × Vl))
  | acc, [], W => if kp W then .ok acc W else .stuck
  | acc, x :: xs, W => if kp W then (match fg x ρ with
    | some ρ1 => (t ρ1 W).bind fun b W1 => if b = true then (fk ρ1 W1).bind fun k W2 => (fv ρ1 W2).bind fun v W3 => (match keyV k with
        | some kk => dcL kp fg t fk fv ρ (putKD kk v acc) xs W3
        | none => .stuck) else dcL kp fg t fk fv ρ acc xs W1
    | none => .stuck) else .stuck
where keyV : Vl → Option D
  | .d (.int i) => some (.int i)
  | .d (.str i) => some (.str i)
  | _ => none
noncomputable def dcB (fg : FG) (t : FT) (fk fv : FE) (vs : List Nat) (ρ : Ev) (it : Itm) (W1 : Ms) : Res (List (D × Vl)) := if it.xs.length ≤ 1000000 then dcL it.kp fg t fk fv (wipeE ρ vs) [] it.xs W1 else .stuck
def mkDct (l : List (D × Vl)) (W : Ms) : Res Vl := match dctD l with
  | some r => .ok (.d (.dct r)) W
  | none => .stuck
def mkDctM (l : List (D × Vl)) (W : Ms) : Res Vl := .ok (.mu W.length) (W ++ [.dct l])
noncomputable def eDc (fi : FI) (fg : FG) (t : FT) (fk fv : FE) (vs : List Nat) : FE := fun ρ W => (fi ρ W).bind fun it W1 => (dcB fg t fk fv vs ρ it W1).bind mkDct
noncomputable def eDcM (fi : FI) (fg : FG) (t : FT) (fk fv : FE) (vs : List Nat) : FE := fun ρ W => (fi ρ W).bind fun it W1 => (dcB fg t fk fv vs ρ it W1).bind mkDctM
/-- nothing is refused -/
def nxE {α : Type} (f : Ev → Ms → Res α) : Ev → Ms → Res α := fun ρ W => match f ρ W with
  | .ok x W1 => .ok x W1
  | _ => .stuck
section
variable {K : Fr} {TB : List (Addr × Str)} {E : XK} {σ : L2.St} {ρ : Ev}
theorem s_nx {α β : Type} {R : List Addr → Hp → Hp → β → α → Prop} {t : L2.St → Hp → (β → Hp → Prop) → Prop} {f : Ev → Ms → Res α} {E' : XK} (h : Snd K TB R E' t f) : Snd K TB R E t (nxE f) := by
  intro σ ws G H ρ W Q e c w
  refine h σ ws G H ρ W Q e c ?_
  unfold nxE at w
  cases q : f ρ W with
  | ok x W1 => rw [q] at w; exact w
  | exc C W1 => rw [q] at w; exact w.elim
  | stuck => rw [q] at w; exact w
theorem dcL_key {k : Vl} {kk : D} {ws : List Addr} {G : Hp} {y : V} (h : dcL.keyV k = some kk) (r : RpV K ws G y k) : ∃ z : Key, y = kV z ∧ kk = kD z := by
  cases k with
  | mu _ => cases h
  | d k =>
    cases r with
    | d r =>
    cases r with
    | int i => cases h; exact ⟨.inl i, rfl, rfl⟩
    | str i => cases h; exact ⟨.inr i, rfl, rfl⟩
    | _ => cases h
theorem dc_core {wi : TI} {g : TG} {tt : TT} {tk tv : TE} {fg : FG} {ft : FT} {fk fv : FE} {vs : List Nat} {J : It} {it : Itm} {ws1 : List Addr} {G1 H1 : Hp} {W1 : Ms} (hg : SG K TB vs g fg) (ht : ST K TB E tt ft) (hk : SE K TB E tk fk) (he : SE K TB E tv fv)
    {mk : List (D × Vl) → Ms → Res Vl} {Q : VK} (ok : ItOk K TB ws1 G1 H1 J it)
    (e1 : EnvR K ws1 G1 σ ρ) (c1 : Cf K TB ws1 G1 H1 W1) (w1 : Wish K TB (RV K) E ws1 G1 H1 Q ((dcB fg ft fk fv vs ρ it W1).bind mk))
    (end_ : ∀ (p : Addr) (ws2 : List Addr) (G2 H2 : Hp) (W2 : Ms) (xs : List (Key × V)) (as : List (D × Vl)), H1 p = none → Gr ws1 G1 H1 ws2 G2 H2 → Cf K TB ws2 G2 H2 W2 → G2 p = none → p ∉ ws2 → H2 p = some (.dK xs) → RpVK K ws2 G2 xs as →
      Wish K TB (RV K) E ws1 G1 H1 Q (mk as W2) → Q (.ref p) H2) : ∀ D, H1 D = none → ∃ W : Nat → Nat → Hp → Prop, (∃ m, W 0 m (upd H1 D (.dK []))) ∧ ∀ i m H, W i m H →
  (J.stop i H ∧ Q (.ref D) H) ∨ (J.go i H ∧ ∃ Nx : Hp → Prop, (∀ H', Nx H' → ∃ m', m' < m ∧ W (i + 1) m' H') ∧ ∀ x H', J.yld i H x H' → g x (L2.wipe σ vs) H' fun σ2 H2 => L2.wipe σ2 vs = L2.wipe σ vs ∧ tt σ2 H2 fun b H3 =>
    if b = true then tk σ2 H3 fun y H4 => tv σ2 H4 fun z H5 => ∃ kvs k, y = kV k ∧ H5 D = some (.dK kvs) ∧ kvs.length < sizeLine ∧ Nx (upd H5 D (.dK (putK kvs k z))) else Nx H3) := by
  intro p hp
  unfold dcB at w1
  by_cases hsz : it.xs.length ≤ 1000000
  · rw [if_pos hsz] at w1
    have hG1 := c1.gn hp
    refine ⟨fun i m H2 => i + m = it.xs.length ∧ ∃ ws2 G2 W2 xs as, Gr ws1 G1 H1 ws2 G2 H2 ∧ Cf K TB ws2 G2 H2 W2 ∧ G2 p = none ∧ p ∉ ws2 ∧ H2 p = some (.dK xs) ∧ xs.length ≤ i ∧ RpVK K ws2 G2 xs as ∧
        Wish K TB (RV K) E ws1 G1 H1 Q ((dcL it.kp fg ft fk fv (wipeE ρ vs) as (it.xs.drop i) W2).bind mk),
      ⟨it.xs.length, Nat.zero_add _, ws1, G1, W1, [], [], Gr.junk hp, c1.junk hp, hG1, c1.wn hp, upd_same, Nat.zero_le _, .nil, ?_⟩, ?_⟩
    · rw [List.drop_zero]
      exact w1
    rintro i m H2 ⟨hm, ws2, G2, W2, xs, as, g2, c2, n1, n2, hx, hxl, rx, w2⟩
    have e2 : EnvR K ws2 G2 (L2.wipe σ vs) (wipeE ρ vs) := (e1.up g2).wipe vs
    by_cases hl : it.xs.length ≤ i
    · rw [List.drop_of_length_le hl] at w2
      unfold dcL at w2
      split at w2
      · rename_i hk
        exact .inl ⟨((ok ws2 G2 H2 W2 g2.i c2 hk) i).1 hl, end_ p ws2 G2 H2 W2 xs as hp g2 c2 n1 n2 hx rx w2⟩
      · exact w2.elim
    · have hi' : i < it.xs.length := by omega
      rw [List.drop_eq_getElem_cons hi'] at w2
      unfold dcL at w2
      split at w2
      · rename_i hk0
        obtain ⟨go, yl⟩ := ((ok ws2 G2 H2 W2 g2.i c2 hk0) i).2 _ (List.getElem?_eq_getElem hi')
        cases z : fg it.xs[i] (wipeE ρ vs) with
        | none => simp only [z] at w2; exact w2.elim
        | some ρ3 =>
          simp only [z] at w2
          refine .inr ⟨go, fun H' => ∃ m', m' < m ∧ i + 1 + m' = it.xs.length ∧ ∃ ws4 G4 W4 xs4 as4, Gr ws1 G1 H1 ws4 G4 H' ∧ Cf K TB ws4 G4 H' W4 ∧ G4 p = none ∧ p ∉ ws4 ∧ H' p = some (.dK xs4) ∧ xs4.length ≤ i + 1 ∧ RpVK K ws4 G4 xs4 as4 ∧
            Wish K TB (RV K) E ws1 G1 H1 Q ((dcL it.kp fg ft fk fv (wipeE ρ vs) as4 (it.xs.drop (i + 1)) W4).bind mk), fun H' h => h, fun v H3 hy => ?_⟩
          obtain ⟨G3, g3, c3, r3⟩ := yl v H3 hy
          have keep : ∀ {ws' : List Addr} {G' H' : Hp}, Gr ws2 G2 H2 ws' G' H' → G' p = none ∧ p ∉ ws' ∧ H' p = some (.dK xs) := fun {ws' G' H'} gr => by
            refine ⟨?_, gr.nw p _ hx (fun _ z => nomatch z) n2, ?_⟩
            · rcases gr.nf p _ hx n1 n2 (fun _ z => nomatch z) with q | ⟨ys, q⟩
              · exact q
              · cases q
            · have e1 := gr.fr p _ hx n2 (fun _ z => nomatch z)
              exact e1
          refine hg v _ _ _ ρ3 ws2 G3 H3 W2 _ (e2.up g3) c3 r3 z fun σ3 e3 q3 => ⟨q3.trans (wipe_idem σ vs), ?_⟩
          have as_bind : ∀ {α β γ : Type} (r : Res α) (f : α → Ms → Res β) (k : β → Ms → Res γ), (r.bind f).bind k = r.bind fun x W => (f x W).bind k := fun r f k => by cases r <;> rfl
          rw [as_bind] at w2
          refine ht.goB (R := RV K) e3 c3 (g2.trans g3) w2 fun b b' W5 ws5 G5 H5 g5 c5 r5 w5 => ?_
          obtain rfl : b = b' := r5
          cases b
          · obtain ⟨k1, k2, k3⟩ := keep (g3.trans g5)
            refine iteF ?_
            simp only [Bool.false_eq_true, if_false] at w5
            exact ⟨m - 1, by omega, by omega, ws5, G5, W5, xs, as, (g2.trans g3).trans g5, c5, k1, k2, k3, by omega, Paired.imp (fun _ _ z => ⟨z.1, (g3.trans g5).rv z.2⟩) rx, w5⟩
          · refine iteT ?_
            simp only [if_true] at w5
            rw [as_bind] at w5
            refine hk.goB (R := RV K) (e3.up g5) c5 ((g2.trans g3).trans g5) w5 fun y dy W6 ws6 G6 H6 g6 c6 r6 w6 => ?_
            rw [as_bind] at w6
            refine he.goB (R := RV K) ((e3.up g5).up g6) c6 (((g2.trans g3).trans g5).trans g6) w6 fun u du W7 ws7 G7 H7 g7 c7 r7 w7 => ?_
            cases q : dcL.keyV dy with
            | none => simp only [q] at w7; exact w7.elim
            | some kk =>
              simp only [q] at w7
              obtain ⟨z2, rfl, rfl⟩ := dcL_key q r6
              obtain ⟨k1, k2, k3⟩ := keep (((g3.trans g5).trans g6).trans g7)
              have rx' : RpVK K ws7 G7 xs as := Paired.imp (fun _ _ z => ⟨z.1, (((g3.trans g5).trans g6).trans g7).rv z.2⟩) rx
              refine ⟨xs, z2, rfl, k3, mil' (by omega), m - 1, by omega, by omega, ws7, G7, W7, _, _, Gr.junkW ((((g2.trans g3).trans g5).trans g6).trans g7) hp, c7.junkW k1 k2 ⟨_, k3, plain_dK⟩, k1, k2, upd_same, ?_, vk_put r7 rx', w7⟩
              exact Nat.le_trans (length_putK xs z2 u) (Nat.succ_le_succ hxl)
      · exact w2.elim
  · rw [if_neg hsz] at w1
    exact w1.elim
theorem s_dc {wi : TI} {g : TG} {tt : TT} {tk tv : TE} {fi : FI} {fg : FG} {ft : FT} {fk fv : FE} {vs : List Nat} (hi : SI K TB E wi fi) (hg : SG K TB vs g fg) (ht : ST K TB E tt ft) (hk : SE K TB E tk fk) (he : SE K TB E tv fv) : SE K TB E (tDc wi g tt tk tv vs) (eDc fi fg ft fk fv vs) := by
  intro σ ws G H ρ W Q e c w
  refine hi.go (R := RV K) e c w fun J it W1 ws1 G1 H1 g1 c1 ok w1 => dc_core (wi := wi) hg ht hk he ok (e.up g1) c1 w1 fun p ws2 G2 H2 W2 xs as hp g2 c2 n1 n2 hx rx w2 => ?_
  unfold mkDct at w2
  cases q : dctD as with
  | none => rw [q] at w2; exact w2.elim
  | some l =>
    rw [q] at w2
    exact w2 _ ws2 (upd G2 p (.dK xs)) H2 (Gr.own g2 hp (c1.gn hp) n1) (c2.own n1 n2 hx) (.d (.dct (.inl upd_same) ((dctK_rp rx q).to (.of (same_upd n1)))))
theorem s_dcM {wi : TI} {g : TG} {tt : TT} {tk tv : TE} {fi : FI} {fg : FG} {ft : FT} {fk fv : FE} {vs : List Nat} (hi : SI K TB E wi fi) (hg : SG K TB vs g fg) (ht : ST K TB E tt ft) (hk : SE K TB E tk fk) (he : SE K TB E tv fv) : SE K TB E (tDc wi g tt tk tv vs) (eDcM fi fg ft fk fv vs) := by
  intro σ ws G H ρ W Q e c w
  refine hi.go (R := RV K) e c w fun J it W1 ws1 G1 H1 g1 c1 ok w1 => dc_core (wi := wi) hg ht hk he ok (e.up g1) c1 w1 fun p ws2 G2 H2 W2 xs as hp g2 c2 n1 n2 hx rx w2 => ?_
  unfold mkDctM at w2
  refine w2 _ (ws2 ++ [p]) G2 H2 (Gr.ownM g2 hp) (c2.ownM n1 n2 (by rw [hx]; simp) (.inl ⟨xs, hx, ?_⟩)) (.mu (at_end c2.len))
  exact Paired.imp (fun _ _ r => ⟨r.1, r.2.to (.of fun _ _ z => z) fun i b z => by
    rw [List.getElem?_append_left (List.getElem?_eq_some_iff.mp z).1]
    exact z⟩) rx
end
theorem FunD.okB {P : Program} {w : World} {K : Fr} {TB : List (Addr × Str)} {mg : Str → Option Value} {base : Heap} {x qual : Str} {params : Arguments} {body : List Stmt} {scope : Scope} {dvs : List V} {kws : List (Str × V)} {f : Addr} {fd : FuncData} {N ps : List Str} {k : Nat} {b : FS}
    (F : L2.FunD K.K x qual params body scope dvs kws f fd) (S : L2.FnScope N ps scope)
    (hbody : ∀ (cdv : Value) (A : Around) (outer : List Env) (s : Shared) (H : Hp) (E : XK), L2.Room k (A.deeper (envOfC qual scope s.heap.objs.size f cdv)) →
      ∃ t, L2.PSs (L2.cxOf (L2.CX P w) P w K.K mg base N qual scope f cdv A outer s H E) body t ∧ SS K TB E t b) : L2.FnOk P w K.K mg base (L2.CX P w) (k + 1) f fd ps (spD K TB (runB ps.length N.length b)) := by
  refine F.ok S (fun vs H Q E h => ?_) (fun cdv ar outer s H vs Q E hr h => ?_)
  · obtain ⟨ws, G, W, ds, c, r, w⟩ := h
    exact (Paired.length r).trans (runB_len w)
  · obtain ⟨ws, G, W, ds, c, r, w⟩ := h
    obtain ⟨t, h1, h2⟩ := hbody cdv ar outer s H E hr
    exact ⟨t, h1, body_ok h2 c r w⟩
theorem FunD.ok0 {P : Program} {w : World} {K : Fr} {TB : List (Addr × Str)} {mg : Str → Option Value} {base : Heap} {x qual : Str} {params : Arguments} {body : List Stmt} {scope : Scope} {dvs : List V} {kws : List (Str × V)} {f : Addr} {fd : FuncData} {N ps : List Str} {k : Nat} {b : FS}
    (F : L2.FunD K.K x qual params body scope dvs kws f fd) (S : L2.FnScope N ps scope)
    (hbody : ∀ (cdv : Value) (A : Around) (outer : List Env) (s : Shared) (H : Hp) (E : XK), L2.Room k (A.deeper (envOfC qual scope s.heap.objs.size f cdv)) →
      ∃ t, L2.PSs (L2.cxOf (L2.CX P w) P w K.K mg base N qual scope f cdv A outer s H E) body t ∧ SS K TB E t b) : L2.FnOk P w K.K mg base (L2.CX P w) (k + 1) f fd ps (spD K TB (run0 ps.length N.length b)) := by
  refine F.ok S (fun vs H Q E h => ?_) (fun cdv ar outer s H vs Q E hr h => ?_)
  · obtain ⟨ws, G, W, ds, c, r, w⟩ := h
    exact (Paired.length r).trans (run0_len w)
  · obtain ⟨ws, G, W, ds, c, r, w⟩ := h
    obtain ⟨t, h1, h2⟩ := hbody cdv ar outer s H E hr
    exact ⟨t, h1, body0_ok h2 c r w⟩
end DL

set_option Elab.async false
set_option linter.all false
set_option maxRecDepth 100000
set_option maxHeartbeats 4000000
namespace DL
open PySem PySem.Spec PyProof.Rows L2
def addI := arI fun i j => .int (i + j)
def subI := arI fun i j => .int (i - j)
theorem room65 {k : Nat} {A : Around} (r : Room k A) : A.units + 65 < cLine := by have := r.un; omega
theorem room16 {k : Nat} {A : Around} (r : Room k A) : A.units + 16 < cLine := by have := r.un; omega
section
variable {K : Fr} {TB : List (Addr × Str)}
theorem o_ipadd : OpD K TB (ipI fun i j => i + j) addI := o_arI (g := fun i j => .int (i + j)) fun _ _ _ => .int _
theorem o_ipsub : OpD K TB (ipI fun i j => i - j) subI := o_arI (g := fun i j => .int (i - j)) fun _ _ _ => .int _
theorem o_inadd : OpD K TB rAdd addI := o_arI (g := fun i j => .int (i + j)) fun _ _ _ => .int _
theorem o_insub : OpD K TB rSub subI := o_arI (g := fun i j => .int (i - j)) fun _ _ _ => .int _
/-- constants of the text's top: tuples of numbers and texts -/
theorem c_nil {G : Hp} : RpL K G [] [] := .nil
end
end DL

set_option Elab.async false
set_option linter.all false
set_option maxRecDepth 100000
set_option maxHeartbeats 4000000
/-! ## dict(x), texts -/
namespace DL
open PySem PySem.Spec PyProof.Rows L2
def rDctA (K : PySem.W.Frag) : List V → Hp → VK → Prop := fun xs H Q => (∃ (a : Addr) (kvs : List (Key × V)), xs = [.ref a] ∧ Rd H a (.dK kvs) ∧ ∀ p, H p = none → Q (.ref p) (upd H p (.dK kvs))) ∨
  ∃ (a : Addr) (ps : List Addr) (kvs : List (Key × V)), xs = [.ref a] ∧ SqL K H a (ps.map V.ref) ∧ Paired (fun p kv => SqT K H p [kV kv.1, kv.2]) ps kvs ∧ ∀ p, H p = none → Q (.ref p) (upd H p (.dK (mergeK [] kvs)))
theorem dictA {X : Cx} (K : PySem.W.Frag) (hc : X.calm = true := by rfl) (hK : X.K = K := by rfl) : CallR X (.type "dict") (rDctA K) := by
  subst hK
  intro pins s σ H xs us Q I r h
  rcases h with h | h
  · exact call_dictD pins s σ H xs us Q I r h
  · exact call_dictP hc pins s σ H xs us Q I r h
def isKeyS : D → Bool
  | .int _ => true
  | .str _ => true
  | _ => false
def prOf : List Vl → Option (List (D × Vl))
  | [] => some []
  | .d (.tup [k, v]) :: r => if isKeyS k = true then (prOf r).map ((k, .d v) :: ·) else none
  | _ => none
noncomputable def mergeD (acc l : List (D × Vl)) : List (D × Vl) := l.foldl (fun a p => putKD p.1 p.2 a) acc
noncomputable def dictSrc (W : Ms) (x : Vl) : Option (List (D × Vl)) := match dctOf W x with
  | some l => if (l.all fun p => isKeyS p.1) = true then some l else none
  | none => (match lstOf W x with
    | some l => if l.length ≤ 1000000 then (prOf l).map (mergeD []) else none
    | none => none)
noncomputable def dictF (W : Ms) (xs : List Vl) : Res Vl := match xs with
  | [x] => (match dictSrc W x with
    | some l => mkDct l W
    | none => .stuck)
  | _ => .stuck
noncomputable def dictM (W : Ms) (xs : List Vl) : Res Vl := match xs with
  | [x] => (match dictSrc W x with
    | some l => mkDctM l W
    | none => .stuck)
  | _ => .stuck
section
variable {K : Fr} {TB : List (Addr × Str)} {E : XK} {ws : List Addr} {G H : Hp} {W : Ms}
theorem mk_dct {Q : VK} {kvs : List (Key × V)} {l : List (D × Vl)} (c : Cf K TB ws G H W) (r : RpVK K ws G kvs l) (w : Wish K TB (RV K) E ws G H Q (mkDct l W)) : ∀ p, H p = none → Q (.ref p) (upd H p (.dK kvs)) := by
  intro p hp
  unfold mkDct at w
  cases q : dctD l with
  | none => rw [q] at w; exact w.elim
  | some l' =>
    rw [q] at w
    exact w _ ws _ _ (Gr.new c hp) (c.new hp) (.d (.dct (.inl upd_same) ((dctK_rp r q).to (.of (same_upd (c.gn hp))))))
theorem mk_dctM {Q : VK} {kvs : List (Key × V)} {l : List (D × Vl)} (c : Cf K TB ws G H W) (r : RpVK K ws G kvs l) (w : Wish K TB (RV K) E ws G H Q (mkDctM l W)) : ∀ p, H p = none → Q (.ref p) (upd H p (.dK kvs)) := by
  intro p hp
  unfold mkDctM at w
  refine w _ _ _ _ (Gr.newM c hp) (c.newM hp (.inl ⟨_, upd_same, ?_⟩)) (.mu (at_end c.len))
  exact Paired.imp (fun _ _ z => ⟨z.1, (Gr.newM (o := .dK kvs) c hp).rv z.2⟩) r
theorem merge_vk : ∀ {kvs more : List (Key × V)} {l m : List (D × Vl)}, RpVK K ws G kvs l → RpVK K ws G more m → RpVK K ws G (mergeK kvs more) (mergeD l m)
  | _, _, _, _, r, .nil => r
  | kvs, (k1, v1) :: more, l, (d1, y1) :: m, r, .cons ⟨h1, h2⟩ t => by
    obtain rfl : d1 = kD k1 := h1
    have z := merge_vk (kvs := putK kvs k1 v1) (l := putKD (kD k1) y1 l) (vk_put (k := k1) h2 r) t
    exact z
theorem pr_at : ∀ {vs : List V} {l : List Vl} {m : List (D × Vl)}, RpVs K ws G vs l → prOf l = some m → Same G H → ∃ (ps : List Addr) (kvs : List (Key × V)), vs = ps.map V.ref ∧ Paired (fun p kv => SqT K.K H p [kV kv.1, kv.2]) ps kvs ∧ RpVK K ws G kvs m
  | _, _, _, .nil, h, s => by cases h; exact ⟨[], [], rfl, .nil, .nil⟩
  | v :: vs, x :: l, m, .cons r t, h, s => by
    unfold prOf at h
    split at h
    · rename_i heq
      cases heq
    · rename_i k y r0 heq
      cases heq
      split at h
      · rename_i hk
        cases q : prOf l with
        | none => rw [q] at h; cases h
        | some m0 =>
          rw [q] at h
          cases h
          obtain ⟨ps, kvs, rfl, p1, p2⟩ := pr_at t q s
          cases r with
          | d r =>
          cases r with
          | @tup a vs2 _ e rl =>
          cases rl with
          | cons rk rl =>
          cases rl with
          | cons ry rl =>
          cases rl
          cases rk with
          | int i => exact ⟨a :: ps, (.inl i, _) :: kvs, rfl, .cons (SqT.of (s _ _ e)) p1, .cons ⟨rfl, .d ry⟩ p2⟩
          | str i => exact ⟨a :: ps, (.inr i, _) :: kvs, rfl, .cons (SqT.of (s _ _ e)) p1, .cons ⟨rfl, .d ry⟩ p2⟩
          | _ => cases hk
      · cases h
    · cases h
theorem dictSrc_at {v : V} {x : Vl} {l : List (D × Vl)} {Q : VK} (c : Cf K TB ws G H W) (r : RpV K ws G v x) (h : dictSrc W x = some l) (q : ∀ kvs, RpVK K ws G kvs l → ∀ p, H p = none → Q (.ref p) (upd H p (.dK kvs))) : rDctA K.K [v] H Q := by
  unfold dictSrc at h
  cases q0 : dctOf W x with
  | some l0 =>
    simp only [q0] at h
    split at h
    · rename_i hk
      cases h
      obtain ⟨a, rfl, hd⟩ := dct_at c r q0
      rcases hd with ⟨kvs, e, rk⟩ | ⟨kvs, e, rn, nl⟩
      · exact .inl ⟨a, kvs, rfl, e, q kvs rk⟩
      · exfalso
        cases rn with
        | nil => exact nl rfl
        | @cons p q' _ _ hh t =>
          obtain ⟨p1, b, p2⟩ := p
          obtain ⟨q1, q2⟩ := q'
          obtain ⟨⟨h0, h1, _⟩, _⟩ := hh
          simp only at h0 h1
          have hk2 : isKeyS q1 = true := by
            have := List.all_eq_true.mp hk (q1, q2) List.mem_cons_self
            exact this
          cases h0 with
          | tup _ _ => cases hk2
          | _ => simp [nkOf] at h1
    · cases h
  | none =>
    simp only [q0] at h
    cases q1 : lstOf W x with
    | none => simp only [q1] at h; cases h
    | some l0 =>
      simp only [q1] at h
      split at h
      · rw [Option.map_eq_some_iff] at h
        obtain ⟨m, hm, rfl⟩ := h
        obtain ⟨a, vs, rfl, e, rv⟩ := lst_at c r q1
        obtain ⟨ps, kvs, rfl, p1, p2⟩ := pr_at rv hm c.g
        exact .inr ⟨a, ps, kvs, rfl, SqL.of e, p1, q _ (merge_vk .nil p2)⟩
      · cases h
theorem o_dict : CallD K TB (rDctA K.K) dictF := fun E ws G H W xs as Q c r w => by
  unfold dictF at w
  split at w
  · rename_i x
    obtain ⟨v, rfl, r1⟩ := one_of r
    cases q : dictSrc W x with
    | none => simp only [q] at w; exact w.elim
    | some l =>
      simp only [q] at w
      exact dictSrc_at c r1 q fun kvs rk => mk_dct c rk w
  · exact w.elim
theorem o_dictM : CallD K TB (rDctA K.K) dictM := fun E ws G H W xs as Q c r w => by
  unfold dictM at w
  split at w
  · rename_i x
    obtain ⟨v, rfl, r1⟩ := one_of r
    cases q : dictSrc W x with
    | none => simp only [q] at w; exact w.elim
    | some l =>
      simp only [q] at w
      exact dictSrc_at c r1 q fun kvs rk => mk_dctM c rk w
  · exact w.elim
end
/-! ### methods of texts -/
def strM1 (g : Str → Str → D) : FM := fun W x xs => match x, xs with
  | .d (.str a), [.d (.str b)] => .ok (.d (g a b)) W
  | _, _ => .stuck
def strM1L (g : Str → Str → D) : FM := fun W x xs => match x, xs with
  | .d (.str a), [.d (.str b)] => if a.length ≤ 1000000 then .ok (.d (g a b)) W else .stuck
  | _, _ => .stuck
def strM2 (g : Str → Str → Int → D) : FM := fun W x xs => match x, xs with
  | .d (.str a), [.d (.str b), .d (.int i)] => .ok (.d (g a b i)) W
  | _, _ => .stuck
def strM3 (g : Str → Str → Int → Int → D) : FM := fun W x xs => match x, xs with
  | .d (.str a), [.d (.str b), .d (.int i), .d (.int j)] => .ok (.d (g a b i j)) W
  | _, _ => .stuck
def stssOf : List Vl → Option (List Str)
  | [] => some []
  | .d (.str s) :: l => (stssOf l).map (s :: ·)
  | _ => none
def joinM : FM := fun W x xs => match x, xs with
  | .d (.str a), [y] => (match seqOf W y with
    | some l => (match stssOf l with
      | some ys => if (ys.map (·.length)).sum + ys.length * a.length ≤ 16777216 then .ok (.d (.str (Txt.join a ys))) W else .stuck
      | none => .stuck)
    | none => .stuck)
  | _, _ => .stuck
def splitM : FM := fun W x xs => match x, xs with
  | .d (.str a), [.d (.str b)] => if (b.length == 0) = false ∧ a.length ≤ 1000000 then .ok (.d (.lst ((Txt.split a b).map D.str))) W else .stuck
  | _, _ => .stuck
def idxM : FM := fun W x xs => match x, xs with
  | .d (.str a), [.d (.str b)] => (match Builtin.Str.occurrences a b 0 a.length 1 with
    | i :: _ => .ok (.d (.int (i : Nat))) W
    | [] => .stuck)
  | _, _ => .stuck
def ordF (W : Ms) (xs : List Vl) : Res Vl := match xs with
  | [.d (.str x)] => if x.length = 1 then .ok (.d (.int (x.cps.getD 0 0 : Nat))) W else .stuck
  | _ => .stuck
def strF (W : Ms) (xs : List Vl) : Res Vl := match xs with
  | [.d (.str x)] => .ok (.d (.str x)) W
  | [.d (.int i)] => if i.natAbs.log2 < 1920 then .ok (.d (.str (toString i))) W else .stuck
  | _ => .stuck
def rStrA : List V → Hp → VK → Prop := fun xs H Q => (∃ i, xs = [.int i] ∧ i.natAbs.log2 < 1920 ∧ Q (.str (toString i)) H) ∨ ∃ a, xs = [.str a] ∧ Q (.str a) H
theorem strA {X : Cx} : CallR X (.type "str") rStrA := fun pins s σ H xs us Q I r h => h.elim (call_str_int pins s σ H xs us Q I r) (SkE.call_str_str pins s σ H xs us Q I r)
section
variable {K : Fr} {TB : List (Addr × Str)} {E : XK}
theorem m_s1 {g : Str → Str → V} {h : Str → Str → D} (hg : ∀ G a b, Rp K G (g a b) (h a b)) : MethD K TB (fun x xs H Q => ∃ a b, x = .str a ∧ xs = [.str b] ∧ Q (g a b) H) (strM1 h) := fun E ws G H W x xs a as Q c rx rs w => by
  unfold strM1 at w
  split at w
  · obtain ⟨y, rfl, ry⟩ := one_of rs
    cases rx with | d rx =>
    cases rx
    cases ry with | d ry =>
    cases ry
    exact ⟨_, _, rfl, rfl, w.ok c (.d (hg _ _ _))⟩
  · exact w.elim
theorem m_s1L {g : Str → Str → V} {h : Str → Str → D} (hg : ∀ G a b, Rp K G (g a b) (h a b)) : MethD K TB (fun x xs H Q => ∃ a b, x = .str a ∧ xs = [.str b] ∧ a.length ≤ sizeLine ∧ Q (g a b) H) (strM1L h) := fun E ws G H W x xs a as Q c rx rs w => by
  unfold strM1L at w
  split at w
  · obtain ⟨y, rfl, ry⟩ := one_of rs
    cases rx with | d rx =>
    cases rx
    cases ry with | d ry =>
    cases ry
    split at w
    · rename_i hl
      exact ⟨_, _, rfl, rfl, mil hl, w.ok c (.d (hg _ _ _))⟩
    · exact w.elim
  · exact w.elim
theorem m_s2 {g : Str → Str → Int → V} {h : Str → Str → Int → D} (hg : ∀ G a b i, Rp K G (g a b i) (h a b i)) : MethD K TB (fun x xs H Q => ∃ (a b : Str) (i : Int), x = .str a ∧ xs = [.str b, .int i] ∧ Q (g a b i) H) (strM2 h) := fun E ws G H W x xs a as Q c rx rs w => by
  unfold strM2 at w
  split at w
  · obtain ⟨y, y2, rfl, ry, ry2⟩ := two_of rs
    cases rx with | d rx =>
    cases rx
    cases ry with | d ry =>
    cases ry
    cases ry2 with | d ry2 =>
    cases ry2
    exact ⟨_, _, _, rfl, rfl, w.ok c (.d (hg _ _ _ _))⟩
  · exact w.elim
theorem m_s3 {g : Str → Str → Int → Int → V} {h : Str → Str → Int → Int → D} (hg : ∀ G a b i j, Rp K G (g a b i j) (h a b i j)) : MethD K TB (fun x xs H Q => ∃ (a b : Str) (i j : Int), x = .str a ∧ xs = [.str b, .int i, .int j] ∧ Q (g a b i j) H) (strM3 h) := fun E ws G H W x xs a as Q c rx rs w => by
  unfold strM3 at w
  split at w
  · cases rs with | cons ry rs =>
    cases rs with | cons ry2 rs =>
    cases rs with | cons ry3 rs =>
    cases rs
    cases rx with | d rx =>
    cases rx
    cases ry with | d ry =>
    cases ry
    cases ry2 with | d ry2 =>
    cases ry2
    cases ry3 with | d ry3 =>
    cases ry3
    exact ⟨_, _, _, _, rfl, rfl, w.ok c (.d (hg _ _ _ _ _))⟩
  · exact w.elim
theorem stss_at {ws : List Addr} {G : Hp} : ∀ {vs : List V} {l : List Vl} {ys : List Str}, RpVs K ws G vs l → stssOf l = some ys → vs = ys.map V.str
  | _, _, _, .nil, h => by cases h; rfl
  | v :: vs, x :: l, ys, .cons r t, h => by
    unfold stssOf at h
    split at h
    · rename_i heq; cases heq
    · rename_i s l0 heq
      cases heq
      rw [Option.map_eq_some_iff] at h
      obtain ⟨m, hm, rfl⟩ := h
      cases r with | d r =>
      cases r
      rw [stss_at t hm]
      rfl
    · cases h
def rJoin (K : PySem.W.Frag) : V → List V → Hp → VK → Prop := fun x xs H Q => ∃ a p, ∃ ys : List Str, x = .str a ∧ xs = [.ref p] ∧ (SqL K H p (ys.map V.str) ∨ SqT K H p (ys.map V.str)) ∧ (ys.map (·.length)).sum + ys.length * a.length ≤ 16777216 ∧ Q (.str (Txt.join a ys)) H
theorem mtJoin {X : Cx} (K : PySem.W.Frag) (hK : X.K = K := by rfl) : MtR X "str.join" (rJoin K) := by subst hK; exact mt_join
theorem m_join : MethD K TB (rJoin K.K) joinM := fun E ws G H W x xs a as Q c rx rs w => by
  unfold joinM at w
  split at w
  · rename_i aa b
    obtain ⟨y, rfl, ry⟩ := one_of rs
    cases rx with | d rx =>
    cases rx
    cases q : seqOf W b with
    | none => simp only [q] at w; exact w.elim
    | some l =>
      simp only [q] at w
      cases q2 : stssOf l with
      | none => simp only [q2] at w; exact w.elim
      | some ys =>
        simp only [q2] at w
        split at w
        · rename_i hl
          obtain ⟨p, vs, rfl, hs, rv⟩ := seqOf_at c ry q
          rw [stss_at rv q2] at hs
          exact ⟨aa, p, ys, rfl, rfl, hs, hl, w.ok c (.d (.str _))⟩
        · exact w.elim
  · exact w.elim
theorem strs_rp {G : Hp} : ∀ ys : List Str, RpL K G (ys.map V.str) (ys.map D.str)
  | [] => .nil
  | _ :: r => .cons (.str _) (strs_rp r)
theorem m_split : MethD K TB (fun x xs H Q => ∃ a b, x = .str a ∧ xs = [.str b] ∧ (b.length == 0) = false ∧ a.length + 2 ≤ sizeLine ∧ rNewStrs (Txt.split a b) H Q) splitM := fun E ws G H W x xs a as Q c rx rs w => by
  unfold splitM at w
  split at w
  · obtain ⟨y, rfl, ry⟩ := one_of rs
    cases rx with | d rx =>
    cases rx
    cases ry with | d ry =>
    cases ry
    split at w
    · rename_i hl
      refine ⟨_, _, rfl, rfl, hl.1, ?_, fun p hp => w _ ws _ _ (Gr.new c hp) (c.new hp) (.d (.lst upd_same (strs_rp _)))⟩
      have := hl.2
      rw [sizeLine_eq]
      omega
    · exact w.elim
  · exact w.elim
theorem m_idx : MethD K TB (fun x xs H Q => ∃ a b i rest, x = .str a ∧ xs = [.str b] ∧ Builtin.Str.occurrences a b 0 a.length 1 = i :: rest ∧ Q (.int (i : Nat)) H) idxM := fun E ws G H W x xs a as Q c rx rs w => by
  unfold idxM at w
  split at w
  · obtain ⟨y, rfl, ry⟩ := one_of rs
    cases rx with | d rx =>
    cases rx
    cases ry with | d ry =>
    cases ry
    split at w
    · rename_i i r0 heq
      exact ⟨_, _, i, r0, rfl, rfl, heq, w.ok c (.d (.int _))⟩
    · exact w.elim
  · exact w.elim
theorem o_ord : CallD K TB (fun xs H Q => ∃ x, xs = [.str x] ∧ x.length = 1 ∧ Q (.int (x.cps.getD 0 0 : Nat)) H) ordF := fun E ws G H W xs as Q c r w => by
  unfold ordF at w
  split at w
  · obtain ⟨v, rfl, r1⟩ := one_of r
    cases r1 with | d r1 =>
    cases r1
    split at w
    · rename_i hl
      exact ⟨_, rfl, hl, w.ok c (.d (.int _))⟩
    · exact w.elim
  · exact w.elim
theorem o_str : CallD K TB rStrA strF := fun E ws G H W xs as Q c r w => by
  unfold strF at w
  split at w
  · obtain ⟨v, rfl, r1⟩ := one_of r
    cases r1 with | d r1 =>
    cases r1
    exact .inr ⟨_, rfl, w.ok c (.d (.str _))⟩
  · obtain ⟨v, rfl, r1⟩ := one_of r
    cases r1 with | d r1 =>
    cases r1
    split at w
    · rename_i hl
      exact .inl ⟨_, rfl, hl, w.ok c (.d (.str _))⟩
    · exact w.elim
  · exact w.elim
end
end DL

set_option Elab.async false
set_option linter.all false
set_option maxRecDepth 100000
set_option maxHeartbeats 4000000
/-! ## comprehensions of two walks -/
namespace DL
open PySem PySem.Spec PyProof.Rows L2
open Classical in
/-- the inner walk, from what stands in ρ on; k: what comes behind it -/
noncomputable def lcI (kp : Ms → Prop) (fg : FG) (t : FT) (f : FE) (ρ : Ev) (k : List Vl → Ms → Res (List Vl)) : List Vl → List Vl → Ms → Res (List Vl)
  | acc, [], W => if kp W then k acc W else .stuck
  | acc, x :: xs, W => if kp W ∧ acc.length ≤ 1000000 then (match fg x ρ with
    | some ρ1 => (t ρ1 W).bind fun b W1 => if b = true then (f ρ1 W1).bind fun y W2 => lcI kp fg t f ρ k (acc ++ [y]) xs W2 else lcI kp fg t f ρ k acc xs W1
    | none => .stuck) else .stuck
open Classical in
noncomputable def lcO (kp : Ms → Prop) (fg : FG) (t : FT) (fi1 : FI) (fg1 : FG) (t1 : FT) (f : FE) (vs1 : List Nat) (ρ : Ev) : List Vl → List Vl → Ms → Res (List Vl)
  | acc, [], W => if kp W then .ok acc W else .stuck
  | acc, x :: xs, W => if kp W then (match fg x ρ with
    | some ρ1 => (t ρ1 W).bind fun b W1 => if b = true then (fi1 ρ1 W1).bind fun it W2 => lcI it.kp fg1 t1 f (wipeE ρ1 vs1) (fun acc2 W3 => lcO kp fg t fi1 fg1 t1 f vs1 ρ acc2 xs W3) acc it.xs W2
      else lcO kp fg t fi1 fg1 t1 f vs1 ρ acc xs W1
    | none => .stuck) else .stuck
noncomputable def eLc2 (fi : FI) (fg : FG) (t : FT) (fi1 : FI) (fg1 : FG) (t1 : FT) (f : FE) (vs vs1 : List Nat) : FE := fun ρ W => (fi ρ W).bind fun it W1 => (lcO it.kp fg t fi1 fg1 t1 f vs1 (wipeE ρ vs) [] it.xs W1).bind mkLst
noncomputable def eLc2M (fi : FI) (fg : FG) (t : FT) (fi1 : FI) (fg1 : FG) (t1 : FT) (f : FE) (vs vs1 : List Nat) : FE := fun ρ W => (fi ρ W).bind fun it W1 => (lcO it.kp fg t fi1 fg1 t1 f vs1 (wipeE ρ vs) [] it.xs W1).bind mkLstM
section
variable {K : Fr} {TB : List (Addr × Str)} {E : XK} {σ : L2.St} {ρ : Ev}
theorem bind_as {α β γ : Type} (r : Res α) (f : α → Ms → Res β) (k : β → Ms → Res γ) : (r.bind f).bind k = r.bind fun x W => (f x W).bind k := by cases r <;> rfl
theorem Gr.hold {ws ws' : List Addr} {G G' H H' : Hp} {p : Addr} {xs : List V} (gr : Gr ws G H ws' G' H') (n1 : G p = none) (n2 : p ∉ ws) (hx : H p = some (.lst xs)) : G' p = none ∧ p ∉ ws' ∧ H' p = some (.lst xs) := by
  refine ⟨?_, gr.nw p _ hx (fun _ z => nomatch z) n2, ?_⟩
  · rcases gr.nf p _ hx n1 n2 (fun _ z => nomatch z) with q | ⟨ys, q⟩
    · exact q
    · cases q
  · have e1 := gr.fr p _ hx n2 (fun _ z => nomatch z)
    exact e1
theorem s_lc2G {wi wi1 : TI} {g g1 : TG} {tt tt1 : TT} {te : TE} {fi fi1 : FI} {fg fg1 : FG} {ft ft1 : FT} {fe : FE} {vs vs1 : List Nat} {mk : List Vl → Ms → Res Vl} (hi : SI K TB E wi fi) (hg : SG K TB vs g fg) (ht : ST K TB E tt ft)
    (hi1 : SI K TB E wi1 fi1) (hg1 : SG K TB vs1 g1 fg1) (ht1 : ST K TB E tt1 ft1) (he : SE K TB E te fe)
    (end_ : ∀ (ws1 : List Addr) (G1 H1 : Hp) (W1 : Ms) (Q : VK) (p : Addr) (ws2 : List Addr) (G2 H2 : Hp) (W2 : Ms) (xs : List V) (as : List Vl), Cf K TB ws1 G1 H1 W1 → H1 p = none → Gr ws1 G1 H1 ws2 G2 H2 → Cf K TB ws2 G2 H2 W2 → G2 p = none → p ∉ ws2 → H2 p = some (.lst xs) → RpVs K ws2 G2 xs as →
      Wish K TB (RV K) E ws1 G1 H1 Q (mk as W2) → Q (.ref p) H2) : SE K TB E (tLc2 wi g tt wi1 g1 tt1 te vs vs1) (fun ρ W => (fi ρ W).bind fun it W1 => (lcO it.kp fg ft fi1 fg1 ft1 fe vs1 (wipeE ρ vs) [] it.xs W1).bind mk) := by
  intro σ ws G H ρ W Q e c w
  refine hi.go (R := RV K) e c w fun J it W1 ws1 G1 H1 g1' c1 ok w1 => ?_
  intro p hp
  have e1 := e.up g1'
  have hG1 := c1.gn hp
  refine ⟨fun i m H2 => i + m = it.xs.length ∧ ∃ ws2 G2 W2 xs as, Gr ws1 G1 H1 ws2 G2 H2 ∧ Cf K TB ws2 G2 H2 W2 ∧ G2 p = none ∧ p ∉ ws2 ∧ H2 p = some (.lst xs) ∧ RpVs K ws2 G2 xs as ∧
      Wish K TB (RV K) E ws1 G1 H1 Q ((lcO it.kp fg ft fi1 fg1 ft1 fe vs1 (wipeE ρ vs) as (it.xs.drop i) W2).bind mk),
    ⟨it.xs.length, Nat.zero_add _, ws1, G1, W1, [], [], Gr.junk hp, c1.junk hp, hG1, c1.wn hp, upd_same, .nil, ?_⟩, ?_⟩
  · rw [List.drop_zero]
    exact w1
  rintro i m H2 ⟨hm, ws2, G2, W2, xs, as, g2, c2, n1, n2, hx, rx, w2⟩
  have e2 : EnvR K ws2 G2 (L2.wipe σ vs) (wipeE ρ vs) := (e1.up g2).wipe vs
  by_cases hl : it.xs.length ≤ i
  · rw [List.drop_of_length_le hl] at w2
    unfold lcO at w2
    split at w2
    · rename_i hk
      exact .inl ⟨((ok ws2 G2 H2 W2 g2.i c2 hk) i).1 hl, end_ ws1 G1 H1 W1 Q p ws2 G2 H2 W2 xs as c1 hp g2 c2 n1 n2 hx rx w2⟩
    · exact w2.elim
  · have hi' : i < it.xs.length := by omega
    rw [List.drop_eq_getElem_cons hi'] at w2
    unfold lcO at w2
    split at w2
    · rename_i hk
      obtain ⟨go, yl⟩ := ((ok ws2 G2 H2 W2 g2.i c2 hk) i).2 _ (List.getElem?_eq_getElem hi')
      cases z : fg it.xs[i] (wipeE ρ vs) with
      | none => simp only [z] at w2; exact w2.elim
      | some ρ3 =>
        simp only [z] at w2
        let NX : Hp → Prop := fun H' => ∃ m', m' < m ∧ i + 1 + m' = it.xs.length ∧ ∃ ws4 G4 W4 xs4 as4, Gr ws1 G1 H1 ws4 G4 H' ∧ Cf K TB ws4 G4 H' W4 ∧ G4 p = none ∧ p ∉ ws4 ∧ H' p = some (.lst xs4) ∧ RpVs K ws4 G4 xs4 as4 ∧
          Wish K TB (RV K) E ws1 G1 H1 Q ((lcO it.kp fg ft fi1 fg1 ft1 fe vs1 (wipeE ρ vs) as4 (it.xs.drop (i + 1)) W4).bind mk)
        refine .inr ⟨go, NX, fun H' h => h, fun v H3 hy => ?_⟩
        obtain ⟨G3, g3, c3, r3⟩ := yl v H3 hy
        refine hg v _ _ _ ρ3 ws2 G3 H3 W2 _ (e2.up g3) c3 r3 z fun σ3 e3 q3 => ⟨q3.trans (wipe_idem σ vs), ?_⟩
        rw [bind_as] at w2
        refine ht.goB (R := RV K) e3 c3 (g2.trans g3) w2 fun b b' W5 ws5 G5 H5 g5 c5 r5 w5 => ?_
        obtain rfl : b = b' := r5
        obtain ⟨k1, k2, k3⟩ := (g3.trans g5).hold n1 n2 hx
        cases b
        · refine iteF ?_
          simp only [Bool.false_eq_true, if_false] at w5
          exact ⟨m - 1, by omega, by omega, ws5, G5, W5, xs, as, (g2.trans g3).trans g5, c5, k1, k2, k3, (g3.trans g5).rvs rx, w5⟩
        · refine iteT ?_
          simp only [if_true] at w5
          rw [bind_as] at w5
          refine hi1.goB (R := RV K) (e3.up g5) c5 ((g2.trans g3).trans g5) w5 fun J1 it1 W6 ws6 G6 H6 g6 c6 ok1 w6 => ?_
          obtain ⟨k1, k2, k3⟩ := ((g3.trans g5).trans g6).hold n1 n2 hx
          have e6 := (e3.up g5).up g6
          refine ⟨fun j k H7 => j + k = it1.xs.length ∧ ∃ ws7 G7 W7 xs7 as7, GrI ws6 G6 H6 ws7 G7 H7 ∧ Gr ws1 G1 H1 ws7 G7 H7 ∧ Cf K TB ws7 G7 H7 W7 ∧ G7 p = none ∧ p ∉ ws7 ∧ H7 p = some (.lst xs7) ∧ RpVs K ws7 G7 xs7 as7 ∧
              Wish K TB (RV K) E ws1 G1 H1 Q ((lcI it1.kp fg1 ft1 fe (wipeE ρ3 vs1) (fun acc2 W3 => lcO it.kp fg ft fi1 fg1 ft1 fe vs1 (wipeE ρ vs) acc2 (it.xs.drop (i + 1)) W3) as7 (it1.xs.drop j) W7).bind mk),
            ⟨it1.xs.length, Nat.zero_add _, ws6, G6, W6, xs, as, Gr.refl.i, ((g2.trans g3).trans g5).trans g6, c6, k1, k2, k3, ((g3.trans g5).trans g6).rvs rx, ?_⟩, ?_⟩
          · rw [List.drop_zero]
            exact w6
          rintro j k H7 ⟨hjk, ws7, G7, W7, xs7, as7, g7, g71, c7, n71, n72, hx7, rx7, w7⟩
          have e7p : EnvR K ws7 G7 σ3 ρ3 := Paired.imp (fun ov od h => by
            cases od with
            | none => trivial
            | some x =>
              obtain ⟨v, e, r⟩ := h
              exact ⟨v, e, r.to (.of g7.g) fun n a z => by
                obtain ⟨m, em⟩ := g7.p
                rw [em, List.getElem?_append_left (List.getElem?_eq_some_iff.mp z).1]
                exact z⟩) e6
          have e7 : EnvR K ws7 G7 (L2.wipe σ3 vs1) (wipeE ρ3 vs1) := e7p.wipe vs1
          by_cases hl1 : it1.xs.length ≤ j
          · rw [List.drop_of_length_le hl1] at w7
            unfold lcI at w7
            split at w7
            · rename_i hk1
              exact .inl ⟨((ok1 ws7 G7 H7 W7 g7 c7 hk1) j).1 hl1, m - 1, by omega, by omega, ws7, G7, W7, xs7, as7, g71, c7, n71, n72, hx7, rx7, w7⟩
            · exact w7.elim
          · have hj' : j < it1.xs.length := by omega
            rw [List.drop_eq_getElem_cons hj'] at w7
            unfold lcI at w7
            split at w7
            · rename_i hk1
              obtain ⟨hk1, hsz⟩ := hk1
              obtain ⟨go1, yl1⟩ := ((ok1 ws7 G7 H7 W7 g7 c7 hk1) j).2 _ (List.getElem?_eq_getElem hj')
              cases z1 : fg1 it1.xs[j] (wipeE ρ3 vs1) with
              | none => simp only [z1] at w7; exact w7.elim
              | some ρ8 =>
                simp only [z1] at w7
                refine .inr ⟨go1, fun H' => ∃ k', k' < k ∧ j + 1 + k' = it1.xs.length ∧ ∃ ws9 G9 W9 xs9 as9, GrI ws6 G6 H6 ws9 G9 H' ∧ Gr ws1 G1 H1 ws9 G9 H' ∧ Cf K TB ws9 G9 H' W9 ∧ G9 p = none ∧ p ∉ ws9 ∧ H' p = some (.lst xs9) ∧ RpVs K ws9 G9 xs9 as9 ∧
                  Wish K TB (RV K) E ws1 G1 H1 Q ((lcI it1.kp fg1 ft1 fe (wipeE ρ3 vs1) (fun acc2 W3 => lcO it.kp fg ft fi1 fg1 ft1 fe vs1 (wipeE ρ vs) acc2 (it.xs.drop (i + 1)) W3) as9 (it1.xs.drop (j + 1)) W9).bind mk), fun H' h => h, fun v8 H8 hy8 => ?_⟩
                obtain ⟨G8, g8, c8, r8⟩ := yl1 v8 H8 hy8
                refine hg1 v8 _ _ _ ρ8 ws7 G8 H8 W7 _ (e7.up g8) c8 r8 z1 fun σ8 e8 q8 => ⟨q8.trans (wipe_idem σ3 vs1), ?_⟩
                rw [bind_as] at w7
                refine ht1.goB (R := RV K) e8 c8 (g71.trans g8) w7 fun b b' W9 ws9 G9 H9 g9 c9 r9 w9 => ?_
                obtain rfl : b = b' := r9
                obtain ⟨k1, k2, k3⟩ := (g8.trans g9).hold n71 n72 hx7
                cases b
                · refine iteF ?_
                  simp only [Bool.false_eq_true, if_false] at w9
                  exact ⟨k - 1, by omega, by omega, ws9, G9, W9, xs7, as7, (g7.trans g8.i).trans g9.i, (g71.trans g8).trans g9, c9, k1, k2, k3, (g8.trans g9).rvs rx7, w9⟩
                · refine iteT ?_
                  simp only [if_true] at w9
                  rw [bind_as] at w9
                  refine he.goB (R := RV K) (e8.up g9) c9 ((g71.trans g8).trans g9) w9 fun y dy W10 ws10 G10 H10 g10 c10 r10 w10 => ?_
                  obtain ⟨k1, k2, k3⟩ := ((g8.trans g9).trans g10).hold n71 n72 hx7
                  refine ⟨xs7, k3, mil' (by rw [Paired.length rx7]; exact hsz), k - 1, by omega, by omega, ws10, G10, W10, xs7 ++ [y], as7 ++ [dy], ?_, ((((g71.trans g8).trans g9).trans g10)).junkW hp, c10.junkW k1 k2 ⟨_, k3, plain_lst⟩, k1, k2, upd_same, Paired.app (((g8.trans g9).trans g10).rvs rx7) (.cons r10 .nil), w10⟩
                  refine ((g7.trans g8.i).trans g9.i).trans (g10.i.trans ⟨fun _ _ z => z, ⟨[], by simp⟩, fun a o u z => ?_⟩)
                  have ne : a ≠ p := fun q => by rw [q, k3] at z; cases z
                  rw [upd_ne ne]
                  exact z
            · exact w7.elim
    · exact w2.elim
theorem s_lc2 {wi wi1 : TI} {g g1 : TG} {tt tt1 : TT} {te : TE} {fi fi1 : FI} {fg fg1 : FG} {ft ft1 : FT} {fe : FE} {vs vs1 : List Nat} (hi : SI K TB E wi fi) (hg : SG K TB vs g fg) (ht : ST K TB E tt ft)
    (hi1 : SI K TB E wi1 fi1) (hg1 : SG K TB vs1 g1 fg1) (ht1 : ST K TB E tt1 ft1) (he : SE K TB E te fe) : SE K TB E (tLc2 wi g tt wi1 g1 tt1 te vs vs1) (eLc2 fi fg ft fi1 fg1 ft1 fe vs vs1) :=
  s_lc2G hi hg ht hi1 hg1 ht1 he fun _ _ _ _ _ _ _ _ _ _ _ _ c1 hp g2 c2 n1 n2 hx rx w => end_lst c1 hp g2 c2 n1 n2 hx rx w
theorem s_lc2M {wi wi1 : TI} {g g1 : TG} {tt tt1 : TT} {te : TE} {fi fi1 : FI} {fg fg1 : FG} {ft ft1 : FT} {fe : FE} {vs vs1 : List Nat} (hi : SI K TB E wi fi) (hg : SG K TB vs g fg) (ht : ST K TB E tt ft)
    (hi1 : SI K TB E wi1 fi1) (hg1 : SG K TB vs1 g1 fg1) (ht1 : ST K TB E tt1 ft1) (he : SE K TB E te fe) : SE K TB E (tLc2 wi g tt wi1 g1 tt1 te vs vs1) (eLc2M fi fg ft fi1 fg1 ft1 fe vs vs1) :=
  s_lc2G hi hg ht hi1 hg1 ht1 he fun _ _ _ _ _ _ _ _ _ _ _ _ c1 hp g2 c2 n1 n2 hx rx w => end_lstM c1 hp g2 c2 n1 n2 hx rx w
end
end DL

set_option Elab.async false
set_option linter.all false
set_option maxRecDepth 100000
set_option maxHeartbeats 4000000
/-! ## a dict comprehension that a name gets -/
namespace DL
open PySem PySem.Spec PyProof.Rows L2
section
variable {X : Cx}
theorem sw_trueD {kx vx : Expr} {gs : List Comprehension} {scope : Scope} {pos py : Pos} {y : Str} {l : Nat} {env : Env} (hk : env.scope.kind = .function) (hy : env.scope.names.lookup y = some .local) (hl : (py.line == pos.line) = true)
    (ha : (scope.names.any fun (n, k) => n == y && (k == .local || k == .cell)) = false) : swapsWith (.DictComp kx vx gs scope pos) (some (.Name y py)) l env = pure true := by
  have e1 : env.blockKind = .function := by
    unfold Env.blockKind
    rw [hk]
    rfl
  have e2 : env.kindOf y = some .local := hy
  unfold swapsWith
  simp only [e1, e2, ha, Expr.pos, hl]
  rfl
theorem ps_setDc {i : Nat} {y : Str} {py : Pos} {kx vx tg iter : Expr} {ifs : List Expr} {scope : Scope} {own : List (Str × Nat)} {pos spos : Pos} {wi : TI} {g : TG} {tt : TT} {tk tv : TE} (hc : X.calm = true) (hN : X.N.Nodup) (hy : X.N[i]? = some y) (hyl : X.env.scope.names.lookup y = some .local)
    (hsw : swapsWith (.DictComp kx vx [⟨tg, iter, ifs, 0⟩] scope pos) (some (.Name y py)) spos.line X.env = pure true) (hi : PI X tg iter wi) (ok : BlkOk X.N X.env.scope scope own)
    (hg : ∀ (s : Shared) (H : Hp) (C : Addr) (cl : List (Str × Addr)) (fp : List Addr), PG (X.blk s H scope (compEnvC scope cl C X.env) fp) tg g)
    (ht : ∀ (s : Shared) (H : Hp) (C : Addr) (cl : List (Str × Addr)) (fp : List Addr), PTs (X.blk s H scope (compEnvC scope cl C X.env) fp) ifs tt)
    (hk : ∀ (s : Shared) (H : Hp) (C : Addr) (cl : List (Str × Addr)) (fp : List Addr), PE (X.blk s H scope (compEnvC scope cl C X.env) fp) kx tk)
    (he : ∀ (s : Shared) (H : Hp) (C : Addr) (cl : List (Str × Addr)) (fp : List Addr), PE (X.blk s H scope (compEnvC scope cl C X.env) fp) vx tv) (hs : ∀ x, foldedSetIterable iter X.env x = pure x := by intro _; rfl) :
    PS X (.Assign [.Name y py] (.DictComp kx vx [⟨tg, iter, ifs, 0⟩] scope pos) spos) (tAsg (tDc wi g tt tk tv (own.map (·.2))) (gName i)) := by
  constructor
  intro pins s σ H Dn I h
  rw [exec_Assign_Name_used _ _ _ _ hsw]
  refine wpAny_bind (wpAny_standAt (wpAny_bind ?_))
  have h2 : tDc wi g tt tk tv (own.map (·.2)) σ H (fun x H1 => gName i x σ H1 Dn.nx) := h
  show wpAny _ X.A (do let _ ← comprehension (.DictComp kx vx [⟨tg, iter, ifs, 0⟩] scope pos) scope X.env (firstIterPos [⟨tg, iter, ifs, 0⟩] pos) newDict false (eval iter X.env) (some (assign (.Name y py) X.env))) _ _ s
  refine wpAny_bind (thn (L2.dc_core (Qf := fun _ s' => SP X pins Dn .next s') hc hN I hi ok hg ht hk he hs h2 fun L C s' m H' I' q hn ff => ?_) fun _ s' hq => wpAny_pure (wpAny_pure hq))
  show wpAny _ _ (assign (.Name y py) X.env (.ref L)) _ _ _
  refine wpAny_assign_Name (store_ok2 (v := V.ref L) I' hN hy (.inl hyl) rfl (fun s2 I2 z => ?_) (.inr hyl))
  obtain ⟨a, sb, ha⟩ := z
  obtain ⟨f0, f1, f2, f3, f4, f5⟩ := ff
  have hne : C ≠ a := by
    cases ha with
    | inl z => rw [z]; exact f1
    | inr z => exact fun e => f4 y a z e.symm
  exact ⟨m, hn.sameBut sb hne, fun h3 sb3 => ⟨_, H', I2.turned (t' := s2.toks) (fun b o hb e => (sb3.2 b hb).trans e) f0 f1 f3 f4 f5, q⟩⟩
end
end DL

set_option Elab.async false
set_option linter.all false
set_option maxRecDepth 100000
set_option maxHeartbeats 4000000
/-! ## d.values(), made a tuple or a list -/
namespace DL
open PySem PySem.Spec PyProof.Rows L2
/-- the dict at a has the values vs -/
def ValsAt (w : World) (H : Hp) (a : Addr) (vs : List V) : Prop := (∃ kvs : List (Key × V), Rd H a (.dK kvs) ∧ vs = kvs.map (·.2)) ∨ ∃ kvs : List (NestedKey × Addr × V), Rd H a (dN w a kvs) ∧ vs = kvs.map (·.2.2)
theorem ValsAt.up {w : World} {H : Hp} {a p : Addr} {vs : List V} {o : HO} (h : ValsAt w H a vs) (hp : H p = none) : ValsAt w (upd H p o) a vs := by
  have r : ∀ u, Rd H a u → Rd (upd H p o) a u := fun u e => by
    rcases e with e | ⟨o', e⟩
    · exact .inl (by rw [upd_ne (ne_of_none e hp)]; exact e)
    · exact .inr ⟨o', by rw [upd_ne (ne_of_none e hp)]; exact e⟩
  rcases h with ⟨kvs, e, q⟩ | ⟨kvs, e, q⟩
  · exact .inl ⟨kvs, r _ e, q⟩
  · exact .inr ⟨kvs, r _ e, q⟩
section
variable {prog : Program} {w : World} {A : Around} {E : Value → Shared → Prop} {s : Shared} {r d : Addr} {n : Nat} {P : Nat → Value → Prop} {OK : Heap → Prop}
theorem code_tuple_vals {Q₁ : Value → Shared → Prop} (K : PySem.W.KdlSrc prog w "dict_values" r d n P OK) (hh : A.handled = none) (hok : OK s.heap) (hn : n ≤ sizeLine)
    (h : ∀ (h' : Heap) (tk : Nat) (acc : Array Value), (∀ b o, s.heap.get? b = some o → h'.get? b = some o) → ItemsOf P acc n → Q₁ (.ref h'.objs.size) { s with heap := h'.push { cls := .type "tuple", data := .seq acc }, toks := tk }) :
    codeAny (model prog w) A (.call (.builtin "tuple.__new__") ⟨[.type "tuple", .ref r], []⟩) (wants Q₁ E) s := by
  apply codeAny_of_tree
  show wpAny _ A.in1 (do checkBuiltinCall "tuple.__new__" ⟨[.type "tuple", .ref r], []⟩; again (.builtin "tuple.__new__" ⟨[.type "tuple", .ref r], []⟩)) _ _ s
  refine wpAny_bind (wpAny_of_eq (PySem.F.newCall_tuple_1 _) (wpAny_pure ⟨plainId_quiet PySem.F.plain_tuple_new _, codeAny_builtin PySem.F.entry_tuple_new ?_⟩))
  rw [Around.under_plainId PySem.F.plain_tuple_new _]
  have t1 := sub_tuple_self
  have t2 := init_tuple_lookup
  have t3 := madeHere_tuple
  have ty : s.TypeIs (.ref r) "dict_values" := K.type s hok
  have h1 : A.in1.handled = none := hh
  wp_walk using wpAny_typeOf ty, PySem.W.kdu_collect (A := A.in1) K h1 hok hn
  intro h' tk acc hk hacc
  show wpAny _ _ (Builtin.Tuple.tupleExact acc.toList.toArray >>= fun v => ret v) _ _ _
  unfold Builtin.Tuple.tupleExact
  have sz : acc.toList.toArray.size ≤ sizeLine := by
    rw [Array.toArray_toList, hacc.1]
    exact hn
  refine wpAny_bind (wpAny_newObj_type ?_ sz)
  refine wpAny_pure ?_
  rw [Array.toArray_toList]
  exact h h' tk acc hk hacc
theorem call_tuple_vals {Q : Value → Shared → Prop} (K : PySem.W.KdlSrc prog w "dict_values" r d n P OK) (hh : A.handled = none) (hok : OK s.heap) (hn : n ≤ sizeLine)
    (hQ : ∀ (h' : Heap) (tk : Nat) (acc : Array Value), (∀ b o, s.heap.get? b = some o → h'.get? b = some o) → ItemsOf P acc n → Q (.ref h'.objs.size) { s with heap := h'.push { cls := .type "tuple", data := .seq acc }, toks := tk }) :
    wpAny (model prog w) A (call (.type "tuple") [.ref r]) Q E s := by
  refine callType_codes (Q₁ := fun obj s₁ => s₁.TypeIs obj "tuple" ∧ Q obj s₁) PySem.F.called_tuple (PySem.F.typeCall_tuple_1 _) PySem.F.entry_object_init (code_tuple_vals (A := A.in1) K hh hok hn fun h' tk acc hk hacc => ⟨⟨_, Heap.get?_push_size _ rfl, rfl⟩, hQ h' tk acc hk hacc⟩) fun obj s₁ h₁ => ?_
  obtain ⟨k1, k2⟩ := h₁
  exact ⟨k1, PySem.F.args_object_init_2 obj _, object_init_meets PySem.F.called_tuple.init.lookup PySem.F.called_tuple.made (by decide) prog w A.in1 _ s₁ ⟨k1, rfl, k2⟩⟩
end
section
variable {X : Cx}
def rVals (w : World) : V → List V → Hp → VK → Prop := fun x xs H Q => ∃ a vs, x = .ref a ∧ xs = [] ∧ ValsAt w H a vs ∧ ∀ p, H p = none → Q (.ref p) (upd H p (viewO "dict_values" p a))
theorem mtVals (w : World) (hw : X.w = w := by rfl) : MtR X "dict.values" (rVals w) := by
  subst hw
  intro pins s σ H x xs v us Q I rx rs h
  obtain ⟨a, vs, rfl, rfl, hv, q⟩ := h
  cases rx
  cases rs
  have fin : EP X pins σ Q (.ref s.heap.objs.size) { s with heap := s.heap.push { cls := .type "dict_values", data := .fields #[.ref a] } } := by
    refine ⟨.ref s.heap.objs.size, _, I.laid (t' := s.toks) (fun b o e => Heap.get?_push_of_some _ e) (Nat.le_refl _) (viewO_ok (T := "dict_values") (d := a) (Heap.get?_push_size _ rfl)), rfl, q _ (I.hok.fresh (Nat.le_refl _))⟩
  rcases hv with ⟨kvs, e, _⟩ | ⟨kvs, e, _⟩
  · obtain ⟨_, lo, ws, _, dd⟩ := dk_rd I.hok e
    exact call_meetsIn PySem.F.slot_dict_values dd.typeIs PySem.F.entry_dict_values (PySem.F.args_dict_values_1 _) (meets_dict_values (mixKind X.prog X.w) a lo) ⟨⟨ws, dd⟩, fin⟩
  · obtain ⟨lo, _, es, ep, hr, _, _⟩ := raw_of I e
    have ty : s.TypeIs (.ref a) "dict" := by
      obtain ⟨o, ho, hx, _⟩ := hr
      exact ⟨o, ho, hx.1⟩
    exact call_meetsIn PySem.F.slot_dict_values ty PySem.F.entry_dict_values (PySem.F.args_dict_values_1 _) (meets_dict_values_raw a lo) ⟨⟨es, ep, hr⟩, fin⟩
theorem vals_rel {kvs : List (Key × V)} {ws : List (Key × Value)} (rk : KV kvs ws) {acc : Array Value} (hacc : ItemsOf (fun i v => ∃ k, ws[i]? = some (k, v)) acc ws.length) : Vals (kvs.map (·.2)) acc.toList := by
  have hl : kvs.length = ws.length := Paired.length rk
  refine vals_of_at (by
    have el : acc.toList.length = acc.size := by simp
    rw [List.length_map, el, hacc.1, hl]) fun j x w h1 h2 => ?_
  obtain ⟨k, hk⟩ := hacc.2 j w (by rw [← Array.getElem?_toList]; exact h2)
  obtain ⟨p, hp, _, e2⟩ := Paired.at' rk hk
  rw [List.getElem?_map, hp] at h1
  cases h1
  exact e2
theorem vals_relN {kvs : List (NestedKey × Addr × V)} {es : Array DictEntry} (hs : es.size = kvs.length) (hk : ∀ (i : Nat) (p : NestedKey × Addr × V), kvs[i]? = some p → ∃ en, es[i]? = some en ∧ en.key = .ref p.2.1 ∧ RelV p.2.2 en.val) {acc : Array Value}
    (hacc : ItemsOf (fun i v => ∃ hi : i < es.size, v = es[i].val) acc es.size) : Vals (kvs.map (·.2.2)) acc.toList := by
  refine vals_of_at (by
    have el : acc.toList.length = acc.size := by simp
    rw [List.length_map, el, hacc.1, hs]) fun j x w h1 h2 => ?_
  rw [List.getElem?_map] at h1
  cases q : kvs[j]? with
  | none => rw [q] at h1; cases h1
  | some p =>
    rw [q] at h1
    cases h1
    obtain ⟨en, e1, _, e2⟩ := hk j p q
    obtain ⟨hi, e3⟩ := hacc.2 j w (by rw [← Array.getElem?_toList]; exact h2)
    have e4 : es[j] = en := by
      rw [Array.getElem?_eq_getElem hi] at e1
      exact Option.some.inj e1
    rw [e3, e4]
    exact e2
/-- what collects the values: the view at p is of the dict at a -/
def rOfVals (w : World) (o : List V → HO) : List V → Hp → VK → Prop := fun xs H Q => ∃ p a vs, xs = [.ref p] ∧ H p = some (viewO "dict_values" p a) ∧ ValsAt w H a vs ∧ ∀ q, H q = none → Q (.ref q) (upd H q (o vs))
theorem view_at {pins : List (Addr × Obj)} {σ : L2.St} {H : Hp} {s : Shared} {p a : Addr} (I : Inv X pins σ H s) (h : H p = some (viewO "dict_values" p a)) : s.heap.IsValuesView p a :=
  ⟨_, (show ObjOk X.prog X.w H s.heap p (viewO "dict_values" p a) from I.hok p _ h).1, rfl, rfl⟩
theorem tupVals (w : World) (hc : X.calm = true := by rfl) (hw : X.w = w := by rfl) : CallR X (.type "tuple") (rOfVals w .tup) := by
  subst hw
  intro pins s σ H xs us Q I r h
  obtain ⟨p, a, vs, rfl, hp, hv, q⟩ := h
  obtain ⟨u, rfl, ru⟩ := vals1 r
  cases ru
  have vw := view_at I hp
  have fin : ∀ {h' : Heap} {tk : Nat} {acc : Array Value}, vs.length ≤ sizeLine → (∀ b o, s.heap.get? b = some o → h'.get? b = some o) → Vals vs acc.toList →
      EP X pins σ Q (.ref h'.objs.size) { s with heap := h'.push { cls := .type "tuple", data := .seq acc }, toks := tk } := fun {h' tk acc} hz k rv => by
    have I1 : Inv X pins σ H { s with heap := h', toks := tk } := I.kept k
    exact ⟨.ref h'.objs.size, _, I1.laid (t' := tk) (fun b o e => Heap.get?_push_of_some _ e) (Nat.le_refl _) (show ObjOk X.prog X.w _ _ _ (.tup vs) from ⟨hz, acc.toList, rv, by rw [Array.toArray_toList]; exact IsTup.new _ _⟩), rfl, q _ (I1.hok.fresh (Nat.le_refl _))⟩
  rcases hv with ⟨kvs, e, rfl⟩ | ⟨kvs, e, rfl⟩
  · obtain ⟨z, lo, ws, rk, hd⟩ := dk_rd I.hok e
    obtain ⟨ep, hat⟩ := hd.dictAt
    exact call_tuple_vals (PySem.W.kdl_values (knd := mixKind X.prog X.w) (kvs := ws) (ep := ep) (r := p) (d := a)) (I.ok.hd hc) ⟨vw, hat⟩ (by rw [← Paired.length rk]; exact z) fun h' tk acc k hacc => fin (by rw [List.length_map]; exact z) k (vals_rel rk hacc)
  · obtain ⟨lo, z, es, ep, hr, hs, hk⟩ := raw_of I e
    exact call_tuple_vals (KdlSrc.rawValues (es := es) (ep := ep) (r := p) (d := a)) (I.ok.hd hc) ⟨vw, hr⟩ (by rw [hs]; exact z) fun h' tk acc k hacc => fin (by rw [List.length_map]; exact z) k (vals_relN hs hk hacc)
theorem lstVals (w : World) (hc : X.calm = true := by rfl) (hw : X.w = w := by rfl) : CallR X (.type "list") (rOfVals w .lst) := by
  subst hw
  intro pins s σ H xs us Q I r h
  obtain ⟨p, a, vs, rfl, hp, hv, q⟩ := h
  obtain ⟨u, rfl, ru⟩ := vals1 r
  cases ru
  have vw := view_at I hp
  have fin : ∀ {h' : Heap} {tk c : Nat} {acc : Array Value}, vs.length ≤ sizeLine → (∀ b o, s.heap.get? b = some o → h'.get? b = some o) → h'.get? s.heap.objs.size = some { cls := .type "list", dict := none, data := .seq acc c, slots := #[] } → Vals vs acc.toList →
      EP X pins σ Q (.ref s.heap.objs.size) { s with heap := h', toks := tk } := fun {h' tk c acc} hz k e rv => by
    exact ⟨.ref s.heap.objs.size, _, I.laid (t' := tk) k (Nat.le_refl _) (show ObjOk X.prog X.w _ _ _ (.lst vs) from ⟨hz, acc.toList, c, rv, by rw [Array.toArray_toList]; exact e⟩), rfl, q _ (I.hok.fresh (Nat.le_refl _))⟩
  rcases hv with ⟨kvs, e, rfl⟩ | ⟨kvs, e, rfl⟩
  · obtain ⟨z, lo, ws, rk, hd⟩ := dk_rd I.hok e
    obtain ⟨ep, hat⟩ := hd.dictAt
    exact PySem.W.kdl_call (PySem.W.kdl_values (knd := mixKind X.prog X.w) (kvs := ws) (ep := ep) (r := p) (d := a)) (I.ok.hd hc) ⟨vw, hat⟩ (by rw [← Paired.length rk]; exact z) fun h' tk acc c k e hacc => fin (by rw [List.length_map]; exact z) k e (vals_rel rk hacc)
  · obtain ⟨lo, z, es, ep, hr, hs, hk⟩ := raw_of I e
    exact PySem.W.kdl_call (KdlSrc.rawValues (es := es) (ep := ep) (r := p) (d := a)) (I.ok.hd hc) ⟨vw, hr⟩ (by rw [hs]; exact z) fun h' tk acc c k e hacc => fin (by rw [List.length_map]; exact z) k e (vals_relN hs hk hacc)
end
/-! ### as data -/
def valsOf (W : Ms) (x : Vl) : Option (List Vl) := (dctOf W x).map (·.map (·.2))
def eOfVals (mk : List Vl → Ms → Res Vl) (f : FE) : FE := fun ρ W => (f ρ W).bind fun x W1 => match valsOf W1 x with
  | some l => mk l W1
  | none => .stuck
section
variable {K : Fr} {TB : List (Addr × Str)} {E : XK} {ws : List Addr} {G H : Hp} {W : Ms}
theorem vals_at {v : V} {x : Vl} {l : List Vl} (c : Cf K TB ws G H W) (r : RpV K ws G v x) (h : valsOf W x = some l) : ∃ a vs, v = .ref a ∧ ValsAt K.w H a vs ∧ RpVs K ws G vs l ∧ tyA K.K K.w "dict" v H := by
  unfold valsOf at h
  rw [Option.map_eq_some_iff] at h
  obtain ⟨l0, q, rfl⟩ := h
  obtain ⟨a, rfl, hd⟩ := dct_at c r q
  rcases hd with ⟨kvs, e, rk⟩ | ⟨kvs, e, rn, nl⟩
  · exact ⟨a, _, rfl, .inl ⟨kvs, e, rfl⟩, Paired.map2 (fun _ _ z => z.2) rk, .inr ⟨rfl, a, rfl, .inl ⟨kvs, e⟩⟩⟩
  · exact ⟨a, _, rfl, .inr ⟨kvs, e, rfl⟩, Paired.map2 (fun _ _ z => z.2) rn, .inr ⟨rfl, a, rfl, .inr ⟨kvs, e, nk_all c.g rn⟩⟩⟩
theorem s_ofVals {to : TE} {f : FE} {o : List V → HO} {mk : List Vl → Ms → Res Vl} (hm : ∀ (ws : List Addr) (G H : Hp) (W : Ms) (Q : VK) (xs : List V) (as : List Vl), Cf K TB ws G H W → RpVs K ws G xs as → Wish K TB (RV K) E ws G H Q (mk as W) → ∀ p, H p = none → Q (.ref p) (upd H p (o xs)))
    (h : SE K TB E to f) : SE K TB E (tCB (rOfVals K.w o) (tCons (tAM K.K K.w "dict" (rVals K.w) to tNil) tNil)) (eOfVals mk f) := by
  intro σ ws G H ρ W Q e c w
  refine h.go (R := RV K) e c w fun x a W1 ws1 G1 H1 g1 c1 r1 w1 => ?_
  cases q : valsOf W1 a with
  | none => rw [q] at w1; exact w1.elim
  | some l =>
    rw [q] at w1
    obtain ⟨d, vs, rfl, hv, rv, ty⟩ := vals_at c1 r1 q
    refine ⟨ty, d, vs, rfl, rfl, hv, fun p hp => ?_⟩
    refine ⟨p, d, vs, rfl, upd_same, hv.up hp, fun q2 hq => ?_⟩
    exact hm _ _ _ _ _ _ _ (c1.junk (o := viewO "dict_values" p d) hp) rv (Wish.up w1 (Gr.junk hp)) q2 hq
theorem s_tupVals {to : TE} {f : FE} (h : SE K TB E to f) : SE K TB E (tCB (rOfVals K.w .tup) (tCons (tAM K.K K.w "dict" (rVals K.w) to tNil) tNil)) (eOfVals mkTup f) := s_ofVals (fun _ _ _ _ _ _ _ c r w => (mk_tup c r w).2) h
theorem s_lstVals {to : TE} {f : FE} (h : SE K TB E to f) : SE K TB E (tCB (rOfVals K.w .lst) (tCons (tAM K.K K.w "dict" (rVals K.w) to tNil) tNil)) (eOfVals mkLst f) := s_ofVals (fun _ _ _ _ _ _ _ c r w => (mk_lst c r w).2) h
end
end DL

set_option Elab.async false
set_option linter.all false
set_option maxRecDepth 100000
set_option maxHeartbeats 4000000
/-! ## dicts written out -/
namespace DL
open PySem PySem.Spec PyProof.Rows L2
noncomputable def fPairs : List (FE × FE) → Ev → Ms → Res (List (D × Vl))
  | [], _, W => .ok [] W
  | (fk, fv) :: r, ρ, W => (fk ρ W).bind fun k W1 => (fv ρ W1).bind fun v W2 => (fPairs r ρ W2).bind fun l W3 => match dcL.keyV k with
    | some kk => .ok ((kk, v) :: l) W3
    | none => .stuck
noncomputable def eDisp (fs : List (FE × FE)) : FE := fun ρ W => (fPairs fs ρ W).bind fun l W1 => if l.length ≤ 15 then mkDct (mergeD [] l) W1 else .stuck
noncomputable def eDispM (fs : List (FE × FE)) : FE := fun ρ W => (fPairs fs ρ W).bind fun l W1 => if l.length ≤ 15 then mkDctM (mergeD [] l) W1 else .stuck
section
variable {K : Fr} {TB : List (Addr × Str)} {E : XK}
def RP (K : Fr) : List Addr → Hp → Hp → List (V × V) → List (D × Vl) → Prop := fun ws G _ ps l => ∃ kvs : List (Key × V), ps = kvs.map (fun kv => (kV kv.1, kv.2)) ∧ RpVK K ws G kvs l
abbrev SPs (K : Fr) (TB : List (Addr × Str)) (E : XK) : List (TE × TE) → List (FE × FE) → Prop := Paired fun t f => SE K TB E t.1 f.1 ∧ SE K TB E t.2 f.2
theorem s_pairs : ∀ {ts : List (TE × TE)} {fs : List (FE × FE)}, SPs K TB E ts fs → Snd K TB (RP K) E (tPairs ts) (fPairs fs)
  | _, _, .nil => fun σ ws G H ρ W Q e c w => w.ok c ⟨[], rfl, .nil⟩
  | (tk, tv) :: ts, (fk, fv) :: fs, .cons h t => fun σ ws G H ρ W Q e c w => by
    obtain ⟨hk, hv⟩ := h
    refine hk.go (R := RP K) e c w fun y dy W1 ws1 G1 H1 g1 c1 r1 w1 => ?_
    refine hv.go (R := RP K) (e.up g1) c1 w1 fun z dz W2 ws2 G2 H2 g2 c2 r2 w2 => ?_
    refine (s_pairs t).go (R := RP K) ((e.up g1).up g2) c2 w2 fun ps l W3 ws3 G3 H3 g3 c3 r3 w3 => ?_
    cases q : dcL.keyV dy with
    | none => simp only [q] at w3; exact w3.elim
    | some kk =>
      simp only [q] at w3
      obtain ⟨k, rfl, rfl⟩ := dcL_key q r1
      obtain ⟨kvs, rfl, rk⟩ := r3
      exact w3.ok c3 ⟨(k, z) :: kvs, rfl, .cons ⟨rfl, g3.rv r2⟩ rk⟩
theorem Gr.holdD {ws ws' : List Addr} {G G' H H' : Hp} {p : Addr} {xs : List (Key × V)} (gr : Gr ws G H ws' G' H') (n1 : G p = none) (n2 : p ∉ ws) (hx : H p = some (.dK xs)) : G' p = none ∧ p ∉ ws' ∧ H' p = some (.dK xs) := by
  refine ⟨?_, gr.nw p _ hx (fun _ z => nomatch z) n2, ?_⟩
  · rcases gr.nf p _ hx n1 n2 (fun _ z => nomatch z) with q | ⟨ys, q⟩
    · exact q
    · cases q
  · have e1 := gr.fr p _ hx n2 (fun _ z => nomatch z)
    exact e1
theorem s_dispG {ts : List (TE × TE)} {fs : List (FE × FE)} {mk : List (D × Vl) → Ms → Res Vl} (h : SPs K TB E ts fs)
    (end_ : ∀ (ws G H : _) (ws1 : List Addr) (G1 H1 : Hp) (W1 : Ms) (Q : VK) (p : Addr) (kvs : List (Key × V)) (l : List (D × Vl)) (W : Ms), Cf K TB ws G H W → H p = none → Gr ws G H ws1 G1 H1 → Cf K TB ws1 G1 H1 W1 → G1 p = none → p ∉ ws1 → H1 p = some (.dK kvs) → RpVK K ws1 G1 kvs l → Wish K TB (RV K) E ws G H Q (mk l W1) → Q (.ref p) H1) :
    SE K TB E (tDisp ts) (fun ρ W => (fPairs fs ρ W).bind fun l W1 => if l.length ≤ 15 then mk (mergeD [] l) W1 else .stuck) := by
  intro σ ws G H ρ W Q e c w p hp
  dsimp only at w
  have c0 := c.junk (o := .dK []) hp
  have g0 : Gr ws G H ws G (upd H p (.dK [])) := Gr.junk hp
  refine s_pairs h σ ws G _ ρ W _ (e.up g0) c0 ?_
  cases q : fPairs fs ρ W with
  | stuck => rw [q] at w; exact w
  | exc C W1 => rw [q] at w; exact fun ws' G' H' g' c' => w ws' G' H' (g0.trans g') c'
  | ok l W1 =>
    rw [q] at w
    intro ps ws1 G1 H1 g1 c1 r1
    simp only [Res.bind_ok] at w
    split at w
    · rename_i hl
      obtain ⟨kvs, rfl, rk⟩ := r1
      obtain ⟨k1, k2, k3⟩ := g1.holdD (c.gn hp) (c.wn hp) upd_same
      refine ⟨k3, kvs, rfl, by rw [Paired.length rk]; exact hl, ?_⟩
      exact end_ ws G H ws1 G1 _ W1 Q p _ _ W c hp (Gr.junkW (g0.trans g1) hp) (c1.junkW k1 k2 ⟨_, k3, plain_dK⟩) k1 k2 upd_same (merge_vk .nil rk) w
    · exact w.elim
theorem s_disp {ts : List (TE × TE)} {fs : List (FE × FE)} (h : SPs K TB E ts fs) : SE K TB E (tDisp ts) (eDisp fs) := s_dispG h fun ws G H ws1 G1 H1 W1 Q p kvs l W c hp g c1 n1 n2 hx rk w => by
  unfold mkDct at w
  cases q : dctD l with
  | none => rw [q] at w; exact w.elim
  | some l' =>
    rw [q] at w
    exact w _ ws1 (upd G1 p (.dK kvs)) H1 (Gr.own g hp (c.gn hp) n1) (c1.own n1 n2 hx) (.d (.dct (.inl upd_same) ((dctK_rp rk q).to (.of (same_upd n1)))))
theorem s_dispM {ts : List (TE × TE)} {fs : List (FE × FE)} (h : SPs K TB E ts fs) : SE K TB E (tDisp ts) (eDispM fs) := s_dispG h fun ws G H ws1 G1 H1 W1 Q p kvs l W c hp g c1 n1 n2 hx rk w => by
  unfold mkDctM at w
  refine w _ (ws1 ++ [p]) G1 H1 (Gr.ownM g hp) (c1.ownM n1 n2 (by rw [hx]; simp) (.inl ⟨kvs, hx, ?_⟩)) (.mu (at_end c1.len))
  exact Paired.imp (fun _ _ r => ⟨r.1, r.2.to (.of fun _ _ z => z) fun i b z => by
    rw [List.getElem?_append_left (List.getElem?_eq_some_iff.mp z).1]
    exact z⟩) rk
end
end DL

set_option Elab.async false
set_option linter.all false
set_option maxRecDepth 100000
set_option maxHeartbeats 4000000
/-! ## sorted(xs, key=own def) -/
namespace DL
open PySem PySem.Spec PyProof.Rows L2
open PySem.Calls PySem.W
section
variable {prog : Program} {w : World} {A : Around} {E : Value → Shared → Prop} {s : Shared} {a kS : Addr} {vs : List Value} {keys : Array Value} {e e1 : Nat} {P : PySem.Fin → Shared → Prop}
theorem keyL_tail {st : SortSt} {out : List Value} (nk : s.heap.get? kS = some (seqObj "list" keys e)) (na : s.heap.get? a = some (seqObj "list" #[] e1)) (hka : kS ≠ a) (hsz : keys.size ≤ sizeLine) (hz : out.length ≤ sizeLine) (hfl : failedOf st = none) (ho : (PyProof.Rows.arrOf st).map (·.2) = out.toArray)
    (h : ∀ h1 h' tk c1 c, Heap.SameBut kS s.heap h1 → h1.get? kS = some (seqObj "list" #[] c1) → Heap.SameBut a h1 h' → h'.get? a = some (seqObj "list" out.toArray c) → P (.done (.ret .none)) { s with heap := h', toks := tk }) :
    wpAny (model prog w) A (ksk_tail a false e1 (.ref kS) st) P E s := by
  have u1 := Heap.SameBut.update s.heap kS (Obj.mapSeq fun _ => (#[] : Array Value))
  have m1 : (s.heap.update kS (Obj.mapSeq fun _ => (#[] : Array Value))).get? a = some (seqObj "list" #[] e1) := (u1.2 a hka.symm).trans na
  have u2 := Heap.SameBut.update (s.heap.update kS (Obj.mapSeq fun _ => (#[] : Array Value))) a (Obj.mapSeq fun _ => out.toArray)
  have z2 : out.toArray.size ≤ sizeLine + 1 := by
    rw [List.size_toArray]
    omega
  unfold ksk_tail
  dsimp only
  simp only [Bool.false_eq_true, if_false]
  rw [ho]
  refine wpAny_bind (listUpdate_at nk rfl ?_ hsz (Nat.zero_le _))
  refine wpAny_bind (wpAny_letGo ?_)
  refine wpAny_bind (seqEpoch_at m1 rfl ?_)
  refine wpAny_bind (listUpdate_at m1 rfl ?_ (Nat.zero_le _) z2)
  rw [hfl]
  simp only [bne_self_eq_false, Bool.false_eq_true, if_false]
  exact wpAny_pure (h _ _ _ _ _ u1 (get?_update_seq nk fun _ => #[]) u2 (get?_update_seq m1 fun _ => out.toArray))
theorem keyL_end {κ : PyProof.Rows.KeyKind} (nk : s.heap.get? kS = some (seqObj "list" keys e)) (na : s.heap.get? a = some (seqObj "list" #[] e1)) (hka : kS ≠ a) (S : SortsAt prog w A s κ keys.toList) (hsz : keys.size = vs.length) (hZ : vs.length ≤ sizeLine)
    (h : ∀ h1 h' tk c1 c, Heap.SameBut kS s.heap h1 → h1.get? kS = some (seqObj "list" #[] c1) → Heap.SameBut a h1 h' → h'.get? a = some (seqObj "list" (sortVals κ false keys.toList vs).toArray c) → P (.done (.ret .none)) { s with heap := h', toks := tk }) :
    wpAny (model prog w) A (ksk_end a false vs.toArray e1 (.ref kS) keys) P E s := by
  obtain ⟨kd, p1, p2⟩ := S.kind
  have kl : keys.toList.length = vs.length := by
    rw [Array.length_toList, hsz]
  have kz : keys.size ≤ sizeLine := by rw [hsz]; exact hZ
  have K : PyProof.Rows.KeysOf κ (keys.zip vs.toArray) := keysOf_zip S.keys
  have ol : (sortVals κ false keys.toList vs).length ≤ sizeLine := by
    rw [sortVals_length false kl]
    exact hZ
  have zs : (keys.zip vs.toArray).size = vs.length := by
    rw [Array.size_zip, hsz, List.size_toArray, Nat.min_self]
  have fin : ∀ st' : SortSt, (PyProof.Rows.arrOf st').Perm (keys.zip vs.toArray) → SortedToK κ (PyProof.Rows.arrOf st') (keys.zip vs.toArray).size → Stable κ (PyProof.Rows.arrOf st') (keys.zip vs.toArray) →
      (PyProof.Rows.arrOf st').map (·.2) = (sortVals κ false keys.toList vs).toArray := by
    intro st' q1 q2 q3
    have z := congrArg List.toArray (sort_out (rev := false) (keys := keys) (items := vs.toArray) (xs := PyProof.Rows.arrOf st') (κ := κ) K q1 q2 q3)
    simp only [Bool.false_eq_true, if_false] at z
    rw [Array.toArray_toList] at z
    exact z
  unfold ksk_end
  dsimp only
  simp only [Bool.false_eq_true, if_false]
  by_cases two : vs.toArray.size < 2
  · rw [if_pos two, if_pos two]
    refine wpAny_bind (wpAny_pure ?_)
    rw [StateT.run_pure]
    refine wpAny_bind (wpAny_pure ?_)
    dsimp only
    refine keyL_tail (st := SortSt.mk' general' (keys.zip vs.toArray) #[] 7 none) nk na hka kz ol rfl (fin _ (Array.Perm.refl _) ?_ (Stable.refl _)) h
    intro i j hij hj
    rw [zs] at hj
    rw [List.size_toArray] at two
    obtain rfl : i = j := by omega
    exact KeyOrd.kle_refl _
  · rw [if_neg two, if_neg two]
    rw [List.size_toArray] at two
    refine wpAny_bind (p2 (by omega) _ ?_)
    refine wpAny_bind (wpAny_mono (H.wpS_sortRunsSt (κ := κ) (kd := kd) (a₀ := keys.zip vs.toArray) (st := SortSt.mk' kd (keys.zip vs.toArray) #[] 7 none)
      (Q := fun _ st' => failedOf st' = none ∧ (PyProof.Rows.arrOf st').map (·.2) = (sortVals κ false keys.toList vs).toArray) p1 K ⟨Array.Perm.refl _, rfl, rfl⟩ rfl (Stable.refl _) (by rw [zs]; omega) fun st' a1 a2 a3 a4 => ⟨a2, fin st' a1 a3 a4⟩) ?_ fun _ _ z => z)
    rintro ⟨⟨⟩, st'⟩ s' ⟨rfl, hf, ho⟩
    dsimp only at ho ⊢
    exact keyL_tail nk na hka kz ol hf ho h
end
/-! ### the keys are made -/
/-- a list that is known to the letter -/
def lstX (a : Addr) (xs : Array Value) (n : Nat) : HO := .ext fun h => h.get? a = some (seqObj "list" xs n)
theorem lstX_ok {P : Program} {w : World} {H : Hp} {h : Heap} {a : Addr} {xs : Array Value} {n : Nat} (e : h.get? a = some (seqObj "list" xs n)) : ObjOk P w H h a (lstX a xs n) := ⟨e, ⟨_, e⟩, fun h1 h2 f k => k _ f⟩
section
variable {X : Cx} {pins : List (Addr × Obj)} {σ : L2.St} {H : Hp} {s : Shared} {a kS fa : Addr} {fd : FuncData} {ps : List Str} {k : Nat} {sp : Sp} {dvs : List V} {ds : List Value}
theorem lstX_at {xs : Array Value} {n : Nat} (I : Inv X pins σ H s) (h : H a = some (lstX a xs n)) : s.heap.get? a = some (seqObj "list" xs n) := (show ObjOk X.prog X.w H s.heap a (lstX a xs n) from I.hok a _ h).1
/-- a key -/
theorem key_run {B : Around} {us : List Value} {vs : List V} {Q : VK} (F : FnOk X.prog X.w X.K X.mg X.base (L2.CX X.prog X.w) k fa fd ps sp) (hr : Room k B) (hE : Env0 X.prog X.w X.K X.mg X.base B X.stack s H) (hb : Binds X.K fd ps ds) (hd : Vals dvs ds)
    (I : Inv X pins σ H s) (r : Vals vs us) (h : sp (vs ++ dvs) H Q E0) : wpAny (model X.prog X.w) B (call (.ref fa) us) (EP X pins σ Q) (fun _ _ => False) s := by
  have r2 : Vals (vs ++ dvs) (us ++ ds) := r.append hd
  have hl : (us ++ ds).length = ps.length := by rw [← r2.length]; exact F.len _ _ _ _ h
  apply wpAny_call
  refine codeAny_mono (F.run B X.stack s H ⟨us, []⟩ (us ++ ds) (vs ++ dvs) Q E0 hr hE (hb s us I.kIn hl) r2 h) fun rr s' hq => ?_
  match rr, hq with
  | .error e, hq =>
    obtain ⟨_, _, _, _, _, _, _, _, _, _, _, _, z⟩ := hq
    exact z.elim
  | .ok (.ret u), hq => exact I.after hq
  | .ok .next, hq => exact False.elim hq
  | .ok .brk, hq => exact False.elim hq
  | .ok .cont, hq => exact False.elim hq
theorem key_loop {B : Around} {us : List Value} {vs : List V} {J : Nat → List V → Hp → Prop} {e1 : Nat} {P : PySem.Fin → Shared → Prop} {E : Value → Shared → Prop} (F : FnOk X.prog X.w X.K X.mg X.base (L2.CX X.prog X.w) k fa fd ps sp) (hr : Room k B)
    (hE : ∀ H s, Inv X pins σ H s → Env0 X.prog X.w X.K X.mg X.base B X.stack s H) (hb : Binds X.K fd ps ds) (hd : Vals dvs ds) (rv : Vals vs us) (hz : vs.length ≤ sizeLine)
    (step : ∀ (i : Nat) (v : V) (ks : List V) (H' : Hp), vs[i]? = some v → J i ks H' → (∃ xs n, H' kS = some (lstX kS xs n)) → sp (v :: dvs) H' (fun q H'' => H'' kS = H' kS ∧ ∀ xs n, J (i + 1) (ks ++ [q]) (upd H'' kS (lstX kS xs n))) E0)
    (I : Inv X pins σ H s) (hJ : J 0 [] H) (hk : H kS = some (lstX kS #[] 0))
    (done : ∀ (ks : List V) (H' : Hp) (s' : Shared) (kA : Array Value) (n : Nat), Inv X pins σ H' s' → J vs.length ks H' → H' kS = some (lstX kS kA n) → Vals ks kA.toList → kA.size = vs.length → wpAny (model X.prog X.w) B (ksk_end a false us.toArray e1 (.ref kS) kA) P E s') :
    wpAny (model X.prog X.w) B (ksk_rest a (.ref fa) false us.toArray e1 (.ref kS)) P E s := by
  have hul : us.length = vs.length := rv.length.symm
  unfold ksk_rest
  refine wpAny_bind (wpAny_rule ?_)
  first
    | rw [List.forIn_toArray]
    | (rw [← Array.forIn_toList]; simp only [List.toList_toArray])
    | rw [← Array.forIn_toList]
  refine wpAny_bind (ksk_fold (fun i s' => ∃ H' ks kA n, Inv X pins σ H' s' ∧ J i ks H' ∧ H' kS = some (lstX kS kA n) ∧ Vals ks kA.toList ∧ kA.size = i) us 0 s ⟨H, [], #[], 0, I, hJ, hk, .nil, rfl⟩ ?step ?done)
  case step =>
    rintro j u s' hu ⟨H', ks, kA, n, I', j', hk', rk, hl⟩
    simp only [Nat.zero_add] at hl j' ⊢
    have hj : j < us.length := (List.getElem?_eq_some_iff.mp hu).1
    obtain ⟨v, hv, ru⟩ : ∃ v, vs[j]? = some v ∧ RelV v u := by
      obtain ⟨w, hw⟩ : ∃ w, vs[j]? = some w := ⟨_, List.getElem?_eq_getElem (by omega)⟩
      obtain ⟨u', hu', rw'⟩ := rv.get hw
      rw [hu] at hu'
      cases hu'
      exact ⟨w, hw, rw'⟩
    refine wpAny_bind (wpAny_attempt (wpAny_mono (key_run (vs := [v]) F hr (hE _ _ I') hb hd I' (.cons ru .nil) (step j v ks H' hv j' ⟨kA, n, hk'⟩)) (fun q s'' he => ?_) fun _ _ z => z.elim))
    obtain ⟨x, H'', I2, rx, e2, j2⟩ := he
    dsimp only
    have nk2 := lstX_at I2 (e2.trans hk')
    have sb := Heap.SameBut.update s''.heap kS (Obj.mapSeq (·.push q))
    have nk3 := get?_update_seq nk2 (·.push q)
    refine wpAny_bind (listUpdate_at nk2 rfl ?_ (by omega) (by rw [Array.size_push]; omega))
    refine wpAny_pure ⟨rfl, _, ks ++ [x], kA.push q, _, d_write I2 (by rw [e2, hk']; exact True.intro) sb ⟨_, nk3⟩ (lstX_ok nk3), j2 _ _, upd_same, ?_, by rw [Array.size_push, hl]⟩
    have ea : (kA.push q).toList = kA.toList ++ [q] := by simp
    rw [ea]
    exact rk.append (.cons rx .nil)
  case done =>
    rintro s' ⟨H', ks, kA, n, I', j', hk', rk, hl⟩
    simp only [Nat.zero_add] at hl j'
    rw [hul] at hl j'
    try dsimp only
    refine wpAny_bind (listItems_at (lstX_at I' hk') rfl ?_)
    exact done ks H' s' kA n I' j' hk' rk hl
end
end DL

set_option Elab.async false
set_option linter.all false
set_option maxRecDepth 100000
set_option maxHeartbeats 4000000
/-! ## sorted(xs, key=own def): the rule -/
namespace DL
open PySem PySem.Spec PyProof.Rows L2
open PySem.Calls PySem.W
def rSortKey (K : PySem.W.Frag) (w : World) (fa : Addr) (sp : Sp) (dvs : List V) : List V → List V → Hp → VK → Prop := fun xs zs H Q => ∃ l vs, xs = [.ref l] ∧ zs = [.ref fa] ∧ Src K w H l vs ∧ vs.length ≤ 1000000 ∧ ∀ a kS e1, kS ≠ a → H a = none → H kS = none → ∃ J : Nat → List V → Hp → Prop,
  J 0 [] (upd (upd H a (lstX a #[] e1)) kS (lstX kS #[] 0)) ∧
  (∀ (i : Nat) (v : V) (ks : List V) (H' : Hp), vs[i]? = some v → J i ks H' → (∃ xs n, H' kS = some (lstX kS xs n)) → sp (v :: dvs) H' (fun q H'' => H'' kS = H' kS ∧ ∀ xs n, J (i + 1) (ks ++ [q]) (upd H'' kS (lstX kS xs n))) E0) ∧
  ∀ (ks : List V) (H' : Hp), J vs.length ks H' → H' a = some (lstX a #[] e1) ∧ ∃ kz : List PyData, Paired (fun q d => Dp K H' q d ∧ d.depth ≤ 8) ks kz ∧ AllAlike kz ∧ DS.Sorta kz ∧
    ∀ xs n, Q (.ref a) (upd (upd H' kS (lstX kS xs n)) a (.lst (((vs.zip kz).mergeSort (dataLe false (·.2))).map (·.1))))
theorem each_reads {X : Cx} {pins : List (Addr × Obj)} {σ : L2.St} {H : Hp} {t : Shared} (I : Inv X pins σ H t) : ∀ {ks : List V} {kz : List PyData} {us : List Value}, Paired (fun q d => Dp X.K H q d ∧ d.depth ≤ 8) ks kz → Vals ks us → EachIs (fun v d => ∃ as, Reads t.heap v d as) us kz
  | _, _, _, .nil, rv => by cases rv; exact .nil
  | _, _, _, .cons h r, rv => by
    cases rv with
    | cons r1 r2 => exact .cons (Dp.reads I _ _ _ h.1 r1) (each_reads I r r2)
theorem dep8 : ∀ {K : PySem.W.Frag} {H : Hp} {ks : List V} {kz : List PyData}, Paired (fun q d => Dp K H q d ∧ d.depth ≤ 8) ks kz → ∀ d ∈ kz, d.depth ≤ 8
  | _, _, _, _, .nil, d, hd => nomatch hd
  | _, _, _, _, .cons h r, d, hd => by
    rcases List.mem_cons.mp hd with rfl | hd
    · exact h.2
    · exact dep8 r d hd
theorem each_zip : ∀ {vs : List V} {us : List Value} {kz : List PyData}, Vals vs us → kz.length = vs.length → EachIs (fun v (z : V × PyData) => RelV z.1 v) us (vs.zip kz)
  | _, _, [], r, h => by
    cases r with
    | nil => exact .nil
    | cons _ _ => simp at h
  | _, _, d :: kz, r, h => by
    cases r with
    | nil => simp at h
    | cons r1 r2 => exact .cons r1 (each_zip r2 (by simpa using h))
section
variable {X : Cx} {fa : Addr} {fd : FuncData} {ps : List Str} {k : Nat} {sp : Sp} {dvs : List V} {ds : List Value}
theorem sortKey (K : PySem.W.Frag) (w : World) (F : FnOk X.prog X.w X.K X.mg X.base (L2.CX X.prog X.w) k fa fd ps sp) (hr : Room (k + 2) X.A) (hb : Binds X.K fd ps ds) (hd : Vals dvs ds) (hc : X.calm = true := by rfl) (hK : X.K = K := by rfl) (hw : X.w = w := by rfl) :
    CallRK X (.builtin "sorted") [Str.ofString "key"] (rSortKey K w fa sp dvs) := by
  subst hK hw
  intro pins s σ H xs zs us0 ws Q I r rz h
  obtain ⟨l, vs, rfl, rfl, S, hz1, hJ⟩ := h
  obtain ⟨u, rfl, ru⟩ := vals1 r
  cases ru
  obtain ⟨u, rfl, ru⟩ := vals1 rz
  cases ru
  have hz : vs.length ≤ sizeLine := mil hz1
  have hr2 : Room k X.A.in1.in1 := hr.in1.in1
  refine call_function_entry_kw kind_sorted plain_sorted entry_sorted (by unfold argsOk; kernel_rfl) ?_
  unfold Builtin.«sorted»
  refine wpAny_bind (m := checkCount "sorted" 1 1 _) (wpAny_pure ?_)
  refine wpAny_bind (src_collect I S (I.ok.hd hc) hz fun h1 tk us kp rv => ?_)
  have hul : us.length = vs.length := rv.length.symm
  have I1 : Inv X pins σ H { s with heap := h1, toks := tk } := I.kept kp
  refine wpAny_bind (wpAny_newList ?_ (by rw [hul]; exact hz))
  have o1 : (h1.push (seqObj "list" us.toArray 0)).get? h1.objs.size = some (seqObj "list" us.toArray 0) := Heap.get?_push_size _ rfl
  have I2 : Inv X pins σ (upd H h1.objs.size (lstX h1.objs.size us.toArray 0)) { s with heap := h1.push (seqObj "list" us.toArray 0), toks := tk } := I1.laid (t' := tk) (fun b o z => Heap.get?_push_of_some _ z) (Nat.le_refl _) (lstX_ok o1)
  have na : H h1.objs.size = none := I1.hok.fresh (Nat.le_refl _)
  refine wpAny_bind (wpAny_holding (wpAny_call_entry_kw slot_list_sort ⟨_, o1, rfl⟩ entry_list_sort ?_ (by unfold argsOk; kernel_rfl)))
  show wpAny (model X.prog X.w) X.A.in1.in1 (ksk_tree h1.objs.size (.ref fa) false) _ _ _
  unfold ksk_tree
  refine wpAny_bind (listItems_at o1 rfl ?_)
  have sb := Heap.SameBut.update (h1.push (seqObj "list" us.toArray 0)) h1.objs.size (Obj.mapSeq fun _ => (#[] : Array Value))
  have o2 := get?_update_seq o1 fun _ => (#[] : Array Value)
  refine wpAny_bind (listUpdate_at o1 rfl ?_ (by rw [List.size_toArray, hul]; exact hz) (Nat.zero_le _))
  have I3 := d_write (t' := tk) I2 (by rw [upd_same]; exact True.intro) sb ⟨_, o2⟩ (lstX_ok o2)
  rw [upd_upd] at I3
  refine wpAny_bind (seqEpoch_at o2 rfl ?_)
  refine wpAny_bind (wpAny_newTuple ?_ (by show us.length ≤ _; rw [hul]; exact hz))
  have I4 := I3.kept (t' := tk) (h' := (Heap.update (h1.push (seqObj "list" us.toArray 0)) h1.objs.size (Obj.mapSeq fun _ => (#[] : Array Value))).push (seqObj "tuple" us.toArray 0)) fun b o z => Heap.get?_push_of_some _ z
  refine wpAny_bind (wpAny_newList ?_ (Nat.zero_le _))
  have o3 : (((Heap.update (h1.push (seqObj "list" us.toArray 0)) h1.objs.size (Obj.mapSeq fun _ => (#[] : Array Value))).push (seqObj "tuple" us.toArray 0)).push (seqObj "list" #[] 0)).get? ((Heap.update (h1.push (seqObj "list" us.toArray 0)) h1.objs.size (Obj.mapSeq fun _ => (#[] : Array Value))).push (seqObj "tuple" us.toArray 0)).objs.size = some (seqObj "list" #[] 0) := Heap.get?_push_size _ rfl
  have I5 := I4.laid (t' := tk) (fun b o z => Heap.get?_push_of_some _ z) (Nat.le_refl _) (lstX_ok o3)
  have nk := I4.hok.fresh (Nat.le_refl _)
  generalize hkS : ((Heap.update (h1.push (seqObj "list" us.toArray 0)) h1.objs.size (Obj.mapSeq fun _ => (#[] : Array Value))).push (seqObj "tuple" us.toArray 0)).objs.size = kS at I5 nk o3
  have hne : kS ≠ h1.objs.size := fun z => by
    rw [z, upd_same] at nk
    cases nk
  have nk0 : H kS = none := by
    rw [upd_ne hne] at nk
    exact nk
  refine wpAny_holding ?_
  obtain ⟨J, j0, step, fin⟩ := hJ h1.objs.size kS _ hne na nk0
  refine key_loop (a := h1.objs.size) (kS := kS) (us := us) (vs := vs) (J := J) (B := X.A.in1.in1) F hr2 (fun H s I => I.env0.in1.in1) hb hd rv hz step I5 j0 upd_same fun ks H' s' kA n I' jn hk' rk hsz => ?_
  obtain ⟨ha, kz, pk, hal, hsk, hq⟩ := fin ks H' jn
  have er := each_reads I' pk rk
  have hkl : kz.length = vs.length := by
    have z1 := Paired.length pk
    have z2 : ks.length = kA.toList.length := rk.length
    have z3 : kA.toList.length = kA.size := Array.length_toList
    omega
  have hu : ∀ d, d ∈ kz → X.A.in1.in1.units + d.depth < cLine := fun d hd => by
    have z1 := dep8 pk d hd
    have z2 := hr2.un
    omega
  refine keyL_end (κ := dataKind s'.heap kz) (vs := us) (lstX_at I' hk') (lstX_at I' ha) hne (DS.SortsAt.any (s := s') er hal hsk hu) (hsz.trans hul.symm) (by rw [hul]; exact hz) fun g1 g2 tk2 c1 c2 sb1 n1 sb2 n2 => ?_
  have ko : KeyedOut false ((vs.zip kz).map (·.2)) us (sortVals (dataKind s'.heap kz) false kA.toList us) := by
    have e : (vs.zip kz).map (·.2) = kz := by
      rw [List.map_snd_zip (by omega)]
    rw [e]
    exact ⟨s'.heap, kA.toList, hal, rfl, er⟩
  have eo := keyedOut_each (R := fun v (z : V × PyData) => RelV z.1 v) (·.2) ko (each_zip rv hkl)
  have ov := each_vals eo
  have I6 := d_write (t' := tk2) I' (by rw [hk']; exact True.intro) sb1 ⟨_, n1⟩ (lstX_ok n1)
  have hlen : (((vs.zip kz).mergeSort (dataLe false (·.2))).map (·.1)).length ≤ sizeLine := by
    rw [List.length_map, List.length_mergeSort, List.length_zip]
    omega
  have I7 := d_write (t' := tk2) (h' := g2) (ob := .lst (((vs.zip kz).mergeSort (dataLe false (·.2))).map (·.1))) I6 (by rw [upd_ne (Ne.symm hne), ha]; exact True.intro) sb2 ⟨_, n2⟩ ⟨hlen, _, c2, ov, n2⟩
  exact ⟨_, rfl, wpAny_pure ⟨_, rfl, .ref h1.objs.size, _, I7, rfl, hq _ _⟩⟩
end
end DL

set_option Elab.async false
set_option linter.all false
set_option maxRecDepth 100000
set_option maxHeartbeats 4000000
/-! ## sorted(xs, key=own def), as data -/
namespace DL
open PySem PySem.Spec PyProof.Rows L2
theorem lstX_ne_code {a : Addr} {xs : Array Value} {n : Nat} (c : Addr) (q : Str) : lstX a xs n ≠ LamX.CodeO c q := by
  intro e
  injection e with e
  have hg : (⟨Array.replicate (c + 1) { cls := .none, data := .fields #[.none, .str q 0] }, {}⟩ : Heap).get? c = some { cls := .none, data := .fields #[.none, .str q 0] } := by
    unfold Heap.get?
    simp
  have h2 := congrFun e (⟨Array.replicate (c + 1) { cls := .none, data := .fields #[.none, .str q 0] }, {}⟩ : Heap)
  have h3 : (⟨Array.replicate (c + 1) { cls := .none, data := .fields #[.none, .str q 0] }, {}⟩ : Heap).get? a = some (seqObj "list" xs n) := (Eq.mpr h2 ⟨_, _, 0, hg, rfl, rfl⟩ : _)
  unfold Heap.get? at h3
  by_cases ha : a < c + 1
  · simp [ha] at h3
    first | done | (injection h3 with h3; cases h3)
  · simp [ha] at h3
theorem plain_lstX {a : Addr} {xs : Array Value} {n : Nat} : Plain (lstX a xs n) := ⟨fun _ z => (nomatch z), lstX_ne_code, fun _ z => (nomatch z)⟩
noncomputable def keysD (F : FD) (dd : List Vl) : List Vl → Ms → Res (List D)
  | [], W => .ok [] W
  | x :: xs, W => match F (x :: dd) W with
    | .ok (.d k) W1 => (keysD F dd xs W1).bind fun ks W2 => .ok (k :: ks) W2
    | _ => .stuck
noncomputable def sortKeyD (F : FD) (dd : List Vl) (mk : List Vl → Ms → Res Vl) (W : Ms) (x : Vl) : Res Vl := match srcOf W x with
  | some l => if l.length ≤ 1000000 then (keysD F dd l W).bind fun ks W1 => if sortable ks = true ∧ ks.length = l.length then mk (((l.zip ks).mergeSort fun p q => leP p.2 q.2).map (·.1)) W1 else .stuck else .stuck
  | none => .stuck
noncomputable def eSortKey (F : FD) (dd : List Vl) (mk : List Vl → Ms → Res Vl) (f : FE) : FE := fun ρ W => (f ρ W).bind fun x W1 => sortKeyD F dd mk W1 x
section
variable {K : Fr} {TB : List (Addr × Str)} {E : XK} {ws : List Addr} {G H : Hp} {W : Ms}
theorem dps {ws1 : List Addr} {G1 H1 : Hp} {W1 : Ms} (c : Cf K TB ws1 G1 H1 W1) : ∀ {ks : List V} {kd : List D}, RpL K G1 ks kd → (∀ x ∈ kd, x.ok = true ∧ x.dep ≤ 8) → Paired (fun q d => Dp K.K H1 q d ∧ d.depth ≤ 8) ks (kd.map toP)
  | _, _, .nil, _ => .nil
  | _, _, .cons (x := x) h t, hx => by
    obtain ⟨k1, k2⟩ := hx x List.mem_cons_self
    exact .cons ⟨h.dp c.g k1, by rw [toP_dep _ k1]; exact k2⟩ (dps c t fun y hy => hx y (List.mem_cons_of_mem _ hy))
theorem sortable_kz {ks : List V} {kd : List D} {ws1 : List Addr} {G1 H1 : Hp} {W1 : Ms} (c : Cf K TB ws1 G1 H1 W1) (r : RpL K G1 ks kd) (hs : sortable kd = true) :
    Paired (fun q d => Dp K.K H1 q d ∧ d.depth ≤ 8) ks (kd.map toP) ∧ PySem.W.AllAlike (kd.map toP) ∧ DS.Sorta (kd.map toP) := by
  simp only [sortable, Bool.and_eq_true, List.all_eq_true, decide_eq_true_eq, Bool.or_eq_true] at hs
  obtain ⟨⟨h1, h2⟩, h3⟩ := hs
  refine ⟨?_, ?_, ?_⟩
  · exact dps c r fun x hx => (h1 x hx).1
  · intro d hd d' hd'
    obtain ⟨y, hy, rfl⟩ := List.mem_map.mp hd
    obtain ⟨z, hz, rfl⟩ := List.mem_map.mp hd'
    exact h2 y hy z hz
  · rcases h3 with h3 | h3
    · refine .inr fun d hd => ?_
      obtain ⟨y, hy, rfl⟩ := List.mem_map.mp hd
      have := h3 y hy
      cases y with
      | tup m => exact ⟨toPs m, by simp [toP]⟩
      | _ => cases this
    · refine .inl (.inr fun d hd => ?_)
      obtain ⟨y, hy, rfl⟩ := List.mem_map.mp hd
      have k := h3 y hy
      have k1 := (h1 y hy).1.1
      cases y <;> simp_all [toP, D.ok]
theorem paired_of_mem {α β γ : Type} {F : α → β → Prop} {f : γ → α} {g : γ → β} : ∀ {l : List γ}, (∀ z ∈ l, F (f z) (g z)) → Paired F (l.map f) (l.map g)
  | [], _ => .nil
  | z :: l, h => .cons (h z List.mem_cons_self) (paired_of_mem fun y hy => h y (List.mem_cons_of_mem _ hy))
theorem paired_zip {α β : Type} {F : α → β → Prop} : ∀ {l : List α} {r : List β}, Paired F l r → ∀ z ∈ l.zip r, F z.1 z.2
  | _, _, .nil, z, hz => nomatch hz
  | _, _, .cons h t, z, hz => by
    rcases List.mem_cons.mp hz with rfl | hz
    · exact h
    · exact paired_zip t z hz
/-- sorted alike -/
theorem sort_alike {vs : List V} {l : List Vl} {kd : List D} (rv : RpVs K ws G vs l) (hl : kd.length = l.length) :
    RpVs K ws G (((vs.zip (kd.map toP)).mergeSort (PySem.W.dataLe false (·.2))).map (·.1)) (((l.zip kd).mergeSort fun p q => leP p.2 q.2).map (·.1)) := by
  have hv : vs.length = l.length := Paired.length rv
  let zs : List ((V × Vl) × D) := (vs.zip l).zip kd
  have e1 : zs.map (fun z => (z.1.1, toP z.2)) = vs.zip (kd.map toP) := by
    have : ∀ (a : List V) (b : List Vl) (c : List D), a.length = b.length → ((a.zip b).zip c).map (fun z => (z.1.1, toP z.2)) = a.zip (c.map toP) := by
      intro a
      induction a with
      | nil => intro b c h; simp
      | cons x a ih =>
        intro b c h
        cases b with
        | nil => simp at h
        | cons y b =>
          cases c with
          | nil => simp
          | cons d c =>
            simp only [List.zip_cons_cons, List.map_cons]
            rw [ih b c (by simpa using h)]
    exact this vs l kd hv
  have e2 : zs.map (fun z => (z.1.2, z.2)) = l.zip kd := by
    have : ∀ (a : List V) (b : List Vl) (c : List D), a.length = b.length → ((a.zip b).zip c).map (fun z => (z.1.2, z.2)) = b.zip c := by
      intro a
      induction a with
      | nil => intro b c h; cases b <;> simp_all
      | cons x a ih =>
        intro b c h
        cases b with
        | nil => simp at h
        | cons y b =>
          cases c with
          | nil => simp
          | cons d c =>
            simp only [List.zip_cons_cons, List.map_cons]
            rw [ih b c (by simpa using h)]
    exact this vs l kd hv
  have s1 := PySem.W.sort_maps (r := fun p q : (V × Vl) × D => leP p.2 q.2) (s := PySem.W.dataLe false (·.2)) (l := zs) (fun z : (V × Vl) × D => ((z.1.1, toP z.2) : V × PyData)) (fun _ _ _ _ => rfl)
  have s2 := PySem.W.sort_maps (r := fun p q : (V × Vl) × D => leP p.2 q.2) (s := fun p q : Vl × D => leP p.2 q.2) (l := zs) (fun z : (V × Vl) × D => ((z.1.2, z.2) : Vl × D)) (fun _ _ _ _ => rfl)
  rw [e1] at s1
  rw [e2] at s2
  rw [← s1, ← s2, List.map_map, List.map_map]
  refine paired_of_mem (F := RpV K ws G) (f := fun z : (V × Vl) × D => z.1.1) (g := fun z => z.1.2) fun z hz => ?_
  have hz2 := List.mem_mergeSort.mp hz
  have hz3 : z.1 ∈ vs.zip l := by
    have := List.mem_map_of_mem (f := Prod.fst) hz2
    have e : zs.map Prod.fst = vs.zip l := by
      show ((vs.zip l).zip kd).map Prod.fst = vs.zip l
      rw [List.map_fst_zip]
      rw [List.length_zip]
      omega
    rw [e] at this
    exact this
  exact paired_zip rv z.1 hz3
theorem s_sortKeyG {fa : Addr} {F : FD} {dvs : List V} {dd : List Vl} {te : TE} {f : FE} {mk : List Vl → Ms → Res Vl} (hd : DvOk K dvs dd) (h : SE K TB E te f)
    (end_ : ∀ (ws1 : List Addr) (G1 H1 : Hp) (W1 : Ms) (Q : VK) (p : Addr) (ws2 : List Addr) (G2 H2 : Hp) (W2 : Ms) (xs : List V) (as : List Vl), Cf K TB ws1 G1 H1 W1 → H1 p = none → Gr ws1 G1 H1 ws2 G2 H2 → Cf K TB ws2 G2 H2 W2 → G2 p = none → p ∉ ws2 → H2 p = some (.lst xs) → RpVs K ws2 G2 xs as →
      Wish K TB (RV K) E ws1 G1 H1 Q (mk as W2) → Q (.ref p) H2) :
    SE K TB E (tCKw (rSortKey K.K K.w fa (spD K TB F) dvs) (tCons te tNil) (tCons (tC (.ref fa)) tNil)) (eSortKey F dd mk f) := by
  intro σ ws G H ρ W Q e c w
  refine h.go (R := RV K) e c w fun x a0 W1 ws1 G1 H1 g1 c1 r1 w1 => ?_
  unfold sortKeyD at w1
  cases q : srcOf W1 a0 with
  | none => simp only [q] at w1; exact w1.elim
  | some l =>
    simp only [q] at w1
    split at w1
    · rename_i hl
      obtain ⟨d, rfl, hs⟩ := src_at c1 r1 q
      have main : ∀ vs, Src K.K K.w H1 d vs → RpVs K ws1 G1 vs l → rSortKey K.K K.w fa (spD K TB F) dvs [V.ref d] [V.ref fa] H1 Q := fun vs S rv => by
        have hvl : vs.length = l.length := Paired.length rv
        refine ⟨d, vs, rfl, rfl, S, by rw [hvl]; exact hl, fun a kS e1 hne na nk => ?_⟩
        have nk2 : (upd H1 a (lstX a #[] e1)) kS = none := by rw [upd_ne hne]; exact nk
        have c2 := c1.junk (o := lstX a #[] e1) na
        have gA : Gr ws1 G1 H1 ws1 G1 (upd H1 a (lstX a #[] e1)) := Gr.junk na
        have c3 := c2.junk (o := lstX kS #[] 0) nk2
        refine ⟨fun i ks H' => ∃ ws2 G2 W2 kd, Gr ws1 G1 (upd H1 a (lstX a #[] e1)) ws2 G2 H' ∧ Cf K TB ws2 G2 H' W2 ∧ (∃ xs n, H' kS = some (lstX kS xs n)) ∧ G2 kS = none ∧ kS ∉ ws2 ∧ RpL K G2 ks kd ∧
            Wish K TB (RV K) E ws1 G1 H1 Q ((keysD F dd (l.drop i) W2).bind fun more W3 => if sortable (kd ++ more) = true ∧ (kd ++ more).length = l.length then mk (((l.zip (kd ++ more)).mergeSort fun p q => leP p.2 q.2).map (·.1)) W3 else .stuck),
          ⟨ws1, G1, W1, [], Gr.junk nk2, c3, ⟨#[], 0, upd_same⟩, c1.gn nk, c1.wn nk, .nil, ?_⟩, ?_, ?_⟩
        · rw [List.drop_zero]
          simpa using w1
        · rintro i v ks H' hv ⟨ws2, G2, W2, kd, g2, c4, ⟨xs, n, hk⟩, n1, n2, rk, w2⟩ _
          have hi : i < l.length := by rw [← hvl]; exact (List.getElem?_eq_some_iff.mp hv).1
          rw [List.drop_eq_getElem_cons hi] at w2
          unfold keysD at w2
          have rx : RpV K ws2 G2 v l[i] := by
            obtain ⟨v', h1, h2⟩ := Paired.at' rv (List.getElem?_eq_getElem hi)
            rw [hv] at h1
            cases h1
            exact (gA.trans g2).rv h2
          cases z : F (l[i] :: dd) W2 with
          | stuck => simp only [z] at w2; exact w2.elim
          | exc C W3 => simp only [z] at w2; exact w2.elim
          | ok y W3 =>
            cases y with
            | mu m => simp only [z] at w2; exact w2.elim
            | d y =>
              simp only [z] at w2
              refine ⟨ws2, G2, W2, l[i] :: dd, c4, .cons rx (hd ws2 G2), ?_⟩
              rw [z]
              intro b ws3 G3 H3 g3 c5 r3
              have q1 := g3.fr kS _ hk n2 (fun _ z => nomatch z)
              have m1 : G3 kS = none := by
                rcases g3.nf kS _ hk n1 n2 (fun _ z => nomatch z) with z | ⟨ys, z⟩
                · exact z
                · cases z
              have m2 : kS ∉ ws3 := g3.nw kS _ hk (fun _ z => nomatch z) n2
              refine ⟨q1.trans hk.symm, fun xs' n' => ⟨ws3, G3, W3, kd ++ [y], Gr.junkW (g2.trans g3) nk2, c5.junkW m1 m2 ⟨_, q1, plain_lstX⟩, ⟨xs', n', upd_same⟩, m1, m2, ?_, ?_⟩⟩
              · cases r3 with
                | d r3 => exact pair_map (RpL.to (.of g3.g) rk) (.cons r3 .nil)
              · have as_bind : ∀ {α β γ : Type} (r : Res α) (f : α → Ms → Res β) (k : β → Ms → Res γ), (r.bind f).bind k = r.bind fun x W => (f x W).bind k := fun r f k => by cases r <;> rfl
                rw [as_bind] at w2
                have ez : ∀ more : List D, kd ++ [y] ++ more = kd ++ y :: more := fun more => by simp
                simp only [ez]
                exact w2
        · rintro ks H' ⟨ws2, G2, W2, kd, g2, c4, ⟨xs, n, hk⟩, n1, n2, rk, w2⟩
          rw [hvl, List.drop_length] at w2
          unfold keysD at w2
          simp only [Res.bind_ok, List.append_nil] at w2
          split at w2
          · rename_i hsl
            obtain ⟨hs, hkl⟩ := hsl
            obtain ⟨pz, hal, hsk⟩ := sortable_kz c4 rk hs
            have haw : a ∉ ws1 := c1.wn na
            have q1 := g2.fr a _ upd_same haw (fun _ z => nomatch z)
            have m1 : G2 a = none := by
              rcases g2.nf a _ upd_same (c1.gn na) haw (fun _ z => nomatch z) with z | ⟨ys, z⟩
              · exact z
              · cases z
            have m2 : a ∉ ws2 := g2.nw a _ upd_same (fun _ z => nomatch z) haw
            refine ⟨q1, kd.map toP, pz, hal, hsk, fun xs' n' => ?_⟩
            have c5 := c4.junkW (o := lstX kS xs' n') n1 n2 ⟨_, hk, plain_lstX⟩
            have g5 : Gr ws1 G1 H1 ws2 G2 (upd H' kS (lstX kS xs' n')) := Gr.junkW (gA.trans g2) nk
            have q4 : (upd H' kS (lstX kS xs' n')) a = some (lstX a #[] e1) := by rw [upd_ne (Ne.symm hne)]; exact q1
            have rs := sort_alike (K := K) ((gA.trans g2).rvs rv) hkl
            exact end_ ws1 G1 H1 W1 Q a ws2 G2 _ W2 _ _ c1 na (Gr.junkW g5 na) (c5.junkW m1 m2 ⟨_, q4, plain_lstX⟩) m1 m2 upd_same rs w2
          · exact w2.elim
      rcases hs with ⟨vs, hs, rv⟩ | ⟨kvs, e, rv⟩ | ⟨kvs, e, hk, rv⟩
      · exact main vs (src_of hs) rv
      · exact main _ (.k e) rv
      · exact main _ (.n e) rv
    · exact w1.elim
theorem s_sortKey {fa : Addr} {F : FD} {dvs : List V} {dd : List Vl} {te : TE} {f : FE} (hd : DvOk K dvs dd) (h : SE K TB E te f) : SE K TB E (tCKw (rSortKey K.K K.w fa (spD K TB F) dvs) (tCons te tNil) (tCons (tC (.ref fa)) tNil)) (eSortKey F dd mkLst f) :=
  s_sortKeyG hd h fun _ _ _ _ _ _ _ _ _ _ _ _ c1 hp g2 c2 n1 n2 hx rx w => end_lst c1 hp g2 c2 n1 n2 hx rx w
end
end DL

set_option Elab.async false
set_option linter.all false
set_option maxRecDepth 100000
set_option maxHeartbeats 4000000
/-! ## lists put together that change -/
namespace DL
open PySem PySem.Spec PyProof.Rows L2 RT
def addDM (W : Ms) (x y : Vl) : Res Vl := match lstOf W x, lstOf W y with
  | some l, some m => mkLstM (l ++ m) W
  | _, _ => .stuck
section
variable {K : Fr} {TB : List (Addr × Str)} {E : XK}
theorem o_addM : OpD K TB (rAddA K.K) addDM := fun E ws G H W x y a b Q c rx ry w => by
  unfold addDM at w
  split at w
  · rename_i l m q1 q2
    obtain ⟨p1, vs1, rfl, h1, r1⟩ := lst_at c rx q1
    obtain ⟨p2, vs2, rfl, h2, r2⟩ := lst_at c ry q2
    obtain ⟨k1, k2⟩ := mk_lstM c (Paired.app r1 r2) w
    exact .inr (.inl ⟨p1, p2, vs1, vs2, rfl, rfl, h1, h2, by rw [List.length_append] at k1; exact k1, k2⟩)
  · exact w.elim
end
/-! ### walks from the end -/
theorem revK {X : Cx} (K : PySem.W.Frag) {tg e : Expr} {te : TE} {p pos : Pos} (hg : Gl X "reversed") (hm : X.mg "reversed" = none) (he : PE X e te) (hs : starEach [e] X.env = (false, eval e X.env) :: starEach [] X.env := by rfl) (hK : X.K = K := by rfl) :
    PI X tg (.Call (.Name "reversed" p) [e] [] pos) (iRevA K te) := by
  subst hK
  exact pi_revA hg hm he hs
def revItm (x : Vl) (W : Ms) : Res Itm := match x with
  | .d (.lst l) => .ok ⟨l.reverse.map Vl.d, yes⟩ W
  | .d (.tup l) => .ok ⟨l.reverse.map Vl.d, yes⟩ W
  | .d (.tupK l) => .ok ⟨l.reverse.map Vl.d, yes⟩ W
  | _ => .stuck
def iRev (f : FE) : FI := fun ρ W => (f ρ W).bind revItm
section
variable {K : Fr} {TB : List (Addr × Str)} {E : XK}
theorem rev_at {G : Hp} {vs : List V} {l : List D} (r : RpL K G vs l) {i : Nat} {y : D} (h : l.reverse[i]? = some y) : i < vs.length ∧ ∃ v, vs[vs.length - 1 - i]? = some v ∧ Rp K G v y := by
  have hi : i < l.length := by
    have := (List.getElem?_eq_some_iff.mp h).1
    simpa using this
  rw [List.getElem?_reverse hi] at h
  obtain ⟨v, h1, h2⟩ := r.at h
  rw [r.len]
  exact ⟨hi, v, h1, h2⟩
theorem it_revL {ws : List Addr} {G H : Hp} {a : Addr} {vs : List V} {l : List D} (e : G a = some (.lst vs)) (r : RpL K G vs l) : ItOk K TB ws G H (Itv K.K a vs.length) ⟨l.reverse.map Vl.d, yes⟩ := by
  intro ws2 G2 H2 W2 gg c _ i
  have hs : SqL K.K H2 a vs := SqL.of (c.g _ _ (gg.g _ _ e))
  refine ⟨fun h => ?_, fun x hx => ?_⟩
  · show vs.length ≤ i
    rw [r.len]
    simpa using h
  rw [List.getElem?_map] at hx
  cases q : l.reverse[i]? with
  | none => rw [q] at hx; cases hx
  | some y =>
    rw [q] at hx
    cases hx
    obtain ⟨k, v, h1, h2⟩ := rev_at r q
    refine ⟨⟨k, vs, v, hs, h1⟩, fun u H3 hy => ?_⟩
    obtain ⟨rfl, hy⟩ := hy
    have hv := hy vs hs
    rw [h1] at hv
    cases hv
    exact ⟨G2, .refl, c, .d (h2.to (.of gg.g))⟩
theorem it_revT {ws : List Addr} {G H : Hp} {a : Addr} {vs : List V} {l : List D} (e : SqT K.K G a vs) (r : RpL K G vs l) : ItOk K TB ws G H (ItvT K.K a vs.length) ⟨l.reverse.map Vl.d, yes⟩ := by
  intro ws2 G2 H2 W2 gg c _ i
  have hs : SqT K.K H2 a vs := (Rds.of (K := K) c.g).t _ _ ((Rds.of (K := K) gg.g).t _ _ e)
  refine ⟨fun h => ?_, fun x hx => ?_⟩
  · show vs.length ≤ i
    rw [r.len]
    simpa using h
  rw [List.getElem?_map] at hx
  cases q : l.reverse[i]? with
  | none => rw [q] at hx; cases hx
  | some y =>
    rw [q] at hx
    cases hx
    obtain ⟨k, v, h1, h2⟩ := rev_at r q
    refine ⟨⟨k, vs, v, hs, h1⟩, fun u H3 hy => ?_⟩
    obtain ⟨rfl, hy⟩ := hy
    have hv := hy vs hs
    rw [h1] at hv
    cases hv
    exact ⟨G2, .refl, c, .d (h2.to (.of gg.g))⟩
theorem s_iRev {te : TE} {f : FE} (h : SE K TB E te f) : SI K TB E (iRevA K.K te) (iRev f) := fun σ ws G H ρ W R e c w =>
  h.go (R := ItOk K TB) e c w fun v x W1 ws1 G1 H1 g1 c1 r1 w1 => by
    unfold revItm at w1
    split at w1
    · cases r1 with | d r1 =>
      cases r1 with | lst e1 rl =>
      exact ⟨_, _, rfl, .inl ⟨SqL.of (c1.g _ _ e1), w1.ok c1 (it_revL e1 rl)⟩⟩
    · cases r1 with | d r1 =>
      cases r1 with | tup e1 rl =>
      exact ⟨_, _, rfl, .inr ⟨SqT.of (c1.g _ _ e1), w1.ok c1 (it_revT (SqT.of e1) rl)⟩⟩
    · cases r1 with | d r1 =>
      cases r1 with | tupK e1 rl =>
      exact ⟨_, _, rfl, .inr ⟨(Rds.of (K := K) c1.g).t _ _ e1, w1.ok c1 (it_revT e1 rl)⟩⟩
    · exact w1.elim
end
end DL

set_option Elab.async false
set_option linter.all false
set_option maxRecDepth 100000
set_option maxHeartbeats 4000000
/-! ## a refusal out of a list comprehension -/
namespace LX
open PySem PySem.Spec PyProof.Rows L2
/-- the block's context, with a wish of its own about refusals -/
abbrev blkx (X : Cx) (s : Shared) (H : Hp) (scope : Scope) (ce : Env) (fp : List Addr) (xe : Value → Shared → Prop) : Cx := { X.blk s H scope ce fp with xe := xe }
theorem inv_xe {X : Cx} {pins : List (Addr × Obj)} {σ : L2.St} {H : Hp} {s : Shared} (xe : Value → Shared → Prop) (I : Inv X pins σ H s) : Inv { X with xe := xe } pins σ H s :=
  ⟨⟨I.ok.mod, I.ok.kind, I.ok.glob, I.ok.blt, I.ok.above, I.ok.inj, I.ok.has, I.ok.cab, I.ok.hd, I.ok.frames, I.ok.stk, I.ok.exf, I.ok.bs, I.ok.bsz, I.ok.noex, I.ok.exfs, I.ok.funs, I.ok.frf⟩,
    I.os, I.bare, I.base, I.loc, I.cell, I.free, I.freeC, I.pin, I.hok, I.len⟩
theorem inv_back {X : Cx} {pins : List (Addr × Obj)} {σ : L2.St} {H : Hp} {s : Shared} {xe : Value → Shared → Prop} (I : Inv { X with xe := xe } pins σ H s) : Inv X pins σ H s := inv_xe (X := { X with xe := xe }) X.xe I
theorem ff_less {h B B' : Heap} (k : ∀ b, B.get? b = none → B'.get? b = none) : ∀ {l : List Env}, h.FunFrames B l → h.FunFrames B' l
  | [], _ => trivial
  | _ :: _, ⟨a, ⟨L, o, hf, hb, ho, hd⟩, r⟩ => ⟨a, ⟨L, o, hf, k _ hb, ho, hd⟩, ff_less k r⟩
section
variable {X : Cx} {pins pins0 : List (Addr × Obj)} {σ σ0 : L2.St} {H H3 : Hp} {s s3 s' : Shared} {scope : Scope} {ce : Env} {fp : List Addr} {E : XK} {u : Value}
theorem exc_out (hs : X.stack = X.env :: X.outer) (hf : X.env.frame = some X.env.locals) (tk : Takes X (fun cls d _ H => E cls d H))
    (I3 : Inv X pins0 σ0 H3 s3) (hL : ce.locals = s3.heap.objs.size) (hcf : ce.frame = X.env.frame)
    (f3 : ∀ b ∈ fp, FpOk X pins0 H3 b ∧ b < s3.heap.objs.size)
    (I : Inv (X.blk s3 H3 scope ce fp) pins σ H s) (c : CX X.prog X.w X.stack H s E u s') :
    notedBy (model X.prog X.w) X.A ce (CompFails (model X.prog X.w) X.A X.xe ce) u s' := by
  obtain ⟨a, B, H1, cls, d, rfl, fly, hok, ub, na, os, ag, hE⟩ := c
  have hfr : X.A.frames = some (X.env :: X.outer) := by rw [I3.ok.frames, hs]
  obtain ⟨m, ⟨oC, es, ep, hoC, hdC, hk, hfi⟩, _⟩ := I.loc
  have nC : H ce.locals = none := I.free
  have lt3 : ∀ b o, s3.heap.get? b = some o → b ≠ ce.locals := fun b o e z => by
    have := Heap.lt_size e
    rw [z, hL] at this
    exact absurd this (Nat.lt_irrefl _)
  have stk3 : ∀ b ∈ frs X.stack, ∃ o, s3.heap.get? b = some o ∧ ∀ vs, o.data ≠ .fields vs := fun b hb => by
    obtain ⟨_, o, ho, hd⟩ := I3.stack.mem hb
    exact ⟨o, ho, hd⟩
  have nfC : ce.locals ∉ frs X.stack := fun hb => by
    obtain ⟨o, ho, _⟩ := stk3 _ hb
    exact lt3 _ _ ho rfl
  have hoC1 : B.get? ce.locals = some oC := ub.keep _ _ hoC nC nfC
  have nC1 : H1 ce.locals = none := ub.free _ _ hoC nC
  show wpAny _ _ (noteFrame (.ref a) ce) _ _ s'
  rw [noteFrame_env _ hcf]
  refine HandSPX.looks_onZ Zc.steady hfr hf (by rw [← hs]; exact fly) fun h1 held up1 => ?_
  obtain ⟨b1, b0, f1, t1⟩ := held
  have hC1 := b1 _ _ hoC1
  refine ⟨m, ⟨oC, es, ep, hC1, hdC, hk, hfi⟩, fun h2 m2 hn2 sb => ?_⟩
  obtain ⟨oe, vs, T, oT, ts, he, hz, hd, hv1, hnT, hTe, hT, hdT, ht3⟩ := t1
  have nf : ∀ b o vs, h1.get? b = some o → o.data = .fields vs → b ≠ ce.locals := fun b o vs e q z => by
    rw [z, hC1] at e
    cases e
    rw [hdC] at q
    cases q
  have he2 := (sb.2 a (nf _ _ _ he hd)).trans he
  have hT2 := (sb.2 T (nf _ _ _ hT hdT)).trans hT
  unfold PySem.passOn
  refine wpAny_bind (wpAny_field he2 hd hv1 ?_)
  rw [if_neg (show ¬ ((Value.ref T == Value.none) = true) from by simp), hcf, hf]
  generalize hB : PySem.W.hideAll B [ce.locals] = B'
  have toB : ∀ b o, B.get? b = some o → b ≠ ce.locals → B'.get? b = some o := fun b o e n => by
    rw [← hB]
    exact PySem.W.hideAll_get _ e (by simpa using n)
  have ofB : ∀ b o, B'.get? b = some o → B.get? b = some o ∧ b ≠ ce.locals := fun b o e => by
    rw [← hB] at e
    refine ⟨PySem.W.of_hideAll _ e, fun z => ?_⟩
    rw [PySem.W.hideAll_none [ce.locals] (by rw [z]; exact List.mem_singleton_self _)] at e
    cases e
  have less : ∀ b, B.get? b = none → B'.get? b = none := fun b e => by
    cases q : B'.get? b with
    | none => rfl
    | some o =>
      have := (ofB _ _ q).1
      rw [e] at this
      cases this
  have st2 : B'.StaysIn h2 := fun b o e => (sb.2 b (ofB _ _ e).2).trans (b1 b o (ofB _ _ e).1)
  refine wpAny_bind (HandSPX.setFlight_onZ (base := B') (l := X.env :: X.outer) (Z := Zc cls d) ⟨st2, less _ b0, ff_less less (Heap.FunFrames.sameBut sb hn2 f1), ⟨oe, vs, T, oT, ts, he2, hz, hd, hv1, less _ hnT, hTe, hT2, hdT, ht3⟩⟩ fun h4 held4 up4 => ?_)
  refine wpAny_throw ?_
  obtain ⟨G, g1, g2⟩ := restrict h4 fun b => (B'.get? b).isSome || decide (b ∈ frs X.stack)
  have gB : ∀ b o, B'.get? b = some o → G.get? b = some o := fun b o e => by
    rw [g1 b (by simp [e])]
    exact held4.1 b o e
  have gF : ∀ b, b ∈ frs X.stack → G.get? b = h4.get? b := fun b hb => g1 b (by simp [hb])
  have og : ∀ b o, G.get? b = some o → h4.get? b = some o ∧ ((B'.get? b).isSome = true ∨ b ∈ frs X.stack) := fun b o e => by
    cases q : ((B'.get? b).isSome || decide (b ∈ frs X.stack)) with
    | false => rw [g2 b q] at e; cases e
    | true =>
      rw [g1 b q] at e
      exact ⟨e, by simpa [Bool.or_eq_true] using q⟩
  have slots : ∀ b o, s3.heap.get? b = some o → b ∈ frs X.stack → b ∉ fp → ∃ sl, G.get? b = some { o with slots := sl } := fun b o e hb hx => by
    obtain ⟨o', e', hd'⟩ := stk3 b hb
    rw [e] at e'
    cases e'
    obtain ⟨sl1, e1⟩ := I.base.slot b o e (I3.stkFree b hb) hb hx
    obtain ⟨sl2, e2⟩ := ub.slot b _ e1 hb
    obtain ⟨sl3, e3⟩ := up1 b _ e2 hd'
    obtain ⟨sl4, e4⟩ := up4 b _ ((sb.2 b (lt3 _ _ e)).trans e3) hd'
    exact ⟨sl4, by rw [gF b hb]; exact e4⟩
  have hGok : HOk X.prog X.w H1 G := HOk.kept (fun b o q => (hok b o q).stay (fun c u hc r => toB c u r fun z => by
    rcases hc with hc | hc
    · rw [hc] at z
      rw [z, nC1] at q
      cases q
    · rw [z, nC1] at hc
      cases hc) (fun _ r => r) fun _ _ r => r) gB
  have J : Inv X pins0 σ0 H1 { s with heap := G, gens := s'.gens, drawn := s'.drawn, toks := s'.toks } := by
    refine I3.call' (ch := fp) I.os ⟨fun b o e n hb hx => ?_, fun b o e n hb hx => slots b o e hb hx, fun b o e n hx => ?_, fun b o e hx => ?_, fun b xs e => ub.tups b xs (I.base.tups b xs e), fun b o xs e => ub.frzs b o xs (I.base.frzs b o xs e), fun b ps e => ?_⟩ hGok ag
      fun b hb => ⟨(f3 b hb).1.2.2.2.1, (f3 b hb).1.2.1, (f3 b hb).1.2.2.2.2.1, (f3 b hb).1.2.2.2.2.2⟩
    · exact gB _ _ (toB _ _ (ub.keep b o (I.base.keep b o e n hb hx) (I.base.free b o e n hx) hb) (lt3 _ _ e))
    · obtain ⟨o', e'⟩ := I.base.there b o e hx
      exact ub.free b o' e' (I.base.free b o e n hx)
    · by_cases hb : b ∈ frs X.stack
      · obtain ⟨sl, q⟩ := slots b o e hb hx
        exact ⟨_, q⟩
      · obtain ⟨o', e'⟩ := I.base.there b o e hx
        obtain ⟨o2, e2⟩ := ub.there b o' e' hb
        exact ⟨o2, gB _ _ (toB _ _ e2 (lt3 _ _ e))⟩
    · obtain ⟨p1, e1⟩ := I.base.tbls b ps e
      obtain ⟨p2, e2⟩ := ub.tbls b _ e1
      exact ⟨p1 ++ p2, by rw [e2, Array.append_assoc]⟩
  refine tk (.ref a) _ ⟨a, B', _, pins0, σ0, H1, cls, d, rfl, J, fun b o e hb => ?_, Heap.UpToSlots.of_keeps fun b o e => (og b o e).1, .inr (.inr (by rw [hs]; exact held4)), na, os, ag, hE⟩
  obtain ⟨e1, h⟩ := og b o e
  rcases h with h | h
  · obtain ⟨o', q⟩ := Option.isSome_iff_exists.mp h
    have z := held4.1 b o' q
    rw [e1] at z
    cases z
    exact q
  · exact absurd h hb
end
end LX
namespace LX
open PySem PySem.Spec PyProof.Rows L2
section
variable {X : Cx} {E : XK}
/-- [e for x in xs if ..], where e may refuse -/
theorem pe_lcx {elt tg iter : Expr} {ifs : List Expr} {scope : Scope} {own : List (Str × Nat)} {pos : Pos} {wi : TI} {g : TG} {tt : TT} {te : TE}
    (hs : X.stack = X.env :: X.outer) (hf : X.env.frame = some X.env.locals) (tk : Takes X (fun cls d _ H => E cls d H))
    (hc : X.calm = true) (hN : X.N.Nodup) (hi : PI X tg iter wi) (ok : BlkOk X.N X.env.scope scope own)
    (hg : ∀ (s : Shared) (H : Hp) (C : Addr) (cl : List (Str × Addr)) (fp : List Addr), PG (X.blk s H scope (compEnvC scope cl C X.env) fp) tg g)
    (ht : ∀ (s : Shared) (H : Hp) (C : Addr) (cl : List (Str × Addr)) (fp : List Addr), PTs (X.blk s H scope (compEnvC scope cl C X.env) fp) ifs tt)
    (he : ∀ (s : Shared) (H : Hp) (C : Addr) (cl : List (Str × Addr)) (fp : List Addr) (xe : Value → Shared → Prop),
      Passes (CX X.prog X.w) (blkx X s H scope (compEnvC scope cl C X.env) fp xe) E → PE (blkx X s H scope (compEnvC scope cl C X.env) fp xe) elt te)
    (hfold : ∀ x, foldedSetIterable iter X.env x = pure x := by intro _; rfl) :
    PE X (.ListComp elt [⟨tg, iter, ifs, 0⟩] scope pos) (tLc wi g tt te (own.map (·.2))) := by
  refine ⟨fun pins s σ H Q I h => ?_⟩
  rw [eval_ListComp]
  have hfree : ∀ y ∈ scope.names, y.2 = .free → ∃ c, X.env.cells.lookup y.1 = some c := fun y hy e =>
    (ok.free y hy e).elim (fun k => I.ok.has _ (.inl k)) fun k => I.ok.has _ (.inr k)
  refine comprehension_at (use := none) rfl hfold (closure_ok hfree) ok.kind (fun y hy e => by rw [ok.uniq y hy, e]) ?_
  refine wpAny_mono (hi.run pins s σ H _ I h) (fun xv s1 hx => wpAny_mono hx (fun itv s2 h2 => ?_) fun _ _ z => z) fun _ _ z => z
  obtain ⟨it, fp, tn, J, H2, rfl, I2, T, st2, f2, q⟩ := h2
  refine wpAny_newObj_type (newEnv_comp ?_) (by show 0 ≤ sizeLine; decide)
  have hDn : H2 s2.heap.objs.size = none := I2.hok.fresh (Nat.le_refl _)
  generalize hD : s2.heap.objs.size = D at hDn
  obtain ⟨W, ⟨m0, w0⟩, turn⟩ := q D hDn
  generalize hs3 : ({ s2 with heap := s2.heap.push { cls := .type "list", data := .seq ([] : List Value).toArray } } : Shared) = s3
  have I3 : Inv X pins σ (upd H2 D (.lst [])) s3 := by
    subst hs3 hD
    exact I2.laid (t' := s2.toks) (fun b o e => Heap.get?_push_of_some _ e) (Nat.le_refl _) ⟨Nat.zero_le _, [], 0, .nil, Heap.get?_push_size _ rfl⟩
  have up3 : ∀ b o, s2.heap.get? b = some o → s3.heap.get? b = some o := fun b o e => by
    subst hs3
    exact Heap.get?_push_of_some _ e
  have lt2 : ∀ b ∈ fp, b < s2.heap.objs.size := fun b hb => let ⟨_, e, _⟩ := T.obj _ _ st2 b hb; Heap.lt_size e
  have f3 : ∀ b ∈ fp, FpOk X pins (upd H2 D (.lst [])) b ∧ b < s3.heap.objs.size := fun b hb =>
    ⟨⟨by rw [upd_ne (by rw [← hD]; exact Nat.ne_of_lt (lt2 b hb))]; exact (f2 b hb).1, (f2 b hb).2⟩, let ⟨_, e, _⟩ := T.obj _ _ st2 b hb; Heap.lt_size (up3 _ _ e)⟩
  have st3 : tn 0 s3.heap := T.keep _ _ _ st2 fun b _ o e => up3 b o e
  have I4 := block_start I3 ok hN f3
  generalize hH3 : upd H2 D (.lst []) = H3 at I3 I4 w0 f3
  generalize hcl : cellsFrom (s3.heap.objs.size + 1) scope.names (cloFrom X.env.cells scope.names []) = cl at I4
  have pg := hg s3 H3 s3.heap.objs.size cl fp
  have pt := ht s3 H3 s3.heap.objs.size cl fp
  have pe := he s3 H3 s3.heap.objs.size cl fp
  have hL : (compEnvC scope cl s3.heap.objs.size X.env).locals = s3.heap.objs.size := rfl
  have hcf : (compEnvC scope cl s3.heap.objs.size X.env).frame = X.env.frame := rfl
  have goal : codeAny (model X.prog X.w) X.A (.compStart (.ListComp elt [⟨tg, iter, ifs, 0⟩] scope pos) 0 (.ref it) (.ref D) (compEnvC scope cl s3.heap.objs.size X.env))
      (compEnds (model X.prog X.w) X.A X.xe none (fun v s' => ∃ (x : V) (H' : Hp), Inv X pins σ H' s' ∧ RelV x v ∧ Q x H') (.ref D) (compEnvC scope cl s3.heap.objs.size X.env)) { s3 with heap := pushCells (s3.heap.push { cls := .type "dict", data := .dict #[] }) scope.names } := by
    generalize hce : compEnvC scope cl s3.heap.objs.size X.env = ce at I4 pg pt pe hL hcf ⊢
    generalize hs4 : ({ s3 with heap := pushCells (s3.heap.push { cls := .type "dict", data := .dict #[] }) scope.names } : Shared) = s4 at I4 ⊢
    have st4 : tn 0 s4.heap := T.keep _ _ _ st3 fun b _ o e => by
      rw [← hs4]
      exact pushCells_keeps _ _ _ _ (Heap.get?_push_of_some _ e)
    have stat : ∀ {σ' : L2.St} {H' : Hp} {s' : Shared}, Inv (X.blk s3 H3 scope ce fp) [] σ' H' s' → (∀ b ∈ fp, H' b = none) → ∀ b ∈ fp, FpOk (X.blk s3 H3 scope ce fp) [] H' b := fun {σ' H' s'} I' hn b hb =>
      ⟨hn b hb, (I'.ok.exf b hb).1, I'.ok.exfs b hb, Or.inl hb, fun x c e => (I'.ok.exf b hb).2 x c e, fun p hp => (nomatch hp)⟩
    have loop : codeAny (model X.prog X.w) X.A (.compLoop (.ListComp elt [⟨tg, iter, ifs, 0⟩] scope pos) 0 (.ref it) (.ref D) ce)
        (compEnds (model X.prog X.w) X.A X.xe none (fun v s' => ∃ (x : V) (H' : Hp), Inv X pins σ H' s' ∧ RelV x v ∧ Q x H') (.ref D) ce) s4 := by
      refine compLoop_any (fun n s' => ∃ i H', Inv (X.blk s3 H3 scope ce fp) [] (wipe σ (own.map (·.2))) H' s' ∧ tn i s'.heap ∧ (∀ b ∈ fp, H' b = none) ∧ W i n H') ?_ m0 ⟨0, H3, I4, st4, fun b hb => (f3 b hb).1.1, w0⟩
      rintro n s5 ⟨i, H5, I5, st5, n5, w5⟩
      rcases turn i n H5 w5 with ⟨stop, qq⟩ | ⟨go, Nx, hNx, step⟩
      · refine thnF (T.done (X.blk s3 H3 scope ce fp) rfl rfl rfl hc i [] s5 _ H5 (fun _ _ => False) I5 (stat I5 n5) st5 stop) ?_
        rintro _ s6 ⟨rfl, I6⟩
        have I7 : Inv X pins σ H5 s6 := I3.call' (ch := fp) I6.os I6.base I6.hok I6.bare fun b hb => let z := (f3 b hb).1.2; ⟨z.2.2.1, z.1, z.2.2.2.1, z.2.2.2.2⟩
        obtain ⟨m, hn, _⟩ := I6.loc
        refine ⟨m, hn, fun h'' sb => ?_⟩
        have nC : H5 s3.heap.objs.size = none := by
          rw [← hL]
          exact I6.free
        obtain ⟨g0, g1, g2, g3, g4, g5⟩ := I3.fpOk (Nat.le_refl _) nC
        rw [← hL] at g0 g1 g2 g3 g4 g5
        exact ⟨.ref D, H5, I7.turned (t' := s6.toks) (fun b o hb e => (sb.2 b hb).trans e) g0 g1 g3 g4 g5, rfl, qq⟩
      · refine thnF (T.item (X.blk s3 H3 scope ce fp) rfl rfl rfl hc i [] s5 _ H5 (fun _ _ => False) I5 (stat I5 n5) st5 go) ?_
        rintro _ s6 ⟨u, rfl, h6⟩
        refine thnF h6 fun _ s7 ⟨x, H7, I7, r7, y7, st7, n7⟩ => ?_
        refine thnF (pg.run _ s7 _ H7 x u _ (I7.pinned (stat I7 n7) (T.obj _ _ st7)) r7 (step x H7 y7)) fun _ s8 ⟨σ8, H8, I8, hw8, q8⟩ => ?_
        refine thnF (pt.run _ s8 σ8 H8 _ I8 q8) fun b s9 ⟨H9, I9, q9⟩ => ?_
        have fin : ∀ {s' : Shared} {H' : Hp}, Inv (X.blk s3 H3 scope ce fp) ([] ++ pinsAt fp s7.heap) σ8 H' s' → Nx H' →
            ∃ m, m < n ∧ ∃ i H', Inv (X.blk s3 H3 scope ce fp) [] (wipe σ (own.map (·.2))) H' s' ∧ tn i s'.heap ∧ (∀ b ∈ fp, H' b = none) ∧ W i m H' := fun {s' H'} I' nx => by
          obtain ⟨m', hm, w'⟩ := hNx H' nx
          have pin' : ∀ b ∈ fp, ∀ o, s7.heap.get? b = some o → s'.heap.get? b = some o ∧ H' b = none := fun b hb o e =>
            (fun z => ⟨z.1, z.2.1⟩) (I'.pin (b, o) (List.mem_append_right _ (List.mem_append_right _ (mem_pinsAt hb e))))
          refine ⟨m', hm, i + 1, H', I'.unpinned.weak (by rw [← hw8, wipe_length]) (fun j v e => ?_), T.keep _ _ _ st7 fun b hb o e => (pin' b hb o e).1, fun b hb => ?_, w'⟩
          · rw [← hw8] at e
            exact (wipe_some e).1
          · obtain ⟨o, e, _⟩ := T.obj _ _ st7 b hb
            exact (pin' b hb o e).2
        cases b with
        | false => exact fin I9 q9
        | true =>
          refine wpAny_mono ((pe _ fun pns sg Hh sx e s' Iq cq => exc_out hs hf tk I3 hL hcf f3 (inv_back Iq) cq).run _ s9 σ8 H9 _ (inv_xe _ I9) q9) (fun z s10 hz => ?_) fun _ _ z => z
          obtain ⟨yv, H10, I10, r10, acc, hD10, hz10, nx⟩ := hz
          exact app_ok (X := X.blk s3 H3 scope ce fp) (inv_back I10) hD10 hz10 r10 fun s11 I11 => fin I11 nx
    exact codeAny_compStart_list loop (T.self X.A 0 _ _ _ st4 loop)
  subst hcl hs3 hD
  exact goal
end
end LX

set_option Elab.async false
set_option linter.all false
set_option maxRecDepth 100000
set_option maxHeartbeats 4000000
/-! ## told, a def that makes a lambda, the law's end -/
namespace DL
open PySem PySem.Spec PyProof.Rows L2
section
variable {K : Fr} {TB : List (Addr × Str)} {E : XK} {ws : List Addr} {G H H1 : Hp} {W : Ms}
theorem Cf.lam (c : Cf K TB ws G H W) (x : LamX.ExtN H H1) (t : LamX.Tabs TB H1) : Cf K TB ws G H1 W where
  g := fun b o e => x b o (c.g b o e) fun ps z => c.nt b ps (z ▸ e)
  len := c.len
  nd := c.nd
  nt := c.nt
  dm := fun b hb => by
    obtain ⟨o, e, n⟩ := c.dm b hb
    exact ⟨o, x b o e n, n⟩
  ob := fun n a m e1 e2 hm => by
    obtain ⟨h1, h2⟩ := c.ob n a m e1 e2 hm
    obtain ⟨u, eu, pu⟩ := h2.plain hm
    exact ⟨h1, h2.to (fun v y r => r) ((x a u eu pu.1).trans eu.symm)⟩
  tb := t
theorem Gr.lam (x : LamX.ExtN H H1) : Gr ws G H ws G H1 :=
  ⟨fun _ _ e => e, ⟨[], by simp⟩, fun a o e _ n => x a o e n, fun a o u e => x a _ e (fun _ z => nomatch z), fun _ _ _ _ hw => hw, fun _ _ _ hg _ _ => .inl hg⟩
/-- told(lambda: e): what e gives, or a word for its refusal -/
def eTold (tl : Addr → Option Str) (f : FE) : FE := fun ρ W => match f ρ W with
  | .ok v W1 => .ok v W1
  | .exc C W1 => (match tl C with
    | some s => .ok (.d (.str s)) W1
    | none => .stuck)
  | .stuck => .stuck
theorem s_told {l : List (Value × Str)} {t : XK → TE} {tl : Addr → Option Str} {f : FE} (hl : ∀ (C : Addr) (s : Str), tl C = some s → ∀ (Q : VK) (H : Hp), Q (.str s) H → LamX.wTold K.K Q l (.ref C) H)
    (h : ∀ E', SE K TB E' (t E') f) : SE K TB E (LamX.tLam TB (LamX.TTm K.K l) t) (eTold tl f) := fun σ ws G H ρ W Q e c w => by
  refine ⟨c.tb, fun H1 x t1 => ?_⟩
  refine h _ σ ws G H1 ρ W Q e (c.lam x t1) ?_
  unfold eTold at w
  cases q : f ρ W with
  | ok v W1 =>
    rw [q] at w
    exact Wish.up w (Gr.lam x)
  | exc C W1 =>
    simp only [q] at w
    cases q2 : tl C with
    | none => rw [q2] at w; exact w.elim
    | some s =>
      rw [q2] at w
      intro ws' G' H' g c'
      exact hl C s q2 Q H' (w (.str s) ws' G' H' ((Gr.lam x).trans g) c' (.d (.str s)))
  | stuck => rw [q] at w; exact w.elim
end
/-! ### a def whose code is known -/
section
variable {P : Program} {w : World} {K : Fr} {TB : List (Addr × Str)} {mg : Str → Option Value} {base : Heap} {x qual : Str} {st : Stmt} {f cd : Addr} {fd : FuncData} {N ps : List Str} {k : Nat} {b : FS}
theorem FunC.okX {sp : Sp} (F : L2.FunC K.K x qual st f fd cd) (S : L2.FnScope N ps (L2.defScope st)) (len : ∀ vs H Q E, sp vs H Q E → vs.length = ps.length)
    (hbody : ∀ (A : Around) (outer : List Env) (s : Shared) (H : Hp) (vs : List V) (Q : VK) (E : XK), L2.Room k (A.deeper (envOfC qual (L2.defScope st) s.heap.objs.size f (.ref cd))) → sp vs H Q E →
      ∃ t, L2.PSs (L2.cxOf (L2.CX P w) P w K.K mg base N qual (L2.defScope st) f (.ref cd) A outer s H E) (L2.defBody st) t ∧ t { nx := fun _ H' => Q .non H', rt := Q } (L2.start N vs) H) : L2.FnOk P w K.K mg base (L2.CX P w) (k + 1) f fd ps sp := by
  obtain ⟨oc, od, kV, doc, pm, an, ct, osl, rfl, lk, hcd⟩ := F.ex
  exact fn_of lk hcd S len fun A outer s H vs Q E hr hsp => hbody A outer s H vs Q E hr hsp
theorem FunC.okB (F : L2.FunC K.K x qual st f fd cd) (S : L2.FnScope N ps (L2.defScope st))
    (hbody : ∀ (A : Around) (outer : List Env) (s : Shared) (H : Hp) (E : XK), L2.Room k (A.deeper (envOfC qual (L2.defScope st) s.heap.objs.size f (.ref cd))) →
      ∃ t, L2.PSs (L2.cxOf (L2.CX P w) P w K.K mg base N qual (L2.defScope st) f (.ref cd) A outer s H E) (L2.defBody st) t ∧ SS K TB E t b) : L2.FnOk P w K.K mg base (L2.CX P w) (k + 1) f fd ps (spD K TB (runB ps.length N.length b)) := by
  refine FunC.okX F S (fun vs H Q E h => ?_) fun ar outer s H vs Q E hr h => ?_
  · obtain ⟨ws, G, W, ds, c, r, w⟩ := h
    exact (Paired.length r).trans (runB_len w)
  · obtain ⟨ws, G, W, ds, c, r, w⟩ := h
    obtain ⟨t, h1, h2⟩ := hbody ar outer s H E hr
    exact ⟨t, h1, body_ok h2 c r w⟩
theorem FunC.ok0 (F : L2.FunC K.K x qual st f fd cd) (S : L2.FnScope N ps (L2.defScope st))
    (hbody : ∀ (A : Around) (outer : List Env) (s : Shared) (H : Hp) (E : XK), L2.Room k (A.deeper (envOfC qual (L2.defScope st) s.heap.objs.size f (.ref cd))) →
      ∃ t, L2.PSs (L2.cxOf (L2.CX P w) P w K.K mg base N qual (L2.defScope st) f (.ref cd) A outer s H E) (L2.defBody st) t ∧ SS K TB E t b) : L2.FnOk P w K.K mg base (L2.CX P w) (k + 1) f fd ps (spD K TB (run0 ps.length N.length b)) := by
  refine FunC.okX F S (fun vs H Q E h => ?_) fun ar outer s H vs Q E hr h => ?_
  · obtain ⟨ws, G, W, ds, c, r, w⟩ := h
    exact (Paired.length r).trans (run0_len w)
  · obtain ⟨ws, G, W, ds, c, r, w⟩ := h
    obtain ⟨t, h1, h2⟩ := hbody ar outer s H E hr
    exact ⟨t, h1, body0_ok h2 c r w⟩
end
/-! ### the end -/
section
variable {K : Fr}
theorem ints_rp {G : Hp} : ∀ ns : List Int, RpL K G (ns.map V.int) (ns.map D.int)
  | [] => .nil
  | n :: ns => .cons (.int n) (ints_rp ns)
/-- the heap without its tables -/
def noTbl (H : Hp) : Hp := fun b => match H b with
  | some (.tbl _) => none
  | o => o
theorem noTbl_of {H : Hp} {b : Addr} {o : HO} (e : H b = some o) (n : ∀ ps, o ≠ .tbl ps) : noTbl H b = some o := by
  unfold noTbl
  rw [e]
  cases o with
  | tbl ps => exact absurd rfl (n ps)
  | _ => rfl
theorem noTbl_to {H : Hp} {b : Addr} {o : HO} (e : noTbl H b = some o) : H b = some o ∧ ∀ ps, o ≠ .tbl ps := by
  unfold noTbl at e
  split at e
  · cases e
  · rename_i hn
    refine ⟨e, fun ps z => ?_⟩
    subst z
    exact hn ps e
/-- what is known of the law on data is known of it in the model -/
theorem spD_law {TB : List (Addr × Str)} {F : FD} {H : Hp} {a : Addr} {ns : List Int} {W' : Ms} (tb : LamX.Tabs TB H) (hS : SqL K.K H a (ns.map V.int)) (h : F [.d (.lstK (ns.map D.int))] [] = .ok (.d (.bl true)) W') :
    spD K TB F [.ref a] H (fun v _ => v = .bl true) fun _ _ _ => False := by
  have sq : SqL K.K (noTbl H) a (ns.map V.int) := by
    rcases hS with (h | ⟨o, h⟩) | h
    · exact .inl (.inl (noTbl_of h fun _ z => nomatch z))
    · exact .inl (.inr ⟨o, noTbl_of h fun _ z => nomatch z⟩)
    · exact .inr h
  refine ⟨[], noTbl H, [], _, ⟨fun b o e => (noTbl_to e).1, rfl, List.nodup_nil, (fun _ hb => nomatch hb), fun b ps e => (noTbl_to e).2 ps rfl, fun n b m e => by simp at e, tb⟩, .cons (.d (.lstK sq (ints_rp ns))) .nil, ?_⟩
  rw [h]
  intro b ws' G' H' _ _ r
  cases r with
  | d r =>
    cases r
    rfl
theorem tabs_one {P : Addr} {q : Str} {H : Hp} (h : H P = some (.tbl #[])) : LamX.Tabs [(P, q)] H := fun p hp => by
  cases List.mem_singleton.mp hp
  exact ⟨#[], h, trivial, fun pos cv z => by cases z⟩
theorem tabs_nil {H : Hp} : LamX.Tabs [] H := fun p hp => nomatch hp
end
end DL

set_option Elab.async false
set_option linter.all false
set_option maxRecDepth 100000
set_option maxHeartbeats 4000000
/-! ## the end of a law of which another def makes the lambdas -/
namespace LX
open PySem PySem.Spec PyProof.Rows L2 LamX
theorem walk_at {law : PySem.W.OpenLaw} {most lv : Nat} {prog : Program} {names : List Str} {PX : (Str → Option Value) → Heap → Prop} {PY : World → Heap → Prop} {dl : DefRec} {Kp : Params → PySem.W.Frag} {CW : World → CXT} {arg : Str} (nm : Str)
    (h1 : law.most = some most) (h2 : most ≤ sizeLine) (h3 : dl.params.defaults = []) (h4 : Room lv callerA) (h5 : ((recsOf prog).any fun e => e.name == nm) = true) (h6 : ∀ (w : World) (h : Heap), PY w h → (Kp w.params).In h)
    (h7 : ∀ (w : World) (mg : Str → Option Value) (fa : Addr) (h : Heap), PY w h → (Kp w.params).In h → h.Ns mainGlobals mg → mg dl.name = some (.ref fa) → (∀ fb, mg nm = some (.ref fb) → OwnTab (Kp w.params) fb h) → LawAtS law w (Kp w.params) (CW w) lv most arg mg fa h)
    (h8 : ∀ (w : World) (H : Hp) (s : Shared) (e : Value) (s' : Shared), CW w [] H s (fun _ _ _ => False) e s' → False) :
    PySem.W.WalkO prog names PX PY law.row.toRowW dl [] (fun f vs => PySem.call f vs) := by
  refine Att.attach_callB h1 h3 fun w sa sb mg mb fa ob pm cv doc a vs ns GG YY g1 g2 g3 gmg g4 g5 g6 g7 g8 => ?_
  have inK := h6 w _ YY
  have own : ∀ fb, mg nm = some (.ref fb) → OwnTab (Kp w.params) fb sb.heap := fun fb hfb c P o1 fd1 e dd us sl k1 k2 k3 k4 k5 => by
    obtain ⟨dr, hm, hn1⟩ := List.any_eq_true.mp h5
    obtain ⟨a2, o2, fd2, c2, P2, q1, q2, q3, q4, q5, ⟨⟨oc, vc, e1, _, e3, e4⟩, hP⟩⟩ := GG.T.tab dr hm
    rw [beq_iff_eq.mp hn1, hfb] at q1
    obtain rfl : fb = a2 := by injection q1 with q1; injection q1
    rw [inK _ _ k1] at q2
    obtain rfl : o1 = o2 := Option.some.inj q2
    rw [k2] at q3
    obtain rfl : fd1 = fd2 := by injection q3
    rw [k3] at q4
    obtain rfl : c = c2 := by injection q4
    rw [inK _ _ k4] at e1
    cases e1
    cases e3
    rw [k5] at e4
    obtain rfl : P = P2 := by injection e4 with e4; injection e4
    exact hP
  obtain ⟨fd, cs, sp, t1, t2, t3, t4, t5, t6⟩ := h7 w mg fa _ YY inK GG.T.g gmg own
  exact law_callTs inK GG.T.g GG.T.b GG.T.builtins GG.T.nolimit g8 t1 t2 t3 GG.T.bmain g4 g5 (Nat.le_trans g6 h2) h4 t6 t4 (fun H hH hS => t5 H a ns g6 g7 hH hS) fun H e s' => h8 w H sb e s'
end LX

set_option Elab.async false
set_option linter.all false
set_option maxRecDepth 100000
set_option maxHeartbeats 4000000
/-! ## zip of a list and a tuple -/
namespace DZ
open PySem PySem.Spec PyProof.Rows L2
/-- the list at a and the tuple at b, turn by turn -/
def ItzM (K : PySem.W.Frag) (a b : Addr) (n m : Nat) : It where
  go i H := ∃ (xs ys : List V) (x y : V), SqL K H a xs ∧ SqT K H b ys ∧ (xs.length = n ∧ ys.length = m) ∧ xs[i]? = some x ∧ ys[i]? = some y
  yld i H v H' := ∃ T x y, v = .ref T ∧ H T = none ∧ H' = upd H T (.tup [x, y]) ∧ (∀ xs, SqL K H a xs → xs[i]? = some x) ∧ ∀ ys, SqT K H b ys → ys[i]? = some y
  stop i H := ∃ xs ys : List V, SqL K H a xs ∧ SqT K H b ys ∧ (xs.length = n ∧ ys.length = m) ∧ (xs.length ≤ i ∨ ys.length ≤ i)
theorem sep_of {a b z TI TO i1 i2 : Addr} (D : ZipApart z TI TO i1 i2 a b) : ZipSep2 z TI TO i1 i2 [i1, a] [i2, b] where
  TIz := D.TIz
  TOz := D.TOz
  TITO := D.TITO
  TIi1 := D.TIi1
  TIi2 := D.TIi2
  mem1 := by simp
  mem2 := by simp
  zf1 := by simpa using ⟨fun e => D.i1z e.symm, fun e => D.l1z e.symm⟩
  zf2 := by simpa using ⟨fun e => D.i2z e.symm, fun e => D.l2z e.symm⟩
  Tf1 := by simpa using ⟨D.TOi1, fun e => D.l1TO e.symm⟩
  Tf2 := by simpa using ⟨D.TOi2, fun e => D.l2TO e.symm⟩
  sep1_2 := by simpa using ⟨D.i12, fun e => D.l2i1 e.symm⟩
  sep2_1 := by simpa using ⟨fun e => D.i12 e.symm, fun e => D.l1i2 e.symm⟩
theorem turn_zipM {P : Program} {w : World} {K : PySem.W.Frag} {elts : List Expr} {kk : Nat} {tpos : Pos} {a b z TI TO i1 i2 : Addr} {n m : Nat} (D : ZipApart z TI TO i1 i2 a b) :
    Turn P w K (.Tuple elts kk tpos) (ItzM K a b n m) [z, TI, TO, i1, i2] z (fun i h => (i ≤ n ∧ i ≤ m) ∧ IsZip h z TI TO .none ∧ IsPair h TI (.ref i1) (.ref i2) ∧ (∃ x y, IsPair h TO x y) ∧ h.IsListIter i1 a i ∧ h.IsTupleIter i2 b i) where
  mem := List.mem_cons_self
  obj := fun i h ⟨_, hz, hTI, ⟨x, y, hTO⟩, ⟨o1, e1, _, d1⟩, ⟨o2, e2, _, d2⟩⟩ c hc => by
    simp only [List.mem_cons, List.not_mem_nil, or_false] at hc
    rcases hc with rfl | rfl | rfl | rfl | rfl
    · exact ⟨_, hz, fun v q => nomatch q⟩
    · exact ⟨_, hTI, fun v q => nomatch q⟩
    · exact ⟨_, hTO, fun v q => nomatch q⟩
    · exact ⟨o1, e1, fun v q => by rw [d1] at q; cases q⟩
    · exact ⟨o2, e2, fun v q => by rw [d2] at q; cases q⟩
  keep := fun i h h' ⟨hi, hz, hTI, ⟨x, y, hTO⟩, h1, h2⟩ k =>
    ⟨hi, k z (by simp) _ hz, k TI (by simp) _ hTI, ⟨x, y, k TO (by simp) _ hTO⟩, h1.at fun o q => k i1 (by simp) o q, h2.at fun o q => k i2 (by simp) o q⟩
  item := by
    rintro X rfl rfl rfl hc i pins s σ H E I hf ⟨hi, hz, hTI, ⟨x0, y0, hTO⟩, h1, h2⟩ ⟨xs, ys, x, y, qx, qy, hn, hx, hy⟩
    obtain ⟨is, rv, p1, _⟩ := I.list qx
    obtain ⟨js, rv2, p2, _⟩ := I.tuple qy
    obtain ⟨u, hu, ru⟩ := rv.get hx
    obtain ⟨u2, hu2, ru2⟩ := rv2.get hy
    have hh : X.A.in1.handled = none := I.ok.hd hc
    have hzl : z < s.heap.objs.size := Heap.lt_size hz
    have b1 : i < is.toArray.size := by
      have := (List.getElem?_eq_some_iff.mp hu).1
      simpa using this
    have b2 : i < js.toArray.size := by
      have := (List.getElem?_eq_some_iff.mp hu2).1
      simpa using this
    refine wpAny_pyNext_zipD2_item (sep_of D) (Draws.list hh i1 a (fun e => D.l1i1 e) is.toArray) (Draws.tuple hh i2 b (fun e => D.l2i2 e) js.toArray) hz hTI hTO ⟨h1, p1.isList⟩ ⟨h2, p2⟩ b1 b2
      fun x1 x2 h' tk e1 e2 z' TO' st1 st2 hT hsz hk => ?_
    obtain rfl : u = x1 := by simpa [hu] using e1
    obtain rfl : u2 = x2 := by simpa [hu2] using e2
    refine ⟨_, rfl, wpAny_letOwnedTupleGo_zip (s := { s with heap := h', toks := tk }) z' fun h'' z'' sb => ?_⟩
    have hT2 : h''.get? s.heap.objs.size = some { cls := .type "tuple", data := .seq #[u, u2] } := (sb.2 _ (Nat.ne_of_gt hzl)).trans hT
    have kp : ∀ c o, c ∉ [z, TI, TO, i1, i2] → s.heap.get? c = some o → h''.get? c = some o := fun c o hb q => by
      simp only [List.mem_cons, List.not_mem_nil, or_false, not_or] at hb
      exact (sb.2 c hb.1).trans (hk c o hb.1 hb.2.2.1 hb.2.2.2.1 hb.2.2.2.2 q)
    have I1 : Inv X pins σ (upd H s.heap.objs.size (.tup [x, y])) { s with heap := h'', toks := tk } :=
      I.turnedNew (t' := tk) (ch := [z, TI, TO, i1, i2]) kp hf (Nat.le_refl _) ⟨by show 2 ≤ sizeLine; decide, [u, u2], .cons ru (.cons ru2 .nil), ⟨_, hT2, rfl, _, rfl⟩⟩
    refine ⟨.ref s.heap.objs.size, _, I1, rfl, ⟨_, x, y, rfl, I.hok.fresh (Nat.le_refl _), rfl, fun l hl => by rw [I.list_inj hl qx]; exact hx, fun l hl => by rw [I.tuple_inj hl qy]; exact hy⟩, ⟨⟨?_, ?_⟩, z'', ?_, ⟨u, u2, ?_⟩, ?_, ?_⟩, fun c hcm => ?_⟩
    · have := (List.getElem?_eq_some_iff.mp hx).1
      omega
    · have := (List.getElem?_eq_some_iff.mp hy).1
      omega
    · exact (sb.2 _ D.TIz).trans (hk _ _ D.TIz D.TITO D.TIi1 D.TIi2 hTI)
    · exact (sb.2 _ D.TOz).trans TO'
    · exact st1.1.at fun o q => (sb.2 _ D.i1z).trans q
    · exact st2.1.at fun o q => (sb.2 _ D.i2z).trans q
    · have hlt : c < s.heap.objs.size := by
        have hcm' := hcm
        simp only [List.mem_cons, List.not_mem_nil, or_false] at hcm'
        rcases hcm' with rfl | rfl | rfl | rfl | rfl
        · exact hzl
        · exact Heap.lt_size hTI
        · exact Heap.lt_size hTO
        · exact let ⟨_, e1, _⟩ := h1; Heap.lt_size e1
        · exact let ⟨_, e2, _⟩ := h2; Heap.lt_size e2
      rw [upd_ne (Nat.ne_of_lt hlt)]
      exact (hf c hcm).1
  done := by
    rintro X rfl rfl rfl hc i pins s σ H E I hf ⟨hi, hz, hTI, ⟨x0, y0, hTO⟩, h1, h2⟩ ⟨xs, ys, qx, qy, hn, hend⟩
    obtain ⟨is, rv, p1, _⟩ := I.list qx
    obtain ⟨js, rv2, p2, _⟩ := I.tuple qy
    have hh : X.A.in1.handled = none := I.ok.hd hc
    have l1 : is.toArray.size = n := by rw [List.size_toArray, ← rv.length]; exact hn.1
    have l2 : js.toArray.size = m := by rw [List.size_toArray, ← rv2.length]; exact hn.2
    refine wpAny_pyNext_zipD2_end (sep_of D) (Draws.list hh i1 a (fun e => D.l1i1 e) is.toArray) (Draws.tuple hh i2 b (fun e => D.l2i2 e) js.toArray) hz hTI hTO ⟨h1, p1.isList⟩ ⟨h2, p2⟩ (by omega) (by omega) (by omega)
      fun h' tk hk => ⟨rfl, I.turnedL (t' := tk) (ch := [z, TI, TO, i1, i2]) (fun c o hb q => ?_) hf⟩
    simp only [List.mem_cons, List.not_mem_nil, or_false, not_or] at hb
    exact hk c o hb.1 hb.2.2.1 hb.2.2.2.1 hb.2.2.2.2 q
  self := fun A i s Q E st h => wpAny_pyIter_zip st.2.1 h
/-- zip of two lists, two tuples, or a list and a tuple -/
def iZipB (K : PySem.W.Frag) (ta : TA) : TI := fun σ H R => RZ.iZipA K ta σ H R ∨ ta σ H fun vs H1 => ∃ a b xs ys, vs = [.ref a, .ref b] ∧ SqL K H1 a xs ∧ SqT K H1 b ys ∧ R (ItzM K a b xs.length ys.length) H1
theorem zipB {X : Cx} (K : PySem.W.Frag) {e e2 : Expr} {ta : TA} {p pos tpos : Pos} {elts : List Expr} {kk : Nat} (hg : Gl X "zip") (hm : X.mg "zip" = none) (ha : PA X [e, e2] ta)
    (hs : starEach [e, e2] X.env = (false, eval e X.env) :: starEach [e2] X.env := by rfl) (hpl : (backTo pos (starEach [e2] X.env)).any (·.1) = false := by rfl) (hK : X.K = K := by rfl) :
    PI X (.Tuple elts kk tpos) (.Call (.Name "zip" p) [e, e2] [] pos) (iZipB K ta) := by
  subst hK
  refine ⟨fun pins s σ H R I h => ?_⟩
  rcases h with h | h
  · exact (RZ.pi_zipA hg hm ha hs hpl).run pins s σ H R I h
  refine Call_ (ld_blt I hg hm PyProof.Rows.boot_zip (PyProof.Rows.callWith_type1 (thn (ha.run pos pins s σ H _ I h) fun us s1 ⟨vs, H1, I1, r1, a, b, xs, ys, ex, qx, qy, q⟩ => ?_) hs hpl))
  subst ex
  cases r1 with
  | cons r rr =>
    cases rr with
    | cons r' rr =>
      cases rr
      cases r
      cases r'
      obtain ⟨is, rv, p1, _⟩ := I1.list qx
      obtain ⟨js, rv2, p2, _⟩ := I1.tuple qy
      obtain ⟨o2, ho2, _⟩ := id p2
      generalize hN : s1.heap.objs.size = N
      refine zip_begins2 (begins_list a is.toArray) (begins_tuple b js.toArray) p1.isList p2 fun h' hz hTI hTO g1 g2 hsz hk => wpAny_pyIter_zip hz ?_
      rw [hN] at hz hTI hTO g1 g2 ⊢
      have I2 : Inv X pins σ H1 { s1 with heap := h' } := I1.kept (t' := s1.toks) hk
      refine ⟨N + 4, [N + 4, N + 2, N + 3, N, N + 1], _, _, H1, rfl, I2, turn_zipM (PySem.W.ktu_apart N a b (hN ▸ p1.lt) (hN ▸ Heap.lt_size ho2)), ⟨⟨Nat.zero_le _, Nat.zero_le _⟩, hz, hTI, ⟨_, _, hTO⟩, ⟨_, g1, rfl, rfl⟩, ⟨_, g2, rfl, rfl⟩⟩, fun c hcm => ?_, q⟩
      have hle : s1.heap.objs.size ≤ c := by
        simp only [List.mem_cons, List.not_mem_nil, or_false] at hcm
        rw [hN]
        rcases hcm with rfl | rfl | rfl | rfl | rfl
        · exact Nat.le_add_right _ _
        · exact Nat.le_add_right _ _
        · exact Nat.le_add_right _ _
        · exact Nat.le_refl _
        · exact Nat.le_add_right _ _
      exact I1.fpOk hle (I1.hok.fresh hle)
end DZ

set_option Elab.async false
set_option linter.all false
set_option maxRecDepth 100000
set_option maxHeartbeats 4000000
/-! ## two dicts alike, compared -/
namespace DL
open PySem PySem.Spec PyProof.Rows L2
def rNeDk : R2 := fun x y H Q => ∃ a b ks ls, x = .ref a ∧ y = .ref b ∧ Rd H a (.dK ks) ∧ Rd H b (.dK ls) ∧ ks.length = ls.length ∧ (∀ p ∈ ks, valV ls p.1 = some p.2 ∧ flatB p.2 = true) ∧ Q (.bl false) H
def rNeX (K : PySem.W.Frag) : R2 := fun x y H Q => rNeDk x y H Q ∨ rNeA K x y H Q
theorem neX {X : Cx} (K : PySem.W.Frag) (hu : X.A.units + 64 < cLine) (hK : X.K = K := by rfl) : OpR X (compareOp .NotEq) (rNeX K) := by
  rintro pins s σ H x y v u Q I rx ry (h | h)
  · obtain ⟨a, b, ks, ls, rfl, rfl, ha, hb, hl, hp, q⟩ := h
    obtain rfl : v = Value.ref a := rx
    obtain rfl : u = Value.ref b := ry
    obtain ⟨_, ya, va, ra, da⟩ := (show ObjOk X.prog X.w H s.heap a (.dK ks) from ha.ok I.hok)
    obtain ⟨_, yb, vb, rb, db⟩ := (show ObjOk X.prog X.w H s.heap b (.dK ls) from hb.ok I.hok)
    have hlen : va.length = vb.length := by rw [← ra.length, ← rb.length]; exact hl
    refine PySem.W.keq_ne (knd := mixKind X.prog X.w) (r := true) ya yb da db (by omega) (fun _ => hits_all rb ra hp) ?_
    have e : (!(va.length == vb.length && true)) = false := by simp [hlen]
    rw [e]
    exact ⟨.bl false, H, I, rfl, q⟩
  · exact neA K hu hK pins s σ H x y v u Q I rx ry h
def flatK : D → Bool
  | .int _ => true
  | .str _ => true
  | _ => false
open Classical in
/-- two dicts: told only that they are alike -/
noncomputable def neX' (W : Ms) (x y : Vl) : Res Vl := match dctOf W x, dctOf W y with
  | some l, some m => if l.length = m.length ∧ (l.all fun p => flatK p.1) = true ∧ (m.all fun p => flatK p.1) = true ∧ ∀ p ∈ l, ∃ z, p.2 = .d z ∧ flatK z = true ∧ getK m p.1 = some (.d z) then .ok (.d (.bl false)) W else .stuck
  | _, _ => neD W x y
section
variable {K : Fr} {TB : List (Addr × Str)} {E : XK} {ws : List Addr} {G H : Hp} {W : Ms}
theorem flat_same {v v' : V} {x : D} (h : flatK x = true) (r : Rp K G v x) (r' : Rp K G v' x) : v = v' ∧ flatB v = true := by
  cases r <;> simp [flatK] at h <;> cases r' <;> exact ⟨rfl, rfl⟩
theorem ref_flat {a : Addr} {x : D} (h : flatK x = true) (r : Rp K G (.ref a) x) : False := by
  cases r <;> simp [flatK] at h
theorem vn_flat {kvs : List (NestedKey × Addr × V)} {l : List (D × Vl)} (r : RpVN K ws G kvs l) (nl : l ≠ []) (h : (l.all fun p => flatK p.1) = true) : False := by
  cases r with
  | nil => exact nl rfl
  | cons a t =>
    obtain ⟨⟨r, _⟩, _⟩ := a
    simp only [List.all_cons, Bool.and_eq_true] at h
    exact ref_flat h.1 r
theorem vk_len : ∀ {kvs : List (Key × V)} {l : List (D × Vl)}, RpVK K ws G kvs l → kvs.length = l.length := fun h => Paired.length h
theorem vk_mem : ∀ {kvs : List (Key × V)} {l : List (D × Vl)}, RpVK K ws G kvs l → ∀ p ∈ kvs, ∃ q ∈ l, q.1 = kD p.1 ∧ RpV K ws G p.2 q.2
  | _, _, .nil, p, h => nomatch h
  | _, _, .cons h t, p, hp => by
    rcases List.mem_cons.mp hp with rfl | hp
    · exact ⟨_, List.mem_cons_self, h⟩
    · obtain ⟨q, h1, h2⟩ := vk_mem t p hp
      exact ⟨q, List.mem_cons_of_mem _ h1, h2⟩
theorem o_neX : OpD K TB (rNeX K.K) neX' := fun E ws G H W x y a b Q c rx ry w => by
  unfold neX' at w
  split at w
  · rename_i l m q1 q2
    split at w
    · rename_i hh
      obtain ⟨hl, k1, k2, hp⟩ := hh
      obtain ⟨a1, rfl, d1⟩ := dct_at c rx q1
      obtain ⟨a2, rfl, d2⟩ := dct_at c ry q2
      rcases d1 with ⟨ks, e1, r1⟩ | ⟨ks, e1, r1, nl⟩
      · rcases d2 with ⟨ls, e2, r2⟩ | ⟨ls, e2, r2, nl⟩
        · refine .inl ⟨a1, a2, ks, ls, rfl, rfl, e1, e2, by rw [vk_len r1, vk_len r2, hl], fun p hm => ?_, w.ok c (.d (.bl false))⟩
          obtain ⟨q, hq, h1, h2⟩ := vk_mem r1 p hm
          obtain ⟨z, hz, fz, hg⟩ := hp q hq
          rw [h1] at hg
          obtain ⟨v', g1, g2⟩ := (vk_get p.1 r2).2 _ hg
          rw [hz] at h2
          have h3 : Rp K G p.2 z := by
            generalize p.2 = pv at h2
            cases h2 with
            | d h2 => exact h2
          cases g2 with
          | d g2 =>
            obtain ⟨e, f⟩ := flat_same fz h3 g2
            exact ⟨by rw [e]; exact g1, f⟩
        · exact (vn_flat r2 nl k2).elim
      · exact (vn_flat r1 nl k1).elim
    · exact w.elim
  · exact .inr (o_ne E ws G H W x y a b Q c rx ry w)
end
end DL
namespace DL
open PySem PySem.Spec PyProof.Rows L2
/-- x or y, where x is None or a dict -/
def tOrN (ta tb : TE) : TE := fun σ H Q => ta σ H fun x H1 => (x = .non ∧ tb σ H1 Q) ∨ ∃ a kvs, x = .ref a ∧ Rd H1 a (.dK kvs) ∧ ((kvs ≠ [] ∧ Q x H1) ∨ (kvs = [] ∧ tb σ H1 Q))
theorem pe_orN {X : Cx} {a b : Expr} {rest : List Expr} {pos : Pos} {ta tb : TE} (ha : PE X a ta) (hb : PE X (.BoolOp .Or (b :: rest) pos) tb) : PE X (.BoolOp .Or (a :: b :: rest) pos) (tOrN ta tb) := by
  refine ⟨fun pins s σ H Q I h => ?_⟩
  refine BoolOp_or (thn (ha.run pins s σ H _ I h) fun v s1 ⟨x, H1, I1, r1, q1⟩ => ?_)
  rcases q1 with ⟨rfl, q1⟩ | ⟨d, kvs, rfl, hd, q1⟩
  · obtain rfl : v = Value.none := r1
    show wpAny _ _ (pure false) _ _ _
    exact wpAny_pure (hb.run pins s1 σ H1 Q I1 q1)
  · obtain rfl : v = Value.ref d := r1
    obtain ⟨hz, y, us, rv, dd⟩ := (show ObjOk X.prog X.w H1 s1.heap d (.dK kvs) from hd.ok I1.hok)
    have hl : us.length = kvs.length := rv.length.symm
    refine wpAny_truthy_dict (knd := mixKind X.prog X.w) y dd (by rw [hl]; have := hz; rw [sizeLine_eq] at this; omega) ?_
    rcases q1 with ⟨nk, q1⟩ | ⟨rfl, q1⟩
    · have e : us ≠ [] := fun z => nk (List.length_eq_zero_iff.mp (by rw [← hl, z]; rfl))
      cases us with
      | nil => exact absurd rfl e
      | cons u us => exact ⟨.ref d, H1, I1.tok _, rfl, q1⟩
    · have e : us = [] := List.length_eq_zero_iff.mp (by rw [hl]; rfl)
      subst e
      exact hb.run pins _ σ H1 Q (I1.tok _) q1
def eOrN (a b : FE) : FE := fun ρ W => (a ρ W).bind fun x W1 => if isNon x = true then b ρ W1 else match dctOf W1 x with
  | some l => if (l.all fun p => flatK p.1) = true then (if l = [] then b ρ W1 else .ok x W1) else .stuck
  | none => .stuck
section
variable {K : Fr} {TB : List (Addr × Str)} {E : XK}
theorem s_orN {ta tb : TE} {fa fb : FE} (ha : SE K TB E ta fa) (hb : SE K TB E tb fb) : SE K TB E (tOrN ta tb) (eOrN fa fb) := by
  intro σ ws G H ρ W Q e c w
  refine ha.go (R := RV K) e c w fun x dx W1 ws1 G1 H1 g1 c1 r1 w1 => ?_
  split at w1
  · rename_i hn
    refine .inl ⟨?_, hb _ _ _ _ _ _ _ (e.up g1) c1 w1⟩
    cases r1 with
    | d r =>
      cases r with
      | non => rfl
      | _ => simp [isNon] at hn
    | mu _ => simp [isNon] at hn
  · cases q : dctOf W1 dx with
    | none => rw [q] at w1; exact w1.elim
    | some l =>
      simp only [q] at w1
      split at w1
      · rename_i hf
        obtain ⟨a, rfl, d1⟩ := dct_at c1 r1 q
        rcases d1 with ⟨ks, e1, rk⟩ | ⟨ks, e1, rk, nl⟩
        · refine .inr ⟨a, ks, rfl, e1, ?_⟩
          split at w1
          · rename_i hl
            subst hl
            cases rk
            exact .inr ⟨rfl, hb _ _ _ _ _ _ _ (e.up g1) c1 w1⟩
          · rename_i hl
            refine .inl ⟨fun z => ?_, Wish.ok (R := RV K) w1 c1 r1⟩
            subst z
            cases rk
            exact hl rfl
        · exact (vn_flat rk nl hf).elim
      · exact w1.elim
end
end DL
namespace DL
open PySem PySem.Spec PyProof.Rows L2
/-- zip of a list and a tuple, too -/
def iZpM (fs : FA) : FI := fun ρ W => (fs ρ W).bind fun xs W1 => match xs with
  | [.d (.lst l), .d (.tup m)] => .ok ⟨zipL l m, yes⟩ W1
  | _ => .stuck
section
variable {K : Fr} {TB : List (Addr × Str)} {E : XK} {ws : List Addr} {G H : Hp} {W : Ms}
theorem it_zipM {a b : Addr} {vs us : List V} {l m : List D} (e : G a = some (.lst vs)) (r : RpL K G vs l) (e2 : G b = some (.tup us)) (r2 : RpL K G us m) : ItOk K TB ws G H (DZ.ItzM K.K a b vs.length us.length) ⟨zipL l m, yes⟩ := by
  intro ws2 G2 H2 W2 gg c _ i
  have hs : SqL K.K H2 a vs := SqL.of (c.g _ _ (gg.g _ _ e))
  have hs2 : SqT K.K H2 b us := SqT.of (c.g _ _ (gg.g _ _ e2))
  refine ⟨fun h => ⟨vs, us, hs, hs2, ⟨rfl, rfl⟩, by rw [r.len, r2.len]; rw [zipL_len] at h; omega⟩, fun x hx => ?_⟩
  rw [zipL_at] at hx
  cases q : l[i]? with
  | none => rw [q] at hx; cases hx
  | some y =>
    cases q2 : m[i]? with
    | none => rw [q, q2] at hx; cases hx
    | some z =>
      rw [q, q2] at hx
      cases hx
      obtain ⟨v, h1, h2⟩ := r.at q
      obtain ⟨u, h3, h4⟩ := r2.at q2
      refine ⟨⟨vs, us, v, u, hs, hs2, ⟨rfl, rfl⟩, h1, h3⟩, fun w H3 hy => ?_⟩
      obtain ⟨T, x, y, rfl, hT, rfl, hy, hy2⟩ := hy
      obtain rfl : v = x := Option.some.inj (h1.symm.trans (hy vs hs))
      obtain rfl : u = y := Option.some.inj (h3.symm.trans (hy2 us hs2))
      exact new_tup c hT (.cons (h2.to (.of gg.g)) (.cons (h4.to (.of gg.g)) .nil))
theorem s_iZpM {t : TA} {fs : FA} (h : SA K TB E t fs) : SI K TB E (DZ.iZipB K.K t) (iZpM fs) := fun σ ws G H ρ W R e c w => by
  unfold iZpM at w
  cases q : fs ρ W with
  | stuck => rw [q] at w; exact w.elim
  | exc C W1 => rw [q] at w; exact .inr (h.gx (R' := ItOk K TB) e c q w)
  | ok x W1 =>
    rw [q, Res.bind_ok] at w
    split at w
    · refine .inr (h.gk e c q fun b ws1 G1 H1 g c1 r => ?_)
      obtain ⟨v, u, rfl, r1, r2⟩ := two_of r
      cases r1 with
      | d r1 =>
      cases r2 with
      | d r2 =>
      cases r1 with
      | lst e1 rl =>
      cases r2 with
      | tup e2 rl2 => exact ⟨_, _, _, _, rfl, SqL.of (c1.g _ _ e1), SqT.of (c1.g _ _ e2), w _ _ _ _ g c1 (it_zipM e1 rl e2 rl2)⟩
    · exact w.elim
end
end DL

set_option Elab.async false
set_option linter.all false
set_option maxRecDepth 100000
set_option maxHeartbeats 4000000
/-! ## comprehensions over a dict's keys -/
namespace DL
open PySem PySem.Spec PyProof.Rows L2
def nxR {α : Type} : Res α → Res α
  | .exc _ _ => .stuck
  | r => r
open Classical in
noncomputable def unlkR (n : Nat) (l : List (D × Vl)) : Res Vl → Res Vl
  | .ok v W => if lkK n l W then .ok v (W.set n (.dct l)) else .stuck
  | _ => .stuck
noncomputable def lcKB (mk : List Vl → Ms → Res Vl) (fg : FG) (ft : FT) (fe : FE) (vs : List Nat) (ρ : Ev) (x : Vl) (W : Ms) : Res Vl := match x with
  | .d (.dct l) => nxR ((lcB fg ft fe vs ρ ⟨l.map fun p => Vl.d p.1, yes⟩ W).bind mk)
  | .mu n => (match W[n]? with
    | some (.dct l) => unlkR n l ((lcB fg ft fe vs ρ ⟨l.map fun p => Vl.d p.1, yes⟩ (W.set n (.lk l))).bind mk)
    | some (.lk l) => nxR ((lcB fg ft fe vs ρ ⟨l.map fun p => Vl.d p.1, yes⟩ W).bind mk)
    | _ => .stuck)
  | _ => .stuck
noncomputable def eLcK (f : FE) (fg : FG) (ft : FT) (fe : FE) (vs : List Nat) : FE := fun ρ W => (f ρ W).bind (lcKB mkLst fg ft fe vs ρ)
section
variable {K : Fr} {TB : List (Addr × Str)} {E : XK} {ws : List Addr} {G H : Hp} {W : Ms} {Nf : Addr → Prop}
theorem wish0 {Q : VK} {r : Res Vl} (w : Wish K TB (RV K) E ws G H Q (nxR r)) : Wish K TB (RV K) E0 ws G H Q r := by
  cases r with
  | ok x W1 => exact w
  | exc C W1 => exact w.elim
  | stuck => exact w
theorem wish_here {Q : VK} {r : Res Vl} (w : Wish K TB (RV K) E0 ws G H Q r) : Wish K TB (RV K) E0 ws G H (fun v H' => Unl Nf (Q v) H') r := by
  cases r with
  | ok x W1 => exact fun b ws' G' H' g c r => .here (w b ws' G' H' g c r)
  | exc C W1 => exact w
  | stuck => exact w
theorem wish_lock {Q : VK} {r : Res Vl} {d : Addr} {od : Obj} {u : HO} (hu : isDct u) (e : G d = some u) (hn : Nf d) (c : Cf K TB ws G H W) (w : Wish K TB (RV K) E0 ws G H Q r) : Wish K TB (RV K) E0 ws (upd G d (.frz od u)) (upd H d (.frz od u)) (fun v H' => Unl Nf (Q v) H') r := by
  cases r with
  | ok x W1 =>
    intro v ws' G' H' g c' r'
    have k := g.g d _ upd_same
    exact .un (c'.g _ _ k) hn (.here (w v ws' _ _ (g.unlock hu c e) (c'.unlock hu k) ((show RpV K ws' G' v x from r').to (rds_unlock hu k) fun _ _ z => z)))
  | exc C W1 =>
    intro ws' G' H' g c'
    have k := g.g d _ upd_same
    exact (show False from w ws' (upd G' d u) (upd H' d u) (g.unlock hu c e) (c'.unlock hu k))
  | stuck => exact w
theorem wish_lkM {Q : VK} {r : Res Vl} {n : Nat} {a : Addr} {l : List (D × Vl)} {od : Obj} {u v : HO} (hn : Nf a) (ea : ws[n]? = some a) (e : H a = some v) (pv : Plain v ∧ ∀ o' u', v ≠ .frz o' u') (w : Wish K TB (RV K) E ws G H Q (unlkR n l r)) : Wish K TB (RV K) E0 ws G (upd H a (.frz od u)) (fun v H' => Unl Nf (Q v) H') r := by
  cases r with
  | ok x W1 =>
    intro v' ws' G' H' g c' e'
    simp only [unlkR] at w
    split at w
    · rename_i h
      obtain ⟨ob, u, hu, k, c2⟩ := lk_un c' (g.at ea) h
      exact .un k hn (.here (w v' ws' _ _ (g.unlkM ea e pv) c2 e'))
    · exact w.elim
  | exc C W1 => exact w.elim
  | stuck => exact w
theorem s_lcK {td : TE} {fe0 : FE} {g : TG} {tt : TT} {te : TE} {fg : FG} {ft : FT} {fe : FE} {vs : List Nat} (h : SE K TB E td fe0) (hg : SG K TB vs g fg) (ht : ST K TB E0 tt ft) (he : SE K TB E0 te fe) : SE K TB E (tUnlE Nf (tLc (iKeysL K.w Nf td) g tt te vs)) (eLcK fe0 fg ft fe vs) := by
  intro σ ws G H ρ W Q e c w
  refine h.go (R := RV K) e c w fun v x W1 ws1 G1 H1 g1 c1 r1 w1 => ?_
  have e1 := e.up g1
  have en : ∀ (ws1 : List Addr) (G1 H1 : Hp) (W1 : Ms) (c1 : Cf K TB ws1 G1 H1 W1) (Q : VK), ∀ (p : Addr) (ws2 : List Addr) (G2 H2 : Hp) (W2 : Ms) (xs : List V) (as : List Vl), H1 p = none → Gr ws1 G1 H1 ws2 G2 H2 → Cf K TB ws2 G2 H2 W2 → G2 p = none → p ∉ ws2 → H2 p = some (.lst xs) → RpVs K ws2 G2 xs as →
      Wish K TB (RV K) E0 ws1 G1 H1 Q (mkLst as W2) → Q (.ref p) H2 := fun ws1 G1 H1 W1 c1 Q p ws2 G2 H2 W2 xs as hp g2 c2 n1 n2 hx rx w => end_lst c1 hp g2 c2 n1 n2 hx rx w
  refine walk_keys (R := lcR g tt te vs σ fun v H' => Unl Nf (Q v) H') c1 r1 (fun l hl => ⟨fun J ok => ?_, fun d od u hu eu hn J ok => ?_⟩) (fun n l hl hW a od u ea hn eu pu c2 J ok => ?_) (fun n l hl hW J ok => ?_) ?_
  · subst hl
    exact lc_core hg ht he ok e1 c1 (wish_here (wish0 w1)) (en _ _ _ _ c1 _)
  · subst hl
    have c2 := c1.lock (od := od) hu eu
    exact lc_core hg ht he ok (env_lock e1 (rds_lock hu eu)) c2 (wish_lock hu eu hn c1 (wish0 w1)) (en _ _ _ _ c2 _)
  · subst hl
    simp only [lcKB, hW] at w1
    exact lc_core hg ht he ok e1 c2 (wish_lkM hn ea eu pu w1) (en _ _ _ _ c2 _)
  · subst hl
    simp only [lcKB, hW] at w1
    exact lc_core hg ht he ok e1 c1 (wish_here (wish0 w1)) (en _ _ _ _ c1 _)
  · cases x with
    | d x => cases x <;> first | exact .inl ⟨_, rfl⟩ | exact (show False from w1).elim
    | mu n =>
      simp only [lcKB] at w1
      cases q : W1[n]? with
      | none => rw [q] at w1; exact w1.elim
      | some m =>
        rw [q] at w1
        cases m with
        | dct l => exact .inr ⟨n, l, rfl, .inl q⟩
        | lk l => exact .inr ⟨n, l, rfl, .inr q⟩
        | _ => exact w1.elim
end
end DL

set_option Elab.async false
set_option linter.all false
set_option maxRecDepth 100000
set_option maxHeartbeats 4000000
/-! ## a dict compared with the empty one; a pair chosen by a test -/
namespace DL
open PySem PySem.Spec PyProof.Rows L2
section
variable {prog : Program} {w : World} {A : Around} {E : Value → Shared → Prop} {s : Shared}
theorem eq_sizes {a b : Addr} {oa ob : Obj} {es es' : Array DictEntry} {ep ep' : Nat} {Q : Value → Shared → Prop} (ha : (a == sysModules) = false) (hb : (b == sysModules) = false)
    (hoa : s.heap.get? a = some oa) (xa : oa.ExactDict) (hda : oa.data = .dict es ep) (hob : s.heap.get? b = some ob) (xb : ob.ExactDict) (hdb : ob.data = .dict es' ep') (hsz : ¬ es.size = es'.size) (hu : A.units < cLine) (h : Q (.bool false) s) :
    wpAny (model prog w) A (compareOp .Eq (.ref a) (.ref b)) Q E s := by
  have ta : s.TypeIs (.ref a) "dict" := ⟨oa, hoa, xa.1⟩
  have tb : s.TypeIs (.ref b) "dict" := ⟨ob, hob, xb.1⟩
  refine wpAny_richCompare_same_room (op := .Eq) ta tb PySem.F.slot_dict_eq (wpAny_call_entry PySem.F.slot_dict_eq ta PySem.F.entry_dict_eq ?_ (PySem.F.args_dict_eq_2 _ _)) hu
  show wpAny _ _ (Builtin.Dict.dictSlotArgs "__eq__" ⟨[.ref a, .ref b], []⟩ >>= _) _ _ s
  unfold Builtin.Dict.dictSlotArgs
  refine wpAny_bind (wpAny_bind (wpAny_notOrdered_dict ta (wpAny_pure (wpAny_bind (wpAny_isInstance (T := "dict") tb PySem.F.sub_dict_dict ?_)))))
  rw [if_neg (by decide)]
  refine wpAny_bind (wpAny_pure (wpAny_bind (wpAny_pure (wpAny_bind ?_))))
  unfold Builtin.Dict.samePairs Builtin.Dict.showsAll
  rw [if_neg (by rw [ha]; decide), if_neg (by rw [hb]; decide)]
  refine wpAny_bind (wpAny_pure (wpAny_bind (wpAny_pure (wpAny_bind (wpAny_dictEntries hoa hda ?_)))))
  refine wpAny_bind (wpAny_dictEntries hob hdb ?_)
  rw [if_pos (by simpa using hsz)]
  refine wpAny_bind (wpAny_rule (wpAny_pure ?_))
  exact wpAny_pure ⟨_, rfl, (fun z => nomatch z), h⟩
end
def rEqE (w : World) : R2 := fun x y H Q => ∃ a b, x = .ref a ∧ y = .ref b ∧ Rd H b (.dK []) ∧ ((∃ ks, Rd H a (.dK ks) ∧ Q (.bl (decide (ks.length = 0))) H) ∨ ∃ xs, Rd H a (dN w a xs) ∧ xs ≠ [] ∧ Q (.bl false) H)
def rEqX (K : PySem.W.Frag) (w : World) : R2 := fun x y H Q => rEqE w x y H Q ∨ rEqA K x y H Q
theorem eqX {X : Cx} (K : PySem.W.Frag) (w : World) (hu : X.A.units + 64 < cLine) (hK : X.K = K := by rfl) (hw : X.w = w := by rfl) : OpR X (compareOp .Eq) (rEqX K w) := by
  subst hw
  rintro pins s σ H x y v u Q I rx ry (h | h)
  · obtain ⟨a, b, rfl, rfl, hb, h⟩ := h
    obtain rfl : v = Value.ref a := rx
    obtain rfl : u = Value.ref b := ry
    obtain ⟨_, yb, vb, rb, db⟩ := (show ObjOk X.prog X.w H s.heap b (.dK []) from hb.ok I.hok)
    rcases h with ⟨ks, ha, q⟩ | ⟨xs, ha, n, q⟩
    · obtain ⟨_, ya, va, ra, da⟩ := (show ObjOk X.prog X.w H s.heap a (.dK ks) from ha.ok I.hok)
      have hl : va.length = ks.length := ra.length.symm
      have hl2 : vb.length = 0 := rb.length.symm
      refine PySem.W.keq_eq (knd := mixKind X.prog X.w) (r := true) ya yb da db (by omega) (fun h => ?_) ⟨.bl (decide (ks.length = 0)), H, I, ?_, q⟩
      · obtain rfl : va = [] := List.length_eq_zero_iff.mp (by omega)
        exact .nil
      · show Value.bool _ = _
        congr 1
        rw [hl, hl2]
        cases ks.length <;> rfl
    · obtain ⟨⟨_, ya, us, o, es, ep, r, h1, h2, h3, h4, h5⟩, _, _⟩ := (show ObjOk X.prog X.w H s.heap a (dN X.w a xs) from ha.ok I.hok)
      obtain ⟨ob, es', ep', k1, k2, k3, _, k5, _⟩ := db
      have hl2 : vb.length = 0 := rb.length.symm
      refine eq_sizes ya yb h1 h2 h3 k1 k2 k3 (fun z => n ?_) (by omega) ⟨.bl false, H, I, rfl, q⟩
      have z1 : es.size = us.length := by rw [← Array.length_toList, h4, List.length_map]
      have z2 : es'.size = vb.length := by rw [← k5.length]; simp
      exact List.length_eq_zero_iff.mp (by rw [Paired.length r]; omega)
  · exact eqA K hu hK pins s σ H x y v u Q I rx ry h
open Classical in
/-- == {}: a dict is told by its length -/
noncomputable def eqX' (W : Ms) (x y : Vl) : Res Vl := match dctOf W x, y with
  | some l, .d (.dct []) => .ok (.d (.bl (decide (l = [])))) W
  | _, _ => eqD W x y
section
variable {K : Fr} {TB : List (Addr × Str)} {E : XK}
theorem o_eqX : OpD K TB (rEqX K.K K.w) eqX' := fun E ws G H W x y a b Q c rx ry w => by
  unfold eqX' at w
  split at w
  · rename_i l q1
    obtain ⟨a1, rfl, d1⟩ := dct_at c rx q1
    obtain ⟨a2, rfl, d2⟩ := dct_at c ry (show dctOf W (.d (.dct [])) = some [] from rfl)
    rcases d2 with ⟨ls, e2, r2⟩ | ⟨ls, e2, r2, nl⟩
    · obtain rfl : ls = [] := List.length_eq_zero_iff.mp (by rw [vk_len r2]; rfl)
      refine .inl ⟨a1, a2, rfl, rfl, e2, ?_⟩
      rcases d1 with ⟨ks, e1, r1⟩ | ⟨ks, e1, r1, nl⟩
      · refine .inl ⟨ks, e1, ?_⟩
        have : decide (ks.length = 0) = decide (l = []) := by
          rw [vk_len r1]
          simp
        rw [this]
        exact w.ok c (.d (.bl _))
      · refine .inr ⟨ks, e1, fun z => nl ?_, ?_⟩
        · subst z
          cases r1
          rfl
        · rw [show decide (l = []) = false by simpa using nl] at w
          exact w.ok c (.d (.bl _))
    · exact absurd rfl nl
  · exact .inr (o_eq E ws G H W x y a _ Q c rx ry w)
theorem s_asgTI {tt : TT} {ta tb : TA} {ft : FT} {fa fb : FA} {n : Nat} {gs : TGs} {fgs : FGs} {vs : List Nat} (ht : ST K TB E tt ft) (ha : SA K TB E ta fa) (hb : SA K TB E tb fb) (hg : SGs K TB vs gs fgs) : SS K TB E (tAsg (tIf tt (tTup ta) (tTup tb)) (gTup K.K n gs)) (sIf ft (sAsgT n fa fgs) (sAsgT n fb fgs)) := fun σ ws G H ρ W Dn e c w =>
  ht.goS e c w fun t d W1 ws1 G1 H1 g1 c1 r1 w1 => by
    obtain rfl : t = d := r1
    cases t
    · exact iteF (s_asgT hb hg _ _ _ _ _ _ _ (e.up g1) c1 w1)
    · exact iteT (s_asgT ha hg _ _ _ _ _ _ _ (e.up g1) c1 w1)
end
end DL

set_option Elab.async false
set_option linter.all false
set_option maxRecDepth 100000
set_option maxHeartbeats 4000000
/-! ## reckoning with mirrors: what any law needs -/
namespace DL
open PySem PySem.Spec PyProof.Rows L2
section
variable {W : Ms}
@[simp] theorem app_get (W : Ms) (x : M) : (W ++ [x])[W.length]? = some x := by simp
@[simp] theorem app_set (W : Ms) (x y : M) : (W ++ [x]).set W.length y = W ++ [y] := by simp
theorem lc_may {α : Type} {kp : Ms → Prop} {fg : FG} {t : FT} {f : FE} {ρ : Ev} {W : Ms} {C : Addr} (emb : α → Vl) (h : α → Option D) (hk : kp W) : ∀ l : List α,
    (∀ a ∈ l, ∃ ρ', fg (emb a) ρ = some ρ' ∧ t ρ' W = .ok true W ∧ f ρ' W = match h a with | some y => .ok (.d y) W | none => .exc C W) →
    lcL kp fg t f ρ (l.map emb) W = match l.mapM h with | some ys => .ok (ys.map Vl.d) W | none => .exc C W
  | [], _ => by simp [lcL, hk]
  | a :: l, H => by
    obtain ⟨ρ', e1, e2, e3⟩ := H a List.mem_cons_self
    have ih := lc_may emb h hk l fun b hb => H b (List.mem_cons_of_mem _ hb)
    simp only [List.map_cons, lcL, if_pos hk, e1, e2, Res.bind_ok, if_true, e3]
    cases q : h a with
    | none => simp [List.mapM_cons, q]
    | some y =>
      simp only [Res.bind_ok, ih, List.mapM_cons, q, Option.bind_eq_bind, Option.bind_some]
      cases l.mapM h with
      | none => rfl
      | some ys => rfl
theorem lc_pure {α : Type} {kp : Ms → Prop} {fg : FG} {t : FT} {f : FE} {ρ : Ev} {W : Ms} (emb : α → Vl) (p : α → Bool) (g : α → D) (hk : kp W) : ∀ l : List α,
    (∀ a ∈ l, ∃ ρ', fg (emb a) ρ = some ρ' ∧ t ρ' W = .ok (p a) W ∧ (p a = true → f ρ' W = .ok (.d (g a)) W)) →
    lcL kp fg t f ρ (l.map emb) W = .ok (((l.filter p).map g).map Vl.d) W
  | [], _ => by simp [lcL, hk]
  | a :: l, H => by
    obtain ⟨ρ', e1, e2, e3⟩ := H a List.mem_cons_self
    have ih := lc_pure emb p g hk l fun b hb => H b (List.mem_cons_of_mem _ hb)
    cases q : p a with
    | false => simp [lcL, hk, e1, e2, q, ih]
    | true => simp [lcL, hk, e1, e2, q, ih, e3 q]
theorem dsOf_map (l : List D) : dsOf (l.map Vl.d) = some l := by
  induction l with
  | nil => rfl
  | cons x l ih => simp [dsOf, ih]
theorem mkLst_map (l : List D) (W : Ms) (h : l.length ≤ 1000000) : mkLst (l.map Vl.d) W = .ok (.d (.lst l)) W := by
  simp [mkLst, h, dsOf_map]
theorem mkTup_map (l : List D) (W : Ms) (h : l.length ≤ 1000000) : mkTup (l.map Vl.d) W = .ok (.d (.tup l)) W := by
  simp [mkTup, h, dsOf_map]
theorem eLc_pure {α : Type} {fi : FI} {fg : FG} {t : FT} {f : FE} {vs : List Nat} {ρ : Ev} {W : Ms} (emb : α → Vl) (p : α → Bool) (g : α → D) (l : List α) (hi : fi ρ W = .ok ⟨l.map emb, yes⟩ W) (hl : l.length ≤ 1000000)
    (H : ∀ a ∈ l, ∃ ρ', fg (emb a) (wipeE ρ vs) = some ρ' ∧ t ρ' W = .ok (p a) W ∧ (p a = true → f ρ' W = .ok (.d (g a)) W)) :
    eLc fi fg t f vs ρ W = .ok (.d (.lst ((l.filter p).map g))) W := by
  have hl2 : ((l.filter p).map g).length ≤ 1000000 := by
    rw [List.length_map]
    exact Nat.le_trans (List.length_filter_le _ _) hl
  simp only [eLc, lcA, hi, Res.bind_ok, lcB, List.length_map, if_pos hl]
  rw [lc_pure emb p g trivial l H, Res.bind_ok, mkLst_map _ _ hl2]
theorem eLc_all {α : Type} {fi : FI} {fg : FG} {f : FE} {vs : List Nat} {ρ : Ev} {W : Ms} (emb : α → Vl) (g : α → D) (l : List α) (hi : fi ρ W = .ok ⟨l.map emb, yes⟩ W) (hl : l.length ≤ 1000000)
    (H : ∀ a ∈ l, ∃ ρ', fg (emb a) (wipeE ρ vs) = some ρ' ∧ f ρ' W = .ok (.d (g a)) W) :
    eLc fi fg (nxE tstYes) f vs ρ W = .ok (.d (.lst (l.map g))) W := by
  have := eLc_pure (t := nxE tstYes) (f := f) (vs := vs) emb (fun _ => true) g l hi hl fun a ha => by
    obtain ⟨ρ', e1, e2⟩ := H a ha
    exact ⟨ρ', e1, rfl, fun _ => e2⟩
  rw [List.filter_eq_self.mpr fun _ _ => rfl] at this
  exact this
theorem lc_st {α : Type} {fg : FG} {f : FE} {ρ : Ev} (emb : α → Vl) (I : Ms → Prop) (P : D → Prop) : ∀ (l : List α) (W : Ms), I W →
    (∀ a ∈ l, ∀ W, I W → ∃ ρ' y W', fg (emb a) ρ = some ρ' ∧ f ρ' W = .ok (.d y) W' ∧ P y ∧ I W') →
    ∃ (ys : List D) (W' : Ms), lcL yes fg (nxE tstYes) f ρ (l.map emb) W = .ok (ys.map Vl.d) W' ∧ ys.length = l.length ∧ (∀ y ∈ ys, P y) ∧ I W'
  | [], W, i, _ => ⟨[], W, by simp [lcL, yes], rfl, (fun y h => nomatch h), i⟩
  | a :: l, W, i, H => by
    obtain ⟨ρ', y, W1, e1, e2, p, i1⟩ := H a List.mem_cons_self W i
    obtain ⟨ys, W2, e3, hl, hp, i2⟩ := lc_st emb I P l W1 i1 fun b hb => H b (List.mem_cons_of_mem _ hb)
    refine ⟨y :: ys, W2, ?_, by rw [List.length_cons, hl, List.length_cons], fun z hz => ?_, i2⟩
    · have ey : nxE tstYes ρ' W = .ok true W := rfl
      simp [lcL, yes, e1, ey, e2]
      simp [e3]
    · rcases List.mem_cons.mp hz with rfl | hz
      · exact p
      · exact hp z hz
theorem eLc_st {α : Type} {fi : FI} {fg : FG} {f : FE} {vs : List Nat} {ρ : Ev} {W W0 : Ms} (emb : α → Vl) (I : Ms → Prop) (P : D → Prop) (l : List α) (hi : fi ρ W = .ok ⟨l.map emb, yes⟩ W0) (i : I W0) (hl : l.length ≤ 1000000)
    (H : ∀ a ∈ l, ∀ W, I W → ∃ ρ' y W', fg (emb a) (wipeE ρ vs) = some ρ' ∧ f ρ' W = .ok (.d y) W' ∧ P y ∧ I W') :
    ∃ (ys : List D) (W' : Ms), eLc fi fg (nxE tstYes) f vs ρ W = .ok (.d (.lst ys)) W' ∧ ys.length = l.length ∧ (∀ y ∈ ys, P y) ∧ I W' := by
  obtain ⟨ys, W', e, h1, h2, h3⟩ := lc_st emb I P l W0 i H
  refine ⟨ys, W', ?_, h1, h2, h3⟩
  simp only [eLc, lcA, hi, Res.bind_ok, lcB, List.length_map, if_pos hl, e]
  exact mkLst_map _ _ (by rw [h1]; exact hl)
theorem eqD_int (W : Ms) (i j : Int) : DL.eqD W (.d (.int i)) (.d (.int j)) = .ok (.d (.bl (decide (i = j)))) W := by
  unfold DL.eqD; simp [rdD, scalD]
theorem tupD_lst (l : List D) (W : Ms) (h : l.length ≤ 1000000) : tupD W [.d (.lst l)] = .ok (.d (.tup l)) W := by
  have e : DL.tupOf (.d (.lst l)) = none := rfl
  simp only [tupD, e, srcOf, seqOf, lstOf]
  exact mkTup_map l W h
theorem seq_lst (l : List D) (W : Ms) : seqItm (.d (.lst l)) W = .ok ⟨l.map Vl.d, yes⟩ W := rfl
theorem seq_tup (l : List D) (W : Ms) : seqItm (.d (.tup l)) W = .ok ⟨l.map Vl.d, yes⟩ W := rfl
theorem mapM_len {α β : Type} {h : α → Option β} : ∀ {l : List α} {ys : List β}, l.mapM h = some ys → ys.length = l.length
  | [], ys, e => by
    simp at e
    subst e
    rfl
  | a :: l, ys, e => by
    rw [List.mapM_cons] at e
    cases q : h a with
    | none => simp [q] at e
    | some y =>
      cases q2 : l.mapM h with
      | none => simp [q, q2] at e
      | some zs =>
        simp [q, q2] at e
        subst e
        simp [mapM_len q2]
theorem lenD_lst (l : List D) (W : Ms) : lenD W [.d (.lst l)] = .ok (.d (.int (l.length : Nat))) W := by
  simp [lenD, srcOf, seqOf, lstOf]
theorem lenD_tup (l : List D) (W : Ms) : lenD W [.d (.tup l)] = .ok (.d (.int (l.length : Nat))) W := by
  simp [lenD, srcOf, seqOf, lstOf, DL.tupOf]
theorem neD_int (W : Ms) (i j : Int) : DL.neD W (.d (.int i)) (.d (.int j)) = .ok (.d (.bl (!decide (i = j)))) W := by
  unfold DL.neD
  simp [rdD, scalD]
theorem eqD_bl (W : Ms) (a b : Bool) : DL.eqD W (.d (.bl a)) (.d (.bl b)) = .ok (.d (.bl (decide (a = b)))) W := by
  unfold DL.eqD
  simp [rdD, scalD]
theorem neD_bl (W : Ms) (a b : Bool) : DL.neD W (.d (.bl a)) (.d (.bl b)) = .ok (.d (.bl (!decide (a = b)))) W := by
  unfold DL.neD
  simp [rdD, scalD]
theorem atI_nat {α : Type} (l : List α) (i : Nat) : atI l (i : Int) = l[i]? := by
  unfold atI
  by_cases h : i < l.length
  · simp [ixN, h]
  · simp [ixN, h]
theorem sSeq_nx {f g : FS} {ρ ρ1 : Ev} {W W1 : Ms} (h : f ρ W = .nx ρ1 W1) : sSeq f g ρ W = g ρ1 W1 := by simp [sSeq, h]
theorem sSet_ok {i : Nat} {f : FE} {ρ : Ev} {W W1 : Ms} {x : Vl} (h : f ρ W = .ok x W1) : sSet i f ρ W = .nx (ρ.set i (some x)) W1 := by simp [sSet, h]
theorem sIf_no {c : FT} {a : FS} {ρ : Ev} {W W1 : Ms} (h : c ρ W = .ok false W1) : sIf c a sNil ρ W = .nx ρ W1 := by simp [sIf, h, sNil]
theorem eCB1 {g : Ms → List Vl → Res Vl} {f : FE} {ρ : Ev} {W W1 : Ms} {x : Vl} (h : f ρ W = .ok x W1) : eCB g (aCons f aNil) ρ W = g W1 [x] := by
  simp only [eCB, aCons, aNil, h, Res.bind_ok]
theorem neD_str (a b : Str) : neD W (.d (.str a)) (.d (.str b)) = .ok (.d (.bl (!decide (a = b)))) W := by
  unfold neD
  simp [rdD, scalD]
theorem eqD_str (a b : Str) : eqD W (.d (.str a)) (.d (.str b)) = .ok (.d (.bl (decide (a = b)))) W := by
  unfold eqD
  simp [rdD, scalD]
theorem ix_tup (l : List D) (i : Nat) {x : D} (h : l[i]? = some x) : ixD W (.d (.tup l)) (.d (.int (i : Int))) = .ok (.d x) W := by
  simp [ixD, dctOf, intOf, seqOf, lstOf, DL.tupOf, atI_nat, h]
theorem ix_lst (l : List D) (i : Nat) {x : D} (h : l[i]? = some x) : ixD W (.d (.lst l)) (.d (.int (i : Int))) = .ok (.d x) W := by
  simp [ixD, dctOf, intOf, seqOf, lstOf, atI_nat, h]
theorem rg1' {W' : Ms} {fs : FA} {ρ : Ev} {n : Nat} (h : fs ρ W = .ok [.d (.int (n : Int))] W') (hn : n ≤ 1000000) : iRg1 fs ρ W = .ok ⟨(List.range' 0 n).map fun k : Nat => Vl.d (.int (k : Int)), yes⟩ W' := by
  have h0 : (0 : Int) ≤ (n : Int) := Int.natCast_nonneg n
  have h2 : (n : Int) ≤ 1000000 := by omega
  have g1 : (-(2 ^ 62) : Int) ≤ (n : Int) := Int.le_trans (by decide) h0
  have g2 : (n : Int) < 2 ^ 62 := Int.lt_of_le_of_lt h2 (by decide)
  have er : ((List.range n).map fun i : Nat => Vl.d (.int (0 + (i : Int)))) = (List.range' 0 n).map fun k : Nat => Vl.d (.int (k : Int)) := by
    rw [List.range_eq_range']
    exact List.map_congr_left fun k _ => by rw [Int.zero_add]
  unfold iRg1
  rw [h, Res.bind_ok]
  simp only [intOf]
  rw [if_pos ⟨g1, g2⟩, Int.toNat_natCast, er]
theorem okL_map {α : Type} (f : α → D) : ∀ l : List α, (∀ a ∈ l, (f a).ok = true) → okL (l.map f) = true
  | [], _ => rfl
  | a :: l, h => by
    simp only [List.map_cons, okL, Bool.and_eq_true]
    exact ⟨h a List.mem_cons_self, okL_map f l fun b hb => h b (List.mem_cons_of_mem _ hb)⟩
theorem depL_map {α : Type} (f : α → D) (n : Nat) : ∀ l : List α, (∀ a ∈ l, (f a).dep ≤ n) → depL (l.map f) ≤ n
  | [], _ => Nat.zero_le _
  | a :: l, h => by
    simp only [List.map_cons, depL]
    have h1 := h a List.mem_cons_self
    have h2 := depL_map f n l fun b hb => h b (List.mem_cons_of_mem _ hb)
    omega
theorem neD_shaped {x : D} (h : shapedD x = true) : neD W (.d x) (.d x) = .ok (.d (.bl false)) W := by
  unfold neD
  simp [rdD, h]
theorem eqD_shaped {x : D} (h : shapedD x = true) : eqD W (.d x) (.d x) = .ok (.d (.bl true)) W := by
  unfold eqD
  simp [rdD, h]
open Classical in
theorem eqD_sh {x y : D} (h : shapedD x = true) (h' : shapedD y = true) : eqD W (.d x) (.d y) = .ok (.d (.bl (decide (x = y)))) W := by
  unfold eqD
  simp [rdD, h, h']
open Classical in
theorem neD_sh {x y : D} (h : shapedD x = true) (h' : shapedD y = true) : neD W (.d x) (.d y) = .ok (.d (.bl (!decide (x = y)))) W := by
  unfold neD
  simp [rdD, h, h']
theorem eCall1 {F : FD} {fa : FE} {ρ : Ev} {x : Vl} {W1 : Ms} (ha : fa ρ W = .ok x W1) : eCall F [] (aCons fa aNil) ρ W = F [x] W1 := by
  simp only [eCall, aCons, aNil, ha, Res.bind_ok, List.append_nil]
theorem eCall2 {F : FD} {fa fb : FE} {ρ : Ev} {x y : Vl} {W1 W2 : Ms} (ha : fa ρ W = .ok x W1) (hb : fb ρ W1 = .ok y W2) : eCall F [] (aCons fa (aCons fb aNil)) ρ W = F [x, y] W2 := by
  simp only [eCall, aCons, aNil, ha, hb, Res.bind_ok, List.append_nil]
/-! ### two orders of the same are one -/
theorem sort_uniq {α : Type} {le : α → α → Prop} : ∀ {l m : List α}, (∀ a b, a ∈ l → b ∈ l → le a b → le b a → a = b) → l.Perm m → l.Pairwise le → m.Pairwise le → l = m
  | [], m, _, p, _, _ => (List.Perm.nil_eq p)
  | a :: l, [], _, p, _, _ => by have := p.length_eq; simp at this
  | a :: l, b :: m, h, p, s, t => by
    rw [List.pairwise_cons] at s t
    have e : a = b := by
      have ha : a ∈ b :: m := p.mem_iff.mp List.mem_cons_self
      have hb : b ∈ a :: l := p.mem_iff.mpr List.mem_cons_self
      rcases List.mem_cons.mp ha with q | q
      · exact q
      · rcases List.mem_cons.mp hb with z | z
        · exact z.symm
        · exact h a b List.mem_cons_self hb (s.1 b z) (t.1 a q)
    subst e
    rw [sort_uniq (fun x y hx hy => h x y (List.mem_cons_of_mem _ hx) (List.mem_cons_of_mem _ hy)) p.cons_inv s.2 t.2]
theorem perm_of {α : Type} [DecidableEq α] {l m : List α} (hl : l.Nodup) (hm : m.Nodup) (h : ∀ x, x ∈ l ↔ x ∈ m) : l.Perm m := by
  rw [List.perm_iff_count]
  intro a
  by_cases e : a ∈ l
  · rw [hl.count, hm.count, if_pos e, if_pos ((h a).mp e)]
  · rw [hl.count, hm.count, if_neg e, if_neg (fun z => e ((h a).mpr z))]
/-- what is sorted by a whole order, once each, is told by its members -/
theorem sort_by {α : Type} [DecidableEq α] {le : α → α → Bool} (tr : ∀ a b c, le a b = true → le b c = true → le a c = true) (tot : ∀ a b, (le a b || le b a) = true) {l m : List α} (anti : ∀ a b, a ∈ m → b ∈ m → le a b = true → le b a = true → a = b) (hl : l.Nodup) (hm : m.Nodup) (h : ∀ x, x ∈ l ↔ x ∈ m) (s : m.Pairwise fun a b => le a b = true) : l.mergeSort le = m :=
  (sort_uniq (le := fun a b => le a b = true) anti ((perm_of hm hl fun x => (h x).symm).trans (List.mergeSort_perm l le).symm) s (List.pairwise_mergeSort tr tot l)).symm
theorem run0_nx {np nn : Nat} {b : FS} {ds : List Vl} {W W' : Ms} {ρ : Ev} (hl : ds.length = np) (h : b (startE nn ds) W = .nx ρ W') : run0 np nn b ds W = .ok (.d .non) W' := by
  unfold run0
  rw [if_pos hl, h]
theorem run0_rt {np nn : Nat} {b : FS} {ds : List Vl} {W W' : Ms} {v : Vl} (hl : ds.length = np) (h : b (startE nn ds) W = .rt v W') : run0 np nn b ds W = .ok v W' := by
  unfold run0
  rw [if_pos hl, h]
theorem run0_exc {np nn : Nat} {b : FS} {ds : List Vl} {W W' : Ms} {C : Addr} (hl : ds.length = np) (h : b (startE nn ds) W = .exc C W') : run0 np nn b ds W = .exc C W' := by
  unfold run0
  rw [if_pos hl, h]
end
end DL

set_option Elab.async false
set_option linter.all false
set_option maxRecDepth 100000
set_option maxHeartbeats 4000000
namespace Toy
open PySem L2 DL
def asgVal : Stmt → Expr
  | .Assign _ v _ => v
  | _ => .Constant .none 0 ⟨0, 0, 0, 0⟩
def lamArgs : Expr → Arguments
  | .Lambda a _ _ _ => a
  | _ => { posonlyargs := [], args := [], vararg := none, kwonlyargs := [], kw_defaults := [], kwarg := none, defaults := [] }
def lamBody : Expr → Expr
  | .Lambda _ b _ _ => b
  | e => e
def lamScope : Expr → Scope
  | .Lambda _ _ s _ => s
  | _ => { kind := .function, names := [], isGenerator := false, isCoroutine := false, more := [] }
def top (i : Nat) : PySem.Stmt := PySem.Challenge.pw_deducehall_k10_changes_put_together.main.body.getD i (.Pass ⟨0, 0, 0, 0⟩)
abbrev s_is_number : PySem.Stmt := top 14
abbrev N_is_number : List Str := ["value"]
theorem sc_is_number : FnScope N_is_number ["value"] (defScope s_is_number) := ⟨rfl, rfl, rfl, by decide +kernel, rfl, by decide +kernel, by decide +kernel⟩
abbrev s_value_key : PySem.Stmt := top 15
abbrev N_value_key : List Str := ["value"]
theorem sc_value_key : FnScope N_value_key ["value"] (defScope s_value_key) := ⟨rfl, rfl, rfl, by decide +kernel, rfl, by decide +kernel, by decide +kernel⟩
abbrev s_row_key : PySem.Stmt := top 16
abbrev N_row_key : List Str := ["row", "value"]
theorem sc_row_key : FnScope N_row_key ["row"] (defScope s_row_key) := ⟨rfl, rfl, rfl, by decide +kernel, rfl, by decide +kernel, by decide +kernel⟩
abbrev s_in_order : PySem.Stmt := top 17
abbrev N_in_order : List Str := ["rows"]
theorem sc_in_order : FnScope N_in_order ["rows"] (defScope s_in_order) := ⟨rfl, rfl, rfl, by decide +kernel, rfl, by decide +kernel, by decide +kernel⟩
abbrev s_Relation_init : PySem.Stmt := inClass (top 19) 0
abbrev N_Relation_init : List Str := ["self", "rows", "row"]
theorem sc_Relation_init : FnScope N_Relation_init ["self", "rows"] (defScope s_Relation_init) := ⟨rfl, rfl, rfl, by decide +kernel, rfl, by decide +kernel, by decide +kernel⟩
abbrev s_Relation_has : PySem.Stmt := inClass (top 19) 1
abbrev N_Relation_has : List Str := ["self", "row"]
theorem sc_Relation_has : FnScope N_Relation_has ["self", "row"] (defScope s_Relation_has) := ⟨rfl, rfl, rfl, by decide +kernel, rfl, by decide +kernel, by decide +kernel⟩
abbrev s_Relation_size : PySem.Stmt := inClass (top 19) 2
abbrev N_Relation_size : List Str := ["self"]
theorem sc_Relation_size : FnScope N_Relation_size ["self"] (defScope s_Relation_size) := ⟨rfl, rfl, rfl, by decide +kernel, rfl, by decide +kernel, by decide +kernel⟩
abbrev s_Relation_add : PySem.Stmt := inClass (top 19) 3
abbrev N_Relation_add : List Str := ["self", "row", "places"]
theorem sc_Relation_add : FnScope N_Relation_add ["self", "row"] (defScope s_Relation_add) := ⟨rfl, rfl, rfl, by decide +kernel, rfl, by decide +kernel, by decide +kernel⟩
abbrev s_Relation_drop : PySem.Stmt := inClass (top 19) 4
abbrev N_Relation_drop : List Str := ["self", "row", "places"]
theorem sc_Relation_drop : FnScope N_Relation_drop ["self", "row"] (defScope s_Relation_drop) := ⟨rfl, rfl, rfl, by decide +kernel, rfl, by decide +kernel, by decide +kernel⟩
abbrev s_Relation_rows : PySem.Stmt := inClass (top 19) 7
abbrev N_Relation_rows : List Str := ["self"]
theorem sc_Relation_rows : FnScope N_Relation_rows ["self"] (defScope s_Relation_rows) := ⟨rfl, rfl, rfl, by decide +kernel, rfl, by decide +kernel, by decide +kernel⟩
abbrev s_Store_init : PySem.Stmt := inClass (top 20) 0
abbrev N_Store_init : List Str := ["self"]
theorem sc_Store_init : FnScope N_Store_init ["self"] (defScope s_Store_init) := ⟨rfl, rfl, rfl, by decide +kernel, rfl, by decide +kernel, by decide +kernel⟩
abbrev s_Store_of : PySem.Stmt := inClass (top 20) 1
abbrev N_Store_of : List Str := ["self", "name"]
theorem sc_Store_of : FnScope N_Store_of ["self", "name"] (defScope s_Store_of) := ⟨rfl, rfl, rfl, by decide +kernel, rfl, by decide +kernel, by decide +kernel⟩
abbrev s_Store_names : PySem.Stmt := inClass (top 20) 2
abbrev N_Store_names : List Str := ["self", "name"]
theorem sc_Store_names : FnScope N_Store_names ["self"] (defScope s_Store_names) := ⟨rfl, rfl, rfl, by decide +kernel, rfl, by decide +kernel, by decide +kernel⟩
abbrev s_Store_has : PySem.Stmt := inClass (top 20) 3
abbrev N_Store_has : List Str := ["self", "name", "row"]
theorem sc_Store_has : FnScope N_Store_has ["self", "name", "row"] (defScope s_Store_has) := ⟨rfl, rfl, rfl, by decide +kernel, rfl, by decide +kernel, by decide +kernel⟩
abbrev s_Store_size : PySem.Stmt := inClass (top 20) 4
abbrev N_Store_size : List Str := ["self", "name"]
theorem sc_Store_size : FnScope N_Store_size ["self"] (defScope s_Store_size) := ⟨rfl, rfl, rfl, by decide +kernel, rfl, by decide +kernel, by decide +kernel⟩
abbrev s_Store_shown : PySem.Stmt := inClass (top 20) 6
abbrev N_Store_shown : List Str := ["self", "name"]
theorem sc_Store_shown : FnScope N_Store_shown ["self"] (defScope s_Store_shown) := ⟨rfl, rfl, rfl, by decide +kernel, rfl, by decide +kernel, by decide +kernel⟩
abbrev s_Changes_init : PySem.Stmt := inClass (top 21) 0
abbrev N_Changes_init : List Str := ["self"]
theorem sc_Changes_init : FnScope N_Changes_init ["self"] (defScope s_Changes_init) := ⟨rfl, rfl, rfl, by decide +kernel, rfl, by decide +kernel, by decide +kernel⟩
abbrev s_Changes_note : PySem.Stmt := inClass (top 21) 1
abbrev N_Changes_note : List Str := ["self", "name", "row", "came", "here", "there"]
theorem sc_Changes_note : FnScope N_Changes_note ["self", "name", "row", "came"] (defScope s_Changes_note) := ⟨rfl, rfl, rfl, by decide +kernel, rfl, by decide +kernel, by decide +kernel⟩
abbrev s_Changes_came : PySem.Stmt := inClass (top 21) 2
abbrev N_Changes_came : List Str := ["self", "name"]
theorem sc_Changes_came : FnScope N_Changes_came ["self", "name"] (defScope s_Changes_came) := ⟨rfl, rfl, rfl, by decide +kernel, rfl, by decide +kernel, by decide +kernel⟩
abbrev s_Changes_went : PySem.Stmt := inClass (top 21) 3
abbrev N_Changes_went : List Str := ["self", "name"]
theorem sc_Changes_went : FnScope N_Changes_went ["self", "name"] (defScope s_Changes_went) := ⟨rfl, rfl, rfl, by decide +kernel, rfl, by decide +kernel, by decide +kernel⟩
abbrev s_Changes_names : PySem.Stmt := inClass (top 21) 4
abbrev N_Changes_names : List Str := ["self", "name"]
theorem sc_Changes_names : FnScope N_Changes_names ["self"] (defScope s_Changes_names) := ⟨rfl, rfl, rfl, by decide +kernel, rfl, by decide +kernel, by decide +kernel⟩
abbrev s_Changes_is_bare : PySem.Stmt := inClass (top 21) 5
abbrev N_Changes_is_bare : List Str := ["self"]
theorem sc_Changes_is_bare : FnScope N_Changes_is_bare ["self"] (defScope s_Changes_is_bare) := ⟨rfl, rfl, rfl, by decide +kernel, rfl, by decide +kernel, by decide +kernel⟩
abbrev s_Changes_turned : PySem.Stmt := inClass (top 21) 6
abbrev N_Changes_turned : List Str := ["self", "other", "name", "row"]
theorem sc_Changes_turned : FnScope N_Changes_turned ["self"] (defScope s_Changes_turned) := ⟨rfl, rfl, rfl, by decide +kernel, rfl, by decide +kernel, by decide +kernel⟩
abbrev s_Changes_shown : PySem.Stmt := inClass (top 21) 7
abbrev N_Changes_shown : List Str := ["self", "name"]
theorem sc_Changes_shown : FnScope N_Changes_shown ["self"] (defScope s_Changes_shown) := ⟨rfl, rfl, rfl, by decide +kernel, rfl, by decide +kernel, by decide +kernel⟩
abbrev s_put_under : PySem.Stmt := top 22
abbrev N_put_under : List Str := ["table", "key", "row"]
theorem sc_put_under : FnScope N_put_under ["table", "key", "row"] (defScope s_put_under) := ⟨rfl, rfl, rfl, by decide +kernel, rfl, by decide +kernel, by decide +kernel⟩
abbrev s_take_from : PySem.Stmt := top 23
abbrev N_take_from : List Str := ["table", "key", "row", "rows"]
theorem sc_take_from : FnScope N_take_from ["table", "key", "row"] (defScope s_take_from) := ⟨rfl, rfl, rfl, by decide +kernel, rfl, by decide +kernel, by decide +kernel⟩
abbrev s_picked : PySem.Stmt := top 24
abbrev N_picked : List Str := ["row", "places", "place"]
theorem sc_picked : FnScope N_picked ["row", "places"] (defScope s_picked) := ⟨rfl, rfl, rfl, by decide +kernel, rfl, by decide +kernel, by decide +kernel⟩
abbrev s_store_of : PySem.Stmt := top 25
abbrev N_store_of : List Str := ["facts", "store", "name", "row"]
theorem sc_store_of : FnScope N_store_of ["facts"] (defScope s_store_of) := ⟨rfl, rfl, rfl, by decide +kernel, rfl, by decide +kernel, by decide +kernel⟩
abbrev s_apart : PySem.Stmt := top 26
abbrev N_apart : List Str := ["one", "other", "changes", "name", "row"]
theorem sc_apart : FnScope N_apart ["one", "other"] (defScope s_apart) := ⟨rfl, rfl, rfl, by decide +kernel, rfl, by decide +kernel, by decide +kernel⟩
abbrev s_laid_on : PySem.Stmt := top 27
abbrev N_laid_on : List Str := ["store", "changes", "name", "row", "relation"]
theorem sc_laid_on : FnScope N_laid_on ["store", "changes"] (defScope s_laid_on) := ⟨rfl, rfl, rfl, by decide +kernel, rfl, by decide +kernel, by decide +kernel⟩
abbrev s_l_dice : PySem.Stmt := top 29
abbrev N_l_dice : List Str := ["cell"]
theorem sc_l_dice : FnScope N_l_dice ["cell"] (defScope s_l_dice) := ⟨rfl, rfl, rfl, by decide +kernel, rfl, by decide +kernel, by decide +kernel⟩
abbrev s_l_roll : PySem.Stmt := top 30
abbrev N_l_roll : List Str := ["dice", "many", "found"]
theorem sc_l_roll : FnScope N_l_roll ["dice", "many"] (defScope s_l_roll) := ⟨rfl, rfl, rfl, by decide +kernel, rfl, by decide +kernel, by decide +kernel⟩
abbrev s_l_rounds : PySem.Stmt := top 31
abbrev N_l_rounds : List Str := ["script", "most", "cells", "cell"]
theorem sc_l_rounds : FnScope N_l_rounds ["script", "most"] (defScope s_l_rounds) := ⟨rfl, rfl, rfl, by decide +kernel, rfl, by decide +kernel, by decide +kernel⟩
abbrev s_l_told : PySem.Stmt := top 32
abbrev N_l_told : List Str := ["what"]
theorem sc_l_told : FnScope N_l_told ["what"] (defScope s_l_told) := ⟨rfl, rfl, rfl, by decide +kernel, rfl, by decide +kernel, by decide +kernel⟩
abbrev s_l_facts : PySem.Stmt := top 33
abbrev N_l_facts : List Str := ["dice", "found", "k", "fact"]
theorem sc_l_facts : FnScope N_l_facts ["dice"] (defScope s_l_facts) := ⟨rfl, rfl, rfl, by decide +kernel, rfl, by decide +kernel, by decide +kernel⟩
abbrev s_law : PySem.Stmt := top 34
abbrev N_law : List Str := ["script", "dice", "changes", "net", "step", "fact", "came", "due", "name", "went", "one", "other", "start", "end", "between", "back", "bad", "told_now", "after", "row", "key"]
theorem sc_law : FnScope N_law ["script"] (defScope s_law) := ⟨rfl, rfl, rfl, by decide +kernel, rfl, by decide +kernel, by decide +kernel⟩
structure Ad where
  C_BadSign : Addr
  C_BadRule : Addr
  C_BadKind : Addr
  C_BadLayer : Addr
  C_NoSuch : Addr
  C_BadDeed : Addr
  C_BadGround : Addr
  C_BadStore : Addr
  C_Broken : Addr
  C_BadSize : Addr
  cL : Addr
  PL : Addr
  f_is_number : Addr
  d_is_number : FuncData
  f_value_key : Addr
  d_value_key : FuncData
  f_row_key : Addr
  d_row_key : FuncData
  f_in_order : Addr
  d_in_order : FuncData
  f_Relation_init : Addr
  d_Relation_init : FuncData
  e_Relation_init : Addr
  f_Relation_has : Addr
  d_Relation_has : FuncData
  f_Relation_size : Addr
  d_Relation_size : FuncData
  f_Relation_add : Addr
  d_Relation_add : FuncData
  f_Relation_drop : Addr
  d_Relation_drop : FuncData
  f_Relation_rows : Addr
  d_Relation_rows : FuncData
  f_Store_init : Addr
  d_Store_init : FuncData
  f_Store_of : Addr
  d_Store_of : FuncData
  f_Store_names : Addr
  d_Store_names : FuncData
  f_Store_has : Addr
  d_Store_has : FuncData
  f_Store_size : Addr
  d_Store_size : FuncData
  f_Store_shown : Addr
  d_Store_shown : FuncData
  f_Changes_init : Addr
  d_Changes_init : FuncData
  f_Changes_note : Addr
  d_Changes_note : FuncData
  f_Changes_came : Addr
  d_Changes_came : FuncData
  f_Changes_went : Addr
  d_Changes_went : FuncData
  f_Changes_names : Addr
  d_Changes_names : FuncData
  f_Changes_is_bare : Addr
  d_Changes_is_bare : FuncData
  f_Changes_turned : Addr
  d_Changes_turned : FuncData
  f_Changes_shown : Addr
  d_Changes_shown : FuncData
  f_put_under : Addr
  d_put_under : FuncData
  f_take_from : Addr
  d_take_from : FuncData
  f_picked : Addr
  d_picked : FuncData
  f_store_of : Addr
  d_store_of : FuncData
  f_apart : Addr
  d_apart : FuncData
  f_laid_on : Addr
  d_laid_on : FuncData
  f_l_dice : Addr
  d_l_dice : FuncData
  f_l_roll : Addr
  d_l_roll : FuncData
  f_l_rounds : Addr
  d_l_rounds : FuncData
  f_l_told : Addr
  d_l_told : FuncData
  f_l_facts : Addr
  d_l_facts : FuncData
  f_law : Addr
  d_law : FuncData
  C_Relation : Addr
  C_Store : Addr
  C_Changes : Addr
/-- what the top leaves -/
structure Txt (K : PySem.W.Frag) (mg : Str → Option Value) (A : Ad) : Prop where
  F_is_number : Fun K "is_number" "is_number" s_is_number A.f_is_number A.d_is_number
  b_is_number : Binds K A.d_is_number ["value"] []
  m_is_number : mg "is_number" = some (.ref A.f_is_number)
  F_value_key : Fun K "value_key" "value_key" s_value_key A.f_value_key A.d_value_key
  b_value_key : Binds K A.d_value_key ["value"] []
  m_value_key : mg "value_key" = some (.ref A.f_value_key)
  F_row_key : Fun K "row_key" "row_key" s_row_key A.f_row_key A.d_row_key
  b_row_key : Binds K A.d_row_key ["row"] []
  m_row_key : mg "row_key" = some (.ref A.f_row_key)
  F_in_order : Fun K "in_order" "in_order" s_in_order A.f_in_order A.d_in_order
  b_in_order : Binds K A.d_in_order ["rows"] []
  m_in_order : mg "in_order" = some (.ref A.f_in_order)
  sq_Relation_init : ∀ H, SqT K H A.e_Relation_init []
  F_Relation_init : FunD K "__init__" "Relation.__init__" (defArgs s_Relation_init) (defBody s_Relation_init) (defScope s_Relation_init) [(.ref A.e_Relation_init)] [] A.f_Relation_init A.d_Relation_init
  b_Relation_init : Binds K A.d_Relation_init ["self", "rows"] []
  bd_Relation_init : ∃ ds, Vals [(.ref A.e_Relation_init)] ds ∧ Binds K A.d_Relation_init ["self", "rows"] ds
  F_Relation_has : Fun K "has" "Relation.has" s_Relation_has A.f_Relation_has A.d_Relation_has
  b_Relation_has : Binds K A.d_Relation_has ["self", "row"] []
  e_Relation_has : Meth K A.C_Relation "has" A.f_Relation_has
  F_Relation_size : Fun K "size" "Relation.size" s_Relation_size A.f_Relation_size A.d_Relation_size
  b_Relation_size : Binds K A.d_Relation_size ["self"] []
  e_Relation_size : Meth K A.C_Relation "size" A.f_Relation_size
  F_Relation_add : Fun K "add" "Relation.add" s_Relation_add A.f_Relation_add A.d_Relation_add
  b_Relation_add : Binds K A.d_Relation_add ["self", "row"] []
  e_Relation_add : Meth K A.C_Relation "add" A.f_Relation_add
  F_Relation_drop : Fun K "drop" "Relation.drop" s_Relation_drop A.f_Relation_drop A.d_Relation_drop
  b_Relation_drop : Binds K A.d_Relation_drop ["self", "row"] []
  e_Relation_drop : Meth K A.C_Relation "drop" A.f_Relation_drop
  F_Relation_rows : Fun K "rows" "Relation.rows" s_Relation_rows A.f_Relation_rows A.d_Relation_rows
  b_Relation_rows : Binds K A.d_Relation_rows ["self"] []
  e_Relation_rows : Meth K A.C_Relation "rows" A.f_Relation_rows
  F_Store_init : Fun K "__init__" "Store.__init__" s_Store_init A.f_Store_init A.d_Store_init
  b_Store_init : Binds K A.d_Store_init ["self"] []
  F_Store_of : Fun K "of" "Store.of" s_Store_of A.f_Store_of A.d_Store_of
  b_Store_of : Binds K A.d_Store_of ["self", "name"] []
  e_Store_of : Meth K A.C_Store "of" A.f_Store_of
  F_Store_names : Fun K "names" "Store.names" s_Store_names A.f_Store_names A.d_Store_names
  b_Store_names : Binds K A.d_Store_names ["self"] []
  e_Store_names : Meth K A.C_Store "names" A.f_Store_names
  F_Store_has : Fun K "has" "Store.has" s_Store_has A.f_Store_has A.d_Store_has
  b_Store_has : Binds K A.d_Store_has ["self", "name", "row"] []
  e_Store_has : Meth K A.C_Store "has" A.f_Store_has
  F_Store_size : Fun K "size" "Store.size" s_Store_size A.f_Store_size A.d_Store_size
  b_Store_size : Binds K A.d_Store_size ["self"] []
  e_Store_size : Meth K A.C_Store "size" A.f_Store_size
  F_Store_shown : Fun K "shown" "Store.shown" s_Store_shown A.f_Store_shown A.d_Store_shown
  b_Store_shown : Binds K A.d_Store_shown ["self"] []
  e_Store_shown : Meth K A.C_Store "shown" A.f_Store_shown
  F_Changes_init : Fun K "__init__" "Changes.__init__" s_Changes_init A.f_Changes_init A.d_Changes_init
  b_Changes_init : Binds K A.d_Changes_init ["self"] []
  F_Changes_note : Fun K "note" "Changes.note" s_Changes_note A.f_Changes_note A.d_Changes_note
  b_Changes_note : Binds K A.d_Changes_note ["self", "name", "row", "came"] []
  e_Changes_note : Meth K A.C_Changes "note" A.f_Changes_note
  F_Changes_came : Fun K "came" "Changes.came" s_Changes_came A.f_Changes_came A.d_Changes_came
  b_Changes_came : Binds K A.d_Changes_came ["self", "name"] []
  e_Changes_came : Meth K A.C_Changes "came" A.f_Changes_came
  F_Changes_went : Fun K "went" "Changes.went" s_Changes_went A.f_Changes_went A.d_Changes_went
  b_Changes_went : Binds K A.d_Changes_went ["self", "name"] []
  e_Changes_went : Meth K A.C_Changes "went" A.f_Changes_went
  F_Changes_names : Fun K "names" "Changes.names" s_Changes_names A.f_Changes_names A.d_Changes_names
  b_Changes_names : Binds K A.d_Changes_names ["self"] []
  e_Changes_names : Meth K A.C_Changes "names" A.f_Changes_names
  F_Changes_is_bare : Fun K "is_bare" "Changes.is_bare" s_Changes_is_bare A.f_Changes_is_bare A.d_Changes_is_bare
  b_Changes_is_bare : Binds K A.d_Changes_is_bare ["self"] []
  e_Changes_is_bare : Meth K A.C_Changes "is_bare" A.f_Changes_is_bare
  F_Changes_turned : Fun K "turned" "Changes.turned" s_Changes_turned A.f_Changes_turned A.d_Changes_turned
  b_Changes_turned : Binds K A.d_Changes_turned ["self"] []
  e_Changes_turned : Meth K A.C_Changes "turned" A.f_Changes_turned
  F_Changes_shown : Fun K "shown" "Changes.shown" s_Changes_shown A.f_Changes_shown A.d_Changes_shown
  b_Changes_shown : Binds K A.d_Changes_shown ["self"] []
  e_Changes_shown : Meth K A.C_Changes "shown" A.f_Changes_shown
  F_put_under : Fun K "put_under" "put_under" s_put_under A.f_put_under A.d_put_under
  b_put_under : Binds K A.d_put_under ["table", "key", "row"] []
  m_put_under : mg "put_under" = some (.ref A.f_put_under)
  F_take_from : Fun K "take_from" "take_from" s_take_from A.f_take_from A.d_take_from
  b_take_from : Binds K A.d_take_from ["table", "key", "row"] []
  m_take_from : mg "take_from" = some (.ref A.f_take_from)
  F_picked : Fun K "picked" "picked" s_picked A.f_picked A.d_picked
  b_picked : Binds K A.d_picked ["row", "places"] []
  m_picked : mg "picked" = some (.ref A.f_picked)
  F_store_of : Fun K "store_of" "store_of" s_store_of A.f_store_of A.d_store_of
  b_store_of : Binds K A.d_store_of ["facts"] []
  m_store_of : mg "store_of" = some (.ref A.f_store_of)
  F_apart : Fun K "apart" "apart" s_apart A.f_apart A.d_apart
  b_apart : Binds K A.d_apart ["one", "other"] []
  m_apart : mg "apart" = some (.ref A.f_apart)
  F_laid_on : Fun K "laid_on" "laid_on" s_laid_on A.f_laid_on A.d_laid_on
  b_laid_on : Binds K A.d_laid_on ["store", "changes"] []
  m_laid_on : mg "laid_on" = some (.ref A.f_laid_on)
  F_l_dice : Fun K "_law_dice" "_law_dice" s_l_dice A.f_l_dice A.d_l_dice
  b_l_dice : Binds K A.d_l_dice ["cell"] []
  m_l_dice : mg "_law_dice" = some (.ref A.f_l_dice)
  F_l_roll : Fun K "_law_roll" "_law_roll" s_l_roll A.f_l_roll A.d_l_roll
  b_l_roll : Binds K A.d_l_roll ["dice", "many"] []
  m_l_roll : mg "_law_roll" = some (.ref A.f_l_roll)
  F_l_rounds : Fun K "_law_rounds" "_law_rounds" s_l_rounds A.f_l_rounds A.d_l_rounds
  b_l_rounds : Binds K A.d_l_rounds ["script", "most"] []
  m_l_rounds : mg "_law_rounds" = some (.ref A.f_l_rounds)
  F_l_told : Fun K "_law_told" "_law_told" s_l_told A.f_l_told A.d_l_told
  b_l_told : Binds K A.d_l_told ["what"] []
  m_l_told : mg "_law_told" = some (.ref A.f_l_told)
  F_l_facts : Fun K "_law_facts" "_law_facts" s_l_facts A.f_l_facts A.d_l_facts
  b_l_facts : Binds K A.d_l_facts ["dice"] []
  m_l_facts : mg "_law_facts" = some (.ref A.f_l_facts)
  F_law : Fun K "law" "law" s_law A.f_law A.d_law
  b_law : Binds K A.d_law ["script"] []
  m_law : mg "law" = some (.ref A.f_law)
  m_Relation : mg "Relation" = some (.ref A.C_Relation)
  cl_Relation : Cls K A.C_Relation
  M_Relation : Mk K A.C_Relation A.f_Relation_init
  n_Relation_held : NoAttr K A.C_Relation "held"
  n_Relation_tables : NoAttr K A.C_Relation "tables"
  m_Store : mg "Store" = some (.ref A.C_Store)
  cl_Store : Cls K A.C_Store
  M_Store : Mk K A.C_Store A.f_Store_init
  n_Store_relations : NoAttr K A.C_Store "relations"
  m_Changes : mg "Changes" = some (.ref A.C_Changes)
  cl_Changes : Cls K A.C_Changes
  M_Changes : Mk K A.C_Changes A.f_Changes_init
  n_Changes_added : NoAttr K A.C_Changes "added"
  n_Changes_dropped : NoAttr K A.C_Changes "dropped"
  q_BadSign : mg "BadSign" = some (.ref A.C_BadSign)
  q_BadRule : mg "BadRule" = some (.ref A.C_BadRule)
  q_BadKind : mg "BadKind" = some (.ref A.C_BadKind)
  q_BadLayer : mg "BadLayer" = some (.ref A.C_BadLayer)
  q_NoSuch : mg "NoSuch" = some (.ref A.C_NoSuch)
  q_BadDeed : mg "BadDeed" = some (.ref A.C_BadDeed)
  q_BadGround : mg "BadGround" = some (.ref A.C_BadGround)
  q_BadStore : mg "BadStore" = some (.ref A.C_BadStore)
  q_Broken : mg "Broken" = some (.ref A.C_Broken)
  q_BadSize : mg "BadSize" = some (.ref A.C_BadSize)
  x_NoSuch : PySem.W.excIn K A.C_NoSuch [.type "ValueError", .type "Exception", .type "BaseException", .type "object"] "ValueError.__new__" = true
  k_NoSuch : PySem.W.keepIn K (.ref A.C_NoSuch) = true
  sb_NoSuch : PySem.W.subIn K (.ref A.C_NoSuch) (.type "BaseException") = some true
  ty_NoSuch : PySem.W.typeIn K (.ref A.C_NoSuch) = some (.type "type")
  m_NoSuch_BadSign : PySem.W.exmOne K (.ref A.C_NoSuch) (.ref A.C_BadSign) = some false
  m_NoSuch_BadRule : PySem.W.exmOne K (.ref A.C_NoSuch) (.ref A.C_BadRule) = some false
  m_NoSuch_BadKind : PySem.W.exmOne K (.ref A.C_NoSuch) (.ref A.C_BadKind) = some false
  m_NoSuch_BadLayer : PySem.W.exmOne K (.ref A.C_NoSuch) (.ref A.C_BadLayer) = some false
  m_NoSuch_NoSuch : PySem.W.exmOne K (.ref A.C_NoSuch) (.ref A.C_NoSuch) = some true
  C_law : FunC K "law" "law" s_law A.f_law A.d_law A.cL
  H_law : PySem.W.codeHdIn K A.cL A.PL = true
  z_abs : mg "abs" = none
  z_any : mg "any" = none
  z_int : mg "int" = none
  z_isinstance : mg "isinstance" = none
  z_len : mg "len" = none
  z_list : mg "list" = none
  z_range : mg "range" = none
  z_sorted : mg "sorted" = none
  z_sum : mg "sum" = none
  z_tuple : mg "tuple" = none

/-- the name that the lambdas bear -/
abbrev qL : Str := ("law" : Str) ++ ".<locals>." ++ "<lambda>"
/-- what told answers to each refusal -/
def tlA (A : Ad) : List (Value × Str) := [(.ref A.C_BadSign, "sign"), (.ref A.C_BadRule, "rule"), (.ref A.C_BadKind, "kind"), (.ref A.C_BadLayer, "layer"), (.ref A.C_NoSuch, "no such"), (.ref A.C_BadDeed, "deed"), (.ref A.C_BadGround, "ground"), (.ref A.C_BadStore, "store"), (.ref A.C_Broken, "broken"), (.ref A.C_BadSize, "size")]
def tlF (A : Ad) : Addr → Option Str := fun C => if C = A.C_NoSuch then some "no such" else none
section
variable {K : PySem.W.Frag} {mg : Str → Option Value} {A : Ad}
theorem tl_ok (T : Txt K mg A) : ∀ (C : Addr) (s : Str), tlF A C = some s → ∀ (Q : VK) (H : Hp), Q (.str s) H → LamX.wTold K Q (tlA A) (.ref C) H := fun C s h Q H q => by
  unfold tlF at h
  split at h
  · rename_i e
    subst e
    cases h
    exact ⟨_, T.m_NoSuch_BadSign, fun h => (Bool.noConfusion h : False).elim, fun _ => ⟨_, T.m_NoSuch_BadRule, fun h => (Bool.noConfusion h : False).elim, fun _ => ⟨_, T.m_NoSuch_BadKind, fun h => (Bool.noConfusion h : False).elim, fun _ => ⟨_, T.m_NoSuch_BadLayer, fun h => (Bool.noConfusion h : False).elim, fun _ => ⟨_, T.m_NoSuch_NoSuch, fun _ => q, fun h => (Bool.noConfusion h : False).elim⟩⟩⟩⟩⟩
  cases h
theorem pe_told (T : Txt K mg A) {X : Cx} (hK : X.K = K) (hmg : X.mg = mg) (TB : LamX.TabB X.base X.mg A.cL A.PL) (hcode : X.env.code = .ref A.cL) (hq : X.env.qual ++ "<lambda>" = qL) (hg : Gl X "_law_told") {k : Nat} (hr : Room (k + 2) X.A) {params : Arguments} {body : Expr} {scope : Scope} {lpos p pos : Pos} {t : XK → TE}
    (LS : LamX.LamS X.env.scope scope) (hdef : defaultsOf params X.env = ([], [])) (hbind : ∀ (q : Str) (cl : List (Str × Addr)) (pm cv ctv : Value), bindArgs (PySem.W.kla_fn "<lambda>" q params body scope cl pm cv ctv) ⟨[], []⟩ = pure [])
    (hbody : ∀ (A' : Around) (outer : List Env) (s : Shared) (H : Hp) (E : XK) (f c' : Addr), Room k (A'.deeper (LamX.lamEnv X scope s.heap.objs.size f c')) → PE (LamX.lamCx X A' outer s H E scope f c') body (t E)) :
    PE X (.Call (.Name "_law_told" p) [.Lambda params body scope lpos] [] pos) (LamX.tLam [(A.PL, qL)] (LamX.TTm K (tlA A)) t) := by
  subst hK hmg
  obtain ⟨oc, od, kV, doc, pm, an, cdv, ct, osl, hfd, lk, hcd⟩ := T.F_l_told.ex
  have hb := T.b_l_told
  rw [hfd] at hb lk
  refine LamX.pe_lamcall (x := "_law_told") (a := "what") (Ng := N_l_told) (sg := defScope s_l_told) hg T.m_l_told T.F_l_told.kp lk hcd hb sc_l_told rfl (Or.inl rfl) ?_ TB hcode (by rw [hq]; exact List.mem_cons_self) (fun p hp _ => by rw [List.mem_singleton.mp hp, hq]) hr LS hdef hbind hbody
  exact LamX.told_givesM (fun f => rfl) fun s H => (.cons ⟨rfl, by decide, .inl T.q_BadSign⟩ (fun _ _ _ _ _ _ _ => pss_one (ps_ret pe_str)) (.cons ⟨rfl, by decide, .inl T.q_BadRule⟩ (fun _ _ _ _ _ _ _ => pss_one (ps_ret pe_str)) (.cons ⟨rfl, by decide, .inl T.q_BadKind⟩ (fun _ _ _ _ _ _ _ => pss_one (ps_ret pe_str)) (.cons ⟨rfl, by decide, .inl T.q_BadLayer⟩ (fun _ _ _ _ _ _ _ => pss_one (ps_ret pe_str)) (.cons ⟨rfl, by decide, .inl T.q_NoSuch⟩ (fun _ _ _ _ _ _ _ => pss_one (ps_ret pe_str)) (.cons ⟨rfl, by decide, .inl T.q_BadDeed⟩ (fun _ _ _ _ _ _ _ => pss_one (ps_ret pe_str)) (.cons ⟨rfl, by decide, .inl T.q_BadGround⟩ (fun _ _ _ _ _ _ _ => pss_one (ps_ret pe_str)) (.cons ⟨rfl, by decide, .inl T.q_BadStore⟩ (fun _ _ _ _ _ _ _ => pss_one (ps_ret pe_str)) (.cons ⟨rfl, by decide, .inl T.q_Broken⟩ (fun _ _ _ _ _ _ _ => pss_one (ps_ret pe_str)) (.cons ⟨rfl, by decide, .inl T.q_BadSize⟩ (fun _ _ _ _ _ _ _ => pss_one (ps_ret pe_str)) .nil))))))))))
end
/-! ## the defs on data -/
noncomputable section
def b_is_number (A : Ad) : FS :=
  (sRet (eCB isiD (aCons (eVar 0) (aCons (eC (.cls "int")) aNil))))
def f_is_number (A : Ad) : FD := run0 1 1 (b_is_number A)
def b_value_key (A : Ad) : FS :=
  (sRet (eIf (tstV (eCall (f_is_number A) [] (aCons (eVar 0) aNil))) (eTup (aCons (eC (.int 0)) (aCons (eVar 0) (aCons (eC (.str "")) aNil)))) (eTup (aCons (eC (.int 1)) (aCons (eC (.int 0)) (aCons (eVar 0) aNil))))))
def f_value_key (A : Ad) : FD := run0 1 1 (b_value_key A)
def b_row_key (A : Ad) : FS :=
  (sRet (eCB tupD (aCons (eLc (iS (eVar 0)) (gN 1) (nxE tstYes) (nxE (eCall (f_value_key A) [] (aCons (eVar 1) aNil))) [1]) aNil)))
def f_row_key (A : Ad) : FD := run0 1 2 (b_row_key A)
def b_in_order (A : Ad) : FS :=
  (sRet (eCB tupD (aCons (eSortKey (f_row_key A) [] mkLst (eVar 0)) aNil)))
def f_in_order (A : Ad) : FD := run0 1 1 (b_in_order A)
def b_Relation_init (A : Ad) : FS :=
  (sSeq (sFldSet A.C_Relation "held" (eVar 0) (eDcM (iS (eVar 1)) (gN 2) (nxE tstYes) (nxE (eVar 2)) (nxE (eC (.bl true))) [2]))
      (sFldSet A.C_Relation "tables" (eVar 0) eDnewM))
def f_Relation_init (A : Ad) : FD := run0 2 3 (b_Relation_init A)
def b_Relation_has (A : Ad) : FS :=
  (sRet (eOp inD (eVar 1) (eFld "held" (eVar 0))))
def f_Relation_has (A : Ad) : FD := run0 2 2 (b_Relation_has A)
def b_Relation_size (A : Ad) : FS :=
  (sRet (eCB lenD (aCons (eFld "held" (eVar 0)) aNil)))
def f_Relation_size (A : Ad) : FD := run0 1 1 (b_Relation_size A)
def b_picked (A : Ad) : FS :=
  (sSeq (sIf (tstV (eCB anyD (aCons (eLc (iS (eVar 1)) (gN 2) (nxE tstYes) (nxE (eOp geI (eVar 2) (eCB lenD (aCons (eVar 0) aNil)))) [2]) aNil))) (sRet (eC .non)) sNil)
      (sRet (eCB tupD (aCons (eLc (iS (eVar 1)) (gN 2) (nxE tstYes) (nxE (eOp ixD (eVar 0) (eVar 2))) [2]) aNil))))
def f_picked (A : Ad) : FD := run0 2 3 (b_picked A)
def b_put_under (A : Ad) : FS :=
  (sPut (eMt tyDct setDfM (eVar 0) (aCons (eVar 1) (aCons eDnewM aNil))) (eVar 2) (eC (.bl true)))
def f_put_under (A : Ad) : FD := run0 3 3 (b_put_under A)
def b_Relation_add (A : Ad) : FS :=
  (sSeq (sIf (tstV (eOp inD (eVar 1) (eFld "held" (eVar 0)))) (sRet (eC (.bl false))) sNil)
      (sSeq (sPut (eFld "held" (eVar 0)) (eVar 1) (eC (.bl true)))
      (sSeq (sFor (iS (eCB lstD (aCons (eFld "tables" (eVar 0)) aNil))) (gN 2) (sExpr (eCall (f_put_under A) [] (aCons (eOp ixD (eFld "tables" (eVar 0)) (eVar 2)) (aCons (eCall (f_picked A) [] (aCons (eVar 1) (aCons (eVar 2) aNil))) (aCons (eVar 1) aNil))))))
      (sRet (eC (.bl true))))))
def f_Relation_add (A : Ad) : FD := run0 2 3 (b_Relation_add A)
def b_take_from (A : Ad) : FS :=
  (sSeq (sSet 3 (eOp ixD (eVar 0) (eVar 1)))
      (sSeq (sDel (eVar 3) (eVar 2))
      (sIf (tstV (eOp eqX' (eVar 3) eDnew)) (sDel (eVar 0) (eVar 1)) sNil)))
def f_take_from (A : Ad) : FD := run0 3 4 (b_take_from A)
def b_Relation_drop (A : Ad) : FS :=
  (sSeq (sIf (tstV (eOp notInD (eVar 1) (eFld "held" (eVar 0)))) (sRet (eC (.bl false))) sNil)
      (sSeq (sDel (eFld "held" (eVar 0)) (eVar 1))
      (sSeq (sFor (iS (eCB lstD (aCons (eFld "tables" (eVar 0)) aNil))) (gN 2) (sExpr (eCall (f_take_from A) [] (aCons (eOp ixD (eFld "tables" (eVar 0)) (eVar 2)) (aCons (eCall (f_picked A) [] (aCons (eVar 1) (aCons (eVar 2) aNil))) (aCons (eVar 1) aNil))))))
      (sRet (eC (.bl true))))))
def f_Relation_drop (A : Ad) : FD := run0 2 3 (b_Relation_drop A)
def b_Relation_rows (A : Ad) : FS :=
  (sRet (eCall (f_in_order A) [] (aCons (eFld "held" (eVar 0)) aNil)))
def f_Relation_rows (A : Ad) : FD := run0 1 1 (b_Relation_rows A)
def b_Store_init (A : Ad) : FS :=
  (sFldSet A.C_Store "relations" (eVar 0) eDnewM)
def f_Store_init (A : Ad) : FD := run0 1 1 (b_Store_init A)
def b_Store_of (A : Ad) : FS :=
  (sSeq (sIf (tstV (eOp notInD (eVar 1) (eFld "relations" (eVar 0)))) (sPut (eFld "relations" (eVar 0)) (eVar 1) (eMakeM A.C_Relation (f_Relation_init A) [.d (.tupK [])] aNil)) sNil)
      (sRet (eOp ixD (eFld "relations" (eVar 0)) (eVar 1))))
def f_Store_of (A : Ad) : FD := run0 2 2 (b_Store_of A)
def b_Store_names (A : Ad) : FS :=
  (sRet (eCB tupD (aCons (eLc (iS (eCB sortD (aCons (eFld "relations" (eVar 0)) aNil))) (gN 1) (nxE (tstV (eOp gtI (eMeth A.C_Relation "size" (f_Relation_size A) [] (eOp ixD (eFld "relations" (eVar 0)) (eVar 1)) aNil) (eC (.int 0))))) (nxE (eVar 1)) [1]) aNil)))
def f_Store_names (A : Ad) : FD := run0 1 2 (b_Store_names A)
def b_Store_has (A : Ad) : FS :=
  (sRet (eAndV (eOp inD (eVar 1) (eFld "relations" (eVar 0))) (eMeth A.C_Relation "has" (f_Relation_has A) [] (eOp ixD (eFld "relations" (eVar 0)) (eVar 1)) (aCons (eVar 2) aNil))))
def f_Store_has (A : Ad) : FD := run0 3 3 (b_Store_has A)
def b_Store_size (A : Ad) : FS :=
  (sRet (eCB sumD (aCons (eLc (iS (eFld "relations" (eVar 0))) (gN 1) (nxE tstYes) (nxE (eMeth A.C_Relation "size" (f_Relation_size A) [] (eOp ixD (eFld "relations" (eVar 0)) (eVar 1)) aNil)) [1]) aNil)))
def f_Store_size (A : Ad) : FD := run0 1 2 (b_Store_size A)
def b_Store_shown (A : Ad) : FS :=
  (sRet (eCB tupD (aCons (eLc (iS (eMeth A.C_Store "names" (f_Store_names A) [] (eVar 0) aNil)) (gN 1) (nxE tstYes) (nxE (eTup (aCons (eVar 1) (aCons (eMeth A.C_Relation "rows" (f_Relation_rows A) [] (eOp ixD (eFld "relations" (eVar 0)) (eVar 1)) aNil) aNil)))) [1]) aNil)))
def f_Store_shown (A : Ad) : FD := run0 1 2 (b_Store_shown A)
def b_Changes_init (A : Ad) : FS :=
  (sSeq (sFldSet A.C_Changes "added" (eVar 0) eDnewM)
      (sFldSet A.C_Changes "dropped" (eVar 0) eDnewM))
def f_Changes_init (A : Ad) : FD := run0 1 1 (b_Changes_init A)
def b_Changes_note (A : Ad) : FS :=
  (sSeq (sIf (tstV (eVar 3)) (sAsgT 2 (aCons (eFld "added" (eVar 0)) (aCons (eFld "dropped" (eVar 0)) aNil)) (gsCons (gN 4) (gsCons (gN 5) gsNil))) (sAsgT 2 (aCons (eFld "dropped" (eVar 0)) (aCons (eFld "added" (eVar 0)) aNil)) (gsCons (gN 4) (gsCons (gN 5) gsNil))))
      (sIf (tstV (eOp inD (eVar 2) (eMt tyDct getM (eVar 5) (aCons (eVar 1) (aCons eDnew aNil))))) (sExpr (eCall (f_take_from A) [] (aCons (eVar 5) (aCons (eVar 1) (aCons (eVar 2) aNil))))) (sExpr (eCall (f_put_under A) [] (aCons (eVar 4) (aCons (eVar 1) (aCons (eVar 2) aNil)))))))
def f_Changes_note (A : Ad) : FD := run0 4 6 (b_Changes_note A)
def b_Changes_came (A : Ad) : FS :=
  (sRet (eCB lstD (aCons (eMt tyDct getM (eFld "added" (eVar 0)) (aCons (eVar 1) (aCons eDnew aNil))) aNil)))
def f_Changes_came (A : Ad) : FD := run0 2 2 (b_Changes_came A)
def b_Changes_went (A : Ad) : FS :=
  (sRet (eCB lstD (aCons (eMt tyDct getM (eFld "dropped" (eVar 0)) (aCons (eVar 1) (aCons eDnew aNil))) aNil)))
def f_Changes_went (A : Ad) : FD := run0 2 2 (b_Changes_went A)
def b_Changes_names (A : Ad) : FS :=
  (sRet (eCB tupD (aCons (eCB sortD (aCons (eDc (iS (eOp addD (eCB lstD (aCons (eFld "added" (eVar 0)) aNil)) (eCB lstD (aCons (eFld "dropped" (eVar 0)) aNil)))) (gN 1) (nxE tstYes) (nxE (eVar 1)) (nxE (eC (.bl true))) [1]) aNil)) aNil)))
def f_Changes_names (A : Ad) : FD := run0 1 2 (b_Changes_names A)
def b_Changes_is_bare (A : Ad) : FS :=
  (sRet (eOp eqD (eMeth A.C_Changes "names" (f_Changes_names A) [] (eVar 0) aNil) (eTup aNil)))
def f_Changes_is_bare (A : Ad) : FD := run0 1 1 (b_Changes_is_bare A)
def b_Changes_turned (A : Ad) : FS :=
  (sSeq (sSet 1 (eMakeM A.C_Changes (f_Changes_init A) [] aNil))
      (sSeq (sFor (iS (eMeth A.C_Changes "names" (f_Changes_names A) [] (eVar 0) aNil)) (gN 2) (sSeq (sFor (iS (eMeth A.C_Changes "came" (f_Changes_came A) [] (eVar 0) (aCons (eVar 2) aNil))) (gN 3) (sExpr (eMeth A.C_Changes "note" (f_Changes_note A) [] (eVar 1) (aCons (eVar 2) (aCons (eVar 3) (aCons (eC (.bl false)) aNil))))))
      (sFor (iS (eMeth A.C_Changes "went" (f_Changes_went A) [] (eVar 0) (aCons (eVar 2) aNil))) (gN 3) (sExpr (eMeth A.C_Changes "note" (f_Changes_note A) [] (eVar 1) (aCons (eVar 2) (aCons (eVar 3) (aCons (eC (.bl true)) aNil))))))))
      (sRet (eVar 1))))
def f_Changes_turned (A : Ad) : FD := run0 1 4 (b_Changes_turned A)
def b_Changes_shown (A : Ad) : FS :=
  (sRet (eCB tupD (aCons (eLc (iS (eMeth A.C_Changes "names" (f_Changes_names A) [] (eVar 0) aNil)) (gN 1) (nxE tstYes) (nxE (eTup (aCons (eVar 1) (aCons (eCall (f_in_order A) [] (aCons (eMeth A.C_Changes "came" (f_Changes_came A) [] (eVar 0) (aCons (eVar 1) aNil)) aNil)) (aCons (eCall (f_in_order A) [] (aCons (eMeth A.C_Changes "went" (f_Changes_went A) [] (eVar 0) (aCons (eVar 1) aNil)) aNil)) aNil))))) [1]) aNil)))
def f_Changes_shown (A : Ad) : FD := run0 1 2 (b_Changes_shown A)
def b_store_of (A : Ad) : FS :=
  (sSeq (sSet 1 (eMakeM A.C_Store (f_Store_init A) [] aNil))
      (sSeq (sFor (iS (eVar 0)) (gT 2 (gsCons (gN 2) (gsCons (gN 3) gsNil))) (sExpr (eMeth A.C_Relation "add" (f_Relation_add A) [] (eMeth A.C_Store "of" (f_Store_of A) [] (eVar 1) (aCons (eVar 2) aNil)) (aCons (eVar 3) aNil))))
      (sRet (eVar 1))))
def f_store_of (A : Ad) : FD := run0 1 4 (b_store_of A)
def b_apart (A : Ad) : FS :=
  (sSeq (sSet 2 (eMakeM A.C_Changes (f_Changes_init A) [] aNil))
      (sSeq (sFor (iS (eMeth A.C_Store "names" (f_Store_names A) [] (eVar 0) aNil)) (gN 3) (sFor (iS (eMeth A.C_Relation "rows" (f_Relation_rows A) [] (eMeth A.C_Store "of" (f_Store_of A) [] (eVar 0) (aCons (eVar 3) aNil)) aNil)) (gN 4) (sIf (tstNot (tstV (eMeth A.C_Store "has" (f_Store_has A) [] (eVar 1) (aCons (eVar 3) (aCons (eVar 4) aNil))))) (sExpr (eMeth A.C_Changes "note" (f_Changes_note A) [] (eVar 2) (aCons (eVar 3) (aCons (eVar 4) (aCons (eC (.bl false)) aNil))))) sNil)))
      (sSeq (sFor (iS (eMeth A.C_Store "names" (f_Store_names A) [] (eVar 1) aNil)) (gN 3) (sFor (iS (eMeth A.C_Relation "rows" (f_Relation_rows A) [] (eMeth A.C_Store "of" (f_Store_of A) [] (eVar 1) (aCons (eVar 3) aNil)) aNil)) (gN 4) (sIf (tstNot (tstV (eMeth A.C_Store "has" (f_Store_has A) [] (eVar 0) (aCons (eVar 3) (aCons (eVar 4) aNil))))) (sExpr (eMeth A.C_Changes "note" (f_Changes_note A) [] (eVar 2) (aCons (eVar 3) (aCons (eVar 4) (aCons (eC (.bl true)) aNil))))) sNil)))
      (sRet (eVar 2)))))
def f_apart (A : Ad) : FD := run0 2 5 (b_apart A)
def b_laid_on (A : Ad) : FS :=
  (sSeq (sFor (iS (eMeth A.C_Changes "names" (f_Changes_names A) [] (eVar 1) aNil)) (gN 2) (sSeq (sFor (iS (eMeth A.C_Changes "went" (f_Changes_went A) [] (eVar 1) (aCons (eVar 2) aNil))) (gN 3) (sIf (tstNot (tstV (eMeth A.C_Store "has" (f_Store_has A) [] (eVar 0) (aCons (eVar 2) (aCons (eVar 3) aNil))))) (sRaise A.C_NoSuch (eJoin [(eC (.str "not there: ")), (eFmt (eVar 2))])) sNil))
      (sFor (iS (eMeth A.C_Changes "came" (f_Changes_came A) [] (eVar 1) (aCons (eVar 2) aNil))) (gN 3) (sIf (tstV (eMeth A.C_Store "has" (f_Store_has A) [] (eVar 0) (aCons (eVar 2) (aCons (eVar 3) aNil)))) (sRaise A.C_NoSuch (eJoin [(eC (.str "there: ")), (eFmt (eVar 2))])) sNil))))
      (sFor (iS (eMeth A.C_Changes "names" (f_Changes_names A) [] (eVar 1) aNil)) (gN 2) (sSeq (sSet 4 (eMeth A.C_Store "of" (f_Store_of A) [] (eVar 0) (aCons (eVar 2) aNil)))
      (sSeq (sFor (iS (eMeth A.C_Changes "went" (f_Changes_went A) [] (eVar 1) (aCons (eVar 2) aNil))) (gN 3) (sExpr (eMeth A.C_Relation "drop" (f_Relation_drop A) [] (eVar 4) (aCons (eVar 3) aNil))))
      (sFor (iS (eMeth A.C_Changes "came" (f_Changes_came A) [] (eVar 1) (aCons (eVar 2) aNil))) (gN 3) (sExpr (eMeth A.C_Relation "add" (f_Relation_add A) [] (eVar 4) (aCons (eVar 3) aNil))))))))
def f_laid_on (A : Ad) : FD := run0 2 5 (b_laid_on A)
def b_l_dice (A : Ad) : FS :=
  (sSeq (sIf (tstV (eChain (cmpD ltO) (cmpD ltO) (eOp subD (eC (.int 0)) (eC (.int 10))) (eVar 0) (eC (.int 10)))) (sRet (eLstM (aCons (eCB absD (aCons (eVar 0) aNil)) (aCons (eC (.int 0)) (aCons (eC (.int 2)) aNil))))) sNil)
      (sRet (eLstM (aCons (eVar 0) (aCons (eOp addD (eC (.int 1)) (eOp modD (eCB intD (aCons (eVar 0) aNil)) (eC (.int 1009)))) (aCons (eCB intD (aCons (eOp geI (eVar 0) (eOp powD (eC (.int 10)) (eC (.int 18)))) aNil)) aNil))))))
def f_l_dice (A : Ad) : FD := run0 1 1 (b_l_dice A)
def b_l_roll (A : Ad) : FS :=
  (sSeq (sIf (tstOr (tstV (eOp eqD (eOp ixD (eVar 0) (eC (.int 2))) (eC (.int 2)))) (tstAnd (tstV (eOp eqD (eOp ixD (eVar 0) (eC (.int 2))) (eC (.int 1)))) (tstV (eOp gtI (eOp ixD (eVar 0) (eC (.int 0))) (eC (.int 0)))))) (sSeq (sSet 2 (eOp modD (eCB intD (aCons (eOp ixD (eVar 0) (eC (.int 0))) aNil)) (eVar 1)))
      (sSeq (sPut (eVar 0) (eC (.int 0)) (eOp fdivD (eOp ixD (eVar 0) (eC (.int 0))) (eVar 1)))
      (sRet (eVar 2)))) sNil)
      (sSeq (sPut (eVar 0) (eC (.int 2)) (eC (.int 0)))
      (sSeq (sPut (eVar 0) (eC (.int 0)) (eOp modD (eCB intD (aCons (eOp addD (eOp addD (eOp mulD (eOp ixD (eVar 0) (eC (.int 0))) (eC (.int 48271))) (eOp mulD (eOp ixD (eVar 0) (eC (.int 1))) (eC (.int 69621)))) (eC (.int 11))) aNil)) (eC (.int 2147483647))))
      (sSeq (sPut (eVar 0) (eC (.int 1)) (eOp addD (eOp ixD (eVar 0) (eC (.int 1))) (eC (.int 1))))
      (sRet (eOp modD (eCB intD (aCons (eOp addD (eOp fdivD (eOp ixD (eVar 0) (eC (.int 0))) (eC (.int 7))) (eOp ixD (eVar 0) (eC (.int 0)))) aNil)) (eVar 1)))))))
def f_l_roll (A : Ad) : FD := run0 2 3 (b_l_roll A)
def b_l_rounds (A : Ad) : FS :=
  (sSeq (sSet 2 (eSl (eVar 0) pNo (pSome (eVar 1))))
      (sSeq (sIf (tstV (eOp eqD (eVar 2) (eLst aNil))) (sSet 2 (eLst (aCons (eC (.int 0)) aNil))) sNil)
      (sRet (eLcM (iS (eVar 2)) (gN 3) (nxE tstYes) (nxE (eCall (f_l_dice A) [] (aCons (eVar 3) aNil))) [3]))))
def f_l_rounds (A : Ad) : FD := run0 2 4 (b_l_rounds A)
def b_l_facts (A : Ad) : FS :=
  (sSeq (sSet 1 (eLst aNil))
      (sSeq (sFor (iRg1 (aCons (eCall (f_l_roll A) [] (aCons (eVar 0) (aCons (eC (.int 6)) aNil))) aNil)) (gN 2) (sSeq (sSet 3 (eTup (aCons (eOp ixD (eC (.str "pq")) (eCall (f_l_roll A) [] (aCons (eVar 0) (aCons (eC (.int 2)) aNil)))) (aCons (eTup (aCons (eCall (f_l_roll A) [] (aCons (eVar 0) (aCons (eC (.int 3)) aNil))) aNil)) aNil))))
      (sSet 1 (eOp addD (eVar 1) (eIf (tstV (eOp notInD (eVar 3) (eVar 1))) (eLst (aCons (eVar 3) aNil)) (eLst aNil))))))
      (sRet (eVar 1))))
def f_l_facts (A : Ad) : FD := run0 1 4 (b_l_facts A)
def b_law (A : Ad) : FS :=
  (sSeq (sFor (iS (eCall (f_l_rounds A) [] (aCons (eVar 0) (aCons (eC (.int 1)) aNil)))) (gN 1) (sSeq (sAsgT 2 (aCons (eMakeM A.C_Changes (f_Changes_init A) [] aNil) (aCons eDnewM aNil)) (gsCons (gN 2) (gsCons (gN 3) gsNil)))
      (sSeq (sFor (iRg1 (aCons (eCall (f_l_roll A) [] (aCons (eVar 1) (aCons (eC (.int 11)) aNil))) aNil)) (gN 4) (sSeq (sAsgT 2 (aCons (eTup (aCons (eOp ixD (eC (.str "pq")) (eCall (f_l_roll A) [] (aCons (eVar 1) (aCons (eC (.int 2)) aNil)))) (aCons (eTup (aCons (eCall (f_l_roll A) [] (aCons (eVar 1) (aCons (eC (.int 3)) aNil))) aNil)) aNil))) (aCons (eOp eqD (eCall (f_l_roll A) [] (aCons (eVar 1) (aCons (eC (.int 2)) aNil))) (eC (.int 0))) aNil)) (gsCons (gN 5) (gsCons (gN 6) gsNil)))
      (sSeq (sExpr (eMeth A.C_Changes "note" (f_Changes_note A) [] (eVar 2) (aCons (eOp ixD (eVar 5) (eC (.int 0))) (aCons (eOp ixD (eVar 5) (eC (.int 1))) (aCons (eVar 6) aNil)))))
      (sIf (tstV (eOp eqD (eMt tyDct getM (eVar 3) (aCons (eVar 5) (aCons (eVar 6) aNil))) (eVar 6))) (sPut (eVar 3) (eVar 5) (eVar 6)) (sExpr (eMt tyDct dpopM (eVar 3) (aCons (eVar 5) aNil)))))))
      (sSeq (sSet 7 (eLst aNil))
      (sSeq (sFor (iS (eC (.str "pq"))) (gN 8) (sSeq (sSet 6 (eCB sortD (aCons (eLcK (eVar 3) (gT 2 (gsCons (gN 10) (gsCons (gN 19) gsNil))) (nxE (tstAnd (tstV (eOp eqD (eVar 10) (eVar 8))) (tstV (eOp ixD (eVar 3) (eTup (aCons (eVar 10) (aCons (eVar 19) aNil))))))) (nxE (eVar 19)) [10, 19]) aNil)))
      (sSeq (sSet 9 (eCB sortD (aCons (eLcK (eVar 3) (gT 2 (gsCons (gN 10) (gsCons (gN 19) gsNil))) (nxE (tstAnd (tstV (eOp eqD (eVar 10) (eVar 8))) (tstNot (tstV (eOp ixD (eVar 3) (eTup (aCons (eVar 10) (aCons (eVar 19) aNil)))))))) (nxE (eVar 19)) [10, 19]) aNil)))
      (sSet 7 (eOp addD (eVar 7) (eIf (tstV (eOp neD (eOp addD (eVar 6) (eVar 9)) (eLst aNil))) (eLst (aCons (eTup (aCons (eVar 8) (aCons (eCB tupD (aCons (eVar 6) aNil)) (aCons (eCB tupD (aCons (eVar 9) aNil)) aNil)))) aNil)) (eLst aNil)))))))
      (sSeq (sIf (tstOr (tstV (eOp neD (eMeth A.C_Changes "shown" (f_Changes_shown A) [] (eVar 2) aNil) (eCB tupD (aCons (eVar 7) aNil)))) (tstOr (tstV (eOp neD (eMeth A.C_Changes "is_bare" (f_Changes_is_bare A) [] (eVar 2) aNil) (eOp eqD (eVar 7) (eLst aNil)))) (tstV (eOp neD (eMeth A.C_Changes "names" (f_Changes_names A) [] (eVar 2) aNil) (eCB tupD (aCons (eLc (iS (eVar 7)) (gN 10) (nxE tstYes) (nxE (eOp ixD (eVar 10) (eC (.int 0)))) [10]) aNil)))))) (sRet (eC (.bl false))) sNil)
      (sSeq (sIf (tstV (eOp neD (eMeth A.C_Changes "shown" (f_Changes_shown A) [] (eMeth A.C_Changes "turned" (f_Changes_turned A) [] (eVar 2) aNil) aNil) (eCB tupD (aCons (eLc (iS (eVar 7)) (gT 3 (gsCons (gN 8) (gsCons (gN 6) (gsCons (gN 9) gsNil)))) (nxE tstYes) (nxE (eTup (aCons (eVar 8) (aCons (eVar 9) (aCons (eVar 6) aNil))))) [8, 6, 9]) aNil)))) (sRet (eC (.bl false))) sNil)
      (sSeq (sAsgT 2 (aCons (eCall (f_l_facts A) [] (aCons (eVar 1) aNil)) (aCons (eCall (f_l_facts A) [] (aCons (eVar 1) aNil)) aNil)) (gsCons (gN 10) (gsCons (gN 11) gsNil)))
      (sSeq (sAsgT 2 (aCons (eCall (f_store_of A) [] (aCons (eVar 10) aNil)) (aCons (eCall (f_store_of A) [] (aCons (eVar 11) aNil)) aNil)) (gsCons (gN 12) (gsCons (gN 13) gsNil)))
      (sSeq (sSet 14 (eCall (f_apart A) [] (aCons (eVar 12) (aCons (eVar 13) aNil))))
      (sSeq (sSet 15 (eMeth A.C_Changes "turned" (f_Changes_turned A) [] (eVar 14) aNil))
      (sSeq (sExpr (eCall (f_laid_on A) [] (aCons (eVar 12) (aCons (eVar 14) aNil))))
      (sSeq (sIf (tstV (eOp neD (eMeth A.C_Store "shown" (f_Store_shown A) [] (eVar 12) aNil) (eMeth A.C_Store "shown" (f_Store_shown A) [] (eVar 13) aNil))) (sRet (eC (.bl false))) sNil)
      (sSeq (sExpr (eCall (f_laid_on A) [] (aCons (eVar 12) (aCons (eVar 15) aNil))))
      (sSeq (sIf (tstV (eOp neD (eMeth A.C_Store "shown" (f_Store_shown A) [] (eVar 12) aNil) (eMeth A.C_Store "shown" (f_Store_shown A) [] (eCall (f_store_of A) [] (aCons (eVar 10) aNil)) aNil))) (sRet (eC (.bl false))) sNil)
      (sSeq (sSet 16 (eOp neD (eLcK (eVar 3) (gN 20) (nxE (tstV (eOp eqD (eOp ixD (eVar 3) (eVar 20)) (eOp inD (eVar 20) (eVar 10))))) (nxE (eVar 20)) [20]) (eLst aNil)))
      (sSeq (sSet 17 (eTold (tlF A) (eCall (f_laid_on A) [] (aCons (eVar 12) (aCons (eVar 2) aNil)))))
      (sSeq (sSet 18 (eOp addD (eLc (iS (eVar 10)) (gN 5) (nxE (tstV (eOp notInD (eVar 5) (eVar 3)))) (nxE (eVar 5)) [5]) (eLcK (eVar 3) (gN 20) (nxE (tstV (eOp ixD (eVar 3) (eVar 20)))) (nxE (eVar 20)) [20])))
      (sIf (tstOr (tstV (eOp neD (eVar 17) (eIf (tstV (eVar 16)) (eC (.str "no such")) (eC .non)))) (tstV (eOp neD (eMeth A.C_Store "shown" (f_Store_shown A) [] (eVar 12) aNil) (eMeth A.C_Store "shown" (f_Store_shown A) [] (eCall (f_store_of A) [] (aCons (eIf (tstV (eVar 16)) (eVar 10) (eVar 18)) aNil)) aNil)))) (sRet (eC (.bl false))) sNil)))))))))))))))))))
      (sRet (eC (.bl true))))
def f_law (A : Ad) : FD := run0 1 21 (b_law A)
end
section
variable {P : Program} {K : Fr} {TB : List (Addr × Str)} {mg : Str → Option Value} {base : Heap} {A : Ad}
theorem ok_is_number (T : Txt K.K mg A) : FnOk P K.w K.K mg base (L2.CX P K.w) 1 A.f_is_number A.d_is_number ["value"] (spD K TB (f_is_number A)) := by
  exact DL.Fun.ok0 T.F_is_number sc_is_number fun cdv ar outer s H E hr => ⟨_, (pss_one (ps_ret (pe_callB (isiK K.K) (by rfl) T.z_isinstance (by decide +kernel) (pa_cons (pv 0) (pa_cons (pe_bltn (v := .ty "int") (by rfl) T.z_int (by decide +kernel) rfl) pa_nil))))),
    (DL.s_ret (DL.s_cb o_isi (DL.s_acons (DL.s_var 0) (DL.s_acons (DL.s_c fun _ => .cls "int") DL.s_anil))))⟩
theorem ok_value_key (T : Txt K.K mg A) : FnOk P K.w K.K mg base (L2.CX P K.w) 2 A.f_value_key A.d_value_key ["value"] (spD K TB (f_value_key A)) := by
  have G_is_number : FnOk P K.w K.K mg base (L2.CX P K.w) 1 A.f_is_number A.d_is_number ["value"] (spD K TB (f_is_number A)) := ok_is_number T
  exact DL.Fun.ok0 T.F_value_key sc_value_key fun cdv ar outer s H E hr => ⟨_, (pss_one (ps_ret (pe_ifExp (pt_val (pe_call G_is_number (hr.mono (by decide)) (by rfl) T.m_is_number T.F_is_number.kp T.b_is_number .nil (passes_call (takes_of rfl rfl rfl rfl) (fun _ _ _ _ h => h)) (pa_cons (pv 0) pa_nil))) (pe_tup (pa_cons pe_int (pa_cons (pv 0) (pa_cons pe_str pa_nil)))) (pe_tup (pa_cons pe_int (pa_cons pe_int (pa_cons (pv 0) pa_nil))))))),
    (DL.s_ret (DL.s_if (DL.s_tstB (DL.s_call dv_nil (DL.s_acons (DL.s_var 0) DL.s_anil))) (DL.s_tup (DL.s_acons (DL.s_int 0) (DL.s_acons (DL.s_var 0) (DL.s_acons (DL.s_str "") DL.s_anil)))) (DL.s_tup (DL.s_acons (DL.s_int 1) (DL.s_acons (DL.s_int 0) (DL.s_acons (DL.s_var 0) DL.s_anil))))))⟩
theorem ok_row_key (T : Txt K.K mg A) : FnOk P K.w K.K mg base (L2.CX P K.w) 3 A.f_row_key A.d_row_key ["row"] (spD K TB (f_row_key A)) := by
  have G_value_key : FnOk P K.w K.K mg base (L2.CX P K.w) 2 A.f_value_key A.d_value_key ["value"] (spD K TB (f_value_key A)) := ok_value_key T
  exact DL.Fun.ok0 T.F_row_key sc_row_key fun cdv ar outer s H E hr => ⟨_, (pss_one (ps_ret (pe_callTy (tupA K.K K.w) (by rfl) T.z_tuple (by decide +kernel) (pa_cons (pe_lc (own := [("value", 1)]) (by rfl) sc_row_key.nd (pi_seq K.K (pv 0)) (blkOk_by (own := [("value", 1)]) (N := N_row_key) (sc := defScope s_row_key) (by decide +kernel)) (fun _ _ _ _ _ => (pg_name (i := 1) sc_row_key.nd rfl (Or.inl rfl))) (fun _ _ _ _ _ => pts_nil) (fun _ _ _ _ _ => (pe_call G_value_key (hr.mono (by decide)) (by rfl) T.m_value_key T.F_value_key.kp T.b_value_key .nil passL (pa_cons (pv 1) pa_nil)))) pa_nil)))),
    (DL.s_ret (DL.s_cb o_tup (DL.s_acons (DL.s_lc (vs := [1]) (DL.s_iS (DL.s_var 0)) (g_name 1 (by decide)) (DL.s_nx (E' := L2.E0) DL.s_yes) (DL.s_nx (E' := L2.E0) (DL.s_call dv_nil (DL.s_acons (DL.s_var 1) DL.s_anil)))) DL.s_anil)))⟩
theorem ok_in_order (T : Txt K.K mg A) : FnOk P K.w K.K mg base (L2.CX P K.w) 6 A.f_in_order A.d_in_order ["rows"] (spD K TB (f_in_order A)) := by
  have G_row_key : FnOk P K.w K.K mg base (L2.CX P K.w) 3 A.f_row_key A.d_row_key ["row"] (spD K TB (f_row_key A)) := ok_row_key T
  exact DL.Fun.ok0 T.F_in_order sc_in_order fun cdv ar outer s H E hr => ⟨_, (pss_one (ps_ret (pe_callTy (tupA K.K K.w) (by rfl) T.z_tuple (by decide +kernel) (pa_cons (pe_callBK (sortKey K.K K.w G_row_key (hr.mono (by decide)) T.b_row_key .nil) (by rfl) T.z_sorted (by decide +kernel) (pa_cons (pv 0) pa_nil) (pk_cons (pe_glob (v := .ref A.f_row_key) rfl T.m_row_key rfl) pk_nil)) pa_nil)))),
    (DL.s_ret (DL.s_cb o_tup (DL.s_acons (DL.s_sortKey dv_nil (DL.s_var 0)) DL.s_anil)))⟩
theorem ok_Relation_init (T : Txt K.K mg A) : FnOk P K.w K.K mg base (L2.CX P K.w) 1 A.f_Relation_init A.d_Relation_init ["self", "rows"] (spD K TB (f_Relation_init A)) := by
  exact DL.FunD.ok0 T.F_Relation_init sc_Relation_init fun cdv ar outer s H E hr => ⟨_, (pss_cons (sfldK K.K (pv 0) (pe_dc (own := [("row", 2)]) (by rfl) sc_Relation_init.nd (pi_seq K.K (pv 1)) (blkOk_by (own := [("row", 2)]) (N := N_Relation_init) (sc := defScope s_Relation_init) (by decide +kernel)) (fun _ _ _ _ _ => (pg_name (i := 2) sc_Relation_init.nd rfl (Or.inl rfl))) (fun _ _ _ _ _ => pts_nil) (fun _ _ _ _ _ => (pv 2)) (fun _ _ _ _ _ => pe_bl)) rfl)
      (pss_one (sfldK K.K (pv 0) pe_dnewK rfl))),
    (DL.s_seq (DL.s_fldset T.n_Relation_held (DL.s_var 0) (DL.s_dcM (vs := [2]) (DL.s_iS (DL.s_var 1)) (g_name 2 (by decide)) (DL.s_nx (E' := L2.E0) DL.s_yes) (DL.s_nx (E' := L2.E0) (DL.s_var 2)) (DL.s_nx (E' := L2.E0) (DL.s_bl true))))
      (DL.s_fldset T.n_Relation_tables (DL.s_var 0) DL.s_dnewM))⟩
theorem ok_Relation_has (T : Txt K.K mg A) : FnOk P K.w K.K mg base (L2.CX P K.w) 1 A.f_Relation_has A.d_Relation_has ["self", "row"] (spD K TB (f_Relation_has A)) := by
  exact DL.Fun.ok0 T.F_Relation_has sc_Relation_has fun cdv ar outer s H E hr => ⟨_, (pss_one (ps_ret (pe_cmpR (inA K.K K.w (room65 hr)) (pv 1) (fldK K.K (pv 0) rfl) (by rfl)))),
    (DL.s_ret (DL.s_op o_in (DL.s_var 1) (DL.s_fld (DL.s_var 0))))⟩
theorem ok_Relation_size (T : Txt K.K mg A) : FnOk P K.w K.K mg base (L2.CX P K.w) 1 A.f_Relation_size A.d_Relation_size ["self"] (spD K TB (f_Relation_size A)) := by
  exact DL.Fun.ok0 T.F_Relation_size sc_Relation_size fun cdv ar outer s H E hr => ⟨_, (pss_one (ps_ret (pe_callB (lenA K.K K.w) (by rfl) T.z_len (by decide +kernel) (pa_cons (fldK K.K (pv 0) rfl) pa_nil)))),
    (DL.s_ret (DL.s_cb o_len (DL.s_acons (DL.s_fld (DL.s_var 0)) DL.s_anil)))⟩
theorem ok_picked (T : Txt K.K mg A) : FnOk P K.w K.K mg base (L2.CX P K.w) 1 A.f_picked A.d_picked ["row", "places"] (spD K TB (f_picked A)) := by
  exact DL.Fun.ok0 T.F_picked sc_picked fun cdv ar outer s H E hr => ⟨_, (pss_cons (ps_if (pt_val (pe_callB (anyK K.K) (by rfl) T.z_any (by decide +kernel) (pa_cons (pe_lc (own := [("place", 2)]) (by rfl) sc_picked.nd (pi_seq K.K (pv 1)) (blkOk_by (own := [("place", 2)]) (N := N_picked) (sc := defScope s_picked) (by decide +kernel)) (fun _ _ _ _ _ => (pg_name (i := 2) sc_picked.nd rfl (Or.inl rfl))) (fun _ _ _ _ _ => pts_nil) (fun _ _ _ _ _ => (pe_cmpR op_ge (pv 2) (pe_callB (lenA K.K K.w) (by rfl) T.z_len (by decide +kernel) (pa_cons (pv 0) pa_nil)) (nomark _)))) pa_nil))) (pss_one (ps_ret pe_non)) pss_nil)
      (pss_one (ps_ret (pe_callTy (tupA K.K K.w) (by rfl) T.z_tuple (by decide +kernel) (pa_cons (pe_lc (own := [("place", 2)]) (by rfl) sc_picked.nd (pi_seq K.K (pv 1)) (blkOk_by (own := [("place", 2)]) (N := N_picked) (sc := defScope s_picked) (by decide +kernel)) (fun _ _ _ _ _ => (pg_name (i := 2) sc_picked.nd rfl (Or.inl rfl))) (fun _ _ _ _ _ => pts_nil) (fun _ _ _ _ _ => (pe_ix (ixA K.K K.w (room16 hr)) (pv 0) (pv 2) (fun _ _ => rfl)))) pa_nil))))),
    (DL.s_seq (DL.s_ifS (DL.s_tstB (DL.s_cb o_any (DL.s_acons (DL.s_lc (vs := [2]) (DL.s_iS (DL.s_var 1)) (g_name 2 (by decide)) (DL.s_nx (E' := L2.E0) DL.s_yes) (DL.s_nx (E' := L2.E0) (DL.s_op o_geI (DL.s_var 2) (DL.s_cb o_len (DL.s_acons (DL.s_var 0) DL.s_anil))))) DL.s_anil))) (DL.s_ret DL.s_non) DL.s_nil)
      (DL.s_ret (DL.s_cb o_tup (DL.s_acons (DL.s_lc (vs := [2]) (DL.s_iS (DL.s_var 1)) (g_name 2 (by decide)) (DL.s_nx (E' := L2.E0) DL.s_yes) (DL.s_nx (E' := L2.E0) (DL.s_op o_ix (DL.s_var 0) (DL.s_var 2)))) DL.s_anil))))⟩
theorem ok_put_under (T : Txt K.K mg A) : FnOk P K.w K.K mg base (L2.CX P K.w) 1 A.f_put_under A.d_put_under ["table", "key", "row"] (spD K TB (f_put_under A)) := by
  exact DL.Fun.ok0 T.F_put_under sc_put_under fun cdv ar outer s H E hr => ⟨_, (pss_one (ps_asg pe_bl (pg_sub (pe_am K.K K.w PySem.F.plainAttrs_dict PySem.F.slot_dict_setdefault PySem.F.type_dict_setdefault (mtSetDf K.w (room16 hr)) (pv 0) (pa_cons (pv 1) (pa_cons pe_dnewK pa_nil))) (pv 2) (setA K.w (room16 hr))))),
    (DL.s_put (DL.s_bl true) (DL.s_mt ty_dct m_setDf (DL.s_var 0) (DL.s_acons (DL.s_var 1) (DL.s_acons DL.s_dnewM DL.s_anil))) (DL.s_var 2))⟩
theorem ok_Relation_add (T : Txt K.K mg A) : FnOk P K.w K.K mg base (L2.CX P K.w) 2 A.f_Relation_add A.d_Relation_add ["self", "row"] (spD K TB (f_Relation_add A)) := by
  have G_picked : FnOk P K.w K.K mg base (L2.CX P K.w) 1 A.f_picked A.d_picked ["row", "places"] (spD K TB (f_picked A)) := ok_picked T
  have G_put_under : FnOk P K.w K.K mg base (L2.CX P K.w) 1 A.f_put_under A.d_put_under ["table", "key", "row"] (spD K TB (f_put_under A)) := ok_put_under T
  exact DL.Fun.ok0 T.F_Relation_add sc_Relation_add fun cdv ar outer s H E hr => ⟨_, (pss_cons (ps_if (pt_cmpR (inA K.K K.w (room65 hr)) (pv 1) (fldK K.K (pv 0) rfl) (by rfl)) (pss_one (ps_ret pe_bl)) pss_nil)
      (pss_cons (ps_asg pe_bl (pg_sub (fldK K.K (pv 0) rfl) (pv 1) (setA K.w (room16 hr))))
      (pss_cons (ps_for (passes_of rfl) rfl (pi_seq K.K (pe_callTy (lstA K.K K.w) (by rfl) T.z_list (by decide +kernel) (pa_cons (fldK K.K (pv 0) rfl) pa_nil))) (pg_name (i := 2) sc_Relation_add.nd rfl (Or.inl rfl)) (pss_one (ps_expr (pe_call G_put_under (hr.mono (by decide)) (by rfl) T.m_put_under T.F_put_under.kp T.b_put_under .nil (passes_call (takes_of rfl rfl rfl rfl) (fun _ _ _ _ h => h)) (pa_cons (pe_ix (ixA K.K K.w (room16 hr)) (fldK K.K (pv 0) rfl) (pv 2) (fun _ _ => rfl)) (pa_cons (pe_call G_picked (hr.mono (by decide)) (by rfl) T.m_picked T.F_picked.kp T.b_picked .nil (passes_call (takes_of rfl rfl rfl rfl) (fun _ _ _ _ h => h)) (pa_cons (pv 1) (pa_cons (pv 2) pa_nil))) (pa_cons (pv 1) pa_nil)))))))
      (pss_one (ps_ret pe_bl))))),
    (DL.s_seq (DL.s_ifS (DL.s_tst (DL.s_op o_in (DL.s_var 1) (DL.s_fld (DL.s_var 0)))) (DL.s_ret (DL.s_bl false)) DL.s_nil)
      (DL.s_seq (DL.s_put (DL.s_bl true) (DL.s_fld (DL.s_var 0)) (DL.s_var 1))
      (DL.s_seq (DL.s_for (vs := [2]) (DL.s_iS (DL.s_cb o_lst (DL.s_acons (DL.s_fld (DL.s_var 0)) DL.s_anil))) (g_name 2 (by decide)) (DL.s_expr (DL.s_call dv_nil (DL.s_acons (DL.s_op o_ix (DL.s_fld (DL.s_var 0)) (DL.s_var 2)) (DL.s_acons (DL.s_call dv_nil (DL.s_acons (DL.s_var 1) (DL.s_acons (DL.s_var 2) DL.s_anil))) (DL.s_acons (DL.s_var 1) DL.s_anil))))))
      (DL.s_ret (DL.s_bl true)))))⟩
theorem ok_take_from (T : Txt K.K mg A) : FnOk P K.w K.K mg base (L2.CX P K.w) 1 A.f_take_from A.d_take_from ["table", "key", "row"] (spD K TB (f_take_from A)) := by
  exact DL.Fun.ok0 T.F_take_from sc_take_from fun cdv ar outer s H E hr => ⟨_, (pss_cons (ps_set (i := 3) sc_take_from.nd rfl (Or.inl rfl) (pe_ix (ixA K.K K.w (room16 hr)) (pv 0) (pv 1) (fun _ _ => rfl)))
      (pss_cons (ps_delA K.w (room16 hr) (pv 3) (pv 2))
      (pss_one (ps_if (pt_cmpR (eqX K.K K.w hr.units) (pv 3) pe_dnewK (nomark _)) (pss_one (ps_delA K.w (room16 hr) (pv 0) (pv 1))) pss_nil)))),
    (DL.s_seq (DL.s_set 3 (DL.s_op o_ix (DL.s_var 0) (DL.s_var 1)))
      (DL.s_seq (DL.s_del (DL.s_var 3) (DL.s_var 2))
      (DL.s_ifS (DL.s_tst (DL.s_op o_eqX (DL.s_var 3) DL.s_dnew)) (DL.s_del (DL.s_var 0) (DL.s_var 1)) DL.s_nil)))⟩
theorem ok_Relation_drop (T : Txt K.K mg A) : FnOk P K.w K.K mg base (L2.CX P K.w) 2 A.f_Relation_drop A.d_Relation_drop ["self", "row"] (spD K TB (f_Relation_drop A)) := by
  have G_picked : FnOk P K.w K.K mg base (L2.CX P K.w) 1 A.f_picked A.d_picked ["row", "places"] (spD K TB (f_picked A)) := ok_picked T
  have G_take_from : FnOk P K.w K.K mg base (L2.CX P K.w) 1 A.f_take_from A.d_take_from ["table", "key", "row"] (spD K TB (f_take_from A)) := ok_take_from T
  exact DL.Fun.ok0 T.F_Relation_drop sc_Relation_drop fun cdv ar outer s H E hr => ⟨_, (pss_cons (ps_if (pt_cmpR (notInA K.K K.w (room65 hr)) (pv 1) (fldK K.K (pv 0) rfl) (by rfl)) (pss_one (ps_ret pe_bl)) pss_nil)
      (pss_cons (ps_delA K.w (room16 hr) (fldK K.K (pv 0) rfl) (pv 1))
      (pss_cons (ps_for (passes_of rfl) rfl (pi_seq K.K (pe_callTy (lstA K.K K.w) (by rfl) T.z_list (by decide +kernel) (pa_cons (fldK K.K (pv 0) rfl) pa_nil))) (pg_name (i := 2) sc_Relation_drop.nd rfl (Or.inl rfl)) (pss_one (ps_expr (pe_call G_take_from (hr.mono (by decide)) (by rfl) T.m_take_from T.F_take_from.kp T.b_take_from .nil (passes_call (takes_of rfl rfl rfl rfl) (fun _ _ _ _ h => h)) (pa_cons (pe_ix (ixA K.K K.w (room16 hr)) (fldK K.K (pv 0) rfl) (pv 2) (fun _ _ => rfl)) (pa_cons (pe_call G_picked (hr.mono (by decide)) (by rfl) T.m_picked T.F_picked.kp T.b_picked .nil (passes_call (takes_of rfl rfl rfl rfl) (fun _ _ _ _ h => h)) (pa_cons (pv 1) (pa_cons (pv 2) pa_nil))) (pa_cons (pv 1) pa_nil)))))))
      (pss_one (ps_ret pe_bl))))),
    (DL.s_seq (DL.s_ifS (DL.s_tst (DL.s_op o_notIn (DL.s_var 1) (DL.s_fld (DL.s_var 0)))) (DL.s_ret (DL.s_bl false)) DL.s_nil)
      (DL.s_seq (DL.s_del (DL.s_fld (DL.s_var 0)) (DL.s_var 1))
      (DL.s_seq (DL.s_for (vs := [2]) (DL.s_iS (DL.s_cb o_lst (DL.s_acons (DL.s_fld (DL.s_var 0)) DL.s_anil))) (g_name 2 (by decide)) (DL.s_expr (DL.s_call dv_nil (DL.s_acons (DL.s_op o_ix (DL.s_fld (DL.s_var 0)) (DL.s_var 2)) (DL.s_acons (DL.s_call dv_nil (DL.s_acons (DL.s_var 1) (DL.s_acons (DL.s_var 2) DL.s_anil))) (DL.s_acons (DL.s_var 1) DL.s_anil))))))
      (DL.s_ret (DL.s_bl true)))))⟩
theorem ok_Relation_rows (T : Txt K.K mg A) : FnOk P K.w K.K mg base (L2.CX P K.w) 7 A.f_Relation_rows A.d_Relation_rows ["self"] (spD K TB (f_Relation_rows A)) := by
  have G_in_order : FnOk P K.w K.K mg base (L2.CX P K.w) 6 A.f_in_order A.d_in_order ["rows"] (spD K TB (f_in_order A)) := ok_in_order T
  exact DL.Fun.ok0 T.F_Relation_rows sc_Relation_rows fun cdv ar outer s H E hr => ⟨_, (pss_one (ps_ret (pe_call G_in_order (hr.mono (by decide)) (by rfl) T.m_in_order T.F_in_order.kp T.b_in_order .nil (passes_call (takes_of rfl rfl rfl rfl) (fun _ _ _ _ h => h)) (pa_cons (fldK K.K (pv 0) rfl) pa_nil)))),
    (DL.s_ret (DL.s_call dv_nil (DL.s_acons (DL.s_fld (DL.s_var 0)) DL.s_anil)))⟩
theorem ok_Store_init (T : Txt K.K mg A) : FnOk P K.w K.K mg base (L2.CX P K.w) 1 A.f_Store_init A.d_Store_init ["self"] (spD K TB (f_Store_init A)) := by
  exact DL.Fun.ok0 T.F_Store_init sc_Store_init fun cdv ar outer s H E hr => ⟨_, (pss_one (sfldK K.K (pv 0) pe_dnewK rfl)),
    (DL.s_fldset T.n_Store_relations (DL.s_var 0) DL.s_dnewM)⟩
theorem ok_Store_of (T : Txt K.K mg A) : FnOk P K.w K.K mg base (L2.CX P K.w) 3 A.f_Store_of A.d_Store_of ["self", "name"] (spD K TB (f_Store_of A)) := by
  have G_Relation_init : FnOk P K.w K.K mg base (L2.CX P K.w) 1 A.f_Relation_init A.d_Relation_init ["self", "rows"] (spD K TB (f_Relation_init A)) := ok_Relation_init T
  obtain ⟨_, hv_Relation_init, hb_Relation_init⟩ := T.bd_Relation_init
  exact DL.Fun.ok0 T.F_Store_of sc_Store_of fun cdv ar outer s H E hr => ⟨_, (pss_cons (ps_if (pt_cmpR (notInA K.K K.w (room65 hr)) (pv 1) (fldK K.K (pv 0) rfl) (by rfl)) (pss_one (ps_asg (pe_make0 T.M_Relation G_Relation_init (hr.mono (by decide)) (by rfl) T.m_Relation hb_Relation_init hv_Relation_init (passes_call (takes_of rfl rfl rfl rfl) (fun _ _ _ _ h => h))) (pg_sub (fldK K.K (pv 0) rfl) (pv 1) (setA K.w (room16 hr))))) pss_nil)
      (pss_one (ps_ret (pe_ix (ixA K.K K.w (room16 hr)) (fldK K.K (pv 0) rfl) (pv 1) (fun _ _ => rfl))))),
    (DL.s_seq (DL.s_ifS (DL.s_tst (DL.s_op o_notIn (DL.s_var 1) (DL.s_fld (DL.s_var 0)))) (DL.s_put (DL.s_makeM T.cl_Relation (fun _ G => (.cons (.d (.tupK (T.sq_Relation_init G) .nil)) .nil)) DL.s_anil) (DL.s_fld (DL.s_var 0)) (DL.s_var 1)) DL.s_nil)
      (DL.s_ret (DL.s_op o_ix (DL.s_fld (DL.s_var 0)) (DL.s_var 1))))⟩
theorem ok_Store_names (T : Txt K.K mg A) : FnOk P K.w K.K mg base (L2.CX P K.w) 2 A.f_Store_names A.d_Store_names ["self"] (spD K TB (f_Store_names A)) := by
  have G_Relation_size : FnOk P K.w K.K mg base (L2.CX P K.w) 1 A.f_Relation_size A.d_Relation_size ["self"] (spD K TB (f_Relation_size A)) := ok_Relation_size T
  exact DL.Fun.ok0 T.F_Store_names sc_Store_names fun cdv ar outer s H E hr => ⟨_, (pss_one (ps_ret (pe_callTy (tupA K.K K.w) (by rfl) T.z_tuple (by decide +kernel) (pa_cons (pe_lc (own := [("name", 1)]) (by rfl) sc_Store_names.nd (pi_seq K.K (pe_callB (sortA K.K K.w hr.units) (by rfl) T.z_sorted (by decide +kernel) (pa_cons (fldK K.K (pv 0) rfl) pa_nil))) (blkOk_by (own := [("name", 1)]) (N := N_Store_names) (sc := defScope s_Store_names) (by decide +kernel)) (fun _ _ _ _ _ => (pg_name (i := 1) sc_Store_names.nd rfl (Or.inl rfl))) (fun _ _ _ _ _ => (pts_one (pt_cmpR op_gt (pe_meth0 (pe_ix (ixA K.K K.w (room16 hr)) (fldK K.K (pv 0) rfl) (pv 1) (fun _ _ => rfl)) T.cl_Relation T.e_Relation_size G_Relation_size (hr.mono (by decide)) T.b_Relation_size .nil passL) pe_int (nomark _)))) (fun _ _ _ _ _ => (pv 1))) pa_nil)))),
    (DL.s_ret (DL.s_cb o_tup (DL.s_acons (DL.s_lc (vs := [1]) (DL.s_iS (DL.s_cb o_sort (DL.s_acons (DL.s_fld (DL.s_var 0)) DL.s_anil))) (g_name 1 (by decide)) (DL.s_nx (E' := L2.E0) (DL.s_tst (DL.s_op o_gtI (DL.s_meth dv_nil (DL.s_op o_ix (DL.s_fld (DL.s_var 0)) (DL.s_var 1)) DL.s_anil) (DL.s_int 0)))) (DL.s_nx (E' := L2.E0) (DL.s_var 1))) DL.s_anil)))⟩
theorem ok_Store_has (T : Txt K.K mg A) : FnOk P K.w K.K mg base (L2.CX P K.w) 2 A.f_Store_has A.d_Store_has ["self", "name", "row"] (spD K TB (f_Store_has A)) := by
  have G_Relation_has : FnOk P K.w K.K mg base (L2.CX P K.w) 1 A.f_Relation_has A.d_Relation_has ["self", "row"] (spD K TB (f_Relation_has A)) := ok_Relation_has T
  exact DL.Fun.ok0 T.F_Store_has sc_Store_has fun cdv ar outer s H E hr => ⟨_, (pss_one (ps_ret (pe_and (pe_cmpR (inA K.K K.w (room65 hr)) (pv 1) (fldK K.K (pv 0) rfl) (by rfl)) (pe_one (pe_meth (pe_ix (ixA K.K K.w (room16 hr)) (fldK K.K (pv 0) rfl) (pv 1) (fun _ _ => rfl)) T.cl_Relation T.e_Relation_has G_Relation_has (hr.mono (by decide)) T.b_Relation_has .nil (passes_call (takes_of rfl rfl rfl rfl) (fun _ _ _ _ h => h)) (pa_cons (pv 2) pa_nil)))))),
    (DL.s_ret (DL.s_andV (DL.s_op o_in (DL.s_var 1) (DL.s_fld (DL.s_var 0))) (DL.s_meth dv_nil (DL.s_op o_ix (DL.s_fld (DL.s_var 0)) (DL.s_var 1)) (DL.s_acons (DL.s_var 2) DL.s_anil))))⟩
theorem ok_Store_size (T : Txt K.K mg A) : FnOk P K.w K.K mg base (L2.CX P K.w) 2 A.f_Store_size A.d_Store_size ["self"] (spD K TB (f_Store_size A)) := by
  have G_Relation_size : FnOk P K.w K.K mg base (L2.CX P K.w) 1 A.f_Relation_size A.d_Relation_size ["self"] (spD K TB (f_Relation_size A)) := ok_Relation_size T
  exact DL.Fun.ok0 T.F_Store_size sc_Store_size fun cdv ar outer s H E hr => ⟨_, (pss_one (ps_ret (pe_callB (cr_sum rfl) (by rfl) T.z_sum (by decide +kernel) (pa_cons (pe_lc (own := [("name", 1)]) (by rfl) sc_Store_size.nd (pi_seq K.K (fldK K.K (pv 0) rfl)) (blkOk_by (own := [("name", 1)]) (N := N_Store_size) (sc := defScope s_Store_size) (by decide +kernel)) (fun _ _ _ _ _ => (pg_name (i := 1) sc_Store_size.nd rfl (Or.inl rfl))) (fun _ _ _ _ _ => pts_nil) (fun _ _ _ _ _ => (pe_meth0 (pe_ix (ixA K.K K.w (room16 hr)) (fldK K.K (pv 0) rfl) (pv 1) (fun _ _ => rfl)) T.cl_Relation T.e_Relation_size G_Relation_size (hr.mono (by decide)) T.b_Relation_size .nil passL))) pa_nil)))),
    (DL.s_ret (DL.s_cb o_sum (DL.s_acons (DL.s_lc (vs := [1]) (DL.s_iS (DL.s_fld (DL.s_var 0))) (g_name 1 (by decide)) (DL.s_nx (E' := L2.E0) DL.s_yes) (DL.s_nx (E' := L2.E0) (DL.s_meth dv_nil (DL.s_op o_ix (DL.s_fld (DL.s_var 0)) (DL.s_var 1)) DL.s_anil))) DL.s_anil)))⟩
theorem ok_Store_shown (T : Txt K.K mg A) : FnOk P K.w K.K mg base (L2.CX P K.w) 8 A.f_Store_shown A.d_Store_shown ["self"] (spD K TB (f_Store_shown A)) := by
  have G_Relation_rows : FnOk P K.w K.K mg base (L2.CX P K.w) 7 A.f_Relation_rows A.d_Relation_rows ["self"] (spD K TB (f_Relation_rows A)) := ok_Relation_rows T
  have G_Store_names : FnOk P K.w K.K mg base (L2.CX P K.w) 2 A.f_Store_names A.d_Store_names ["self"] (spD K TB (f_Store_names A)) := ok_Store_names T
  exact DL.Fun.ok0 T.F_Store_shown sc_Store_shown fun cdv ar outer s H E hr => ⟨_, (pss_one (ps_ret (pe_callTy (tupA K.K K.w) (by rfl) T.z_tuple (by decide +kernel) (pa_cons (pe_lc (own := [("name", 1)]) (by rfl) sc_Store_shown.nd (pi_seq K.K (pe_meth0 (pv 0) T.cl_Store T.e_Store_names G_Store_names (hr.mono (by decide)) T.b_Store_names .nil (passes_call (takes_of rfl rfl rfl rfl) (fun _ _ _ _ h => h)))) (blkOk_by (own := [("name", 1)]) (N := N_Store_shown) (sc := defScope s_Store_shown) (by decide +kernel)) (fun _ _ _ _ _ => (pg_name (i := 1) sc_Store_shown.nd rfl (Or.inl rfl))) (fun _ _ _ _ _ => pts_nil) (fun _ _ _ _ _ => (pe_tup (pa_cons (pv 1) (pa_cons (pe_meth0 (pe_ix (ixA K.K K.w (room16 hr)) (fldK K.K (pv 0) rfl) (pv 1) (fun _ _ => rfl)) T.cl_Relation T.e_Relation_rows G_Relation_rows (hr.mono (by decide)) T.b_Relation_rows .nil passL) pa_nil))))) pa_nil)))),
    (DL.s_ret (DL.s_cb o_tup (DL.s_acons (DL.s_lc (vs := [1]) (DL.s_iS (DL.s_meth dv_nil (DL.s_var 0) DL.s_anil)) (g_name 1 (by decide)) (DL.s_nx (E' := L2.E0) DL.s_yes) (DL.s_nx (E' := L2.E0) (DL.s_tup (DL.s_acons (DL.s_var 1) (DL.s_acons (DL.s_meth dv_nil (DL.s_op o_ix (DL.s_fld (DL.s_var 0)) (DL.s_var 1)) DL.s_anil) DL.s_anil))))) DL.s_anil)))⟩
theorem ok_Changes_init (T : Txt K.K mg A) : FnOk P K.w K.K mg base (L2.CX P K.w) 1 A.f_Changes_init A.d_Changes_init ["self"] (spD K TB (f_Changes_init A)) := by
  exact DL.Fun.ok0 T.F_Changes_init sc_Changes_init fun cdv ar outer s H E hr => ⟨_, (pss_cons (sfldK K.K (pv 0) pe_dnewK rfl)
      (pss_one (sfldK K.K (pv 0) pe_dnewK rfl))),
    (DL.s_seq (DL.s_fldset T.n_Changes_added (DL.s_var 0) DL.s_dnewM)
      (DL.s_fldset T.n_Changes_dropped (DL.s_var 0) DL.s_dnewM))⟩
theorem ok_Changes_note (T : Txt K.K mg A) : FnOk P K.w K.K mg base (L2.CX P K.w) 2 A.f_Changes_note A.d_Changes_note ["self", "name", "row", "came"] (spD K TB (f_Changes_note A)) := by
  have G_put_under : FnOk P K.w K.K mg base (L2.CX P K.w) 1 A.f_put_under A.d_put_under ["table", "key", "row"] (spD K TB (f_put_under A)) := ok_put_under T
  have G_take_from : FnOk P K.w K.K mg base (L2.CX P K.w) 1 A.f_take_from A.d_take_from ["table", "key", "row"] (spD K TB (f_take_from A)) := ok_take_from T
  exact DL.Fun.ok0 T.F_Changes_note sc_Changes_note fun cdv ar outer s H E hr => ⟨_, (pss_cons (ps_asg (pe_ifExp (pt_val (pv 3)) (pe_tup (pa_cons (fldK K.K (pv 0) rfl) (pa_cons (fldK K.K (pv 0) rfl) pa_nil))) (pe_tup (pa_cons (fldK K.K (pv 0) rfl) (pa_cons (fldK K.K (pv 0) rfl) pa_nil)))) (tupK K.K (n := 2) rfl (pgs_cons (pg_name (i := 4) sc_Changes_note.nd rfl (Or.inl rfl)) (pgs_cons (pg_name (i := 5) sc_Changes_note.nd rfl (Or.inl rfl)) pgs_nil))))
      (pss_one (ps_if (pt_cmpR (inA K.K K.w (room65 hr)) (pv 2) (pe_am K.K K.w PySem.F.plainAttrs_dict PySem.F.slot_dict_get PySem.F.type_dict_get (mtGet K.w (room16 hr)) (pv 5) (pa_cons (pv 1) (pa_cons pe_dnewK pa_nil))) (by rfl)) (pss_one (ps_expr (pe_call G_take_from (hr.mono (by decide)) (by rfl) T.m_take_from T.F_take_from.kp T.b_take_from .nil (passes_call (takes_of rfl rfl rfl rfl) (fun _ _ _ _ h => h)) (pa_cons (pv 5) (pa_cons (pv 1) (pa_cons (pv 2) pa_nil)))))) (pss_one (ps_expr (pe_call G_put_under (hr.mono (by decide)) (by rfl) T.m_put_under T.F_put_under.kp T.b_put_under .nil (passes_call (takes_of rfl rfl rfl rfl) (fun _ _ _ _ h => h)) (pa_cons (pv 4) (pa_cons (pv 1) (pa_cons (pv 2) pa_nil))))))))),
    (DL.s_seq (DL.s_asgTI (vs := [4, 5]) (DL.s_tstB (DL.s_var 3)) (DL.s_acons (DL.s_fld (DL.s_var 0)) (DL.s_acons (DL.s_fld (DL.s_var 0)) DL.s_anil)) (DL.s_acons (DL.s_fld (DL.s_var 0)) (DL.s_acons (DL.s_fld (DL.s_var 0)) DL.s_anil)) (gs_cons (g_name 4 (by decide)) (gs_cons (g_name 5 (by decide)) gs_nil)))
      (DL.s_ifS (DL.s_tst (DL.s_op o_in (DL.s_var 2) (DL.s_mt ty_dct m_get (DL.s_var 5) (DL.s_acons (DL.s_var 1) (DL.s_acons DL.s_dnew DL.s_anil))))) (DL.s_expr (DL.s_call dv_nil (DL.s_acons (DL.s_var 5) (DL.s_acons (DL.s_var 1) (DL.s_acons (DL.s_var 2) DL.s_anil))))) (DL.s_expr (DL.s_call dv_nil (DL.s_acons (DL.s_var 4) (DL.s_acons (DL.s_var 1) (DL.s_acons (DL.s_var 2) DL.s_anil)))))))⟩
theorem ok_Changes_came (T : Txt K.K mg A) : FnOk P K.w K.K mg base (L2.CX P K.w) 1 A.f_Changes_came A.d_Changes_came ["self", "name"] (spD K TB (f_Changes_came A)) := by
  exact DL.Fun.ok0 T.F_Changes_came sc_Changes_came fun cdv ar outer s H E hr => ⟨_, (pss_one (ps_ret (pe_callTy (lstA K.K K.w) (by rfl) T.z_list (by decide +kernel) (pa_cons (pe_am K.K K.w PySem.F.plainAttrs_dict PySem.F.slot_dict_get PySem.F.type_dict_get (mtGet K.w (room16 hr)) (fldK K.K (pv 0) rfl) (pa_cons (pv 1) (pa_cons pe_dnewK pa_nil))) pa_nil)))),
    (DL.s_ret (DL.s_cb o_lst (DL.s_acons (DL.s_mt ty_dct m_get (DL.s_fld (DL.s_var 0)) (DL.s_acons (DL.s_var 1) (DL.s_acons DL.s_dnew DL.s_anil))) DL.s_anil)))⟩
theorem ok_Changes_went (T : Txt K.K mg A) : FnOk P K.w K.K mg base (L2.CX P K.w) 1 A.f_Changes_went A.d_Changes_went ["self", "name"] (spD K TB (f_Changes_went A)) := by
  exact DL.Fun.ok0 T.F_Changes_went sc_Changes_went fun cdv ar outer s H E hr => ⟨_, (pss_one (ps_ret (pe_callTy (lstA K.K K.w) (by rfl) T.z_list (by decide +kernel) (pa_cons (pe_am K.K K.w PySem.F.plainAttrs_dict PySem.F.slot_dict_get PySem.F.type_dict_get (mtGet K.w (room16 hr)) (fldK K.K (pv 0) rfl) (pa_cons (pv 1) (pa_cons pe_dnewK pa_nil))) pa_nil)))),
    (DL.s_ret (DL.s_cb o_lst (DL.s_acons (DL.s_mt ty_dct m_get (DL.s_fld (DL.s_var 0)) (DL.s_acons (DL.s_var 1) (DL.s_acons DL.s_dnew DL.s_anil))) DL.s_anil)))⟩
theorem ok_Changes_names (T : Txt K.K mg A) : FnOk P K.w K.K mg base (L2.CX P K.w) 1 A.f_Changes_names A.d_Changes_names ["self"] (spD K TB (f_Changes_names A)) := by
  exact DL.Fun.ok0 T.F_Changes_names sc_Changes_names fun cdv ar outer s H E hr => ⟨_, (pss_one (ps_ret (pe_callTy (tupA K.K K.w) (by rfl) T.z_tuple (by decide +kernel) (pa_cons (pe_callB (sortA K.K K.w hr.units) (by rfl) T.z_sorted (by decide +kernel) (pa_cons (pe_dc (own := [("name", 1)]) (by rfl) sc_Changes_names.nd (pi_seq K.K (pe_op (addA K.K) (pe_callTy (lstA K.K K.w) (by rfl) T.z_list (by decide +kernel) (pa_cons (fldK K.K (pv 0) rfl) pa_nil)) (pe_callTy (lstA K.K K.w) (by rfl) T.z_list (by decide +kernel) (pa_cons (fldK K.K (pv 0) rfl) pa_nil)))) (blkOk_by (own := [("name", 1)]) (N := N_Changes_names) (sc := defScope s_Changes_names) (by decide +kernel)) (fun _ _ _ _ _ => (pg_name (i := 1) sc_Changes_names.nd rfl (Or.inl rfl))) (fun _ _ _ _ _ => pts_nil) (fun _ _ _ _ _ => (pv 1)) (fun _ _ _ _ _ => pe_bl)) pa_nil)) pa_nil)))),
    (DL.s_ret (DL.s_cb o_tup (DL.s_acons (DL.s_cb o_sort (DL.s_acons (DL.s_dc (vs := [1]) (DL.s_iS (DL.s_op o_add (DL.s_cb o_lst (DL.s_acons (DL.s_fld (DL.s_var 0)) DL.s_anil)) (DL.s_cb o_lst (DL.s_acons (DL.s_fld (DL.s_var 0)) DL.s_anil)))) (g_name 1 (by decide)) (DL.s_nx (E' := L2.E0) DL.s_yes) (DL.s_nx (E' := L2.E0) (DL.s_var 1)) (DL.s_nx (E' := L2.E0) (DL.s_bl true))) DL.s_anil)) DL.s_anil)))⟩
theorem ok_Changes_is_bare (T : Txt K.K mg A) : FnOk P K.w K.K mg base (L2.CX P K.w) 2 A.f_Changes_is_bare A.d_Changes_is_bare ["self"] (spD K TB (f_Changes_is_bare A)) := by
  have G_Changes_names : FnOk P K.w K.K mg base (L2.CX P K.w) 1 A.f_Changes_names A.d_Changes_names ["self"] (spD K TB (f_Changes_names A)) := ok_Changes_names T
  exact DL.Fun.ok0 T.F_Changes_is_bare sc_Changes_is_bare fun cdv ar outer s H E hr => ⟨_, (pss_one (ps_ret (pe_cmpR (eqA K.K hr.units) (pe_meth0 (pv 0) T.cl_Changes T.e_Changes_names G_Changes_names (hr.mono (by decide)) T.b_Changes_names .nil (passes_call (takes_of rfl rfl rfl rfl) (fun _ _ _ _ h => h))) (pe_tup pa_nil) (nomark _)))),
    (DL.s_ret (DL.s_op o_eq (DL.s_meth dv_nil (DL.s_var 0) DL.s_anil) (DL.s_tup DL.s_anil)))⟩
theorem ok_Changes_turned (T : Txt K.K mg A) : FnOk P K.w K.K mg base (L2.CX P K.w) 3 A.f_Changes_turned A.d_Changes_turned ["self"] (spD K TB (f_Changes_turned A)) := by
  have G_Changes_came : FnOk P K.w K.K mg base (L2.CX P K.w) 1 A.f_Changes_came A.d_Changes_came ["self", "name"] (spD K TB (f_Changes_came A)) := ok_Changes_came T
  have G_Changes_init : FnOk P K.w K.K mg base (L2.CX P K.w) 1 A.f_Changes_init A.d_Changes_init ["self"] (spD K TB (f_Changes_init A)) := ok_Changes_init T
  have G_Changes_names : FnOk P K.w K.K mg base (L2.CX P K.w) 1 A.f_Changes_names A.d_Changes_names ["self"] (spD K TB (f_Changes_names A)) := ok_Changes_names T
  have G_Changes_note : FnOk P K.w K.K mg base (L2.CX P K.w) 2 A.f_Changes_note A.d_Changes_note ["self", "name", "row", "came"] (spD K TB (f_Changes_note A)) := ok_Changes_note T
  have G_Changes_went : FnOk P K.w K.K mg base (L2.CX P K.w) 1 A.f_Changes_went A.d_Changes_went ["self", "name"] (spD K TB (f_Changes_went A)) := ok_Changes_went T
  exact DL.Fun.ok0 T.F_Changes_turned sc_Changes_turned fun cdv ar outer s H E hr => ⟨_, (pss_cons (ps_set (i := 1) sc_Changes_turned.nd rfl (Or.inl rfl) (pe_make0 T.M_Changes G_Changes_init (hr.mono (by decide)) (by rfl) T.m_Changes T.b_Changes_init .nil (passes_call (takes_of rfl rfl rfl rfl) (fun _ _ _ _ h => h))))
      (pss_cons (ps_for (passes_of rfl) rfl (pi_seq K.K (pe_meth0 (pv 0) T.cl_Changes T.e_Changes_names G_Changes_names (hr.mono (by decide)) T.b_Changes_names .nil (passes_call (takes_of rfl rfl rfl rfl) (fun _ _ _ _ h => h)))) (pg_name (i := 2) sc_Changes_turned.nd rfl (Or.inl rfl)) (pss_cons (ps_for (passes_of rfl) rfl (pi_seq K.K (pe_meth (pv 0) T.cl_Changes T.e_Changes_came G_Changes_came (hr.mono (by decide)) T.b_Changes_came .nil (passes_call (takes_of rfl rfl rfl rfl) (fun _ _ _ _ h => h)) (pa_cons (pv 2) pa_nil))) (pg_name (i := 3) sc_Changes_turned.nd rfl (Or.inl rfl)) (pss_one (ps_expr (pe_meth (pv 1) T.cl_Changes T.e_Changes_note G_Changes_note (hr.mono (by decide)) T.b_Changes_note .nil (passes_call (takes_of rfl rfl rfl rfl) (fun _ _ _ _ h => h)) (pa_cons (pv 2) (pa_cons (pv 3) (pa_cons pe_bl pa_nil)))))))
      (pss_one (ps_for (passes_of rfl) rfl (pi_seq K.K (pe_meth (pv 0) T.cl_Changes T.e_Changes_went G_Changes_went (hr.mono (by decide)) T.b_Changes_went .nil (passes_call (takes_of rfl rfl rfl rfl) (fun _ _ _ _ h => h)) (pa_cons (pv 2) pa_nil))) (pg_name (i := 3) sc_Changes_turned.nd rfl (Or.inl rfl)) (pss_one (ps_expr (pe_meth (pv 1) T.cl_Changes T.e_Changes_note G_Changes_note (hr.mono (by decide)) T.b_Changes_note .nil (passes_call (takes_of rfl rfl rfl rfl) (fun _ _ _ _ h => h)) (pa_cons (pv 2) (pa_cons (pv 3) (pa_cons pe_bl pa_nil))))))))))
      (pss_one (ps_ret (pv 1))))),
    (DL.s_seq (DL.s_set 1 (DL.s_makeM T.cl_Changes dv_nil DL.s_anil))
      (DL.s_seq (DL.s_for (vs := [2]) (DL.s_iS (DL.s_meth dv_nil (DL.s_var 0) DL.s_anil)) (g_name 2 (by decide)) (DL.s_seq (DL.s_for (vs := [3]) (DL.s_iS (DL.s_meth dv_nil (DL.s_var 0) (DL.s_acons (DL.s_var 2) DL.s_anil))) (g_name 3 (by decide)) (DL.s_expr (DL.s_meth dv_nil (DL.s_var 1) (DL.s_acons (DL.s_var 2) (DL.s_acons (DL.s_var 3) (DL.s_acons (DL.s_bl false) DL.s_anil))))))
      (DL.s_for (vs := [3]) (DL.s_iS (DL.s_meth dv_nil (DL.s_var 0) (DL.s_acons (DL.s_var 2) DL.s_anil))) (g_name 3 (by decide)) (DL.s_expr (DL.s_meth dv_nil (DL.s_var 1) (DL.s_acons (DL.s_var 2) (DL.s_acons (DL.s_var 3) (DL.s_acons (DL.s_bl true) DL.s_anil))))))))
      (DL.s_ret (DL.s_var 1))))⟩
theorem ok_Changes_shown (T : Txt K.K mg A) : FnOk P K.w K.K mg base (L2.CX P K.w) 7 A.f_Changes_shown A.d_Changes_shown ["self"] (spD K TB (f_Changes_shown A)) := by
  have G_Changes_came : FnOk P K.w K.K mg base (L2.CX P K.w) 1 A.f_Changes_came A.d_Changes_came ["self", "name"] (spD K TB (f_Changes_came A)) := ok_Changes_came T
  have G_Changes_names : FnOk P K.w K.K mg base (L2.CX P K.w) 1 A.f_Changes_names A.d_Changes_names ["self"] (spD K TB (f_Changes_names A)) := ok_Changes_names T
  have G_Changes_went : FnOk P K.w K.K mg base (L2.CX P K.w) 1 A.f_Changes_went A.d_Changes_went ["self", "name"] (spD K TB (f_Changes_went A)) := ok_Changes_went T
  have G_in_order : FnOk P K.w K.K mg base (L2.CX P K.w) 6 A.f_in_order A.d_in_order ["rows"] (spD K TB (f_in_order A)) := ok_in_order T
  exact DL.Fun.ok0 T.F_Changes_shown sc_Changes_shown fun cdv ar outer s H E hr => ⟨_, (pss_one (ps_ret (pe_callTy (tupA K.K K.w) (by rfl) T.z_tuple (by decide +kernel) (pa_cons (pe_lc (own := [("name", 1)]) (by rfl) sc_Changes_shown.nd (pi_seq K.K (pe_meth0 (pv 0) T.cl_Changes T.e_Changes_names G_Changes_names (hr.mono (by decide)) T.b_Changes_names .nil (passes_call (takes_of rfl rfl rfl rfl) (fun _ _ _ _ h => h)))) (blkOk_by (own := [("name", 1)]) (N := N_Changes_shown) (sc := defScope s_Changes_shown) (by decide +kernel)) (fun _ _ _ _ _ => (pg_name (i := 1) sc_Changes_shown.nd rfl (Or.inl rfl))) (fun _ _ _ _ _ => pts_nil) (fun _ _ _ _ _ => (pe_tup (pa_cons (pv 1) (pa_cons (pe_call G_in_order (hr.mono (by decide)) (by rfl) T.m_in_order T.F_in_order.kp T.b_in_order .nil passL (pa_cons (pe_meth (pv 0) T.cl_Changes T.e_Changes_came G_Changes_came (hr.mono (by decide)) T.b_Changes_came .nil passL (pa_cons (pv 1) pa_nil)) pa_nil)) (pa_cons (pe_call G_in_order (hr.mono (by decide)) (by rfl) T.m_in_order T.F_in_order.kp T.b_in_order .nil passL (pa_cons (pe_meth (pv 0) T.cl_Changes T.e_Changes_went G_Changes_went (hr.mono (by decide)) T.b_Changes_went .nil passL (pa_cons (pv 1) pa_nil)) pa_nil)) pa_nil)))))) pa_nil)))),
    (DL.s_ret (DL.s_cb o_tup (DL.s_acons (DL.s_lc (vs := [1]) (DL.s_iS (DL.s_meth dv_nil (DL.s_var 0) DL.s_anil)) (g_name 1 (by decide)) (DL.s_nx (E' := L2.E0) DL.s_yes) (DL.s_nx (E' := L2.E0) (DL.s_tup (DL.s_acons (DL.s_var 1) (DL.s_acons (DL.s_call dv_nil (DL.s_acons (DL.s_meth dv_nil (DL.s_var 0) (DL.s_acons (DL.s_var 1) DL.s_anil)) DL.s_anil)) (DL.s_acons (DL.s_call dv_nil (DL.s_acons (DL.s_meth dv_nil (DL.s_var 0) (DL.s_acons (DL.s_var 1) DL.s_anil)) DL.s_anil)) DL.s_anil)))))) DL.s_anil)))⟩
theorem ok_store_of (T : Txt K.K mg A) : FnOk P K.w K.K mg base (L2.CX P K.w) 4 A.f_store_of A.d_store_of ["facts"] (spD K TB (f_store_of A)) := by
  have G_Relation_add : FnOk P K.w K.K mg base (L2.CX P K.w) 2 A.f_Relation_add A.d_Relation_add ["self", "row"] (spD K TB (f_Relation_add A)) := ok_Relation_add T
  have G_Store_init : FnOk P K.w K.K mg base (L2.CX P K.w) 1 A.f_Store_init A.d_Store_init ["self"] (spD K TB (f_Store_init A)) := ok_Store_init T
  have G_Store_of : FnOk P K.w K.K mg base (L2.CX P K.w) 3 A.f_Store_of A.d_Store_of ["self", "name"] (spD K TB (f_Store_of A)) := ok_Store_of T
  exact DL.Fun.ok0 T.F_store_of sc_store_of fun cdv ar outer s H E hr => ⟨_, (pss_cons (ps_set (i := 1) sc_store_of.nd rfl (Or.inl rfl) (pe_make0 T.M_Store G_Store_init (hr.mono (by decide)) (by rfl) T.m_Store T.b_Store_init .nil (passes_call (takes_of rfl rfl rfl rfl) (fun _ _ _ _ h => h))))
      (pss_cons (ps_for (passes_of rfl) rfl (pi_seq K.K (pv 0)) (tupK K.K (n := 2) rfl (pgs_cons (pg_name (i := 2) sc_store_of.nd rfl (Or.inl rfl)) (pgs_cons (pg_name (i := 3) sc_store_of.nd rfl (Or.inl rfl)) pgs_nil))) (pss_one (ps_expr (pe_meth (pe_meth (pv 1) T.cl_Store T.e_Store_of G_Store_of (hr.mono (by decide)) T.b_Store_of .nil (passes_call (takes_of rfl rfl rfl rfl) (fun _ _ _ _ h => h)) (pa_cons (pv 2) pa_nil)) T.cl_Relation T.e_Relation_add G_Relation_add (hr.mono (by decide)) T.b_Relation_add .nil (passes_call (takes_of rfl rfl rfl rfl) (fun _ _ _ _ h => h)) (pa_cons (pv 3) pa_nil)))))
      (pss_one (ps_ret (pv 1))))),
    (DL.s_seq (DL.s_set 1 (DL.s_makeM T.cl_Store dv_nil DL.s_anil))
      (DL.s_seq (DL.s_for (vs := [2, 3]) (DL.s_iS (DL.s_var 0)) (g_tup (gs_cons (g_name 2 (by decide)) (gs_cons (g_name 3 (by decide)) gs_nil))) (DL.s_expr (DL.s_meth dv_nil (DL.s_meth dv_nil (DL.s_var 1) (DL.s_acons (DL.s_var 2) DL.s_anil)) (DL.s_acons (DL.s_var 3) DL.s_anil))))
      (DL.s_ret (DL.s_var 1))))⟩
theorem ok_apart (T : Txt K.K mg A) : FnOk P K.w K.K mg base (L2.CX P K.w) 8 A.f_apart A.d_apart ["one", "other"] (spD K TB (f_apart A)) := by
  have G_Changes_init : FnOk P K.w K.K mg base (L2.CX P K.w) 1 A.f_Changes_init A.d_Changes_init ["self"] (spD K TB (f_Changes_init A)) := ok_Changes_init T
  have G_Changes_note : FnOk P K.w K.K mg base (L2.CX P K.w) 2 A.f_Changes_note A.d_Changes_note ["self", "name", "row", "came"] (spD K TB (f_Changes_note A)) := ok_Changes_note T
  have G_Relation_rows : FnOk P K.w K.K mg base (L2.CX P K.w) 7 A.f_Relation_rows A.d_Relation_rows ["self"] (spD K TB (f_Relation_rows A)) := ok_Relation_rows T
  have G_Store_has : FnOk P K.w K.K mg base (L2.CX P K.w) 2 A.f_Store_has A.d_Store_has ["self", "name", "row"] (spD K TB (f_Store_has A)) := ok_Store_has T
  have G_Store_names : FnOk P K.w K.K mg base (L2.CX P K.w) 2 A.f_Store_names A.d_Store_names ["self"] (spD K TB (f_Store_names A)) := ok_Store_names T
  have G_Store_of : FnOk P K.w K.K mg base (L2.CX P K.w) 3 A.f_Store_of A.d_Store_of ["self", "name"] (spD K TB (f_Store_of A)) := ok_Store_of T
  exact DL.Fun.ok0 T.F_apart sc_apart fun cdv ar outer s H E hr => ⟨_, (pss_cons (ps_set (i := 2) sc_apart.nd rfl (Or.inl rfl) (pe_make0 T.M_Changes G_Changes_init (hr.mono (by decide)) (by rfl) T.m_Changes T.b_Changes_init .nil (passes_call (takes_of rfl rfl rfl rfl) (fun _ _ _ _ h => h))))
      (pss_cons (ps_for (passes_of rfl) rfl (pi_seq K.K (pe_meth0 (pv 0) T.cl_Store T.e_Store_names G_Store_names (hr.mono (by decide)) T.b_Store_names .nil (passes_call (takes_of rfl rfl rfl rfl) (fun _ _ _ _ h => h)))) (pg_name (i := 3) sc_apart.nd rfl (Or.inl rfl)) (pss_one (ps_for (passes_of rfl) rfl (pi_seq K.K (pe_meth0 (pe_meth (pv 0) T.cl_Store T.e_Store_of G_Store_of (hr.mono (by decide)) T.b_Store_of .nil (passes_call (takes_of rfl rfl rfl rfl) (fun _ _ _ _ h => h)) (pa_cons (pv 3) pa_nil)) T.cl_Relation T.e_Relation_rows G_Relation_rows (hr.mono (by decide)) T.b_Relation_rows .nil (passes_call (takes_of rfl rfl rfl rfl) (fun _ _ _ _ h => h)))) (pg_name (i := 4) sc_apart.nd rfl (Or.inl rfl)) (pss_one (ps_if (pt_not (pt_val (pe_meth (pv 1) T.cl_Store T.e_Store_has G_Store_has (hr.mono (by decide)) T.b_Store_has .nil (passes_call (takes_of rfl rfl rfl rfl) (fun _ _ _ _ h => h)) (pa_cons (pv 3) (pa_cons (pv 4) pa_nil))))) (pss_one (ps_expr (pe_meth (pv 2) T.cl_Changes T.e_Changes_note G_Changes_note (hr.mono (by decide)) T.b_Changes_note .nil (passes_call (takes_of rfl rfl rfl rfl) (fun _ _ _ _ h => h)) (pa_cons (pv 3) (pa_cons (pv 4) (pa_cons pe_bl pa_nil)))))) pss_nil)))))
      (pss_cons (ps_for (passes_of rfl) rfl (pi_seq K.K (pe_meth0 (pv 1) T.cl_Store T.e_Store_names G_Store_names (hr.mono (by decide)) T.b_Store_names .nil (passes_call (takes_of rfl rfl rfl rfl) (fun _ _ _ _ h => h)))) (pg_name (i := 3) sc_apart.nd rfl (Or.inl rfl)) (pss_one (ps_for (passes_of rfl) rfl (pi_seq K.K (pe_meth0 (pe_meth (pv 1) T.cl_Store T.e_Store_of G_Store_of (hr.mono (by decide)) T.b_Store_of .nil (passes_call (takes_of rfl rfl rfl rfl) (fun _ _ _ _ h => h)) (pa_cons (pv 3) pa_nil)) T.cl_Relation T.e_Relation_rows G_Relation_rows (hr.mono (by decide)) T.b_Relation_rows .nil (passes_call (takes_of rfl rfl rfl rfl) (fun _ _ _ _ h => h)))) (pg_name (i := 4) sc_apart.nd rfl (Or.inl rfl)) (pss_one (ps_if (pt_not (pt_val (pe_meth (pv 0) T.cl_Store T.e_Store_has G_Store_has (hr.mono (by decide)) T.b_Store_has .nil (passes_call (takes_of rfl rfl rfl rfl) (fun _ _ _ _ h => h)) (pa_cons (pv 3) (pa_cons (pv 4) pa_nil))))) (pss_one (ps_expr (pe_meth (pv 2) T.cl_Changes T.e_Changes_note G_Changes_note (hr.mono (by decide)) T.b_Changes_note .nil (passes_call (takes_of rfl rfl rfl rfl) (fun _ _ _ _ h => h)) (pa_cons (pv 3) (pa_cons (pv 4) (pa_cons pe_bl pa_nil)))))) pss_nil)))))
      (pss_one (ps_ret (pv 2)))))),
    (DL.s_seq (DL.s_set 2 (DL.s_makeM T.cl_Changes dv_nil DL.s_anil))
      (DL.s_seq (DL.s_for (vs := [3]) (DL.s_iS (DL.s_meth dv_nil (DL.s_var 0) DL.s_anil)) (g_name 3 (by decide)) (DL.s_for (vs := [4]) (DL.s_iS (DL.s_meth dv_nil (DL.s_meth dv_nil (DL.s_var 0) (DL.s_acons (DL.s_var 3) DL.s_anil)) DL.s_anil)) (g_name 4 (by decide)) (DL.s_ifS (DL.s_not (DL.s_tstB (DL.s_meth dv_nil (DL.s_var 1) (DL.s_acons (DL.s_var 3) (DL.s_acons (DL.s_var 4) DL.s_anil))))) (DL.s_expr (DL.s_meth dv_nil (DL.s_var 2) (DL.s_acons (DL.s_var 3) (DL.s_acons (DL.s_var 4) (DL.s_acons (DL.s_bl false) DL.s_anil))))) DL.s_nil)))
      (DL.s_seq (DL.s_for (vs := [3]) (DL.s_iS (DL.s_meth dv_nil (DL.s_var 1) DL.s_anil)) (g_name 3 (by decide)) (DL.s_for (vs := [4]) (DL.s_iS (DL.s_meth dv_nil (DL.s_meth dv_nil (DL.s_var 1) (DL.s_acons (DL.s_var 3) DL.s_anil)) DL.s_anil)) (g_name 4 (by decide)) (DL.s_ifS (DL.s_not (DL.s_tstB (DL.s_meth dv_nil (DL.s_var 0) (DL.s_acons (DL.s_var 3) (DL.s_acons (DL.s_var 4) DL.s_anil))))) (DL.s_expr (DL.s_meth dv_nil (DL.s_var 2) (DL.s_acons (DL.s_var 3) (DL.s_acons (DL.s_var 4) (DL.s_acons (DL.s_bl true) DL.s_anil))))) DL.s_nil)))
      (DL.s_ret (DL.s_var 2)))))⟩
theorem ok_laid_on (T : Txt K.K mg A) : FnOk P K.w K.K mg base (L2.CX P K.w) 4 A.f_laid_on A.d_laid_on ["store", "changes"] (spD K TB (f_laid_on A)) := by
  have G_Changes_came : FnOk P K.w K.K mg base (L2.CX P K.w) 1 A.f_Changes_came A.d_Changes_came ["self", "name"] (spD K TB (f_Changes_came A)) := ok_Changes_came T
  have G_Changes_names : FnOk P K.w K.K mg base (L2.CX P K.w) 1 A.f_Changes_names A.d_Changes_names ["self"] (spD K TB (f_Changes_names A)) := ok_Changes_names T
  have G_Changes_went : FnOk P K.w K.K mg base (L2.CX P K.w) 1 A.f_Changes_went A.d_Changes_went ["self", "name"] (spD K TB (f_Changes_went A)) := ok_Changes_went T
  have G_Relation_add : FnOk P K.w K.K mg base (L2.CX P K.w) 2 A.f_Relation_add A.d_Relation_add ["self", "row"] (spD K TB (f_Relation_add A)) := ok_Relation_add T
  have G_Relation_drop : FnOk P K.w K.K mg base (L2.CX P K.w) 2 A.f_Relation_drop A.d_Relation_drop ["self", "row"] (spD K TB (f_Relation_drop A)) := ok_Relation_drop T
  have G_Store_has : FnOk P K.w K.K mg base (L2.CX P K.w) 2 A.f_Store_has A.d_Store_has ["self", "name", "row"] (spD K TB (f_Store_has A)) := ok_Store_has T
  have G_Store_of : FnOk P K.w K.K mg base (L2.CX P K.w) 3 A.f_Store_of A.d_Store_of ["self", "name"] (spD K TB (f_Store_of A)) := ok_Store_of T
  exact DL.Fun.ok0 T.F_laid_on sc_laid_on fun cdv ar outer s H E hr => ⟨_, (pss_cons (ps_for (passes_of rfl) rfl (pi_seq K.K (pe_meth0 (pv 1) T.cl_Changes T.e_Changes_names G_Changes_names (hr.mono (by decide)) T.b_Changes_names .nil (passes_call (takes_of rfl rfl rfl rfl) (fun _ _ _ _ h => h)))) (pg_name (i := 2) sc_laid_on.nd rfl (Or.inl rfl)) (pss_cons (ps_for (passes_of rfl) rfl (pi_seq K.K (pe_meth (pv 1) T.cl_Changes T.e_Changes_went G_Changes_went (hr.mono (by decide)) T.b_Changes_went .nil (passes_call (takes_of rfl rfl rfl rfl) (fun _ _ _ _ h => h)) (pa_cons (pv 2) pa_nil))) (pg_name (i := 3) sc_laid_on.nd rfl (Or.inl rfl)) (pss_one (ps_if (pt_not (pt_val (pe_meth (pv 0) T.cl_Store T.e_Store_has G_Store_has (hr.mono (by decide)) T.b_Store_has .nil (passes_call (takes_of rfl rfl rfl rfl) (fun _ _ _ _ h => h)) (pa_cons (pv 2) (pa_cons (pv 3) pa_nil))))) (pss_one (ps_raise rfl (takes_of rfl rfl rfl rfl) (SkE.pmk_own1 PySem.F.excBase_ValueError T.x_NoSuch T.q_NoSuch T.k_NoSuch (raises_own T.sb_NoSuch T.ty_NoSuch) rfl (pe_joined (PJ.cons pe_str (PJ.cons (pe_fmt (pv 2)) PJ.nil)))))) pss_nil)))
      (pss_one (ps_for (passes_of rfl) rfl (pi_seq K.K (pe_meth (pv 1) T.cl_Changes T.e_Changes_came G_Changes_came (hr.mono (by decide)) T.b_Changes_came .nil (passes_call (takes_of rfl rfl rfl rfl) (fun _ _ _ _ h => h)) (pa_cons (pv 2) pa_nil))) (pg_name (i := 3) sc_laid_on.nd rfl (Or.inl rfl)) (pss_one (ps_if (pt_val (pe_meth (pv 0) T.cl_Store T.e_Store_has G_Store_has (hr.mono (by decide)) T.b_Store_has .nil (passes_call (takes_of rfl rfl rfl rfl) (fun _ _ _ _ h => h)) (pa_cons (pv 2) (pa_cons (pv 3) pa_nil)))) (pss_one (ps_raise rfl (takes_of rfl rfl rfl rfl) (SkE.pmk_own1 PySem.F.excBase_ValueError T.x_NoSuch T.q_NoSuch T.k_NoSuch (raises_own T.sb_NoSuch T.ty_NoSuch) rfl (pe_joined (PJ.cons pe_str (PJ.cons (pe_fmt (pv 2)) PJ.nil)))))) pss_nil))))))
      (pss_one (ps_for (passes_of rfl) rfl (pi_seq K.K (pe_meth0 (pv 1) T.cl_Changes T.e_Changes_names G_Changes_names (hr.mono (by decide)) T.b_Changes_names .nil (passes_call (takes_of rfl rfl rfl rfl) (fun _ _ _ _ h => h)))) (pg_name (i := 2) sc_laid_on.nd rfl (Or.inl rfl)) (pss_cons (ps_set (i := 4) sc_laid_on.nd rfl (Or.inl rfl) (pe_meth (pv 0) T.cl_Store T.e_Store_of G_Store_of (hr.mono (by decide)) T.b_Store_of .nil (passes_call (takes_of rfl rfl rfl rfl) (fun _ _ _ _ h => h)) (pa_cons (pv 2) pa_nil)))
      (pss_cons (ps_for (passes_of rfl) rfl (pi_seq K.K (pe_meth (pv 1) T.cl_Changes T.e_Changes_went G_Changes_went (hr.mono (by decide)) T.b_Changes_went .nil (passes_call (takes_of rfl rfl rfl rfl) (fun _ _ _ _ h => h)) (pa_cons (pv 2) pa_nil))) (pg_name (i := 3) sc_laid_on.nd rfl (Or.inl rfl)) (pss_one (ps_expr (pe_meth (pv 4) T.cl_Relation T.e_Relation_drop G_Relation_drop (hr.mono (by decide)) T.b_Relation_drop .nil (passes_call (takes_of rfl rfl rfl rfl) (fun _ _ _ _ h => h)) (pa_cons (pv 3) pa_nil)))))
      (pss_one (ps_for (passes_of rfl) rfl (pi_seq K.K (pe_meth (pv 1) T.cl_Changes T.e_Changes_came G_Changes_came (hr.mono (by decide)) T.b_Changes_came .nil (passes_call (takes_of rfl rfl rfl rfl) (fun _ _ _ _ h => h)) (pa_cons (pv 2) pa_nil))) (pg_name (i := 3) sc_laid_on.nd rfl (Or.inl rfl)) (pss_one (ps_expr (pe_meth (pv 4) T.cl_Relation T.e_Relation_add G_Relation_add (hr.mono (by decide)) T.b_Relation_add .nil (passes_call (takes_of rfl rfl rfl rfl) (fun _ _ _ _ h => h)) (pa_cons (pv 3) pa_nil))))))))))),
    (DL.s_seq (DL.s_for (vs := [2]) (DL.s_iS (DL.s_meth dv_nil (DL.s_var 1) DL.s_anil)) (g_name 2 (by decide)) (DL.s_seq (DL.s_for (vs := [3]) (DL.s_iS (DL.s_meth dv_nil (DL.s_var 1) (DL.s_acons (DL.s_var 2) DL.s_anil))) (g_name 3 (by decide)) (DL.s_ifS (DL.s_not (DL.s_tstB (DL.s_meth dv_nil (DL.s_var 0) (DL.s_acons (DL.s_var 2) (DL.s_acons (DL.s_var 3) DL.s_anil))))) (DL.s_raise (DL.s_join (.cons (DL.s_str "not there: ") (.cons (DL.s_fmt (DL.s_var 2)) .nil)))) DL.s_nil))
      (DL.s_for (vs := [3]) (DL.s_iS (DL.s_meth dv_nil (DL.s_var 1) (DL.s_acons (DL.s_var 2) DL.s_anil))) (g_name 3 (by decide)) (DL.s_ifS (DL.s_tstB (DL.s_meth dv_nil (DL.s_var 0) (DL.s_acons (DL.s_var 2) (DL.s_acons (DL.s_var 3) DL.s_anil)))) (DL.s_raise (DL.s_join (.cons (DL.s_str "there: ") (.cons (DL.s_fmt (DL.s_var 2)) .nil)))) DL.s_nil))))
      (DL.s_for (vs := [2]) (DL.s_iS (DL.s_meth dv_nil (DL.s_var 1) DL.s_anil)) (g_name 2 (by decide)) (DL.s_seq (DL.s_set 4 (DL.s_meth dv_nil (DL.s_var 0) (DL.s_acons (DL.s_var 2) DL.s_anil)))
      (DL.s_seq (DL.s_for (vs := [3]) (DL.s_iS (DL.s_meth dv_nil (DL.s_var 1) (DL.s_acons (DL.s_var 2) DL.s_anil))) (g_name 3 (by decide)) (DL.s_expr (DL.s_meth dv_nil (DL.s_var 4) (DL.s_acons (DL.s_var 3) DL.s_anil))))
      (DL.s_for (vs := [3]) (DL.s_iS (DL.s_meth dv_nil (DL.s_var 1) (DL.s_acons (DL.s_var 2) DL.s_anil))) (g_name 3 (by decide)) (DL.s_expr (DL.s_meth dv_nil (DL.s_var 4) (DL.s_acons (DL.s_var 3) DL.s_anil))))))))⟩
theorem ok_l_dice (T : Txt K.K mg A) : FnOk P K.w K.K mg base (L2.CX P K.w) 1 A.f_l_dice A.d_l_dice ["cell"] (spD K TB (f_l_dice A)) := by
  exact DL.Fun.ok0 T.F_l_dice sc_l_dice fun cdv ar outer s H E hr => ⟨_, (pss_cons (ps_if (pt_chain (ltA K.K hr.units) (ltA K.K hr.units) (pe_op op_sub pe_int pe_int) (pv 0) pe_int) (pss_one (ps_ret (pe_lst (pa_cons (pe_callB absK (by rfl) T.z_abs (by decide +kernel) (pa_cons (pv 0) pa_nil)) (pa_cons pe_int (pa_cons pe_int pa_nil)))))) pss_nil)
      (pss_one (ps_ret (pe_lst (pa_cons (pv 0) (pa_cons (pe_op (addA K.K) pe_int (pe_op op_mod (pe_callTy int1K (by rfl) T.z_int (by decide +kernel) (pa_cons (pv 0) pa_nil)) pe_int)) (pa_cons (pe_callTy int1K (by rfl) T.z_int (by decide +kernel) (pa_cons (pe_cmpR op_ge (pv 0) (pe_op op_pow pe_int pe_int) (nomark _)) pa_nil)) pa_nil))))))),
    (DL.s_seq (DL.s_ifS (DL.s_tst (DL.s_chain o_lt o_lt (DL.s_op o_sub (DL.s_int 0) (DL.s_int 10)) (DL.s_var 0) (DL.s_int 10))) (DL.s_ret (DL.s_lstM (DL.s_acons (DL.s_cb o_abs (DL.s_acons (DL.s_var 0) DL.s_anil)) (DL.s_acons (DL.s_int 0) (DL.s_acons (DL.s_int 2) DL.s_anil))))) DL.s_nil)
      (DL.s_ret (DL.s_lstM (DL.s_acons (DL.s_var 0) (DL.s_acons (DL.s_op o_add (DL.s_int 1) (DL.s_op o_mod (DL.s_cb o_int (DL.s_acons (DL.s_var 0) DL.s_anil)) (DL.s_int 1009))) (DL.s_acons (DL.s_cb o_int (DL.s_acons (DL.s_op o_geI (DL.s_var 0) (DL.s_op o_pow (DL.s_int 10) (DL.s_int 18))) DL.s_anil)) DL.s_anil))))))⟩
theorem ok_l_roll (T : Txt K.K mg A) : FnOk P K.w K.K mg base (L2.CX P K.w) 1 A.f_l_roll A.d_l_roll ["dice", "many"] (spD K TB (f_l_roll A)) := by
  exact DL.Fun.ok0 T.F_l_roll sc_l_roll fun cdv ar outer s H E hr => ⟨_, (pss_cons (ps_if (PW.pt (pw_or (pt_cmpR (eqA K.K hr.units) (pe_ix (ixA K.K K.w (room16 hr)) (pv 0) pe_int (fun _ _ => rfl)) pe_int (nomark _)) (pw_or1 (PW.pt (pw_and (pt_cmpR (eqA K.K hr.units) (pe_ix (ixA K.K K.w (room16 hr)) (pv 0) pe_int (fun _ _ => rfl)) pe_int (nomark _)) (pw_and1 (pt_cmpR op_gt (pe_ix (ixA K.K K.w (room16 hr)) (pv 0) pe_int (fun _ _ => rfl)) pe_int (nomark _)))))))) (pss_cons (ps_set (i := 2) sc_l_roll.nd rfl (Or.inl rfl) (pe_op op_mod (pe_callTy int1K (by rfl) T.z_int (by decide +kernel) (pa_cons (pe_ix (ixA K.K K.w (room16 hr)) (pv 0) pe_int (fun _ _ => rfl)) pa_nil)) (pv 1)))
      (pss_cons (ps_asg (pe_op op_fdiv (pe_ix (ixA K.K K.w (room16 hr)) (pv 0) pe_int (fun _ _ => rfl)) (pv 1)) (pg_sub (pv 0) pe_int (setA K.w (room16 hr))))
      (pss_one (ps_ret (pv 2))))) pss_nil)
      (pss_cons (ps_asg pe_int (pg_sub (pv 0) pe_int (setA K.w (room16 hr))))
      (pss_cons (ps_asg (pe_op op_mod (pe_callTy int1K (by rfl) T.z_int (by decide +kernel) (pa_cons (pe_op (addA K.K) (pe_op (addA K.K) (pe_op op_mul (pe_ix (ixA K.K K.w (room16 hr)) (pv 0) pe_int (fun _ _ => rfl)) pe_int) (pe_op op_mul (pe_ix (ixA K.K K.w (room16 hr)) (pv 0) pe_int (fun _ _ => rfl)) pe_int)) pe_int) pa_nil)) pe_int) (pg_sub (pv 0) pe_int (setA K.w (room16 hr))))
      (pss_cons (ps_asg (pe_op (addA K.K) (pe_ix (ixA K.K K.w (room16 hr)) (pv 0) pe_int (fun _ _ => rfl)) pe_int) (pg_sub (pv 0) pe_int (setA K.w (room16 hr))))
      (pss_one (ps_ret (pe_op op_mod (pe_callTy int1K (by rfl) T.z_int (by decide +kernel) (pa_cons (pe_op (addA K.K) (pe_op op_fdiv (pe_ix (ixA K.K K.w (room16 hr)) (pv 0) pe_int (fun _ _ => rfl)) pe_int) (pe_ix (ixA K.K K.w (room16 hr)) (pv 0) pe_int (fun _ _ => rfl))) pa_nil)) (pv 1)))))))),
    (DL.s_seq (DL.s_ifS (DL.s_or (DL.s_tst (DL.s_op o_eq (DL.s_op o_ix (DL.s_var 0) (DL.s_int 2)) (DL.s_int 2))) (DL.s_and (DL.s_tst (DL.s_op o_eq (DL.s_op o_ix (DL.s_var 0) (DL.s_int 2)) (DL.s_int 1))) (DL.s_tst (DL.s_op o_gtI (DL.s_op o_ix (DL.s_var 0) (DL.s_int 0)) (DL.s_int 0))))) (DL.s_seq (DL.s_set 2 (DL.s_op o_mod (DL.s_cb o_int (DL.s_acons (DL.s_op o_ix (DL.s_var 0) (DL.s_int 0)) DL.s_anil)) (DL.s_var 1)))
      (DL.s_seq (DL.s_put (DL.s_op o_fdiv (DL.s_op o_ix (DL.s_var 0) (DL.s_int 0)) (DL.s_var 1)) (DL.s_var 0) (DL.s_int 0))
      (DL.s_ret (DL.s_var 2)))) DL.s_nil)
      (DL.s_seq (DL.s_put (DL.s_int 0) (DL.s_var 0) (DL.s_int 2))
      (DL.s_seq (DL.s_put (DL.s_op o_mod (DL.s_cb o_int (DL.s_acons (DL.s_op o_add (DL.s_op o_add (DL.s_op o_mul (DL.s_op o_ix (DL.s_var 0) (DL.s_int 0)) (DL.s_int 48271)) (DL.s_op o_mul (DL.s_op o_ix (DL.s_var 0) (DL.s_int 1)) (DL.s_int 69621))) (DL.s_int 11)) DL.s_anil)) (DL.s_int 2147483647)) (DL.s_var 0) (DL.s_int 0))
      (DL.s_seq (DL.s_put (DL.s_op o_add (DL.s_op o_ix (DL.s_var 0) (DL.s_int 1)) (DL.s_int 1)) (DL.s_var 0) (DL.s_int 1))
      (DL.s_ret (DL.s_op o_mod (DL.s_cb o_int (DL.s_acons (DL.s_op o_add (DL.s_op o_fdiv (DL.s_op o_ix (DL.s_var 0) (DL.s_int 0)) (DL.s_int 7)) (DL.s_op o_ix (DL.s_var 0) (DL.s_int 0))) DL.s_anil)) (DL.s_var 1)))))))⟩
theorem ok_l_rounds (T : Txt K.K mg A) : FnOk P K.w K.K mg base (L2.CX P K.w) 2 A.f_l_rounds A.d_l_rounds ["script", "most"] (spD K TB (f_l_rounds A)) := by
  have G_l_dice : FnOk P K.w K.K mg base (L2.CX P K.w) 1 A.f_l_dice A.d_l_dice ["cell"] (spD K TB (f_l_dice A)) := ok_l_dice T
  exact DL.Fun.ok0 T.F_l_rounds sc_l_rounds fun cdv ar outer s H E hr => ⟨_, (pss_cons (ps_set (i := 2) sc_l_rounds.nd rfl (Or.inl rfl) (pe_slice (slAll K.K) (pv 0) po_none (po_some (pv 1))))
      (pss_cons (ps_if (pt_cmpR (eqA K.K hr.units) (pv 2) (pe_lst pa_nil) (nomark _)) (pss_one (ps_set (i := 2) sc_l_rounds.nd rfl (Or.inl rfl) (pe_lst (pa_cons pe_int pa_nil)))) pss_nil)
      (pss_one (ps_ret (pe_lc (own := [("cell", 3)]) (by rfl) sc_l_rounds.nd (pi_seq K.K (pv 2)) (blkOk_by (own := [("cell", 3)]) (N := N_l_rounds) (sc := defScope s_l_rounds) (by decide +kernel)) (fun _ _ _ _ _ => (pg_name (i := 3) sc_l_rounds.nd rfl (Or.inl rfl))) (fun _ _ _ _ _ => pts_nil) (fun _ _ _ _ _ => (pe_call G_l_dice (hr.mono (by decide)) (by rfl) T.m_l_dice T.F_l_dice.kp T.b_l_dice .nil passL (pa_cons (pv 3) pa_nil)))))))),
    (DL.s_seq (DL.s_set 2 (DL.s_sl (DL.s_var 0) DL.s_po0 (DL.s_po (DL.s_var 1))))
      (DL.s_seq (DL.s_ifS (DL.s_tst (DL.s_op o_eq (DL.s_var 2) (DL.s_lst DL.s_anil))) (DL.s_set 2 (DL.s_lst (DL.s_acons (DL.s_int 0) DL.s_anil))) DL.s_nil)
      (DL.s_ret (DL.s_lcM (vs := [3]) (DL.s_iS (DL.s_var 2)) (g_name 3 (by decide)) (DL.s_nx (E' := L2.E0) DL.s_yes) (DL.s_nx (E' := L2.E0) (DL.s_call dv_nil (DL.s_acons (DL.s_var 3) DL.s_anil)))))))⟩
theorem ok_l_facts (T : Txt K.K mg A) : FnOk P K.w K.K mg base (L2.CX P K.w) 2 A.f_l_facts A.d_l_facts ["dice"] (spD K TB (f_l_facts A)) := by
  have G_l_roll : FnOk P K.w K.K mg base (L2.CX P K.w) 1 A.f_l_roll A.d_l_roll ["dice", "many"] (spD K TB (f_l_roll A)) := ok_l_roll T
  exact DL.Fun.ok0 T.F_l_facts sc_l_facts fun cdv ar outer s H E hr => ⟨_, (pss_cons (ps_set (i := 1) sc_l_facts.nd rfl (Or.inl rfl) (pe_lst pa_nil))
      (pss_cons (ps_for (passes_of rfl) rfl (pi_range1 (by rfl) T.z_range (pa_cons (pe_call G_l_roll (hr.mono (by decide)) (by rfl) T.m_l_roll T.F_l_roll.kp T.b_l_roll .nil (passes_call (takes_of rfl rfl rfl rfl) (fun _ _ _ _ h => h)) (pa_cons (pv 0) (pa_cons pe_int pa_nil))) pa_nil)) (pg_name (i := 2) sc_l_facts.nd rfl (Or.inl rfl)) (pss_cons (ps_set (i := 3) sc_l_facts.nd rfl (Or.inl rfl) (pe_tup (pa_cons (pe_ix (ixA K.K K.w (room16 hr)) pe_str (pe_call G_l_roll (hr.mono (by decide)) (by rfl) T.m_l_roll T.F_l_roll.kp T.b_l_roll .nil (passes_call (takes_of rfl rfl rfl rfl) (fun _ _ _ _ h => h)) (pa_cons (pv 0) (pa_cons pe_int pa_nil))) (fun _ _ => rfl)) (pa_cons (pe_tup (pa_cons (pe_call G_l_roll (hr.mono (by decide)) (by rfl) T.m_l_roll T.F_l_roll.kp T.b_l_roll .nil (passes_call (takes_of rfl rfl rfl rfl) (fun _ _ _ _ h => h)) (pa_cons (pv 0) (pa_cons pe_int pa_nil))) pa_nil)) pa_nil))))
      (pss_one (ps_set (i := 1) sc_l_facts.nd rfl (Or.inl rfl) (pe_op (addA K.K) (pv 1) (pe_ifExp (pt_cmpR (notInA K.K K.w (room65 hr)) (pv 3) (pv 1) (by rfl)) (pe_lst (pa_cons (pv 3) pa_nil)) (pe_lst pa_nil)))))))
      (pss_one (ps_ret (pv 1))))),
    (DL.s_seq (DL.s_set 1 (DL.s_lst DL.s_anil))
      (DL.s_seq (DL.s_for (vs := [2]) (DL.s_iRg1 (DL.s_acons (DL.s_call dv_nil (DL.s_acons (DL.s_var 0) (DL.s_acons (DL.s_int 6) DL.s_anil))) DL.s_anil)) (g_name 2 (by decide)) (DL.s_seq (DL.s_set 3 (DL.s_tup (DL.s_acons (DL.s_op o_ix (DL.s_str "pq") (DL.s_call dv_nil (DL.s_acons (DL.s_var 0) (DL.s_acons (DL.s_int 2) DL.s_anil)))) (DL.s_acons (DL.s_tup (DL.s_acons (DL.s_call dv_nil (DL.s_acons (DL.s_var 0) (DL.s_acons (DL.s_int 3) DL.s_anil))) DL.s_anil)) DL.s_anil))))
      (DL.s_set 1 (DL.s_op o_add (DL.s_var 1) (DL.s_if (DL.s_tst (DL.s_op o_notIn (DL.s_var 3) (DL.s_var 1))) (DL.s_lst (DL.s_acons (DL.s_var 3) DL.s_anil)) (DL.s_lst DL.s_anil))))))
      (DL.s_ret (DL.s_var 1))))⟩
theorem ok_law (T : Txt K.K mg A) (TBh : LamX.TabB base mg A.cL A.PL) : FnOk P K.w K.K mg base (L2.CX P K.w) 10 A.f_law A.d_law ["script"] (spD K [(A.PL, qL)] (f_law A)) := by
  have G_Changes_init : FnOk P K.w K.K mg base (L2.CX P K.w) 1 A.f_Changes_init A.d_Changes_init ["self"] (spD K [(A.PL, qL)] (f_Changes_init A)) := ok_Changes_init T
  have G_Changes_is_bare : FnOk P K.w K.K mg base (L2.CX P K.w) 2 A.f_Changes_is_bare A.d_Changes_is_bare ["self"] (spD K [(A.PL, qL)] (f_Changes_is_bare A)) := ok_Changes_is_bare T
  have G_Changes_names : FnOk P K.w K.K mg base (L2.CX P K.w) 1 A.f_Changes_names A.d_Changes_names ["self"] (spD K [(A.PL, qL)] (f_Changes_names A)) := ok_Changes_names T
  have G_Changes_note : FnOk P K.w K.K mg base (L2.CX P K.w) 2 A.f_Changes_note A.d_Changes_note ["self", "name", "row", "came"] (spD K [(A.PL, qL)] (f_Changes_note A)) := ok_Changes_note T
  have G_Changes_shown : FnOk P K.w K.K mg base (L2.CX P K.w) 7 A.f_Changes_shown A.d_Changes_shown ["self"] (spD K [(A.PL, qL)] (f_Changes_shown A)) := ok_Changes_shown T
  have G_Changes_turned : FnOk P K.w K.K mg base (L2.CX P K.w) 3 A.f_Changes_turned A.d_Changes_turned ["self"] (spD K [(A.PL, qL)] (f_Changes_turned A)) := ok_Changes_turned T
  have G_Store_shown : FnOk P K.w K.K mg base (L2.CX P K.w) 8 A.f_Store_shown A.d_Store_shown ["self"] (spD K [(A.PL, qL)] (f_Store_shown A)) := ok_Store_shown T
  have G_apart : FnOk P K.w K.K mg base (L2.CX P K.w) 8 A.f_apart A.d_apart ["one", "other"] (spD K [(A.PL, qL)] (f_apart A)) := ok_apart T
  have G_l_facts : FnOk P K.w K.K mg base (L2.CX P K.w) 2 A.f_l_facts A.d_l_facts ["dice"] (spD K [(A.PL, qL)] (f_l_facts A)) := ok_l_facts T
  have G_l_roll : FnOk P K.w K.K mg base (L2.CX P K.w) 1 A.f_l_roll A.d_l_roll ["dice", "many"] (spD K [(A.PL, qL)] (f_l_roll A)) := ok_l_roll T
  have G_l_rounds : FnOk P K.w K.K mg base (L2.CX P K.w) 2 A.f_l_rounds A.d_l_rounds ["script", "most"] (spD K [(A.PL, qL)] (f_l_rounds A)) := ok_l_rounds T
  have G_laid_on : FnOk P K.w K.K mg base (L2.CX P K.w) 4 A.f_laid_on A.d_laid_on ["store", "changes"] (spD K [(A.PL, qL)] (f_laid_on A)) := ok_laid_on T
  have G_store_of : FnOk P K.w K.K mg base (L2.CX P K.w) 4 A.f_store_of A.d_store_of ["facts"] (spD K [(A.PL, qL)] (f_store_of A)) := ok_store_of T
  exact DL.FunC.ok0 T.C_law sc_law fun ar outer s H E hr => ⟨_, (pss_cons (ps_for (passes_of rfl) rfl (pi_seq K.K (pe_call G_l_rounds (hr.mono (by decide)) (by rfl) T.m_l_rounds T.F_l_rounds.kp T.b_l_rounds .nil (passes_call (takes_of rfl rfl rfl rfl) (fun _ _ _ _ h => h)) (pa_cons (pv 0) (pa_cons pe_int pa_nil)))) (pg_name (i := 1) sc_law.nd rfl (Or.inl rfl)) (pss_cons (ps_asg (pe_tup (pa_cons (pe_make0 T.M_Changes G_Changes_init (hr.mono (by decide)) (by rfl) T.m_Changes T.b_Changes_init .nil (passes_call (takes_of rfl rfl rfl rfl) (fun _ _ _ _ h => h))) (pa_cons pe_dnewK pa_nil))) (tupK K.K (n := 2) rfl (pgs_cons (pg_name (i := 2) sc_law.nd rfl (Or.inr rfl)) (pgs_cons (pg_name (i := 3) sc_law.nd rfl (Or.inr rfl)) pgs_nil))))
      (pss_cons (ps_for (passes_of rfl) rfl (pi_range1 (by rfl) T.z_range (pa_cons (pe_call G_l_roll (hr.mono (by decide)) (by rfl) T.m_l_roll T.F_l_roll.kp T.b_l_roll .nil (passes_call (takes_of rfl rfl rfl rfl) (fun _ _ _ _ h => h)) (pa_cons (pv 1) (pa_cons pe_int pa_nil))) pa_nil)) (pg_name (i := 4) sc_law.nd rfl (Or.inl rfl)) (pss_cons (ps_par (i := 5) (j := 6) (by rfl) sc_law.nd rfl rfl (by decide) rfl rfl (pa_cons (pe_tup (pa_cons (pe_ix (ixA K.K K.w (room16 hr)) pe_str (pe_call G_l_roll (hr.mono (by decide)) (by rfl) T.m_l_roll T.F_l_roll.kp T.b_l_roll .nil (passes_call (takes_of rfl rfl rfl rfl) (fun _ _ _ _ h => h)) (pa_cons (pv 1) (pa_cons pe_int pa_nil))) (fun _ _ => rfl)) (pa_cons (pe_tup (pa_cons (pe_call G_l_roll (hr.mono (by decide)) (by rfl) T.m_l_roll T.F_l_roll.kp T.b_l_roll .nil (passes_call (takes_of rfl rfl rfl rfl) (fun _ _ _ _ h => h)) (pa_cons (pv 1) (pa_cons pe_int pa_nil))) pa_nil)) pa_nil))) (pa_cons (pe_cmpR (eqA K.K hr.units) (pe_call G_l_roll (hr.mono (by decide)) (by rfl) T.m_l_roll T.F_l_roll.kp T.b_l_roll .nil (passes_call (takes_of rfl rfl rfl rfl) (fun _ _ _ _ h => h)) (pa_cons (pv 1) (pa_cons pe_int pa_nil))) pe_int (nomark _)) pa_nil)) (by rfl))
      (pss_cons (ps_expr (pe_meth (pv 2) T.cl_Changes T.e_Changes_note G_Changes_note (hr.mono (by decide)) T.b_Changes_note .nil (passes_call (takes_of rfl rfl rfl rfl) (fun _ _ _ _ h => h)) (pa_cons (pe_ix (ixA K.K K.w (room16 hr)) (pv 5) pe_int (fun _ _ => rfl)) (pa_cons (pe_ix (ixA K.K K.w (room16 hr)) (pv 5) pe_int (fun _ _ => rfl)) (pa_cons (pv 6) pa_nil)))))
      (pss_one (ps_if (pt_cmpR (eqA K.K hr.units) (pe_am K.K K.w PySem.F.plainAttrs_dict PySem.F.slot_dict_get PySem.F.type_dict_get (mtGet K.w (room16 hr)) (pv 3) (pa_cons (pv 5) (pa_cons (pv 6) pa_nil))) (pv 6) (nomark _)) (pss_one (ps_asg (pv 6) (pg_sub (pv 3) (pv 5) (setA K.w (room16 hr))))) (pss_one (ps_expr (pe_am K.K K.w PySem.F.plainAttrs_dict PySem.F.slot_dict_pop PySem.F.type_dict_pop (mtDPop K.w (room16 hr)) (pv 3) (pa_cons (pv 5) pa_nil)))))))))
      (pss_cons (ps_set (i := 7) sc_law.nd rfl (Or.inl rfl) (pe_lst pa_nil))
      (pss_cons (ps_for (passes_of rfl) rfl (pi_seq K.K pe_str) (pg_name (i := 8) sc_law.nd rfl (Or.inr rfl)) (pss_cons (ps_set (i := 6) sc_law.nd rfl (Or.inl rfl) (pe_callB (sortA K.K K.w hr.units) (by rfl) T.z_sorted (by decide +kernel) (pa_cons (pe_unl (pe_lc (own := [("one", 10), ("row", 19)]) (by rfl) sc_law.nd (pi_keysL K.w (pv 3)) (blkOk_by (own := [("one", 10), ("row", 19)]) (N := N_law) (sc := defScope s_law) (by decide +kernel)) (fun _ _ _ _ _ => (tupK K.K (n := 2) rfl (pgs_cons (pg_name (i := 10) sc_law.nd rfl (Or.inl rfl)) (pgs_cons (pg_name (i := 19) sc_law.nd rfl (Or.inl rfl)) pgs_nil)))) (fun _ _ _ _ _ => (pts_one (PW.pt (pw_and (pt_cmpR (eqA K.K hr.units) (pv 10) (pv 8) (nomark _)) (pw_and1 (pt_val (pe_ix (ixA K.K K.w (room16 hr)) (pv 3) (pe_tup (pa_cons (pv 10) (pa_cons (pv 19) pa_nil))) (fun _ _ => rfl)))))))) (fun _ _ _ _ _ => (pv 19)))) pa_nil)))
      (pss_cons (ps_set (i := 9) sc_law.nd rfl (Or.inl rfl) (pe_callB (sortA K.K K.w hr.units) (by rfl) T.z_sorted (by decide +kernel) (pa_cons (pe_unl (pe_lc (own := [("one", 10), ("row", 19)]) (by rfl) sc_law.nd (pi_keysL K.w (pv 3)) (blkOk_by (own := [("one", 10), ("row", 19)]) (N := N_law) (sc := defScope s_law) (by decide +kernel)) (fun _ _ _ _ _ => (tupK K.K (n := 2) rfl (pgs_cons (pg_name (i := 10) sc_law.nd rfl (Or.inl rfl)) (pgs_cons (pg_name (i := 19) sc_law.nd rfl (Or.inl rfl)) pgs_nil)))) (fun _ _ _ _ _ => (pts_one (PW.pt (pw_and (pt_cmpR (eqA K.K hr.units) (pv 10) (pv 8) (nomark _)) (pw_and1 (pt_not (pt_val (pe_ix (ixA K.K K.w (room16 hr)) (pv 3) (pe_tup (pa_cons (pv 10) (pa_cons (pv 19) pa_nil))) (fun _ _ => rfl))))))))) (fun _ _ _ _ _ => (pv 19)))) pa_nil)))
      (pss_one (ps_set (i := 7) sc_law.nd rfl (Or.inl rfl) (pe_op (addA K.K) (pv 7) (pe_ifExp (pt_cmpR (neA K.K hr.units) (pe_op (addA K.K) (pv 6) (pv 9)) (pe_lst pa_nil) (nomark _)) (pe_lst (pa_cons (pe_tup (pa_cons (pv 8) (pa_cons (pe_callTy (tupA K.K K.w) (by rfl) T.z_tuple (by decide +kernel) (pa_cons (pv 6) pa_nil)) (pa_cons (pe_callTy (tupA K.K K.w) (by rfl) T.z_tuple (by decide +kernel) (pa_cons (pv 9) pa_nil)) pa_nil)))) pa_nil)) (pe_lst pa_nil))))))))
      (pss_cons (ps_if (PW.pt (pw_or (pt_cmpR (neA K.K hr.units) (pe_meth0 (pv 2) T.cl_Changes T.e_Changes_shown G_Changes_shown (hr.mono (by decide)) T.b_Changes_shown .nil (passes_call (takes_of rfl rfl rfl rfl) (fun _ _ _ _ h => h))) (pe_callTy (tupA K.K K.w) (by rfl) T.z_tuple (by decide +kernel) (pa_cons (pv 7) pa_nil)) (nomark _)) (pw_or (pt_cmpR (neA K.K hr.units) (pe_meth0 (pv 2) T.cl_Changes T.e_Changes_is_bare G_Changes_is_bare (hr.mono (by decide)) T.b_Changes_is_bare .nil (passes_call (takes_of rfl rfl rfl rfl) (fun _ _ _ _ h => h))) (pe_cmpR (eqA K.K hr.units) (pv 7) (pe_lst pa_nil) (nomark _)) (nomark _)) (pw_or1 (pt_cmpR (neA K.K hr.units) (pe_meth0 (pv 2) T.cl_Changes T.e_Changes_names G_Changes_names (hr.mono (by decide)) T.b_Changes_names .nil (passes_call (takes_of rfl rfl rfl rfl) (fun _ _ _ _ h => h))) (pe_callTy (tupA K.K K.w) (by rfl) T.z_tuple (by decide +kernel) (pa_cons (pe_lc (own := [("one", 10)]) (by rfl) sc_law.nd (pi_seq K.K (pv 7)) (blkOk_by (own := [("one", 10)]) (N := N_law) (sc := defScope s_law) (by decide +kernel)) (fun _ _ _ _ _ => (pg_name (i := 10) sc_law.nd rfl (Or.inl rfl))) (fun _ _ _ _ _ => pts_nil) (fun _ _ _ _ _ => (pe_ix (ixA K.K K.w (room16 hr)) (pv 10) pe_int (fun _ _ => rfl)))) pa_nil)) (nomark _)))))) (pss_one (ps_ret pe_bl)) pss_nil)
      (pss_cons (ps_if (pt_cmpR (neA K.K hr.units) (pe_meth0 (pe_meth0 (pv 2) T.cl_Changes T.e_Changes_turned G_Changes_turned (hr.mono (by decide)) T.b_Changes_turned .nil (passes_call (takes_of rfl rfl rfl rfl) (fun _ _ _ _ h => h))) T.cl_Changes T.e_Changes_shown G_Changes_shown (hr.mono (by decide)) T.b_Changes_shown .nil (passes_call (takes_of rfl rfl rfl rfl) (fun _ _ _ _ h => h))) (pe_callTy (tupA K.K K.w) (by rfl) T.z_tuple (by decide +kernel) (pa_cons (pe_lc (own := [("name", 8), ("came", 6), ("went", 9)]) (by rfl) sc_law.nd (pi_seq K.K (pv 7)) (blkOk_by (own := [("name", 8), ("came", 6), ("went", 9)]) (N := N_law) (sc := defScope s_law) (by decide +kernel)) (fun _ _ _ _ _ => (tupK K.K (n := 3) rfl (pgs_cons (pg_name (i := 8) sc_law.nd rfl (Or.inl rfl)) (pgs_cons (pg_name (i := 6) sc_law.nd rfl (Or.inl rfl)) (pgs_cons (pg_name (i := 9) sc_law.nd rfl (Or.inl rfl)) pgs_nil))))) (fun _ _ _ _ _ => pts_nil) (fun _ _ _ _ _ => (pe_tup (pa_cons (pv 8) (pa_cons (pv 9) (pa_cons (pv 6) pa_nil)))))) pa_nil)) (nomark _)) (pss_one (ps_ret pe_bl)) pss_nil)
      (pss_cons (ps_asg (pe_tup (pa_cons (pe_call G_l_facts (hr.mono (by decide)) (by rfl) T.m_l_facts T.F_l_facts.kp T.b_l_facts .nil (passes_call (takes_of rfl rfl rfl rfl) (fun _ _ _ _ h => h)) (pa_cons (pv 1) pa_nil)) (pa_cons (pe_call G_l_facts (hr.mono (by decide)) (by rfl) T.m_l_facts T.F_l_facts.kp T.b_l_facts .nil (passes_call (takes_of rfl rfl rfl rfl) (fun _ _ _ _ h => h)) (pa_cons (pv 1) pa_nil)) pa_nil))) (tupK K.K (n := 2) rfl (pgs_cons (pg_name (i := 10) sc_law.nd rfl (Or.inr rfl)) (pgs_cons (pg_name (i := 11) sc_law.nd rfl (Or.inl rfl)) pgs_nil))))
      (pss_cons (ps_asg (pe_tup (pa_cons (pe_call G_store_of (hr.mono (by decide)) (by rfl) T.m_store_of T.F_store_of.kp T.b_store_of .nil (passes_call (takes_of rfl rfl rfl rfl) (fun _ _ _ _ h => h)) (pa_cons (pv 10) pa_nil)) (pa_cons (pe_call G_store_of (hr.mono (by decide)) (by rfl) T.m_store_of T.F_store_of.kp T.b_store_of .nil (passes_call (takes_of rfl rfl rfl rfl) (fun _ _ _ _ h => h)) (pa_cons (pv 11) pa_nil)) pa_nil))) (tupK K.K (n := 2) rfl (pgs_cons (pg_name (i := 12) sc_law.nd rfl (Or.inr rfl)) (pgs_cons (pg_name (i := 13) sc_law.nd rfl (Or.inl rfl)) pgs_nil))))
      (pss_cons (ps_set (i := 14) sc_law.nd rfl (Or.inl rfl) (pe_call G_apart (hr.mono (by decide)) (by rfl) T.m_apart T.F_apart.kp T.b_apart .nil (passes_call (takes_of rfl rfl rfl rfl) (fun _ _ _ _ h => h)) (pa_cons (pv 12) (pa_cons (pv 13) pa_nil))))
      (pss_cons (ps_set (i := 15) sc_law.nd rfl (Or.inl rfl) (pe_meth0 (pv 14) T.cl_Changes T.e_Changes_turned G_Changes_turned (hr.mono (by decide)) T.b_Changes_turned .nil (passes_call (takes_of rfl rfl rfl rfl) (fun _ _ _ _ h => h))))
      (pss_cons (ps_expr (pe_call G_laid_on (hr.mono (by decide)) (by rfl) T.m_laid_on T.F_laid_on.kp T.b_laid_on .nil (passes_call (takes_of rfl rfl rfl rfl) (fun _ _ _ _ h => h)) (pa_cons (pv 12) (pa_cons (pv 14) pa_nil))))
      (pss_cons (ps_if (pt_cmpR (neA K.K hr.units) (pe_meth0 (pv 12) T.cl_Store T.e_Store_shown G_Store_shown (hr.mono (by decide)) T.b_Store_shown .nil (passes_call (takes_of rfl rfl rfl rfl) (fun _ _ _ _ h => h))) (pe_meth0 (pv 13) T.cl_Store T.e_Store_shown G_Store_shown (hr.mono (by decide)) T.b_Store_shown .nil (passes_call (takes_of rfl rfl rfl rfl) (fun _ _ _ _ h => h))) (nomark _)) (pss_one (ps_ret pe_bl)) pss_nil)
      (pss_cons (ps_expr (pe_call G_laid_on (hr.mono (by decide)) (by rfl) T.m_laid_on T.F_laid_on.kp T.b_laid_on .nil (passes_call (takes_of rfl rfl rfl rfl) (fun _ _ _ _ h => h)) (pa_cons (pv 12) (pa_cons (pv 15) pa_nil))))
      (pss_cons (ps_if (pt_cmpR (neA K.K hr.units) (pe_meth0 (pv 12) T.cl_Store T.e_Store_shown G_Store_shown (hr.mono (by decide)) T.b_Store_shown .nil (passes_call (takes_of rfl rfl rfl rfl) (fun _ _ _ _ h => h))) (pe_meth0 (pe_call G_store_of (hr.mono (by decide)) (by rfl) T.m_store_of T.F_store_of.kp T.b_store_of .nil (passes_call (takes_of rfl rfl rfl rfl) (fun _ _ _ _ h => h)) (pa_cons (pv 10) pa_nil)) T.cl_Store T.e_Store_shown G_Store_shown (hr.mono (by decide)) T.b_Store_shown .nil (passes_call (takes_of rfl rfl rfl rfl) (fun _ _ _ _ h => h))) (nomark _)) (pss_one (ps_ret pe_bl)) pss_nil)
      (pss_cons (ps_set (i := 16) sc_law.nd rfl (Or.inl rfl) (pe_cmpR (neA K.K hr.units) (pe_unl (pe_lc (own := [("key", 20)]) (by rfl) sc_law.nd (pi_keysL K.w (pv 3)) (blkOk_by (own := [("key", 20)]) (N := N_law) (sc := defScope s_law) (by decide +kernel)) (fun _ _ _ _ _ => (pg_name (i := 20) sc_law.nd rfl (Or.inl rfl))) (fun _ _ _ _ _ => (pts_one (pt_cmpR (eqA K.K hr.units) (pe_ix (ixA K.K K.w (room16 hr)) (pv 3) (pv 20) (fun _ _ => rfl)) (pe_cmpR (inA K.K K.w (room65 hr)) (pv 20) (pv 10) (by rfl)) (nomark _)))) (fun _ _ _ _ _ => (pv 20)))) (pe_lst pa_nil) (nomark _)))
      (pss_cons (ps_set (i := 17) sc_law.nd rfl (Or.inl rfl) (pe_told T (by rfl) (by rfl) TBh (by rfl) (by rfl) (by rfl) (k := 4) (hr.mono (by decide)) (LamX.lamS_by (by rfl)) (by rfl) (fun _ _ _ _ _ => (by rfl)) (fun A' outer s H E f c' hr => (pe_call G_laid_on (hr.mono (by decide)) (by rfl) T.m_laid_on T.F_laid_on.kp T.b_laid_on .nil (passes_call (takes_of rfl rfl rfl rfl) (fun _ _ _ _ h => h)) (pa_cons (pv 12) (pa_cons (pv 2) pa_nil))))))
      (pss_cons (ps_set (i := 18) sc_law.nd rfl (Or.inl rfl) (pe_op (addA K.K) (pe_lc (own := [("fact", 5)]) (by rfl) sc_law.nd (pi_seq K.K (pv 10)) (blkOk_by (own := [("fact", 5)]) (N := N_law) (sc := defScope s_law) (by decide +kernel)) (fun _ _ _ _ _ => (pg_name (i := 5) sc_law.nd rfl (Or.inl rfl))) (fun _ _ _ _ _ => (pts_one (pt_cmpR (notInA K.K K.w (room65 hr)) (pv 5) (pv 3) (by rfl)))) (fun _ _ _ _ _ => (pv 5))) (pe_unl (pe_lc (own := [("key", 20)]) (by rfl) sc_law.nd (pi_keysL K.w (pv 3)) (blkOk_by (own := [("key", 20)]) (N := N_law) (sc := defScope s_law) (by decide +kernel)) (fun _ _ _ _ _ => (pg_name (i := 20) sc_law.nd rfl (Or.inl rfl))) (fun _ _ _ _ _ => (pts_one (pt_val (pe_ix (ixA K.K K.w (room16 hr)) (pv 3) (pv 20) (fun _ _ => rfl))))) (fun _ _ _ _ _ => (pv 20))))))
      (pss_one (ps_if (PW.pt (pw_or (pt_cmpR (neA K.K hr.units) (pv 17) (pe_ifExp (pt_val (pv 16)) pe_str pe_non) (nomark _)) (pw_or1 (pt_cmpR (neA K.K hr.units) (pe_meth0 (pv 12) T.cl_Store T.e_Store_shown G_Store_shown (hr.mono (by decide)) T.b_Store_shown .nil (passes_call (takes_of rfl rfl rfl rfl) (fun _ _ _ _ h => h))) (pe_meth0 (pe_call G_store_of (hr.mono (by decide)) (by rfl) T.m_store_of T.F_store_of.kp T.b_store_of .nil (passes_call (takes_of rfl rfl rfl rfl) (fun _ _ _ _ h => h)) (pa_cons (pe_ifExp (pt_val (pv 16)) (pv 10) (pv 18)) pa_nil)) T.cl_Store T.e_Store_shown G_Store_shown (hr.mono (by decide)) T.b_Store_shown .nil (passes_call (takes_of rfl rfl rfl rfl) (fun _ _ _ _ h => h))) (nomark _))))) (pss_one (ps_ret pe_bl)) pss_nil))))))))))))))))))))
      (pss_one (ps_ret pe_bl))),
    (DL.s_seq (DL.s_for (vs := [1]) (DL.s_iS (DL.s_call dv_nil (DL.s_acons (DL.s_var 0) (DL.s_acons (DL.s_int 1) DL.s_anil)))) (g_name 1 (by decide)) (DL.s_seq (DL.s_asgT (vs := [2, 3]) (DL.s_acons (DL.s_makeM T.cl_Changes dv_nil DL.s_anil) (DL.s_acons DL.s_dnewM DL.s_anil)) (gs_cons (g_name 2 (by decide)) (gs_cons (g_name 3 (by decide)) gs_nil)))
      (DL.s_seq (DL.s_for (vs := [4]) (DL.s_iRg1 (DL.s_acons (DL.s_call dv_nil (DL.s_acons (DL.s_var 1) (DL.s_acons (DL.s_int 11) DL.s_anil))) DL.s_anil)) (g_name 4 (by decide)) (DL.s_seq (DL.s_par (DL.s_acons (DL.s_tup (DL.s_acons (DL.s_op o_ix (DL.s_str "pq") (DL.s_call dv_nil (DL.s_acons (DL.s_var 1) (DL.s_acons (DL.s_int 2) DL.s_anil)))) (DL.s_acons (DL.s_tup (DL.s_acons (DL.s_call dv_nil (DL.s_acons (DL.s_var 1) (DL.s_acons (DL.s_int 3) DL.s_anil))) DL.s_anil)) DL.s_anil))) (DL.s_acons (DL.s_op o_eq (DL.s_call dv_nil (DL.s_acons (DL.s_var 1) (DL.s_acons (DL.s_int 2) DL.s_anil))) (DL.s_int 0)) DL.s_anil)))
      (DL.s_seq (DL.s_expr (DL.s_meth dv_nil (DL.s_var 2) (DL.s_acons (DL.s_op o_ix (DL.s_var 5) (DL.s_int 0)) (DL.s_acons (DL.s_op o_ix (DL.s_var 5) (DL.s_int 1)) (DL.s_acons (DL.s_var 6) DL.s_anil)))))
      (DL.s_ifS (DL.s_tst (DL.s_op o_eq (DL.s_mt ty_dct m_get (DL.s_var 3) (DL.s_acons (DL.s_var 5) (DL.s_acons (DL.s_var 6) DL.s_anil))) (DL.s_var 6))) (DL.s_put (DL.s_var 6) (DL.s_var 3) (DL.s_var 5)) (DL.s_expr (DL.s_mt ty_dct m_dpop (DL.s_var 3) (DL.s_acons (DL.s_var 5) DL.s_anil)))))))
      (DL.s_seq (DL.s_set 7 (DL.s_lst DL.s_anil))
      (DL.s_seq (DL.s_for (vs := [8]) (DL.s_iS (DL.s_str "pq")) (g_name 8 (by decide)) (DL.s_seq (DL.s_set 6 (DL.s_cb o_sort (DL.s_acons (DL.s_lcK (vs := [10, 19]) (DL.s_var 3) (g_tup (gs_cons (g_name 10 (by decide)) (gs_cons (g_name 19 (by decide)) gs_nil))) (DL.s_nx (E' := L2.E0) (DL.s_and (DL.s_tst (DL.s_op o_eq (DL.s_var 10) (DL.s_var 8))) (DL.s_tstB (DL.s_op o_ix (DL.s_var 3) (DL.s_tup (DL.s_acons (DL.s_var 10) (DL.s_acons (DL.s_var 19) DL.s_anil))))))) (DL.s_nx (E' := L2.E0) (DL.s_var 19))) DL.s_anil)))
      (DL.s_seq (DL.s_set 9 (DL.s_cb o_sort (DL.s_acons (DL.s_lcK (vs := [10, 19]) (DL.s_var 3) (g_tup (gs_cons (g_name 10 (by decide)) (gs_cons (g_name 19 (by decide)) gs_nil))) (DL.s_nx (E' := L2.E0) (DL.s_and (DL.s_tst (DL.s_op o_eq (DL.s_var 10) (DL.s_var 8))) (DL.s_not (DL.s_tstB (DL.s_op o_ix (DL.s_var 3) (DL.s_tup (DL.s_acons (DL.s_var 10) (DL.s_acons (DL.s_var 19) DL.s_anil)))))))) (DL.s_nx (E' := L2.E0) (DL.s_var 19))) DL.s_anil)))
      (DL.s_set 7 (DL.s_op o_add (DL.s_var 7) (DL.s_if (DL.s_tst (DL.s_op o_ne (DL.s_op o_add (DL.s_var 6) (DL.s_var 9)) (DL.s_lst DL.s_anil))) (DL.s_lst (DL.s_acons (DL.s_tup (DL.s_acons (DL.s_var 8) (DL.s_acons (DL.s_cb o_tup (DL.s_acons (DL.s_var 6) DL.s_anil)) (DL.s_acons (DL.s_cb o_tup (DL.s_acons (DL.s_var 9) DL.s_anil)) DL.s_anil)))) DL.s_anil)) (DL.s_lst DL.s_anil)))))))
      (DL.s_seq (DL.s_ifS (DL.s_or (DL.s_tst (DL.s_op o_ne (DL.s_meth dv_nil (DL.s_var 2) DL.s_anil) (DL.s_cb o_tup (DL.s_acons (DL.s_var 7) DL.s_anil)))) (DL.s_or (DL.s_tst (DL.s_op o_ne (DL.s_meth dv_nil (DL.s_var 2) DL.s_anil) (DL.s_op o_eq (DL.s_var 7) (DL.s_lst DL.s_anil)))) (DL.s_tst (DL.s_op o_ne (DL.s_meth dv_nil (DL.s_var 2) DL.s_anil) (DL.s_cb o_tup (DL.s_acons (DL.s_lc (vs := [10]) (DL.s_iS (DL.s_var 7)) (g_name 10 (by decide)) (DL.s_nx (E' := L2.E0) DL.s_yes) (DL.s_nx (E' := L2.E0) (DL.s_op o_ix (DL.s_var 10) (DL.s_int 0)))) DL.s_anil)))))) (DL.s_ret (DL.s_bl false)) DL.s_nil)
      (DL.s_seq (DL.s_ifS (DL.s_tst (DL.s_op o_ne (DL.s_meth dv_nil (DL.s_meth dv_nil (DL.s_var 2) DL.s_anil) DL.s_anil) (DL.s_cb o_tup (DL.s_acons (DL.s_lc (vs := [8, 6, 9]) (DL.s_iS (DL.s_var 7)) (g_tup (gs_cons (g_name 8 (by decide)) (gs_cons (g_name 6 (by decide)) (gs_cons (g_name 9 (by decide)) gs_nil)))) (DL.s_nx (E' := L2.E0) DL.s_yes) (DL.s_nx (E' := L2.E0) (DL.s_tup (DL.s_acons (DL.s_var 8) (DL.s_acons (DL.s_var 9) (DL.s_acons (DL.s_var 6) DL.s_anil)))))) DL.s_anil)))) (DL.s_ret (DL.s_bl false)) DL.s_nil)
      (DL.s_seq (DL.s_asgT (vs := [10, 11]) (DL.s_acons (DL.s_call dv_nil (DL.s_acons (DL.s_var 1) DL.s_anil)) (DL.s_acons (DL.s_call dv_nil (DL.s_acons (DL.s_var 1) DL.s_anil)) DL.s_anil)) (gs_cons (g_name 10 (by decide)) (gs_cons (g_name 11 (by decide)) gs_nil)))
      (DL.s_seq (DL.s_asgT (vs := [12, 13]) (DL.s_acons (DL.s_call dv_nil (DL.s_acons (DL.s_var 10) DL.s_anil)) (DL.s_acons (DL.s_call dv_nil (DL.s_acons (DL.s_var 11) DL.s_anil)) DL.s_anil)) (gs_cons (g_name 12 (by decide)) (gs_cons (g_name 13 (by decide)) gs_nil)))
      (DL.s_seq (DL.s_set 14 (DL.s_call dv_nil (DL.s_acons (DL.s_var 12) (DL.s_acons (DL.s_var 13) DL.s_anil))))
      (DL.s_seq (DL.s_set 15 (DL.s_meth dv_nil (DL.s_var 14) DL.s_anil))
      (DL.s_seq (DL.s_expr (DL.s_call dv_nil (DL.s_acons (DL.s_var 12) (DL.s_acons (DL.s_var 14) DL.s_anil))))
      (DL.s_seq (DL.s_ifS (DL.s_tst (DL.s_op o_ne (DL.s_meth dv_nil (DL.s_var 12) DL.s_anil) (DL.s_meth dv_nil (DL.s_var 13) DL.s_anil))) (DL.s_ret (DL.s_bl false)) DL.s_nil)
      (DL.s_seq (DL.s_expr (DL.s_call dv_nil (DL.s_acons (DL.s_var 12) (DL.s_acons (DL.s_var 15) DL.s_anil))))
      (DL.s_seq (DL.s_ifS (DL.s_tst (DL.s_op o_ne (DL.s_meth dv_nil (DL.s_var 12) DL.s_anil) (DL.s_meth dv_nil (DL.s_call dv_nil (DL.s_acons (DL.s_var 10) DL.s_anil)) DL.s_anil))) (DL.s_ret (DL.s_bl false)) DL.s_nil)
      (DL.s_seq (DL.s_set 16 (DL.s_op o_ne (DL.s_lcK (vs := [20]) (DL.s_var 3) (g_name 20 (by decide)) (DL.s_nx (E' := L2.E0) (DL.s_tst (DL.s_op o_eq (DL.s_op o_ix (DL.s_var 3) (DL.s_var 20)) (DL.s_op o_in (DL.s_var 20) (DL.s_var 10))))) (DL.s_nx (E' := L2.E0) (DL.s_var 20))) (DL.s_lst DL.s_anil)))
      (DL.s_seq (DL.s_set 17 (DL.s_told (tl_ok T) fun E' => (DL.s_call dv_nil (DL.s_acons (DL.s_var 12) (DL.s_acons (DL.s_var 2) DL.s_anil)))))
      (DL.s_seq (DL.s_set 18 (DL.s_op o_add (DL.s_lc (vs := [5]) (DL.s_iS (DL.s_var 10)) (g_name 5 (by decide)) (DL.s_nx (E' := L2.E0) (DL.s_tst (DL.s_op o_notIn (DL.s_var 5) (DL.s_var 3)))) (DL.s_nx (E' := L2.E0) (DL.s_var 5))) (DL.s_lcK (vs := [20]) (DL.s_var 3) (g_name 20 (by decide)) (DL.s_nx (E' := L2.E0) (DL.s_tstB (DL.s_op o_ix (DL.s_var 3) (DL.s_var 20)))) (DL.s_nx (E' := L2.E0) (DL.s_var 20)))))
      (DL.s_ifS (DL.s_or (DL.s_tst (DL.s_op o_ne (DL.s_var 17) (DL.s_if (DL.s_tstB (DL.s_var 16)) (DL.s_str "no such") DL.s_non))) (DL.s_tst (DL.s_op o_ne (DL.s_meth dv_nil (DL.s_var 12) DL.s_anil) (DL.s_meth dv_nil (DL.s_call dv_nil (DL.s_acons (DL.s_if (DL.s_tstB (DL.s_var 16)) (DL.s_var 10) (DL.s_var 18)) DL.s_anil)) DL.s_anil)))) (DL.s_ret (DL.s_bl false)) DL.s_nil)))))))))))))))))))
      (DL.s_ret (DL.s_bl true)))⟩
end
end Toy

set_option Elab.async false
set_option linter.all false
set_option maxRecDepth 100000
set_option maxHeartbeats 4000000
namespace Toy
open PySem L2 DL
/-! ## rules of reckoning on data -/
theorem setIx_l {W : Ms} {n : Nat} {l : List Vl} {k : Int} {v : Vl} (h : W[n]? = some (.lst l)) {j : Nat} (hj : ixN l.length k = some j) : setIx W (.mu n) (.d (.int k)) v = some (W.set n (.lst (l.set j v))) := by
  simp [setIx, h, hj]
def Dc (m : M) : Prop := ∃ a b c : Int, m = .lst [.d (.int a), .d (.int b), .d (.int c)]
theorem roll (A : Ad) {m : M} (hm : Dc m) (R : Ms) {k : Int} (h0 : 0 < k) (h1 : k < 1000) : ∃ r m', 0 ≤ r ∧ r < k ∧ Dc m' ∧ f_l_roll A [.mu 0, .d (.int k)] (m :: R) = .ok (.d (.int r)) (m' :: R) := by
  obtain ⟨a, b, c, rfl⟩ := hm
  have k1 : CDiv a k := ⟨h0, by omega⟩
  by_cases hc : c = 2 ∨ (c = 1 ∧ 0 < a)
  · refine ⟨a % k, .lst [.d (.int (a / k)), .d (.int b), .d (.int c)], Int.emod_nonneg _ (by omega), Int.emod_lt_of_pos _ h0, ⟨_, _, _, rfl⟩, ?_⟩
    rcases hc with rfl | ⟨rfl, ha⟩
    · simp [f_l_roll, run0, b_l_roll, startE, sSeq, sIf, tstOr, tstAnd, tstV, eOp, eVar, eC, eCB, aCons, aNil, sSet, sPut, sRet, ixD, dctOf, seqOf, lstOf, atI, intOf, eqD_int, blOf, intD, modD, arC, fdivD, mulD, addD, gtI, arI, setIx, ixN, h0, k1]
    · simp [f_l_roll, run0, b_l_roll, startE, sSeq, sIf, tstOr, tstAnd, tstV, eOp, eVar, eC, eCB, aCons, aNil, sSet, sPut, sRet, ixD, dctOf, seqOf, lstOf, atI, intOf, eqD_int, blOf, intD, modD, arC, fdivD, mulD, addD, gtI, arI, setIx, ixN, h0, k1, ha]
  · have hc1 : ¬ c = 2 := fun z => hc (.inl z)
    have hc2 : c = 1 → ¬ 0 < a := fun z y => hc (.inr ⟨z, y⟩)
    have m1 : CMul a 48271 := .inr (by omega)
    have m2 : CMul b 69621 := .inr (by omega)
    have e : f_l_roll A [.mu 0, .d (.int k)] (M.lst [.d (.int a), .d (.int b), .d (.int c)] :: R) = .ok (.d (.int (((a * 48271 + b * 69621 + 11) % 2147483647 / 7 + (a * 48271 + b * 69621 + 11) % 2147483647) % k))) (M.lst [.d (.int ((a * 48271 + b * 69621 + 11) % 2147483647)), .d (.int (b + 1)), .d (.int 0)] :: R) := by
      have k2 : CDiv ((a * 48271 + b * 69621 + 11) % 2147483647) 7 := ⟨by omega, by omega⟩
      by_cases hd : c = 1
      · simp [f_l_roll, run0, b_l_roll, startE, sSeq, sIf, tstOr, tstAnd, tstV, eOp, eVar, eC, eCB, aCons, aNil, sSet, sPut, sRet, ixD, dctOf, seqOf, lstOf, atI, intOf, eqD_int, blOf, intD, modD, arC, fdivD, mulD, addD, gtI, arI, setIx, ixN, h0, k1, hc1, hd, hc2 hd, m1, m2, k2, sNil]
      · simp [f_l_roll, run0, b_l_roll, startE, sSeq, sIf, tstOr, tstAnd, tstV, eOp, eVar, eC, eCB, aCons, aNil, sSet, sPut, sRet, ixD, dctOf, seqOf, lstOf, atI, intOf, eqD_int, blOf, intD, modD, arC, fdivD, mulD, addD, gtI, arI, setIx, ixN, h0, k1, hc1, hd, m1, m2, k2, sNil]
    exact ⟨_, _, Int.emod_nonneg _ (by omega), Int.emod_lt_of_pos _ h0, ⟨_, _, _, rfl⟩, e⟩
end Toy

set_option Elab.async false
set_option linter.all false
set_option maxRecDepth 100000
set_option maxHeartbeats 4000000
namespace Toy
open PySem L2 DL
/-! ## names, rows; dicts of rows; tables of them -/
def okN (n : Str) : Prop := n = "p" ∨ n = "q"
@[simp] theorem ne_pq : ¬ (("p" : Str) = "q") := by decide +kernel
@[simp] theorem ne_qp : ¬ (("q" : Str) = "p") := by decide +kernel
def rw3 : List D := [.tup [.int 0], .tup [.int 1], .tup [.int 2]]
structure okL3 (l : List D) : Prop where
  s : ∀ r ∈ l, r ∈ rw3
  d : l.Nodup
theorem key3 : ∀ r ∈ rw3, keyOk r = true ∧ isTupD r = true := by decide +kernel
theorem nodup_le {α : Type} [DecidableEq α] : ∀ (m l : List α), l.Nodup → (∀ x ∈ l, x ∈ m) → l.length ≤ m.length
  | m, [], _, _ => by simp
  | m, x :: l, d, h => by
    rw [List.nodup_cons] at d
    have hx := h x List.mem_cons_self
    have ih := nodup_le (m.erase x) l d.2 fun y hy => (List.mem_erase_of_ne (fun e => d.1 (by rw [← e]; exact hy))).mpr (h y (List.mem_cons_of_mem _ hy))
    rw [List.length_erase_of_mem hx] at ih
    have := List.length_pos_of_mem hx
    simp only [List.length_cons]
    omega
open Classical in
theorem okL3.len {l : List D} (h : okL3 l) : l.length ≤ 3 := nodup_le rw3 l h.d h.s
open Classical in
theorem names_len {l : List Str} (d : l.Nodup) (h : ∀ n ∈ l, okN n) : l.length ≤ 2 := nodup_le (["p", "q"] : List Str) l d fun n hn => by
  rcases h n hn with rfl | rfl <;> simp
def rV (l : List D) : List (D × Vl) := l.map fun r => (r, Vl.d (.bl true))
open Classical in
noncomputable def ins (r : D) (l : List D) : List D := if r ∈ l then l else l ++ [r]
open Classical in
noncomputable def del (r : D) (l : List D) : List D := l.filter fun x => decide (x ≠ r)
open Classical in
theorem getK_rV (r : D) : ∀ l : List D, getK (rV l) r = if r ∈ l then some (Vl.d (.bl true)) else none
  | [] => rfl
  | x :: l => by
    have ih := getK_rV r l
    by_cases e : x = r
    · subst e; simp [rV, getK]
    · have e2 : ¬ r = x := fun z => e z.symm
      simp only [rV, List.map_cons, getK, if_neg e, List.mem_cons, e2, false_or] at ih ⊢
      exact ih
theorem okKey_rV {r : D} (hr : r ∈ rw3) {l : List D} (h : ∀ x ∈ l, x ∈ rw3) : okKey (rV l) r = true := by
  obtain ⟨k1, k2⟩ := key3 r hr
  cases l with
  | nil => simp [rV, okKey, kindOk, k1]
  | cons x l => simp [rV, okKey, kindOk, k1, k2, (key3 x (h x List.mem_cons_self)).2]
theorem put_rV (r : D) (l : List D) : putKD r (Vl.d (.bl true)) (rV l) = rV (ins r l) := by
  unfold putKD ins
  have e : (∃ p ∈ rV l, p.1 = r) ↔ r ∈ l := ⟨fun ⟨p, hp, e⟩ => by
    obtain ⟨x, hx, rfl⟩ := List.mem_map.mp hp
    rw [← e]
    exact hx, fun h => ⟨(r, .d (.bl true)), List.mem_map_of_mem (f := fun r => (r, Vl.d (.bl true))) h, rfl⟩⟩
  by_cases h : r ∈ l
  · rw [if_pos (e.mpr h), if_pos h]
    simp only [rV, List.map_map]
    refine List.map_congr_left fun x _ => ?_
    simp only [Function.comp]
    split <;> rfl
  · rw [if_neg (fun z => h (e.mp z)), if_neg h]
    simp [rV]
theorem del_rV (r : D) (l : List D) : delKD r (rV l) = rV (del r l) := by
  simp only [delKD, rV, del, List.filter_map]
  rfl
theorem okL3.ins {l : List D} (h : okL3 l) {r : D} (hr : r ∈ rw3) : okL3 (ins r l) := by
  unfold Toy.ins
  split
  · exact h
  · rename_i n
    refine ⟨fun x hx => ?_, ?_⟩
    · rcases List.mem_append.mp hx with hx | hx
      · exact h.s x hx
      · rw [List.mem_singleton.mp hx]; exact hr
    · rw [List.nodup_append]
      exact ⟨h.d, by simp, fun a ha b hb e => n (by rw [List.mem_singleton.mp hb] at e; rw [← e]; exact ha)⟩
theorem okL3.del {l : List D} (h : okL3 l) (r : D) : okL3 (del r l) :=
  ⟨fun x hx => h.s x (List.mem_filter.mp hx).1, h.d.filter _⟩
theorem mem_ins {r x : D} {l : List D} : x ∈ ins r l ↔ x = r ∨ x ∈ l := by
  unfold ins
  split
  · rename_i h
    exact ⟨.inr, fun z => z.elim (fun e => e ▸ h) id⟩
  · simp [or_comm]
theorem mem_del {r x : D} {l : List D} : x ∈ del r l ↔ x ≠ r ∧ x ∈ l := by
  simp [del, and_comm]
/-- a table: names with the objects that hold their rows -/
abbrev TX := List (Str × Nat × List D)
def dX (X : TX) : List (D × Vl) := X.map fun x => (D.str x.1, Vl.mu x.2.1)
theorem getK_dX (n : Str) : ∀ X : TX, getK (dX X) (.str n) = (X.lookup n).map fun y => Vl.mu y.1
  | [] => rfl
  | (m, h, l) :: X => by
    have ih := getK_dX n X
    by_cases e : m = n
    · subst e; simp [dX, getK]
    · have e1 : ¬ D.str m = D.str n := fun z => e (D.str.inj z)
      have e2 : (n == m) = false := by simpa using fun z => e z.symm
      simp only [dX, List.map_cons, getK, if_neg e1, List.lookup_cons, e2] at ih ⊢
      exact ih
theorem okKey_dX (n : Str) (X : TX) : okKey (dX X) (.str n) = true := by
  cases X <;> rfl
theorem put_dX {n : Str} {h : Nat} {X : TX} (q : X.lookup n = none) : putKD (.str n) (.mu h) (dX X) = dX (X ++ [(n, h, [])]) := by
  unfold putKD
  have : ¬ ∃ p ∈ dX X, p.1 = D.str n := by
    rintro ⟨p, hp, e⟩
    obtain ⟨x, hx, rfl⟩ := List.mem_map.mp hp
    rw [List.lookup_eq_none_iff] at q
    have := q x hx
    simp [D.str.inj e] at this
  rw [if_neg this]
  simp [dX]
def outX (n : Str) (X : TX) : TX := X.filter fun x => decide (x.1 ≠ n)
theorem del_dX (n : Str) (X : TX) : delKD (.str n) (dX X) = dX (outX n X) := by
  simp only [delKD, dX, outX, List.filter_map]
  congr 1
  refine List.filter_congr fun x _ => ?_
  simp
def upX (n : Str) (f : List D → List D) (X : TX) : TX := X.map fun x => if x.1 = n then (x.1, x.2.1, f x.2.2) else x
theorem upX_dX (n : Str) (f : List D → List D) (X : TX) : dX (upX n f X) = dX X := by
  simp only [dX, upX, List.map_map]
  refine List.map_congr_left fun x _ => ?_
  simp only [Function.comp]
  split <;> rfl
structure Tab (W : Ms) (a : Nat) (X : TX) : Prop where
  t : W[a]? = some (.dct (dX X))
  r : ∀ x ∈ X, W[x.2.1]? = some (.dct (rV x.2.2))
  nn : (X.map (·.1)).Nodup
  nh : (a :: X.map (·.2.1)).Nodup
  kn : ∀ x ∈ X, okN x.1
  kl : ∀ x ∈ X, okL3 x.2.2
def ftX (a : Nat) (X : TX) : List Nat := a :: X.map (·.2.1)
theorem Tab.len {W : Ms} {a : Nat} {X : TX} (h : Tab W a X) : X.length ≤ 2 := by
  have := names_len h.nn fun n hn => by
    obtain ⟨x, hx, rfl⟩ := List.mem_map.mp hn
    exact h.kn x hx
  simpa using this
theorem Tab.frame {W W' : Ms} {a : Nat} {X : TX} (h : Tab W a X) (e : ∀ i ∈ ftX a X, W'[i]? = W[i]?) : Tab W' a X :=
  ⟨by rw [e a (by simp [ftX])]; exact h.t, fun x hx => by rw [e _ (by simp only [ftX, List.mem_cons, List.mem_map]; exact .inr ⟨x, hx, rfl⟩)]; exact h.r x hx, h.nn, h.nh, h.kn, h.kl⟩
theorem Tab.lt {W : Ms} {a : Nat} {X : TX} (h : Tab W a X) : ∀ i ∈ ftX a X, i < W.length := fun i hi => by
  rcases List.mem_cons.mp hi with rfl | hi
  · exact (List.getElem?_eq_some_iff.mp h.t).1
  · obtain ⟨x, hx, rfl⟩ := List.mem_map.mp hi
    exact (List.getElem?_eq_some_iff.mp (h.r x hx)).1
theorem look_mem {X : TX} {n : Str} {h : Nat} {l : List D} (q : X.lookup n = some (h, l)) : (n, h, l) ∈ X := by
  obtain ⟨l1, l2, e, _⟩ := List.lookup_eq_some_iff.mp q
  rw [e]
  simp
/-- the rows that stand at a name -/
def at_ (X : TX) (n : Str) : List D := ((X.lookup n).map (·.2)).getD []
theorem at_up (n m : Str) (f : List D → List D) (X : TX) (hf : f [] = [] ∨ (X.lookup n).isSome) : at_ (upX n f X) m = if m = n then f (at_ X n) else at_ X m := by
  have key : (upX n f X).lookup m = if m = n then (X.lookup n).map fun y => (y.1, f y.2) else X.lookup m := by
    clear hf
    induction X with
    | nil => simp [upX]
    | cons x X ih =>
      obtain ⟨k, h, l⟩ := x
      simp only [upX, List.map_cons] at ih ⊢
      by_cases e : k = n
      · subst e
        by_cases e2 : m = k
        · subst e2; simp
        · have e3 : (m == k) = false := by simpa using e2
          simp only [if_true, List.lookup_cons, e3, if_neg e2] at ih ⊢
          exact ih
      · have e0 : (n == k) = false := by simpa using fun z => e z.symm
        by_cases e2 : m = k
        · subst e2
          simp [e]
        · have e3 : (m == k) = false := by simpa using e2
          simp only [if_neg e, List.lookup_cons, e3, e0] at ih ⊢
          exact ih
  unfold at_
  rw [key]
  by_cases e : m = n
  · rw [if_pos e, if_pos e]
    cases q : X.lookup n with
    | none =>
      rcases hf with hf | hf
      · simp [hf]
      · rw [q] at hf; cases hf
    | some y => rfl
  · rw [if_neg e, if_neg e]
theorem at_out (n m : Str) (X : TX) : at_ (outX n X) m = if m = n then [] else at_ X m := by
  have key : (outX n X).lookup m = if m = n then none else X.lookup m := by
    induction X with
    | nil => simp [outX]
    | cons x X ih =>
      obtain ⟨k, h, l⟩ := x
      simp only [outX] at ih ⊢
      by_cases e : k = n
      · subst e
        rw [List.filter_cons_of_neg (by simp), ih]
        by_cases e2 : m = k
        · simp [e2]
        · have e3 : (m == k) = false := by simpa using e2
          simp [e2, List.lookup_cons, e3]
      · rw [List.filter_cons_of_pos (by simpa using e), List.lookup_cons, ih]
        by_cases e2 : m = k
        · subst e2; simp [e]
        · have e3 : (m == k) = false := by simpa using e2
          simp [List.lookup_cons, e3]
  unfold at_
  rw [key]
  split <;> rfl
theorem at_new (n m : Str) (h : Nat) (l : List D) (X : TX) (q : X.lookup n = none) : at_ (X ++ [(n, h, l)]) m = if m = n then l else at_ X m := by
  unfold at_
  rw [List.lookup_append]
  by_cases e : m = n
  · subst e; simp [q]
  · have e3 : (m == n) = false := by simpa using e
    cases X.lookup m <;> simp [List.lookup_cons, e, e3]
end Toy

set_option Elab.async false
set_option linter.all false
set_option maxRecDepth 100000
set_option maxHeartbeats 4000000
namespace Toy
open PySem L2 DL
/-! ## put under a name, take from it -/
structure Grow (W W' : Ms) (F F' : List Nat) : Prop where
  le : W.length ≤ W'.length
  fr : ∀ i, i < W.length → i ∉ F → W'[i]? = W[i]?
  ft : ∀ i ∈ F', i ∈ F ∨ W.length ≤ i
theorem Grow.trans {W W1 W2 : Ms} {F F1 F2 : List Nat} (g : Grow W W1 F F1) (h : Grow W1 W2 F1 F2) : Grow W W2 F F2 :=
  ⟨Nat.le_trans g.le h.le, fun i hi n => by
    have n1 : i ∉ F1 := fun z => (g.ft i z).elim n fun z => by omega
    rw [h.fr i (by have := g.le; omega) n1, g.fr i hi n], fun i hi => by
    rcases h.ft i hi with z | z
    · exact g.ft i z
    · exact .inr (by have := g.le; omega)⟩
theorem Grow.refl {W : Ms} {F : List Nat} : Grow W W F F := ⟨Nat.le_refl _, fun _ _ _ => rfl, fun _ h => .inl h⟩
theorem Grow.wide {W W' : Ms} {F F' R : List Nat} (g : Grow W W' F F') : Grow W W' (F ++ R) (F' ++ R) :=
  ⟨g.le, fun i hi n => g.fr i hi fun z => n (List.mem_append_left _ z), fun i hi => by
    rcases List.mem_append.mp hi with z | z
    · exact (g.ft i z).imp_left (List.mem_append_left _)
    · exact .inl (List.mem_append_right _ z)⟩
theorem Grow.perm {W W' : Ms} {F F' G G' : List Nat} (g : Grow W W' F F') (h : ∀ i, i ∈ F ↔ i ∈ G) (h' : ∀ i, i ∈ F' ↔ i ∈ G') : Grow W W' G G' :=
  ⟨g.le, fun i hi n => g.fr i hi fun z => n ((h i).mp z), fun i hi => (g.ft i ((h' i).mpr hi)).imp_left (h i).mp⟩
theorem inj_map {α β : Type} {f : α → β} : ∀ {l : List α}, (l.map f).Nodup → ∀ {x y : α}, x ∈ l → y ∈ l → f x = f y → x = y
  | [], _, x, y, hx, _, _ => nomatch hx
  | z :: l, d, x, y, hx, hy, e => by
    rw [List.map_cons, List.nodup_cons] at d
    rcases List.mem_cons.mp hx with h1 | h1 <;> rcases List.mem_cons.mp hy with h2 | h2
    · rw [h1, h2]
    · exact absurd (List.mem_map.mpr ⟨y, h2, by rw [← e, h1]⟩) d.1
    · exact absurd (List.mem_map.mpr ⟨x, h1, by rw [e, h2]⟩) d.1
    · exact inj_map d.2 h1 h2 e
theorem Tab.uniq {W : Ms} {a : Nat} {X : TX} (h : Tab W a X) {n : Str} {k : Nat} {l : List D} (q : X.lookup n = some (k, l)) {y : Str × Nat × List D} (hy : y ∈ X) : (y.1 = n → y = (n, k, l)) ∧ (y.1 ≠ n → y.2.1 ≠ k) := by
  have hm := look_mem q
  refine ⟨fun e => inj_map h.nn hy hm e, fun e z => e ?_⟩
  have := inj_map (List.nodup_cons.mp h.nh).2 hy hm z
  rw [this]
theorem Tab.ka {W : Ms} {a : Nat} {X : TX} (h : Tab W a X) {n : Str} {k : Nat} {l : List D} (q : X.lookup n = some (k, l)) : a ≠ k ∧ k < W.length ∧ a < W.length ∧ W[k]? = some (.dct (rV l)) ∧ okL3 l := by
  have hm := look_mem q
  have e := h.r _ hm
  exact ⟨fun z => (List.nodup_cons.mp h.nh).1 (List.mem_map.mpr ⟨_, hm, z.symm⟩), (List.getElem?_eq_some_iff.mp e).1, (List.getElem?_eq_some_iff.mp h.t).1, e, h.kl _ hm⟩
theorem up_names (n : Str) (f : List D → List D) (X : TX) : (upX n f X).map (·.1) = X.map (·.1) ∧ (upX n f X).map (·.2.1) = X.map (·.2.1) := by
  constructor <;> (simp only [upX, List.map_map]; refine List.map_congr_left fun x _ => ?_; simp only [Function.comp]; split <;> rfl)
theorem Tab.up {W W' : Ms} {a : Nat} {X : TX} (h : Tab W a X) {n : Str} {k : Nat} {l : List D} (q : X.lookup n = some (k, l)) {f : List D → List D} (hl : okL3 (f l)) (e : ∀ i ∈ ftX a X, i ≠ k → W'[i]? = W[i]?) (ek : W'[k]? = some (.dct (rV (f l)))) : Tab W' a (upX n f X) := by
  obtain ⟨n1, n2⟩ := up_names n f X
  obtain ⟨ak, _, _, _, _⟩ := h.ka q
  have all : ∀ x ∈ upX n f X, ∃ y ∈ X, (y.1 = n ∧ x = (n, k, f l)) ∨ (y.1 ≠ n ∧ y.2.1 ≠ k ∧ x = y) := fun x hx => by
    obtain ⟨y, hy, rfl⟩ := List.mem_map.mp hx
    obtain ⟨u1, u2⟩ := h.uniq q hy
    refine ⟨y, hy, ?_⟩
    by_cases z : y.1 = n
    · refine .inl ⟨z, ?_⟩
      rw [if_pos z, u1 z]
    · exact .inr ⟨z, u2 z, if_neg z⟩
  refine ⟨by rw [e a (by simp [ftX]) ak, upX_dX]; exact h.t, fun x hx => ?_, by rw [n1]; exact h.nn, by rw [n2]; exact h.nh, fun x hx => ?_, fun x hx => ?_⟩
  · obtain ⟨y, hy, ⟨_, rfl⟩ | ⟨_, z, rfl⟩⟩ := all x hx
    · exact ek
    · rw [e _ (List.mem_cons_of_mem _ (List.mem_map.mpr ⟨_, hy, rfl⟩)) z]
      exact h.r _ hy
  · obtain ⟨y, hy, ⟨z, rfl⟩ | ⟨_, _, rfl⟩⟩ := all x hx
    · show okN n
      rw [← z]
      exact h.kn _ hy
    · exact h.kn _ hy
  · obtain ⟨y, hy, ⟨z, rfl⟩ | ⟨_, _, rfl⟩⟩ := all x hx
    · exact hl
    · exact h.kl _ hy
theorem Tab.new {W W' : Ms} {a : Nat} {X : TX} (h : Tab W a X) {n : Str} (hn : okN n) (q : X.lookup n = none) {k : Nat} (hk : W.length ≤ k) {l : List D} (hl : okL3 l) (ea : W'[a]? = some (.dct (dX (X ++ [(n, k, l)])))) (e : ∀ i ∈ ftX a X, i ≠ a → W'[i]? = W[i]?) (ek : W'[k]? = some (.dct (rV l))) : Tab W' a (X ++ [(n, k, l)]) := by
  have hlt := h.lt
  refine ⟨ea, fun x hx => ?_, ?_, ?_, fun x hx => ?_, fun x hx => ?_⟩
  · rcases List.mem_append.mp hx with hx | hx
    · have : x.2.1 ≠ a := fun z => (List.nodup_cons.mp h.nh).1 (List.mem_map.mpr ⟨x, hx, z⟩)
      rw [e _ (List.mem_cons_of_mem _ (List.mem_map.mpr ⟨_, hx, rfl⟩)) this]
      exact h.r _ hx
    · rw [List.mem_singleton.mp hx]; exact ek
  · rw [List.map_append, List.nodup_append]
    refine ⟨h.nn, by simp, fun b hb c hc z => ?_⟩
    obtain ⟨x, hx, rfl⟩ := List.mem_map.mp hb
    rw [List.map_singleton, List.mem_singleton] at hc
    rw [List.lookup_eq_none_iff] at q
    have := q x hx
    rw [z, hc] at this
    simp at this
  · rw [List.map_append, ← List.cons_append, List.nodup_append]
    refine ⟨h.nh, by simp, fun b hb c hc z => ?_⟩
    rw [List.map_singleton, List.mem_singleton] at hc
    have := hlt b hb
    rw [z, hc] at this
    exact absurd hk (by simp only at this; omega)
  · rcases List.mem_append.mp hx with hx | hx
    · exact h.kn _ hx
    · rw [List.mem_singleton.mp hx]; exact hn
  · rcases List.mem_append.mp hx with hx | hx
    · exact h.kl _ hx
    · rw [List.mem_singleton.mp hx]; exact hl
theorem Tab.out {W W' : Ms} {a : Nat} {X : TX} (h : Tab W a X) {n : Str} {k : Nat} {l : List D} (q : X.lookup n = some (k, l)) (ea : W'[a]? = some (.dct (dX (outX n X)))) (e : ∀ i ∈ ftX a X, i ≠ a → i ≠ k → W'[i]? = W[i]?) : Tab W' a (outX n X) := by
  have sub : ∀ x ∈ outX n X, x ∈ X ∧ x.1 ≠ n := fun x hx => by
    have := List.mem_filter.mp hx
    exact ⟨this.1, by simpa using this.2⟩
  refine ⟨ea, fun x hx => ?_, ?_, ?_, fun x hx => h.kn _ (sub x hx).1, fun x hx => h.kl _ (sub x hx).1⟩
  · obtain ⟨h1, h2⟩ := sub x hx
    have : x.2.1 ≠ a := fun z => (List.nodup_cons.mp h.nh).1 (List.mem_map.mpr ⟨x, h1, z⟩)
    rw [e _ (List.mem_cons_of_mem _ (List.mem_map.mpr ⟨_, h1, rfl⟩)) this ((h.uniq q h1).2 h2)]
    exact h.r _ h1
  · exact h.nn.sublist (List.Sublist.map _ List.filter_sublist)
  · exact h.nh.sublist (List.Sublist.cons₂ _ (List.Sublist.map _ List.filter_sublist))
def full (X : TX) : Prop := ∀ x ∈ X, x.2.2 ≠ []
theorem set_len {W : Ms} {i : Nat} {x : M} : (W.set i x).length = W.length := List.length_set
theorem app_lt {W : Ms} {y : M} {i : Nat} (h : i < W.length) : (W ++ [y])[i]? = W[i]? := List.getElem?_append_left h
section
variable (A : Ad)
theorem put_under {W : Ms} {a : Nat} {X : TX} (h : Tab W a X) {n : Str} (hn : okN n) {r : D} (hr : r ∈ rw3) : ∃ X' W', f_put_under A [.mu a, .d (.str n), .d r] W = .ok (.d .non) W' ∧ Tab W' a X' ∧ (∀ m, at_ X' m = if m = n then ins r (at_ X n) else at_ X m) ∧ Grow W W' (ftX a X) (ftX a X') ∧ (full X → full X') := by
  have ha : a < W.length := (List.getElem?_eq_some_iff.mp h.t).1
  have z1 : (dX X).length < sizeLine := mil' (by have := h.len; simp [dX]; omega)
  have t1 : (W ++ [M.dct []])[a]? = some (.dct (dX X)) := by rw [app_lt ha]; exact h.t
  cases q : X.lookup n with
  | some y =>
    obtain ⟨k, l⟩ := y
    obtain ⟨ak, hk, _, ek, hl⟩ := h.ka q
    have t2 : (W ++ [M.dct []])[k]? = some (.dct (rV l)) := by rw [app_lt hk]; exact ek
    have z2 : (rV l).length < sizeLine := mil' (by have := hl.len; simp [rV]; omega)
    refine ⟨upX n (ins r) X, (W ++ [M.dct []]).set k (.dct (rV (ins r l))), ?_, h.up q (hl.ins hr) (fun i hi n => ?_) ?_, fun m => ?_, ⟨?_, fun i hi n => ?_, fun i hi => .inl ?_⟩, fun hf x hx => ?_⟩
    · simp [f_put_under, run0, b_put_under, startE, sPut, eC, eMt, eVar, tyDct, dctOf, h.t, aCons, aNil, eDnewM, setDfM, t1, okKey_dX, z1, getK_dX, q, setIx, t2, okKey_rV hr hl.s, z2, put_rV]
    · rw [List.getElem?_set_ne (fun z => n z.symm), app_lt (h.lt i hi)]
    · rw [List.getElem?_set_self (by simp; omega)]
    · exact at_up n m (ins r) X (.inr (by rw [q]; rfl))
    · rw [set_len]; simp
    · have : k ≠ i := fun z => n (z ▸ List.mem_cons_of_mem _ (List.mem_map.mpr ⟨_, look_mem q, rfl⟩))
      rw [List.getElem?_set_ne this, app_lt hi]
    · unfold ftX at hi
      rw [(up_names n (ins r) X).2] at hi
      exact hi
    · obtain ⟨y, hy, rfl⟩ := List.mem_map.mp hx
      show (if y.1 = n then (y.1, y.2.1, ins r y.2.2) else y).2.2 ≠ []
      split
      · intro z
        have := mem_ins (r := r) (x := r) (l := y.2.2)
        rw [show ins r y.2.2 = [] from z] at this
        simp at this
      · exact hf y hy
  | none =>
    have t3 : ((W ++ [M.dct []]).set a (.dct (dX (X ++ [(n, W.length, [])]))))[W.length]? = some (.dct []) := by
      rw [List.getElem?_set_ne (by omega)]; simp
    have z2 : ([] : List (D × Vl)).length < sizeLine := mil' (by simp)
    have k1 : okKey (α := Vl) [] r = true := okKey_rV hr (l := []) (fun _ h => nomatch h)
    have p1 : putKD r (Vl.d (.bl true)) [] = rV [r] := by
      have := put_rV r []
      simpa [rV, ins] using this
    have s1 : setIx ((W ++ [M.dct []]).set a (.dct (dX (X ++ [(n, W.length, [])])))) (.mu W.length) (.d r) (.d (.bl true)) = some (((W ++ [M.dct []]).set a (.dct (dX (X ++ [(n, W.length, [])])))).set W.length (.dct (rV [r]))) := by
      simp only [setIx, t3, k1, z2, and_self, if_true, p1]
    refine ⟨X ++ [(n, W.length, [r])], ((W ++ [M.dct []]).set a (.dct (dX (X ++ [(n, W.length, [])])))).set W.length (.dct (rV [r])), ?_, h.new hn q (Nat.le_refl _) ⟨fun x hx => by rw [List.mem_singleton.mp hx]; exact hr, by simp⟩ ?_ (fun i hi n => ?_) ?_, fun m => ?_, ⟨?_, fun i hi n => ?_, fun i hi => ?_⟩, fun hf x hx => ?_⟩
    · simp [f_put_under, run0, b_put_under, startE, sPut, eC, eMt, eVar, tyDct, dctOf, h.t, aCons, aNil, eDnewM, setDfM, t1, okKey_dX, z1, getK_dX, q, put_dX q, s1]
    · rw [List.getElem?_set_ne (by omega), List.getElem?_set_self (by simp; omega)]
      simp [dX]
    · have := h.lt i hi
      rw [List.getElem?_set_ne (by omega), List.getElem?_set_ne (fun z => n z.symm), app_lt this]
    · rw [List.getElem?_set_self (by simp)]
    · rw [at_new n m W.length [r] X q]
      have : at_ X n = [] := by simp [at_, q]
      rw [this]
      simp [ins]
    · rw [set_len, set_len]; simp
    · have : a ≠ i := fun z => n (z ▸ List.mem_cons_self)
      rw [List.getElem?_set_ne (by omega), List.getElem?_set_ne this, app_lt hi]
    · simp only [ftX, List.map_append, List.map_cons, List.map_nil, List.mem_cons, List.mem_append, List.not_mem_nil, or_false] at hi ⊢
      rcases hi with z | z | z
      · exact .inl (.inl z)
      · exact .inl (.inr z)
      · exact .inr (by omega)
    · rcases List.mem_append.mp hx with hx | hx
      · exact hf x hx
      · rw [List.mem_singleton.mp hx]; simp
theorem take_from {W : Ms} {a : Nat} {X : TX} (h : Tab W a X) {n : Str} {r : D} (hr : r ∈ rw3) (hm : r ∈ at_ X n) : ∃ X' W', f_take_from A [.mu a, .d (.str n), .d r] W = .ok (.d .non) W' ∧ Tab W' a X' ∧ (∀ m, at_ X' m = if m = n then del r (at_ X n) else at_ X m) ∧ Grow W W' (ftX a X) (ftX a X') ∧ (full X → full X') := by
  cases q : X.lookup n with
  | none => simp [at_, q] at hm
  | some y =>
    obtain ⟨k, l⟩ := y
    obtain ⟨ak, hk, ha, ek, hl⟩ := h.ka q
    have hat : at_ X n = l := by simp [at_, q]
    rw [hat] at hm ⊢
    have t1 : (W.set k (.dct (rV (del r l))))[k]? = some (.dct (rV (del r l))) := List.getElem?_set_self hk
    have t2 : (W.set k (.dct (rV (del r l))))[a]? = some (.dct (dX X)) := by rw [List.getElem?_set_ne (fun z => ak z.symm)]; exact h.t
    have z1 : decide (rV (del r l) = []) = decide (del r l = []) := by
      cases del r l <;> simp [rV]
    by_cases e0 : del r l = []
    · refine ⟨outX n X, (W.set k (.dct (rV (del r l)))).set a (.dct (dX (outX n X))), ?_, h.out q ?_ (fun i hi n1 n2 => ?_), fun m => ?_, ⟨?_, fun i hi n => ?_, fun i hi => .inl ?_⟩, fun hf x hx => hf x (List.mem_filter.mp hx).1⟩
      · have r0 : rV ([] : List D) = [] := rfl
        rw [e0, r0] at t1 t2
        simp [f_take_from, run0, b_take_from, startE, sSeq, sSet, eOp, eVar, ixD, dctOf, h.t, okKey_dX, getK_dX, q, sDel, delIx, ek, okKey_rV hr hl.s, getK_rV, hm, del_rV, sIf, tstV, eqX', eDnew, e0, t1, t2, r0, blOf, del_dX]
      · rw [List.getElem?_set_self (by rw [set_len]; exact ha)]
      · rw [List.getElem?_set_ne (fun z => n1 z.symm), List.getElem?_set_ne (fun z => n2 z.symm)]
      · rw [at_out, e0]
      · rw [set_len, set_len]; exact Nat.le_refl _
      · have n1 : a ≠ i := fun z => n (z ▸ List.mem_cons_self)
        have n2 : k ≠ i := fun z => n (z ▸ List.mem_cons_of_mem _ (List.mem_map.mpr ⟨_, look_mem q, rfl⟩))
        rw [List.getElem?_set_ne n1, List.getElem?_set_ne n2]
      · rcases List.mem_cons.mp hi with z | z
        · exact z ▸ List.mem_cons_self
        · obtain ⟨x, hx, rfl⟩ := List.mem_map.mp z
          exact List.mem_cons_of_mem _ (List.mem_map.mpr ⟨x, (List.mem_filter.mp hx).1, rfl⟩)
    · refine ⟨upX n (del r) X, W.set k (.dct (rV (del r l))), ?_, h.up q (hl.del r) (fun i hi n => ?_) t1, fun m => ?_, ⟨?_, fun i hi n => ?_, fun i hi => .inl ?_⟩, fun hf x hx => ?_⟩
      · simp [f_take_from, run0, b_take_from, startE, sSeq, sSet, eOp, eVar, ixD, dctOf, h.t, okKey_dX, getK_dX, q, sDel, delIx, ek, okKey_rV hr hl.s, getK_rV, hm, del_rV, sIf, tstV, eqX', eDnew, t1, z1, e0, blOf, sNil]
      · rw [List.getElem?_set_ne (fun z => n z.symm)]
      · have := at_up n m (del r) X (.inr (by rw [q]; rfl))
        rw [hat] at this
        exact this
      · rw [set_len]; exact Nat.le_refl _
      · have n2 : k ≠ i := fun z => n (z ▸ List.mem_cons_of_mem _ (List.mem_map.mpr ⟨_, look_mem q, rfl⟩))
        rw [List.getElem?_set_ne n2]
      · unfold ftX at hi
        rw [(up_names n (del r) X).2] at hi
        exact hi
      · obtain ⟨y, hy, rfl⟩ := List.mem_map.mp hx
        show (if y.1 = n then (y.1, y.2.1, del r y.2.2) else y).2.2 ≠ []
        split
        · rename_i e
          rw [(h.uniq q hy).1 e]
          exact e0
        · exact hf y hy
end
end Toy

set_option Elab.async false
set_option linter.all false
set_option maxRecDepth 100000
set_option maxHeartbeats 4000000
namespace Toy
open PySem L2 DL
open PySem.W (keyToks)
open PyProof.Rows (itemOrd)
/-! ## rows and names in order -/
open Classical in
noncomputable def canon (P : D → Prop) : List D := rw3.filter fun r => decide (P r)
theorem mem_canon {P : D → Prop} {r : D} : r ∈ canon P ↔ r ∈ rw3 ∧ P r := by simp [canon]
theorem rw3_nd : rw3.Nodup := by simp [rw3]
theorem canon_ok (P : D → Prop) : okL3 (canon P) := ⟨fun r hr => (mem_canon.mp hr).1, rw3_nd.filter _⟩
def kR : D → D
  | .tup [.int i] => .tup [.tup [.int 0, .int i, .str ""]]
  | _ => .non
theorem pairwiseP (f : D → D) (l : List D) : (l.mergeSort fun a b => leP (f a) (f b)).Pairwise fun a b => leP (f a) (f b) = true :=
  PySem.W.sort_pairwise (PySem.W.sortLe_total (PyProof.Rows.listOrd itemOrd) false fun r : D => keyToks (toP (f r))) l
theorem le3 : (leP (kR (.tup [.int 0])) (kR (.tup [.int 1])) && leP (kR (.tup [.int 0])) (kR (.tup [.int 2])) && leP (kR (.tup [.int 1])) (kR (.tup [.int 2])) && !leP (kR (.tup [.int 1])) (kR (.tup [.int 0])) && !leP (kR (.tup [.int 2])) (kR (.tup [.int 0])) && !leP (kR (.tup [.int 2])) (kR (.tup [.int 1]))) = true := by decide +kernel
theorem le3' : (leP (.tup [.int 0]) (.tup [.int 1]) && leP (.tup [.int 0]) (.tup [.int 2]) && leP (.tup [.int 1]) (.tup [.int 2]) && !leP (.tup [.int 1]) (.tup [.int 0]) && !leP (.tup [.int 2]) (.tup [.int 0]) && !leP (.tup [.int 2]) (.tup [.int 1])) = true := by decide +kernel
theorem le2 : (leP (.str "p") (.str "q") && !leP (.str "q") (.str "p")) = true := by decide +kernel
open Classical in
theorem sort3 {f : D → D} (h : (leP (f (.tup [.int 0])) (f (.tup [.int 1])) && leP (f (.tup [.int 0])) (f (.tup [.int 2])) && leP (f (.tup [.int 1])) (f (.tup [.int 2])) && !leP (f (.tup [.int 1])) (f (.tup [.int 0])) && !leP (f (.tup [.int 2])) (f (.tup [.int 0])) && !leP (f (.tup [.int 2])) (f (.tup [.int 1]))) = true) {l : List D} (hl : okL3 l) : (l.mergeSort fun a b => leP (f a) (f b)) = canon (· ∈ l) := by
  simp only [Bool.and_eq_true, Bool.not_eq_true'] at h
  obtain ⟨⟨⟨⟨⟨h1, h2⟩, h3⟩, h4⟩, h5⟩, h6⟩ := h
  refine (sort_uniq (le := fun a b => leP (f a) (f b) = true) (fun a b ha hb e1 e2 => ?_) ?_ (List.Pairwise.filter _ ?_) (pairwiseP f l)).symm
  · have ha := (mem_canon.mp ha).1
    have hb := (mem_canon.mp hb).1
    simp only [rw3, List.mem_cons, List.not_mem_nil, or_false] at ha hb
    rcases ha with rfl | rfl | rfl <;> rcases hb with rfl | rfl | rfl <;> first | rfl | simp_all
  · exact (perm_of (canon_ok _).d hl.d fun x => by rw [mem_canon]; exact ⟨fun z => z.2, fun z => ⟨hl.s x z, z⟩⟩).trans (List.mergeSort_perm l _).symm
  · simp [rw3, h1, h2, h3]
theorem ok3 : ∀ r ∈ rw3, (kR r).ok = true ∧ (kR r).dep ≤ 2 ∧ noL (toP (kR r)) = true ∧ isTupD (kR r) = true ∧ r.ok = true ∧ r.dep ≤ 1 ∧ noL (toP r) = true ∧ ∀ s ∈ rw3, PySem.W.alike (toP (kR r)) (toP (kR s)) = true ∧ PySem.W.alike (toP r) (toP s) = true := by decide +kernel
theorem sortable_tup {l : List D} (h1 : ∀ r ∈ l, r.ok = true ∧ r.dep ≤ 8 ∧ noL (toP r) = true ∧ isTupD r = true) (h2 : ∀ r ∈ l, ∀ s ∈ l, PySem.W.alike (toP r) (toP s) = true) : sortable l = true := by
  simp only [sortable, Bool.and_eq_true, List.all_eq_true, decide_eq_true_eq, Bool.or_eq_true]
  refine ⟨⟨fun r hr => ⟨⟨(h1 r hr).1, (h1 r hr).2.1⟩, (h1 r hr).2.2.1⟩, fun r hr s hs => h2 r hr s hs⟩, .inl fun r hr => ?_⟩
  have := (h1 r hr).2.2.2
  cases r <;> simp [isTupD] at this ⊢
theorem row_val : ∀ r ∈ rw3, ∃ i, r = .tup [.int i] := fun r hr => by
  simp only [rw3, List.mem_cons, List.not_mem_nil, or_false] at hr
  rcases hr with rfl | rfl | rfl <;> exact ⟨_, rfl⟩
section
variable (A : Ad) {W : Ms}
theorem kit_ii : kitB "int" "int" = some true := by first | rfl | decide +kernel | kernel_rfl
theorem value_key (i : Int) : f_value_key A [.d (.int i)] W = .ok (.d (.tup [.int 0, .int i, .str ""])) W := by
  have h1 : f_is_number A [.d (.int i)] W = .ok (.d (.bl true)) W := by
    simp [f_is_number, run0, b_is_number, startE, sRet, eCB, aCons, aNil, eVar, eC, isiD, tyOfD, kit_ii]
  simp [f_value_key, run0, b_value_key, startE, sRet, eIf, tstV, eCall, aCons, aNil, eVar, eC, h1, blOf, eTup, mkTup, dsOf]
theorem row_key {r : D} (hr : r ∈ rw3) : f_row_key A [.d r] W = .ok (.d (kR r)) W := by
  obtain ⟨i, rfl⟩ := row_val r hr
  have e : eLc (iS (eVar 0)) (gN 1) (nxE tstYes) (nxE (eCall (f_value_key A) [] (aCons (eVar 1) aNil))) [1] [some (.d (.tup [.int i])), none] W = .ok (.d (.lst [.tup [.int 0, .int i, .str ""]])) W := by
    refine (eLc_all Vl.d (fun _ => .tup [.int 0, .int i, .str ""]) [.int i] (by simp [iS, eVar, seq_tup]) (by simp) fun v hv => ⟨_, rfl, ?_⟩).trans rfl
    rw [List.mem_singleton.mp hv]
    simp [nxE, eCall, aCons, aNil, eVar, wipeE, value_key A]
  have hz : ([.tup [.int 0, .int i, .str ""]] : List D).length ≤ 1000000 := by simp
  simp [f_row_key, run0, b_row_key, startE, sRet, eCB, aCons, aNil, e, tupD_lst _ _ hz, kR]
theorem keysD_rows : ∀ l : List D, (∀ r ∈ l, r ∈ rw3) → keysD (f_row_key A) [] (l.map Vl.d) W = .ok (l.map kR) W
  | [], _ => rfl
  | r :: l, h => by
    have e := row_key A (W := W) (h r List.mem_cons_self)
    simp only [List.map_cons, keysD, e, keysD_rows l fun q hq => h q (List.mem_cons_of_mem _ hq), Res.bind_ok]
theorem in_order {l : List D} (h : okL3 l) {x : Vl} (hx : srcOf W x = some (l.map Vl.d)) : f_in_order A [x] W = .ok (.d (.tup (canon (· ∈ l)))) W := by
  have hl : (l.map Vl.d).length ≤ 1000000 := by have := h.len; rw [List.length_map]; omega
  have hz : (canon (· ∈ l)).length ≤ 1000000 := by have := (canon_ok (· ∈ l)).len; omega
  have sk : sortable (l.map kR) = true := sortable_tup (fun r hr => by
      obtain ⟨s, hs, rfl⟩ := List.mem_map.mp hr
      obtain ⟨a1, a2, a3, a4, _⟩ := ok3 s (h.s s hs)
      exact ⟨a1, by omega, a3, a4⟩) fun r hr s hs => by
      obtain ⟨r', hr', rfl⟩ := List.mem_map.mp hr
      obtain ⟨s', hs', rfl⟩ := List.mem_map.mp hs
      obtain ⟨_, _, _, _, _, _, _, a8⟩ := ok3 r' (h.s r' hr')
      exact (a8 s' (h.s s' hs')).1
  have e2 : (((l.map Vl.d).zip (l.map kR)).mergeSort fun p q => leP p.2 q.2).map (·.1) = (canon (· ∈ l)).map Vl.d := by
    rw [← sort3 le3 h, List.zip_map', ← PySem.W.sort_maps (r := fun a b => leP (kR a) (kR b)) (s := fun p q : Vl × D => leP p.2 q.2) (fun r => (Vl.d r, kR r)) fun _ _ _ _ => rfl, List.map_map]
    rfl
  have e : sortKeyD (f_row_key A) [] mkLst W x = .ok (.d (.lst (canon (· ∈ l)))) W := by
    simp only [sortKeyD, hx, if_pos hl, keysD_rows A l h.s, Res.bind_ok]
    rw [if_pos ⟨sk, by simp⟩, e2]
    exact mkLst_map _ _ hz
  simp [f_in_order, run0, b_in_order, startE, sRet, eCB, aCons, aNil, eSortKey, eVar, e, tupD_lst _ _ hz]
theorem sort_rows {l : List D} (h : okL3 l) : sortD W [.d (.lst l)] = .ok (.d (.lst (canon (· ∈ l)))) W := by
  have e1 : srcOf W (.d (.lst l)) = some (l.map Vl.d) := by simp only [srcOf, seqOf, lstOf]
  have sk : sortable l = true := sortable_tup (fun r hr => by
      obtain ⟨i, rfl⟩ := row_val r (h.s r hr)
      obtain ⟨_, _, _, _, a5, a6, a7, _⟩ := ok3 _ (h.s _ hr)
      exact ⟨a5, by omega, a7, rfl⟩) fun r hr s hs => by
      obtain ⟨_, _, _, _, _, _, _, a8⟩ := ok3 r (h.s r hr)
      exact (a8 s (h.s s hs)).2
  simp only [sortD, e1, dsOf_map]
  rw [if_pos ⟨by have := h.len; omega, sk⟩]
  exact congrArg (fun z => Res.ok (Vl.d (.lst z)) W) (sort3 (f := id) le3' h)
open Classical in
noncomputable def nmC (P : Str → Prop) : List Str := (["p", "q"] : List Str).filter fun n => decide (P n)
theorem mem_nmC {P : Str → Prop} {n : Str} : n ∈ nmC P ↔ okN n ∧ P n := by simp [nmC, okN]
open Classical in
theorem sort_names {l : List Str} (hd : l.Nodup) (hn : ∀ n ∈ l, okN n) {x : Vl} (hx : srcOf W x = some (l.map fun n => Vl.d (.str n))) : sortD W [x] = .ok (.d (.lst ((nmC (· ∈ l)).map D.str))) W := by
  have hl := names_len hd hn
  have e0 : dsOf (l.map fun n => Vl.d (.str n)) = some (l.map D.str) := by
    rw [← dsOf_map (l.map D.str), List.map_map]
    rfl
  have on : ∀ n, okN n → (D.str n).ok = true ∧ noL (toP (.str n)) = true := fun n h => by rcases h with rfl | rfl <;> decide +kernel
  have al : ∀ n m, okN n → okN m → PySem.W.alike (toP (.str n)) (toP (.str m)) = true := fun n m h h' => by rcases h with rfl | rfl <;> rcases h' with rfl | rfl <;> decide +kernel
  have sk : sortable (l.map D.str) = true := by
    simp only [sortable, Bool.and_eq_true, List.all_eq_true, decide_eq_true_eq, Bool.or_eq_true]
    refine ⟨⟨fun r hr => ?_, fun r hr s hs => ?_⟩, .inr fun r hr => ?_⟩
    · obtain ⟨n, h, rfl⟩ := List.mem_map.mp hr
      exact ⟨⟨(on n (hn n h)).1, by simp [D.dep]⟩, (on n (hn n h)).2⟩
    · obtain ⟨n, h, rfl⟩ := List.mem_map.mp hr
      obtain ⟨m, h', rfl⟩ := List.mem_map.mp hs
      exact al n m (hn n h) (hn m h')
    · obtain ⟨n, h, rfl⟩ := List.mem_map.mp hr
      rfl
  have l2 := le2
  simp only [Bool.and_eq_true, Bool.not_eq_true'] at l2
  have e : (l.map D.str).mergeSort leP = (nmC (· ∈ l)).map D.str := by
    have hinj : ∀ {a b : Str}, D.str a = D.str b → a = b := fun z => D.str.inj z
    refine (sort_uniq (le := fun a b => leP a b = true) (fun a b ha hb e1 e2 => ?_) ?_ ?_ (pairwiseP id (l.map D.str))).symm
    · obtain ⟨n, h, rfl⟩ := List.mem_map.mp ha
      obtain ⟨m, h', rfl⟩ := List.mem_map.mp hb
      rcases (mem_nmC.mp h).1 with rfl | rfl <;> rcases (mem_nmC.mp h').1 with rfl | rfl <;> first | rfl | (rw [l2.2] at e1; cases e1) | (rw [l2.2] at e2; cases e2)
    · refine (List.Perm.map D.str (perm_of ?_ hd fun x => ?_)).trans (List.mergeSort_perm _ _).symm
      · exact (show (["p", "q"] : List Str).Nodup by simp).filter _
      · rw [mem_nmC]; exact ⟨fun z => z.2, fun z => ⟨hn x z, z⟩⟩
    · rw [List.pairwise_map]
      exact List.Pairwise.filter _ (by simp [l2.1])
  simp only [sortD, hx, e0]
  rw [if_pos ⟨by rw [List.length_map]; omega, sk⟩, e]
end
end Toy

set_option Elab.async false
set_option linter.all false
set_option maxRecDepth 100000
set_option maxHeartbeats 4000000
namespace Toy
open PySem L2 DL
/-! ## changes -/
theorem nd_left {n L : Nat} {P P' Q : List Nat} (h : (n :: (P ++ Q)).Nodup) (hp : P'.Nodup) (g : ∀ i ∈ P', i ∈ P ∨ L ≤ i) (lt : ∀ i ∈ n :: (P ++ Q), i < L) : (n :: (P' ++ Q)).Nodup := by
  rw [List.nodup_cons, List.nodup_append] at h ⊢
  obtain ⟨h1, h2, h3, h4⟩ := h
  refine ⟨fun z => ?_, hp, h3, fun a ha b hb e => ?_⟩
  · rcases List.mem_append.mp z with z | z
    · rcases g n z with q | q
      · exact h1 (List.mem_append_left _ q)
      · have := lt n List.mem_cons_self; omega
    · exact h1 (List.mem_append_right _ z)
  · rcases g a ha with q | q
    · exact h4 a q b hb e
    · have := lt b (List.mem_cons_of_mem _ (List.mem_append_right _ hb)); omega
theorem nd_right {n L : Nat} {P Q Q' : List Nat} (h : (n :: (P ++ Q)).Nodup) (hp : Q'.Nodup) (g : ∀ i ∈ Q', i ∈ Q ∨ L ≤ i) (lt : ∀ i ∈ n :: (P ++ Q), i < L) : (n :: (P ++ Q')).Nodup := by
  rw [List.nodup_cons, List.nodup_append] at h ⊢
  obtain ⟨h1, h2, h3, h4⟩ := h
  refine ⟨fun z => ?_, h2, hp, fun a ha b hb e => ?_⟩
  · rcases List.mem_append.mp z with z | z
    · exact h1 (List.mem_append_left _ z)
    · rcases g n z with q | q
      · exact h1 (List.mem_append_right _ q)
      · have := lt n List.mem_cons_self; omega
  · rcases g b hb with q | q
    · exact h4 a ha b q e
    · have := lt a (List.mem_cons_of_mem _ (List.mem_append_left _ ha)); omega
theorem grow_left {W W' : Ms} {n : Nat} {P P' Q : List Nat} (g : Grow W W' P P') : Grow W W' (n :: (P ++ Q)) (n :: (P' ++ Q)) :=
  (g.wide (R := n :: Q)).perm (fun i => by simp; grind) fun i => by simp; grind
theorem grow_right {W W' : Ms} {n : Nat} {P Q Q' : List Nat} (g : Grow W W' Q Q') : Grow W W' (n :: (P ++ Q)) (n :: (P ++ Q')) :=
  (g.wide (R := n :: P)).perm (fun i => by simp; grind) fun i => by simp; grind
abbrev CS := Str → D → Option Bool
def Ch (A : Ad) (W : Ms) (n : Nat) (F : List Nat) (cs : CS) : Prop := ∃ a d Xa Xd, F = n :: (ftX a Xa ++ ftX d Xd) ∧ F.Nodup ∧ W[n]? = some (.ins A.C_Changes [("added", .mu a), ("dropped", .mu d)]) ∧ Tab W a Xa ∧ Tab W d Xd ∧ full Xa ∧ full Xd ∧ (∀ m r, r ∈ at_ Xa m ↔ cs m r = some true) ∧ ∀ m r, r ∈ at_ Xd m ↔ cs m r = some false
@[simp] theorem ne_da : ¬ (("dropped" : Str) = "added") := by decide +kernel
@[simp] theorem b_da : (("dropped" : Str) == "added") = false := by decide +kernel
@[simp] theorem ne_na : ¬ (("note" : Str) = "added") := by decide +kernel
@[simp] theorem ne_nd : ¬ (("note" : Str) = "dropped") := by decide +kernel
theorem Ch.frame {A : Ad} {W W' : Ms} {n : Nat} {F : List Nat} {cs : CS} (h : Ch A W n F cs) (e : ∀ i ∈ F, W'[i]? = W[i]?) : Ch A W' n F cs := by
  obtain ⟨a, d, Xa, Xd, rfl, h1, h2, h3, h4, h5⟩ := h
  refine ⟨a, d, Xa, Xd, rfl, h1, by rw [e n List.mem_cons_self]; exact h2, h3.frame fun i hi => e i (List.mem_cons_of_mem _ (List.mem_append_left _ hi)), h4.frame fun i hi => e i (List.mem_cons_of_mem _ (List.mem_append_right _ hi)), h5⟩
theorem Ch.lt {A : Ad} {W : Ms} {n : Nat} {F : List Nat} {cs : CS} (h : Ch A W n F cs) : ∀ i ∈ F, i < W.length := by
  obtain ⟨a, d, Xa, Xd, rfl, h1, h2, h3, h4, h5⟩ := h
  intro i hi
  rcases List.mem_cons.mp hi with rfl | hi
  · exact (List.getElem?_eq_some_iff.mp h2).1
  · rcases List.mem_append.mp hi with hi | hi
    · exact h3.lt i hi
    · exact h4.lt i hi
open Classical in
noncomputable def updC (cs : CS) (m : Str) (r : D) (b : Bool) : CS := fun m' r' => if m' = m ∧ r' = r then (if cs m r = some (!b) then none else some b) else cs m' r'
theorem at_ok {W : Ms} {a : Nat} {X : TX} (h : Tab W a X) (m : Str) : okL3 (at_ X m) := by
  unfold at_
  cases q : X.lookup m with
  | none => exact ⟨(fun _ h => nomatch h), List.nodup_nil⟩
  | some y => exact h.kl _ (look_mem q)
section
variable (A : Ad)
theorem get_at {W : Ms} {a : Nat} {X : TX} (h : Tab W a X) (m : Str) : ∃ x, getM W (.mu a) [.d (.str m), .d (.dct [])] = .ok x W ∧ dctOf W x = some (rV (at_ X m)) ∧ srcOf W x = some ((at_ X m).map Vl.d) := by
  cases q : X.lookup m with
  | none =>
    refine ⟨.d (.dct []), ?_, ?_, ?_⟩
    · simp [getM, dctOf, h.t, okKey_dX, getK_dX, q]
    · simp [dctOf, at_, q, rV]
    · simp [srcOf, seqOf, lstOf, DL.tupOf, dctOf, at_, q]
  | some y =>
    obtain ⟨k, l⟩ := y
    have ek := h.r _ (look_mem q)
    simp only at ek
    refine ⟨.mu k, ?_, ?_, ?_⟩
    · simp [getM, dctOf, h.t, okKey_dX, getK_dX, q]
    · simp [dctOf, ek, at_, q]
    · simp [srcOf, seqOf, lstOf, DL.tupOf, dctOf, ek, at_, q, rV, List.map_map, Function.comp_def]
open Classical in
theorem in_at {W : Ms} {a : Nat} {X : TX} (h : Tab W a X) (m : Str) {r : D} (hr : r ∈ rw3) {ρ : Ev} (h5 : ρ[5]? = some (some (.mu a))) (h1 : ρ[1]? = some (some (.d (.str m)))) (h2 : ρ[2]? = some (some (.d r))) :
    tstV (eOp DL.inD (eVar 2) (eMt tyDct getM (eVar 5) (aCons (eVar 1) (aCons eDnew aNil)))) ρ W = .ok (decide (r ∈ at_ X m)) W := by
  obtain ⟨x, e1, e2, e3⟩ := get_at h m
  have ty : tyDct W (.mu a) = true := by simp [tyDct, dctOf, h.t]
  have e4 : DL.inD W (.d r) x = .ok (.d (.bl (decide (r ∈ at_ X m)))) W := by
    simp only [DL.inD, isIn, e2, okKey_rV hr (at_ok h m).s, if_true, getK_rV]
    by_cases z : r ∈ at_ X m <;> simp [z]
  simp only [tstV, eOp, eVar, h2, Res.bind_ok, eMt, h5, ty, if_true, aCons, h1, eDnew, aNil, e1, e4, blOf]
noncomputable abbrev noteEnd : FS := (sIf (tstV (eOp DL.inD (eVar 2) (eMt tyDct getM (eVar 5) (aCons (eVar 1) (aCons eDnew aNil))))) (sExpr (eCall (f_take_from A) [] (aCons (eVar 5) (aCons (eVar 1) (aCons (eVar 2) aNil))))) (sExpr (eCall (f_put_under A) [] (aCons (eVar 4) (aCons (eVar 1) (aCons (eVar 2) aNil))))))
open Classical in
theorem note_end {W : Ms} {a t : Nat} {X Y : TX} (h : Tab W a X) (h' : Tab W t Y) {m : Str} (hm : okN m) {r : D} (hr : r ∈ rw3) {x0 x3 : Vl} :
    ∃ W', noteEnd A [some x0, some (.d (.str m)), some (.d r), some x3, some (.mu a), some (.mu t)] W = .nx [some x0, some (.d (.str m)), some (.d r), some x3, some (.mu a), some (.mu t)] W' ∧
      ((r ∈ at_ Y m ∧ ∃ Y', Tab W' t Y' ∧ (∀ m', at_ Y' m' = if m' = m then del r (at_ Y m) else at_ Y m') ∧ Grow W W' (ftX t Y) (ftX t Y') ∧ (full Y → full Y')) ∨
       (r ∉ at_ Y m ∧ ∃ X', Tab W' a X' ∧ (∀ m', at_ X' m' = if m' = m then ins r (at_ X m) else at_ X m') ∧ Grow W W' (ftX a X) (ftX a X') ∧ (full X → full X'))) := by
  have e := in_at h' m hr (ρ := [some x0, some (.d (.str m)), some (.d r), some x3, some (.mu a), some (.mu t)]) rfl rfl rfl
  by_cases z : r ∈ at_ Y m
  · obtain ⟨Y', W', e1, p⟩ := take_from A h' hr z
    refine ⟨W', ?_, .inl ⟨z, Y', p⟩⟩
    simp only [noteEnd, sIf, e, Res.bindS_ok, z, decide_true, if_true, sExpr, eCall, aCons, aNil, eVar, List.getElem?_cons_zero, List.getElem?_cons_succ, Res.bind_ok, List.append_nil, e1]
  · obtain ⟨X', W', e1, p⟩ := put_under A h hm hr
    refine ⟨W', ?_, .inr ⟨z, X', p⟩⟩
    simp only [noteEnd, sIf, e, Res.bindS_ok, z, decide_false, Bool.false_eq_true, if_false, sExpr, eCall, aCons, aNil, eVar, List.getElem?_cons_zero, List.getElem?_cons_succ, Res.bind_ok, List.append_nil, e1]
theorem note {W : Ms} {n : Nat} {F : List Nat} {cs : CS} (h : Ch A W n F cs) {m : Str} (hm : okN m) {r : D} (hr : r ∈ rw3) (b : Bool) : ∃ F' W', f_Changes_note A [.mu n, .d (.str m), .d r, .d (.bl b)] W = .ok (.d .non) W' ∧ Ch A W' n F' (updC cs m r b) ∧ Grow W W' F F' := by
  have hlt := h.lt
  obtain ⟨a, d, Xa, Xd, rfl, h1, h2, h3, h4, h5, h6, h7, h8⟩ := h
  have hn : ∀ {W' : Ms} {P P' : List Nat}, Grow W W' P P' → n ∉ P → W'[n]? = W[n]? := fun g z => g.fr n (hlt n List.mem_cons_self) z
  have nd := List.nodup_cons.mp h1
  have na : n ∉ ftX a Xa := fun z => nd.1 (List.mem_append_left _ z)
  have nD : n ∉ ftX d Xd := fun z => nd.1 (List.mem_append_right _ z)
  have dj := (List.nodup_append.mp nd.2).2.2
  have fd : ∀ {W' : Ms} {X' : TX}, Grow W W' (ftX a Xa) (ftX a X') → Tab W' d Xd := fun g => h4.frame fun i hi => g.fr i (h4.lt i hi) fun z => dj i z i hi rfl
  have fa : ∀ {W' : Ms} {X' : TX}, Grow W W' (ftX d Xd) (ftX d X') → Tab W' a Xa := fun g => h3.frame fun i hi => g.fr i (h3.lt i hi) fun z => dj i hi i z rfl
  have fl : ∀ f : Str, (f = "added" ∨ f = "dropped") → ∀ ρ : Ev, ρ[0]? = some (some (.mu n)) → eFld f (eVar 0) ρ W = .ok (.mu (if f = "added" then a else d)) W := fun f hf ρ h0 => by
    rcases hf with rfl | rfl <;> simp [eFld, eUn, eVar, h0, fldOf, insOf, h2, List.lookup_cons]
  cases b with
  | true =>
    obtain ⟨W', e1, p⟩ := note_end A h3 h4 hm hr (x0 := .mu n) (x3 := .d (.bl true))
    have e0 : f_Changes_note A [.mu n, .d (.str m), .d r, .d (.bl true)] W = .ok (.d .non) W' := by
      have s1 : sIf (tstV (eVar 3)) (sAsgT 2 (aCons (eFld "added" (eVar 0)) (aCons (eFld "dropped" (eVar 0)) aNil)) (gsCons (gN 4) (gsCons (gN 5) gsNil))) (sAsgT 2 (aCons (eFld "dropped" (eVar 0)) (aCons (eFld "added" (eVar 0)) aNil)) (gsCons (gN 4) (gsCons (gN 5) gsNil))) [some (.mu n), some (.d (.str m)), some (.d r), some (.d (.bl true)), none, none] W = .nx [some (.mu n), some (.d (.str m)), some (.d r), some (.d (.bl true)), some (.mu a), some (.mu d)] W := by
        simp [sIf, tstV, eVar, blOf, sAsgT, aCons, aNil, fl "added" (.inl rfl) [some (.mu n), some (.d (.str m)), some (.d r), some (.d (.bl true)), none, none] rfl, fl "dropped" (.inr rfl) [some (.mu n), some (.d (.str m)), some (.d r), some (.d (.bl true)), none, none] rfl, gsCons, gN, gsNil]
      exact run0_nx (nn := 6) rfl ((sSeq_nx s1).trans e1)
    rcases p with ⟨z, Y', t1, t2, t3, t4⟩ | ⟨z, X', t1, t2, t3, t4⟩
    · refine ⟨_, W', e0, ⟨a, d, Xa, Y', rfl, nd_right h1 t1.nh t3.ft hlt, (hn t3 nD).trans h2, fa t3, t1, h5, t4 h6, fun m' r' => ?_, fun m' r' => ?_⟩, grow_right t3⟩
      · have hc := (h8 m r).mp z
        unfold updC
        by_cases e : m' = m ∧ r' = r
        · obtain ⟨rfl, rfl⟩ := e
          rw [h7, hc]
          simp
        · rw [if_neg e, h7]
      · have hc := (h8 m r).mp z
        unfold updC
        rw [t2]
        by_cases e : m' = m
        · subst e
          rw [if_pos rfl, mem_del, h8]
          by_cases e2 : r' = r
          · subst e2
            simp [hc]
          · simp [e2]
        · rw [if_neg e, if_neg (fun q => e q.1), h8]
    · refine ⟨_, W', e0, ⟨a, d, X', Xd, rfl, nd_left h1 t1.nh t3.ft hlt, (hn t3 na).trans h2, t1, fd t3, t4 h5, h6, fun m' r' => ?_, fun m' r' => ?_⟩, grow_left t3⟩
      · have hc : ¬ cs m r = some false := fun q => z ((h8 m r).mpr q)
        unfold updC
        rw [t2]
        by_cases e : m' = m
        · subst e
          rw [if_pos rfl, mem_ins, h7]
          by_cases e2 : r' = r
          · subst e2
            simp [hc]
          · simp [e2]
        · rw [if_neg e, if_neg (fun q => e q.1), h7]
      · have hc : ¬ cs m r = some false := fun q => z ((h8 m r).mpr q)
        unfold updC
        by_cases e : m' = m ∧ r' = r
        · obtain ⟨rfl, rfl⟩ := e
          rw [h8]
          simp [hc]
        · rw [if_neg e, h8]
  | false =>
    obtain ⟨W', e1, p⟩ := note_end A h4 h3 hm hr (x0 := .mu n) (x3 := .d (.bl false))
    have e0 : f_Changes_note A [.mu n, .d (.str m), .d r, .d (.bl false)] W = .ok (.d .non) W' := by
      have s1 : sIf (tstV (eVar 3)) (sAsgT 2 (aCons (eFld "added" (eVar 0)) (aCons (eFld "dropped" (eVar 0)) aNil)) (gsCons (gN 4) (gsCons (gN 5) gsNil))) (sAsgT 2 (aCons (eFld "dropped" (eVar 0)) (aCons (eFld "added" (eVar 0)) aNil)) (gsCons (gN 4) (gsCons (gN 5) gsNil))) [some (.mu n), some (.d (.str m)), some (.d r), some (.d (.bl false)), none, none] W = .nx [some (.mu n), some (.d (.str m)), some (.d r), some (.d (.bl false)), some (.mu d), some (.mu a)] W := by
        simp [sIf, tstV, eVar, blOf, sAsgT, aCons, aNil, fl "added" (.inl rfl) [some (.mu n), some (.d (.str m)), some (.d r), some (.d (.bl false)), none, none] rfl, fl "dropped" (.inr rfl) [some (.mu n), some (.d (.str m)), some (.d r), some (.d (.bl false)), none, none] rfl, gsCons, gN, gsNil]
      exact run0_nx (nn := 6) rfl ((sSeq_nx s1).trans e1)
    rcases p with ⟨z, Y', t1, t2, t3, t4⟩ | ⟨z, X', t1, t2, t3, t4⟩
    · refine ⟨_, W', e0, ⟨a, d, Y', Xd, rfl, nd_left h1 t1.nh t3.ft hlt, (hn t3 na).trans h2, t1, fd t3, t4 h5, h6, fun m' r' => ?_, fun m' r' => ?_⟩, grow_left t3⟩
      · have hc := (h7 m r).mp z
        unfold updC
        rw [t2]
        by_cases e : m' = m
        · subst e
          rw [if_pos rfl, mem_del, h7]
          by_cases e2 : r' = r
          · subst e2
            simp [hc]
          · simp [e2]
        · rw [if_neg e, if_neg (fun q => e q.1), h7]
      · have hc := (h7 m r).mp z
        unfold updC
        by_cases e : m' = m ∧ r' = r
        · obtain ⟨rfl, rfl⟩ := e
          rw [h8, hc]
          simp
        · rw [if_neg e, h8]
    · refine ⟨_, W', e0, ⟨a, d, Xa, X', rfl, nd_right h1 t1.nh t3.ft hlt, (hn t3 nD).trans h2, fa t3, t1, h5, t4 h6, fun m' r' => ?_, fun m' r' => ?_⟩, grow_right t3⟩
      · have hc : ¬ cs m r = some true := fun q => z ((h7 m r).mpr q)
        unfold updC
        by_cases e : m' = m ∧ r' = r
        · obtain ⟨rfl, rfl⟩ := e
          rw [h7]
          simp [hc]
        · rw [if_neg e, h7]
      · have hc : ¬ cs m r = some true := fun q => z ((h7 m r).mpr q)
        unfold updC
        rw [t2]
        by_cases e : m' = m
        · subst e
          rw [if_pos rfl, mem_ins, h8]
          by_cases e2 : r' = r
          · subst e2
            simp [hc]
          · simp [e2]
        · rw [if_neg e, if_neg (fun q => e q.1), h8]
end
end Toy

set_option Elab.async false
set_option linter.all false
set_option maxRecDepth 100000
set_option maxHeartbeats 4000000
namespace Toy
open PySem L2 DL
/-! ## what changes tell -/
@[simp] theorem ne_ad : ¬ (("added" : Str) = "dropped") := by decide +kernel
theorem at_names {X : TX} (hf : full X) (hd : (X.map (·.1)).Nodup) (m : Str) : m ∈ X.map (·.1) ↔ ∃ r, r ∈ at_ X m := by
  constructor
  · intro h
    obtain ⟨x, hx, rfl⟩ := List.mem_map.mp h
    have q : X.lookup x.1 = some x.2 := by
      clear hf h
      induction X with
      | nil => exact nomatch hx
      | cons y X ih =>
        obtain ⟨k, z⟩ := y
        rw [List.map_cons, List.nodup_cons] at hd
        rcases List.mem_cons.mp hx with rfl | hx
        · simp
        · have : ¬ x.1 = k := fun e => hd.1 (e ▸ List.mem_map_of_mem (f := (·.1)) hx)
          rw [List.lookup_cons, show (x.1 == k) = false by simpa using this]
          exact ih hd.2 hx
    have := hf x hx
    have e : at_ X x.1 = x.2.2 := by simp [at_, q]
    rw [e]
    exact List.exists_mem_of_ne_nil _ this
  · rintro ⟨r, hr⟩
    unfold at_ at hr
    cases q : X.lookup m with
    | none => rw [q] at hr; exact nomatch hr
    | some y => exact List.mem_map.mpr ⟨_, look_mem (h := y.1) (l := y.2) q, rfl⟩
/-! ### the keys of a dict that is made of names -/
open Classical in
noncomputable def addK (acc : List Str) (n : Str) : List Str := if n ∈ acc then acc else acc ++ [n]
def kV (l : List Str) : List (D × Vl) := l.map fun n => (D.str n, Vl.d (.bl true))
theorem put_kV (n : Str) (acc : List Str) : putKD (.str n) (.d (.bl true)) (kV acc) = kV (addK acc n) := by
  unfold putKD addK
  have e : (∃ p ∈ kV acc, p.1 = D.str n) ↔ n ∈ acc := ⟨fun ⟨p, hp, e⟩ => by
    obtain ⟨x, hx, rfl⟩ := List.mem_map.mp hp
    rw [← D.str.inj e]
    exact hx, fun h => ⟨_, List.mem_map_of_mem (f := fun n => (D.str n, Vl.d (.bl true))) h, rfl⟩⟩
  by_cases h : n ∈ acc
  · rw [if_pos (e.mpr h), if_pos h]
    simp only [kV, List.map_map]
    refine List.map_congr_left fun x _ => ?_
    simp only [Function.comp]
    split <;> rfl
  · rw [if_neg (fun z => h (e.mp z)), if_neg h]
    simp [kV]
theorem addK_all : ∀ (l acc : List Str), acc.Nodup → (l.foldl addK acc).Nodup ∧ ∀ n, n ∈ l.foldl addK acc ↔ n ∈ acc ∨ n ∈ l
  | [], acc, h => ⟨h, fun n => by simp⟩
  | x :: l, acc, h => by
    have h1 : (addK acc x).Nodup ∧ ∀ n, n ∈ addK acc x ↔ n ∈ acc ∨ n = x := by
      unfold addK
      split
      · rename_i z
        exact ⟨h, fun n => ⟨.inl, fun q => q.elim id fun e => e ▸ z⟩⟩
      · rename_i z
        refine ⟨?_, fun n => by simp⟩
        rw [List.nodup_append]
        exact ⟨h, by simp, fun a ha b hb e => z (by rw [List.mem_singleton.mp hb] at e; rw [← e]; exact ha)⟩
    obtain ⟨h2, h3⟩ := addK_all l (addK acc x) h1.1
    refine ⟨h2, fun n => ?_⟩
    rw [List.foldl_cons, h3, h1.2, List.mem_cons, or_assoc]
theorem dc_names (W : Ms) {ρ : Ev} (h1 : 1 < ρ.length) : ∀ (l acc : List Str), dcL yes (gN 1) (nxE tstYes) (nxE (eVar 1)) (nxE (eC (.bl true))) ρ (kV acc) (l.map fun n => Vl.d (.str n)) W = .ok (kV (l.foldl addK acc)) W
  | [], acc => by simp [dcL, yes]
  | n :: l, acc => by
    have e1 : nxE tstYes (ρ.set 1 (some (.d (.str n)))) W = .ok true W := rfl
    have e2 : nxE (eVar 1) (ρ.set 1 (some (.d (.str n)))) W = .ok (.d (.str n)) W := by
      have : (ρ.set 1 (some (.d (.str n))))[1]? = some (some (.d (.str n))) := by rw [List.getElem?_set_self h1]
      simp [nxE, eVar, this]
    have e3 : nxE (eC (.bl true)) (ρ.set 1 (some (.d (.str n)))) W = .ok (.d (.bl true)) W := rfl
    simp only [List.map_cons, dcL, yes, if_true, gN, e1, e2, e3, Res.bind_ok, dcL.keyV, put_kV]
    exact dc_names W h1 l (addK acc n)
theorem dctD_kV : ∀ l : List Str, dctD (kV l) = some (l.map fun n => (D.str n, D.bl true))
  | [] => rfl
  | n :: l => by
    have ih := dctD_kV l
    simp only [dctD, kV, List.map_cons, List.foldr_cons] at ih ⊢
    rw [ih]
theorem src_dX {W : Ms} {a : Nat} {X : TX} (h : W[a]? = some (.dct (dX X))) : srcOf W (.mu a) = some ((X.map (·.1)).map fun n => Vl.d (.str n)) := by
  simp [srcOf, seqOf, lstOf, DL.tupOf, dctOf, h, dX, List.map_map, Function.comp_def]
noncomputable def nmOf (cs : CS) : List Str := nmC fun m => ∃ r, cs m r ≠ none
noncomputable def shC (cs : CS) : D := .tup ((nmOf cs).map fun m => .tup [.str m, .tup (canon fun r => cs m r = some true), .tup (canon fun r => cs m r = some false)])
theorem nmOf_len (cs : CS) : (nmOf cs).length ≤ 2 := by
  refine names_len ?_ fun n hn => (mem_nmC.mp hn).1
  unfold nmOf nmC
  exact (show (["p", "q"] : List Str).Nodup by simp).filter _
section
variable (A : Ad)
theorem Ch.came {W : Ms} {n : Nat} {F : List Nat} {cs : CS} (h : Ch A W n F cs) (m : Str) : ∃ l, okL3 l ∧ (∀ r, r ∈ l ↔ cs m r = some true) ∧ f_Changes_came A [.mu n, .d (.str m)] W = .ok (.d (.lst l)) W := by
  obtain ⟨a, d, Xa, Xd, rfl, h1, h2, h3, h4, h5, h6, h7, h8⟩ := h
  obtain ⟨x, e1, e2, e3⟩ := get_at h3 m
  refine ⟨at_ Xa m, at_ok h3 m, h7 m, ?_⟩
  have ty : tyDct W (.mu a) = true := by simp [tyDct, dctOf, h3.t]
  have e4 : lstD W [x] = .ok (.d (.lst (at_ Xa m))) W := by
    simp only [lstD, e3]
    exact mkLst_map _ _ (by have := (at_ok h3 m).len; omega)
  have e5 : eFld "added" (eVar 0) [some (.mu n), some (.d (.str m))] W = .ok (.mu a) W := by simp [eFld, eUn, eVar, fldOf, insOf, h2, List.lookup_cons]
  refine run0_rt (nn := 2) rfl ?_
  show (sRet _) [some (.mu n), some (.d (.str m))] W = _
  simp only [sRet, eCB, aCons, aNil, eMt, e5, Res.bind_ok, ty, if_true, eVar, List.getElem?_cons_succ, List.getElem?_cons_zero, eDnew, e1, e4, Res.bindS_ok]
theorem Ch.went {W : Ms} {n : Nat} {F : List Nat} {cs : CS} (h : Ch A W n F cs) (m : Str) : ∃ l, okL3 l ∧ (∀ r, r ∈ l ↔ cs m r = some false) ∧ f_Changes_went A [.mu n, .d (.str m)] W = .ok (.d (.lst l)) W := by
  obtain ⟨a, d, Xa, Xd, rfl, h1, h2, h3, h4, h5, h6, h7, h8⟩ := h
  obtain ⟨x, e1, e2, e3⟩ := get_at h4 m
  refine ⟨at_ Xd m, at_ok h4 m, h8 m, ?_⟩
  have ty : tyDct W (.mu d) = true := by simp [tyDct, dctOf, h4.t]
  have e4 : lstD W [x] = .ok (.d (.lst (at_ Xd m))) W := by
    simp only [lstD, e3]
    exact mkLst_map _ _ (by have := (at_ok h4 m).len; omega)
  have e5 : eFld "dropped" (eVar 0) [some (.mu n), some (.d (.str m))] W = .ok (.mu d) W := by simp [eFld, eUn, eVar, fldOf, insOf, h2, List.lookup_cons]
  refine run0_rt (nn := 2) rfl ?_
  show (sRet _) [some (.mu n), some (.d (.str m))] W = _
  simp only [sRet, eCB, aCons, aNil, eMt, e5, Res.bind_ok, ty, if_true, eVar, List.getElem?_cons_succ, List.getElem?_cons_zero, eDnew, e1, e4, Res.bindS_ok]
theorem Ch.names {W : Ms} {n : Nat} {F : List Nat} {cs : CS} (h : Ch A W n F cs) : f_Changes_names A [.mu n] W = .ok (.d (.tup ((nmOf cs).map D.str))) W := by
  obtain ⟨a, d, Xa, Xd, rfl, h1, h2, h3, h4, h5, h6, h7, h8⟩ := h
  have la := h3.len
  have ld := h4.len
  have l1 : ∀ {k : Nat} {X : TX}, Tab W k X → lstD W [.mu k] = .ok (.d (.lst ((X.map (·.1)).map D.str))) W := fun {k X} t => by
    have := t.len
    simp only [lstD, src_dX t.t]
    have e := mkLst_map ((X.map (·.1)).map D.str) W (by simp; omega)
    rw [List.map_map] at e
    exact e
  have fa : eCB lstD (aCons (eFld "added" (eVar 0)) aNil) [some (.mu n), none] W = .ok (.d (.lst ((Xa.map (·.1)).map D.str))) W := by
    rw [eCB1 (x := .mu a) (W1 := W) (by simp [eFld, eUn, eVar, fldOf, insOf, h2, List.lookup_cons]), l1 h3]
  have fd : eCB lstD (aCons (eFld "dropped" (eVar 0)) aNil) [some (.mu n), none] W = .ok (.d (.lst ((Xd.map (·.1)).map D.str))) W := by
    rw [eCB1 (x := .mu d) (W1 := W) (by simp [eFld, eUn, eVar, fldOf, insOf, h2, List.lookup_cons]), l1 h4]
  have ad : addD W (.d (.lst ((Xa.map (·.1)).map D.str))) (.d (.lst ((Xd.map (·.1)).map D.str))) = .ok (.d (.lst ((Xa.map (·.1) ++ Xd.map (·.1)).map D.str))) W := by
    have e := mkLst_map ((Xa.map (·.1) ++ Xd.map (·.1)).map D.str) W (by simp; omega)
    simp only [addD, intOf, strOf, lstOf]
    rw [← e]
    exact congrArg (mkLst · W) (by simp)
  have hi : iS (eOp addD (eCB lstD (aCons (eFld "added" (eVar 0)) aNil)) (eCB lstD (aCons (eFld "dropped" (eVar 0)) aNil))) [some (.mu n), none] W = .ok ⟨(Xa.map (·.1) ++ Xd.map (·.1)).map fun n => Vl.d (.str n), yes⟩ W := by
    simp only [iS, eOp, fa, fd, Res.bind_ok, ad, seq_lst]
    rw [List.map_map]
    rfl
  obtain ⟨k1, k2⟩ := addK_all (Xa.map (·.1) ++ Xd.map (·.1)) [] List.nodup_nil
  have hm : ∀ m, m ∈ (Xa.map (·.1) ++ Xd.map (·.1)).foldl addK [] ↔ ∃ r, cs m r ≠ none := fun m => by
    rw [k2, List.mem_append, at_names h5 h3.nn, at_names h6 h4.nn]
    constructor
    · rintro (z | ⟨r, z⟩ | ⟨r, z⟩)
      · exact nomatch z
      · exact ⟨r, by rw [(h7 m r).mp z]; simp⟩
      · exact ⟨r, by rw [(h8 m r).mp z]; simp⟩
    · rintro ⟨r, z⟩
      refine .inr ?_
      cases q : cs m r with
      | none => exact absurd q z
      | some b => cases b with
        | true => exact .inl ⟨r, (h7 m r).mpr q⟩
        | false => exact .inr ⟨r, (h8 m r).mpr q⟩
  have hn : ∀ m ∈ (Xa.map (·.1) ++ Xd.map (·.1)).foldl addK [], okN m := fun m z => by
    rw [k2, List.mem_append] at z
    rcases z with z | z | z
    · exact nomatch z
    · obtain ⟨x, hx, rfl⟩ := List.mem_map.mp z
      exact h3.kn x hx
    · obtain ⟨x, hx, rfl⟩ := List.mem_map.mp z
      exact h4.kn x hx
  have dc : eDc (iS (eOp addD (eCB lstD (aCons (eFld "added" (eVar 0)) aNil)) (eCB lstD (aCons (eFld "dropped" (eVar 0)) aNil)))) (gN 1) (nxE tstYes) (nxE (eVar 1)) (nxE (eC (.bl true))) [1] [some (.mu n), none] W = .ok (.d (.dct (((Xa.map (·.1) ++ Xd.map (·.1)).foldl addK []).map fun n => (D.str n, D.bl true)))) W := by
    have hz : ((Xa.map (·.1) ++ Xd.map (·.1)).map fun n => Vl.d (.str n)).length ≤ 1000000 := by simp; omega
    have := dc_names W (ρ := wipeE [some (.mu n), none] [1]) (by simp [wipeE]) (Xa.map (·.1) ++ Xd.map (·.1)) []
    simp only [eDc, hi, Res.bind_ok, dcB, if_pos hz]
    rw [show ([] : List (D × Vl)) = kV [] from rfl, this]
    simp only [Res.bind_ok, mkDct, dctD_kV]
  have so := sort_names k1 hn (W := W) (x := .d (.dct (((Xa.map (·.1) ++ Xd.map (·.1)).foldl addK []).map fun n => (D.str n, D.bl true)))) (by simp [srcOf, seqOf, lstOf, DL.tupOf, dctOf, List.map_map, Function.comp_def])
  have en : nmC (· ∈ (Xa.map (·.1) ++ Xd.map (·.1)).foldl addK []) = nmOf cs := by
    unfold nmOf
    congr 1
    exact funext fun m => propext (hm m)
  rw [en] at so
  refine run0_rt (nn := 2) rfl ?_
  show (sRet _) [some (.mu n), none] W = _
  simp only [sRet]
  rw [eCB1 (x := .d (.lst ((nmOf cs).map D.str))) (W1 := W) (by rw [eCB1 dc, so]), tupD_lst _ _ (by have := nmOf_len cs; simp; omega)]
  rfl
theorem init (W : Ms) : ∃ F W', f_Changes_init A [.mu W.length] (W ++ [.ins A.C_Changes []]) = .ok (.d .non) W' ∧ Ch A W' W.length F (fun _ _ => none) ∧ Grow W W' [] F := by
  refine ⟨[W.length, W.length + 1, W.length + 2], W ++ [.ins A.C_Changes [("added", .mu (W.length + 1)), ("dropped", .mu (W.length + 2))], .dct [], .dct []], ?_, ⟨W.length + 1, W.length + 2, [], [], rfl, by simp, by simp, ⟨by simp [dX], (fun _ h => nomatch h), by simp, by simp, (fun _ h => nomatch h), fun _ h => nomatch h⟩, ⟨by simp [dX], (fun _ h => nomatch h), by simp, by simp, (fun _ h => nomatch h), fun _ h => nomatch h⟩, (fun _ h => nomatch h), (fun _ h => nomatch h), fun m r => by simp [at_], fun m r => by simp [at_]⟩, ⟨by simp, fun i hi _ => List.getElem?_append_left hi, fun i hi => .inr ?_⟩⟩
  · simp [f_Changes_init, run0, b_Changes_init, startE, sSeq, sFldSet, eDnewM, eVar, setFld, putV]
  · simp only [List.mem_cons, List.not_mem_nil, or_false] at hi
    omega
theorem newCh (W : Ms) (ρ : Ev) : ∃ F W', eMakeM A.C_Changes (f_Changes_init A) [] aNil ρ W = .ok (.mu W.length) W' ∧ Ch A W' W.length F (fun _ _ => none) ∧ Grow W W' [] F := by
  obtain ⟨F, W', e, p⟩ := init A W
  exact ⟨F, W', by simp [eMakeM, aNil, e, DL.isNon], p⟩
end
end Toy

set_option Elab.async false
set_option linter.all false
set_option maxRecDepth 100000
set_option maxHeartbeats 4000000
namespace Toy
open PySem L2 DL
/-! ## changes shown and turned -/
theorem Grow.keeps {W W' : Ms} {F F' G : List Nat} (g : Grow W W' F F') (ap : ∀ i ∈ G, i ∉ F) (lt : ∀ i ∈ G, i < W.length) : (∀ i ∈ G, i ∉ F') ∧ (∀ i ∈ G, W'[i]? = W[i]?) ∧ ∀ i ∈ G, i < W'.length :=
  ⟨fun i hi z => (g.ft i z).elim (ap i hi) fun q => by have := lt i hi; omega, fun i hi => g.fr i (lt i hi) (ap i hi), fun i hi => Nat.lt_of_lt_of_le (lt i hi) g.le⟩
theorem nb : (("names" : Str) == "added") = false ∧ (("names" : Str) == "dropped") = false ∧ (("came" : Str) == "added") = false ∧ (("came" : Str) == "dropped") = false ∧ (("went" : Str) == "added") = false ∧ (("went" : Str) == "dropped") = false ∧ (("note" : Str) == "added") = false ∧ (("note" : Str) == "dropped") = false ∧ (("shown" : Str) == "added") = false ∧ (("shown" : Str) == "dropped") = false ∧ (("turned" : Str) == "added") = false ∧ (("turned" : Str) == "dropped") = false ∧ (("is_bare" : Str) == "added") = false ∧ (("is_bare" : Str) == "dropped") = false := by decide +kernel
section
variable {A : Ad}
theorem Ch.isI {W : Ms} {n : Nat} {F : List Nat} {cs : CS} (h : Ch A W n F cs) {m : Str} (h1 : (m == "added") = false) (h2 : (m == "dropped") = false) : DL.isI A.C_Changes m W (.mu n) = true := by
  obtain ⟨a, d, Xa, Xd, rfl, _, q, _⟩ := h
  simp [DL.isI, insOf, q, List.lookup_cons, h1, h2]
theorem Ch.ok {W : Ms} {n : Nat} {F : List Nat} {cs : CS} (h : Ch A W n F cs) {m : Str} {r : D} (q : cs m r ≠ none) : okN m ∧ r ∈ rw3 := by
  obtain ⟨a, d, Xa, Xd, rfl, h1, h2, h3, h4, h5, h6, h7, h8⟩ := h
  cases z : cs m r with
  | none => exact absurd z q
  | some b =>
    cases b with
    | true =>
      have hr := (h7 m r).mpr z
      obtain ⟨x, hx, rfl⟩ := List.mem_map.mp ((at_names h5 h3.nn m).mpr ⟨r, hr⟩)
      exact ⟨h3.kn x hx, (at_ok h3 _).s r hr⟩
    | false =>
      have hr := (h8 m r).mpr z
      obtain ⟨x, hx, rfl⟩ := List.mem_map.mp ((at_names h6 h4.nn m).mpr ⟨r, hr⟩)
      exact ⟨h4.kn x hx, (at_ok h4 _).s r hr⟩
theorem meth0 {W : Ms} {C : Addr} {m : Str} {f : FD} {fa : FE} {ρ : Ev} {n : Nat} (ha : fa ρ W = .ok (.mu n) W) (hi : DL.isI C m W (.mu n) = true) : eMeth C m f [] fa aNil ρ W = f [.mu n] W := by
  simp only [eMeth, ha, Res.bind_ok, hi, if_true, aNil, List.append_nil]
theorem meth1 {W : Ms} {C : Addr} {m : Str} {f : FD} {fa fb : FE} {ρ : Ev} {n : Nat} {x : Vl} (ha : fa ρ W = .ok (.mu n) W) (hi : DL.isI C m W (.mu n) = true) (hb : fb ρ W = .ok x W) : eMeth C m f [] fa (aCons fb aNil) ρ W = f [.mu n, x] W := by
  simp only [eMeth, ha, Res.bind_ok, hi, if_true, aCons, hb, aNil, List.append_nil]
end
section
variable (A : Ad)
theorem Ch.shown {W : Ms} {n : Nat} {F : List Nat} {cs : CS} (h : Ch A W n F cs) : f_Changes_shown A [.mu n] W = .ok (.d (shC cs)) W := by
  obtain ⟨b1, b2, b3, b4, b5, b6, _⟩ := nb
  have hl := nmOf_len cs
  have hi : iS (eMeth A.C_Changes "names" (f_Changes_names A) [] (eVar 0) aNil) [some (.mu n), none] W = .ok ⟨(nmOf cs).map fun m => Vl.d (.str m), yes⟩ W := by
    simp only [iS]
    rw [meth0 (n := n) rfl (h.isI b1 b2), h.names]
    simp only [Res.bind_ok, seq_tup, List.map_map, Function.comp_def]
  have e := eLc_all (fi := iS (eMeth A.C_Changes "names" (f_Changes_names A) [] (eVar 0) aNil)) (fg := gN 1) (f := nxE (eTup (aCons (eVar 1) (aCons (eCall (f_in_order A) [] (aCons (eMeth A.C_Changes "came" (f_Changes_came A) [] (eVar 0) (aCons (eVar 1) aNil)) aNil)) (aCons (eCall (f_in_order A) [] (aCons (eMeth A.C_Changes "went" (f_Changes_went A) [] (eVar 0) (aCons (eVar 1) aNil)) aNil)) aNil))))) (vs := [1]) (ρ := [some (.mu n), none]) (W := W) (fun m : Str => Vl.d (.str m)) (fun m => D.tup [.str m, .tup (canon fun r => cs m r = some true), .tup (canon fun r => cs m r = some false)]) (nmOf cs) hi (by omega) fun m hm => by
    obtain ⟨l1, o1, m1, c1⟩ := h.came A m
    obtain ⟨l2, o2, m2, c2⟩ := h.went A m
    refine ⟨[some (.mu n), some (.d (.str m))], rfl, ?_⟩
    have k1 : eMeth A.C_Changes "came" (f_Changes_came A) [] (eVar 0) (aCons (eVar 1) aNil) [some (.mu n), some (.d (.str m))] W = .ok (.d (.lst l1)) W := by rw [meth1 (n := n) rfl (h.isI b3 b4) rfl, c1]
    have k2 : eMeth A.C_Changes "went" (f_Changes_went A) [] (eVar 0) (aCons (eVar 1) aNil) [some (.mu n), some (.d (.str m))] W = .ok (.d (.lst l2)) W := by rw [meth1 (n := n) rfl (h.isI b5 b6) rfl, c2]
    have i1 := in_order A (W := W) o1 (x := .d (.lst l1)) rfl
    have i2 := in_order A (W := W) o2 (x := .d (.lst l2)) rfl
    rw [show canon (· ∈ l1) = canon fun r => cs m r = some true from congrArg canon (funext fun r => propext (m1 r))] at i1
    rw [show canon (· ∈ l2) = canon fun r => cs m r = some false from congrArg canon (funext fun r => propext (m2 r))] at i2
    simp only [nxE, eTup, aCons, eCall1 k1, i1, eCall1 k2, i2, eVar, List.getElem?_cons_succ, List.getElem?_cons_zero, Res.bind_ok, aNil]
    simp [mkTup, dsOf]
  refine run0_rt (nn := 2) rfl ?_
  show (sRet _) [some (.mu n), none] W = _
  simp only [sRet]
  rw [eCB1 e, tupD_lst _ _ (by simp; omega)]
  rfl
theorem sh_names : ∀ l : List Str, (∀ n ∈ l, okN n) → shapedD (.tup (l.map D.str)) = true := fun l h => by
  have ok : ∀ n, okN n → (D.str n).ok = true := fun n h => by rcases h with rfl | rfl <;> decide +kernel
  simp only [shapedD, Bool.and_eq_true, decide_eq_true_eq]
  refine ⟨okL_map D.str l fun n hn => ok n (h n hn), ?_⟩
  show depL (l.map D.str) + 1 ≤ 64
  have := depL_map D.str 0 l fun n hn => Nat.le_refl _
  omega
theorem nm_ok (cs : CS) : ∀ n ∈ nmOf cs, okN n := fun n hn => (mem_nmC.mp hn).1
open Classical in
theorem Ch.bare {W : Ms} {n : Nat} {F : List Nat} {cs : CS} (h : Ch A W n F cs) : f_Changes_is_bare A [.mu n] W = .ok (.d (.bl (decide (nmOf cs = [])))) W := by
  obtain ⟨b1, b2, _⟩ := nb
  refine run0_rt (nn := 1) rfl ?_
  show (sRet _) [some (.mu n)] W = _
  simp only [sRet, eOp]
  rw [meth0 (n := n) rfl (h.isI b1 b2), h.names]
  have e := eqD_sh (W := W) (sh_names (nmOf cs) (nm_ok cs)) (show shapedD (.tup []) = true by decide +kernel)
  have et : eTup aNil [some (.mu n)] W = .ok (.d (.tup [])) W := rfl
  simp only [Res.bind_ok, et, e, Res.bindS_ok]
  congr 3
  simp
open Classical in
theorem note_rows {k : Nat} {x0 : Vl} (b : Bool) {m : Str} (hm : okN m) : ∀ (l : List D) (W : Ms) (F : List Nat) (co : CS) (o3 : Option Vl), Ch A W k F co → (∀ r ∈ l, r ∈ rw3) → l.Nodup → (∀ r ∈ l, co m r = none) →
    ∃ o3' F' W', forL yes (gN 3) (sExpr (eMeth A.C_Changes "note" (f_Changes_note A) [] (eVar 1) (aCons (eVar 2) (aCons (eVar 3) (aCons (eC (.bl b)) aNil))))) (l.map Vl.d) [some x0, some (.mu k), some (.d (.str m)), o3] W = .nx [some x0, some (.mu k), some (.d (.str m)), o3'] W' ∧
      (∃ co', Ch A W' k F' co' ∧ ∀ m' r, co' m' r = if m' = m ∧ r ∈ l then some b else co m' r) ∧ Grow W W' F F'
  | [], W, F, co, o3, h, _, _, _ => ⟨o3, F, W, by simp [forL, yes], ⟨co, h, fun m' r => by simp⟩, .refl⟩
  | r :: l, W, F, co, o3, h, hr, hd, hc => by
    rw [List.nodup_cons] at hd
    obtain ⟨_, _, _, _, _, _, b7, b8, _⟩ := nb
    obtain ⟨F1, W1, e1, h1, g1⟩ := note A h hm (hr r List.mem_cons_self) b
    have hu : ∀ m' r', updC co m r b m' r' = if m' = m ∧ r' = r then some b else co m' r' := fun m' r' => by
      unfold updC
      rw [hc r List.mem_cons_self]
      simp
    obtain ⟨o3', F2, W2, e2, ⟨co', h2, h3⟩, g2⟩   := note_rows (x0 := x0) b hm l W1 F1 (updC co m r b) (some (.d r)) h1 (fun s hs => hr s (List.mem_cons_of_mem _ hs)) hd.2 fun s hs => by
      rw [hu, if_neg (fun z : m = m ∧ s = r => hd.1 (z.2 ▸ hs))]
      exact hc s (List.mem_cons_of_mem _ hs)
    refine ⟨o3', F2, W2, ?_, ⟨co', h2, fun m' r' => ?_⟩, g1.trans g2⟩
    · have eb : sExpr (eMeth A.C_Changes "note" (f_Changes_note A) [] (eVar 1) (aCons (eVar 2) (aCons (eVar 3) (aCons (eC (.bl b)) aNil)))) [some x0, some (.mu k), some (.d (.str m)), some (.d r)] W = .nx [some x0, some (.mu k), some (.d (.str m)), some (.d r)] W1 := by
        simp only [sExpr, eMeth, eVar, List.getElem?_cons_succ, List.getElem?_cons_zero, Res.bind_ok, h.isI b7 b8, if_true, aCons, eC, aNil, List.append_nil, e1, Res.bindS_ok]
      have eg : gN 3 (Vl.d r) [some x0, some (.mu k), some (.d (.str m)), o3] = some [some x0, some (.mu k), some (.d (.str m)), some (.d r)] := rfl
      simp only [List.map_cons, forL, yes, if_true, eg, eb, e2]
    · rw [h3, hu]
      by_cases z : m' = m
      · subst z
        by_cases z2 : r' = r
        · subst z2
          simp
        · simp [z2]
      · simp [z]
noncomputable abbrev turnBody : FS := (sSeq (sFor (iS (eMeth A.C_Changes "came" (f_Changes_came A) [] (eVar 0) (aCons (eVar 2) aNil))) (gN 3) (sExpr (eMeth A.C_Changes "note" (f_Changes_note A) [] (eVar 1) (aCons (eVar 2) (aCons (eVar 3) (aCons (eC (.bl false)) aNil))))))
      (sFor (iS (eMeth A.C_Changes "went" (f_Changes_went A) [] (eVar 0) (aCons (eVar 2) aNil))) (gN 3) (sExpr (eMeth A.C_Changes "note" (f_Changes_note A) [] (eVar 1) (aCons (eVar 2) (aCons (eVar 3) (aCons (eC (.bl true)) aNil)))))))
open Classical in
theorem turn_loop {n k : Nat} {Fn : List Nat} {cs : CS} : ∀ (ms : List Str) (W : Ms) (F : List Nat) (co : CS) (o2 o3 : Option Vl), Ch A W k F co → Ch A W n Fn cs → (∀ i ∈ Fn, i ∉ F) → ms.Nodup → (∀ m ∈ ms, okN m) → (∀ m ∈ ms, ∀ r, co m r = none) →
    ∃ o2' o3' F' W', forL yes (gN 2) (turnBody A) (ms.map fun m => Vl.d (.str m)) [some (.mu n), some (.mu k), o2, o3] W = .nx [some (.mu n), some (.mu k), o2', o3'] W' ∧
      (∃ co', Ch A W' k F' co' ∧ ∀ m r, co' m r = if m ∈ ms then (cs m r).map (!·) else co m r) ∧ Grow W W' F F'
  | [], W, F, co, o2, o3, h, _, _, _, _, _ => ⟨o2, o3, F, W, by simp [forL, yes], ⟨co, h, fun m' r => by simp⟩, .refl⟩
  | m :: ms, W, F, co, o2, o3, h, hn, ap, hd, hok, hc => by
    rw [List.nodup_cons] at hd
    obtain ⟨_, _, b3, b4, b5, b6, _⟩ := nb
    have hm := hok m List.mem_cons_self
    obtain ⟨l1, o1, m1, c1⟩ := hn.came A m
    obtain ⟨o3a, F1, W1, e1, ⟨co1, h1, q1⟩, g1⟩ := note_rows A (x0 := .mu n) false hm l1 W F co o3 h o1.s o1.d fun r hr => hc m List.mem_cons_self r
    obtain ⟨ap1, k1, _⟩ := g1.keeps ap hn.lt
    have hn1 := hn.frame k1
    obtain ⟨l2, o2x, m2, c2⟩ := hn1.went A m
    obtain ⟨o3b, F2, W2, e2, ⟨co2, h2, q2⟩, g2⟩ := note_rows A (x0 := .mu n) true hm l2 W1 F1 co1 o3a h1 o2x.s o2x.d fun r hr => by
      rw [q1, if_neg, hc m List.mem_cons_self]
      rintro ⟨_, z⟩
      rw [m1] at z
      rw [m2, z] at hr
      cases hr
    obtain ⟨ap2, k2, _⟩ := g2.keeps ap1 hn1.lt
    have hn2 := hn1.frame k2
    obtain ⟨o2', o3', F3, W3, e3, ⟨co3, h3, q3⟩, g3⟩ := turn_loop ms W2 F2 co2 (some (.d (.str m))) o3b h2 hn2 ap2 hd.2 (fun x hx => hok x (List.mem_cons_of_mem _ hx)) fun x hx r => by
      have : x ≠ m := fun z => hd.1 (z ▸ hx)
      rw [q2, if_neg (fun z => this z.1), q1, if_neg (fun z => this z.1)]
      exact hc x (List.mem_cons_of_mem _ hx) r
    refine ⟨o2', o3', F3, W3, ?_, ⟨co3, h3, fun m' r => ?_⟩, (g1.trans g2).trans g3⟩
    · have s1 : sFor (iS (eMeth A.C_Changes "came" (f_Changes_came A) [] (eVar 0) (aCons (eVar 2) aNil))) (gN 3) (sExpr (eMeth A.C_Changes "note" (f_Changes_note A) [] (eVar 1) (aCons (eVar 2) (aCons (eVar 3) (aCons (eC (.bl false)) aNil))))) [some (.mu n), some (.mu k), some (.d (.str m)), o3] W = .nx [some (.mu n), some (.mu k), some (.d (.str m)), o3a] W1 := by
        simp only [sFor, iS]
        rw [meth1 (n := n) rfl (hn.isI b3 b4) rfl, c1]
        simp only [Res.bind_ok, seq_lst, Res.bindS_ok, e1]
      have s2 : sFor (iS (eMeth A.C_Changes "went" (f_Changes_went A) [] (eVar 0) (aCons (eVar 2) aNil))) (gN 3) (sExpr (eMeth A.C_Changes "note" (f_Changes_note A) [] (eVar 1) (aCons (eVar 2) (aCons (eVar 3) (aCons (eC (.bl true)) aNil))))) [some (.mu n), some (.mu k), some (.d (.str m)), o3a] W1 = .nx [some (.mu n), some (.mu k), some (.d (.str m)), o3b] W2 := by
        simp only [sFor, iS]
        rw [meth1 (n := n) rfl (hn1.isI b5 b6) rfl, c2]
        simp only [Res.bind_ok, seq_lst, Res.bindS_ok, e2]
      have eg : gN 2 (Vl.d (.str m)) [some (.mu n), some (.mu k), o2, o3] = some [some (.mu n), some (.mu k), some (.d (.str m)), o3] := rfl
      have sb := (sSeq_nx (g := sFor (iS (eMeth A.C_Changes "went" (f_Changes_went A) [] (eVar 0) (aCons (eVar 2) aNil))) (gN 3) (sExpr (eMeth A.C_Changes "note" (f_Changes_note A) [] (eVar 1) (aCons (eVar 2) (aCons (eVar 3) (aCons (eC (.bl true)) aNil)))))) s1).trans s2
      simp only [List.map_cons, forL, yes, if_true, eg]
      rw [show turnBody A [some (.mu n), some (.mu k), some (.d (.str m)), o3] W = _ from sb]
      exact e3
    · rw [q3]
      by_cases z : m' = m
      · subst z
        rw [if_neg hd.1, q2, q1]
        simp only [true_and, List.mem_cons, true_or, if_true]
        rw [hc m' List.mem_cons_self]
        cases q : cs m' r with
        | none => rw [if_neg (fun z => by rw [m2, q] at z; cases z), if_neg (fun z => by rw [m1, q] at z; cases z)]; rfl
        | some b =>
          cases b with
          | false => rw [if_pos ((m2 r).mpr q)]; rfl
          | true => rw [if_neg (fun z => by rw [m2, q] at z; cases z), if_pos ((m1 r).mpr q)]; rfl
      · by_cases z2 : m' ∈ ms
        · simp [z2]
        · simp only [List.mem_cons, z, z2, or_self, if_false]
          rw [q2, if_neg (fun q => z q.1), q1, if_neg (fun q => z q.1)]
theorem nm_nd (cs : CS) : (nmOf cs).Nodup := by
  unfold nmOf nmC
  exact (show (["p", "q"] : List Str).Nodup by simp).filter _
theorem Ch.turned {W : Ms} {n : Nat} {F : List Nat} {cs : CS} (h : Ch A W n F cs) : ∃ k F' W', f_Changes_turned A [.mu n] W = .ok (.mu k) W' ∧ (∃ co, Ch A W' k F' co ∧ ∀ m r, co m r = (cs m r).map (!·)) ∧ Grow W W' [] F' := by
  obtain ⟨b1, b2, _⟩ := nb
  obtain ⟨F1, W1, e1, h1, g1⟩ := newCh A W [some (.mu n), none, none, none]
  obtain ⟨ap, k1, _⟩ := g1.keeps (G := F) (fun i _ z => nomatch z) h.lt
  have hn1 := h.frame k1
  obtain ⟨o2', o3', F2, W2, e2, ⟨co, h2, q2⟩, g2⟩ := turn_loop A (nmOf cs) W1 F1 (fun _ _ => none) none none h1 hn1 ap (nm_nd cs) (nm_ok cs) fun _ _ _ => rfl
  refine ⟨W.length, F2, W2, ?_, ⟨co, h2, fun m r => ?_⟩, g1.trans g2⟩
  · refine run0_rt (nn := 4) rfl ?_
    refine (sSeq_nx (sSet_ok e1)).trans ?_
    have s2 : sFor (iS (eMeth A.C_Changes "names" (f_Changes_names A) [] (eVar 0) aNil)) (gN 2) (turnBody A) [some (.mu n), some (.mu W.length), none, none] W1 = .nx [some (.mu n), some (.mu W.length), o2', o3'] W2 := by
      simp only [sFor, iS]
      rw [meth0 (n := n) rfl (hn1.isI b1 b2), hn1.names]
      simp only [Res.bind_ok, seq_tup, List.map_map, Function.comp_def, Res.bindS_ok, e2]
    exact (sSeq_nx s2).trans rfl
  · rw [q2]
    split
    · rfl
    · rename_i z
      have : cs m r = none := by
        cases q : cs m r with
        | none => rfl
        | some b => exact absurd (mem_nmC.mpr ⟨(h.ok (r := r) (by rw [q]; simp)).1, r, by rw [q]; simp⟩) z
      rw [this]
      rfl
end
end Toy

set_option Elab.async false
set_option linter.all false
set_option maxRecDepth 100000
set_option maxHeartbeats 4000000
namespace Toy
open PySem L2 DL
/-! ## relations and stores -/
structure RX where
  n : Str
  k : Nat
  h : Nat
  t : Nat
  l : List D
def idX (x : RX) : List Nat := [x.k, x.h, x.t]
structure Rel (A : Ad) (W : Ms) (k h t : Nat) (l : List D) : Prop where
  k : W[k]? = some (.ins A.C_Relation [("held", .mu h), ("tables", .mu t)])
  h : W[h]? = some (.dct (rV l))
  t : W[t]? = some (.dct [])
def sX (X : List RX) : List (D × Vl) := X.map fun x => (D.str x.n, Vl.mu x.k)
def fsX (n r : Nat) (X : List RX) : List Nat := n :: r :: X.flatMap idX
structure StX (A : Ad) (W : Ms) (s g : Nat) (X : List RX) : Prop where
  n : W[s]? = some (.ins A.C_Store [("relations", .mu g)])
  r : W[g]? = some (.dct (sX X))
  x : ∀ x ∈ X, Rel A W x.k x.h x.t x.l
  nn : (X.map RX.n).Nodup
  nd : (fsX s g X).Nodup
  kn : ∀ x ∈ X, okN x.n
  kl : ∀ x ∈ X, okL3 x.l
def lkX (X : List RX) (m : Str) : Option RX := X.find? fun x => x.n == m
def atR (X : List RX) (m : Str) : List D := ((lkX X m).map RX.l).getD []
theorem lkX_some {X : List RX} {m : Str} {x : RX} (q : lkX X m = some x) : x ∈ X ∧ x.n = m := ⟨List.mem_of_find?_eq_some q, by simpa using List.find?_some q⟩
theorem lkX_mem {X : List RX} (d : (X.map RX.n).Nodup) {x : RX} (h : x ∈ X) : lkX X x.n = some x := by
  cases q : lkX X x.n with
  | none =>
    have := List.find?_eq_none.mp q x h
    simp at this
  | some y =>
    obtain ⟨h1, h2⟩ := lkX_some q
    rw [inj_map d h1 h h2]
theorem getK_sX (m : Str) : ∀ X : List RX, getK (sX X) (.str m) = (lkX X m).map fun x => Vl.mu x.k
  | [] => rfl
  | x :: X => by
    have ih := getK_sX m X
    by_cases e : x.n = m
    · simp [sX, getK, lkX, e]
    · have e1 : ¬ D.str x.n = D.str m := fun z => e (D.str.inj z)
      have e2 : (x.n == m) = false := by simpa using e
      simp only [sX, List.map_cons, getK, if_neg e1, lkX, List.find?_cons, e2] at ih ⊢
      exact ih
theorem okKey_sX (m : Str) (X : List RX) : okKey (sX X) (.str m) = true := by
  cases X <;> rfl
theorem sX_len {A : Ad} {W : Ms} {n r : Nat} {X : List RX} (h : StX A W n r X) : X.length ≤ 2 := by
  have := names_len h.nn fun m hm => by
    obtain ⟨x, hx, rfl⟩ := List.mem_map.mp hm
    exact h.kn x hx
  simpa using this
theorem id_mem {X : List RX} {x : RX} (h : x ∈ X) {i : Nat} (hi : i ∈ idX x) {n r : Nat} : i ∈ fsX n r X :=
  List.mem_cons_of_mem _ (List.mem_cons_of_mem _ (List.mem_flatMap.mpr ⟨x, h, hi⟩))
theorem idk (x : RX) : x.k ∈ idX x ∧ x.h ∈ idX x ∧ x.t ∈ idX x := by simp [idX]
theorem Rel.frame {A : Ad} {W W' : Ms} {k h t : Nat} {l : List D} (q : Rel A W k h t l) (e : ∀ i ∈ [k, h, t], W'[i]? = W[i]?) : Rel A W' k h t l :=
  ⟨by rw [e k (by simp)]; exact q.k, by rw [e h (by simp)]; exact q.h, by rw [e t (by simp)]; exact q.t⟩
theorem StX.frame {A : Ad} {W W' : Ms} {n r : Nat} {X : List RX} (q : StX A W n r X) (e : ∀ i ∈ fsX n r X, W'[i]? = W[i]?) : StX A W' n r X :=
  ⟨by rw [e n (by simp [fsX])]; exact q.n, by rw [e r (by simp [fsX])]; exact q.r, fun x hx => (q.x x hx).frame fun i hi => e i (id_mem hx hi), q.nn, q.nd, q.kn, q.kl⟩
theorem StX.lt {A : Ad} {W : Ms} {n r : Nat} {X : List RX} (q : StX A W n r X) : ∀ i ∈ fsX n r X, i < W.length := fun i hi => by
  rcases List.mem_cons.mp hi with rfl | hi
  · exact (List.getElem?_eq_some_iff.mp q.n).1
  · rcases List.mem_cons.mp hi with rfl | hi
    · exact (List.getElem?_eq_some_iff.mp q.r).1
    · obtain ⟨x, hx, hi⟩ := List.mem_flatMap.mp hi
      have := q.x x hx
      simp only [idX, List.mem_cons, List.not_mem_nil, or_false] at hi
      rcases hi with rfl | rfl | rfl
      · exact (List.getElem?_eq_some_iff.mp this.k).1
      · exact (List.getElem?_eq_some_iff.mp this.h).1
      · exact (List.getElem?_eq_some_iff.mp this.t).1
/-- different relations have nothing in common -/
theorem flat_apart : ∀ {X : List RX}, (X.flatMap idX).Nodup → ∀ {x y : RX}, x ∈ X → y ∈ X → x.n ≠ y.n → ∀ i ∈ idX x, i ∉ idX y
  | [], _, _, _, h, _, _ => nomatch h
  | z :: X, d, x, y, hx, hy, ne => by
    rw [List.flatMap_cons, List.nodup_append] at d
    intro i hi hj
    rcases List.mem_cons.mp hx with e1 | e1 <;> rcases List.mem_cons.mp hy with e2 | e2
    · exact ne (by rw [e1, e2])
    · exact d.2.2 i (e1 ▸ hi) i (List.mem_flatMap.mpr ⟨y, e2, hj⟩) rfl
    · exact d.2.2 i (e2 ▸ hj) i (List.mem_flatMap.mpr ⟨x, e1, hi⟩) rfl
    · exact flat_apart d.2.1 e1 e2 ne i hi hj
def upR (m : Str) (f : List D → List D) (X : List RX) : List RX := X.map fun x => if x.n = m then { x with l := f x.l } else x
theorem upR_same (m : Str) (f : List D → List D) (X : List RX) : (upR m f X).map RX.n = X.map RX.n ∧ sX (upR m f X) = sX X ∧ (upR m f X).flatMap idX = X.flatMap idX := by
  refine ⟨?_, ?_, ?_⟩
  · simp only [upR, List.map_map]
    refine List.map_congr_left fun x _ => ?_
    simp only [Function.comp]; split <;> rfl
  · simp only [upR, sX, List.map_map]
    refine List.map_congr_left fun x _ => ?_
    simp only [Function.comp]; split <;> rfl
  · induction X with
    | nil => rfl
    | cons x X ih =>
      simp only [upR, List.map_cons, List.flatMap_cons] at ih ⊢
      rw [ih]
      congr 1
      split <;> rfl
theorem atR_up (m : Str) (f : List D → List D) {X : List RX} {x : RX} (q : lkX X m = some x) (m' : Str) : atR (upR m f X) m' = if m' = m then f (atR X m) else atR X m' := by
  have key : lkX (upR m f X) m' = (lkX X m').map fun y => if y.n = m then { y with l := f y.l } else y := by
    clear q
    induction X with
    | nil => rfl
    | cons y X ih =>
      simp only [lkX, upR, List.map_cons, List.find?_cons] at ih ⊢
      have : (if y.n = m then ({ y with l := f y.l } : RX) else y).n = y.n := by split <;> rfl
      rw [this]
      cases y.n == m' with
      | true => rfl
      | false => exact ih
  unfold atR
  rw [key]
  by_cases e : m' = m
  · subst e
    rw [if_pos rfl, q]
    simp [(lkX_some q).2]
  · rw [if_neg e]
    cases z : lkX X m' with
    | none => rfl
    | some y =>
      have : ¬ y.n = m := fun w => e ((lkX_some z).2.symm.trans w)
      simp [this]
theorem StX.up {A : Ad} {W W' : Ms} {n r : Nat} {X : List RX} (q : StX A W n r X) {m : Str} {x : RX} (hx : lkX X m = some x) {f : List D → List D} (hl : okL3 (f x.l)) (e : ∀ i ∈ fsX n r X, i ≠ x.h → W'[i]? = W[i]?) (eh : W'[x.h]? = some (.dct (rV (f x.l)))) : StX A W' n r (upR m f X) := by
  obtain ⟨u1, u2, u3⟩ := upR_same m f X
  obtain ⟨mx, ex⟩ := lkX_some hx
  have nd := q.nd
  have nd2 := List.nodup_cons.mp nd
  have nd3 := List.nodup_cons.mp nd2.2
  have hh := (idk x).2.1
  have nh : n ≠ x.h := fun z => nd2.1 (List.mem_cons_of_mem _ (List.mem_flatMap.mpr ⟨x, mx, z ▸ hh⟩))
  have rh : r ≠ x.h := fun z => nd3.1 (List.mem_flatMap.mpr ⟨x, mx, z ▸ hh⟩)
  have own : x.k ≠ x.h ∧ x.t ≠ x.h := by
    have : (idX x).Nodup := by
      clear e eh hl u3 nd nd2 hx
      have nd4 := nd3.2
      revert mx
      generalize X = Y at nd4
      intro mx
      induction Y with
      | nil => exact nomatch mx
      | cons z Y ih =>
        rw [List.flatMap_cons, List.nodup_append] at nd4
        rcases List.mem_cons.mp mx with rfl | mx
        · exact nd4.1
        · exact ih nd4.2.1 mx
    simp only [idX, List.nodup_cons, List.mem_cons, List.not_mem_nil, or_false, not_or] at this
    exact ⟨this.1.1, fun z => this.2.1 z.symm⟩
  have all : ∀ y ∈ upR m f X, (y = { x with l := f x.l }) ∨ (y ∈ X ∧ y.n ≠ m) := fun y hy => by
    obtain ⟨z, hz, rfl⟩ := List.mem_map.mp hy
    by_cases w : z.n = m
    · have : z = x := inj_map q.nn hz mx (w.trans ex.symm)
      rw [if_pos w, this]
      exact .inl rfl
    · rw [if_neg w]
      exact .inr ⟨hz, w⟩
  refine ⟨by rw [e n (by simp [fsX]) nh]; exact q.n, by rw [e r (by simp [fsX]) rh, u2]; exact q.r, fun y hy => ?_, by rw [u1]; exact q.nn, by unfold fsX; rw [u3]; exact q.nd, fun y hy => ?_, fun y hy => ?_⟩
  · rcases all y hy with rfl | ⟨hy, w⟩
    · have := q.x x mx
      exact ⟨by rw [e _ (id_mem mx (idk x).1) own.1]; exact this.k, eh, by rw [e _ (id_mem mx (idk x).2.2) own.2]; exact this.t⟩
    · refine (q.x y hy).frame fun i hi => e i (id_mem hy hi) fun z => ?_
      exact flat_apart nd3.2 hy mx (fun v => w (v.trans ex)) i hi (z ▸ hh)
  · rcases all y hy with rfl | ⟨hy, w⟩
    · exact q.kn x mx
    · exact q.kn y hy
  · rcases all y hy with rfl | ⟨hy, w⟩
    · exact hl
    · exact q.kl y hy
@[simp] theorem b_th : (("tables" : Str) == "held") = false := by decide +kernel
theorem nbR : (("has" : Str) == "held") = false ∧ (("has" : Str) == "tables") = false ∧ (("add" : Str) == "held") = false ∧ (("add" : Str) == "tables") = false ∧ (("drop" : Str) == "held") = false ∧ (("drop" : Str) == "tables") = false ∧ (("size" : Str) == "held") = false ∧ (("size" : Str) == "tables") = false ∧ (("rows" : Str) == "held") = false ∧ (("rows" : Str) == "tables") = false := by decide +kernel
theorem nbS : (("has" : Str) == "relations") = false ∧ (("of" : Str) == "relations") = false ∧ (("names" : Str) == "relations") = false ∧ (("shown" : Str) == "relations") = false := by decide +kernel
theorem Rel.isI {A : Ad} {W : Ms} {k h t : Nat} {l : List D} (q : Rel A W k h t l) {m : Str} (h1 : (m == "held") = false) (h2 : (m == "tables") = false) : DL.isI A.C_Relation m W (.mu k) = true := by
  simp [DL.isI, insOf, q.k, List.lookup_cons, h1, h2]
theorem StX.isI {A : Ad} {W : Ms} {n r : Nat} {X : List RX} (q : StX A W n r X) {m : Str} (h1 : (m == "relations") = false) : DL.isI A.C_Store m W (.mu n) = true := by
  simp [DL.isI, insOf, q.n, List.lookup_cons, h1]
section
variable (A : Ad)
theorem Rel.held {W : Ms} {k h t : Nat} {l : List D} (q : Rel A W k h t l) {ρ : Ev} (h0 : ρ[0]? = some (some (.mu k))) : eFld "held" (eVar 0) ρ W = .ok (.mu h) W ∧ eFld "tables" (eVar 0) ρ W = .ok (.mu t) W := by
  constructor <;> simp [eFld, eUn, eVar, h0, fldOf, insOf, q.k, List.lookup_cons]
open Classical in
theorem in_held {W : Ms} {k h t : Nat} {l : List D} (q : Rel A W k h t l) (hl : okL3 l) {r : D} (hr : r ∈ rw3) : isIn W (.d r) (.mu h) = some (decide (r ∈ l)) := by
  have e : dctOf W (.mu h) = some (rV l) := by simp [dctOf, q.h]
  simp only [isIn, e, okKey_rV hr hl.s, if_true, getK_rV]
  by_cases z : r ∈ l <;> simp [z]
open Classical in
theorem rel_has {W : Ms} {k h t : Nat} {l : List D} (q : Rel A W k h t l) (hl : okL3 l) {r : D} (hr : r ∈ rw3) : f_Relation_has A [.mu k, .d r] W = .ok (.d (.bl (decide (r ∈ l)))) W := by
  refine run0_rt (nn := 2) rfl ?_
  show (sRet _) [some (.mu k), some (.d r)] W = _
  simp only [sRet, eOp, (q.held A (ρ := [some (.mu k), some (.d r)]) rfl).1, eVar, List.getElem?_cons_succ, List.getElem?_cons_zero, Res.bind_ok, DL.inD, in_held A q hl hr, Res.bindS_ok]
theorem rel_size {W : Ms} {k h t : Nat} {l : List D} (q : Rel A W k h t l) : f_Relation_size A [.mu k] W = .ok (.d (.int (l.length : Nat))) W := by
  refine run0_rt (nn := 1) rfl ?_
  show (sRet _) [some (.mu k)] W = _
  simp only [sRet]
  rw [eCB1 (q.held A (ρ := [some (.mu k)]) rfl).1]
  simp [lenD, srcOf, seqOf, lstOf, DL.tupOf, dctOf, q.h, rV]
theorem rel_rows {W : Ms} {k h t : Nat} {l : List D} (q : Rel A W k h t l) (hl : okL3 l) : f_Relation_rows A [.mu k] W = .ok (.d (.tup (canon (· ∈ l)))) W := by
  refine run0_rt (nn := 1) rfl ?_
  show (sRet _) [some (.mu k)] W = _
  have := in_order A (W := W) hl (x := .mu h) (by simp [srcOf, seqOf, lstOf, DL.tupOf, dctOf, q.h, rV, List.map_map, Function.comp_def])
  simp only [sRet, eCall1 (q.held A (ρ := [some (.mu k)]) rfl).1, this, Res.bindS_ok]
theorem no_tables {W : Ms} {k h t : Nat} {l : List D} (q : Rel A W k h t l) {b : FS} {ρ : Ev} (h0 : ρ[0]? = some (some (.mu k))) : sFor (iS (eCB lstD (aCons (eFld "tables" (eVar 0)) aNil))) (gN 2) b ρ W = .nx ρ W := by
  have e : lstD W [.mu t] = .ok (.d (.lst [])) W := by
    simp [lstD, srcOf, seqOf, lstOf, DL.tupOf, dctOf, q.t, mkLst, dsOf]
  simp only [sFor, iS]
  rw [eCB1 (q.held A h0).2, e]
  simp [seq_lst, forL, yes]
theorem rel_add {W : Ms} {k h t : Nat} {l : List D} (q : Rel A W k h t l) (hl : okL3 l) (hkt : k ≠ h ∧ t ≠ h) {r : D} (hr : r ∈ rw3) : ∃ v W', f_Relation_add A [.mu k, .d r] W = .ok v W' ∧ W'.length = W.length ∧ W'[h]? = some (.dct (rV (ins r l))) ∧ ∀ i, i ≠ h → W'[i]? = W[i]? := by
  have hh := (List.getElem?_eq_some_iff.mp q.h).1
  by_cases z : r ∈ l
  · refine ⟨.d (.bl false), W, ?_, rfl, by rw [q.h]; simp [ins, z], fun _ _ => rfl⟩
    refine run0_rt (nn := 3) rfl ?_
    have hi := in_held A q hl hr
    simp only [z, decide_true] at hi
    have s1 : tstV (eOp DL.inD (eVar 1) (eFld "held" (eVar 0))) [some (.mu k), some (.d r), none] W = .ok true W := by
      simp only [tstV, eOp, (q.held A (ρ := [some (.mu k), some (.d r), none]) rfl).1, eVar, List.getElem?_cons_succ, List.getElem?_cons_zero, Res.bind_ok, DL.inD, hi, blOf]
    show (sSeq (sIf _ _ _) _) [some (.mu k), some (.d r), none] W = _
    simp only [sSeq, sIf, s1, Res.bindS_ok, if_true, sRet, eC]
  · have hi := in_held A q hl hr
    simp only [z, decide_false] at hi
    have s1 : tstV (eOp DL.inD (eVar 1) (eFld "held" (eVar 0))) [some (.mu k), some (.d r), none] W = .ok false W := by
      simp only [tstV, eOp, (q.held A (ρ := [some (.mu k), some (.d r), none]) rfl).1, eVar, List.getElem?_cons_succ, List.getElem?_cons_zero, Res.bind_ok, DL.inD, hi, blOf]
    have q' : Rel A (W.set h (.dct (rV (ins r l)))) k h t (ins r l) := ⟨by rw [List.getElem?_set_ne (fun w => hkt.1 w.symm)]; exact q.k, List.getElem?_set_self hh, by rw [List.getElem?_set_ne (fun w => hkt.2 w.symm)]; exact q.t⟩
    have z2 : (rV l).length < sizeLine := mil' (by have := hl.len; simp [rV]; omega)
    have s2 : sPut (eFld "held" (eVar 0)) (eVar 1) (eC (.bl true)) [some (.mu k), some (.d r), none] W = .nx [some (.mu k), some (.d r), none] (W.set h (.dct (rV (ins r l)))) := by
      simp only [sPut, eC, Res.bindS_ok, (q.held A (ρ := [some (.mu k), some (.d r), none]) rfl).1, eVar, List.getElem?_cons_succ, List.getElem?_cons_zero, setIx, q.h, okKey_rV hr hl.s, z2, and_self, if_true, put_rV]
    refine ⟨.d (.bl true), W.set h (.dct (rV (ins r l))), run0_rt (nn := 3) rfl ?_, set_len, q'.h, fun i hi => List.getElem?_set_ne (fun w => hi w.symm)⟩
    refine (sSeq_nx (sIf_no s1)).trans ?_
    refine (sSeq_nx s2).trans ?_
    exact (sSeq_nx (no_tables A q' rfl)).trans rfl
theorem rel_drop {W : Ms} {k h t : Nat} {l : List D} (q : Rel A W k h t l) (hl : okL3 l) (hkt : k ≠ h ∧ t ≠ h) {r : D} (hr : r ∈ rw3) : ∃ v W', f_Relation_drop A [.mu k, .d r] W = .ok v W' ∧ W'.length = W.length ∧ W'[h]? = some (.dct (rV (del r l))) ∧ ∀ i, i ≠ h → W'[i]? = W[i]? := by
  have hh := (List.getElem?_eq_some_iff.mp q.h).1
  by_cases z : r ∈ l
  · have hi := in_held A q hl hr
    simp only [z, decide_true] at hi
    have s1 : tstV (eOp DL.notInD (eVar 1) (eFld "held" (eVar 0))) [some (.mu k), some (.d r), none] W = .ok false W := by
      simp only [tstV, eOp, (q.held A (ρ := [some (.mu k), some (.d r), none]) rfl).1, eVar, List.getElem?_cons_succ, List.getElem?_cons_zero, Res.bind_ok, DL.notInD, hi, blOf, Bool.not_true]
    have q' : Rel A (W.set h (.dct (rV (del r l)))) k h t (del r l) := ⟨by rw [List.getElem?_set_ne (fun w => hkt.1 w.symm)]; exact q.k, List.getElem?_set_self hh, by rw [List.getElem?_set_ne (fun w => hkt.2 w.symm)]; exact q.t⟩
    have s2 : sDel (eFld "held" (eVar 0)) (eVar 1) [some (.mu k), some (.d r), none] W = .nx [some (.mu k), some (.d r), none] (W.set h (.dct (rV (del r l)))) := by
      simp only [sDel, Res.bindS_ok, (q.held A (ρ := [some (.mu k), some (.d r), none]) rfl).1, eVar, List.getElem?_cons_succ, List.getElem?_cons_zero, delIx, q.h, okKey_rV hr hl.s, if_true, getK_rV, z, Option.map_some, del_rV]
    refine ⟨.d (.bl true), W.set h (.dct (rV (del r l))), run0_rt (nn := 3) rfl ?_, set_len, q'.h, fun i hi => List.getElem?_set_ne (fun w => hi w.symm)⟩
    refine (sSeq_nx (sIf_no s1)).trans ?_
    refine (sSeq_nx s2).trans ?_
    exact (sSeq_nx (no_tables A q' rfl)).trans rfl
  · refine ⟨.d (.bl false), W, ?_, rfl, ?_, fun _ _ => rfl⟩
    · refine run0_rt (nn := 3) rfl ?_
      have hi := in_held A q hl hr
      simp only [z, decide_false] at hi
      have s1 : tstV (eOp DL.notInD (eVar 1) (eFld "held" (eVar 0))) [some (.mu k), some (.d r), none] W = .ok true W := by
        simp only [tstV, eOp, (q.held A (ρ := [some (.mu k), some (.d r), none]) rfl).1, eVar, List.getElem?_cons_succ, List.getElem?_cons_zero, Res.bind_ok, DL.notInD, hi, blOf, Bool.not_false]
      show (sSeq (sIf _ _ _) _) [some (.mu k), some (.d r), none] W = _
      simp only [sSeq, sIf, s1, Res.bindS_ok, if_true, sRet, eC]
    · have : del r l = l := List.filter_eq_self.mpr fun x hx => by
        have : x ≠ r := fun w => z (by rw [← w]; exact hx)
        simpa using this
      rw [this]
      exact q.h
end
end Toy

set_option Elab.async false
set_option linter.all false
set_option maxRecDepth 100000
set_option maxHeartbeats 4000000
namespace Toy
open PySem L2 DL
/-! ## what a store tells; a relation found or made -/
def Sto (A : Ad) (W : Ms) (n : Nat) (F : List Nat) (S : Str → D → Prop) : Prop := ∃ r X, StX A W n r X ∧ F = fsX n r X ∧ ∀ m d, d ∈ atR X m ↔ S m d
theorem Sto.frame {A : Ad} {W W' : Ms} {n : Nat} {F : List Nat} {S : Str → D → Prop} (h : Sto A W n F S) (e : ∀ i ∈ F, W'[i]? = W[i]?) : Sto A W' n F S := by
  obtain ⟨r, X, q, rfl, c⟩ := h
  exact ⟨r, X, q.frame e, rfl, c⟩
theorem Sto.lt {A : Ad} {W : Ms} {n : Nat} {F : List Nat} {S : Str → D → Prop} (h : Sto A W n F S) : ∀ i ∈ F, i < W.length := by
  obtain ⟨r, X, q, rfl, c⟩ := h
  exact q.lt
theorem atR_ok {A : Ad} {W : Ms} {n r : Nat} {X : List RX} (q : StX A W n r X) (m : Str) : okL3 (atR X m) := by
  unfold atR
  cases z : lkX X m with
  | none => exact ⟨(fun _ h => nomatch h), List.nodup_nil⟩
  | some x => exact q.kl _ (lkX_some z).1
theorem atR_some {X : List RX} {m : Str} {x : RX} (z : lkX X m = some x) : atR X m = x.l := by simp [atR, z]
theorem Sto.ok {A : Ad} {W : Ms} {n : Nat} {F : List Nat} {S : Str → D → Prop} (h : Sto A W n F S) {m : Str} {d : D} (s : S m d) : okN m ∧ d ∈ rw3 := by
  obtain ⟨r, X, q, rfl, c⟩ := h
  have hd := (c m d).mpr s
  refine ⟨?_, (atR_ok q m).s d hd⟩
  cases z : lkX X m with
  | none => simp [atR, z] at hd
  | some x =>
    obtain ⟨h1, h2⟩ := lkX_some z
    rw [← h2]
    exact q.kn x h1
theorem mem_lk {X : List RX} (d : (X.map RX.n).Nodup) (m : Str) : m ∈ X.map RX.n ↔ (lkX X m).isSome := by
  constructor
  · intro h
    obtain ⟨x, hx, rfl⟩ := List.mem_map.mp h
    rw [lkX_mem d hx]
    rfl
  · intro h
    obtain ⟨x, hx⟩ := Option.isSome_iff_exists.mp h
    obtain ⟨h1, h2⟩ := lkX_some hx
    exact List.mem_map.mpr ⟨x, h1, h2⟩
noncomputable def stC (S : Str → D → Prop) : D := .tup ((nmC fun m => ∃ r, S m r).map fun m => .tup [.str m, .tup (canon (S m))])
theorem canon_eq {P Q : D → Prop} (h : ∀ r ∈ rw3, P r ↔ Q r) : canon P = canon Q := by
  unfold canon
  exact List.filter_congr fun r hr => by simp [h r hr]
theorem nmC_eq {P Q : Str → Prop} (h : ∀ n, okN n → (P n ↔ Q n)) : nmC P = nmC Q := by
  unfold nmC
  refine List.filter_congr fun n hn => ?_
  have : okN n := by simpa [okN] using hn
  simp [h n this]
section
variable (A : Ad)
theorem rels {W : Ms} {n r : Nat} {X : List RX} (q : StX A W n r X) {ρ : Ev} (h0 : ρ[0]? = some (some (.mu n))) : eFld "relations" (eVar 0) ρ W = .ok (.mu r) W := by
  simp [eFld, eUn, eVar, h0, fldOf, insOf, q.n, List.lookup_cons]
theorem ix_rel {W : Ms} {n r : Nat} {X : List RX} (q : StX A W n r X) {m : Str} {x : RX} (z : lkX X m = some x) : ixD W (.mu r) (.d (.str m)) = .ok (.mu x.k) W := by
  simp [ixD, dctOf, q.r, okKey_sX, getK_sX, z]
open Classical in
theorem sto_has {W : Ms} {n r : Nat} {X : List RX} (q : StX A W n r X) (m : Str) {d : D} (hd : d ∈ rw3) : f_Store_has A [.mu n, .d (.str m), .d d] W = .ok (.d (.bl (decide (d ∈ atR X m)))) W := by
  obtain ⟨b1, b2, _⟩ := nbR
  refine run0_rt (nn := 3) rfl ?_
  show (sRet _) [some (.mu n), some (.d (.str m)), some (.d d)] W = _
  have e0 := rels A q (ρ := [some (.mu n), some (.d (.str m)), some (.d d)]) rfl
  have e1 : DL.inD W (.d (.str m)) (.mu r) = .ok (.d (.bl (lkX X m).isSome)) W := by
    simp [DL.inD, isIn, dctOf, q.r, okKey_sX, getK_sX]
  cases z : lkX X m with
  | none =>
    rw [z] at e1
    simp [sRet, eAndV, eOp, eVar, e0, e1, blOf, atR, z]
  | some x =>
    rw [z] at e1
    have hx := q.x x (lkX_some z).1
    have e2 := rel_has A hx (q.kl _ (lkX_some z).1) hd
    have ea : eOp DL.inD (eVar 1) (eFld "relations" (eVar 0)) [some (.mu n), some (.d (.str m)), some (.d d)] W = .ok (.d (.bl true)) W := by
      simp only [eOp, eVar, List.getElem?_cons_succ, List.getElem?_cons_zero, Res.bind_ok, e0, e1, Option.isSome_some]
    have em : eMeth A.C_Relation "has" (f_Relation_has A) [] (eOp ixD (eFld "relations" (eVar 0)) (eVar 1)) (aCons (eVar 2) aNil) [some (.mu n), some (.d (.str m)), some (.d d)] W = .ok (.d (.bl (decide (d ∈ x.l)))) W := by
      rw [meth1 (n := x.k) (x := .d d) (by simp only [eOp, e0, eVar, List.getElem?_cons_succ, List.getElem?_cons_zero, Res.bind_ok, ix_rel A q z]) (hx.isI b1 b2) rfl, e2]
    simp only [sRet, eAndV, ea, Res.bind_ok, blOf, if_true, em, atR_some z, Res.bindS_ok]
theorem src_sX {W : Ms} {r : Nat} {X : List RX} (h : W[r]? = some (.dct (sX X))) : srcOf W (.mu r) = some ((X.map RX.n).map fun n => Vl.d (.str n)) := by
  simp [srcOf, seqOf, lstOf, DL.tupOf, dctOf, h, sX, List.map_map, Function.comp_def]
theorem sto_names {W : Ms} {n r : Nat} {X : List RX} (q : StX A W n r X) : f_Store_names A [.mu n] W = .ok (.d (.tup ((nmC fun m => ∃ d, d ∈ atR X m).map D.str))) W := by
  obtain ⟨_, _, _, _, _, _, b7, b8, _⟩ := nbR
  have e0 := rels A q (ρ := [some (.mu n), none]) rfl
  have so := sort_names q.nn (fun m hm => by
    obtain ⟨x, hx, rfl⟩ := List.mem_map.mp hm
    exact q.kn x hx) (src_sX q.r)
  have hl : (nmC (· ∈ X.map RX.n)).length ≤ 2 := names_len ((show (["p", "q"] : List Str).Nodup by simp).filter _) fun m hm => (mem_nmC.mp hm).1
  have hi : iS (eCB sortD (aCons (eFld "relations" (eVar 0)) aNil)) [some (.mu n), none] W = .ok ⟨(nmC (· ∈ X.map RX.n)).map fun m => Vl.d (.str m), yes⟩ W := by
    simp only [iS]
    rw [eCB1 e0, so]
    simp only [Res.bind_ok, seq_lst, List.map_map, Function.comp_def]
  have e := eLc_pure (fi := iS (eCB sortD (aCons (eFld "relations" (eVar 0)) aNil))) (fg := gN 1) (t := nxE (tstV (eOp gtI (eMeth A.C_Relation "size" (f_Relation_size A) [] (eOp ixD (eFld "relations" (eVar 0)) (eVar 1)) aNil) (eC (.int 0))))) (f := nxE (eVar 1)) (vs := [1]) (ρ := [some (.mu n), none]) (W := W) (fun m : Str => Vl.d (.str m)) (fun m => decide (0 < (atR X m).length)) (fun m => D.str m) (nmC (· ∈ X.map RX.n)) hi (by omega) fun m hm => by
    obtain ⟨x, z⟩ := Option.isSome_iff_exists.mp ((mem_lk q.nn m).mp (mem_nmC.mp hm).2)
    have hx := q.x x (lkX_some z).1
    refine ⟨[some (.mu n), some (.d (.str m))], rfl, ?_, fun _ => rfl⟩
    have e1 := rels A q (ρ := [some (.mu n), some (.d (.str m))]) rfl
    have em : eMeth A.C_Relation "size" (f_Relation_size A) [] (eOp ixD (eFld "relations" (eVar 0)) (eVar 1)) aNil [some (.mu n), some (.d (.str m))] W = .ok (.d (.int (x.l.length : Nat))) W := by
      rw [meth0 (n := x.k) (by simp only [eOp, e1, eVar, List.getElem?_cons_succ, List.getElem?_cons_zero, Res.bind_ok, ix_rel A q z]) (hx.isI b7 b8), rel_size A hx]
    rw [atR_some z]
    simp only [nxE, tstV, eOp, em, eC, Res.bind_ok, gtI, arI, intOf, blOf]
    simp
  have en : ((nmC (· ∈ X.map RX.n)).filter fun m => decide (0 < (atR X m).length)) = nmC fun m => ∃ d, d ∈ atR X m := by
    unfold nmC
    rw [List.filter_filter]
    refine List.filter_congr fun m hm => ?_
    have : (∃ d, d ∈ atR X m) ↔ 0 < (atR X m).length := ⟨fun ⟨d, h⟩ => List.length_pos_of_mem h, fun h => List.exists_mem_of_length_pos h⟩
    have h2 : 0 < (atR X m).length → m ∈ X.map RX.n := fun h => by
      rw [mem_lk q.nn]
      cases z : lkX X m with
      | none => simp [atR, z] at h
      | some x => rfl
    by_cases h : 0 < (atR X m).length
    · simp [this, h, h2 h]
    · simp [this, h]
  rw [en] at e
  refine run0_rt (nn := 2) rfl ?_
  show (sRet _) [some (.mu n), none] W = _
  have hl2 : (nmC fun m => ∃ d, d ∈ atR X m).length ≤ 2 := names_len ((show (["p", "q"] : List Str).Nodup by simp).filter _) fun m hm => (mem_nmC.mp hm).1
  simp only [sRet]
  rw [eCB1 e, tupD_lst _ _ (by simp; omega)]
  rfl
theorem sto_shown {W : Ms} {n : Nat} {F : List Nat} {S : Str → D → Prop} (h : Sto A W n F S) : f_Store_shown A [.mu n] W = .ok (.d (stC S)) W := by
  obtain ⟨r, X, q, rfl, c⟩ := h
  obtain ⟨_, _, _, _, _, _, _, _, b9, b10⟩ := nbR
  obtain ⟨_, _, c3, _⟩ := nbS
  have hl : (nmC fun m => ∃ d, d ∈ atR X m).length ≤ 2 := names_len ((show (["p", "q"] : List Str).Nodup by simp).filter _) fun m hm => (mem_nmC.mp hm).1
  have hi : iS (eMeth A.C_Store "names" (f_Store_names A) [] (eVar 0) aNil) [some (.mu n), none] W = .ok ⟨(nmC fun m => ∃ d, d ∈ atR X m).map fun m => Vl.d (.str m), yes⟩ W := by
    simp only [iS]
    rw [meth0 (n := n) rfl (q.isI c3), sto_names A q]
    simp only [Res.bind_ok, seq_tup, List.map_map, Function.comp_def]
  have e := eLc_all (fi := iS (eMeth A.C_Store "names" (f_Store_names A) [] (eVar 0) aNil)) (fg := gN 1) (f := nxE (eTup (aCons (eVar 1) (aCons (eMeth A.C_Relation "rows" (f_Relation_rows A) [] (eOp ixD (eFld "relations" (eVar 0)) (eVar 1)) aNil) aNil)))) (vs := [1]) (ρ := [some (.mu n), none]) (W := W) (fun m : Str => Vl.d (.str m)) (fun m => D.tup [.str m, .tup (canon (· ∈ atR X m))]) (nmC fun m => ∃ d, d ∈ atR X m) hi (by omega) fun m hm => by
    obtain ⟨_, d, hd⟩ := mem_nmC.mp hm
    cases z : lkX X m with
    | none => simp [atR, z] at hd
    | some x =>
      have hx := q.x x (lkX_some z).1
      refine ⟨[some (.mu n), some (.d (.str m))], rfl, ?_⟩
      have e1 := rels A q (ρ := [some (.mu n), some (.d (.str m))]) rfl
      have em : eMeth A.C_Relation "rows" (f_Relation_rows A) [] (eOp ixD (eFld "relations" (eVar 0)) (eVar 1)) aNil [some (.mu n), some (.d (.str m))] W = .ok (.d (.tup (canon (· ∈ x.l)))) W := by
        rw [meth0 (n := x.k) (by simp only [eOp, e1, eVar, List.getElem?_cons_succ, List.getElem?_cons_zero, Res.bind_ok, ix_rel A q z]) (hx.isI b9 b10), rel_rows A hx (q.kl _ (lkX_some z).1)]
      rw [atR_some z]
      simp only [nxE, eTup, aCons, eVar, List.getElem?_cons_succ, List.getElem?_cons_zero, Res.bind_ok, em, aNil]
      simp [mkTup, dsOf]
  have en : (nmC fun m => ∃ d, d ∈ atR X m) = nmC fun m => ∃ d, S m d := nmC_eq fun m _ => ⟨fun ⟨d, hd⟩ => ⟨d, (c m d).mp hd⟩, fun ⟨d, hd⟩ => ⟨d, (c m d).mpr hd⟩⟩
  have ec : (fun m => D.tup [.str m, .tup (canon (· ∈ atR X m))]) = fun m => D.tup [.str m, .tup (canon (S m))] := funext fun m => by
    rw [show canon (· ∈ atR X m) = canon (S m) from canon_eq fun d _ => c m d]
  rw [en, ec] at e
  rw [en] at hl
  refine run0_rt (nn := 2) rfl ?_
  show (sRet _) [some (.mu n), none] W = _
  simp only [sRet]
  rw [eCB1 e, tupD_lst _ _ (by simp; omega)]
  rfl
theorem sto_init (W : Ms) (ρ : Ev) : ∃ F W', eMakeM A.C_Store (f_Store_init A) [] aNil ρ W = .ok (.mu W.length) W' ∧ Sto A W' W.length F (fun _ _ => False) ∧ Grow W W' [] F := by
  refine ⟨_, W ++ [.ins A.C_Store [("relations", .mu (W.length + 1))], .dct []], ?_, ⟨W.length + 1, [], ⟨by simp, by simp [sX], (fun _ h => nomatch h), by simp, by simp [fsX], (fun _ h => nomatch h), fun _ h => nomatch h⟩, rfl, fun m d => by simp [atR, lkX]⟩, ⟨by simp, fun i hi _ => List.getElem?_append_left hi, fun i hi => .inr ?_⟩⟩
  · simp [eMakeM, aNil, f_Store_init, run0, b_Store_init, startE, sFldSet, eDnewM, eVar, setFld, putV, DL.isNon]
  · simp only [fsX, List.flatMap_nil, List.mem_cons, List.not_mem_nil, or_false] at hi
    omega
theorem rel_init (W : Ms) (ρ : Ev) : eMakeM A.C_Relation (f_Relation_init A) [.d (.tupK [])] aNil ρ W = .ok (.mu W.length) (W ++ [.ins A.C_Relation [("held", .mu (W.length + 1)), ("tables", .mu (W.length + 2))], .dct [], .dct []]) := by
  have ne : ¬ (("held" : Str) = "tables") := by decide +kernel
  simp [eMakeM, aNil, f_Relation_init, run0, b_Relation_init, startE, sSeq, sFldSet, eDcM, iS, eVar, seqItm, dcB, dcL, yes, mkDctM, eDnewM, setFld, putV, DL.isNon, ne]
theorem sto_of {W : Ms} {n r : Nat} {X : List RX} (q : StX A W n r X) {m : Str} (hm : okN m) : ∃ x X' W', f_Store_of A [.mu n, .d (.str m)] W = .ok (.mu x.k) W' ∧ StX A W' n r X' ∧ lkX X' m = some x ∧ (∀ m', atR X' m' = atR X m') ∧ Grow W W' (fsX n r X) (fsX n r X') := by
  have e0 := rels A q (ρ := [some (.mu n), some (.d (.str m))]) rfl
  have e1 : DL.notInD W (.d (.str m)) (.mu r) = .ok (.d (.bl (!(lkX X m).isSome))) W := by
    simp [DL.notInD, isIn, dctOf, q.r, okKey_sX, getK_sX]
  cases z : lkX X m with
  | some x =>
    refine ⟨x, X, W, ?_, q, z, fun _ => rfl, .refl⟩
    rw [z] at e1
    refine run0_rt (nn := 2) rfl ?_
    refine (sSeq_nx (sIf_no (W1 := W) ?_)).trans ?_
    · show tstV (eOp DL.notInD (eVar 1) (eFld "relations" (eVar 0))) [some (.mu n), some (.d (.str m))] W = _
      simp only [tstV, eOp, eVar, List.getElem?_cons_succ, List.getElem?_cons_zero, Res.bind_ok, e0, e1, blOf]
      rfl
    · show (sRet (eOp ixD (eFld "relations" (eVar 0)) (eVar 1))) [some (.mu n), some (.d (.str m))] W = _
      simp only [sRet, eOp, e0, eVar, List.getElem?_cons_succ, List.getElem?_cons_zero, Res.bind_ok, ix_rel A q z, Res.bindS_ok]
  | none =>
    rw [z] at e1
    have hr := q.lt r (by simp [fsX])
    have hn := q.lt n (by simp [fsX])
    have nr : n ≠ r := fun w => (List.nodup_cons.mp q.nd).1 (by rw [w]; exact List.mem_cons_self)
    have z1 : (sX X).length < sizeLine := mil' (by have := sX_len q; simp [sX]; omega)
    have pk : putKD (.str m) (.mu W.length) (sX X) = sX (X ++ [⟨m, W.length, W.length + 1, W.length + 2, []⟩]) := by
      unfold putKD
      have : ¬ ∃ p ∈ sX X, p.1 = D.str m := by
        rintro ⟨p, hp, e⟩
        obtain ⟨x, hx, rfl⟩ := List.mem_map.mp hp
        have := (mem_lk q.nn m).mp (List.mem_map.mpr ⟨x, hx, D.str.inj e⟩)
        rw [z] at this
        cases this
      rw [if_neg this]
      simp [sX]
    have t1 : (W ++ [M.ins A.C_Relation [("held", .mu (W.length + 1)), ("tables", .mu (W.length + 2))], .dct [], .dct []])[r]? = some (.dct (sX X)) := by
      rw [List.getElem?_append_left hr]; exact q.r
    have q1 : Grow W ((W ++ [M.ins A.C_Relation [("held", .mu (W.length + 1)), ("tables", .mu (W.length + 2))], .dct [], .dct []]).set r (.dct (sX (X ++ [⟨m, W.length, W.length + 1, W.length + 2, []⟩])))) (fsX n r X) (fsX n r (X ++ [⟨m, W.length, W.length + 1, W.length + 2, []⟩])) := by
      refine ⟨by rw [set_len]; simp, fun i hi w => ?_, fun i hi => ?_⟩
      · have : r ≠ i := fun v => w (by rw [← v]; simp [fsX])
        rw [List.getElem?_set_ne this, List.getElem?_append_left hi]
      · simp only [fsX, List.flatMap_append, List.flatMap_cons, List.flatMap_nil, idX, List.append_nil, List.mem_cons, List.mem_append, List.not_mem_nil, or_false] at hi ⊢
        rcases hi with h | h | h | h | h | h
        · exact .inl (.inl h)
        · exact .inl (.inr (.inl h))
        · exact .inl (.inr (.inr h))
        all_goals exact .inr (by omega)
    have nX : lkX (X ++ [⟨m, W.length, W.length + 1, W.length + 2, []⟩]) m = some ⟨m, W.length, W.length + 1, W.length + 2, []⟩ := by
      simp only [lkX] at z
      simp [lkX, List.find?_append, z]
    have q2 : StX A ((W ++ [M.ins A.C_Relation [("held", .mu (W.length + 1)), ("tables", .mu (W.length + 2))], .dct [], .dct []]).set r (.dct (sX (X ++ [⟨m, W.length, W.length + 1, W.length + 2, []⟩])))) n r (X ++ [⟨m, W.length, W.length + 1, W.length + 2, []⟩]) := by
      refine ⟨?_, ?_, fun x hx => ?_, ?_, ?_, fun x hx => ?_, fun x hx => ?_⟩
      · rw [List.getElem?_set_ne (fun v => nr v.symm), List.getElem?_append_left hn]; exact q.n
      · rw [List.getElem?_set_self (by simp; omega)]
      · rcases List.mem_append.mp hx with hx | hx
        · refine (q.x x hx).frame fun i hi => ?_
          have h1 := id_mem hx hi (n := n) (r := r)
          have : r ≠ i := fun v => (List.nodup_cons.mp (List.nodup_cons.mp q.nd).2).1 (List.mem_flatMap.mpr ⟨x, hx, v ▸ hi⟩)
          rw [List.getElem?_set_ne this, List.getElem?_append_left (q.lt i h1)]
        · rw [List.mem_singleton.mp hx]
          exact ⟨by rw [List.getElem?_set_ne (by show r ≠ W.length; omega)]; simp, by rw [List.getElem?_set_ne (by show r ≠ W.length + 1; omega)]; simp [rV], by rw [List.getElem?_set_ne (by show r ≠ W.length + 2; omega)]; simp⟩
      · rw [List.map_append, List.nodup_append]
        refine ⟨q.nn, by simp, fun a ha b hb v => ?_⟩
        rw [List.map_singleton, List.mem_singleton] at hb
        have := (mem_lk q.nn m).mp (by rw [v, hb] at ha; exact ha)
        rw [z] at this
        cases this
      · have hlt := q.lt
        have e : fsX n r (X ++ [⟨m, W.length, W.length + 1, W.length + 2, []⟩]) = fsX n r X ++ [W.length, W.length + 1, W.length + 2] := by simp [fsX, idX]
        rw [e, List.nodup_append]
        refine ⟨q.nd, by simp, fun a ha b hb v => ?_⟩
        have := hlt a ha
        simp only [List.mem_cons, List.not_mem_nil, or_false] at hb
        omega
      · rcases List.mem_append.mp hx with hx | hx
        · exact q.kn x hx
        · rw [List.mem_singleton.mp hx]; exact hm
      · rcases List.mem_append.mp hx with hx | hx
        · exact q.kl x hx
        · rw [List.mem_singleton.mp hx]; exact ⟨(fun _ h => nomatch h), List.nodup_nil⟩
    refine ⟨⟨m, W.length, W.length + 1, W.length + 2, []⟩, _, _, ?_, q2, nX, fun m' => ?_, q1⟩
    · have q0 : StX A (W ++ [M.ins A.C_Relation [("held", .mu (W.length + 1)), ("tables", .mu (W.length + 2))], .dct [], .dct []]) n r X := q.frame fun i hi => List.getElem?_append_left (q.lt i hi)
      refine run0_rt (nn := 2) rfl ?_
      have s1 : sIf (tstV (eOp DL.notInD (eVar 1) (eFld "relations" (eVar 0)))) (sPut (eFld "relations" (eVar 0)) (eVar 1) (eMakeM A.C_Relation (f_Relation_init A) [.d (.tupK [])] aNil)) sNil [some (.mu n), some (.d (.str m))] W = .nx [some (.mu n), some (.d (.str m))] ((W ++ [M.ins A.C_Relation [("held", .mu (W.length + 1)), ("tables", .mu (W.length + 2))], .dct [], .dct []]).set r (.dct (sX (X ++ [⟨m, W.length, W.length + 1, W.length + 2, []⟩])))) := by
        have ea := rels A q0 (ρ := [some (.mu n), some (.d (.str m))]) rfl
        simp only [sIf, tstV, eOp, eVar, List.getElem?_cons_succ, List.getElem?_cons_zero, Res.bind_ok, e0, e1, Option.isSome_none, Bool.not_false, blOf, Res.bindS_ok, if_true, sPut, rel_init A W, ea, setIx, t1, okKey_sX, z1, and_self, pk]
      refine (sSeq_nx s1).trans ?_
      show (sRet (eOp ixD (eFld "relations" (eVar 0)) (eVar 1))) [some (.mu n), some (.d (.str m))] _ = _
      simp only [sRet, eOp, rels A q2 (ρ := [some (.mu n), some (.d (.str m))]) rfl, eVar, List.getElem?_cons_succ, List.getElem?_cons_zero, Res.bind_ok, ix_rel A q2 nX, Res.bindS_ok]
    · unfold atR
      by_cases e : m' = m
      · subst e
        rw [nX, z]
        rfl
      · have : lkX (X ++ [⟨m, W.length, W.length + 1, W.length + 2, []⟩]) m' = lkX X m' := by
          have e2 : (m == m') = false := by simpa using fun v => e v.symm
          simp only [lkX, List.find?_append, List.find?_cons, e2, List.find?_nil, Option.or_none]
        rw [this]
end
end Toy

set_option Elab.async false
set_option linter.all false
set_option maxRecDepth 100000
set_option maxHeartbeats 4000000
namespace Toy
open PySem L2 DL
/-! ## rows put into a store and taken from it -/
theorem fsX_up (n r : Nat) (m : Str) (f : List D → List D) (X : List RX) : fsX n r (upR m f X) = fsX n r X := by
  unfold fsX
  rw [(upR_same m f X).2.2]
theorem lkX_up {X : List RX} {m : Str} {x : RX} (q : lkX X m = some x) (f : List D → List D) : lkX (upR m f X) m = some { x with l := f x.l } := by
  have ex := (lkX_some q).2
  induction X with
  | nil => cases q
  | cons y X ih =>
    simp only [lkX, upR, List.map_cons, List.find?_cons] at ih q ⊢
    have : (if y.n = m then ({ y with l := f y.l } : RX) else y).n = y.n := by split <;> rfl
    rw [this]
    cases e : y.n == m with
    | true =>
      rw [e] at q
      cases q
      simp [ex]
    | false =>
      rw [e] at q
      exact ih q
theorem own_apart {A : Ad} {W : Ms} {n r : Nat} {X : List RX} (q : StX A W n r X) {x : RX} (mx : x ∈ X) : x.k ≠ x.h ∧ x.t ≠ x.h := by
  have nd4 := (List.nodup_cons.mp (List.nodup_cons.mp q.nd).2).2
  have : (idX x).Nodup := by
    revert mx
    generalize X = Y at nd4
    intro mx
    induction Y with
    | nil => exact nomatch mx
    | cons z Y ih =>
      rw [List.flatMap_cons, List.nodup_append] at nd4
      rcases List.mem_cons.mp mx with e | e
      · rw [e]; exact nd4.1
      · exact ih nd4.2.1 e
  simp only [idX, List.nodup_cons, List.mem_cons, List.not_mem_nil, or_false, not_or] at this
  exact ⟨this.1.1, fun z => this.2.1 z.symm⟩
section
variable (A : Ad)
/-- add or drop: what a relation's own method does -/
noncomputable def opF (b : Bool) : FD := if b = true then f_Relation_add A else f_Relation_drop A
noncomputable def opL (b : Bool) (d : D) (l : List D) : List D := if b = true then ins d l else del d l
def opN (b : Bool) : Str := if b = true then "add" else "drop"
theorem opL_ok (b : Bool) {d : D} (hd : d ∈ rw3) {l : List D} (h : okL3 l) : okL3 (opL b d l) := by
  cases b
  · exact h.del d
  · exact h.ins hd
open Classical in
theorem mem_op' (b : Bool) {d x : D} {l : List D} : x ∈ opL b d l ↔ if x = d then b = true else x ∈ l := by
  cases b
  · simp only [opL, Bool.false_eq_true, if_false, mem_del]
    by_cases e : x = d <;> simp [e]
  · simp only [opL, if_true, mem_ins]
    by_cases e : x = d <;> simp [e]
theorem op_isI {W : Ms} {k h t : Nat} {l : List D} (q : Rel A W k h t l) (b : Bool) : DL.isI A.C_Relation (opN b) W (.mu k) = true := by
  obtain ⟨_, _, b3, b4, b5, b6, _⟩ := nbR
  cases b
  · exact q.isI b5 b6
  · exact q.isI b3 b4
theorem StX.op {W : Ms} {n r : Nat} {X : List RX} (q : StX A W n r X) {m : Str} {x : RX} (z : lkX X m = some x) (b : Bool) {d : D} (hd : d ∈ rw3) : ∃ v W', opF A b [.mu x.k, .d d] W = .ok v W' ∧ StX A W' n r (upR m (opL b d) X) ∧ Grow W W' (fsX n r X) (fsX n r (upR m (opL b d) X)) := by
  obtain ⟨mx, ex⟩ := lkX_some z
  have hx := q.x x mx
  have hl := q.kl x mx
  have key : ∃ v W', opF A b [.mu x.k, .d d] W = .ok v W' ∧ W'.length = W.length ∧ W'[x.h]? = some (.dct (rV (opL b d x.l))) ∧ ∀ i, i ≠ x.h → W'[i]? = W[i]? := by
    cases b
    · exact rel_drop A hx hl (own_apart q mx) hd
    · exact rel_add A hx hl (own_apart q mx) hd
  obtain ⟨v, W', e1, e2, e3, e4⟩ := key
  refine ⟨v, W', e1, q.up z (opL_ok b hd hl) (fun i _ hi => e4 i hi) e3, ⟨by omega, fun i _ hi => e4 i fun w => hi (w ▸ id_mem mx (idk x).2.1), fun i hi => .inl ?_⟩⟩
  rw [fsX_up] at hi
  exact hi
theorem sto_of_old {W : Ms} {n r : Nat} {X : List RX} (q : StX A W n r X) {m : Str} {x : RX} (z : lkX X m = some x) : f_Store_of A [.mu n, .d (.str m)] W = .ok (.mu x.k) W := by
  have e0 := rels A q (ρ := [some (.mu n), some (.d (.str m))]) rfl
  have e1 : DL.notInD W (.d (.str m)) (.mu r) = .ok (.d (.bl false)) W := by
    simp [DL.notInD, isIn, dctOf, q.r, okKey_sX, getK_sX, z]
  refine run0_rt (nn := 2) rfl ?_
  refine (sSeq_nx (sIf_no (W1 := W) ?_)).trans ?_
  · show tstV (eOp DL.notInD (eVar 1) (eFld "relations" (eVar 0))) [some (.mu n), some (.d (.str m))] W = _
    simp only [tstV, eOp, eVar, List.getElem?_cons_succ, List.getElem?_cons_zero, Res.bind_ok, e0, e1, blOf]
  · show (sRet (eOp ixD (eFld "relations" (eVar 0)) (eVar 1))) [some (.mu n), some (.d (.str m))] W = _
    simp only [sRet, eOp, e0, eVar, List.getElem?_cons_succ, List.getElem?_cons_zero, Res.bind_ok, ix_rel A q z, Res.bindS_ok]
open Classical in
/-- rows one by one into a relation, or out of it -/
theorem op_rows {n r : Nat} {x0 x1 x2 : Vl} (b : Bool) {m : Str} {k : Nat} : ∀ (l : List D) (W : Ms) (X : List RX) (x : RX) (o3 : Option Vl), StX A W n r X → lkX X m = some x → x.k = k → (∀ d ∈ l, d ∈ rw3) →
    ∃ o3' X' x' W', forL yes (gN 3) (sExpr (eMeth A.C_Relation (opN b) (opF A b) [] (eVar 4) (aCons (eVar 3) aNil))) (l.map Vl.d) [some x0, some x1, some x2, o3, some (.mu k)] W = .nx [some x0, some x1, some x2, o3', some (.mu k)] W' ∧
      StX A W' n r X' ∧ lkX X' m = some x' ∧ x'.k = k ∧ (∀ m' d, d ∈ atR X' m' ↔ if m' = m ∧ d ∈ l then b = true else d ∈ atR X m') ∧ Grow W W' (fsX n r X) (fsX n r X')
  | [], W, X, x, o3, q, z, hk, _ => ⟨o3, X, x, W, by simp [forL, yes], q, z, hk, fun m' d => by simp, .refl⟩
  | d :: l, W, X, x, o3, q, z, hk, hd => by
    obtain ⟨v, W1, e1, q1, g1⟩ := q.op A z b (hd d List.mem_cons_self)
    have z1 := lkX_up z (opL b d)
    have hx := q.x x (lkX_some z).1
    obtain ⟨o3', X', x', W2, e2, q2, z2, k2, c2, g2⟩ := op_rows (x0 := x0) (x1 := x1) (x2 := x2) b l W1 (upR m (opL b d) X) _ (some (.d d)) q1 z1 hk fun s hs => hd s (List.mem_cons_of_mem _ hs)
    refine ⟨o3', X', x', W2, ?_, q2, z2, k2, fun m' s => ?_, g1.trans g2⟩
    · subst hk
      have eb : sExpr (eMeth A.C_Relation (opN b) (opF A b) [] (eVar 4) (aCons (eVar 3) aNil)) [some x0, some x1, some x2, some (.d d), some (.mu x.k)] W = .nx [some x0, some x1, some x2, some (.d d), some (.mu x.k)] W1 := by
        simp only [sExpr]
        rw [meth1 (n := x.k) (x := .d d) rfl (op_isI A hx b) rfl, e1]
        rfl
      have eg : gN 3 (Vl.d d) [some x0, some x1, some x2, o3, some (.mu x.k)] = some [some x0, some x1, some x2, some (.d d), some (.mu x.k)] := rfl
      simp only [List.map_cons, forL, yes, if_true, eg, eb, e2]
    · rw [c2, atR_up m (opL b d) z]
      by_cases w : m' = m
      · subst w
        simp only [true_and, if_true, mem_op', List.mem_cons]
        by_cases w2 : s ∈ l
        · simp [w2]
        · by_cases w3 : s = d
          · simp [w3]
          · simp [w2, w3]
      · simp [w]
noncomputable abbrev soBody : FS := (sExpr (eMeth A.C_Relation "add" (f_Relation_add A) [] (eMeth A.C_Store "of" (f_Store_of A) [] (eVar 1) (aCons (eVar 2) aNil)) (aCons (eVar 3) aNil)))
theorem so_loop {n r : Nat} {x0 : Vl} : ∀ (fs : List (Str × D)) (W : Ms) (X : List RX) (o2 o3 : Option Vl), StX A W n r X → (∀ f ∈ fs, okN f.1 ∧ f.2 ∈ rw3) →
    ∃ o2' o3' X' W', forL yes (gT 2 (gsCons (gN 2) (gsCons (gN 3) gsNil))) (soBody A) (fs.map fun f => Vl.d (.tup [.str f.1, f.2])) [some x0, some (.mu n), o2, o3] W = .nx [some x0, some (.mu n), o2', o3'] W' ∧
      StX A W' n r X' ∧ (∀ m d, d ∈ atR X' m ↔ (m, d) ∈ fs ∨ d ∈ atR X m) ∧ Grow W W' (fsX n r X) (fsX n r X')
  | [], W, X, o2, o3, q, _ => ⟨o2, o3, X, W, by simp [forL, yes], q, fun m d => by simp, .refl⟩
  | (m, d) :: fs, W, X, o2, o3, q, h => by
    obtain ⟨hm, hd⟩ := h _ List.mem_cons_self
    obtain ⟨_, c2, _, _⟩ := nbS
    obtain ⟨x, X1, W1, e1, q1, z1, a1, g1⟩ := sto_of A q hm
    obtain ⟨v, W2, e2, q2, g2⟩ := q1.op A z1 true hd
    have hx := q1.x x (lkX_some z1).1
    obtain ⟨o2', o3', X', W3, e3, q3, a3, g3⟩ := so_loop fs W2 _ (some (.d (.str m))) (some (.d d)) q2 fun f hf => h f (List.mem_cons_of_mem _ hf)
    refine ⟨o2', o3', X', W3, ?_, q3, fun m' d' => ?_, (g1.trans g2).trans g3⟩
    · have eg : gT 2 (gsCons (gN 2) (gsCons (gN 3) gsNil)) (Vl.d (.tup [.str m, d])) [some x0, some (.mu n), o2, o3] = some [some x0, some (.mu n), some (.d (.str m)), some (.d d)] := rfl
      have ef : eMeth A.C_Store "of" (f_Store_of A) [] (eVar 1) (aCons (eVar 2) aNil) [some x0, some (.mu n), some (.d (.str m)), some (.d d)] W = .ok (.mu x.k) W1 := by
        rw [meth1 (n := n) (x := .d (.str m)) rfl (q.isI c2) rfl, e1]
      have e2' : f_Relation_add A [.mu x.k, .d d] W1 = .ok v W2 := e2
      have hi : DL.isI A.C_Relation "add" W1 (.mu x.k) = true := op_isI A hx true
      have eb : soBody A [some x0, some (.mu n), some (.d (.str m)), some (.d d)] W = .nx [some x0, some (.mu n), some (.d (.str m)), some (.d d)] W2 := by
        simp only [soBody, sExpr]
        unfold eMeth at ef ⊢
        rw [ef]
        simp only [Res.bind_ok, hi, if_true, aCons, eVar, List.getElem?_cons_succ, List.getElem?_cons_zero, aNil, List.append_nil, e2', Res.bindS_ok]
      simp only [List.map_cons, forL, yes, if_true, eg, eb]
      exact e3
    · rw [a3, atR_up m (opL true d) z1, List.mem_cons, Prod.mk.injEq]
      by_cases w : m' = m
      · subst w
        rw [if_pos rfl, mem_op', a1]
        by_cases w2 : d' = d
        · simp [w2]
        · simp [w2]
      · rw [if_neg w, a1]
        simp [w]
theorem store_of (fs : List (Str × D)) (h : ∀ f ∈ fs, okN f.1 ∧ f.2 ∈ rw3) (W : Ms) : ∃ k F W', f_store_of A [.d (.lst (fs.map fun f => .tup [.str f.1, f.2]))] W = .ok (.mu k) W' ∧ Sto A W' k F (fun m d => (m, d) ∈ fs) ∧ Grow W W' [] F := by
  obtain ⟨F1, W1, e1, ⟨r, X, q, rfl, c⟩, g1⟩ := sto_init A W [some (.d (.lst (fs.map fun f => .tup [.str f.1, f.2]))), none, none, none]
  obtain ⟨o2, o3, X', W2, e2, q2, a2, g2⟩ := so_loop A (x0 := .d (.lst (fs.map fun f => .tup [.str f.1, f.2]))) fs W1 X none none q h
  refine ⟨W.length, _, W2, ?_, ⟨r, X', q2, rfl, fun m d => ?_⟩, g1.trans g2⟩
  · refine run0_rt (nn := 4) rfl ?_
    refine (sSeq_nx (sSet_ok e1)).trans ?_
    have s2 : sFor (iS (eVar 0)) (gT 2 (gsCons (gN 2) (gsCons (gN 3) gsNil))) (soBody A) [some (.d (.lst (fs.map fun f => .tup [.str f.1, f.2]))), some (.mu W.length), none, none] W1 = .nx [some (.d (.lst (fs.map fun f => .tup [.str f.1, f.2]))), some (.mu W.length), o2, o3] W2 := by
      simp only [sFor, iS, eVar, List.getElem?_cons_zero, Res.bind_ok, seq_lst, List.map_map, Function.comp_def, Res.bindS_ok]
      exact e2
    exact (sSeq_nx s2).trans rfl
  · rw [a2, c]
    simp
end
end Toy

set_option Elab.async false
set_option linter.all false
set_option maxRecDepth 100000
set_option maxHeartbeats 4000000
namespace Toy
open PySem L2 DL
/-! ## what lies between two stores -/
theorem Sto.isI {A : Ad} {W : Ms} {n : Nat} {F : List Nat} {S : Str → D → Prop} (h : Sto A W n F S) {m : Str} (h1 : (m == "relations") = false) : DL.isI A.C_Store m W (.mu n) = true := by
  obtain ⟨r, X, q, rfl, c⟩ := h
  exact q.isI h1
theorem meth2 {W : Ms} {C : Addr} {m : Str} {f : FD} {fa fb fc : FE} {ρ : Ev} {n : Nat} {x y : Vl} (ha : fa ρ W = .ok (.mu n) W) (hi : DL.isI C m W (.mu n) = true) (hb : fb ρ W = .ok x W) (hc : fc ρ W = .ok y W) : eMeth C m f [] fa (aCons fb (aCons fc aNil)) ρ W = f [.mu n, x, y] W := by
  simp only [eMeth, ha, Res.bind_ok, hi, if_true, aCons, hb, hc, aNil, List.append_nil]
section
variable (A : Ad)
open Classical in
theorem Sto.has {W : Ms} {n : Nat} {F : List Nat} {S : Str → D → Prop} (h : Sto A W n F S) (m : Str) {d : D} (hd : d ∈ rw3) : f_Store_has A [.mu n, .d (.str m), .d d] W = .ok (.d (.bl (decide (S m d)))) W := by
  obtain ⟨r, X, q, rfl, c⟩ := h
  rw [sto_has A q m hd]
  congr 4
  exact propext (c m d)
theorem Sto.names {W : Ms} {n : Nat} {F : List Nat} {S : Str → D → Prop} (h : Sto A W n F S) : f_Store_names A [.mu n] W = .ok (.d (.tup ((nmC fun m => ∃ d, S m d).map D.str))) W := by
  obtain ⟨r, X, q, rfl, c⟩ := h
  rw [sto_names A q, show (nmC fun m => ∃ d, d ∈ atR X m) = nmC fun m => ∃ d, S m d from nmC_eq fun m _ => ⟨fun ⟨d, hd⟩ => ⟨d, (c m d).mp hd⟩, fun ⟨d, hd⟩ => ⟨d, (c m d).mpr hd⟩⟩]
/-- store.of(m).rows() where there are some -/
theorem Sto.rows {W : Ms} {n : Nat} {F : List Nat} {S : Str → D → Prop} (h : Sto A W n F S) {m : Str} (hm : ∃ d, S m d) {fa fb : FE} {ρ : Ev} (ha : fa ρ W = .ok (.mu n) W) (hb : fb ρ W = .ok (.d (.str m)) W) :
    eMeth A.C_Relation "rows" (f_Relation_rows A) [] (eMeth A.C_Store "of" (f_Store_of A) [] fa (aCons fb aNil)) aNil ρ W = .ok (.d (.tup (canon (S m)))) W := by
  obtain ⟨r, X, q, rfl, c⟩ := h
  obtain ⟨_, _, _, _, _, _, _, _, b9, b10⟩ := nbR
  obtain ⟨_, c2, _, _⟩ := nbS
  obtain ⟨d, hd⟩ := hm
  have hd := (c m d).mpr hd
  cases z : lkX X m with
  | none => simp [atR, z] at hd
  | some x =>
    have hx := q.x x (lkX_some z).1
    rw [meth0 (n := x.k) (by rw [meth1 (n := n) (x := .d (.str m)) ha (q.isI c2) hb, sto_of_old A q z]) (hx.isI b9 b10), rel_rows A hx (q.kl _ (lkX_some z).1), ← atR_some z]
    rw [show canon (· ∈ atR X m) = canon (S m) from canon_eq fun d _ => c m d]
noncomputable abbrev apRow (b : Bool) (j : Nat) : FS := (sIf (tstNot (tstV (eMeth A.C_Store "has" (f_Store_has A) [] (eVar j) (aCons (eVar 3) (aCons (eVar 4) aNil))))) (sExpr (eMeth A.C_Changes "note" (f_Changes_note A) [] (eVar 2) (aCons (eVar 3) (aCons (eVar 4) (aCons (eC (.bl b)) aNil))))) sNil)
open Classical in
theorem ap_rows {k sc : Nat} {Fc : List Nat} {S : Str → D → Prop} {x0 x1 : Vl} (b : Bool) (j : Nat) (hj : ∀ (o2 o3 o4 : Option Vl) (W : Ms), eVar j [some x0, some x1, o2, o3, o4] W = .ok (.mu sc) W) {m : Str} (hm : okN m) : ∀ (l : List D) (W : Ms) (F : List Nat) (co : CS) (o4 : Option Vl), Ch A W k F co → Sto A W sc Fc S → (∀ i ∈ Fc, i ∉ F) → (∀ r ∈ l, r ∈ rw3) → l.Nodup → (∀ r ∈ l, ¬ S m r → co m r = none) →
    ∃ o4' F' W', forL yes (gN 4) (apRow A b j) (l.map Vl.d) [some x0, some x1, some (.mu k), some (.d (.str m)), o4] W = .nx [some x0, some x1, some (.mu k), some (.d (.str m)), o4'] W' ∧
      (∃ co', Ch A W' k F' co' ∧ ∀ m' r, co' m' r = if m' = m ∧ r ∈ l ∧ ¬ S m r then some b else co m' r) ∧ Grow W W' F F'
  | [], W, F, co, o4, h, _, _, _, _, _ => ⟨o4, F, W, by simp [forL, yes], ⟨co, h, fun m' r => by simp⟩, .refl⟩
  | r :: l, W, F, co, o4, h, hs, ap, hr, hd, hc => by
    rw [List.nodup_cons] at hd
    obtain ⟨c1, _, _, _⟩ := nbS
    obtain ⟨_, _, _, _, _, _, b7, b8, _⟩ := nb
    have eh : tstNot (tstV (eMeth A.C_Store "has" (f_Store_has A) [] (eVar j) (aCons (eVar 3) (aCons (eVar 4) aNil)))) [some x0, some x1, some (.mu k), some (.d (.str m)), some (.d r)] W = .ok (!decide (S m r)) W := by
      simp only [tstNot, tstV]
      rw [meth2 (n := sc) (x := .d (.str m)) (y := .d r) (hj _ _ _ W) (hs.isI c1) rfl rfl, hs.has A m (hr r List.mem_cons_self)]
      rfl
    have eg : gN 4 (Vl.d r) [some x0, some x1, some (.mu k), some (.d (.str m)), o4] = some [some x0, some x1, some (.mu k), some (.d (.str m)), some (.d r)] := rfl
    by_cases z : S m r
    · obtain ⟨o4', F2, W2, e2, ⟨co', h2, h3⟩, g2⟩ := ap_rows b j hj hm l W F co (some (.d r)) h hs ap (fun s hs => hr s (List.mem_cons_of_mem _ hs)) hd.2 fun s hs => hc s (List.mem_cons_of_mem _ hs)
      refine ⟨o4', F2, W2, ?_, ⟨co', h2, fun m' r' => ?_⟩, g2⟩
      · simp only [z, decide_true, Bool.not_true] at eh
        simp only [List.map_cons, forL, yes, if_true, eg, apRow, sIf_no eh]
        exact e2
      · rw [h3]
        by_cases w : m' = m ∧ r' ∈ l ∧ ¬ S m r'
        · rw [if_pos w, if_pos ⟨w.1, List.mem_cons_of_mem _ w.2.1, w.2.2⟩]
        · rw [if_neg w, if_neg]
          rintro ⟨v1, v2, v3⟩
          rcases List.mem_cons.mp v2 with v | v
          · exact v3 (v ▸ z)
          · exact w ⟨v1, v, v3⟩
    · obtain ⟨F1, W1, e1, h1, g1⟩ := note A h hm (hr r List.mem_cons_self) b
      obtain ⟨ap1, k1, _⟩ := g1.keeps ap hs.lt
      have hu : ∀ m' r', updC co m r b m' r' = if m' = m ∧ r' = r then some b else co m' r' := fun m' r' => by
        unfold updC
        rw [hc r List.mem_cons_self z]
        simp
      obtain ⟨o4', F2, W2, e2, ⟨co', h2, h3⟩, g2⟩ := ap_rows b j hj hm l W1 F1 (updC co m r b) (some (.d r)) h1 (hs.frame k1) ap1 (fun s hs => hr s (List.mem_cons_of_mem _ hs)) hd.2 fun s hs hn => by
        rw [hu, if_neg (fun w : m = m ∧ s = r => hd.1 (w.2 ▸ hs))]
        exact hc s (List.mem_cons_of_mem _ hs) hn
      refine ⟨o4', F2, W2, ?_, ⟨co', h2, fun m' r' => ?_⟩, g1.trans g2⟩
      · simp only [z, decide_false, Bool.not_false] at eh
        have eb : apRow A b j [some x0, some x1, some (.mu k), some (.d (.str m)), some (.d r)] W = .nx [some x0, some x1, some (.mu k), some (.d (.str m)), some (.d r)] W1 := by
          have en : eMeth A.C_Changes "note" (f_Changes_note A) [] (eVar 2) (aCons (eVar 3) (aCons (eVar 4) (aCons (eC (.bl b)) aNil))) [some x0, some x1, some (.mu k), some (.d (.str m)), some (.d r)] W = .ok (.d .non) W1 := by
            simp only [eMeth, eVar, List.getElem?_cons_succ, List.getElem?_cons_zero, Res.bind_ok, h.isI b7 b8, if_true, aCons, eC, aNil, List.append_nil, e1]
          simp only [apRow, sIf, eh, Res.bindS_ok, if_true, sExpr, en]
        simp only [List.map_cons, forL, yes, if_true, eg, eb]
        exact e2
      · rw [h3, hu]
        by_cases w : m' = m
        · subst w
          by_cases w2 : r' = r
          · subst w2
            simp [z]
          · simp [w2]
        · simp [w]
noncomputable abbrev apBody (b : Bool) (i j : Nat) : FS := (sFor (iS (eMeth A.C_Relation "rows" (f_Relation_rows A) [] (eMeth A.C_Store "of" (f_Store_of A) [] (eVar i) (aCons (eVar 3) aNil)) aNil)) (gN 4) (apRow A b j))
open Classical in
theorem ap_names {k sa sc : Nat} {Fa Fc : List Nat} {Sa S : Str → D → Prop} {x0 x1 : Vl} (b : Bool) (i j : Nat) (hi : ∀ (o2 o3 o4 : Option Vl) (W : Ms), eVar i [some x0, some x1, o2, o3, o4] W = .ok (.mu sa) W) (hj : ∀ (o2 o3 o4 : Option Vl) (W : Ms), eVar j [some x0, some x1, o2, o3, o4] W = .ok (.mu sc) W) : ∀ (ms : List Str) (W : Ms) (F : List Nat) (co : CS) (o3 o4 : Option Vl), Ch A W k F co → Sto A W sa Fa Sa → Sto A W sc Fc S → (∀ i ∈ Fa, i ∉ F) → (∀ i ∈ Fc, i ∉ F) → ms.Nodup → (∀ m ∈ ms, okN m ∧ ∃ d, Sa m d) → (∀ m ∈ ms, ∀ r, Sa m r → ¬ S m r → co m r = none) →
    ∃ o3' o4' F' W', forL yes (gN 3) (apBody A b i j) (ms.map fun m => Vl.d (.str m)) [some x0, some x1, some (.mu k), o3, o4] W = .nx [some x0, some x1, some (.mu k), o3', o4'] W' ∧
      (∃ co', Ch A W' k F' co' ∧ ∀ m r, co' m r = if m ∈ ms ∧ Sa m r ∧ ¬ S m r then some b else co m r) ∧ Grow W W' F F'
  | [], W, F, co, o3, o4, h, _, _, _, _, _, _, _ => ⟨o3, o4, F, W, by simp [forL, yes], ⟨co, h, fun m' r => by simp⟩, .refl⟩
  | m :: ms, W, F, co, o3, o4, h, ha, hs, apa, ap, hd, hok, hc => by
    rw [List.nodup_cons] at hd
    obtain ⟨hm, hex⟩ := hok m List.mem_cons_self
    have ck := canon_ok (Sa m)
    obtain ⟨o4a, F1, W1, e1, ⟨co1, h1, q1⟩, g1⟩ := ap_rows A b j hj hm (canon (Sa m)) W F co o4 h hs ap ck.s ck.d fun r hr => hc m List.mem_cons_self r (mem_canon.mp hr).2
    obtain ⟨apa1, ka, _⟩ := g1.keeps apa ha.lt
    obtain ⟨ap1, kc, _⟩ := g1.keeps ap hs.lt
    obtain ⟨o3', o4', F2, W2, e2, ⟨co2, h2, q2⟩, g2⟩ := ap_names b i j hi hj ms W1 F1 co1 (some (.d (.str m))) o4a h1 (ha.frame ka) (hs.frame kc) apa1 ap1 hd.2 (fun x hx => hok x (List.mem_cons_of_mem _ hx)) fun x hx r hr hn => by
      rw [q1, if_neg (fun z : x = m ∧ _ => hd.1 (z.1 ▸ hx))]
      exact hc x (List.mem_cons_of_mem _ hx) r hr hn
    refine ⟨o3', o4', F2, W2, ?_, ⟨co2, h2, fun m' r => ?_⟩, g1.trans g2⟩
    · have er := ha.rows A hex (fa := eVar i) (fb := eVar 3) (ρ := [some x0, some x1, some (.mu k), some (.d (.str m)), o4]) (hi _ _ _ W) rfl
      have s1 : apBody A b i j [some x0, some x1, some (.mu k), some (.d (.str m)), o4] W = .nx [some x0, some x1, some (.mu k), some (.d (.str m)), o4a] W1 := by
        simp only [apBody, sFor, iS, er, Res.bind_ok, seq_tup, Res.bindS_ok]
        exact e1
      have eg : gN 3 (Vl.d (.str m)) [some x0, some x1, some (.mu k), o3, o4] = some [some x0, some x1, some (.mu k), some (.d (.str m)), o4] := rfl
      simp only [List.map_cons, forL, yes, if_true, eg, s1]
      exact e2
    · rw [q2, q1]
      by_cases w : m' = m
      · subst w
        have : (r ∈ canon (Sa m') ∧ ¬ S m' r) ↔ (Sa m' r ∧ ¬ S m' r) := by
          rw [mem_canon]
          exact ⟨fun z => ⟨z.1.2, z.2⟩, fun z => ⟨⟨(ha.ok z.1).2, z.1⟩, z.2⟩⟩
        simp [hd.1, this]
      · simp [w]
open Classical in
theorem apart {W : Ms} {s1 s2 : Nat} {F1 F2 : List Nat} {S1 S2 : Str → D → Prop} (h1 : Sto A W s1 F1 S1) (h2 : Sto A W s2 F2 S2) : ∃ k F W', f_apart A [.mu s1, .mu s2] W = .ok (.mu k) W' ∧ (∃ co, Ch A W' k F co ∧ ∀ m r, co m r = if S1 m r ∧ ¬ S2 m r then some false else if S2 m r ∧ ¬ S1 m r then some true else none) ∧ Grow W W' [] F := by
  obtain ⟨_, _, c3, _⟩ := nbS
  obtain ⟨Fk, W1, e1, hk, g1⟩ := newCh A W [some (.mu s1), some (.mu s2), none, none, none]
  obtain ⟨a1, k1, _⟩ := g1.keeps (G := F1) (fun i _ z => nomatch z) h1.lt
  obtain ⟨a2, k2, _⟩ := g1.keeps (G := F2) (fun i _ z => nomatch z) h2.lt
  have h1' := h1.frame k1
  have h2' := h2.frame k2
  have nmk : ∀ S : Str → D → Prop, (nmC fun m => ∃ d, S m d).Nodup ∧ ∀ m ∈ (nmC fun m => ∃ d, S m d), okN m ∧ ∃ d, S m d := fun S => ⟨(show (["p", "q"] : List Str).Nodup by simp).filter _, fun m hm => mem_nmC.mp hm⟩
  obtain ⟨o3, o4, Fa, W2, e2, ⟨co, hc, q⟩, g2⟩ := ap_names A (x0 := .mu s1) (x1 := .mu s2) (k := W.length) false 0 1 (fun _ _ _ _ => rfl) (fun _ _ _ _ => rfl) (nmC fun m => ∃ d, S1 m d) W1 Fk (fun _ _ => none) none none hk h1' h2' a1 a2 (nmk S1).1 (nmk S1).2 fun _ _ _ _ _ => rfl
  obtain ⟨a3, k3, _⟩ := g2.keeps a1 h1'.lt
  obtain ⟨a4, k4, _⟩ := g2.keeps a2 h2'.lt
  have h1'' := h1'.frame k3
  have h2'' := h2'.frame k4
  obtain ⟨o3', o4', Fb, W3, e3, ⟨co', hc', q'⟩, g3⟩ := ap_names A (x0 := .mu s1) (x1 := .mu s2) (k := W.length) true 1 0 (fun _ _ _ _ => rfl) (fun _ _ _ _ => rfl) (nmC fun m => ∃ d, S2 m d) W2 Fa co o3 o4 hc h2'' h1'' a4 a3 (nmk S2).1 (nmk S2).2 fun m _ r hr hn => by
    rw [q, if_neg (fun z => hn z.2.1)]
  refine ⟨W.length, Fb, W3, ?_, ⟨co', hc', fun m r => ?_⟩, (g1.trans g2).trans g3⟩
  · refine run0_rt (nn := 5) rfl ?_
    refine (sSeq_nx (sSet_ok e1)).trans ?_
    have t1 : sFor (iS (eMeth A.C_Store "names" (f_Store_names A) [] (eVar 0) aNil)) (gN 3) (apBody A false 0 1) [some (.mu s1), some (.mu s2), some (.mu W.length), none, none] W1 = .nx [some (.mu s1), some (.mu s2), some (.mu W.length), o3, o4] W2 := by
      simp only [sFor, iS]
      rw [meth0 (n := s1) rfl (h1'.isI c3), h1'.names]
      simp only [Res.bind_ok, seq_tup, List.map_map, Function.comp_def, Res.bindS_ok]
      exact e2
    have t2 : sFor (iS (eMeth A.C_Store "names" (f_Store_names A) [] (eVar 1) aNil)) (gN 3) (apBody A true 1 0) [some (.mu s1), some (.mu s2), some (.mu W.length), o3, o4] W2 = .nx [some (.mu s1), some (.mu s2), some (.mu W.length), o3', o4'] W3 := by
      simp only [sFor, iS]
      rw [meth0 (n := s2) rfl (h2''.isI c3), h2''.names]
      simp only [Res.bind_ok, seq_tup, List.map_map, Function.comp_def, Res.bindS_ok]
      exact e3
    exact (sSeq_nx t1).trans ((sSeq_nx t2).trans rfl)
  · have m1 : (m ∈ (nmC fun m => ∃ d, S1 m d) ∧ S1 m r ∧ ¬ S2 m r) ↔ (S1 m r ∧ ¬ S2 m r) := ⟨fun z => z.2, fun z => ⟨mem_nmC.mpr ⟨(h1.ok z.1).1, r, z.1⟩, z⟩⟩
    have m2 : (m ∈ (nmC fun m => ∃ d, S2 m d) ∧ S2 m r ∧ ¬ S1 m r) ↔ (S2 m r ∧ ¬ S1 m r) := ⟨fun z => z.2, fun z => ⟨mem_nmC.mpr ⟨(h2.ok z.1).1, r, z.1⟩, z⟩⟩
    rw [q', q]
    simp only [m1, m2]
    by_cases u : S1 m r <;> by_cases v : S2 m r <;> simp [u, v]
end
end Toy

set_option Elab.async false
set_option linter.all false
set_option maxRecDepth 100000
set_option maxHeartbeats 4000000
namespace Toy
open PySem L2 DL
/-! ## changes laid on a store -/
theorem sSeq_exc {f g : FS} {ρ : Ev} {W W1 : Ms} {C : Addr} (h : f ρ W = .exc C W1) : sSeq f g ρ W = .exc C W1 := by simp [sSeq, h]
section
variable (A : Ad)
noncomputable def chkB (b : Bool) : FS := if b = true then (sIf (tstV (eMeth A.C_Store "has" (f_Store_has A) [] (eVar 0) (aCons (eVar 2) (aCons (eVar 3) aNil)))) (sRaise A.C_NoSuch (eJoin [(eC (.str "there: ")), (eFmt (eVar 2))])) sNil) else (sIf (tstNot (tstV (eMeth A.C_Store "has" (f_Store_has A) [] (eVar 0) (aCons (eVar 2) (aCons (eVar 3) aNil))))) (sRaise A.C_NoSuch (eJoin [(eC (.str "not there: ")), (eFmt (eVar 2))])) sNil)
theorem raise_ok {m : Str} (hm : okN m) {s : Str} (hs : s = "there: " ∨ s = "not there: ") {ρ : Ev} {W : Ms} (h2 : ρ[2]? = some (some (.d (.str m)))) : sRaise A.C_NoSuch (eJoin [(eC (.str s)), (eFmt (eVar 2))]) ρ W = .exc A.C_NoSuch W := by
  have h1 : m.length ≤ 1000000 := by rcases hm with rfl | rfl <;> decide
  have h3 : (Str.empty ++ s).length ≤ sizeLine := by rcases hs with rfl | rfl <;> exact mil (by decide)
  have h4 : (Str.empty ++ s ++ m).length ≤ sizeLine := by rcases hs with rfl | rfl <;> rcases hm with rfl | rfl <;> exact mil (by decide)
  simp only [sRaise, eJoin, fJs, eC, Res.bind_ok, strOf, if_pos h3, eFmt, eUn, eVar, h2, fmtD, if_pos h1, if_pos h4, Res.bindS_ok]
def gd (S : Str → D → Prop) (b : Bool) (m : Str) (d : D) : Prop := S m d ↔ b = false
open Classical in
theorem chk_one {W : Ms} {s : Nat} {F : List Nat} {S : Str → D → Prop} (hs : Sto A W s F S) {x1 : Vl} {o4 : Option Vl} (b : Bool) {m : Str} (hm : okN m) {d : D} (hd : d ∈ rw3) : chkB A b [some (.mu s), some x1, some (.d (.str m)), some (.d d), o4] W = if gd S b m d then .nx [some (.mu s), some x1, some (.d (.str m)), some (.d d), o4] W else .exc A.C_NoSuch W := by
  obtain ⟨c1, _, _, _⟩ := nbS
  have eh : eMeth A.C_Store "has" (f_Store_has A) [] (eVar 0) (aCons (eVar 2) (aCons (eVar 3) aNil)) [some (.mu s), some x1, some (.d (.str m)), some (.d d), o4] W = .ok (.d (.bl (decide (S m d)))) W := by
    rw [meth2 (n := s) (x := .d (.str m)) (y := .d d) rfl (hs.isI c1) rfl rfl, hs.has A m hd]
  cases b with
  | true =>
    simp only [chkB, if_true, sIf, tstV, eh, Res.bind_ok, blOf, Res.bindS_ok]
    by_cases z : S m d
    · simp only [z, decide_true, if_true, raise_ok A hm (.inl rfl) (ρ := [some (.mu s), some x1, some (.d (.str m)), some (.d d), o4]) rfl]
      simp [gd, z]
    · simp [gd, z, sNil]
  | false =>
    simp only [chkB, Bool.false_eq_true, if_false, sIf, tstNot, tstV, eh, Res.bind_ok, blOf, Res.bindS_ok]
    by_cases z : S m d
    · simp [gd, z, sNil]
    · simp only [z, decide_false, Bool.not_false, if_true, raise_ok A hm (.inr rfl) (ρ := [some (.mu s), some x1, some (.d (.str m)), some (.d d), o4]) rfl]
      simp [gd, z]
open Classical in
theorem chk_rows {W : Ms} {s : Nat} {F : List Nat} {S : Str → D → Prop} (hs : Sto A W s F S) {x1 : Vl} {o4 : Option Vl} (b : Bool) {m : Str} (hm : okN m) : ∀ (l : List D) (o3 : Option Vl), (∀ d ∈ l, d ∈ rw3) →
    ∃ o3', forL yes (gN 3) (chkB A b) (l.map Vl.d) [some (.mu s), some x1, some (.d (.str m)), o3, o4] W = if ∀ d ∈ l, gd S b m d then .nx [some (.mu s), some x1, some (.d (.str m)), o3', o4] W else .exc A.C_NoSuch W
  | [], o3, _ => ⟨o3, by simp [forL, yes]⟩
  | d :: l, o3, h => by
    obtain ⟨o3', e⟩ := chk_rows hs (x1 := x1) (o4 := o4) b hm l (some (.d d)) fun x hx => h x (List.mem_cons_of_mem _ hx)
    refine ⟨o3', ?_⟩
    have eg : gN 3 (Vl.d d) [some (.mu s), some x1, some (.d (.str m)), o3, o4] = some [some (.mu s), some x1, some (.d (.str m)), some (.d d), o4] := rfl
    simp only [List.map_cons, forL, yes, if_true, eg, chk_one A hs b hm (h d List.mem_cons_self)]
    by_cases z : gd S b m d
    · rw [if_pos z]
      simp only [e, List.forall_mem_cons, z, true_and]
    · rw [if_neg z, if_neg (fun w => z (w d List.mem_cons_self))]
noncomputable abbrev chkBody : FS := (sSeq (sFor (iS (eMeth A.C_Changes "went" (f_Changes_went A) [] (eVar 1) (aCons (eVar 2) aNil))) (gN 3) (chkB A false))
      (sFor (iS (eMeth A.C_Changes "came" (f_Changes_came A) [] (eVar 1) (aCons (eVar 2) aNil))) (gN 3) (chkB A true)))
def fits (S : Str → D → Prop) (cs : CS) (m : Str) : Prop := ∀ d, (cs m d = some false → S m d) ∧ (cs m d = some true → ¬ S m d)
open Classical in
theorem chk_names {W : Ms} {s c : Nat} {F Fc : List Nat} {S : Str → D → Prop} {cs : CS} (hs : Sto A W s F S) (hc : Ch A W c Fc cs) {o4 : Option Vl} : ∀ (ms : List Str) (o2 o3 : Option Vl), (∀ m ∈ ms, okN m) →
    ∃ o2' o3', forL yes (gN 2) (chkBody A) (ms.map fun m => Vl.d (.str m)) [some (.mu s), some (.mu c), o2, o3, o4] W = if ∀ m ∈ ms, fits S cs m then .nx [some (.mu s), some (.mu c), o2', o3', o4] W else .exc A.C_NoSuch W
  | [], o2, o3, _ => ⟨o2, o3, by simp [forL, yes]⟩
  | m :: ms, o2, o3, h => by
    obtain ⟨_, _, b3, b4, b5, b6, _⟩ := nb
    have hm := h m List.mem_cons_self
    obtain ⟨l2, k2, m2, e2⟩ := hc.went A m
    obtain ⟨l1, k1, m1, e1⟩ := hc.came A m
    obtain ⟨o3a, ea⟩ := chk_rows A hs (x1 := .mu c) (o4 := o4) false hm l2 o3 k2.s
    obtain ⟨o3b, eb⟩ := chk_rows A hs (x1 := .mu c) (o4 := o4) true hm l1 o3a k1.s
    obtain ⟨o2', o3', e⟩ := chk_names hs hc (o4 := o4) ms (some (.d (.str m))) o3b fun x hx => h x (List.mem_cons_of_mem _ hx)
    refine ⟨o2', o3', ?_⟩
    have eg : gN 2 (Vl.d (.str m)) [some (.mu s), some (.mu c), o2, o3, o4] = some [some (.mu s), some (.mu c), some (.d (.str m)), o3, o4] := rfl
    have s1 : sFor (iS (eMeth A.C_Changes "went" (f_Changes_went A) [] (eVar 1) (aCons (eVar 2) aNil))) (gN 3) (chkB A false) [some (.mu s), some (.mu c), some (.d (.str m)), o3, o4] W = if ∀ d ∈ l2, gd S false m d then .nx [some (.mu s), some (.mu c), some (.d (.str m)), o3a, o4] W else .exc A.C_NoSuch W := by
      simp only [sFor, iS]
      rw [meth1 (n := c) (x := .d (.str m)) rfl (hc.isI b5 b6) rfl, e2]
      simp only [Res.bind_ok, seq_lst, Res.bindS_ok]
      exact ea
    have s2 : sFor (iS (eMeth A.C_Changes "came" (f_Changes_came A) [] (eVar 1) (aCons (eVar 2) aNil))) (gN 3) (chkB A true) [some (.mu s), some (.mu c), some (.d (.str m)), o3a, o4] W = if ∀ d ∈ l1, gd S true m d then .nx [some (.mu s), some (.mu c), some (.d (.str m)), o3b, o4] W else .exc A.C_NoSuch W := by
      simp only [sFor, iS]
      rw [meth1 (n := c) (x := .d (.str m)) rfl (hc.isI b3 b4) rfl, e1]
      simp only [Res.bind_ok, seq_lst, Res.bindS_ok]
      exact eb
    have g1 : (∀ d ∈ l2, gd S false m d) ↔ ∀ d, cs m d = some false → S m d := ⟨fun w d q => (w d ((m2 d).mpr q)).mpr rfl, fun w d q => ⟨fun _ => rfl, fun _ => w d ((m2 d).mp q)⟩⟩
    have g2 : (∀ d ∈ l1, gd S true m d) ↔ ∀ d, cs m d = some true → ¬ S m d := ⟨fun w d q z => Bool.noConfusion ((w d ((m1 d).mpr q)).mp z), fun w d q => ⟨fun z => absurd z (w d ((m1 d).mp q)), fun z => Bool.noConfusion z⟩⟩
    have sb : chkBody A [some (.mu s), some (.mu c), some (.d (.str m)), o3, o4] W = if fits S cs m then .nx [some (.mu s), some (.mu c), some (.d (.str m)), o3b, o4] W else .exc A.C_NoSuch W := by
      simp only [chkBody, sSeq, s1]
      by_cases w1 : ∀ d ∈ l2, gd S false m d
      · rw [if_pos w1]
        simp only [s2]
        by_cases w2 : ∀ d ∈ l1, gd S true m d
        · rw [if_pos w2, if_pos (show fits S cs m from fun d => ⟨g1.mp w1 d, g2.mp w2 d⟩)]
        · rw [if_neg w2, if_neg (fun z : fits S cs m => w2 (g2.mpr fun d => (z d).2))]
      · rw [if_neg w1, if_neg (fun z : fits S cs m => w1 (g1.mpr fun d => (z d).1))]
    simp only [List.map_cons, forL, yes, if_true, eg, sb]
    by_cases z : fits S cs m
    · rw [if_pos z]
      simp only [e, List.forall_mem_cons, z, true_and]
    · rw [if_neg z, if_neg (fun w => z (w m List.mem_cons_self))]
noncomputable abbrev layBody : FS := (sSeq (sSet 4 (eMeth A.C_Store "of" (f_Store_of A) [] (eVar 0) (aCons (eVar 2) aNil)))
      (sSeq (sFor (iS (eMeth A.C_Changes "went" (f_Changes_went A) [] (eVar 1) (aCons (eVar 2) aNil))) (gN 3) (sExpr (eMeth A.C_Relation "drop" (f_Relation_drop A) [] (eVar 4) (aCons (eVar 3) aNil))))
      (sFor (iS (eMeth A.C_Changes "came" (f_Changes_came A) [] (eVar 1) (aCons (eVar 2) aNil))) (gN 3) (sExpr (eMeth A.C_Relation "add" (f_Relation_add A) [] (eVar 4) (aCons (eVar 3) aNil))))))
open Classical in
theorem lay_names {s c r : Nat} {Fc : List Nat} {cs : CS} : ∀ (ms : List Str) (W : Ms) (X : List RX) (o2 o3 o4 : Option Vl), StX A W s r X → Ch A W c Fc cs → (∀ i ∈ Fc, i ∉ fsX s r X) → ms.Nodup → (∀ m ∈ ms, okN m) →
    ∃ o2' o3' o4' X' W', forL yes (gN 2) (layBody A) (ms.map fun m => Vl.d (.str m)) [some (.mu s), some (.mu c), o2, o3, o4] W = .nx [some (.mu s), some (.mu c), o2', o3', o4'] W' ∧
      StX A W' s r X' ∧ (∀ m d, d ∈ atR X' m ↔ if m ∈ ms ∧ cs m d ≠ none then cs m d = some true else d ∈ atR X m) ∧ Grow W W' (fsX s r X) (fsX s r X')
  | [], W, X, o2, o3, o4, q, _, _, _, _ => ⟨o2, o3, o4, X, W, by simp [forL, yes], q, fun m d => by simp, .refl⟩
  | m :: ms, W, X, o2, o3, o4, q, hc, ap, hd, h => by
    rw [List.nodup_cons] at hd
    obtain ⟨_, _, b3, b4, b5, b6, _⟩ := nb
    obtain ⟨_, c2, _, _⟩ := nbS
    have hm := h m List.mem_cons_self
    obtain ⟨x, X1, W1, e1, q1, z1, a1, g1⟩ := sto_of A q hm
    obtain ⟨ap1, k1, _⟩ := g1.keeps ap hc.lt
    have hc1 := hc.frame k1
    obtain ⟨l2, kk2, m2, e2⟩ := hc1.went A m
    obtain ⟨o3a, X2, x2, W2, e3, q2, z2, y2, a2, g2⟩ := op_rows A (x0 := .mu s) (x1 := .mu c) (x2 := .d (.str m)) false l2 W1 X1 x o3 q1 z1 rfl kk2.s
    obtain ⟨ap2, k2, _⟩ := g2.keeps ap1 hc1.lt
    have hc2 := hc1.frame k2
    obtain ⟨l1, kk1, m1, e4⟩ := hc2.came A m
    obtain ⟨o3b, X3, x3, W3, e5, q3, z3, y3, a3, g3⟩ := op_rows A (x0 := .mu s) (x1 := .mu c) (x2 := .d (.str m)) true l1 W2 X2 x2 o3a q2 z2 y2 kk1.s
    obtain ⟨ap3, k3, _⟩ := g3.keeps ap2 hc2.lt
    have hc3 := hc2.frame k3
    obtain ⟨o2', o3', o4', X', W', e6, q4, a4, g4⟩ := lay_names ms W3 X3 (some (.d (.str m))) o3b (some (.mu x.k)) q3 hc3 ap3 hd.2 fun y hy => h y (List.mem_cons_of_mem _ hy)
    refine ⟨o2', o3', o4', X', W', ?_, q4, fun m' d => ?_, ((g1.trans g2).trans g3).trans g4⟩
    · have eg : gN 2 (Vl.d (.str m)) [some (.mu s), some (.mu c), o2, o3, o4] = some [some (.mu s), some (.mu c), some (.d (.str m)), o3, o4] := rfl
      have s0 : sSet 4 (eMeth A.C_Store "of" (f_Store_of A) [] (eVar 0) (aCons (eVar 2) aNil)) [some (.mu s), some (.mu c), some (.d (.str m)), o3, o4] W = .nx [some (.mu s), some (.mu c), some (.d (.str m)), o3, some (.mu x.k)] W1 :=
        sSet_ok (by rw [meth1 (n := s) (x := .d (.str m)) rfl (q.isI c2) rfl, e1])
      have s1 : sFor (iS (eMeth A.C_Changes "went" (f_Changes_went A) [] (eVar 1) (aCons (eVar 2) aNil))) (gN 3) (sExpr (eMeth A.C_Relation "drop" (f_Relation_drop A) [] (eVar 4) (aCons (eVar 3) aNil))) [some (.mu s), some (.mu c), some (.d (.str m)), o3, some (.mu x.k)] W1 = .nx [some (.mu s), some (.mu c), some (.d (.str m)), o3a, some (.mu x.k)] W2 := by
        simp only [sFor, iS]
        rw [meth1 (n := c) (x := .d (.str m)) rfl (hc1.isI b5 b6) rfl, e2]
        simp only [Res.bind_ok, seq_lst, Res.bindS_ok]
        exact e3
      have s2 : sFor (iS (eMeth A.C_Changes "came" (f_Changes_came A) [] (eVar 1) (aCons (eVar 2) aNil))) (gN 3) (sExpr (eMeth A.C_Relation "add" (f_Relation_add A) [] (eVar 4) (aCons (eVar 3) aNil))) [some (.mu s), some (.mu c), some (.d (.str m)), o3a, some (.mu x.k)] W2 = .nx [some (.mu s), some (.mu c), some (.d (.str m)), o3b, some (.mu x.k)] W3 := by
        simp only [sFor, iS]
        rw [meth1 (n := c) (x := .d (.str m)) rfl (hc2.isI b3 b4) rfl, e4]
        simp only [Res.bind_ok, seq_lst, Res.bindS_ok]
        exact e5
      have sb : layBody A [some (.mu s), some (.mu c), some (.d (.str m)), o3, o4] W = .nx [some (.mu s), some (.mu c), some (.d (.str m)), o3b, some (.mu x.k)] W3 := (sSeq_nx s0).trans ((sSeq_nx s1).trans s2)
      simp only [List.map_cons, forL, yes, if_true, eg, sb]
      exact e6
    · rw [a4, a3, a2, a1]
      by_cases w : m' = m
      · subst w
        simp only [hd.1, false_and, if_false, true_and, List.mem_cons, true_or, m1, m2]
        cases cs m' d with
        | none => simp
        | some b => cases b <;> simp
      · simp [w]
theorem laid {W : Ms} {s c : Nat} {Fs Fc : List Nat} {S : Str → D → Prop} {cs : CS} (hs : Sto A W s Fs S) (hc : Ch A W c Fc cs) (ap : ∀ i ∈ Fc, i ∉ Fs) :
    ((∀ m, fits S cs m) → ∃ Fs' W', f_laid_on A [.mu s, .mu c] W = .ok (.d .non) W' ∧ (∃ S', Sto A W' s Fs' S' ∧ ∀ m d, S' m d ↔ (cs m d = some true ∨ (cs m d = none ∧ S m d))) ∧ Grow W W' Fs Fs') ∧
    ((¬ ∀ m, fits S cs m) → f_laid_on A [.mu s, .mu c] W = .exc A.C_NoSuch W) := by
  classical
  obtain ⟨b1, b2, _⟩ := nb
  obtain ⟨o2, o3, ec⟩ := chk_names A hs hc (o4 := none) (nmOf cs) none none (nm_ok cs)
  have hall : (∀ m ∈ nmOf cs, fits S cs m) ↔ ∀ m, fits S cs m := by
    refine ⟨fun w m => ?_, fun w m _ => w m⟩
    by_cases z : m ∈ nmOf cs
    · exact w m z
    · have : ∀ d, cs m d = none := fun d => by
        cases q : cs m d with
        | none => rfl
        | some b => exact absurd (mem_nmC.mpr ⟨(hc.ok (r := d) (by rw [q]; simp)).1, d, by rw [q]; simp⟩) z
      exact fun d => ⟨fun q => (by rw [this] at q; cases q), fun q => (by rw [this] at q; cases q)⟩
  have hi : ∀ (ρ : Ev) (W' : Ms), Ch A W' c Fc cs → ρ[1]? = some (some (.mu c)) → iS (eMeth A.C_Changes "names" (f_Changes_names A) [] (eVar 1) aNil) ρ W' = .ok ⟨(nmOf cs).map fun m => Vl.d (.str m), yes⟩ W' := fun ρ W' h h1 => by
    simp only [iS]
    rw [meth0 (n := c) (by simp [eVar, h1]) (h.isI b1 b2), h.names]
    simp only [Res.bind_ok, seq_tup, List.map_map, Function.comp_def]
  have s1 : sFor (iS (eMeth A.C_Changes "names" (f_Changes_names A) [] (eVar 1) aNil)) (gN 2) (chkBody A) [some (.mu s), some (.mu c), none, none, none] W = if ∀ m ∈ nmOf cs, fits S cs m then .nx [some (.mu s), some (.mu c), o2, o3, none] W else .exc A.C_NoSuch W := by
    simp only [sFor, hi _ W hc (show [some (Vl.mu s), some (.mu c), none, none, none][1]? = _ from rfl), Res.bindS_ok]
    exact ec
  refine ⟨fun good => ?_, fun bad => ?_⟩
  · rw [if_pos (hall.mpr good)] at s1
    obtain ⟨r, X, q, rfl, cS⟩ := hs
    obtain ⟨o2', o3', o4', X', W', el, q', a', g'⟩ := lay_names A (nmOf cs) W X o2 o3 none q hc ap (nm_nd cs) (nm_ok cs)
    refine ⟨_, W', ?_, ⟨_, ⟨r, X', q', rfl, fun m d => Iff.rfl⟩, fun m d => ?_⟩, g'⟩
    · refine run0_nx (nn := 5) (ρ := [some (.mu s), some (.mu c), o2', o3', o4']) rfl ?_
      refine (sSeq_nx s1).trans ?_
      show sFor (iS (eMeth A.C_Changes "names" (f_Changes_names A) [] (eVar 1) aNil)) (gN 2) (layBody A) _ W = _
      simp only [sFor, hi _ W hc (show [some (Vl.mu s), some (.mu c), o2, o3, none][1]? = _ from rfl), Res.bindS_ok]
      exact el
    · rw [a', cS]
      have : (m ∈ nmOf cs ∧ cs m d ≠ none) ↔ cs m d ≠ none := ⟨fun z => z.2, fun z => ⟨mem_nmC.mpr ⟨(hc.ok z).1, d, z⟩, z⟩⟩
      simp only [this]
      cases cs m d with
      | none => simp
      | some b => cases b <;> simp
  · rw [if_neg (fun z => bad (hall.mp z))] at s1
    refine run0_exc (nn := 5) rfl ?_
    exact sSeq_exc s1
end
end Toy

set_option Elab.async false
set_option linter.all false
set_option maxRecDepth 100000
set_option maxHeartbeats 4000000
namespace Toy
open PySem L2 DL
/-! ## dice, facts -/
def Dz (W : Ms) : Prop := ∃ m, Dc m ∧ W[0]? = some m
/-- nothing but the dice changed -/
structure Rolled (W W' : Ms) : Prop where
  dz : Dz W'
  l : W'.length = W.length
  e : ∀ i, i ≠ 0 → W'[i]? = W[i]?
theorem Rolled.trans {W W1 W2 : Ms} (a : Rolled W W1) (b : Rolled W1 W2) : Rolled W W2 := ⟨b.dz, b.l.trans a.l, fun i hi => (b.e i hi).trans (a.e i hi)⟩
theorem Rolled.refl {W : Ms} (h : Dz W) : Rolled W W := ⟨h, rfl, fun _ _ => rfl⟩
def fD (f : Str × D) : D := .tup [.str f.1, f.2]
def okF (f : Str × D) : Prop := okN f.1 ∧ f.2 ∈ rw3
section
variable (A : Ad)
theorem roll' {W : Ms} (h : Dz W) {k : Int} (h0 : 0 < k) (h1 : k < 1000) : ∃ (n : Nat) (W' : Ms), (n : Int) < k ∧ Rolled W W' ∧ f_l_roll A [.mu 0, .d (.int k)] W = .ok (.d (.int (n : Int))) W' := by
  obtain ⟨m, hm, e⟩ := h
  cases W with
  | nil => cases e
  | cons m0 R =>
    cases e
    obtain ⟨r, m', r0, r1, hm', e⟩ := roll A hm R h0 h1
    obtain ⟨n, rfl⟩ : ∃ n : Nat, r = (n : Int) := ⟨r.toNat, by omega⟩
    refine ⟨n, m' :: R, r1, ⟨⟨m', hm', rfl⟩, rfl, fun i hi => ?_⟩, e⟩
    cases i with
    | zero => exact absurd rfl hi
    | succ i => rfl
theorem ev_roll {d : Nat} {ρ : Ev} (hd : ρ[d]? = some (some (.mu 0))) {W : Ms} (h : Dz W) {k : Int} (h0 : 0 < k) (h1 : k < 1000) : ∃ (n : Nat) (W' : Ms), (n : Int) < k ∧ Rolled W W' ∧ eCall (f_l_roll A) [] (aCons (eVar d) (aCons (eC (.int k)) aNil)) ρ W = .ok (.d (.int (n : Int))) W' := by
  obtain ⟨n, W', a, b, c⟩ := roll' A h h0 h1
  exact ⟨n, W', a, b, by rw [eCall2 (x := .mu 0) (y := .d (.int k)) (W1 := W) (W2 := W) (by simp [eVar, hd]) rfl, c]⟩
noncomputable abbrev factE (d : Nat) : FE := (eTup (aCons (eOp ixD (eC (.str "pq")) (eCall (f_l_roll A) [] (aCons (eVar d) (aCons (eC (.int 2)) aNil)))) (aCons (eTup (aCons (eCall (f_l_roll A) [] (aCons (eVar d) (aCons (eC (.int 3)) aNil))) aNil)) aNil)))
theorem pq_at (W : Ms) (n : Nat) (h : n < 2) : ∃ m, okN m ∧ ixD W (.d (.str "pq")) (.d (.int (n : Int))) = .ok (.d (.str m)) W := by
  have hl : ("pq" : Str).length ≤ 1000000 := by decide
  have hp : (⟨#[112]⟩ : Str) = "p" := by decide +kernel
  have hq : (⟨#[113]⟩ : Str) = "q" := by decide +kernel
  have hc : ("pq" : Str).cps.toList = [112, 113] := rfl
  obtain rfl | rfl : n = 0 ∨ n = 1 := by omega
  · refine ⟨"p", .inl rfl, ?_⟩
    simp [ixD, dctOf, intOf, seqOf, lstOf, DL.tupOf, strOf, hl, hc, atI, ixN, hp]
  · refine ⟨"q", .inr rfl, ?_⟩
    simp [ixD, dctOf, intOf, seqOf, lstOf, DL.tupOf, strOf, hl, hc, atI, ixN, hq]
theorem ev_fact {d : Nat} {ρ : Ev} (hd : ρ[d]? = some (some (.mu 0))) {W : Ms} (h : Dz W) : ∃ (f : Str × D) (W' : Ms), okF f ∧ Rolled W W' ∧ factE A d ρ W = .ok (.d (fD f)) W' := by
  obtain ⟨a, W1, ha, r1, e1⟩ := ev_roll A hd h (k := 2) (by decide) (by decide)
  obtain ⟨b, W2, hb, r2, e2⟩ := ev_roll A hd r1.dz (k := 3) (by decide) (by decide)
  obtain ⟨m, hm, ex⟩ := pq_at W1 a (by omega)
  refine ⟨(m, .tup [.int b]), W2, ⟨hm, ?_⟩, r1.trans r2, ?_⟩
  · obtain rfl | rfl | rfl : b = 0 ∨ b = 1 ∨ b = 2 := by omega
    all_goals simp [rw3]
  · have et : eTup (aCons (eCall (f_l_roll A) [] (aCons (eVar d) (aCons (eC (.int 3)) aNil))) aNil) ρ W1 = .ok (.d (.tup [.int b])) W2 := by
      unfold eTup
      simp only [aCons] at e2 ⊢
      rw [e2]
      simp [aNil, mkTup, dsOf]
    have ei : eOp ixD (eC (.str "pq")) (eCall (f_l_roll A) [] (aCons (eVar d) (aCons (eC (.int 2)) aNil))) ρ W = .ok (.d (.str m)) W1 := by
      simp only [eOp, eC, Res.bind_ok] at e1 ⊢
      rw [e1]
      exact ex
    unfold factE
    generalize eOp ixD (eC (.str "pq")) (eCall (f_l_roll A) [] (aCons (eVar d) (aCons (eC (.int 2)) aNil))) = g1 at ei
    generalize eTup (aCons (eCall (f_l_roll A) [] (aCons (eVar d) (aCons (eC (.int 3)) aNil))) aNil) = g2 at et
    simp only [eTup, aCons, ei, et, aNil, Res.bind_ok]
    simp [mkTup, dsOf, fD]
theorem fd_ok {f : Str × D} (h : okF f) : (fD f).ok = true ∧ (fD f).dep ≤ 2 := by
  obtain ⟨m, r⟩ := f
  obtain ⟨h1, h2⟩ := h
  simp only [rw3, List.mem_cons, List.not_mem_nil, or_false] at h2
  rcases h1 with h1 | h1 <;> rcases h2 with h2 | h2 | h2 <;> (subst h2; simp only at h1; subst h1; decide +kernel)
theorem fd_sh {f : Str × D} (h : okF f) : shapedD (fD f) = true := by
  obtain ⟨h1, h2⟩ := fd_ok h
  simp only [shapedD, Bool.and_eq_true, decide_eq_true_eq]
  exact ⟨h1, by omega⟩
theorem fds_sh {fs : List (Str × D)} (h : ∀ f ∈ fs, okF f) : shapedD (.lst (fs.map fD)) = true := by
  simp only [shapedD, Bool.and_eq_true, decide_eq_true_eq]
  refine ⟨okL_map fD fs fun f hf => (fd_ok (h f hf)).1, ?_⟩
  show depL (fs.map fD) + 1 ≤ 64
  have := depL_map fD 2 fs fun f hf => (fd_ok (h f hf)).2
  omega
theorem fD_inj {f g : Str × D} (e : fD f = fD g) : f = g := by
  obtain ⟨m, r⟩ := f
  obtain ⟨n, s⟩ := g
  simp only [fD, D.tup.injEq, List.cons.injEq, D.str.injEq, and_true] at e
  rw [e.1, e.2]
open Classical in
theorem in_facts {W : Ms} {fs : List (Str × D)} (h : ∀ f ∈ fs, okF f) {f : Str × D} (hf : okF f) : isIn W (.d (fD f)) (.d (.lst (fs.map fD))) = some (decide (f ∈ fs)) := by
  have e1 : seqOf W (.d (.lst (fs.map fD))) = some ((fs.map fD).map Vl.d) := rfl
  have e2 : ¬ (flatD (fD f) = true ∧ (fs.map fD).all flatD = true) := fun z => by simp [flatD, fD] at z
  have e3 : dctOf W (.d (.lst (fs.map fD))) = none := rfl
  have e4 : (fD f ∈ fs.map fD) ↔ f ∈ fs := ⟨fun z => by
    obtain ⟨g, hg, e⟩ := List.mem_map.mp z
    rw [← fD_inj e]; exact hg, fun z => List.mem_map_of_mem z⟩
  have e5 : (lstOf W (.d (.lst (fs.map fD)))).isSome = true := rfl
  unfold isIn
  simp only [e3, e1, dsOf_map]
  rw [if_neg e2, if_pos ⟨e5, fd_sh hf, fds_sh h⟩]
  simp [e4]
theorem facts_loop : ∀ (l : List Nat) (W : Ms) (fs : List (Str × D)) (o2 o3 : Option Vl), Dz W → (∀ f ∈ fs, okF f) → fs.length + l.length ≤ 100 → ∃ (fs' : List (Str × D)) (o2' o3' : Option Vl) (W' : Ms), forL yes (gN 2) (sSeq (sSet 3 (factE A 0)) (sSet 1 (eOp addD (eVar 1) (eIf (tstV (eOp DL.notInD (eVar 3) (eVar 1))) (eLst (aCons (eVar 3) aNil)) (eLst aNil))))) (l.map fun k : Nat => Vl.d (.int (k : Int))) [some (.mu 0), some (.d (.lst (fs.map fD))), o2, o3] W = .nx [some (.mu 0), some (.d (.lst (fs'.map fD))), o2', o3'] W' ∧ Rolled W W' ∧ (∀ f ∈ fs', okF f) ∧ fs'.length ≤ fs.length + l.length
  | [], W, fs, o2, o3, h, hf, _ => ⟨fs, o2, o3, W, by simp [forL, yes], .refl h, hf, by simp⟩
  | k :: l, W, fs, o2, o3, h, hf, hl => by
    classical
    obtain ⟨f, W1, of, r1, e1⟩ := ev_fact A (d := 0) (ρ := [some (.mu 0), some (.d (.lst (fs.map fD))), some (.d (.int (k : Int))), o3]) rfl h
    have hin := in_facts (W := W1) hf of
    obtain ⟨gs, g1, g2, g3⟩ : ∃ gs : List (Str × D), (∀ g ∈ gs, okF g) ∧ gs.length ≤ fs.length + 1 ∧ sSet 1 (eOp addD (eVar 1) (eIf (tstV (eOp DL.notInD (eVar 3) (eVar 1))) (eLst (aCons (eVar 3) aNil)) (eLst aNil))) [some (.mu 0), some (.d (.lst (fs.map fD))), some (.d (.int (k : Int))), some (.d (fD f))] W1 = .nx [some (.mu 0), some (.d (.lst (gs.map fD))), some (.d (.int (k : Int))), some (.d (fD f))] W1 := by
      simp only [List.length_cons] at hl
      by_cases z : f ∈ fs
      · refine ⟨fs, hf, by omega, ?_⟩
        have em := mkLst_map (fs.map fD) W1 (by simp; omega)
        simp only [sSet, eOp, eVar, List.getElem?_cons_succ, List.getElem?_cons_zero, Res.bind_ok, eIf, tstV, DL.notInD, hin, z, decide_true, Bool.not_true, blOf, Bool.false_eq_true, if_false, eLst, aNil, mkLst, List.length_nil, Nat.zero_le, if_true, dsOf, addD, intOf, strOf, lstOf, List.map_nil, List.append_nil]
        simp only [mkLst] at em
        simp [dsOf] at em ⊢
        rw [em]
        rfl
      · refine ⟨fs ++ [f], fun g hg => ?_, by simp, ?_⟩
        · rcases List.mem_append.mp hg with hg | hg
          · exact hf g hg
          · rw [List.mem_singleton.mp hg]; exact of
        · have em := mkLst_map ((fs ++ [f]).map fD) W1 (by simp; omega)
          have e0 : eLst (aCons (eVar 3) aNil) [some (.mu 0), some (.d (.lst (fs.map fD))), some (.d (.int (k : Int))), some (.d (fD f))] W1 = .ok (.d (.lst [fD f])) W1 := by
            simp [eLst, aCons, aNil, eVar, mkLst, dsOf]
          have e2 : addD W1 (.d (.lst (fs.map fD))) (.d (.lst [fD f])) = .ok (.d (.lst ((fs ++ [f]).map fD))) W1 := by
            simp only [addD, intOf, strOf, lstOf]
            rw [← em]
            exact congrArg (mkLst · W1) (by simp)
          simp only [sSet, eOp, eVar, List.getElem?_cons_succ, List.getElem?_cons_zero, Res.bind_ok, eIf, tstV, DL.notInD, hin, z, decide_false, Bool.not_false, blOf, if_true, e0, e2, Res.bindS_ok]
          rfl
    obtain ⟨fs', o2', o3', W', e2, r2, h2, l2⟩ := facts_loop l W1 gs (some (.d (.int (k : Int)))) (some (.d (fD f))) r1.dz g1 (by simp only [List.length_cons] at hl; omega)
    refine ⟨fs', o2', o3', W', ?_, r1.trans r2, h2, by simp only [List.length_cons]; omega⟩
    have eg : gN 2 (Vl.d (.int (k : Int))) [some (.mu 0), some (.d (.lst (fs.map fD))), o2, o3] = some [some (.mu 0), some (.d (.lst (fs.map fD))), some (.d (.int (k : Int))), o3] := rfl
    have eb := (sSeq_nx (g := sSet 1 (eOp addD (eVar 1) (eIf (tstV (eOp DL.notInD (eVar 3) (eVar 1))) (eLst (aCons (eVar 3) aNil)) (eLst aNil)))) (sSet_ok (i := 3) e1)).trans g3
    simp only [List.map_cons, forL, yes, if_true, eg]
    rw [eb]
    exact e2
theorem facts {W : Ms} (h : Dz W) : ∃ (fs : List (Str × D)) (W' : Ms), (∀ f ∈ fs, okF f) ∧ fs.length ≤ 100 ∧ Rolled W W' ∧ f_l_facts A [.mu 0] W = .ok (.d (.lst (fs.map fD))) W' := by
  obtain ⟨n, W1, hn, r1, e1⟩ := ev_roll A (d := 0) (ρ := [some (.mu 0), some (.d (.lst [])), none, none]) rfl h (k := 6) (by decide) (by decide)
  have ea : aCons (eCall (f_l_roll A) [] (aCons (eVar 0) (aCons (eC (.int 6)) aNil))) aNil [some (.mu 0), some (.d (.lst [])), none, none] W = .ok [.d (.int (n : Int))] W1 := by
    generalize eCall (f_l_roll A) [] (aCons (eVar 0) (aCons (eC (.int 6)) aNil)) = g at e1
    simp only [aCons, e1, aNil, Res.bind_ok]
  have hi := rg1' ea (by omega)
  obtain ⟨fs, o2, o3, W2, e2, r2, h2, l2⟩ := facts_loop A (List.range' 0 n) W1 [] none none r1.dz (fun _ h => nomatch h) (by simp; omega)
  refine ⟨fs, W2, h2, by simp at l2; omega, r1.trans r2, run0_rt (nn := 4) rfl ?_⟩
  have s1 : sSet 1 (eLst aNil) [some (.mu 0), none, none, none] W = .nx [some (.mu 0), some (.d (.lst [])), none, none] W := rfl
  have s2 : sFor (iRg1 (aCons (eCall (f_l_roll A) [] (aCons (eVar 0) (aCons (eC (.int 6)) aNil))) aNil)) (gN 2) (sSeq (sSet 3 (factE A 0)) (sSet 1 (eOp addD (eVar 1) (eIf (tstV (eOp DL.notInD (eVar 3) (eVar 1))) (eLst (aCons (eVar 3) aNil)) (eLst aNil))))) [some (.mu 0), some (.d (.lst [])), none, none] W = .nx [some (.mu 0), some (.d (.lst (fs.map fD))), o2, o3] W2 := by
    simp only [sFor, hi, Res.bindS_ok]
    exact e2
  refine (sSeq_nx s1).trans ?_
  exact (sSeq_nx s2).trans rfl
end
end Toy

set_option Elab.async false
set_option linter.all false
set_option maxRecDepth 100000
set_option maxHeartbeats 4000000
namespace Toy
open PySem L2 DL
/-! ## the law's own net of changes -/
abbrev NX := List ((Str × D) × Bool)
def nV (N : NX) : List (D × Vl) := N.map fun p => (fD p.1, Vl.d (.bl p.2))
open Classical in
noncomputable def nlk : NX → Str × D → Option Bool
  | [], _ => none
  | (g, b) :: N, f => if g = f then some b else nlk N f
theorem getK_nV (f : Str × D) : ∀ N : NX, getK (nV N) (fD f) = (nlk N f).map fun b => Vl.d (.bl b)
  | [] => rfl
  | (g, b) :: N => by
    have ih := getK_nV f N
    by_cases e : g = f
    · subst e; simp [nV, getK, nlk]
    · have e1 : ¬ fD g = fD f := fun z => e (fD_inj z)
      simp only [nV, List.map_cons, getK, if_neg e1, nlk, if_neg e] at ih ⊢
      exact ih
theorem key_fd {f : Str × D} (h : okF f) : keyOk (fD f) = true := by
  obtain ⟨m, r⟩ := f
  obtain ⟨h1, h2⟩ := h
  simp only [rw3, List.mem_cons, List.not_mem_nil, or_false] at h2
  rcases h1 with h1 | h1 <;> rcases h2 with h2 | h2 | h2 <;> (subst h2; simp only at h1; subst h1; decide +kernel)
theorem okKey_nV {f : Str × D} (h : okF f) (N : NX) : okKey (nV N) (fD f) = true := by
  have k := key_fd h
  cases N with
  | nil => simp [nV, okKey, kindOk, k]
  | cons p N => simp [nV, okKey, kindOk, k, isTupD, fD] at k ⊢; try exact k
open Classical in
noncomputable def nput (f : Str × D) (b : Bool) (N : NX) : NX := if ∃ p ∈ N, p.1 = f then N.map (fun p => if p.1 = f then (p.1, b) else p) else N ++ [(f, b)]
open Classical in
noncomputable def ndel (f : Str × D) (N : NX) : NX := N.filter fun p => decide (p.1 ≠ f)
theorem put_nV (f : Str × D) (b : Bool) (N : NX) : putKD (fD f) (.d (.bl b)) (nV N) = nV (nput f b N) := by
  unfold putKD nput
  have e : (∃ p ∈ nV N, p.1 = fD f) ↔ ∃ p ∈ N, p.1 = f := ⟨fun ⟨p, hp, e⟩ => by
    obtain ⟨x, hx, rfl⟩ := List.mem_map.mp hp
    exact ⟨x, hx, fD_inj e⟩, fun ⟨p, hp, e⟩ => ⟨_, List.mem_map_of_mem (f := fun p : (Str × D) × Bool => (fD p.1, Vl.d (.bl p.2))) hp, by rw [e]⟩⟩
  by_cases h : ∃ p ∈ N, p.1 = f
  · rw [if_pos (e.mpr h), if_pos h]
    simp only [nV, List.map_map]
    refine List.map_congr_left fun x _ => ?_
    simp only [Function.comp]
    by_cases z : x.1 = f
    · simp [z]
    · have : ¬ fD x.1 = fD f := fun w => z (fD_inj w)
      simp [z, this]
  · rw [if_neg (fun z => h (e.mp z)), if_neg h]
    simp [nV]
theorem del_nV (f : Str × D) (N : NX) : delKD (fD f) (nV N) = nV (ndel f N) := by
  simp only [delKD, nV, ndel, List.filter_map]
  congr 1
  refine List.filter_congr fun p _ => ?_
  have : (fD p.1 = fD f) ↔ p.1 = f := ⟨fD_inj, fun e => by rw [e]⟩
  simp [this]
theorem nlk_mem {N : NX} {f : Str × D} {b : Bool} (h : nlk N f = some b) : (f, b) ∈ N := by
  induction N with
  | nil => cases h
  | cons p N ih =>
    obtain ⟨g, c⟩ := p
    simp only [nlk] at h
    split at h
    · rename_i e
      cases h
      rw [e]
      exact List.mem_cons_self
    · exact List.mem_cons_of_mem _ (ih h)
theorem nlk_of {N : NX} (d : (N.map (·.1)).Nodup) {f : Str × D} {b : Bool} (h : (f, b) ∈ N) : nlk N f = some b := by
  induction N with
  | nil => exact nomatch h
  | cons p N ih =>
    obtain ⟨g, c⟩ := p
    rw [List.map_cons, List.nodup_cons] at d
    rcases List.mem_cons.mp h with e | e
    · cases e; simp [nlk]
    · have : ¬ g = f := fun z => d.1 (z ▸ List.mem_map_of_mem (f := (·.1)) e)
      simp only [nlk, if_neg this]
      exact ih d.2 e
theorem nlk_none {N : NX} {f : Str × D} : nlk N f = none ↔ ¬ ∃ p ∈ N, p.1 = f := by
  induction N with
  | nil => simp [nlk]
  | cons p N ih =>
    obtain ⟨g, c⟩ := p
    simp only [nlk]
    by_cases e : g = f
    · simp [e]
    · simp only [if_neg e, ih, List.mem_cons, exists_eq_or_imp, e, false_or, if_false]
open Classical in
theorem nlk_put (f : Str × D) (b : Bool) : ∀ (N : NX) (g : Str × D), nlk (nput f b N) g = if g = f then some b else nlk N g := by
  intro N g
  unfold nput
  by_cases h : ∃ p ∈ N, p.1 = f
  · rw [if_pos h]
    have key : ∀ M : NX, nlk (M.map fun p => if p.1 = f then (p.1, b) else p) g = if g = f then (if ∃ p ∈ M, p.1 = f then some b else none) else nlk M g := by
      intro M
      induction M with
      | nil => simp [nlk]
      | cons p M ih =>
        obtain ⟨k, c⟩ := p
        by_cases e : k = f
        · subst e
          simp only [List.map_cons, if_true, nlk]
          by_cases e2 : g = k
          · subst e2; simp
          · have e3 : ¬ k = g := fun z => e2 z.symm
            simp only [if_neg e3, if_neg e2, ih]
        · simp only [List.map_cons, if_neg e, nlk, ih]
          by_cases e2 : g = f
          · subst e2
            simp only [if_neg e, if_true, List.mem_cons, exists_eq_or_imp, e, false_or, if_false]
          · simp only [if_neg e2]
    rw [key, if_pos h]
  · rw [if_neg h]
    have key : ∀ M : NX, (¬ ∃ p ∈ M, p.1 = f) → nlk (M ++ [(f, b)]) g = if g = f then some b else nlk M g := by
      intro M
      induction M with
      | nil =>
        intro _
        by_cases e : g = f
        · simp [nlk, e]
        · have : ¬ f = g := fun z => e z.symm
          simp [nlk, e, this]
      | cons p M ih =>
        intro hn
        obtain ⟨k, c⟩ := p
        have e : ¬ k = f := fun z => hn ⟨_, List.mem_cons_self, z⟩
        simp only [List.cons_append, nlk]
        rw [ih fun ⟨p, hp, z⟩ => hn ⟨p, List.mem_cons_of_mem _ hp, z⟩]
        by_cases e2 : g = f
        · subst e2
          simp [e]
        · simp [e2]
    exact key N h
open Classical in
theorem nlk_del (f : Str × D) : ∀ (N : NX) (g : Str × D), nlk (ndel f N) g = if g = f then none else nlk N g
  | [], g => by simp [ndel, nlk]
  | (k, c) :: N, g => by
    have ih := nlk_del f N g
    unfold ndel at ih ⊢
    by_cases e : k = f
    · subst e
      rw [List.filter_cons_of_neg (by simp), ih]
      by_cases e2 : g = k
      · simp [e2]
      · have : ¬ k = g := fun z => e2 z.symm
        simp [e2, nlk, this]
    · rw [List.filter_cons_of_pos (by simpa using e)]
      simp only [nlk, ih]
      by_cases e2 : g = f
      · subst e2; simp [e]
      · simp [e2]
structure Net (N : NX) : Prop where
  d : (N.map (·.1)).Nodup
  o : ∀ p ∈ N, okF p.1
open Classical in
theorem Net.put {N : NX} (h : Net N) {f : Str × D} (hf : okF f) (b : Bool) : Net (nput f b N) ∧ (nput f b N).length ≤ N.length + 1 := by
  unfold nput
  split
  · have e : (N.map fun p => if p.1 = f then (p.1, b) else p).map (·.1) = N.map (·.1) := by
      rw [List.map_map]
      refine List.map_congr_left fun x _ => ?_
      simp only [Function.comp]
      split <;> rfl
    refine ⟨⟨by rw [e]; exact h.d, fun p hp => ?_⟩, by simp⟩
    have : p.1 ∈ N.map (·.1) := by rw [← e]; exact List.mem_map_of_mem hp
    obtain ⟨q, hq, z⟩ := List.mem_map.mp this
    rw [← z]
    exact h.o q hq
  · rename_i n
    refine ⟨⟨?_, fun p hp => ?_⟩, by simp⟩
    · rw [List.map_append, List.nodup_append]
      refine ⟨h.d, by simp, fun a ha c hc z => ?_⟩
      obtain ⟨q, hq, rfl⟩ := List.mem_map.mp ha
      rw [List.map_singleton, List.mem_singleton] at hc
      exact n ⟨q, hq, z.trans hc⟩
    · rcases List.mem_append.mp hp with hp | hp
      · exact h.o p hp
      · rw [List.mem_singleton.mp hp]; exact hf
theorem Net.del {N : NX} (h : Net N) (f : Str × D) : Net (ndel f N) ∧ (ndel f N).length ≤ N.length :=
  ⟨⟨h.d.sublist (List.Sublist.map _ List.filter_sublist), fun p hp => h.o p (List.mem_filter.mp hp).1⟩, List.length_filter_le _ _⟩
structure I1 (A : Ad) (W : Ms) (c : Nat) (F : List Nat) (cs : CS) (n : Nat) (N : NX) : Prop where
  dz : Dz W
  li : W[1]? = some (.lst [.mu 0])
  ch : Ch A W c F cs
  nt : W[n]? = some (.dct (nV N))
  ok : Net N
  eq : ∀ m r, cs m r = nlk N (m, r)
  ap : ∀ i ∈ [0, 1, n], i ∉ F
  n0 : n ≠ 0 ∧ n ≠ 1
section
variable (A : Ad)
noncomputable abbrev stepB : FS := (sSeq (sAsgT 2 (aCons (factE A 1) (aCons (eOp DL.eqD (eCall (f_l_roll A) [] (aCons (eVar 1) (aCons (eC (.int 2)) aNil))) (eC (.int 0))) aNil)) (gsCons (gN 5) (gsCons (gN 6) gsNil)))
      (sSeq (sExpr (eMeth A.C_Changes "note" (f_Changes_note A) [] (eVar 2) (aCons (eOp ixD (eVar 5) (eC (.int 0))) (aCons (eOp ixD (eVar 5) (eC (.int 1))) (aCons (eVar 6) aNil)))))
      (sIf (tstV (eOp DL.eqD (eMt tyDct getM (eVar 3) (aCons (eVar 5) (aCons (eVar 6) aNil))) (eVar 6))) (sPut (eVar 3) (eVar 5) (eVar 6)) (sExpr (eMt tyDct dpopM (eVar 3) (aCons (eVar 5) aNil))))))
theorem ix0 (W : Ms) (f : Str × D) : ixD W (.d (fD f)) (.d (.int 0)) = .ok (.d (.str f.1)) W ∧ ixD W (.d (fD f)) (.d (.int 1)) = .ok (.d f.2) W :=
  ⟨ix_tup [.str f.1, f.2] 0 rfl, ix_tup [.str f.1, f.2] 1 rfl⟩
theorem step {x0 : Vl} {T : Ev} {W : Ms} {c n : Nat} {F : List Nat} {cs : CS} {N : NX} (h : I1 A W c F cs n N) (hl : N.length ≤ 5000) {o4 o5 o6 : Option Vl} :
    ∃ o5' o6' F' W' cs' N', stepB A (some x0 :: some (.mu 0) :: some (.mu c) :: some (.mu n) :: o4 :: o5 :: o6 :: T) W = .nx (some x0 :: some (.mu 0) :: some (.mu c) :: some (.mu n) :: o4 :: o5' :: o6' :: T) W' ∧ I1 A W' c F' cs' n N' ∧ N'.length ≤ N.length + 1 := by
  classical
  obtain ⟨_, _, _, _, _, _, b7, b8, _⟩ := nb
  obtain ⟨f, W1, of, r1, e1⟩ := ev_fact A (d := 1) (ρ := some x0 :: some (.mu 0) :: some (.mu c) :: some (.mu n) :: o4 :: o5 :: o6 :: T) rfl h.dz
  obtain ⟨k, W2, hk, r2, e2⟩ := ev_roll A (d := 1) (ρ := some x0 :: some (.mu 0) :: some (.mu c) :: some (.mu n) :: o4 :: o5 :: o6 :: T) rfl r1.dz (k := 2) (by decide) (by decide)
  have r := r1.trans r2
  obtain ⟨b, hb⟩ : ∃ b : Bool, DL.eqD W2 (.d (.int (k : Int))) (.d (.int 0)) = .ok (.d (.bl b)) W2 := ⟨_, eqD_int W2 _ _⟩
  have s1 : sAsgT 2 (aCons (factE A 1) (aCons (eOp DL.eqD (eCall (f_l_roll A) [] (aCons (eVar 1) (aCons (eC (.int 2)) aNil))) (eC (.int 0))) aNil)) (gsCons (gN 5) (gsCons (gN 6) gsNil)) (some x0 :: some (.mu 0) :: some (.mu c) :: some (.mu n) :: o4 :: o5 :: o6 :: T) W
      = .nx (some x0 :: some (.mu 0) :: some (.mu c) :: some (.mu n) :: o4 :: some (.d (fD f)) :: some (.d (.bl b)) :: T) W2 := by
    generalize factE A 1 = g1 at e1
    generalize eCall (f_l_roll A) [] (aCons (eVar 1) (aCons (eC (.int 2)) aNil)) = g2 at e2
    simp [sAsgT, aCons, aNil, e1, eOp, e2, eC, hb, gsCons, gN, gsNil]
  have n0 : 0 ∉ F := h.ap 0 (by simp)
  have n1 : n ∉ F := h.ap n (by simp)
  have nl : 1 ∉ F := h.ap 1 (by simp)
  have ch2 : Ch A W2 c F cs := h.ch.frame fun i hi => r.e i fun z => n0 (z ▸ hi)
  have nt2 : W2[n]? = some (.dct (nV N)) := (r.e n h.n0.1).trans h.nt
  have li2 : W2[1]? = some (.lst [.mu 0]) := (r.e 1 (by decide)).trans h.li
  obtain ⟨F3, W3, e3, ch3, g3⟩ := note A ch2 of.1 of.2 b
  have lt2 : ∀ i ∈ [0, 1, n], i < W2.length := fun i hi => by
    simp only [List.mem_cons, List.not_mem_nil, or_false] at hi
    rcases hi with rfl | rfl | rfl
    · obtain ⟨m, _, e⟩ := r.dz; exact (List.getElem?_eq_some_iff.mp e).1
    · exact (List.getElem?_eq_some_iff.mp li2).1
    · exact (List.getElem?_eq_some_iff.mp nt2).1
  obtain ⟨ap3, k3, _⟩ := g3.keeps h.ap lt2
  have nt3 : W3[n]? = some (.dct (nV N)) := (k3 n (by simp)).trans nt2
  have li3 : W3[1]? = some (.lst [.mu 0]) := (k3 1 (by simp)).trans li2
  have dz3 : Dz W3 := by
    obtain ⟨m, hm, e⟩ := r.dz
    exact ⟨m, hm, (k3 0 (by simp)).trans e⟩
  have s2 : sExpr (eMeth A.C_Changes "note" (f_Changes_note A) [] (eVar 2) (aCons (eOp ixD (eVar 5) (eC (.int 0))) (aCons (eOp ixD (eVar 5) (eC (.int 1))) (aCons (eVar 6) aNil)))) (some x0 :: some (.mu 0) :: some (.mu c) :: some (.mu n) :: o4 :: some (.d (fD f)) :: some (.d (.bl b)) :: T) W2
      = .nx (some x0 :: some (.mu 0) :: some (.mu c) :: some (.mu n) :: o4 :: some (.d (fD f)) :: some (.d (.bl b)) :: T) W3 := by
    simp only [sExpr, eMeth, eVar, List.getElem?_cons_succ, List.getElem?_cons_zero, Res.bind_ok, ch2.isI b7 b8, if_true, aCons, eOp, eC, (ix0 W2 f).1, (ix0 W2 f).2, aNil, List.append_nil, e3, Res.bindS_ok]
  have z1 : (nV N).length < sizeLine := mil' (by simp [nV]; omega)
  have hd : dctOf W3 (.mu n) = some (nV N) := by simp [dctOf, nt3]
  have ty : tyDct W3 (.mu n) = true := by simp [tyDct, hd]
  have hw : n < W3.length := (List.getElem?_eq_some_iff.mp nt3).1
  have eg : eMt tyDct getM (eVar 3) (aCons (eVar 5) (aCons (eVar 6) aNil)) (some x0 :: some (.mu 0) :: some (.mu c) :: some (.mu n) :: o4 :: some (.d (fD f)) :: some (.d (.bl b)) :: T) W3 = .ok (.d (.bl ((nlk N f).getD b))) W3 := by
    simp only [eMt, eVar, List.getElem?_cons_succ, List.getElem?_cons_zero, Res.bind_ok, ty, if_true, aCons, aNil, getM, hd, okKey_nV of, getK_nV]
    cases nlk N f <;> rfl
  have et : tstV (eOp DL.eqD (eMt tyDct getM (eVar 3) (aCons (eVar 5) (aCons (eVar 6) aNil))) (eVar 6)) (some x0 :: some (.mu 0) :: some (.mu c) :: some (.mu n) :: o4 :: some (.d (fD f)) :: some (.d (.bl b)) :: T) W3 = .ok (decide ((nlk N f).getD b = b)) W3 := by
    simp only [tstV, eOp, eg, eVar, List.getElem?_cons_succ, List.getElem?_cons_zero, Res.bind_ok, eqD_bl, blOf]
  have fr : ∀ (M : M) (i : Nat), i ≠ n → (W3.set n M)[i]? = W3[i]? := fun M i hi => List.getElem?_set_ne (fun z => hi z.symm)
  have mk : ∀ (N' : NX), Net N' → (∀ m r', updC cs f.1 f.2 b m r' = nlk N' (m, r')) → I1 A (W3.set n (.dct (nV N'))) c F3 (updC cs f.1 f.2 b) n N' := fun N' ok eq =>
    ⟨by obtain ⟨m, hm, e⟩ := dz3; exact ⟨m, hm, (fr _ 0 (fun z => h.n0.1 z.symm)).trans e⟩, (fr _ 1 (fun z => h.n0.2 z.symm)).trans li3, ch3.frame fun i hi => fr _ i fun z => ap3 n (by simp) (z ▸ hi), List.getElem?_set_self hw, ok, eq, ap3, h.n0⟩
  have hc : cs f.1 f.2 = nlk N f := h.eq f.1 f.2
  have upd : ∀ m r', updC cs f.1 f.2 b m r' = if (m, r') = f then (if nlk N f = some (!b) then none else some b) else nlk N (m, r') := fun m r' => by
    unfold updC
    rw [hc, h.eq m r']
    by_cases e : (m, r') = f
    · rw [if_pos e, if_pos ⟨congrArg Prod.fst e, congrArg Prod.snd e⟩]
    · rw [if_neg e, if_neg (fun z => e (Prod.ext z.1 z.2))]
  by_cases z : (nlk N f).getD b = b
  · obtain ⟨p1, p2⟩ := h.ok.put of b
    refine ⟨some (.d (fD f)), some (.d (.bl b)), F3, W3.set n (.dct (nV (nput f b N))), updC cs f.1 f.2 b, nput f b N, ?_, mk _ p1 fun m r' => ?_, p2⟩
    · refine (sSeq_nx s1).trans ((sSeq_nx s2).trans ?_)
      simp only [sIf, et, z, decide_true, Res.bindS_ok, if_true, sPut, eVar, List.getElem?_cons_succ, List.getElem?_cons_zero, setIx, nt3, okKey_nV of, z1, and_self, put_nV]
    · rw [upd, nlk_put]
      have : ¬ nlk N f = some (!b) := fun w => by
        rw [w] at z
        cases b <;> simp at z
      simp [this]
  · obtain ⟨p1, p2⟩ := h.ok.del f
    have hn : nlk N f = some (!b) := by
      cases q : nlk N f with
      | none => rw [q] at z; exact absurd rfl z
      | some b' => rw [q] at z; cases b <;> cases b' <;> simp at z ⊢
    refine ⟨some (.d (fD f)), some (.d (.bl b)), F3, W3.set n (.dct (nV (ndel f N))), updC cs f.1 f.2 b, ndel f N, ?_, mk _ p1 fun m r' => ?_, by omega⟩
    · refine (sSeq_nx s1).trans ((sSeq_nx s2).trans ?_)
      have ed : eMt tyDct dpopM (eVar 3) (aCons (eVar 5) aNil) (some x0 :: some (.mu 0) :: some (.mu c) :: some (.mu n) :: o4 :: some (.d (fD f)) :: some (.d (.bl b)) :: T) W3 = .ok (.d (.bl (!b))) (W3.set n (.dct (nV (ndel f N)))) := by
        simp only [eMt, eVar, List.getElem?_cons_succ, List.getElem?_cons_zero, Res.bind_ok, ty, if_true, aCons, aNil, dpopM, delIx, nt3, okKey_nV of, getK_nV, hn, Option.map_some, del_nV]
      simp only [sIf, et, z, decide_false, Res.bindS_ok, Bool.false_eq_true, if_false, sExpr, ed]
    · rw [upd, nlk_del, hn]
      simp
theorem steps {x0 : Vl} {T : Ev} {c n : Nat} : ∀ (l : List Nat) (W : Ms) (F : List Nat) (cs : CS) (N : NX) (o4 o5 o6 : Option Vl), I1 A W c F cs n N → N.length + l.length ≤ 5000 →
    ∃ o4' o5' o6' F' W' cs' N', forL yes (gN 4) (stepB A) (l.map fun k : Nat => Vl.d (.int (k : Int))) (some x0 :: some (.mu 0) :: some (.mu c) :: some (.mu n) :: o4 :: o5 :: o6 :: T) W = .nx (some x0 :: some (.mu 0) :: some (.mu c) :: some (.mu n) :: o4' :: o5' :: o6' :: T) W' ∧ I1 A W' c F' cs' n N' ∧ N'.length ≤ N.length + l.length
  | [], W, F, cs, N, o4, o5, o6, h, _ => ⟨o4, o5, o6, F, W, cs, N, by simp [forL, yes], h, by simp⟩
  | k :: l, W, F, cs, N, o4, o5, o6, h, hl => by
    simp only [List.length_cons] at hl
    obtain ⟨o5a, o6a, F1, W1, cs1, N1, e1, h1, l1⟩ := step A (x0 := x0) (T := T) h (by omega) (o4 := some (.d (.int (k : Int)))) (o5 := o5) (o6 := o6)
    obtain ⟨o4', o5', o6', F2, W2, cs2, N2, e2, h2, l2⟩ := steps l W1 F1 cs1 N1 (some (.d (.int (k : Int)))) o5a o6a h1 (by omega)
    refine ⟨o4', o5', o6', F2, W2, cs2, N2, ?_, h2, by simp only [List.length_cons]; omega⟩
    have eg : gN 4 (Vl.d (.int (k : Int))) (some x0 :: some (.mu 0) :: some (.mu c) :: some (.mu n) :: o4 :: o5 :: o6 :: T) = some (some x0 :: some (.mu 0) :: some (.mu c) :: some (.mu n) :: some (.d (.int (k : Int))) :: o5 :: o6 :: T) := rfl
    simp only [List.map_cons, forL, yes, if_true, eg, e1]
    exact e2
end
end Toy

set_option Elab.async false
set_option linter.all false
set_option maxRecDepth 100000
set_option maxHeartbeats 4000000
namespace Toy
open PySem L2 DL
/-! ## what is due -/
theorem set_same {W : Ms} {n : Nat} {x : M} (h : W[n]? = some x) : W.set n x = W := by
  refine List.ext_getElem? fun i => ?_
  by_cases e : n = i
  · subst e
    rw [List.getElem?_set_self (List.getElem?_eq_some_iff.mp h).1, h]
  · rw [List.getElem?_set_ne e]
theorem eLcK_pure {α : Type} {f : FE} {fg : FG} {t : FT} {fe : FE} {vs : List Nat} {ρ : Ev} {W : Ms} {n : Nat} {kvs : List (D × Vl)} (emb : α → Vl) (p : α → Bool) (g : α → D) (l : List α) (hf : f ρ W = .ok (.mu n) W) (hn : W[n]? = some (.dct kvs)) (hk : (kvs.map fun p => Vl.d p.1) = l.map emb) (hl : l.length ≤ 1000000)
    (H : ∀ a ∈ l, ∃ ρ', fg (emb a) (wipeE ρ vs) = some ρ' ∧ t ρ' (W.set n (.lk kvs)) = .ok (p a) (W.set n (.lk kvs)) ∧ (p a = true → fe ρ' (W.set n (.lk kvs)) = .ok (.d (g a)) (W.set n (.lk kvs)))) :
    eLcK f fg t fe vs ρ W = .ok (.d (.lst ((l.filter p).map g))) W := by
  have hw := (List.getElem?_eq_some_iff.mp hn).1
  have hl2 : ((l.filter p).map g).length ≤ 1000000 := by
    rw [List.length_map]
    exact Nat.le_trans (List.length_filter_le _ _) hl
  have hz : (kvs.map fun p => Vl.d p.1).length ≤ 1000000 := by rw [hk, List.length_map]; exact hl
  rw [hk] at hz
  simp only [eLcK, hf, Res.bind_ok, lcKB, hn, lcB, hk, if_pos hz]
  rw [lc_pure emb p g trivial l H, Res.bind_ok, mkLst_map _ _ hl2]
  simp only [unlkR]
  rw [if_pos (show lkK n kvs (W.set n (.lk kvs)) from List.getElem?_set_self hw), List.set_set, set_same hn]
theorem same_names {m : Str} : ∀ {L : NX}, (L.map (·.1)).Nodup → (∀ x ∈ L, x.1.1 = m) → (L.map (·.1.2)).Nodup
  | [], _, _ => by simp
  | x :: L, d, h => by
    rw [List.map_cons, List.nodup_cons] at d ⊢
    refine ⟨fun z => ?_, same_names d.2 fun y hy => h y (List.mem_cons_of_mem _ hy)⟩
    obtain ⟨y, hy, e⟩ := List.mem_map.mp z
    refine d.1 (List.mem_map.mpr ⟨y, hy, Prod.ext ?_ e⟩)
    rw [h x List.mem_cons_self, h y (List.mem_cons_of_mem _ hy)]
def U11 : Ev := [none, none, none, none, none, none, none, none, none, none, none]
noncomputable def gR (cs : CS) (m : Str) : D := .tup [.str m, .tup (canon fun r => cs m r = some true), .tup (canon fun r => cs m r = some false)]
theorem shC_eq (cs : CS) : shC cs = .tup ((nmOf cs).map (gR cs)) := rfl
theorem rows_ok (P : D → Prop) : (D.tup (canon P)).ok = true ∧ (D.tup (canon P)).dep ≤ 2 ∧ shapedD (.lst (canon P)) = true := by
  have h1 : okL (canon P) = true := by
    have := okL_map id (canon P) fun r hr => (ok3 r (mem_canon.mp hr).1).2.2.2.2.1
    rwa [List.map_id] at this
  have h2 : depL (canon P) ≤ 1 := by
    have := depL_map id 1 (canon P) fun r hr => (ok3 r (mem_canon.mp hr).1).2.2.2.2.2.1
    rwa [List.map_id] at this
  refine ⟨h1, ?_, ?_⟩
  · show depL (canon P) + 1 ≤ 2; omega
  · simp only [shapedD, Bool.and_eq_true, decide_eq_true_eq]
    refine ⟨h1, ?_⟩
    show depL (canon P) + 1 ≤ 64
    omega
theorem str_ok {m : Str} (h : okN m) : (D.str m).ok = true := by rcases h with rfl | rfl <;> decide +kernel
theorem gR_ok (cs : CS) {m : Str} (h : okN m) : (gR cs m).ok = true ∧ (gR cs m).dep ≤ 3 := by
  obtain ⟨a1, a2, _⟩ := rows_ok fun r => cs m r = some true
  obtain ⟨b1, b2, _⟩ := rows_ok fun r => cs m r = some false
  have hs := str_ok h
  constructor
  · show (okL _) = true
    simp only [okL, hs, a1, b1, Bool.and_self]
  · show max 0 (max _ (max _ 0)) + 1 ≤ 3
    omega
theorem gRs_sh (cs : CS) {l : List Str} (h : ∀ m ∈ l, okN m) : shapedD (.tup (l.map (gR cs))) = true ∧ shapedD (.lst (l.map (gR cs))) = true := by
  have h1 := okL_map (gR cs) l fun m hm => (gR_ok cs (h m hm)).1
  have h2 := depL_map (gR cs) 3 l fun m hm => (gR_ok cs (h m hm)).2
  simp only [shapedD, Bool.and_eq_true, decide_eq_true_eq]
  refine ⟨⟨h1, ?_⟩, h1, ?_⟩
  · show depL _ + 1 ≤ 64; omega
  · show depL _ + 1 ≤ 64; omega
section
variable (A : Ad)
noncomputable abbrev cmpT (b : Bool) : FT := if b = true then tstV (eOp ixD (eVar 3) (eTup (aCons (eVar 10) (aCons (eVar 19) aNil)))) else tstNot (tstV (eOp ixD (eVar 3) (eTup (aCons (eVar 10) (aCons (eVar 19) aNil)))))
open Classical in
theorem net_rows {W : Ms} {n : Nat} {N : NX} (hn : W[n]? = some (.dct (nV N))) (ok : Net N) (hl : N.length ≤ 5000) {cs : CS} (eq : ∀ m r, cs m r = nlk N (m, r)) (b : Bool) {m : Str} {o0 o1 o2 o4 o5 o6 o7 o9 : Option Vl} :
    ∃ l, okL3 l ∧ (∀ r, r ∈ l ↔ cs m r = some b) ∧ eLcK (eVar 3) (gT 2 (gsCons (gN 10) (gsCons (gN 19) gsNil))) (nxE (tstAnd (tstV (eOp DL.eqD (eVar 10) (eVar 8))) (cmpT b))) (nxE (eVar 19)) [10, 19] (o0 :: o1 :: o2 :: some (.mu n) :: o4 :: o5 :: o6 :: o7 :: some (.d (.str m)) :: o9 :: U11) W = .ok (.d (.lst l)) W := by
  have hw := (List.getElem?_eq_some_iff.mp hn).1
  have hd : dctOf (W.set n (.lk (nV N))) (.mu n) = some (nV N) := by simp [dctOf, List.getElem?_set_self hw]
  refine ⟨_, ?_, ?_, eLcK_pure (fun p : (Str × D) × Bool => Vl.d (fD p.1)) (fun p => decide (p.1.1 = m) && (p.2 == b)) (fun p => p.1.2) N rfl hn (by simp [nV, List.map_map, Function.comp_def]) (by omega) fun p hp => ?_⟩
  · refine ⟨fun r hr => ?_, same_names (m := m) (ok.d.sublist (List.Sublist.map _ List.filter_sublist)) fun x hx => ?_⟩
    · obtain ⟨p, hp, rfl⟩ := List.mem_map.mp hr
      exact (ok.o p (List.mem_filter.mp hp).1).2
    · have := (List.mem_filter.mp hx).2
      simp only [Bool.and_eq_true, decide_eq_true_eq] at this
      exact this.1
  · intro r
    rw [eq]
    constructor
    · intro h
      obtain ⟨p, hp, rfl⟩ := List.mem_map.mp h
      have h1 := List.mem_filter.mp hp
      simp only [Bool.and_eq_true, decide_eq_true_eq, beq_iff_eq] at h1
      obtain ⟨h1, h2, h3⟩ := h1
      rw [← h2, ← h3]
      exact nlk_of ok.d h1
    · intro h
      have := nlk_mem h
      exact List.mem_map.mpr ⟨((m, r), b), List.mem_filter.mpr ⟨this, by simp⟩, rfl⟩
  · obtain ⟨⟨k, r⟩, c⟩ := p
    have of := ok.o _ hp
    have hk : nlk N (k, r) = some c := nlk_of ok.d hp
    refine ⟨o0 :: o1 :: o2 :: some (.mu n) :: o4 :: o5 :: o6 :: o7 :: some (.d (.str m)) :: o9 :: some (.d (.str k)) :: none :: none :: none :: none :: none :: none :: none :: none :: some (.d r) :: none :: [], rfl, ?_, fun _ => rfl⟩
    have e1 : tstV (eOp DL.eqD (eVar 10) (eVar 8)) (o0 :: o1 :: o2 :: some (.mu n) :: o4 :: o5 :: o6 :: o7 :: some (.d (.str m)) :: o9 :: some (.d (.str k)) :: none :: none :: none :: none :: none :: none :: none :: none :: some (.d r) :: none :: []) (W.set n (.lk (nV N))) = .ok (decide (k = m)) (W.set n (.lk (nV N))) := by
      simp only [tstV, eOp, eVar, List.getElem?_cons_succ, List.getElem?_cons_zero, Res.bind_ok, eqD_str, blOf]
    have e2 : tstV (eOp ixD (eVar 3) (eTup (aCons (eVar 10) (aCons (eVar 19) aNil)))) (o0 :: o1 :: o2 :: some (.mu n) :: o4 :: o5 :: o6 :: o7 :: some (.d (.str m)) :: o9 :: some (.d (.str k)) :: none :: none :: none :: none :: none :: none :: none :: none :: some (.d r) :: none :: []) (W.set n (.lk (nV N))) = .ok c (W.set n (.lk (nV N))) := by
      have et : eTup (aCons (eVar 10) (aCons (eVar 19) aNil)) (o0 :: o1 :: o2 :: some (.mu n) :: o4 :: o5 :: o6 :: o7 :: some (.d (.str m)) :: o9 :: some (.d (.str k)) :: none :: none :: none :: none :: none :: none :: none :: none :: some (.d r) :: none :: []) (W.set n (.lk (nV N))) = .ok (.d (fD (k, r))) (W.set n (.lk (nV N))) := by
        simp [eTup, aCons, aNil, eVar, mkTup, dsOf, fD]
      have ei : ixD (W.set n (.lk (nV N))) (.mu n) (.d (fD (k, r))) = .ok (.d (.bl c)) (W.set n (.lk (nV N))) := by
        simp only [ixD, hd, okKey_nV of, if_true, getK_nV, hk, Option.map_some]
      generalize eTup (aCons (eVar 10) (aCons (eVar 19) aNil)) = q at et
      simp only [tstV, eOp, eVar, List.getElem?_cons_succ, List.getElem?_cons_zero, Res.bind_ok, et, ei, blOf]
    have e3 : cmpT b (o0 :: o1 :: o2 :: some (.mu n) :: o4 :: o5 :: o6 :: o7 :: some (.d (.str m)) :: o9 :: some (.d (.str k)) :: none :: none :: none :: none :: none :: none :: none :: none :: some (.d r) :: none :: []) (W.set n (.lk (nV N))) = .ok (c == b) (W.set n (.lk (nV N))) := by
      cases b
      · simp only [cmpT, Bool.false_eq_true, if_false, tstNot, e2, Res.bind_ok]
        cases c <;> rfl
      · simp only [cmpT, if_true, e2]
        cases c <;> rfl
    simp only [nxE, tstAnd, e1, Res.bind_ok]
    by_cases z : k = m
    · simp only [z, decide_true, if_true, e3, Bool.true_and]
      subst z
      rw [e3]
    · simp [z]
noncomputable abbrev dueB : FS := (sSeq (sSet 6 (eCB sortD (aCons (eLcK (eVar 3) (gT 2 (gsCons (gN 10) (gsCons (gN 19) gsNil))) (nxE (tstAnd (tstV (eOp DL.eqD (eVar 10) (eVar 8))) (cmpT true))) (nxE (eVar 19)) [10, 19]) aNil)))
      (sSeq (sSet 9 (eCB sortD (aCons (eLcK (eVar 3) (gT 2 (gsCons (gN 10) (gsCons (gN 19) gsNil))) (nxE (tstAnd (tstV (eOp DL.eqD (eVar 10) (eVar 8))) (cmpT false))) (nxE (eVar 19)) [10, 19]) aNil)))
      (sSet 7 (eOp addD (eVar 7) (eIf (tstV (eOp DL.neD (eOp addD (eVar 6) (eVar 9)) (eLst aNil))) (eLst (aCons (eTup (aCons (eVar 8) (aCons (eCB tupD (aCons (eVar 6) aNil)) (aCons (eCB tupD (aCons (eVar 9) aNil)) aNil)))) aNil)) (eLst aNil))))))
theorem addD_lst {W : Ms} {l m : List D} (h : l.length + m.length ≤ 1000000) : addD W (.d (.lst l)) (.d (.lst m)) = .ok (.d (.lst (l ++ m))) W := by
  have em := mkLst_map (l ++ m) W (by simp; omega)
  simp only [addD, intOf, strOf, lstOf]
  rw [← em]
  exact congrArg (mkLst · W) (by simp)
open Classical in
theorem due_loop {W : Ms} {n : Nat} {N : NX} (hn : W[n]? = some (.dct (nV N))) (ok : Net N) (hl : N.length ≤ 5000) {cs : CS} (eq : ∀ m r, cs m r = nlk N (m, r)) {o0 o1 o2 o4 o5 : Option Vl} : ∀ (ms : List Str) (d0 : List D) (o6 o8 o9 : Option Vl), (∀ m ∈ ms, okN m) → d0.length + ms.length ≤ 1000 →
    ∃ o6' o8' o9', forL yes (gN 8) dueB (ms.map fun m => Vl.d (.str m)) (o0 :: o1 :: o2 :: some (.mu n) :: o4 :: o5 :: o6 :: some (.d (.lst d0)) :: o8 :: o9 :: U11) W = .nx (o0 :: o1 :: o2 :: some (.mu n) :: o4 :: o5 :: o6' :: some (.d (.lst (d0 ++ (ms.filter fun m => decide (∃ r, cs m r ≠ none)).map (gR cs)))) :: o8' :: o9' :: U11) W
  | [], d0, o6, o8, o9, _, _ => ⟨o6, o8, o9, by simp [forL, yes]⟩
  | m :: ms, d0, o6, o8, o9, h, hz => by
    simp only [List.length_cons] at hz
    have hm := h m List.mem_cons_self
    obtain ⟨l1, k1, m1, e1⟩ := net_rows hn ok hl eq true (m := m) (o0 := o0) (o1 := o1) (o2 := o2) (o4 := o4) (o5 := o5) (o6 := o6) (o7 := some (.d (.lst d0))) (o9 := o9)
    have c1 : canon (· ∈ l1) = canon fun r => cs m r = some true := congrArg canon (funext fun r => propext (m1 r))
    obtain ⟨l2, k2, m2, e2⟩ := net_rows hn ok hl eq false (m := m) (o0 := o0) (o1 := o1) (o2 := o2) (o4 := o4) (o5 := o5) (o6 := some (.d (.lst (canon fun r => cs m r = some true)))) (o7 := some (.d (.lst d0))) (o9 := o9)
    have c2 : canon (· ∈ l2) = canon fun r => cs m r = some false := congrArg canon (funext fun r => propext (m2 r))
    have t1 := (canon_ok fun r => cs m r = some true).len
    have t2 := (canon_ok fun r => cs m r = some false).len
    have s1 := sSet_ok (i := 6) (eCB1 (g := sortD) e1 |>.trans (sort_rows k1))
    rw [c1] at s1
    have s2 := sSet_ok (i := 9) (eCB1 (g := sortD) e2 |>.trans (sort_rows k2))
    rw [c2] at s2
    obtain ⟨o6', o8', o9', e⟩ := due_loop hn ok hl eq ms (d0 ++ ([m].filter fun m => decide (∃ r, cs m r ≠ none)).map (gR cs)) (some (.d (.lst (canon fun r => cs m r = some true)))) (some (.d (.str m))) (some (.d (.lst (canon fun r => cs m r = some false)))) (fun x hx => h x (List.mem_cons_of_mem _ hx)) (by
      have := List.length_filter_le (fun m => decide (∃ r, cs m r ≠ none)) [m]
      simp only [List.length_append, List.length_map, List.length_singleton] at this ⊢
      omega)
    have hne : (∃ r, cs m r ≠ none) ↔ ((canon fun r => cs m r = some true) ++ (canon fun r => cs m r = some false)) ≠ [] := by
      constructor
      · rintro ⟨r, hr⟩ z
        obtain ⟨z1, z2⟩ := List.append_eq_nil_iff.mp z
        have or : r ∈ rw3 := by
          rw [eq] at hr
          cases q : nlk N (m, r) with
          | none => exact absurd q hr
          | some b => exact (ok.o _ (nlk_mem q)).2
        cases q : cs m r with
        | none => exact hr q
        | some b =>
          cases b with
          | true => have := mem_canon (P := fun r => cs m r = some true).mpr ⟨or, q⟩; rw [z1] at this; exact nomatch this
          | false => have := mem_canon (P := fun r => cs m r = some false).mpr ⟨or, q⟩; rw [z2] at this; exact nomatch this
      · intro z
        obtain ⟨r, hr⟩ := List.exists_mem_of_ne_nil _ z
        rcases List.mem_append.mp hr with hr | hr
        · exact ⟨r, by rw [(mem_canon.mp hr).2]; simp⟩
        · exact ⟨r, by rw [(mem_canon.mp hr).2]; simp⟩
    have sh : shapedD (.lst ((canon fun r => cs m r = some true) ++ (canon fun r => cs m r = some false))) = true := by
      have h1 : ∀ r ∈ (canon fun r => cs m r = some true) ++ (canon fun r => cs m r = some false), r ∈ rw3 := fun r hr => by
        rcases List.mem_append.mp hr with hr | hr <;> exact (mem_canon.mp hr).1
      have a1 := okL_map id _ fun r hr => (ok3 r (h1 r hr)).2.2.2.2.1
      have a2 := depL_map id 1 _ fun r hr => (ok3 r (h1 r hr)).2.2.2.2.2.1
      rw [List.map_id] at a1 a2
      simp only [shapedD, Bool.and_eq_true, decide_eq_true_eq]
      refine ⟨a1, ?_⟩
      show depL _ + 1 ≤ 64
      omega
    have s3 : sSet 7 (eOp addD (eVar 7) (eIf (tstV (eOp DL.neD (eOp addD (eVar 6) (eVar 9)) (eLst aNil))) (eLst (aCons (eTup (aCons (eVar 8) (aCons (eCB tupD (aCons (eVar 6) aNil)) (aCons (eCB tupD (aCons (eVar 9) aNil)) aNil)))) aNil)) (eLst aNil)))
        (o0 :: o1 :: o2 :: some (.mu n) :: o4 :: o5 :: some (.d (.lst (canon fun r => cs m r = some true))) :: some (.d (.lst d0)) :: some (.d (.str m)) :: some (.d (.lst (canon fun r => cs m r = some false))) :: U11) W
        = .nx (o0 :: o1 :: o2 :: some (.mu n) :: o4 :: o5 :: some (.d (.lst (canon fun r => cs m r = some true))) :: some (.d (.lst (d0 ++ ([m].filter fun m => decide (∃ r, cs m r ≠ none)).map (gR cs)))) :: some (.d (.str m)) :: some (.d (.lst (canon fun r => cs m r = some false))) :: U11) W := by
      generalize hρ : (o0 :: o1 :: o2 :: some (.mu n) :: o4 :: o5 :: some (.d (.lst (canon fun r => cs m r = some true))) :: some (.d (.lst d0)) :: some (.d (.str m)) :: some (.d (.lst (canon fun r => cs m r = some false))) :: U11 : Ev) = ρ
      have v6 : eVar 6 ρ W = .ok (.d (.lst (canon fun r => cs m r = some true))) W := by subst hρ; rfl
      have v7 : eVar 7 ρ W = .ok (.d (.lst d0)) W := by subst hρ; rfl
      have v8 : eVar 8 ρ W = .ok (.d (.str m)) W := by subst hρ; rfl
      have v9 : eVar 9 ρ W = .ok (.d (.lst (canon fun r => cs m r = some false))) W := by subst hρ; rfl
      have el : eLst aNil ρ W = .ok (.d (.lst [])) W := rfl
      have et : tstV (eOp DL.neD (eOp addD (eVar 6) (eVar 9)) (eLst aNil)) ρ W = .ok (decide (∃ r, cs m r ≠ none)) W := by
        simp only [tstV, eOp, v6, v9, Res.bind_ok, addD_lst (W := W) (by omega : (canon fun r => cs m r = some true).length + (canon fun r => cs m r = some false).length ≤ 1000000), el, neD_sh sh (show shapedD (.lst []) = true by decide +kernel), blOf]
        congr 1
        by_cases z : ∃ r, cs m r ≠ none
        · have := hne.mp z
          simp [z, this]
        · have : ((canon fun r => cs m r = some true) ++ (canon fun r => cs m r = some false)) = [] := by
            by_cases w : ((canon fun r => cs m r = some true) ++ (canon fun r => cs m r = some false)) = []
            · exact w
            · exact absurd (hne.mpr w) z
          rw [this]
          simp [z]
      have ev : eIf (tstV (eOp DL.neD (eOp addD (eVar 6) (eVar 9)) (eLst aNil))) (eLst (aCons (eTup (aCons (eVar 8) (aCons (eCB tupD (aCons (eVar 6) aNil)) (aCons (eCB tupD (aCons (eVar 9) aNil)) aNil)))) aNil)) (eLst aNil) ρ W = .ok (.d (.lst (([m].filter fun m => decide (∃ r, cs m r ≠ none)).map (gR cs)))) W := by
        simp only [eIf, et, Res.bind_ok]
        by_cases z : ∃ r, cs m r ≠ none
        · rw [if_pos (by simpa using z)]
          have p6 : eCB tupD (aCons (eVar 6) aNil) ρ W = .ok (.d (.tup (canon fun r => cs m r = some true))) W := (eCB1 v6).trans (tupD_lst _ _ (by omega))
          have p9 : eCB tupD (aCons (eVar 9) aNil) ρ W = .ok (.d (.tup (canon fun r => cs m r = some false))) W := (eCB1 v9).trans (tupD_lst _ _ (by omega))
          generalize eCB tupD (aCons (eVar 6) aNil) = q6 at p6
          generalize eCB tupD (aCons (eVar 9) aNil) = q9 at p9
          have z' : decide (∃ r, cs m r ≠ none) = true := by simpa using z
          simp only [eLst, aCons, eTup, v8, p6, p9, aNil, Res.bind_ok]
          simp [mkTup, dsOf, mkLst, List.filter_cons, z', gR]
        · rw [if_neg (by simpa using z), el]
          have z' : decide (∃ r, cs m r ≠ none) = false := by simpa using z
          rw [List.filter_cons_of_neg (by rw [z']; decide)]
          rfl
      have hz2 : (([m].filter fun m => decide (∃ r, cs m r ≠ none)).map (gR cs)).length ≤ 1 := by
        rw [List.length_map]
        exact List.length_filter_le _ _
      have := sSet_ok (i := 7) (f := eOp addD (eVar 7) (eIf (tstV (eOp DL.neD (eOp addD (eVar 6) (eVar 9)) (eLst aNil))) (eLst (aCons (eTup (aCons (eVar 8) (aCons (eCB tupD (aCons (eVar 6) aNil)) (aCons (eCB tupD (aCons (eVar 9) aNil)) aNil)))) aNil)) (eLst aNil))) (ρ := ρ) (W := W) (W1 := W) (x := .d (.lst (d0 ++ ([m].filter fun m => decide (∃ r, cs m r ≠ none)).map (gR cs)))) (by
        generalize eIf (tstV (eOp DL.neD (eOp addD (eVar 6) (eVar 9)) (eLst aNil))) (eLst (aCons (eTup (aCons (eVar 8) (aCons (eCB tupD (aCons (eVar 6) aNil)) (aCons (eCB tupD (aCons (eVar 9) aNil)) aNil)))) aNil)) (eLst aNil) = q at ev
        simp only [eOp, v7, ev, Res.bind_ok]
        exact addD_lst (by omega))
      rw [this, ← hρ]
      rfl
    refine ⟨o6', o8', o9', ?_⟩
    have eg : gN 8 (Vl.d (.str m)) (o0 :: o1 :: o2 :: some (.mu n) :: o4 :: o5 :: o6 :: some (.d (.lst d0)) :: o8 :: o9 :: U11) = some (o0 :: o1 :: o2 :: some (.mu n) :: o4 :: o5 :: o6 :: some (.d (.lst d0)) :: some (.d (.str m)) :: o9 :: U11) := rfl
    have sb : dueB (o0 :: o1 :: o2 :: some (.mu n) :: o4 :: o5 :: o6 :: some (.d (.lst d0)) :: some (.d (.str m)) :: o9 :: U11) W = _ := (sSeq_nx s1).trans ((sSeq_nx s2).trans s3)
    simp only [List.map_cons, forL, yes, if_true, eg, sb]
    rw [e, List.append_assoc, ← List.map_append, ← List.filter_append]
    rfl
end
end Toy

set_option Elab.async false
set_option linter.all false
set_option maxRecDepth 100000
set_option maxHeartbeats 4000000
namespace Toy
open PySem L2 DL
/-! ## the law's tests, one by one -/
theorem nm_decide (cs : CS) (l : List D) (h : l = (nmOf cs).map (gR cs)) : (l = []) ↔ nmOf cs = [] := by
  rw [h]; simp
theorem stC_sh (S : Str → D → Prop) : shapedD (stC S) = true := by
  have h1 : ∀ m ∈ (nmC fun m => ∃ r, S m r), (D.tup [.str m, .tup (canon (S m))]).ok = true ∧ (D.tup [.str m, .tup (canon (S m))]).dep ≤ 3 := fun m hm => by
    obtain ⟨a1, a2, _⟩ := rows_ok (S m)
    have hs := str_ok (mem_nmC.mp hm).1
    constructor
    · show (okL _) = true
      simp only [okL, hs, a1, Bool.and_self]
    · show max 0 (max _ 0) + 1 ≤ 3
      omega
  have a := okL_map (fun m => D.tup [.str m, .tup (canon (S m))]) _ fun m hm => (h1 m hm).1
  have b := depL_map (fun m => D.tup [.str m, .tup (canon (S m))]) 3 _ fun m hm => (h1 m hm).2
  simp only [shapedD, Bool.and_eq_true, decide_eq_true_eq]
  refine ⟨a, ?_⟩
  show depL _ + 1 ≤ 64
  omega
theorem stC_eq {S S' : Str → D → Prop} (h : ∀ m d, S m d ↔ S' m d) : stC S = stC S' := by
  have : S = S' := funext fun m => funext fun d => propext (h m d)
  rw [this]
theorem shC_sh (cs : CS) : shapedD (shC cs) = true := (gRs_sh cs (nm_ok cs)).1
section
variable (A : Ad)
theorem nbC : (("is_bare" : Str) == "added") = false ∧ (("is_bare" : Str) == "dropped") = false ∧ (("shown" : Str) == "added") = false ∧ (("shown" : Str) == "dropped") = false ∧ (("turned" : Str) == "added") = false ∧ (("turned" : Str) == "dropped") = false := by decide +kernel
noncomputable abbrev test1 : FT := tstOr (tstV (eOp DL.neD (eMeth A.C_Changes "shown" (f_Changes_shown A) [] (eVar 2) aNil) (eCB tupD (aCons (eVar 7) aNil)))) (tstOr (tstV (eOp DL.neD (eMeth A.C_Changes "is_bare" (f_Changes_is_bare A) [] (eVar 2) aNil) (eOp DL.eqD (eVar 7) (eLst aNil)))) (tstV (eOp DL.neD (eMeth A.C_Changes "names" (f_Changes_names A) [] (eVar 2) aNil) (eCB tupD (aCons (eLc (iS (eVar 7)) (gN 10) (nxE tstYes) (nxE (eOp ixD (eVar 10) (eC (.int 0)))) [10]) aNil)))))
theorem due_len (cs : CS) : ((nmOf cs).map (gR cs)).length ≤ 2 := by rw [List.length_map]; exact nmOf_len cs
theorem t1_no {W : Ms} {c : Nat} {F : List Nat} {cs : CS} (h : Ch A W c F cs) {ρ : Ev} (h2 : ρ[2]? = some (some (.mu c))) (h7 : ρ[7]? = some (some (.d (.lst ((nmOf cs).map (gR cs)))))) (hl : ρ.length = 21) : test1 A ρ W = .ok false W := by
  classical
  obtain ⟨b1, b2, _⟩ := nb
  obtain ⟨c1, c2, c3, c4, _⟩ := nbC
  have v2 : eVar 2 ρ W = .ok (.mu c) W := by simp [eVar, h2]
  have v7 : eVar 7 ρ W = .ok (.d (.lst ((nmOf cs).map (gR cs)))) W := by simp [eVar, h7]
  have dl := due_len cs
  have a1 : tstV (eOp DL.neD (eMeth A.C_Changes "shown" (f_Changes_shown A) [] (eVar 2) aNil) (eCB tupD (aCons (eVar 7) aNil))) ρ W = .ok false W := by
    have e1 : eMeth A.C_Changes "shown" (f_Changes_shown A) [] (eVar 2) aNil ρ W = .ok (.d (shC cs)) W := (meth0 v2 (h.isI c3 c4)).trans (h.shown A)
    have e2 : eCB tupD (aCons (eVar 7) aNil) ρ W = .ok (.d (shC cs)) W := (eCB1 v7).trans (tupD_lst _ _ (by omega))
    simp only [tstV, eOp, e1, Res.bind_ok]
    rw [e2]
    simp only [Res.bind_ok, neD_shaped (shC_sh cs), blOf]
  have a2 : tstV (eOp DL.neD (eMeth A.C_Changes "is_bare" (f_Changes_is_bare A) [] (eVar 2) aNil) (eOp DL.eqD (eVar 7) (eLst aNil))) ρ W = .ok false W := by
    have e1 : eMeth A.C_Changes "is_bare" (f_Changes_is_bare A) [] (eVar 2) aNil ρ W = .ok (.d (.bl (decide (nmOf cs = [])))) W := (meth0 v2 (h.isI c1 c2)).trans (h.bare A)
    have e2 : eOp DL.eqD (eVar 7) (eLst aNil) ρ W = .ok (.d (.bl (decide (nmOf cs = [])))) W := by
      have el : eLst aNil ρ W = .ok (.d (.lst [])) W := rfl
      simp only [eOp, v7, el, Res.bind_ok, eqD_sh (gRs_sh cs (nm_ok cs)).2 (show shapedD (.lst []) = true by decide +kernel)]
      congr 3
      simp
    generalize eOp DL.eqD (eVar 7) (eLst aNil) = q at e2
    simp only [tstV, eOp, e1, e2, Res.bind_ok, neD_bl, decide_true, Bool.not_true, blOf]
  have a3 : tstV (eOp DL.neD (eMeth A.C_Changes "names" (f_Changes_names A) [] (eVar 2) aNil) (eCB tupD (aCons (eLc (iS (eVar 7)) (gN 10) (nxE tstYes) (nxE (eOp ixD (eVar 10) (eC (.int 0)))) [10]) aNil))) ρ W = .ok false W := by
    have e1 : eMeth A.C_Changes "names" (f_Changes_names A) [] (eVar 2) aNil ρ W = .ok (.d (.tup ((nmOf cs).map D.str))) W := (meth0 v2 (h.isI b1 b2)).trans (h.names A)
    have e2 := eLc_all (fi := iS (eVar 7)) (fg := gN 10) (f := nxE (eOp ixD (eVar 10) (eC (.int 0)))) (vs := [10]) (ρ := ρ) (W := W) (fun m => Vl.d (gR cs m)) (fun m => D.str m) (nmOf cs) (by simp only [iS, v7, Res.bind_ok, seq_lst, List.map_map, Function.comp_def]) (by have := nmOf_len cs; omega) fun m hm => by
      refine ⟨_, rfl, ?_⟩
      have g : ((wipeE ρ [10]).set 10 (some (.d (gR cs m))))[10]? = some (some (.d (gR cs m))) := by
        rw [List.getElem?_set_self]
        simp [wipeE, hl]
      have ix : ixD W (.d (gR cs m)) (.d (.int 0)) = .ok (.d (.str m)) W := ix_tup [.str m, .tup (canon fun r => cs m r = some true), .tup (canon fun r => cs m r = some false)] 0 rfl
      simp only [nxE, eOp, eVar, g, eC, Res.bind_ok, ix]
    have e3 := (eCB1 (g := tupD) e2).trans (tupD_lst _ _ (by have := nmOf_len cs; simp; omega))
    generalize eCB tupD (aCons (eLc (iS (eVar 7)) (gN 10) (nxE tstYes) (nxE (eOp ixD (eVar 10) (eC (.int 0)))) [10]) aNil) = q at e3
    simp only [tstV, eOp, e1, e3, Res.bind_ok, neD_shaped (sh_names (nmOf cs) (nm_ok cs)), blOf]
  simp only [test1, tstOr, a1, Res.bind_ok, Bool.false_eq_true, if_false]
  rw [a2]
  simp only [Res.bind_ok, Bool.false_eq_true, if_false]
  exact a3
noncomputable abbrev test2 : FT := tstV (eOp DL.neD (eMeth A.C_Changes "shown" (f_Changes_shown A) [] (eMeth A.C_Changes "turned" (f_Changes_turned A) [] (eVar 2) aNil) aNil) (eCB tupD (aCons (eLc (iS (eVar 7)) (gT 3 (gsCons (gN 8) (gsCons (gN 6) (gsCons (gN 9) gsNil)))) (nxE tstYes) (nxE (eTup (aCons (eVar 8) (aCons (eVar 9) (aCons (eVar 6) aNil))))) [8, 6, 9]) aNil)))
theorem t2_no {W : Ms} {c : Nat} {F : List Nat} {cs : CS} (h : Ch A W c F cs) {ρ : Ev} (h2 : ρ[2]? = some (some (.mu c))) (h7 : ρ[7]? = some (some (.d (.lst ((nmOf cs).map (gR cs)))))) (hl : ρ.length = 21) : ∃ F' W', test2 A ρ W = .ok false W' ∧ Grow W W' [] F' := by
  obtain ⟨_, _, c3, c4, c5, c6⟩ := nbC
  have v2 : eVar 2 ρ W = .ok (.mu c) W := by simp [eVar, h2]
  obtain ⟨k, F', W', e1, ⟨co, hc, q⟩, g⟩ := h.turned A
  refine ⟨F', W', ?_, g⟩
  have v7 : eVar 7 ρ W' = .ok (.d (.lst ((nmOf cs).map (gR cs)))) W' := by simp [eVar, h7]
  have en : nmOf co = nmOf cs := nmC_eq fun m _ => ⟨fun ⟨r, hr⟩ => ⟨r, fun z => hr (by rw [q, z]; rfl)⟩, fun ⟨r, hr⟩ => ⟨r, fun z => hr (by rw [q] at z; simpa using z)⟩⟩
  have ec : ∀ m (b : Bool), (canon fun r => co m r = some b) = canon fun r => cs m r = some (!b) := fun m b => canon_eq fun r _ => by
    rw [q]
    cases cs m r with
    | none => simp
    | some x => cases x <;> cases b <;> simp
  have em : eMeth A.C_Changes "turned" (f_Changes_turned A) [] (eVar 2) aNil ρ W = .ok (.mu k) W' := (meth0 v2 (h.isI c5 c6)).trans e1
  have es : eMeth A.C_Changes "shown" (f_Changes_shown A) [] (eMeth A.C_Changes "turned" (f_Changes_turned A) [] (eVar 2) aNil) aNil ρ W = .ok (.d (shC co)) W' := by
    generalize eMeth A.C_Changes "turned" (f_Changes_turned A) [] (eVar 2) aNil = qq at em
    simp only [eMeth, em, Res.bind_ok, hc.isI c3 c4, if_true, aNil, List.append_nil, hc.shown A]
  have e2 := eLc_all (fi := iS (eVar 7)) (fg := gT 3 (gsCons (gN 8) (gsCons (gN 6) (gsCons (gN 9) gsNil)))) (f := nxE (eTup (aCons (eVar 8) (aCons (eVar 9) (aCons (eVar 6) aNil))))) (vs := [8, 6, 9]) (ρ := ρ) (W := W') (fun m => Vl.d (gR cs m)) (fun m => D.tup [.str m, .tup (canon fun r => cs m r = some false), .tup (canon fun r => cs m r = some true)]) (nmOf cs) (by simp only [iS, v7, Res.bind_ok, seq_lst, List.map_map, Function.comp_def]) (by have := nmOf_len cs; omega) fun m hm => by
    have hw : (wipeE ρ [8, 6, 9]).length = 21 := by simp [wipeE, hl]
    generalize wipeE ρ [8, 6, 9] = ρ1 at hw
    refine ⟨((ρ1.set 8 (some (.d (.str m)))).set 6 (some (.d (.tup (canon fun r => cs m r = some true))))).set 9 (some (.d (.tup (canon fun r => cs m r = some false)))), rfl, ?_⟩
    have g8 : (((ρ1.set 8 (some (.d (.str m)))).set 6 (some (.d (.tup (canon fun r => cs m r = some true))))).set 9 (some (.d (.tup (canon fun r => cs m r = some false)))))[8]? = some (some (.d (.str m))) := by
      rw [List.getElem?_set_ne (by decide), List.getElem?_set_ne (by decide), List.getElem?_set_self (by omega)]
    have g6 : (((ρ1.set 8 (some (.d (.str m)))).set 6 (some (.d (.tup (canon fun r => cs m r = some true))))).set 9 (some (.d (.tup (canon fun r => cs m r = some false)))))[6]? = some (some (.d (.tup (canon fun r => cs m r = some true)))) := by
      rw [List.getElem?_set_ne (by decide), List.getElem?_set_self (by simp; omega)]
    have g9 : (((ρ1.set 8 (some (.d (.str m)))).set 6 (some (.d (.tup (canon fun r => cs m r = some true))))).set 9 (some (.d (.tup (canon fun r => cs m r = some false)))))[9]? = some (some (.d (.tup (canon fun r => cs m r = some false)))) := by
      rw [List.getElem?_set_self (by simp; omega)]
    simp only [nxE, eTup, aCons, eVar, g8, g6, g9, aNil, Res.bind_ok]
    simp [mkTup, dsOf]
  have e3 := (eCB1 (g := tupD) e2).trans (tupD_lst _ _ (by have := nmOf_len cs; simp; omega))
  have esh : D.tup ((nmOf cs).map fun m => D.tup [.str m, .tup (canon fun r => cs m r = some false), .tup (canon fun r => cs m r = some true)]) = shC co := by
    unfold shC
    rw [en]
    congr 1
    refine List.map_congr_left fun m _ => ?_
    rw [ec m true, ec m false]
    rfl
  rw [esh] at e3
  unfold test2
  generalize eCB tupD (aCons (eLc (iS (eVar 7)) (gT 3 (gsCons (gN 8) (gsCons (gN 6) (gsCons (gN 9) gsNil)))) (nxE tstYes) (nxE (eTup (aCons (eVar 8) (aCons (eVar 9) (aCons (eVar 6) aNil))))) [8, 6, 9]) aNil) = qq at e3
  simp only [tstV, eOp, es, e3, Res.bind_ok, neD_shaped (shC_sh co), blOf]
theorem Sto.sh {W : Ms} {s : Nat} {F : List Nat} {S : Str → D → Prop} (h : Sto A W s F S) {fa : FE} {ρ : Ev} (ha : fa ρ W = .ok (.mu s) W) : eMeth A.C_Store "shown" (f_Store_shown A) [] fa aNil ρ W = .ok (.d (stC S)) W :=
  (meth0 ha (h.isI nbS.2.2.2)).trans (sto_shown A h)
/-- store_of(..).shown() -/
theorem so_shown {W : Ms} {fs : List (Str × D)} (hf : ∀ f ∈ fs, okF f) {fa : FE} {ρ : Ev} (ha : fa ρ W = .ok (.d (.lst (fs.map fD))) W) : ∃ F' W', eMeth A.C_Store "shown" (f_Store_shown A) [] (eCall (f_store_of A) [] (aCons fa aNil)) aNil ρ W = .ok (.d (stC fun m d => (m, d) ∈ fs)) W' ∧ Grow W W' [] F' := by
  obtain ⟨k, F, W', e1, h, g⟩ := store_of A fs hf W
  refine ⟨F, W', ?_, g⟩
  have e2 : eCall (f_store_of A) [] (aCons fa aNil) ρ W = .ok (.mu k) W' := (eCall1 ha).trans e1
  generalize eCall (f_store_of A) [] (aCons fa aNil) = q at e2
  have hs := sto_shown A h
  simp only [eMeth, e2, Res.bind_ok, h.isI nbS.2.2.2, if_true, aNil, List.append_nil, hs]
end
end Toy

set_option Elab.async false
set_option linter.all false
set_option maxRecDepth 100000
set_option maxHeartbeats 4000000
namespace Toy
open PySem L2 DL
/-! ## stores, and the law's end -/
section
variable (A : Ad)
open Classical in
noncomputable def badL (N : NX) (fs : List (Str × D)) : List (Str × D) := (N.filter fun p => decide (p.2 = decide (p.1 ∈ fs))).map (·.1)
noncomputable abbrev badE : FE := (eOp DL.neD (eLcK (eVar 3) (gN 20) (nxE (tstV (eOp DL.eqD (eOp ixD (eVar 3) (eVar 20)) (eOp DL.inD (eVar 20) (eVar 10))))) (nxE (eVar 20)) [20]) (eLst aNil))
open Classical in
theorem bad_ev {W : Ms} {n : Nat} {N : NX} (hn : W[n]? = some (.dct (nV N))) (ok : Net N) (hl : N.length ≤ 20) {fs : List (Str × D)} (hf : ∀ f ∈ fs, okF f) {ρ : Ev} (h3 : ρ[3]? = some (some (.mu n))) (h10 : ρ[10]? = some (some (.d (.lst (fs.map fD))))) (hr : ρ.length = 21) :
    badE ρ W = .ok (.d (.bl (decide (badL N fs ≠ [])))) W := by
  have hw := (List.getElem?_eq_some_iff.mp hn).1
  have hd : dctOf (W.set n (.lk (nV N))) (.mu n) = some (nV N) := by simp [dctOf, List.getElem?_set_self hw]
  have v3 : eVar 3 ρ W = .ok (.mu n) W := by simp [eVar, h3]
  have e := eLcK_pure (f := eVar 3) (fg := gN 20) (t := nxE (tstV (eOp DL.eqD (eOp ixD (eVar 3) (eVar 20)) (eOp DL.inD (eVar 20) (eVar 10))))) (fe := nxE (eVar 20)) (vs := [20]) (fun p : (Str × D) × Bool => Vl.d (fD p.1)) (fun p => decide (p.2 = decide (p.1 ∈ fs))) (fun p => fD p.1) N v3 hn (by simp [nV, List.map_map, Function.comp_def]) (by omega) fun p hp => by
    refine ⟨_, rfl, ?_⟩
    have g3 : ((wipeE ρ [20]).set 20 (some (.d (fD p.1))))[3]? = some (some (.mu n)) := by simpa [wipeE, List.getElem?_set] using h3
    have g10 : ((wipeE ρ [20]).set 20 (some (.d (fD p.1))))[10]? = some (some (.d (.lst (fs.map fD)))) := by simpa [wipeE, List.getElem?_set] using h10
    have g20 : ((wipeE ρ [20]).set 20 (some (.d (fD p.1))))[20]? = some (some (.d (fD p.1))) := by
      rw [List.getElem?_set_self]
      simp [wipeE, hr]
    generalize (wipeE ρ [20]).set 20 (some (.d (fD p.1))) = ρ' at g3 g10 g20
    have of := ok.o p hp
    have ei : ixD (W.set n (.lk (nV N))) (.mu n) (.d (fD p.1)) = .ok (.d (.bl p.2)) (W.set n (.lk (nV N))) := by
      simp only [ixD, hd, okKey_nV of, if_true, getK_nV, nlk_of ok.d (show (p.1, p.2) ∈ N from hp), Option.map_some]
    have en : DL.inD (W.set n (.lk (nV N))) (.d (fD p.1)) (.d (.lst (fs.map fD))) = .ok (.d (.bl (decide (p.1 ∈ fs)))) (W.set n (.lk (nV N))) := by
      simp only [DL.inD, in_facts hf of]
    refine ⟨?_, fun _ => by simp only [nxE, eVar, g20]⟩
    simp only [nxE, tstV, eOp, eVar, g3, g10, g20, Res.bind_ok, ei, en, eqD_bl, blOf]
  have el : eLst aNil ρ W = .ok (.d (.lst [])) W := rfl
  have es : ((N.filter fun p => decide (p.2 = decide (p.1 ∈ fs))).map fun p => fD p.1) = (badL N fs).map fD := by
    unfold badL
    rw [List.map_map]
    rfl
  rw [es] at e
  have sh : shapedD (.lst ((badL N fs).map fD)) = true := fds_sh fun f h => by
    obtain ⟨p, hp, rfl⟩ := List.mem_map.mp h
    exact ok.o p (List.mem_filter.mp hp).1
  simp only [badE, eOp, e, el, Res.bind_ok, neD_sh sh (show shapedD (.lst []) = true by decide +kernel)]
  congr 3
  cases badL N fs <;> simp
open Classical in
noncomputable def aftL (N : NX) (fs : List (Str × D)) : List (Str × D) := (fs.filter fun f => decide (nlk N f = none)) ++ (N.filter fun p => p.2).map (·.1)
noncomputable abbrev aftE : FE := (eOp addD (eLc (iS (eVar 10)) (gN 5) (nxE (tstV (eOp DL.notInD (eVar 5) (eVar 3)))) (nxE (eVar 5)) [5]) (eLcK (eVar 3) (gN 20) (nxE (tstV (eOp ixD (eVar 3) (eVar 20)))) (nxE (eVar 20)) [20]))
open Classical in
theorem aft_ev {W : Ms} {n : Nat} {N : NX} (hn : W[n]? = some (.dct (nV N))) (ok : Net N) (hl : N.length ≤ 20) {fs : List (Str × D)} (hf : ∀ f ∈ fs, okF f) (hfl : fs.length ≤ 100) {ρ : Ev} (h3 : ρ[3]? = some (some (.mu n))) (h10 : ρ[10]? = some (some (.d (.lst (fs.map fD))))) (hr : ρ.length = 21) :
    aftE ρ W = .ok (.d (.lst ((aftL N fs).map fD))) W := by
  have hw := (List.getElem?_eq_some_iff.mp hn).1
  have hd : dctOf (W.set n (.lk (nV N))) (.mu n) = some (nV N) := by simp [dctOf, List.getElem?_set_self hw]
  have hd0 : dctOf W (.mu n) = some (nV N) := by simp [dctOf, hn]
  have v3 : eVar 3 ρ W = .ok (.mu n) W := by simp [eVar, h3]
  have e1 := eLc_pure (fi := iS (eVar 10)) (fg := gN 5) (t := nxE (tstV (eOp DL.notInD (eVar 5) (eVar 3)))) (f := nxE (eVar 5)) (vs := [5]) (ρ := ρ) (W := W) (fun f => Vl.d (fD f)) (fun f => decide (nlk N f = none)) fD fs (by simp [iS, eVar, h10, seq_lst, List.map_map, Function.comp_def]) (by omega) fun f hff => by
    refine ⟨_, rfl, ?_⟩
    have g3 : ((wipeE ρ [5]).set 5 (some (.d (fD f))))[3]? = some (some (.mu n)) := by simpa [wipeE, List.getElem?_set] using h3
    have g5 : ((wipeE ρ [5]).set 5 (some (.d (fD f))))[5]? = some (some (.d (fD f))) := by
      rw [List.getElem?_set_self]
      simp [wipeE, hr]
    generalize (wipeE ρ [5]).set 5 (some (.d (fD f))) = ρ' at g3 g5
    have en : DL.notInD W (.d (fD f)) (.mu n) = .ok (.d (.bl (decide (nlk N f = none)))) W := by
      simp only [DL.notInD, isIn, hd0, okKey_nV (hf f hff), if_true, getK_nV]
      cases nlk N f <;> simp
    exact ⟨by simp only [nxE, tstV, eOp, eVar, g3, g5, Res.bind_ok, en, blOf], fun _ => by simp only [nxE, eVar, g5]⟩
  have e2 := eLcK_pure (f := eVar 3) (fg := gN 20) (t := nxE (tstV (eOp ixD (eVar 3) (eVar 20)))) (fe := nxE (eVar 20)) (vs := [20]) (fun p : (Str × D) × Bool => Vl.d (fD p.1)) (fun p => p.2) (fun p => fD p.1) N v3 hn (by simp [nV, List.map_map, Function.comp_def]) (by omega) fun p hp => by
    refine ⟨_, rfl, ?_⟩
    have g3 : ((wipeE ρ [20]).set 20 (some (.d (fD p.1))))[3]? = some (some (.mu n)) := by simpa [wipeE, List.getElem?_set] using h3
    have g20 : ((wipeE ρ [20]).set 20 (some (.d (fD p.1))))[20]? = some (some (.d (fD p.1))) := by
      rw [List.getElem?_set_self]
      simp [wipeE, hr]
    generalize (wipeE ρ [20]).set 20 (some (.d (fD p.1))) = ρ' at g3 g20
    have of := ok.o p hp
    have ei : ixD (W.set n (.lk (nV N))) (.mu n) (.d (fD p.1)) = .ok (.d (.bl p.2)) (W.set n (.lk (nV N))) := by
      simp only [ixD, hd, okKey_nV of, if_true, getK_nV, nlk_of ok.d (show (p.1, p.2) ∈ N from hp), Option.map_some]
    exact ⟨by simp only [nxE, tstV, eOp, eVar, g3, g20, Res.bind_ok, ei, blOf], fun _ => by simp only [nxE, eVar, g20]⟩
  have es : ((fs.filter fun f => decide (nlk N f = none)).map fD) ++ ((N.filter fun p => p.2).map fun p => fD p.1) = (aftL N fs).map fD := by
    unfold aftL
    rw [List.map_append, List.map_map]
    rfl
  simp only [aftE, eOp, e1, e2, Res.bind_ok]
  rw [addD_lst (by
    have h1 := List.length_filter_le (fun f => decide (nlk N f = none)) fs
    have h2 := List.length_filter_le (fun p : (Str × D) × Bool => p.2) N
    simp only [List.length_map]
    omega), es]
theorem aft_ok {N : NX} (ok : Net N) {fs : List (Str × D)} (hf : ∀ f ∈ fs, okF f) : ∀ f ∈ aftL N fs, okF f := fun f h => by
  rcases List.mem_append.mp h with h | h
  · exact hf f (List.mem_filter.mp h).1
  · obtain ⟨p, hp, rfl⟩ := List.mem_map.mp h
    exact ok.o p (List.mem_filter.mp hp).1
theorem aft_mem {N : NX} (ok : Net N) (fs : List (Str × D)) (f : Str × D) : f ∈ aftL N fs ↔ nlk N f = some true ∨ (nlk N f = none ∧ f ∈ fs) := by
  unfold aftL
  rw [List.mem_append]
  constructor
  · rintro (h | h)
    · have := List.mem_filter.mp h
      exact .inr ⟨by simpa using this.2, this.1⟩
    · obtain ⟨p, hp, rfl⟩ := List.mem_map.mp h
      have h1 := List.mem_filter.mp hp
      have : nlk N p.1 = some p.2 := nlk_of ok.d (show (p.1, p.2) ∈ N from h1.1)
      exact .inl (by rw [this, h1.2])
  · rintro (h | ⟨h, h'⟩)
    · exact .inr (List.mem_map.mpr ⟨(f, true), List.mem_filter.mpr ⟨nlk_mem h, rfl⟩, rfl⟩)
    · exact .inl (List.mem_filter.mpr ⟨h', by simpa using h⟩)
theorem bad_fits {N : NX} (ok : Net N) (fs : List (Str × D)) {cs : CS} (eq : ∀ m r, cs m r = nlk N (m, r)) {S : Str → D → Prop} (hS : ∀ m d, S m d ↔ (m, d) ∈ fs) : (∀ m, fits S cs m) ↔ badL N fs = [] := by
  classical
  constructor
  · intro h
    unfold badL
    rw [List.map_eq_nil_iff, List.filter_eq_nil_iff]
    rintro ⟨⟨m, d⟩, b⟩ hp
    have hk : nlk N (m, d) = some b := nlk_of ok.d hp
    have := h m d
    rw [eq, hk, hS] at this
    cases b with
    | true => have := this.2 rfl; simp [this]
    | false => have := this.1 rfl; simp [this]
  · intro h m d
    have hb : ∀ b, nlk N (m, d) = some b → ¬ b = decide ((m, d) ∈ fs) := fun b hk z => by
      have : (m, d) ∈ badL N fs := List.mem_map.mpr ⟨((m, d), b), List.mem_filter.mpr ⟨nlk_mem hk, by simpa using z⟩, rfl⟩
      rw [h] at this
      exact nomatch this
    rw [eq, hS]
    refine ⟨fun q => ?_, fun q z => ?_⟩
    · have := hb _ q
      by_cases w : (m, d) ∈ fs
      · exact w
      · exact absurd (by simp [w]) this
    · exact hb _ q (by simp [z])
end
end Toy

set_option Elab.async false
set_option linter.all false
set_option maxRecDepth 100000
set_option maxHeartbeats 4000000
namespace Toy
open PySem L2 DL
/-! ## the law's second half -/
section
variable (A : Ad)
abbrev E21 (x0 : Vl) (c n : Nat) (o4 o5 o6 o7 o8 o9 a10 a11 a12 a13 a14 a15 a16 a17 a18 : Option Vl) : Ev := [some x0, some (.mu 0), some (.mu c), some (.mu n), o4, o5, o6, o7, o8, o9, a10, a11, a12, a13, a14, a15, a16, a17, a18, none, none]
noncomputable abbrev shE (i : Nat) : FE := eMeth A.C_Store "shown" (f_Store_shown A) [] (eVar i) aNil
noncomputable abbrev soE (f : FE) : FE := eMeth A.C_Store "shown" (f_Store_shown A) [] (eCall (f_store_of A) [] (aCons f aNil)) aNil
noncomputable abbrev endT : FT := (tstOr (tstV (eOp DL.neD (eVar 17) (eIf (tstV (eVar 16)) (eC (.str "no such")) (eC .non)))) (tstV (eOp DL.neD (shE A 12) (soE A (eIf (tstV (eVar 16)) (eVar 10) (eVar 18))))))
noncomputable abbrev restB : FS := (sSeq (sAsgT 2 (aCons (eCall (f_l_facts A) [] (aCons (eVar 1) aNil)) (aCons (eCall (f_l_facts A) [] (aCons (eVar 1) aNil)) aNil)) (gsCons (gN 10) (gsCons (gN 11) gsNil)))
      (sSeq (sAsgT 2 (aCons (eCall (f_store_of A) [] (aCons (eVar 10) aNil)) (aCons (eCall (f_store_of A) [] (aCons (eVar 11) aNil)) aNil)) (gsCons (gN 12) (gsCons (gN 13) gsNil)))
      (sSeq (sSet 14 (eCall (f_apart A) [] (aCons (eVar 12) (aCons (eVar 13) aNil))))
      (sSeq (sSet 15 (eMeth A.C_Changes "turned" (f_Changes_turned A) [] (eVar 14) aNil))
      (sSeq (sExpr (eCall (f_laid_on A) [] (aCons (eVar 12) (aCons (eVar 14) aNil))))
      (sSeq (sIf (tstV (eOp DL.neD (shE A 12) (shE A 13))) (sRet (eC (.bl false))) sNil)
      (sSeq (sExpr (eCall (f_laid_on A) [] (aCons (eVar 12) (aCons (eVar 15) aNil))))
      (sSeq (sIf (tstV (eOp DL.neD (shE A 12) (soE A (eVar 10)))) (sRet (eC (.bl false))) sNil)
      (sSeq (sSet 16 badE)
      (sSeq (sSet 17 (eTold (tlF A) (eCall (f_laid_on A) [] (aCons (eVar 12) (aCons (eVar 2) aNil)))))
      (sSeq (sSet 18 aftE)
      (sIf (endT A) (sRet (eC (.bl false))) sNil))))))))))))
theorem sExpr_ok {f : FE} {ρ : Ev} {W W1 : Ms} {x : Vl} (h : f ρ W = .ok x W1) : sExpr f ρ W = .nx ρ W1 := by simp [sExpr, h]
theorem cmp_shown {fa fb : FE} {ρ : Ev} {W W1 W2 : Ms} {x y : D} (ha : fa ρ W = .ok (.d x) W1) (hb : fb ρ W1 = .ok (.d y) W2) (e : x = y) (sh : shapedD x = true) : tstV (eOp DL.neD fa fb) ρ W = .ok false W2 := by
  subst e
  simp only [tstV, eOp, ha, hb, Res.bind_ok, neD_shaped sh, blOf]
theorem end_no {ρ : Ev} {W W2 : Ms} {x17 : D} {b : Bool} {x y : D} (h16 : ρ[16]? = some (some (.d (.bl b)))) (h17 : ρ[17]? = some (some (.d x17))) (hx : x17 = if b = true then .str "no such" else .non) (ha : shE A 12 ρ W = .ok (.d x) W) (hb : soE A (eIf (tstV (eVar 16)) (eVar 10) (eVar 18)) ρ W = .ok (.d y) W2) (e : x = y) (sh : shapedD x = true) : endT A ρ W = .ok false W2 := by
  have v16 : tstV (eVar 16) ρ W = .ok b W := by simp [tstV, eVar, h16, blOf]
  have v17 : eVar 17 ρ W = .ok (.d x17) W := by simp [eVar, h17]
  have e2 : eIf (tstV (eVar 16)) (eC (.str "no such")) (eC .non) ρ W = .ok (.d x17) W := by
    simp only [eIf, v16, Res.bind_ok]
    cases b <;> (subst hx; rfl)
  have e3 : DL.neD W (.d x17) (.d x17) = .ok (.d (.bl false)) W := by
    cases b
    · subst hx; unfold DL.neD; simp [rdD, scalD]
    · subst hx; rw [if_pos rfl, neD_str]; simp
  have t1 : tstV (eOp DL.neD (eVar 17) (eIf (tstV (eVar 16)) (eC (.str "no such")) (eC .non))) ρ W = .ok false W := by
    generalize eIf (tstV (eVar 16)) (eC (.str "no such")) (eC .non) = q at e2
    simp only [tstV, eOp, v17, e2, Res.bind_ok, e3, blOf]
  unfold endT
  simp only [tstOr, t1, Res.bind_ok, Bool.false_eq_true, if_false]
  exact cmp_shown ha hb e sh
theorem rest {x0 : Vl} {W2 : Ms} {c n : Nat} {F : List Nat} {cs : CS} {N : NX} (h : I1 A W2 c F cs n N) (hN : N.length ≤ 20) (o4 o5 o6 o7 o8 o9 : Option Vl) :
    ∃ ρ' W', restB A (E21 x0 c n o4 o5 o6 o7 o8 o9 none none none none none none none none none) W2 = .nx ρ' W' ∧ W'[1]? = some (.lst [.mu 0]) := by
  classical
  obtain ⟨_, _, _, _, c5, c6⟩ := nbC
  -- facts
  obtain ⟨fs, W3, of, lf, r3, e3⟩ := facts A h.dz
  obtain ⟨gs, W4, og, lg, r4, e4⟩ := facts A r3.dz
  have r := r3.trans r4
  have s1 : sAsgT 2 (aCons (eCall (f_l_facts A) [] (aCons (eVar 1) aNil)) (aCons (eCall (f_l_facts A) [] (aCons (eVar 1) aNil)) aNil)) (gsCons (gN 10) (gsCons (gN 11) gsNil)) (E21 x0 c n o4 o5 o6 o7 o8 o9 none none none none none none none none none) W2 = .nx (E21 x0 c n o4 o5 o6 o7 o8 o9 (some (.d (.lst (fs.map fD)))) (some (.d (.lst (gs.map fD)))) none none none none none none none) W4 := by
    simp [sAsgT, aCons, aNil, eCall, eVar, e3, e4, gsCons, gN, gsNil]
  have n0 : 0 ∉ F := h.ap 0 (by simp)
  have ch4 : Ch A W4 c F cs := h.ch.frame fun i hi => r.e i fun z => n0 (z ▸ hi)
  have nt4 : W4[n]? = some (.dct (nV N)) := (r.e n h.n0.1).trans h.nt
  have li4 : W4[1]? = some (.lst [.mu 0]) := (r.e 1 (by decide)).trans h.li
  have lt4 : ∀ i ∈ 1 :: n :: F, i < W4.length := fun i hi => by
    rcases List.mem_cons.mp hi with rfl | hi
    · exact (List.getElem?_eq_some_iff.mp li4).1
    · rcases List.mem_cons.mp hi with rfl | hi
      · exact (List.getElem?_eq_some_iff.mp nt4).1
      · exact ch4.lt i hi
  -- stores
  obtain ⟨s, Fs, W5, e5, hs5, g5⟩ := store_of A fs of W4
  obtain ⟨e, Fe, W6, e6, he6, g6⟩ := store_of A gs og W5
  have s2 : sAsgT 2 (aCons (eCall (f_store_of A) [] (aCons (eVar 10) aNil)) (aCons (eCall (f_store_of A) [] (aCons (eVar 11) aNil)) aNil)) (gsCons (gN 12) (gsCons (gN 13) gsNil)) (E21 x0 c n o4 o5 o6 o7 o8 o9 (some (.d (.lst (fs.map fD)))) (some (.d (.lst (gs.map fD)))) none none none none none none none) W4 = .nx (E21 x0 c n o4 o5 o6 o7 o8 o9 (some (.d (.lst (fs.map fD)))) (some (.d (.lst (gs.map fD)))) (some (.mu s)) (some (.mu e)) none none none none none) W6 := by
    have e5' : f_store_of A [.d (.lst (fs.map fD))] W4 = .ok (.mu s) W5 := e5
    have e6' : f_store_of A [.d (.lst (gs.map fD))] W5 = .ok (.mu e) W6 := e6
    simp [sAsgT, aCons, aNil, eCall, eVar, e5', e6', gsCons, gN, gsNil]
  obtain ⟨aG5, kG5, lG5⟩ := g5.keeps (G := 1 :: n :: F) (fun i _ z => nomatch z) lt4
  obtain ⟨aG6, kG6, lG6⟩ := g6.keeps (G := 1 :: n :: F) (fun i _ z => nomatch z) lG5
  obtain ⟨aS6, kS6, lS6⟩ := g6.keeps (G := Fs) (fun i _ z => nomatch z) hs5.lt
  have hs6 := hs5.frame kS6
  -- what lies between
  obtain ⟨b, Fb, W7, e7, ⟨co, hb7, qo⟩, g7⟩ := apart A hs6 he6
  have s3 : sSet 14 (eCall (f_apart A) [] (aCons (eVar 12) (aCons (eVar 13) aNil))) (E21 x0 c n o4 o5 o6 o7 o8 o9 (some (.d (.lst (fs.map fD)))) (some (.d (.lst (gs.map fD)))) (some (.mu s)) (some (.mu e)) none none none none none) W6 = .nx (E21 x0 c n o4 o5 o6 o7 o8 o9 (some (.d (.lst (fs.map fD)))) (some (.d (.lst (gs.map fD)))) (some (.mu s)) (some (.mu e)) (some (.mu b)) none none none none) W7 :=
    sSet_ok ((eCall2 (x := .mu s) (y := .mu e) (W1 := W6) (W2 := W6) rfl rfl).trans e7)
  obtain ⟨aG7, kG7, lG7⟩ := g7.keeps (G := 1 :: n :: F) (fun i _ z => nomatch z) lG6
  obtain ⟨aS7, kS7, lS7⟩ := g7.keeps (G := Fs) (fun i _ z => nomatch z) lS6
  obtain ⟨aE7, kE7, lE7⟩ := g7.keeps (G := Fe) (fun i _ z => nomatch z) he6.lt
  have hs7 := hs6.frame kS7
  have he7 := he6.frame kE7
  -- turned
  obtain ⟨k, Fk, W8, e8, ⟨cb, hk8, qb⟩, g8⟩ := hb7.turned A
  have s4 : sSet 15 (eMeth A.C_Changes "turned" (f_Changes_turned A) [] (eVar 14) aNil) (E21 x0 c n o4 o5 o6 o7 o8 o9 (some (.d (.lst (fs.map fD)))) (some (.d (.lst (gs.map fD)))) (some (.mu s)) (some (.mu e)) (some (.mu b)) none none none none) W7 = .nx (E21 x0 c n o4 o5 o6 o7 o8 o9 (some (.d (.lst (fs.map fD)))) (some (.d (.lst (gs.map fD)))) (some (.mu s)) (some (.mu e)) (some (.mu b)) (some (.mu k)) none none none) W8 :=
    sSet_ok ((meth0 (n := b) rfl (hb7.isI c5 c6)).trans e8)
  obtain ⟨aG8, kG8, lG8⟩ := g8.keeps (G := 1 :: n :: F) (fun i _ z => nomatch z) lG7
  obtain ⟨aS8, kS8, lS8⟩ := g8.keeps (G := Fs) (fun i _ z => nomatch z) lS7
  obtain ⟨aE8, kE8, lE8⟩ := g8.keeps (G := Fe) (fun i _ z => nomatch z) lE7
  obtain ⟨_, kB8, _⟩ := g8.keeps (G := Fb) (fun i _ z => nomatch z) hb7.lt
  have hs8 := hs7.frame kS8
  have he8 := he7.frame kE8
  have hb8 := hb7.frame kB8
  -- laid on
  have fit1 : ∀ m, fits (fun m d => (m, d) ∈ fs) co m := fun m d => by
    rw [qo]
    by_cases u : (m, d) ∈ fs <;> by_cases v : (m, d) ∈ gs <;> simp [u, v]
  obtain ⟨Fs9, W9, e9, ⟨S9, hs9, q9⟩, g9⟩ := (laid A hs8 hb8 fun i hi z => aS7 i z hi).1 fit1
  have s5 : sExpr (eCall (f_laid_on A) [] (aCons (eVar 12) (aCons (eVar 14) aNil))) (E21 x0 c n o4 o5 o6 o7 o8 o9 (some (.d (.lst (fs.map fD)))) (some (.d (.lst (gs.map fD)))) (some (.mu s)) (some (.mu e)) (some (.mu b)) (some (.mu k)) none none none) W8 = .nx (E21 x0 c n o4 o5 o6 o7 o8 o9 (some (.d (.lst (fs.map fD)))) (some (.d (.lst (gs.map fD)))) (some (.mu s)) (some (.mu e)) (some (.mu b)) (some (.mu k)) none none none) W9 :=
    sExpr_ok ((eCall2 (x := .mu s) (y := .mu b) (W1 := W8) (W2 := W8) rfl rfl).trans e9)
  obtain ⟨aG9, kG9, lG9⟩ := g9.keeps (G := 1 :: n :: F) aG5 lG8
  obtain ⟨aE9, kE9, lE9⟩ := g9.keeps (G := Fe) (fun i hi z => aS6 i z hi) lE8
  obtain ⟨aK9, kK9, lK9⟩ := g9.keeps (G := Fk) (fun i hi z => aS8 i z hi) hk8.lt
  have he9 := he8.frame kE9
  have hk9 := hk8.frame kK9
  have S9e : ∀ m d, S9 m d ↔ (m, d) ∈ gs := fun m d => by
    rw [q9, qo]
    by_cases u : (m, d) ∈ fs <;> by_cases v : (m, d) ∈ gs <;> simp [u, v]
  have s6 := sIf_no (a := sRet (eC (.bl false))) (cmp_shown (ρ := E21 x0 c n o4 o5 o6 o7 o8 o9 (some (.d (.lst (fs.map fD)))) (some (.d (.lst (gs.map fD)))) (some (.mu s)) (some (.mu e)) (some (.mu b)) (some (.mu k)) none none none) (hs9.sh A (fa := eVar 12) rfl) (he9.sh A (fa := eVar 13) rfl) (stC_eq S9e) (stC_sh S9))
  -- laid back
  have fit2 : ∀ m, fits S9 cb m := fun m d => by
    rw [qb, qo, S9e]
    by_cases u : (m, d) ∈ fs <;> by_cases v : (m, d) ∈ gs <;> simp [u, v]
  obtain ⟨Fs10, W10, e10, ⟨S10, hs10, q10⟩, g10⟩ := (laid A hs9 hk9 aK9).1 fit2
  have s7 : sExpr (eCall (f_laid_on A) [] (aCons (eVar 12) (aCons (eVar 15) aNil))) (E21 x0 c n o4 o5 o6 o7 o8 o9 (some (.d (.lst (fs.map fD)))) (some (.d (.lst (gs.map fD)))) (some (.mu s)) (some (.mu e)) (some (.mu b)) (some (.mu k)) none none none) W9 = .nx (E21 x0 c n o4 o5 o6 o7 o8 o9 (some (.d (.lst (fs.map fD)))) (some (.d (.lst (gs.map fD)))) (some (.mu s)) (some (.mu e)) (some (.mu b)) (some (.mu k)) none none none) W10 :=
    sExpr_ok ((eCall2 (x := .mu s) (y := .mu k) (W1 := W9) (W2 := W9) rfl rfl).trans e10)
  obtain ⟨aG10, kG10, lG10⟩ := g10.keeps (G := 1 :: n :: F) aG9 lG9
  have S10e : ∀ m d, S10 m d ↔ (m, d) ∈ fs := fun m d => by
    rw [q10, qb, qo, S9e]
    by_cases u : (m, d) ∈ fs <;> by_cases v : (m, d) ∈ gs <;> simp [u, v]
  obtain ⟨F11, W11, e11, g11⟩ := so_shown A (W := W10) of (fa := eVar 10) (ρ := E21 x0 c n o4 o5 o6 o7 o8 o9 (some (.d (.lst (fs.map fD)))) (some (.d (.lst (gs.map fD)))) (some (.mu s)) (some (.mu e)) (some (.mu b)) (some (.mu k)) none none none) rfl
  have s8 := sIf_no (a := sRet (eC (.bl false))) (cmp_shown (ρ := E21 x0 c n o4 o5 o6 o7 o8 o9 (some (.d (.lst (fs.map fD)))) (some (.d (.lst (gs.map fD)))) (some (.mu s)) (some (.mu e)) (some (.mu b)) (some (.mu k)) none none none) (hs10.sh A (fa := eVar 12) rfl) e11 (stC_eq S10e) (stC_sh S10))
  obtain ⟨aG11, kG11, lG11⟩ := g11.keeps (G := 1 :: n :: F) (fun i _ z => nomatch z) lG10
  obtain ⟨aS11, kS11, lS11⟩ := g11.keeps (G := Fs10) (fun i _ z => nomatch z) hs10.lt
  have hs11 := hs10.frame kS11
  have kall : ∀ i ∈ 1 :: n :: F, W11[i]? = W4[i]? := fun i hi => (kG11 i hi).trans ((kG10 i hi).trans ((kG9 i hi).trans ((kG8 i hi).trans ((kG7 i hi).trans ((kG6 i hi).trans (kG5 i hi))))))
  have ch11 : Ch A W11 c F cs := ch4.frame fun i hi => kall i (List.mem_cons_of_mem _ (List.mem_cons_of_mem _ hi))
  have nt11 : W11[n]? = some (.dct (nV N)) := (kall n (by simp)).trans nt4
  have li11 : W11[1]? = some (.lst [.mu 0]) := (kall 1 (by simp)).trans li4
  -- bad
  have s9 := sSet_ok (i := 16) (bad_ev nt11 h.ok hN of (ρ := E21 x0 c n o4 o5 o6 o7 o8 o9 (some (.d (.lst (fs.map fD)))) (some (.d (.lst (gs.map fD)))) (some (.mu s)) (some (.mu e)) (some (.mu b)) (some (.mu k)) none none none) rfl rfl rfl)
  have bf := bad_fits h.ok fs h.eq S10e
  have L := laid A hs11 ch11 fun i hi z => aG10 i (List.mem_cons_of_mem _ (List.mem_cons_of_mem _ hi)) z
  -- told, and after it
  have key : ∃ (x17 : D) (W12 : Ms) (y : D) (W13 : Ms) (S12 : Str → D → Prop) (Fs12 : List Nat), eTold (tlF A) (eCall (f_laid_on A) [] (aCons (eVar 12) (aCons (eVar 2) aNil))) (E21 x0 c n o4 o5 o6 o7 o8 o9 (some (.d (.lst (fs.map fD)))) (some (.d (.lst (gs.map fD)))) (some (.mu s)) (some (.mu e)) (some (.mu b)) (some (.mu k)) (some (.d (.bl (decide (badL N fs ≠ []))))) none none) W11 = .ok (.d x17) W12 ∧
      x17 = (if decide (badL N fs ≠ []) = true then .str "no such" else .non) ∧ Sto A W12 s Fs12 S12 ∧ W12[n]? = some (.dct (nV N)) ∧ W12[1]? = some (.lst [.mu 0]) ∧
      soE A (eIf (tstV (eVar 16)) (eVar 10) (eVar 18)) (E21 x0 c n o4 o5 o6 o7 o8 o9 (some (.d (.lst (fs.map fD)))) (some (.d (.lst (gs.map fD)))) (some (.mu s)) (some (.mu e)) (some (.mu b)) (some (.mu k)) (some (.d (.bl (decide (badL N fs ≠ []))))) (some (.d x17)) (some (.d (.lst ((aftL N fs).map fD))))) W12 = .ok (.d y) W13 ∧ stC S12 = y ∧ W13[1]? = some (.lst [.mu 0]) := by
    have ec : ∀ {R : Res Vl}, f_laid_on A [.mu s, .mu c] W11 = R → eCall (f_laid_on A) [] (aCons (eVar 12) (aCons (eVar 2) aNil)) (E21 x0 c n o4 o5 o6 o7 o8 o9 (some (.d (.lst (fs.map fD)))) (some (.d (.lst (gs.map fD)))) (some (.mu s)) (some (.mu e)) (some (.mu b)) (some (.mu k)) (some (.d (.bl (decide (badL N fs ≠ []))))) none none) W11 = R := fun hR => (eCall2 (x := .mu s) (y := .mu c) (W1 := W11) (W2 := W11) rfl rfl).trans hR
    by_cases z : badL N fs = []
    · obtain ⟨Fs12, W12, e12, ⟨S12, hs12, q12⟩, g12⟩ := L.1 (bf.mpr z)
      obtain ⟨_, kG12, lG12⟩ := g12.keeps (G := 1 :: n :: F) aG10 lG11
      have hb : decide (badL N fs ≠ []) = false := by simp [z]
      rw [hb] at ec ⊢
      obtain ⟨F13, W13, e13, g13⟩ := so_shown A (W := W12) (aft_ok h.ok of) (fa := eIf (tstV (eVar 16)) (eVar 10) (eVar 18)) (ρ := E21 x0 c n o4 o5 o6 o7 o8 o9 (some (.d (.lst (fs.map fD)))) (some (.d (.lst (gs.map fD)))) (some (.mu s)) (some (.mu e)) (some (.mu b)) (some (.mu k)) (some (.d (.bl false))) (some (.d .non)) (some (.d (.lst ((aftL N fs).map fD))))) rfl
      refine ⟨.non, W12, _, W13, S12, Fs12, ?_, rfl, hs12, (kG12 n (by simp)).trans nt11, (kG12 1 (by simp)).trans li11, e13, stC_eq fun m d => ?_, ?_⟩
      · unfold eTold
        rw [ec e12]
      · rw [q12, S10e, h.eq, aft_mem h.ok]
      · exact (g13.fr 1 (lG12 1 (by simp)) (fun z => nomatch z)).trans ((kG12 1 (by simp)).trans li11)
    · have e12 := L.2 fun w => z (bf.mp w)
      have hb : decide (badL N fs ≠ []) = true := by simp [z]
      rw [hb] at ec ⊢
      obtain ⟨F13, W13, e13, g13⟩ := so_shown A (W := W11) of (fa := eIf (tstV (eVar 16)) (eVar 10) (eVar 18)) (ρ := E21 x0 c n o4 o5 o6 o7 o8 o9 (some (.d (.lst (fs.map fD)))) (some (.d (.lst (gs.map fD)))) (some (.mu s)) (some (.mu e)) (some (.mu b)) (some (.mu k)) (some (.d (.bl true))) (some (.d (.str "no such"))) (some (.d (.lst ((aftL N fs).map fD))))) rfl
      refine ⟨.str "no such", W11, _, W13, S10, Fs10, ?_, rfl, hs11, nt11, li11, e13, stC_eq S10e, ?_⟩
      · unfold eTold
        rw [ec e12]
        simp [tlF]
      · exact (g13.fr 1 (lG11 1 (by simp)) (fun z => nomatch z)).trans li11
  obtain ⟨x17, W12, y, W13, S12, Fs12, e12, hx, hs12, nt12, li12, e13, ey, li13⟩ := key
  have s10 := sSet_ok (i := 17) e12
  have s11 := sSet_ok (i := 18) (aft_ev nt12 h.ok hN of lf (ρ := E21 x0 c n o4 o5 o6 o7 o8 o9 (some (.d (.lst (fs.map fD)))) (some (.d (.lst (gs.map fD)))) (some (.mu s)) (some (.mu e)) (some (.mu b)) (some (.mu k)) (some (.d (.bl (decide (badL N fs ≠ []))))) (some (.d x17)) none) rfl rfl rfl)
  have s12 := sIf_no (a := sRet (eC (.bl false))) (end_no A (ρ := E21 x0 c n o4 o5 o6 o7 o8 o9 (some (.d (.lst (fs.map fD)))) (some (.d (.lst (gs.map fD)))) (some (.mu s)) (some (.mu e)) (some (.mu b)) (some (.mu k)) (some (.d (.bl (decide (badL N fs ≠ []))))) (some (.d x17)) (some (.d (.lst ((aftL N fs).map fD))))) rfl rfl hx (hs12.sh A (fa := eVar 12) rfl) e13 ey (stC_sh S12))
  refine ⟨E21 x0 c n o4 o5 o6 o7 o8 o9 (some (.d (.lst (fs.map fD)))) (some (.d (.lst (gs.map fD)))) (some (.mu s)) (some (.mu e)) (some (.mu b)) (some (.mu k)) (some (.d (.bl (decide (badL N fs ≠ []))))) (some (.d x17)) (some (.d (.lst ((aftL N fs).map fD)))), W13, ?_, li13⟩
  refine (sSeq_nx s1).trans ?_
  refine (sSeq_nx s2).trans ?_
  refine (sSeq_nx s3).trans ?_
  refine (sSeq_nx s4).trans ?_
  refine (sSeq_nx s5).trans ?_
  refine (sSeq_nx s6).trans ?_
  refine (sSeq_nx s7).trans ?_
  refine (sSeq_nx s8).trans ?_
  refine (sSeq_nx s9).trans ?_
  refine (sSeq_nx s10).trans ?_
  refine (sSeq_nx s11).trans ?_
  exact s12
end
end Toy

set_option Elab.async false
set_option linter.all false
set_option maxRecDepth 100000
set_option maxHeartbeats 4000000
namespace Toy
open PySem L2 DL
/-! ## dice -/
def m3 (a b c : Int) : M := .lst [.d (.int a), .d (.int b), .d (.int c)]
theorem dice (A : Ad) (c : Int) (W : Ms) : ∃ m, Dc m ∧ f_l_dice A [.d (.int c)] W = .ok (.mu W.length) (W ++ [m]) := by
  have hp : CPow 10 18 := ⟨by decide, by decide, by decide⟩
  by_cases h1 : (-10 : Int) < c
  · by_cases h2 : c < 10
    · refine ⟨m3 (if c < 0 then -c else c) 0 2, ⟨_, _, _, rfl⟩, ?_⟩
      simp [f_l_dice, run0, b_l_dice, startE, sSeq, sIf, tstV, eChain, eOp, eC, eVar, subD, arI, intOf, cmpD, rdD, ltO, h1, h2, blOf, sRet, eLstM, mkLstM, eCB, aCons, aNil, absD, int1, m3]
    · refine ⟨m3 c (1 + c % 1009) (if (10 : Int) ^ 18 ≤ c then 1 else 0), ⟨_, _, _, rfl⟩, ?_⟩
      simp [f_l_dice, run0, b_l_dice, startE, sSeq, sIf, tstV, eChain, eOp, eC, eVar, subD, arI, intOf, cmpD, rdD, ltO, h1, h2, blOf, sRet, eLstM, mkLstM, eCB, aCons, aNil, sNil, addD, modD, arC, intD, geI, powD, hp, m3]
  · refine ⟨m3 c (1 + c % 1009) (if (10 : Int) ^ 18 ≤ c then 1 else 0), ⟨_, _, _, rfl⟩, ?_⟩
    simp [f_l_dice, run0, b_l_dice, startE, sSeq, sIf, tstV, eChain, eOp, eC, eVar, subD, arI, intOf, cmpD, rdD, ltO, h1, blOf, sRet, eLstM, mkLstM, eCB, aCons, aNil, sNil, addD, modD, arC, intD, geI, powD, hp, m3]
theorem one_round (A : Ad) (c : Int) (ρ : Ev) (h2 : ρ[2]? = some (some (.d (.lst [.int c])))) (hl : ρ.length = 4) : ∃ m, Dc m ∧ eLcM (iS (eVar 2)) (gN 3) (nxE tstYes) (nxE (eCall (f_l_dice A) [] (aCons (eVar 3) aNil))) [3] ρ [] = .ok (.mu 1) [m, .lst [.mu 0]] := by
  obtain ⟨m, hm, e⟩ := dice A c []
  refine ⟨m, hm, ?_⟩
  have hv : ((wipeE ρ [3]).set 3 (some (.d (.int c))))[3]? = some (some (.d (.int c))) := by
    rw [List.getElem?_set_self]
    simp [wipeE, hl]
  have et : nxE tstYes ((wipeE ρ [3]).set 3 (some (.d (.int c)))) [] = .ok true [] := rfl
  have ef : nxE (eCall (f_l_dice A) [] (aCons (eVar 3) aNil)) ((wipeE ρ [3]).set 3 (some (.d (.int c)))) [] = .ok (.mu 0) [m] := by
    simp only [nxE, eCall, aCons, aNil, eVar, hv, Res.bind_ok, List.append_nil, List.singleton_append, e]
    rfl
  simp [eLcM, lcA, iS, eVar, h2, seq_lst, lcB, lcL, gN, et, ef, mkLstM, yes]
theorem rounds (A : Ad) (ns : List Int) : ∃ m, Dc m ∧ f_l_rounds A [.d (.lstK (ns.map .int)), .d (.int 1)] [] = .ok (.mu 1) [m, .lst [.mu 0]] := by
  have es : ∃ (c : Int) (l : List D), cutL ((ns.map D.int).map Vl.d) none (some 1) = l.map Vl.d ∧ ((l = [] ∧ c = 0) ∨ l = [.int c]) := by
    cases ns with
    | nil => exact ⟨0, [], rfl, .inl ⟨rfl, rfl⟩⟩
    | cons n r =>
      refine ⟨n, [.int n], ?_, .inr rfl⟩
      have : HT.sIx (r.length + 1) (r.length + 1) (some (1 : Int)) = 1 := by
        simp only [HT.sIx]
        rw [if_neg (by decide)]
        simp
      simp [cutL, HT.sIx_none, this]
  obtain ⟨c, l, e1, hl⟩ := es
  have hll : l.length ≤ 1000000 := by rcases hl with ⟨rfl, _⟩ | rfl <;> simp
  have sl : slD [] (.d (.lstK (ns.map D.int))) none (some 1) = .ok (.d (.lst l)) [] := by
    simp only [slD, lstSq, e1]
    exact mkLst_map l [] hll
  obtain ⟨m, hm, e⟩ := one_round A c [some (.d (.lstK (ns.map D.int))), some (.d (.int 1)), some (.d (.lst [.int c])), none] rfl rfl
  refine ⟨m, hm, ?_⟩
  have s1 : sSet 2 (eSl (eVar 0) pNo (pSome (eVar 1))) [some (.d (.lstK (ns.map D.int))), some (.d (.int 1)), none, none] [] = .nx [some (.d (.lstK (ns.map D.int))), some (.d (.int 1)), some (.d (.lst l)), none] [] := by
    simp [sSet, eSl, eVar, pNo, pSome, intOf, sl]
  have s2 : sIf (tstV (eOp DL.eqD (eVar 2) (eLst aNil))) (sSet 2 (eLst (aCons (eC (.int 0)) aNil))) sNil [some (.d (.lstK (ns.map D.int))), some (.d (.int 1)), some (.d (.lst l)), none] [] = .nx [some (.d (.lstK (ns.map D.int))), some (.d (.int 1)), some (.d (.lst [.int c])), none] [] := by
    rcases hl with ⟨rfl, rfl⟩ | rfl
    · have q : DL.eqD [] (.d (.lst [])) (.d (.lst [])) = .ok (.d (.bl true)) [] := eqD_shaped (W := []) rfl
      simp [sIf, tstV, eOp, eVar, eLst, aNil, aCons, mkLst, dsOf, q, blOf, sSet, eC]
    · have q : DL.eqD [] (.d (.lst [.int c])) (.d (.lst [])) = .ok (.d (.bl false)) [] := by
        unfold DL.eqD
        have z1 : shapedD (.lst [.int c]) = true := rfl
        have z2 : shapedD (.lst []) = true := rfl
        simp [rdD, z1, z2]
      simp [sIf, tstV, eOp, eVar, eLst, aNil, aCons, mkLst, dsOf, q, blOf, sNil]
  unfold f_l_rounds run0 b_l_rounds
  rw [if_pos (show [Vl.d (.lstK (ns.map D.int)), Vl.d (.int 1)].length = 2 from rfl), show startE 4 [Vl.d (.lstK (ns.map D.int)), Vl.d (.int 1)] = [some (.d (.lstK (ns.map D.int))), some (.d (.int 1)), none, none] from rfl, sSeq_nx s1, sSeq_nx s2]
  simp [sRet, e]
end Toy

set_option Elab.async false
set_option linter.all false
set_option maxRecDepth 100000
set_option maxHeartbeats 4000000
namespace Toy
open PySem L2 DL
/-! ## the law -/
theorem I1.lt {A : Ad} {W : Ms} {c : Nat} {F : List Nat} {cs : CS} {n : Nat} {N : NX} (h : I1 A W c F cs n N) : ∀ i ∈ 0 :: 1 :: n :: F, i < W.length := fun i hi => by
  rcases List.mem_cons.mp hi with rfl | hi
  · obtain ⟨m, _, e⟩ := h.dz; exact (List.getElem?_eq_some_iff.mp e).1
  · rcases List.mem_cons.mp hi with rfl | hi
    · exact (List.getElem?_eq_some_iff.mp h.li).1
    · rcases List.mem_cons.mp hi with rfl | hi
      · exact (List.getElem?_eq_some_iff.mp h.nt).1
      · exact h.ch.lt i hi
theorem I1.rolled {A : Ad} {W W' : Ms} {c : Nat} {F : List Nat} {cs : CS} {n : Nat} {N : NX} (h : I1 A W c F cs n N) (r : Rolled W W') : I1 A W' c F cs n N :=
  ⟨r.dz, (r.e 1 (by decide)).trans h.li, h.ch.frame fun i hi => r.e i fun z => h.ap 0 (by simp) (z ▸ hi), (r.e n h.n0.1).trans h.nt, h.ok, h.eq, h.ap, h.n0⟩
theorem I1.grow {A : Ad} {W W' : Ms} {c : Nat} {F F' : List Nat} {cs : CS} {n : Nat} {N : NX} (h : I1 A W c F cs n N) (g : Grow W W' [] F') : I1 A W' c F cs n N := by
  obtain ⟨_, k, _⟩ := g.keeps (G := 0 :: 1 :: n :: F) (fun i _ z => nomatch z) h.lt
  obtain ⟨m, hm, e⟩ := h.dz
  exact ⟨⟨m, hm, (k 0 (by simp)).trans e⟩, (k 1 (by simp)).trans h.li, h.ch.frame fun i hi => k i (List.mem_cons_of_mem _ (List.mem_cons_of_mem _ (List.mem_cons_of_mem _ hi))), (k n (by simp)).trans h.nt, h.ok, h.eq, h.ap, h.n0⟩
section
variable (A : Ad)
noncomputable abbrev roundB : FS := (sSeq (sAsgT 2 (aCons (eMakeM A.C_Changes (f_Changes_init A) [] aNil) (aCons eDnewM aNil)) (gsCons (gN 2) (gsCons (gN 3) gsNil)))
      (sSeq (sFor (iRg1 (aCons (eCall (f_l_roll A) [] (aCons (eVar 1) (aCons (eC (.int 11)) aNil))) aNil)) (gN 4) (stepB A))
      (sSeq (sSet 7 (eLst aNil))
      (sSeq (sFor (iS (eC (.str "pq"))) (gN 8) dueB)
      (sSeq (sIf (test1 A) (sRet (eC (.bl false))) sNil)
      (sSeq (sIf (test2 A) (sRet (eC (.bl false))) sNil) (restB A)))))))
theorem b_law_eq : b_law A = sSeq (sFor (iS (eCall (f_l_rounds A) [] (aCons (eVar 0) (aCons (eC (.int 1)) aNil)))) (gN 1) (roundB A)) (sRet (eC (.bl true))) := rfl
def N19 : Ev := [none, none, none, none, none, none, none, none, none, none, none, none, none, none, none, none, none, none, none]
theorem round {m : M} (hm : Dc m) (x0 : Vl) : ∃ ρ' W', roundB A (some x0 :: some (.mu 0) :: N19) [m, .lst [.mu 0]] = .nx ρ' W' ∧ W'[1]? = some (.lst [.mu 0]) := by
  obtain ⟨F1, W1, e1, h1, g1⟩ := newCh A [m, .lst [.mu 0]] (some x0 :: some (.mu 0) :: N19)
  obtain ⟨ap1, k1, l1⟩ := g1.keeps (G := [0, 1]) (fun i _ z => nomatch z) (fun i hi => by
    simp only [List.mem_cons, List.not_mem_nil, or_false] at hi
    rcases hi with rfl | rfl <;> simp)
  have lt1 := h1.lt
  have fr : ∀ i, i < W1.length → (W1 ++ [M.dct []])[i]? = W1[i]? := fun i hi => List.getElem?_append_left hi
  have w1 : 1 < W1.length := l1 1 (by simp)
  have i2 : I1 A (W1 ++ [M.dct []]) 2 F1 (fun _ _ => none) W1.length [] := by
    refine ⟨⟨m, hm, (fr 0 (by omega)).trans (k1 0 (by simp))⟩, (fr 1 w1).trans (k1 1 (by simp)), h1.frame fun i hi => fr i (lt1 i hi), by simp [nV], ⟨by simp, fun _ h => nomatch h⟩, fun _ _ => rfl, fun i hi => ?_, by omega, by omega⟩
    simp only [List.mem_cons, List.not_mem_nil, or_false] at hi
    rcases hi with rfl | rfl | rfl
    · exact ap1 0 (by simp)
    · exact ap1 1 (by simp)
    · exact fun z => absurd (lt1 _ z) (Nat.lt_irrefl _)
  have s1 : sAsgT 2 (aCons (eMakeM A.C_Changes (f_Changes_init A) [] aNil) (aCons eDnewM aNil)) (gsCons (gN 2) (gsCons (gN 3) gsNil)) (some x0 :: some (.mu 0) :: N19) [m, .lst [.mu 0]] = .nx (some x0 :: some (.mu 0) :: some (.mu 2) :: some (.mu W1.length) :: none :: none :: none :: [none, none, none, none, none, none, none, none, none, none, none, none, none, none]) (W1 ++ [M.dct []]) := by
    generalize eMakeM A.C_Changes (f_Changes_init A) [] aNil = q at e1
    simp only [sAsgT, aCons, aNil, e1, eDnewM, Res.bind_ok, Res.bindS_ok]
    rfl
  obtain ⟨k, W3, hk, r3, e3⟩ := ev_roll A (d := 1) (ρ := some x0 :: some (.mu 0) :: some (.mu 2) :: some (.mu W1.length) :: none :: none :: none :: [none, none, none, none, none, none, none, none, none, none, none, none, none, none]) rfl i2.dz (k := 11) (by decide) (by decide)
  have i3 := i2.rolled r3
  have ea : aCons (eCall (f_l_roll A) [] (aCons (eVar 1) (aCons (eC (.int 11)) aNil))) aNil (some x0 :: some (.mu 0) :: some (.mu 2) :: some (.mu W1.length) :: none :: none :: none :: [none, none, none, none, none, none, none, none, none, none, none, none, none, none]) (W1 ++ [M.dct []]) = .ok [.d (.int (k : Int))] W3 := by
    generalize eCall (f_l_roll A) [] (aCons (eVar 1) (aCons (eC (.int 11)) aNil)) = q at e3
    simp only [aCons, e3, aNil, Res.bind_ok]
  have hi := rg1' ea (by omega)
  obtain ⟨o4, o5, o6, F4, W4, cs, N, e4, i4, l4⟩ := steps A (x0 := x0) (T := [none, none, none, none, none, none, none, none, none, none, none, none, none, none]) (List.range' 0 k) W3 F1 _ [] none none none i3 (by simp; omega)
  have hN : N.length ≤ 20 := by simp at l4; omega
  have s2 : sFor (iRg1 (aCons (eCall (f_l_roll A) [] (aCons (eVar 1) (aCons (eC (.int 11)) aNil))) aNil)) (gN 4) (stepB A) (some x0 :: some (.mu 0) :: some (.mu 2) :: some (.mu W1.length) :: none :: none :: none :: [none, none, none, none, none, none, none, none, none, none, none, none, none, none]) (W1 ++ [M.dct []]) = .nx (some x0 :: some (.mu 0) :: some (.mu 2) :: some (.mu W1.length) :: o4 :: o5 :: o6 :: [none, none, none, none, none, none, none, none, none, none, none, none, none, none]) W4 := by
    simp only [sFor, hi, Res.bindS_ok]
    exact e4
  have s3 : sSet 7 (eLst aNil) (some x0 :: some (.mu 0) :: some (.mu 2) :: some (.mu W1.length) :: o4 :: o5 :: o6 :: [none, none, none, none, none, none, none, none, none, none, none, none, none, none]) W4 = .nx (some x0 :: some (.mu 0) :: some (.mu 2) :: some (.mu W1.length) :: o4 :: o5 :: o6 :: some (.d (.lst [])) :: none :: none :: U11) W4 := rfl
  obtain ⟨o6', o8', o9', e5⟩ := due_loop i4.nt i4.ok (by omega) i4.eq (o0 := some x0) (o1 := some (.mu 0)) (o2 := some (.mu 2)) (o4 := o4) (o5 := o5) (["p", "q"] : List Str) [] o6 none none (fun m hm => by simpa [okN] using hm) (by simp)
  have hpq : iS (eC (.str "pq")) (some x0 :: some (.mu 0) :: some (.mu 2) :: some (.mu W1.length) :: o4 :: o5 :: o6 :: some (.d (.lst [])) :: none :: none :: U11) W4 = .ok ⟨(["p", "q"] : List Str).map fun m => Vl.d (.str m), yes⟩ W4 := by
    have hp : (⟨#[112]⟩ : Str) = "p" := by decide +kernel
    have hq : (⟨#[113]⟩ : Str) = "q" := by decide +kernel
    have hc : ("pq" : Str).cps.toList = [112, 113] := rfl
    simp only [iS, eC, Res.bind_ok, seqItm, hc, List.map_cons, List.map_nil, hp, hq]
  have s4 : sFor (iS (eC (.str "pq"))) (gN 8) dueB (some x0 :: some (.mu 0) :: some (.mu 2) :: some (.mu W1.length) :: o4 :: o5 :: o6 :: some (.d (.lst [])) :: none :: none :: U11) W4 = .nx (E21 x0 2 W1.length o4 o5 o6' (some (.d (.lst ((nmOf cs).map (gR cs))))) o8' o9' none none none none none none none none none) W4 := by
    simp only [sFor, hpq, Res.bindS_ok]
    exact e5
  have s5 := sIf_no (a := sRet (eC (.bl false))) (t1_no A i4.ch (ρ := E21 x0 2 W1.length o4 o5 o6' (some (.d (.lst ((nmOf cs).map (gR cs))))) o8' o9' none none none none none none none none none) rfl rfl rfl)
  obtain ⟨F5, W5, e6, g6⟩ := t2_no A i4.ch (ρ := E21 x0 2 W1.length o4 o5 o6' (some (.d (.lst ((nmOf cs).map (gR cs))))) o8' o9' none none none none none none none none none) rfl rfl rfl
  have s6 := sIf_no (a := sRet (eC (.bl false))) e6
  obtain ⟨ρ', W', e7, li⟩ := rest A (x0 := x0) (i4.grow g6) hN o4 o5 o6' (some (.d (.lst ((nmOf cs).map (gR cs))))) o8' o9'
  refine ⟨ρ', W', ?_, li⟩
  refine (sSeq_nx s1).trans ?_
  refine (sSeq_nx s2).trans ?_
  refine (sSeq_nx s3).trans ?_
  refine (sSeq_nx s4).trans ?_
  refine (sSeq_nx s5).trans ?_
  refine (sSeq_nx s6).trans ?_
  exact e7
theorem law_true (ns : List Int) (hl : ns.length ≤ 63) (hb : ∀ z ∈ ns, Builtin.Int.intBits z ≤ 1048576) : ∃ W', f_law A [.d (.lstK (ns.map D.int))] [] = .ok (.d (.bl true)) W' := by
  obtain ⟨m, hm, e⟩ := rounds A ns
  obtain ⟨ρ', W', e2, li⟩ := round A hm (.d (.lstK (ns.map D.int)))
  refine ⟨W', ?_⟩
  have hi : iS (eCall (f_l_rounds A) [] (aCons (eVar 0) (aCons (eC (.int 1)) aNil))) (some (.d (.lstK (ns.map D.int))) :: none :: N19) [] = .ok ⟨[.mu 0], fun W => W[1]? = some (.lst [.mu 0])⟩ [m, .lst [.mu 0]] := by
    simp only [iS, eCall, aCons, aNil, eVar, eC, List.getElem?_cons_zero, Res.bind_ok, List.append_nil, e, seqItm, List.getElem?_cons_succ]
  have hs : sFor (iS (eCall (f_l_rounds A) [] (aCons (eVar 0) (aCons (eC (.int 1)) aNil)))) (gN 1) (roundB A) (some (.d (.lstK (ns.map D.int))) :: none :: N19) [] = .nx ρ' W' := by
    unfold sFor
    rw [hi]
    have eg : gN 1 (.mu 0) (some (.d (.lstK (ns.map D.int))) :: none :: N19) = some (some (.d (.lstK (ns.map D.int))) :: some (.mu 0) :: N19) := rfl
    simp only [Res.bindS_ok, forL, List.getElem?_cons_succ, List.getElem?_cons_zero, if_true, eg, e2, li]
  refine run0_rt (nn := 21) rfl ?_
  show b_law A (some (.d (.lstK (ns.map D.int))) :: none :: N19) [] = _
  rw [b_law_eq, sSeq_nx hs]
  rfl
end
end Toy

set_option Elab.async false
set_option linter.all false
set_option maxRecDepth 100000
set_option maxHeartbeats 4000000
namespace Toy
open PySem L2 DL
/-! ### the end
-/
theorem all_mk {l : PySem.W.OpenLaw} {w : World} {K : PySem.W.Frag} {h : Heap} {mg : Str → Option Value} {fa : Addr} (X : K.In h) (G : h.Ns mainGlobals mg) (hfa : mg "law" = some (.ref fa)) (OT : ∀ fb, mg "law" = some (.ref fb) → LamX.OwnTab K fb h)
    {C_Relation : Addr}
    {C_Store : Addr}
    {C_Changes : Addr}
    {f_is_number : Addr} {oc_is_number kV_is_number dc_is_number pm_is_number cd_is_number ct_is_number : Value} {od_is_number an_is_number : Option Addr} {sl_is_number : Array (Option Value)}
    {f_value_key : Addr} {oc_value_key kV_value_key dc_value_key pm_value_key cd_value_key ct_value_key : Value} {od_value_key an_value_key : Option Addr} {sl_value_key : Array (Option Value)}
    {f_row_key : Addr} {oc_row_key kV_row_key dc_row_key pm_row_key cd_row_key ct_row_key : Value} {od_row_key an_row_key : Option Addr} {sl_row_key : Array (Option Value)}
    {f_in_order : Addr} {oc_in_order kV_in_order dc_in_order pm_in_order cd_in_order ct_in_order : Value} {od_in_order an_in_order : Option Addr} {sl_in_order : Array (Option Value)}
    {f_Relation_init : Addr} {oc_Relation_init kV_Relation_init dc_Relation_init pm_Relation_init cd_Relation_init ct_Relation_init dV_Relation_init : Value} {od_Relation_init an_Relation_init : Option Addr} {sl_Relation_init : Array (Option Value)}
    {e_Relation_init : Addr} {eo_Relation_init : Option Addr} {en_Relation_init : Nat} {es_Relation_init : Array (Option Value)}
    {f_Relation_has : Addr} {oc_Relation_has kV_Relation_has dc_Relation_has pm_Relation_has cd_Relation_has ct_Relation_has : Value} {od_Relation_has an_Relation_has : Option Addr} {sl_Relation_has : Array (Option Value)}
    {f_Relation_size : Addr} {oc_Relation_size kV_Relation_size dc_Relation_size pm_Relation_size cd_Relation_size ct_Relation_size : Value} {od_Relation_size an_Relation_size : Option Addr} {sl_Relation_size : Array (Option Value)}
    {f_Relation_add : Addr} {oc_Relation_add kV_Relation_add dc_Relation_add pm_Relation_add cd_Relation_add ct_Relation_add : Value} {od_Relation_add an_Relation_add : Option Addr} {sl_Relation_add : Array (Option Value)}
    {f_Relation_drop : Addr} {oc_Relation_drop kV_Relation_drop dc_Relation_drop pm_Relation_drop cd_Relation_drop ct_Relation_drop : Value} {od_Relation_drop an_Relation_drop : Option Addr} {sl_Relation_drop : Array (Option Value)}
    {f_Relation_rows : Addr} {oc_Relation_rows kV_Relation_rows dc_Relation_rows pm_Relation_rows cd_Relation_rows ct_Relation_rows : Value} {od_Relation_rows an_Relation_rows : Option Addr} {sl_Relation_rows : Array (Option Value)}
    {f_Store_init : Addr} {oc_Store_init kV_Store_init dc_Store_init pm_Store_init cd_Store_init ct_Store_init : Value} {od_Store_init an_Store_init : Option Addr} {sl_Store_init : Array (Option Value)}
    {f_Store_of : Addr} {oc_Store_of kV_Store_of dc_Store_of pm_Store_of cd_Store_of ct_Store_of : Value} {od_Store_of an_Store_of : Option Addr} {sl_Store_of : Array (Option Value)}
    {f_Store_names : Addr} {oc_Store_names kV_Store_names dc_Store_names pm_Store_names cd_Store_names ct_Store_names : Value} {od_Store_names an_Store_names : Option Addr} {sl_Store_names : Array (Option Value)}
    {f_Store_has : Addr} {oc_Store_has kV_Store_has dc_Store_has pm_Store_has cd_Store_has ct_Store_has : Value} {od_Store_has an_Store_has : Option Addr} {sl_Store_has : Array (Option Value)}
    {f_Store_size : Addr} {oc_Store_size kV_Store_size dc_Store_size pm_Store_size cd_Store_size ct_Store_size : Value} {od_Store_size an_Store_size : Option Addr} {sl_Store_size : Array (Option Value)}
    {f_Store_shown : Addr} {oc_Store_shown kV_Store_shown dc_Store_shown pm_Store_shown cd_Store_shown ct_Store_shown : Value} {od_Store_shown an_Store_shown : Option Addr} {sl_Store_shown : Array (Option Value)}
    {f_Changes_init : Addr} {oc_Changes_init kV_Changes_init dc_Changes_init pm_Changes_init cd_Changes_init ct_Changes_init : Value} {od_Changes_init an_Changes_init : Option Addr} {sl_Changes_init : Array (Option Value)}
    {f_Changes_note : Addr} {oc_Changes_note kV_Changes_note dc_Changes_note pm_Changes_note cd_Changes_note ct_Changes_note : Value} {od_Changes_note an_Changes_note : Option Addr} {sl_Changes_note : Array (Option Value)}
    {f_Changes_came : Addr} {oc_Changes_came kV_Changes_came dc_Changes_came pm_Changes_came cd_Changes_came ct_Changes_came : Value} {od_Changes_came an_Changes_came : Option Addr} {sl_Changes_came : Array (Option Value)}
    {f_Changes_went : Addr} {oc_Changes_went kV_Changes_went dc_Changes_went pm_Changes_went cd_Changes_went ct_Changes_went : Value} {od_Changes_went an_Changes_went : Option Addr} {sl_Changes_went : Array (Option Value)}
    {f_Changes_names : Addr} {oc_Changes_names kV_Changes_names dc_Changes_names pm_Changes_names cd_Changes_names ct_Changes_names : Value} {od_Changes_names an_Changes_names : Option Addr} {sl_Changes_names : Array (Option Value)}
    {f_Changes_is_bare : Addr} {oc_Changes_is_bare kV_Changes_is_bare dc_Changes_is_bare pm_Changes_is_bare cd_Changes_is_bare ct_Changes_is_bare : Value} {od_Changes_is_bare an_Changes_is_bare : Option Addr} {sl_Changes_is_bare : Array (Option Value)}
    {f_Changes_turned : Addr} {oc_Changes_turned kV_Changes_turned dc_Changes_turned pm_Changes_turned cd_Changes_turned ct_Changes_turned : Value} {od_Changes_turned an_Changes_turned : Option Addr} {sl_Changes_turned : Array (Option Value)}
    {f_Changes_shown : Addr} {oc_Changes_shown kV_Changes_shown dc_Changes_shown pm_Changes_shown cd_Changes_shown ct_Changes_shown : Value} {od_Changes_shown an_Changes_shown : Option Addr} {sl_Changes_shown : Array (Option Value)}
    {f_put_under : Addr} {oc_put_under kV_put_under dc_put_under pm_put_under cd_put_under ct_put_under : Value} {od_put_under an_put_under : Option Addr} {sl_put_under : Array (Option Value)}
    {f_take_from : Addr} {oc_take_from kV_take_from dc_take_from pm_take_from cd_take_from ct_take_from : Value} {od_take_from an_take_from : Option Addr} {sl_take_from : Array (Option Value)}
    {f_picked : Addr} {oc_picked kV_picked dc_picked pm_picked cd_picked ct_picked : Value} {od_picked an_picked : Option Addr} {sl_picked : Array (Option Value)}
    {f_store_of : Addr} {oc_store_of kV_store_of dc_store_of pm_store_of cd_store_of ct_store_of : Value} {od_store_of an_store_of : Option Addr} {sl_store_of : Array (Option Value)}
    {f_apart : Addr} {oc_apart kV_apart dc_apart pm_apart cd_apart ct_apart : Value} {od_apart an_apart : Option Addr} {sl_apart : Array (Option Value)}
    {f_laid_on : Addr} {oc_laid_on kV_laid_on dc_laid_on pm_laid_on cd_laid_on ct_laid_on : Value} {od_laid_on an_laid_on : Option Addr} {sl_laid_on : Array (Option Value)}
    {f_l_dice : Addr} {oc_l_dice kV_l_dice dc_l_dice pm_l_dice cd_l_dice ct_l_dice : Value} {od_l_dice an_l_dice : Option Addr} {sl_l_dice : Array (Option Value)}
    {f_l_roll : Addr} {oc_l_roll kV_l_roll dc_l_roll pm_l_roll cd_l_roll ct_l_roll : Value} {od_l_roll an_l_roll : Option Addr} {sl_l_roll : Array (Option Value)}
    {f_l_rounds : Addr} {oc_l_rounds kV_l_rounds dc_l_rounds pm_l_rounds cd_l_rounds ct_l_rounds : Value} {od_l_rounds an_l_rounds : Option Addr} {sl_l_rounds : Array (Option Value)}
    {f_l_told : Addr} {oc_l_told kV_l_told dc_l_told pm_l_told cd_l_told ct_l_told : Value} {od_l_told an_l_told : Option Addr} {sl_l_told : Array (Option Value)}
    {f_l_facts : Addr} {oc_l_facts kV_l_facts dc_l_facts pm_l_facts cd_l_facts ct_l_facts : Value} {od_l_facts an_l_facts : Option Addr} {sl_l_facts : Array (Option Value)}
    {f_law : Addr} {oc_law kV_law dc_law pm_law ct_law : Value} {od_law an_law : Option Addr} {sl_law : Array (Option Value)}
    {C_BadSign : Addr}
    {C_BadRule : Addr}
    {C_BadKind : Addr}
    {C_BadLayer : Addr}
    {C_NoSuch : Addr}
    {C_BadDeed : Addr}
    {C_BadGround : Addr}
    {C_BadStore : Addr}
    {C_Broken : Addr}
    {C_BadSize : Addr}
    {c_L P_L : Addr}
    (aC_Relation : PySem.W.nsIn K mainGlobals "Relation" = some (some (.ref C_Relation)))
    (pg_Relation : PySem.W.plainGet K C_Relation Str.empty = true)
    (hd_Relation : PySem.W.hasDictIn K C_Relation = true)
    (po_Relation : PySem.W.plainOver K C_Relation = true)
    (sa_Relation : PySem.W.findIn K (.ref C_Relation) "__setattr__" = some (some (.builtin "object.__setattr__")))
    (mk_Relation : PySem.W.makesIn K C_Relation = true)
    (kc_Relation : PySem.W.keepIn K (.ref C_Relation) = true)
    (n_Relation_held : PySem.W.findIn K (.ref C_Relation) "held" = some none)
    (n_Relation_tables : PySem.W.findIn K (.ref C_Relation) "tables" = some none)
    (aC_Store : PySem.W.nsIn K mainGlobals "Store" = some (some (.ref C_Store)))
    (pg_Store : PySem.W.plainGet K C_Store Str.empty = true)
    (hd_Store : PySem.W.hasDictIn K C_Store = true)
    (po_Store : PySem.W.plainOver K C_Store = true)
    (sa_Store : PySem.W.findIn K (.ref C_Store) "__setattr__" = some (some (.builtin "object.__setattr__")))
    (mk_Store : PySem.W.makesIn K C_Store = true)
    (kc_Store : PySem.W.keepIn K (.ref C_Store) = true)
    (n_Store_relations : PySem.W.findIn K (.ref C_Store) "relations" = some none)
    (aC_Changes : PySem.W.nsIn K mainGlobals "Changes" = some (some (.ref C_Changes)))
    (pg_Changes : PySem.W.plainGet K C_Changes Str.empty = true)
    (hd_Changes : PySem.W.hasDictIn K C_Changes = true)
    (po_Changes : PySem.W.plainOver K C_Changes = true)
    (sa_Changes : PySem.W.findIn K (.ref C_Changes) "__setattr__" = some (some (.builtin "object.__setattr__")))
    (mk_Changes : PySem.W.makesIn K C_Changes = true)
    (kc_Changes : PySem.W.keepIn K (.ref C_Changes) = true)
    (n_Changes_added : PySem.W.findIn K (.ref C_Changes) "added" = some none)
    (n_Changes_dropped : PySem.W.findIn K (.ref C_Changes) "dropped" = some none)
    (a_is_number : PySem.W.nsIn K mainGlobals "is_number" = some (some (.ref f_is_number)))
    (l_is_number : K.lookup f_is_number = some ⟨oc_is_number, od_is_number, .func (PySem.W.fnOf "is_number" "is_number" (defArgs s_is_number) (defBody s_is_number) (defScope s_is_number) .none kV_is_number dc_is_number pm_is_number an_is_number cd_is_number ct_is_number), sl_is_number⟩)
    (c_is_number : PySem.W.codeIn K cd_is_number "is_number" = true)
    (k_is_number : PySem.W.keepIn K (.ref f_is_number) = true)
    (a_value_key : PySem.W.nsIn K mainGlobals "value_key" = some (some (.ref f_value_key)))
    (l_value_key : K.lookup f_value_key = some ⟨oc_value_key, od_value_key, .func (PySem.W.fnOf "value_key" "value_key" (defArgs s_value_key) (defBody s_value_key) (defScope s_value_key) .none kV_value_key dc_value_key pm_value_key an_value_key cd_value_key ct_value_key), sl_value_key⟩)
    (c_value_key : PySem.W.codeIn K cd_value_key "value_key" = true)
    (k_value_key : PySem.W.keepIn K (.ref f_value_key) = true)
    (a_row_key : PySem.W.nsIn K mainGlobals "row_key" = some (some (.ref f_row_key)))
    (l_row_key : K.lookup f_row_key = some ⟨oc_row_key, od_row_key, .func (PySem.W.fnOf "row_key" "row_key" (defArgs s_row_key) (defBody s_row_key) (defScope s_row_key) .none kV_row_key dc_row_key pm_row_key an_row_key cd_row_key ct_row_key), sl_row_key⟩)
    (c_row_key : PySem.W.codeIn K cd_row_key "row_key" = true)
    (k_row_key : PySem.W.keepIn K (.ref f_row_key) = true)
    (a_in_order : PySem.W.nsIn K mainGlobals "in_order" = some (some (.ref f_in_order)))
    (l_in_order : K.lookup f_in_order = some ⟨oc_in_order, od_in_order, .func (PySem.W.fnOf "in_order" "in_order" (defArgs s_in_order) (defBody s_in_order) (defScope s_in_order) .none kV_in_order dc_in_order pm_in_order an_in_order cd_in_order ct_in_order), sl_in_order⟩)
    (c_in_order : PySem.W.codeIn K cd_in_order "in_order" = true)
    (k_in_order : PySem.W.keepIn K (.ref f_in_order) = true)
    (a_Relation_init : PySem.W.findIn K (.ref C_Relation) "__init__" = some (some (.ref f_Relation_init)))
    (i_Relation_init : PySem.W.isFn K (.ref f_Relation_init) = true)
    (l_Relation_init : K.lookup f_Relation_init = some ⟨oc_Relation_init, od_Relation_init, .func (PySem.W.fnOf "__init__" "Relation.__init__" (defArgs s_Relation_init) (defBody s_Relation_init) (defScope s_Relation_init) dV_Relation_init kV_Relation_init dc_Relation_init pm_Relation_init an_Relation_init cd_Relation_init ct_Relation_init), sl_Relation_init⟩)
    (v_Relation_init : DflV K dV_Relation_init [(.ref e_Relation_init)])
    (le_Relation_init : K.lookup e_Relation_init = some ⟨.type "tuple", eo_Relation_init, .seq #[] en_Relation_init, es_Relation_init⟩)
    (c_Relation_init : PySem.W.codeIn K cd_Relation_init "Relation.__init__" = true)
    (k_Relation_init : PySem.W.keepIn K (.ref f_Relation_init) = true)
    (a_Relation_has : PySem.W.findIn K (.ref C_Relation) "has" = some (some (.ref f_Relation_has)))
    (i_Relation_has : PySem.W.isFn K (.ref f_Relation_has) = true)
    (l_Relation_has : K.lookup f_Relation_has = some ⟨oc_Relation_has, od_Relation_has, .func (PySem.W.fnOf "has" "Relation.has" (defArgs s_Relation_has) (defBody s_Relation_has) (defScope s_Relation_has) .none kV_Relation_has dc_Relation_has pm_Relation_has an_Relation_has cd_Relation_has ct_Relation_has), sl_Relation_has⟩)
    (c_Relation_has : PySem.W.codeIn K cd_Relation_has "Relation.has" = true)
    (k_Relation_has : PySem.W.keepIn K (.ref f_Relation_has) = true)
    (a_Relation_size : PySem.W.findIn K (.ref C_Relation) "size" = some (some (.ref f_Relation_size)))
    (i_Relation_size : PySem.W.isFn K (.ref f_Relation_size) = true)
    (l_Relation_size : K.lookup f_Relation_size = some ⟨oc_Relation_size, od_Relation_size, .func (PySem.W.fnOf "size" "Relation.size" (defArgs s_Relation_size) (defBody s_Relation_size) (defScope s_Relation_size) .none kV_Relation_size dc_Relation_size pm_Relation_size an_Relation_size cd_Relation_size ct_Relation_size), sl_Relation_size⟩)
    (c_Relation_size : PySem.W.codeIn K cd_Relation_size "Relation.size" = true)
    (k_Relation_size : PySem.W.keepIn K (.ref f_Relation_size) = true)
    (a_Relation_add : PySem.W.findIn K (.ref C_Relation) "add" = some (some (.ref f_Relation_add)))
    (i_Relation_add : PySem.W.isFn K (.ref f_Relation_add) = true)
    (l_Relation_add : K.lookup f_Relation_add = some ⟨oc_Relation_add, od_Relation_add, .func (PySem.W.fnOf "add" "Relation.add" (defArgs s_Relation_add) (defBody s_Relation_add) (defScope s_Relation_add) .none kV_Relation_add dc_Relation_add pm_Relation_add an_Relation_add cd_Relation_add ct_Relation_add), sl_Relation_add⟩)
    (c_Relation_add : PySem.W.codeIn K cd_Relation_add "Relation.add" = true)
    (k_Relation_add : PySem.W.keepIn K (.ref f_Relation_add) = true)
    (a_Relation_drop : PySem.W.findIn K (.ref C_Relation) "drop" = some (some (.ref f_Relation_drop)))
    (i_Relation_drop : PySem.W.isFn K (.ref f_Relation_drop) = true)
    (l_Relation_drop : K.lookup f_Relation_drop = some ⟨oc_Relation_drop, od_Relation_drop, .func (PySem.W.fnOf "drop" "Relation.drop" (defArgs s_Relation_drop) (defBody s_Relation_drop) (defScope s_Relation_drop) .none kV_Relation_drop dc_Relation_drop pm_Relation_drop an_Relation_drop cd_Relation_drop ct_Relation_drop), sl_Relation_drop⟩)
    (c_Relation_drop : PySem.W.codeIn K cd_Relation_drop "Relation.drop" = true)
    (k_Relation_drop : PySem.W.keepIn K (.ref f_Relation_drop) = true)
    (a_Relation_rows : PySem.W.findIn K (.ref C_Relation) "rows" = some (some (.ref f_Relation_rows)))
    (i_Relation_rows : PySem.W.isFn K (.ref f_Relation_rows) = true)
    (l_Relation_rows : K.lookup f_Relation_rows = some ⟨oc_Relation_rows, od_Relation_rows, .func (PySem.W.fnOf "rows" "Relation.rows" (defArgs s_Relation_rows) (defBody s_Relation_rows) (defScope s_Relation_rows) .none kV_Relation_rows dc_Relation_rows pm_Relation_rows an_Relation_rows cd_Relation_rows ct_Relation_rows), sl_Relation_rows⟩)
    (c_Relation_rows : PySem.W.codeIn K cd_Relation_rows "Relation.rows" = true)
    (k_Relation_rows : PySem.W.keepIn K (.ref f_Relation_rows) = true)
    (a_Store_init : PySem.W.findIn K (.ref C_Store) "__init__" = some (some (.ref f_Store_init)))
    (i_Store_init : PySem.W.isFn K (.ref f_Store_init) = true)
    (l_Store_init : K.lookup f_Store_init = some ⟨oc_Store_init, od_Store_init, .func (PySem.W.fnOf "__init__" "Store.__init__" (defArgs s_Store_init) (defBody s_Store_init) (defScope s_Store_init) .none kV_Store_init dc_Store_init pm_Store_init an_Store_init cd_Store_init ct_Store_init), sl_Store_init⟩)
    (c_Store_init : PySem.W.codeIn K cd_Store_init "Store.__init__" = true)
    (k_Store_init : PySem.W.keepIn K (.ref f_Store_init) = true)
    (a_Store_of : PySem.W.findIn K (.ref C_Store) "of" = some (some (.ref f_Store_of)))
    (i_Store_of : PySem.W.isFn K (.ref f_Store_of) = true)
    (l_Store_of : K.lookup f_Store_of = some ⟨oc_Store_of, od_Store_of, .func (PySem.W.fnOf "of" "Store.of" (defArgs s_Store_of) (defBody s_Store_of) (defScope s_Store_of) .none kV_Store_of dc_Store_of pm_Store_of an_Store_of cd_Store_of ct_Store_of), sl_Store_of⟩)
    (c_Store_of : PySem.W.codeIn K cd_Store_of "Store.of" = true)
    (k_Store_of : PySem.W.keepIn K (.ref f_Store_of) = true)
    (a_Store_names : PySem.W.findIn K (.ref C_Store) "names" = some (some (.ref f_Store_names)))
    (i_Store_names : PySem.W.isFn K (.ref f_Store_names) = true)
    (l_Store_names : K.lookup f_Store_names = some ⟨oc_Store_names, od_Store_names, .func (PySem.W.fnOf "names" "Store.names" (defArgs s_Store_names) (defBody s_Store_names) (defScope s_Store_names) .none kV_Store_names dc_Store_names pm_Store_names an_Store_names cd_Store_names ct_Store_names), sl_Store_names⟩)
    (c_Store_names : PySem.W.codeIn K cd_Store_names "Store.names" = true)
    (k_Store_names : PySem.W.keepIn K (.ref f_Store_names) = true)
    (a_Store_has : PySem.W.findIn K (.ref C_Store) "has" = some (some (.ref f_Store_has)))
    (i_Store_has : PySem.W.isFn K (.ref f_Store_has) = true)
    (l_Store_has : K.lookup f_Store_has = some ⟨oc_Store_has, od_Store_has, .func (PySem.W.fnOf "has" "Store.has" (defArgs s_Store_has) (defBody s_Store_has) (defScope s_Store_has) .none kV_Store_has dc_Store_has pm_Store_has an_Store_has cd_Store_has ct_Store_has), sl_Store_has⟩)
    (c_Store_has : PySem.W.codeIn K cd_Store_has "Store.has" = true)
    (k_Store_has : PySem.W.keepIn K (.ref f_Store_has) = true)
    (a_Store_size : PySem.W.findIn K (.ref C_Store) "size" = some (some (.ref f_Store_size)))
    (i_Store_size : PySem.W.isFn K (.ref f_Store_size) = true)
    (l_Store_size : K.lookup f_Store_size = some ⟨oc_Store_size, od_Store_size, .func (PySem.W.fnOf "size" "Store.size" (defArgs s_Store_size) (defBody s_Store_size) (defScope s_Store_size) .none kV_Store_size dc_Store_size pm_Store_size an_Store_size cd_Store_size ct_Store_size), sl_Store_size⟩)
    (c_Store_size : PySem.W.codeIn K cd_Store_size "Store.size" = true)
    (k_Store_size : PySem.W.keepIn K (.ref f_Store_size) = true)
    (a_Store_shown : PySem.W.findIn K (.ref C_Store) "shown" = some (some (.ref f_Store_shown)))
    (i_Store_shown : PySem.W.isFn K (.ref f_Store_shown) = true)
    (l_Store_shown : K.lookup f_Store_shown = some ⟨oc_Store_shown, od_Store_shown, .func (PySem.W.fnOf "shown" "Store.shown" (defArgs s_Store_shown) (defBody s_Store_shown) (defScope s_Store_shown) .none kV_Store_shown dc_Store_shown pm_Store_shown an_Store_shown cd_Store_shown ct_Store_shown), sl_Store_shown⟩)
    (c_Store_shown : PySem.W.codeIn K cd_Store_shown "Store.shown" = true)
    (k_Store_shown : PySem.W.keepIn K (.ref f_Store_shown) = true)
    (a_Changes_init : PySem.W.findIn K (.ref C_Changes) "__init__" = some (some (.ref f_Changes_init)))
    (i_Changes_init : PySem.W.isFn K (.ref f_Changes_init) = true)
    (l_Changes_init : K.lookup f_Changes_init = some ⟨oc_Changes_init, od_Changes_init, .func (PySem.W.fnOf "__init__" "Changes.__init__" (defArgs s_Changes_init) (defBody s_Changes_init) (defScope s_Changes_init) .none kV_Changes_init dc_Changes_init pm_Changes_init an_Changes_init cd_Changes_init ct_Changes_init), sl_Changes_init⟩)
    (c_Changes_init : PySem.W.codeIn K cd_Changes_init "Changes.__init__" = true)
    (k_Changes_init : PySem.W.keepIn K (.ref f_Changes_init) = true)
    (a_Changes_note : PySem.W.findIn K (.ref C_Changes) "note" = some (some (.ref f_Changes_note)))
    (i_Changes_note : PySem.W.isFn K (.ref f_Changes_note) = true)
    (l_Changes_note : K.lookup f_Changes_note = some ⟨oc_Changes_note, od_Changes_note, .func (PySem.W.fnOf "note" "Changes.note" (defArgs s_Changes_note) (defBody s_Changes_note) (defScope s_Changes_note) .none kV_Changes_note dc_Changes_note pm_Changes_note an_Changes_note cd_Changes_note ct_Changes_note), sl_Changes_note⟩)
    (c_Changes_note : PySem.W.codeIn K cd_Changes_note "Changes.note" = true)
    (k_Changes_note : PySem.W.keepIn K (.ref f_Changes_note) = true)
    (a_Changes_came : PySem.W.findIn K (.ref C_Changes) "came" = some (some (.ref f_Changes_came)))
    (i_Changes_came : PySem.W.isFn K (.ref f_Changes_came) = true)
    (l_Changes_came : K.lookup f_Changes_came = some ⟨oc_Changes_came, od_Changes_came, .func (PySem.W.fnOf "came" "Changes.came" (defArgs s_Changes_came) (defBody s_Changes_came) (defScope s_Changes_came) .none kV_Changes_came dc_Changes_came pm_Changes_came an_Changes_came cd_Changes_came ct_Changes_came), sl_Changes_came⟩)
    (c_Changes_came : PySem.W.codeIn K cd_Changes_came "Changes.came" = true)
    (k_Changes_came : PySem.W.keepIn K (.ref f_Changes_came) = true)
    (a_Changes_went : PySem.W.findIn K (.ref C_Changes) "went" = some (some (.ref f_Changes_went)))
    (i_Changes_went : PySem.W.isFn K (.ref f_Changes_went) = true)
    (l_Changes_went : K.lookup f_Changes_went = some ⟨oc_Changes_went, od_Changes_went, .func (PySem.W.fnOf "went" "Changes.went" (defArgs s_Changes_went) (defBody s_Changes_went) (defScope s_Changes_went) .none kV_Changes_went dc_Changes_went pm_Changes_went an_Changes_went cd_Changes_went ct_Changes_went), sl_Changes_went⟩)
    (c_Changes_went : PySem.W.codeIn K cd_Changes_went "Changes.went" = true)
    (k_Changes_went : PySem.W.keepIn K (.ref f_Changes_went) = true)
    (a_Changes_names : PySem.W.findIn K (.ref C_Changes) "names" = some (some (.ref f_Changes_names)))
    (i_Changes_names : PySem.W.isFn K (.ref f_Changes_names) = true)
    (l_Changes_names : K.lookup f_Changes_names = some ⟨oc_Changes_names, od_Changes_names, .func (PySem.W.fnOf "names" "Changes.names" (defArgs s_Changes_names) (defBody s_Changes_names) (defScope s_Changes_names) .none kV_Changes_names dc_Changes_names pm_Changes_names an_Changes_names cd_Changes_names ct_Changes_names), sl_Changes_names⟩)
    (c_Changes_names : PySem.W.codeIn K cd_Changes_names "Changes.names" = true)
    (k_Changes_names : PySem.W.keepIn K (.ref f_Changes_names) = true)
    (a_Changes_is_bare : PySem.W.findIn K (.ref C_Changes) "is_bare" = some (some (.ref f_Changes_is_bare)))
    (i_Changes_is_bare : PySem.W.isFn K (.ref f_Changes_is_bare) = true)
    (l_Changes_is_bare : K.lookup f_Changes_is_bare = some ⟨oc_Changes_is_bare, od_Changes_is_bare, .func (PySem.W.fnOf "is_bare" "Changes.is_bare" (defArgs s_Changes_is_bare) (defBody s_Changes_is_bare) (defScope s_Changes_is_bare) .none kV_Changes_is_bare dc_Changes_is_bare pm_Changes_is_bare an_Changes_is_bare cd_Changes_is_bare ct_Changes_is_bare), sl_Changes_is_bare⟩)
    (c_Changes_is_bare : PySem.W.codeIn K cd_Changes_is_bare "Changes.is_bare" = true)
    (k_Changes_is_bare : PySem.W.keepIn K (.ref f_Changes_is_bare) = true)
    (a_Changes_turned : PySem.W.findIn K (.ref C_Changes) "turned" = some (some (.ref f_Changes_turned)))
    (i_Changes_turned : PySem.W.isFn K (.ref f_Changes_turned) = true)
    (l_Changes_turned : K.lookup f_Changes_turned = some ⟨oc_Changes_turned, od_Changes_turned, .func (PySem.W.fnOf "turned" "Changes.turned" (defArgs s_Changes_turned) (defBody s_Changes_turned) (defScope s_Changes_turned) .none kV_Changes_turned dc_Changes_turned pm_Changes_turned an_Changes_turned cd_Changes_turned ct_Changes_turned), sl_Changes_turned⟩)
    (c_Changes_turned : PySem.W.codeIn K cd_Changes_turned "Changes.turned" = true)
    (k_Changes_turned : PySem.W.keepIn K (.ref f_Changes_turned) = true)
    (a_Changes_shown : PySem.W.findIn K (.ref C_Changes) "shown" = some (some (.ref f_Changes_shown)))
    (i_Changes_shown : PySem.W.isFn K (.ref f_Changes_shown) = true)
    (l_Changes_shown : K.lookup f_Changes_shown = some ⟨oc_Changes_shown, od_Changes_shown, .func (PySem.W.fnOf "shown" "Changes.shown" (defArgs s_Changes_shown) (defBody s_Changes_shown) (defScope s_Changes_shown) .none kV_Changes_shown dc_Changes_shown pm_Changes_shown an_Changes_shown cd_Changes_shown ct_Changes_shown), sl_Changes_shown⟩)
    (c_Changes_shown : PySem.W.codeIn K cd_Changes_shown "Changes.shown" = true)
    (k_Changes_shown : PySem.W.keepIn K (.ref f_Changes_shown) = true)
    (a_put_under : PySem.W.nsIn K mainGlobals "put_under" = some (some (.ref f_put_under)))
    (l_put_under : K.lookup f_put_under = some ⟨oc_put_under, od_put_under, .func (PySem.W.fnOf "put_under" "put_under" (defArgs s_put_under) (defBody s_put_under) (defScope s_put_under) .none kV_put_under dc_put_under pm_put_under an_put_under cd_put_under ct_put_under), sl_put_under⟩)
    (c_put_under : PySem.W.codeIn K cd_put_under "put_under" = true)
    (k_put_under : PySem.W.keepIn K (.ref f_put_under) = true)
    (a_take_from : PySem.W.nsIn K mainGlobals "take_from" = some (some (.ref f_take_from)))
    (l_take_from : K.lookup f_take_from = some ⟨oc_take_from, od_take_from, .func (PySem.W.fnOf "take_from" "take_from" (defArgs s_take_from) (defBody s_take_from) (defScope s_take_from) .none kV_take_from dc_take_from pm_take_from an_take_from cd_take_from ct_take_from), sl_take_from⟩)
    (c_take_from : PySem.W.codeIn K cd_take_from "take_from" = true)
    (k_take_from : PySem.W.keepIn K (.ref f_take_from) = true)
    (a_picked : PySem.W.nsIn K mainGlobals "picked" = some (some (.ref f_picked)))
    (l_picked : K.lookup f_picked = some ⟨oc_picked, od_picked, .func (PySem.W.fnOf "picked" "picked" (defArgs s_picked) (defBody s_picked) (defScope s_picked) .none kV_picked dc_picked pm_picked an_picked cd_picked ct_picked), sl_picked⟩)
    (c_picked : PySem.W.codeIn K cd_picked "picked" = true)
    (k_picked : PySem.W.keepIn K (.ref f_picked) = true)
    (a_store_of : PySem.W.nsIn K mainGlobals "store_of" = some (some (.ref f_store_of)))
    (l_store_of : K.lookup f_store_of = some ⟨oc_store_of, od_store_of, .func (PySem.W.fnOf "store_of" "store_of" (defArgs s_store_of) (defBody s_store_of) (defScope s_store_of) .none kV_store_of dc_store_of pm_store_of an_store_of cd_store_of ct_store_of), sl_store_of⟩)
    (c_store_of : PySem.W.codeIn K cd_store_of "store_of" = true)
    (k_store_of : PySem.W.keepIn K (.ref f_store_of) = true)
    (a_apart : PySem.W.nsIn K mainGlobals "apart" = some (some (.ref f_apart)))
    (l_apart : K.lookup f_apart = some ⟨oc_apart, od_apart, .func (PySem.W.fnOf "apart" "apart" (defArgs s_apart) (defBody s_apart) (defScope s_apart) .none kV_apart dc_apart pm_apart an_apart cd_apart ct_apart), sl_apart⟩)
    (c_apart : PySem.W.codeIn K cd_apart "apart" = true)
    (k_apart : PySem.W.keepIn K (.ref f_apart) = true)
    (a_laid_on : PySem.W.nsIn K mainGlobals "laid_on" = some (some (.ref f_laid_on)))
    (l_laid_on : K.lookup f_laid_on = some ⟨oc_laid_on, od_laid_on, .func (PySem.W.fnOf "laid_on" "laid_on" (defArgs s_laid_on) (defBody s_laid_on) (defScope s_laid_on) .none kV_laid_on dc_laid_on pm_laid_on an_laid_on cd_laid_on ct_laid_on), sl_laid_on⟩)
    (c_laid_on : PySem.W.codeIn K cd_laid_on "laid_on" = true)
    (k_laid_on : PySem.W.keepIn K (.ref f_laid_on) = true)
    (a_l_dice : PySem.W.nsIn K mainGlobals "_law_dice" = some (some (.ref f_l_dice)))
    (l_l_dice : K.lookup f_l_dice = some ⟨oc_l_dice, od_l_dice, .func (PySem.W.fnOf "_law_dice" "_law_dice" (defArgs s_l_dice) (defBody s_l_dice) (defScope s_l_dice) .none kV_l_dice dc_l_dice pm_l_dice an_l_dice cd_l_dice ct_l_dice), sl_l_dice⟩)
    (c_l_dice : PySem.W.codeIn K cd_l_dice "_law_dice" = true)
    (k_l_dice : PySem.W.keepIn K (.ref f_l_dice) = true)
    (a_l_roll : PySem.W.nsIn K mainGlobals "_law_roll" = some (some (.ref f_l_roll)))
    (l_l_roll : K.lookup f_l_roll = some ⟨oc_l_roll, od_l_roll, .func (PySem.W.fnOf "_law_roll" "_law_roll" (defArgs s_l_roll) (defBody s_l_roll) (defScope s_l_roll) .none kV_l_roll dc_l_roll pm_l_roll an_l_roll cd_l_roll ct_l_roll), sl_l_roll⟩)
    (c_l_roll : PySem.W.codeIn K cd_l_roll "_law_roll" = true)
    (k_l_roll : PySem.W.keepIn K (.ref f_l_roll) = true)
    (a_l_rounds : PySem.W.nsIn K mainGlobals "_law_rounds" = some (some (.ref f_l_rounds)))
    (l_l_rounds : K.lookup f_l_rounds = some ⟨oc_l_rounds, od_l_rounds, .func (PySem.W.fnOf "_law_rounds" "_law_rounds" (defArgs s_l_rounds) (defBody s_l_rounds) (defScope s_l_rounds) .none kV_l_rounds dc_l_rounds pm_l_rounds an_l_rounds cd_l_rounds ct_l_rounds), sl_l_rounds⟩)
    (c_l_rounds : PySem.W.codeIn K cd_l_rounds "_law_rounds" = true)
    (k_l_rounds : PySem.W.keepIn K (.ref f_l_rounds) = true)
    (a_l_told : PySem.W.nsIn K mainGlobals "_law_told" = some (some (.ref f_l_told)))
    (l_l_told : K.lookup f_l_told = some ⟨oc_l_told, od_l_told, .func (PySem.W.fnOf "_law_told" "_law_told" (defArgs s_l_told) (defBody s_l_told) (defScope s_l_told) .none kV_l_told dc_l_told pm_l_told an_l_told cd_l_told ct_l_told), sl_l_told⟩)
    (c_l_told : PySem.W.codeIn K cd_l_told "_law_told" = true)
    (k_l_told : PySem.W.keepIn K (.ref f_l_told) = true)
    (a_l_facts : PySem.W.nsIn K mainGlobals "_law_facts" = some (some (.ref f_l_facts)))
    (l_l_facts : K.lookup f_l_facts = some ⟨oc_l_facts, od_l_facts, .func (PySem.W.fnOf "_law_facts" "_law_facts" (defArgs s_l_facts) (defBody s_l_facts) (defScope s_l_facts) .none kV_l_facts dc_l_facts pm_l_facts an_l_facts cd_l_facts ct_l_facts), sl_l_facts⟩)
    (c_l_facts : PySem.W.codeIn K cd_l_facts "_law_facts" = true)
    (k_l_facts : PySem.W.keepIn K (.ref f_l_facts) = true)
    (a_law : PySem.W.nsIn K mainGlobals "law" = some (some (.ref f_law)))
    (l_law : K.lookup f_law = some ⟨oc_law, od_law, .func (PySem.W.fnOf "law" "law" (defArgs s_law) (defBody s_law) (defScope s_law) .none kV_law dc_law pm_law an_law (.ref c_L) ct_law), sl_law⟩)
    (c_law : PySem.W.codeIn K (.ref c_L) "law" = true)
    (k_law : PySem.W.keepIn K (.ref f_law) = true)
    (z_abs : PySem.W.nsIn K mainGlobals "abs" = some none)
    (z_any : PySem.W.nsIn K mainGlobals "any" = some none)
    (z_int : PySem.W.nsIn K mainGlobals "int" = some none)
    (z_isinstance : PySem.W.nsIn K mainGlobals "isinstance" = some none)
    (z_len : PySem.W.nsIn K mainGlobals "len" = some none)
    (z_list : PySem.W.nsIn K mainGlobals "list" = some none)
    (z_range : PySem.W.nsIn K mainGlobals "range" = some none)
    (z_sorted : PySem.W.nsIn K mainGlobals "sorted" = some none)
    (z_sum : PySem.W.nsIn K mainGlobals "sum" = some none)
    (z_tuple : PySem.W.nsIn K mainGlobals "tuple" = some none)
    (q_BadSign : PySem.W.nsIn K mainGlobals "BadSign" = some (some (.ref C_BadSign)))
    (q_BadRule : PySem.W.nsIn K mainGlobals "BadRule" = some (some (.ref C_BadRule)))
    (q_BadKind : PySem.W.nsIn K mainGlobals "BadKind" = some (some (.ref C_BadKind)))
    (q_BadLayer : PySem.W.nsIn K mainGlobals "BadLayer" = some (some (.ref C_BadLayer)))
    (q_NoSuch : PySem.W.nsIn K mainGlobals "NoSuch" = some (some (.ref C_NoSuch)))
    (q_BadDeed : PySem.W.nsIn K mainGlobals "BadDeed" = some (some (.ref C_BadDeed)))
    (q_BadGround : PySem.W.nsIn K mainGlobals "BadGround" = some (some (.ref C_BadGround)))
    (q_BadStore : PySem.W.nsIn K mainGlobals "BadStore" = some (some (.ref C_BadStore)))
    (q_Broken : PySem.W.nsIn K mainGlobals "Broken" = some (some (.ref C_Broken)))
    (q_BadSize : PySem.W.nsIn K mainGlobals "BadSize" = some (some (.ref C_BadSize)))
    (x_NoSuch : PySem.W.excIn K C_NoSuch [.type "ValueError", .type "Exception", .type "BaseException", .type "object"] "ValueError.__new__" = true)
    (k_NoSuch : PySem.W.keepIn K (.ref C_NoSuch) = true)
    (sb_NoSuch : PySem.W.subIn K (.ref C_NoSuch) (.type "BaseException") = some true)
    (ty_NoSuch : PySem.W.typeIn K (.ref C_NoSuch) = some (.type "type"))
    (m_NoSuch_BadSign : PySem.W.exmOne K (.ref C_NoSuch) (.ref C_BadSign) = some false)
    (m_NoSuch_BadRule : PySem.W.exmOne K (.ref C_NoSuch) (.ref C_BadRule) = some false)
    (m_NoSuch_BadKind : PySem.W.exmOne K (.ref C_NoSuch) (.ref C_BadKind) = some false)
    (m_NoSuch_BadLayer : PySem.W.exmOne K (.ref C_NoSuch) (.ref C_BadLayer) = some false)
    (m_NoSuch_NoSuch : PySem.W.exmOne K (.ref C_NoSuch) (.ref C_NoSuch) = some true)
    (h_law : PySem.W.codeHdIn K c_L P_L = true)
    (n_law : K.lookup P_L = none) :
    LamX.LawAtS l w K (L2.CX l.prog w) 10 63 "script" mg fa h := by
  have ef : f_law = fa := by
    have e := hfa.symm.trans (PySem.W.mg_of X G a_law)
    injection e with e
    injection e with e
    exact e.symm
  subst ef
  let A : Ad := ⟨C_BadSign, C_BadRule, C_BadKind, C_BadLayer, C_NoSuch, C_BadDeed, C_BadGround, C_BadStore, C_Broken, C_BadSize, c_L, P_L, f_is_number, (PySem.W.fnOf "is_number" "is_number" (defArgs s_is_number) (defBody s_is_number) (defScope s_is_number) .none kV_is_number dc_is_number pm_is_number an_is_number cd_is_number ct_is_number), f_value_key, (PySem.W.fnOf "value_key" "value_key" (defArgs s_value_key) (defBody s_value_key) (defScope s_value_key) .none kV_value_key dc_value_key pm_value_key an_value_key cd_value_key ct_value_key), f_row_key, (PySem.W.fnOf "row_key" "row_key" (defArgs s_row_key) (defBody s_row_key) (defScope s_row_key) .none kV_row_key dc_row_key pm_row_key an_row_key cd_row_key ct_row_key), f_in_order, (PySem.W.fnOf "in_order" "in_order" (defArgs s_in_order) (defBody s_in_order) (defScope s_in_order) .none kV_in_order dc_in_order pm_in_order an_in_order cd_in_order ct_in_order), f_Relation_init, (PySem.W.fnOf "__init__" "Relation.__init__" (defArgs s_Relation_init) (defBody s_Relation_init) (defScope s_Relation_init) dV_Relation_init kV_Relation_init dc_Relation_init pm_Relation_init an_Relation_init cd_Relation_init ct_Relation_init), e_Relation_init, f_Relation_has, (PySem.W.fnOf "has" "Relation.has" (defArgs s_Relation_has) (defBody s_Relation_has) (defScope s_Relation_has) .none kV_Relation_has dc_Relation_has pm_Relation_has an_Relation_has cd_Relation_has ct_Relation_has), f_Relation_size, (PySem.W.fnOf "size" "Relation.size" (defArgs s_Relation_size) (defBody s_Relation_size) (defScope s_Relation_size) .none kV_Relation_size dc_Relation_size pm_Relation_size an_Relation_size cd_Relation_size ct_Relation_size), f_Relation_add, (PySem.W.fnOf "add" "Relation.add" (defArgs s_Relation_add) (defBody s_Relation_add) (defScope s_Relation_add) .none kV_Relation_add dc_Relation_add pm_Relation_add an_Relation_add cd_Relation_add ct_Relation_add), f_Relation_drop, (PySem.W.fnOf "drop" "Relation.drop" (defArgs s_Relation_drop) (defBody s_Relation_drop) (defScope s_Relation_drop) .none kV_Relation_drop dc_Relation_drop pm_Relation_drop an_Relation_drop cd_Relation_drop ct_Relation_drop), f_Relation_rows, (PySem.W.fnOf "rows" "Relation.rows" (defArgs s_Relation_rows) (defBody s_Relation_rows) (defScope s_Relation_rows) .none kV_Relation_rows dc_Relation_rows pm_Relation_rows an_Relation_rows cd_Relation_rows ct_Relation_rows), f_Store_init, (PySem.W.fnOf "__init__" "Store.__init__" (defArgs s_Store_init) (defBody s_Store_init) (defScope s_Store_init) .none kV_Store_init dc_Store_init pm_Store_init an_Store_init cd_Store_init ct_Store_init), f_Store_of, (PySem.W.fnOf "of" "Store.of" (defArgs s_Store_of) (defBody s_Store_of) (defScope s_Store_of) .none kV_Store_of dc_Store_of pm_Store_of an_Store_of cd_Store_of ct_Store_of), f_Store_names, (PySem.W.fnOf "names" "Store.names" (defArgs s_Store_names) (defBody s_Store_names) (defScope s_Store_names) .none kV_Store_names dc_Store_names pm_Store_names an_Store_names cd_Store_names ct_Store_names), f_Store_has, (PySem.W.fnOf "has" "Store.has" (defArgs s_Store_has) (defBody s_Store_has) (defScope s_Store_has) .none kV_Store_has dc_Store_has pm_Store_has an_Store_has cd_Store_has ct_Store_has), f_Store_size, (PySem.W.fnOf "size" "Store.size" (defArgs s_Store_size) (defBody s_Store_size) (defScope s_Store_size) .none kV_Store_size dc_Store_size pm_Store_size an_Store_size cd_Store_size ct_Store_size), f_Store_shown, (PySem.W.fnOf "shown" "Store.shown" (defArgs s_Store_shown) (defBody s_Store_shown) (defScope s_Store_shown) .none kV_Store_shown dc_Store_shown pm_Store_shown an_Store_shown cd_Store_shown ct_Store_shown), f_Changes_init, (PySem.W.fnOf "__init__" "Changes.__init__" (defArgs s_Changes_init) (defBody s_Changes_init) (defScope s_Changes_init) .none kV_Changes_init dc_Changes_init pm_Changes_init an_Changes_init cd_Changes_init ct_Changes_init), f_Changes_note, (PySem.W.fnOf "note" "Changes.note" (defArgs s_Changes_note) (defBody s_Changes_note) (defScope s_Changes_note) .none kV_Changes_note dc_Changes_note pm_Changes_note an_Changes_note cd_Changes_note ct_Changes_note), f_Changes_came, (PySem.W.fnOf "came" "Changes.came" (defArgs s_Changes_came) (defBody s_Changes_came) (defScope s_Changes_came) .none kV_Changes_came dc_Changes_came pm_Changes_came an_Changes_came cd_Changes_came ct_Changes_came), f_Changes_went, (PySem.W.fnOf "went" "Changes.went" (defArgs s_Changes_went) (defBody s_Changes_went) (defScope s_Changes_went) .none kV_Changes_went dc_Changes_went pm_Changes_went an_Changes_went cd_Changes_went ct_Changes_went), f_Changes_names, (PySem.W.fnOf "names" "Changes.names" (defArgs s_Changes_names) (defBody s_Changes_names) (defScope s_Changes_names) .none kV_Changes_names dc_Changes_names pm_Changes_names an_Changes_names cd_Changes_names ct_Changes_names), f_Changes_is_bare, (PySem.W.fnOf "is_bare" "Changes.is_bare" (defArgs s_Changes_is_bare) (defBody s_Changes_is_bare) (defScope s_Changes_is_bare) .none kV_Changes_is_bare dc_Changes_is_bare pm_Changes_is_bare an_Changes_is_bare cd_Changes_is_bare ct_Changes_is_bare), f_Changes_turned, (PySem.W.fnOf "turned" "Changes.turned" (defArgs s_Changes_turned) (defBody s_Changes_turned) (defScope s_Changes_turned) .none kV_Changes_turned dc_Changes_turned pm_Changes_turned an_Changes_turned cd_Changes_turned ct_Changes_turned), f_Changes_shown, (PySem.W.fnOf "shown" "Changes.shown" (defArgs s_Changes_shown) (defBody s_Changes_shown) (defScope s_Changes_shown) .none kV_Changes_shown dc_Changes_shown pm_Changes_shown an_Changes_shown cd_Changes_shown ct_Changes_shown), f_put_under, (PySem.W.fnOf "put_under" "put_under" (defArgs s_put_under) (defBody s_put_under) (defScope s_put_under) .none kV_put_under dc_put_under pm_put_under an_put_under cd_put_under ct_put_under), f_take_from, (PySem.W.fnOf "take_from" "take_from" (defArgs s_take_from) (defBody s_take_from) (defScope s_take_from) .none kV_take_from dc_take_from pm_take_from an_take_from cd_take_from ct_take_from), f_picked, (PySem.W.fnOf "picked" "picked" (defArgs s_picked) (defBody s_picked) (defScope s_picked) .none kV_picked dc_picked pm_picked an_picked cd_picked ct_picked), f_store_of, (PySem.W.fnOf "store_of" "store_of" (defArgs s_store_of) (defBody s_store_of) (defScope s_store_of) .none kV_store_of dc_store_of pm_store_of an_store_of cd_store_of ct_store_of), f_apart, (PySem.W.fnOf "apart" "apart" (defArgs s_apart) (defBody s_apart) (defScope s_apart) .none kV_apart dc_apart pm_apart an_apart cd_apart ct_apart), f_laid_on, (PySem.W.fnOf "laid_on" "laid_on" (defArgs s_laid_on) (defBody s_laid_on) (defScope s_laid_on) .none kV_laid_on dc_laid_on pm_laid_on an_laid_on cd_laid_on ct_laid_on), f_l_dice, (PySem.W.fnOf "_law_dice" "_law_dice" (defArgs s_l_dice) (defBody s_l_dice) (defScope s_l_dice) .none kV_l_dice dc_l_dice pm_l_dice an_l_dice cd_l_dice ct_l_dice), f_l_roll, (PySem.W.fnOf "_law_roll" "_law_roll" (defArgs s_l_roll) (defBody s_l_roll) (defScope s_l_roll) .none kV_l_roll dc_l_roll pm_l_roll an_l_roll cd_l_roll ct_l_roll), f_l_rounds, (PySem.W.fnOf "_law_rounds" "_law_rounds" (defArgs s_l_rounds) (defBody s_l_rounds) (defScope s_l_rounds) .none kV_l_rounds dc_l_rounds pm_l_rounds an_l_rounds cd_l_rounds ct_l_rounds), f_l_told, (PySem.W.fnOf "_law_told" "_law_told" (defArgs s_l_told) (defBody s_l_told) (defScope s_l_told) .none kV_l_told dc_l_told pm_l_told an_l_told cd_l_told ct_l_told), f_l_facts, (PySem.W.fnOf "_law_facts" "_law_facts" (defArgs s_l_facts) (defBody s_l_facts) (defScope s_l_facts) .none kV_l_facts dc_l_facts pm_l_facts an_l_facts cd_l_facts ct_l_facts), f_law, (PySem.W.fnOf "law" "law" (defArgs s_law) (defBody s_law) (defScope s_law) .none kV_law dc_law pm_law an_law (.ref c_L) ct_law), C_Relation, C_Store, C_Changes⟩
  have F_is_number := fun_mk (st := s_is_number) l_is_number c_is_number k_is_number
  have b_is_number := F_is_number.binds (ps := ["value"]) fun _ _ _ _ _ _ us hl => match us, hl with | [_], _ => rfl
  have F_value_key := fun_mk (st := s_value_key) l_value_key c_value_key k_value_key
  have b_value_key := F_value_key.binds (ps := ["value"]) fun _ _ _ _ _ _ us hl => match us, hl with | [_], _ => rfl
  have F_row_key := fun_mk (st := s_row_key) l_row_key c_row_key k_row_key
  have b_row_key := F_row_key.binds (ps := ["row"]) fun _ _ _ _ _ _ us hl => match us, hl with | [_], _ => rfl
  have F_in_order := fun_mk (st := s_in_order) l_in_order c_in_order k_in_order
  have b_in_order := F_in_order.binds (ps := ["rows"]) fun _ _ _ _ _ _ us hl => match us, hl with | [_], _ => rfl
  have F_Relation_init : FunD K "__init__" "Relation.__init__" (defArgs s_Relation_init) (defBody s_Relation_init) (defScope s_Relation_init) [(.ref A.e_Relation_init)] [] A.f_Relation_init A.d_Relation_init := ⟨⟨_, _, _, _, _, _, _, _, _, _, rfl, l_Relation_init, c_Relation_init, v_Relation_init, .inl rfl⟩, k_Relation_init⟩
  have b_Relation_init : Binds K A.d_Relation_init ["self", "rows"] [] := by
    obtain ⟨ds, hv, hb⟩ := F_Relation_init.binds1 (ps := ["self", "rows"]) 2 1 (List.cons_ne_nil _ _) rfl fun _ _ _ _ _ _ _ us its hl hi => match us, its, hl, hi with | [_, _], [_], _, _ => ⟨_, rfl, rfl⟩
    cases hv
    exact hb
  have bd_Relation_init := F_Relation_init.binds1 (ps := ["self", "rows"]) 1 0 (List.cons_ne_nil _ _) rfl fun _ _ _ _ _ _ _ us its hl hi => match us, its, hl, hi with | [_], [_], _, _ => ⟨_, rfl, rfl⟩
  have F_Relation_has := fun_mk (st := s_Relation_has) l_Relation_has c_Relation_has k_Relation_has
  have b_Relation_has := F_Relation_has.binds (ps := ["self", "row"]) fun _ _ _ _ _ _ us hl => match us, hl with | [_, _], _ => rfl
  have F_Relation_size := fun_mk (st := s_Relation_size) l_Relation_size c_Relation_size k_Relation_size
  have b_Relation_size := F_Relation_size.binds (ps := ["self"]) fun _ _ _ _ _ _ us hl => match us, hl with | [_], _ => rfl
  have F_Relation_add := fun_mk (st := s_Relation_add) l_Relation_add c_Relation_add k_Relation_add
  have b_Relation_add := F_Relation_add.binds (ps := ["self", "row"]) fun _ _ _ _ _ _ us hl => match us, hl with | [_, _], _ => rfl
  have F_Relation_drop := fun_mk (st := s_Relation_drop) l_Relation_drop c_Relation_drop k_Relation_drop
  have b_Relation_drop := F_Relation_drop.binds (ps := ["self", "row"]) fun _ _ _ _ _ _ us hl => match us, hl with | [_, _], _ => rfl
  have F_Relation_rows := fun_mk (st := s_Relation_rows) l_Relation_rows c_Relation_rows k_Relation_rows
  have b_Relation_rows := F_Relation_rows.binds (ps := ["self"]) fun _ _ _ _ _ _ us hl => match us, hl with | [_], _ => rfl
  have F_Store_init := fun_mk (st := s_Store_init) l_Store_init c_Store_init k_Store_init
  have b_Store_init := F_Store_init.binds (ps := ["self"]) fun _ _ _ _ _ _ us hl => match us, hl with | [_], _ => rfl
  have F_Store_of := fun_mk (st := s_Store_of) l_Store_of c_Store_of k_Store_of
  have b_Store_of := F_Store_of.binds (ps := ["self", "name"]) fun _ _ _ _ _ _ us hl => match us, hl with | [_, _], _ => rfl
  have F_Store_names := fun_mk (st := s_Store_names) l_Store_names c_Store_names k_Store_names
  have b_Store_names := F_Store_names.binds (ps := ["self"]) fun _ _ _ _ _ _ us hl => match us, hl with | [_], _ => rfl
  have F_Store_has := fun_mk (st := s_Store_has) l_Store_has c_Store_has k_Store_has
  have b_Store_has := F_Store_has.binds (ps := ["self", "name", "row"]) fun _ _ _ _ _ _ us hl => match us, hl with | [_, _, _], _ => rfl
  have F_Store_size := fun_mk (st := s_Store_size) l_Store_size c_Store_size k_Store_size
  have b_Store_size := F_Store_size.binds (ps := ["self"]) fun _ _ _ _ _ _ us hl => match us, hl with | [_], _ => rfl
  have F_Store_shown := fun_mk (st := s_Store_shown) l_Store_shown c_Store_shown k_Store_shown
  have b_Store_shown := F_Store_shown.binds (ps := ["self"]) fun _ _ _ _ _ _ us hl => match us, hl with | [_], _ => rfl
  have F_Changes_init := fun_mk (st := s_Changes_init) l_Changes_init c_Changes_init k_Changes_init
  have b_Changes_init := F_Changes_init.binds (ps := ["self"]) fun _ _ _ _ _ _ us hl => match us, hl with | [_], _ => rfl
  have F_Changes_note := fun_mk (st := s_Changes_note) l_Changes_note c_Changes_note k_Changes_note
  have b_Changes_note := F_Changes_note.binds (ps := ["self", "name", "row", "came"]) fun _ _ _ _ _ _ us hl => match us, hl with | [_, _, _, _], _ => rfl
  have F_Changes_came := fun_mk (st := s_Changes_came) l_Changes_came c_Changes_came k_Changes_came
  have b_Changes_came := F_Changes_came.binds (ps := ["self", "name"]) fun _ _ _ _ _ _ us hl => match us, hl with | [_, _], _ => rfl
  have F_Changes_went := fun_mk (st := s_Changes_went) l_Changes_went c_Changes_went k_Changes_went
  have b_Changes_went := F_Changes_went.binds (ps := ["self", "name"]) fun _ _ _ _ _ _ us hl => match us, hl with | [_, _], _ => rfl
  have F_Changes_names := fun_mk (st := s_Changes_names) l_Changes_names c_Changes_names k_Changes_names
  have b_Changes_names := F_Changes_names.binds (ps := ["self"]) fun _ _ _ _ _ _ us hl => match us, hl with | [_], _ => rfl
  have F_Changes_is_bare := fun_mk (st := s_Changes_is_bare) l_Changes_is_bare c_Changes_is_bare k_Changes_is_bare
  have b_Changes_is_bare := F_Changes_is_bare.binds (ps := ["self"]) fun _ _ _ _ _ _ us hl => match us, hl with | [_], _ => rfl
  have F_Changes_turned := fun_mk (st := s_Changes_turned) l_Changes_turned c_Changes_turned k_Changes_turned
  have b_Changes_turned := F_Changes_turned.binds (ps := ["self"]) fun _ _ _ _ _ _ us hl => match us, hl with | [_], _ => rfl
  have F_Changes_shown := fun_mk (st := s_Changes_shown) l_Changes_shown c_Changes_shown k_Changes_shown
  have b_Changes_shown := F_Changes_shown.binds (ps := ["self"]) fun _ _ _ _ _ _ us hl => match us, hl with | [_], _ => rfl
  have F_put_under := fun_mk (st := s_put_under) l_put_under c_put_under k_put_under
  have b_put_under := F_put_under.binds (ps := ["table", "key", "row"]) fun _ _ _ _ _ _ us hl => match us, hl with | [_, _, _], _ => rfl
  have F_take_from := fun_mk (st := s_take_from) l_take_from c_take_from k_take_from
  have b_take_from := F_take_from.binds (ps := ["table", "key", "row"]) fun _ _ _ _ _ _ us hl => match us, hl with | [_, _, _], _ => rfl
  have F_picked := fun_mk (st := s_picked) l_picked c_picked k_picked
  have b_picked := F_picked.binds (ps := ["row", "places"]) fun _ _ _ _ _ _ us hl => match us, hl with | [_, _], _ => rfl
  have F_store_of := fun_mk (st := s_store_of) l_store_of c_store_of k_store_of
  have b_store_of := F_store_of.binds (ps := ["facts"]) fun _ _ _ _ _ _ us hl => match us, hl with | [_], _ => rfl
  have F_apart := fun_mk (st := s_apart) l_apart c_apart k_apart
  have b_apart := F_apart.binds (ps := ["one", "other"]) fun _ _ _ _ _ _ us hl => match us, hl with | [_, _], _ => rfl
  have F_laid_on := fun_mk (st := s_laid_on) l_laid_on c_laid_on k_laid_on
  have b_laid_on := F_laid_on.binds (ps := ["store", "changes"]) fun _ _ _ _ _ _ us hl => match us, hl with | [_, _], _ => rfl
  have F_l_dice := fun_mk (st := s_l_dice) l_l_dice c_l_dice k_l_dice
  have b_l_dice := F_l_dice.binds (ps := ["cell"]) fun _ _ _ _ _ _ us hl => match us, hl with | [_], _ => rfl
  have F_l_roll := fun_mk (st := s_l_roll) l_l_roll c_l_roll k_l_roll
  have b_l_roll := F_l_roll.binds (ps := ["dice", "many"]) fun _ _ _ _ _ _ us hl => match us, hl with | [_, _], _ => rfl
  have F_l_rounds := fun_mk (st := s_l_rounds) l_l_rounds c_l_rounds k_l_rounds
  have b_l_rounds := F_l_rounds.binds (ps := ["script", "most"]) fun _ _ _ _ _ _ us hl => match us, hl with | [_, _], _ => rfl
  have F_l_told := fun_mk (st := s_l_told) l_l_told c_l_told k_l_told
  have b_l_told := F_l_told.binds (ps := ["what"]) fun _ _ _ _ _ _ us hl => match us, hl with | [_], _ => rfl
  have F_l_facts := fun_mk (st := s_l_facts) l_l_facts c_l_facts k_l_facts
  have b_l_facts := F_l_facts.binds (ps := ["dice"]) fun _ _ _ _ _ _ us hl => match us, hl with | [_], _ => rfl
  have F_law := fun_mk (st := s_law) l_law c_law k_law
  have b_law := F_law.binds (ps := ["script"]) fun _ _ _ _ _ _ us hl => match us, hl with | [_], _ => rfl
  have T : Txt K mg A := {
    F_is_number := F_is_number,
    b_is_number := b_is_number,
    m_is_number := PySem.W.mg_of X G a_is_number,
    F_value_key := F_value_key,
    b_value_key := b_value_key,
    m_value_key := PySem.W.mg_of X G a_value_key,
    F_row_key := F_row_key,
    b_row_key := b_row_key,
    m_row_key := PySem.W.mg_of X G a_row_key,
    F_in_order := F_in_order,
    b_in_order := b_in_order,
    m_in_order := PySem.W.mg_of X G a_in_order,
    F_Relation_init := F_Relation_init,
    b_Relation_init := b_Relation_init,
    sq_Relation_init := fun H => .inr ⟨_, _, _, le_Relation_init, rfl, rfl, Nat.zero_le _, .nil⟩,
    bd_Relation_init := bd_Relation_init,
    F_Relation_has := F_Relation_has,
    b_Relation_has := b_Relation_has,
    e_Relation_has := ⟨a_Relation_has, i_Relation_has, k_Relation_has⟩,
    F_Relation_size := F_Relation_size,
    b_Relation_size := b_Relation_size,
    e_Relation_size := ⟨a_Relation_size, i_Relation_size, k_Relation_size⟩,
    F_Relation_add := F_Relation_add,
    b_Relation_add := b_Relation_add,
    e_Relation_add := ⟨a_Relation_add, i_Relation_add, k_Relation_add⟩,
    F_Relation_drop := F_Relation_drop,
    b_Relation_drop := b_Relation_drop,
    e_Relation_drop := ⟨a_Relation_drop, i_Relation_drop, k_Relation_drop⟩,
    F_Relation_rows := F_Relation_rows,
    b_Relation_rows := b_Relation_rows,
    e_Relation_rows := ⟨a_Relation_rows, i_Relation_rows, k_Relation_rows⟩,
    F_Store_init := F_Store_init,
    b_Store_init := b_Store_init,
    F_Store_of := F_Store_of,
    b_Store_of := b_Store_of,
    e_Store_of := ⟨a_Store_of, i_Store_of, k_Store_of⟩,
    F_Store_names := F_Store_names,
    b_Store_names := b_Store_names,
    e_Store_names := ⟨a_Store_names, i_Store_names, k_Store_names⟩,
    F_Store_has := F_Store_has,
    b_Store_has := b_Store_has,
    e_Store_has := ⟨a_Store_has, i_Store_has, k_Store_has⟩,
    F_Store_size := F_Store_size,
    b_Store_size := b_Store_size,
    e_Store_size := ⟨a_Store_size, i_Store_size, k_Store_size⟩,
    F_Store_shown := F_Store_shown,
    b_Store_shown := b_Store_shown,
    e_Store_shown := ⟨a_Store_shown, i_Store_shown, k_Store_shown⟩,
    F_Changes_init := F_Changes_init,
    b_Changes_init := b_Changes_init,
    F_Changes_note := F_Changes_note,
    b_Changes_note := b_Changes_note,
    e_Changes_note := ⟨a_Changes_note, i_Changes_note, k_Changes_note⟩,
    F_Changes_came := F_Changes_came,
    b_Changes_came := b_Changes_came,
    e_Changes_came := ⟨a_Changes_came, i_Changes_came, k_Changes_came⟩,
    F_Changes_went := F_Changes_went,
    b_Changes_went := b_Changes_went,
    e_Changes_went := ⟨a_Changes_went, i_Changes_went, k_Changes_went⟩,
    F_Changes_names := F_Changes_names,
    b_Changes_names := b_Changes_names,
    e_Changes_names := ⟨a_Changes_names, i_Changes_names, k_Changes_names⟩,
    F_Changes_is_bare := F_Changes_is_bare,
    b_Changes_is_bare := b_Changes_is_bare,
    e_Changes_is_bare := ⟨a_Changes_is_bare, i_Changes_is_bare, k_Changes_is_bare⟩,
    F_Changes_turned := F_Changes_turned,
    b_Changes_turned := b_Changes_turned,
    e_Changes_turned := ⟨a_Changes_turned, i_Changes_turned, k_Changes_turned⟩,
    F_Changes_shown := F_Changes_shown,
    b_Changes_shown := b_Changes_shown,
    e_Changes_shown := ⟨a_Changes_shown, i_Changes_shown, k_Changes_shown⟩,
    F_put_under := F_put_under,
    b_put_under := b_put_under,
    m_put_under := PySem.W.mg_of X G a_put_under,
    F_take_from := F_take_from,
    b_take_from := b_take_from,
    m_take_from := PySem.W.mg_of X G a_take_from,
    F_picked := F_picked,
    b_picked := b_picked,
    m_picked := PySem.W.mg_of X G a_picked,
    F_store_of := F_store_of,
    b_store_of := b_store_of,
    m_store_of := PySem.W.mg_of X G a_store_of,
    F_apart := F_apart,
    b_apart := b_apart,
    m_apart := PySem.W.mg_of X G a_apart,
    F_laid_on := F_laid_on,
    b_laid_on := b_laid_on,
    m_laid_on := PySem.W.mg_of X G a_laid_on,
    F_l_dice := F_l_dice,
    b_l_dice := b_l_dice,
    m_l_dice := PySem.W.mg_of X G a_l_dice,
    F_l_roll := F_l_roll,
    b_l_roll := b_l_roll,
    m_l_roll := PySem.W.mg_of X G a_l_roll,
    F_l_rounds := F_l_rounds,
    b_l_rounds := b_l_rounds,
    m_l_rounds := PySem.W.mg_of X G a_l_rounds,
    F_l_told := F_l_told,
    b_l_told := b_l_told,
    m_l_told := PySem.W.mg_of X G a_l_told,
    F_l_facts := F_l_facts,
    b_l_facts := b_l_facts,
    m_l_facts := PySem.W.mg_of X G a_l_facts,
    F_law := F_law,
    b_law := b_law,
    m_law := PySem.W.mg_of X G a_law,
    m_Relation := PySem.W.mg_of X G aC_Relation,
    cl_Relation := ⟨pg_Relation, hd_Relation, po_Relation, sa_Relation⟩,
    M_Relation := ⟨mk_Relation, a_Relation_init, i_Relation_init, kc_Relation⟩,
    n_Relation_held := n_Relation_held,
    n_Relation_tables := n_Relation_tables,
    m_Store := PySem.W.mg_of X G aC_Store,
    cl_Store := ⟨pg_Store, hd_Store, po_Store, sa_Store⟩,
    M_Store := ⟨mk_Store, a_Store_init, i_Store_init, kc_Store⟩,
    n_Store_relations := n_Store_relations,
    m_Changes := PySem.W.mg_of X G aC_Changes,
    cl_Changes := ⟨pg_Changes, hd_Changes, po_Changes, sa_Changes⟩,
    M_Changes := ⟨mk_Changes, a_Changes_init, i_Changes_init, kc_Changes⟩,
    n_Changes_added := n_Changes_added,
    n_Changes_dropped := n_Changes_dropped,
    q_BadSign := PySem.W.mg_of X G q_BadSign,
    q_BadRule := PySem.W.mg_of X G q_BadRule,
    q_BadKind := PySem.W.mg_of X G q_BadKind,
    q_BadLayer := PySem.W.mg_of X G q_BadLayer,
    q_NoSuch := PySem.W.mg_of X G q_NoSuch,
    q_BadDeed := PySem.W.mg_of X G q_BadDeed,
    q_BadGround := PySem.W.mg_of X G q_BadGround,
    q_BadStore := PySem.W.mg_of X G q_BadStore,
    q_Broken := PySem.W.mg_of X G q_Broken,
    q_BadSize := PySem.W.mg_of X G q_BadSize,
    x_NoSuch := x_NoSuch,
    k_NoSuch := k_NoSuch,
    sb_NoSuch := sb_NoSuch,
    ty_NoSuch := ty_NoSuch,
    m_NoSuch_BadSign := m_NoSuch_BadSign,
    m_NoSuch_BadRule := m_NoSuch_BadRule,
    m_NoSuch_BadKind := m_NoSuch_BadKind,
    m_NoSuch_BadLayer := m_NoSuch_BadLayer,
    m_NoSuch_NoSuch := m_NoSuch_NoSuch,
    C_law := ⟨⟨_, _, _, _, _, _, _, _, rfl, l_law, c_law⟩⟩,
    H_law := h_law,
    z_abs := PySem.W.mg_none_of X G z_abs,
    z_any := PySem.W.mg_none_of X G z_any,
    z_int := PySem.W.mg_none_of X G z_int,
    z_isinstance := PySem.W.mg_none_of X G z_isinstance,
    z_len := PySem.W.mg_none_of X G z_len,
    z_list := PySem.W.mg_none_of X G z_list,
    z_range := PySem.W.mg_none_of X G z_range,
    z_sorted := PySem.W.mg_none_of X G z_sorted,
    z_sum := PySem.W.mg_none_of X G z_sum,
    z_tuple := PySem.W.mg_none_of X G z_tuple }
  refine ⟨A.d_law, [(c_L, P_L)], spD ⟨K, w⟩ [(A.PL, qL)] (Toy.f_law A), fun p hp => ?_, fun p hp => ?_, fun p hp => ?_, fun s v => .of_eq rfl, fun H a ns hl hb hT hS => (let ⟨_, ez⟩ := law_true A ns hl hb; spD_law (K := ⟨K, w⟩) (tabs_one (hT _ List.mem_cons_self)) hS ez), fun base _ _ TB => ok_law (K := ⟨K, w⟩) T (TB _ List.mem_cons_self)⟩
  · cases List.mem_singleton.mp hp
    exact FunC.tab (T.C_law) h_law (OT _ (PySem.W.mg_of X G a_law))
  · cases List.mem_singleton.mp hp
    exact n_law
  · cases List.mem_singleton.mp hp
    exact PySem.W.codeHd_of_K X h_law
end Toy

open PySem PySem.W PyProof.Rows in
set_option maxRecDepth 100000 in
set_option maxHeartbeats 0 in
theorem PySem.Challenge.cw_deducehall_k10_changes_put_together_holds : PySem.Challenge.rw_deducehall_k10_changes_put_together.Holds := by
  w_on; o_law; k_head; (case hw => w_witness2)
  k_fill
  refine LX.walk_at "law" (law := PySem.Challenge.rw_deducehall_k10_changes_put_together) (most := 63) (lv := 10) (arg := "script") (CW := fun w => L2.CX (PySem.Challenge.rw_deducehall_k10_changes_put_together).prog w) rfl (by decide) rfl ⟨rfl, by decide, by decide⟩ rfl (fun w h Y => (by first | exact PySem.W.km_in_of Y | exact PySem.W.kIn_of Y)) ?F fun w H s e s' z => (by obtain ⟨_, _, _, _, _, _, _, _, _, _, _, _, hE⟩ := z; exact hE.elim)
  case F =>
    intro w mg fa h Y KX G hmg OT
    refine' Toy.all_mk (P_L := 455) KX G hmg OT ?aC_Relation ?pg_Relation ?hd_Relation ?po_Relation ?sa_Relation ?mk_Relation ?kc_Relation ?n_Relation_held ?n_Relation_tables ?aC_Store ?pg_Store ?hd_Store ?po_Store ?sa_Store ?mk_Store ?kc_Store ?n_Store_relations ?aC_Changes ?pg_Changes ?hd_Changes ?po_Changes ?sa_Changes ?mk_Changes ?kc_Changes ?n_Changes_added ?n_Changes_dropped ?a_is_number ?l_is_number ?c_is_number ?k_is_number ?a_value_key ?l_value_key ?c_value_key ?k_value_key ?a_row_key ?l_row_key ?c_row_key ?k_row_key ?a_in_order ?l_in_order ?c_in_order ?k_in_order ?a_Relation_init ?i_Relation_init ?l_Relation_init ?v_Relation_init ?le_Relation_init ?c_Relation_init ?k_Relation_init ?a_Relation_has ?i_Relation_has ?l_Relation_has ?c_Relation_has ?k_Relation_has ?a_Relation_size ?i_Relation_size ?l_Relation_size ?c_Relation_size ?k_Relation_size ?a_Relation_add ?i_Relation_add ?l_Relation_add ?c_Relation_add ?k_Relation_add ?a_Relation_drop ?i_Relation_drop ?l_Relation_drop ?c_Relation_drop ?k_Relation_drop ?a_Relation_rows ?i_Relation_rows ?l_Relation_rows ?c_Relation_rows ?k_Relation_rows ?a_Store_init ?i_Store_init ?l_Store_init ?c_Store_init ?k_Store_init ?a_Store_of ?i_Store_of ?l_Store_of ?c_Store_of ?k_Store_of ?a_Store_names ?i_Store_names ?l_Store_names ?c_Store_names ?k_Store_names ?a_Store_has ?i_Store_has ?l_Store_has ?c_Store_has ?k_Store_has ?a_Store_size ?i_Store_size ?l_Store_size ?c_Store_size ?k_Store_size ?a_Store_shown ?i_Store_shown ?l_Store_shown ?c_Store_shown ?k_Store_shown ?a_Changes_init ?i_Changes_init ?l_Changes_init ?c_Changes_init ?k_Changes_init ?a_Changes_note ?i_Changes_note ?l_Changes_note ?c_Changes_note ?k_Changes_note ?a_Changes_came ?i_Changes_came ?l_Changes_came ?c_Changes_came ?k_Changes_came ?a_Changes_went ?i_Changes_went ?l_Changes_went ?c_Changes_went ?k_Changes_went ?a_Changes_names ?i_Changes_names ?l_Changes_names ?c_Changes_names ?k_Changes_names ?a_Changes_is_bare ?i_Changes_is_bare ?l_Changes_is_bare ?c_Changes_is_bare ?k_Changes_is_bare ?a_Changes_turned ?i_Changes_turned ?l_Changes_turned ?c_Changes_turned ?k_Changes_turned ?a_Changes_shown ?i_Changes_shown ?l_Changes_shown ?c_Changes_shown ?k_Changes_shown ?a_put_under ?l_put_under ?c_put_under ?k_put_under ?a_take_from ?l_take_from ?c_take_from ?k_take_from ?a_picked ?l_picked ?c_picked ?k_picked ?a_store_of ?l_store_of ?c_store_of ?k_store_of ?a_apart ?l_apart ?c_apart ?k_apart ?a_laid_on ?l_laid_on ?c_laid_on ?k_laid_on ?a_l_dice ?l_l_dice ?c_l_dice ?k_l_dice ?a_l_roll ?l_l_roll ?c_l_roll ?k_l_roll ?a_l_rounds ?l_l_rounds ?c_l_rounds ?k_l_rounds ?a_l_told ?l_l_told ?c_l_told ?k_l_told ?a_l_facts ?l_l_facts ?c_l_facts ?k_l_facts ?a_law ?l_law ?c_law ?k_law ?z_abs ?z_any ?z_int ?z_isinstance ?z_len ?z_list ?z_range ?z_sorted ?z_sum ?z_tuple ?q_BadSign ?q_BadRule ?q_BadKind ?q_BadLayer ?q_NoSuch ?q_BadDeed ?q_BadGround ?q_BadStore ?q_Broken ?q_BadSize ?x_NoSuch ?k_NoSuch ?sb_NoSuch ?ty_NoSuch ?m_NoSuch_BadSign ?m_NoSuch_BadRule ?m_NoSuch_BadKind ?m_NoSuch_BadLayer ?m_NoSuch_NoSuch ?h_law ?n_law
    (case aC_Relation => k_is)
    (case pg_Relation => k_is)
    (case hd_Relation => k_is)
    (case po_Relation => k_is)
    (case sa_Relation => k_is)
    (case mk_Relation => k_is)
    (case kc_Relation => k_is)
    (case n_Relation_held => k_is)
    (case n_Relation_tables => k_is)
    (case aC_Store => k_is)
    (case pg_Store => k_is)
    (case hd_Store => k_is)
    (case po_Store => k_is)
    (case sa_Store => k_is)
    (case mk_Store => k_is)
    (case kc_Store => k_is)
    (case n_Store_relations => k_is)
    (case aC_Changes => k_is)
    (case pg_Changes => k_is)
    (case hd_Changes => k_is)
    (case po_Changes => k_is)
    (case sa_Changes => k_is)
    (case mk_Changes => k_is)
    (case kc_Changes => k_is)
    (case n_Changes_added => k_is)
    (case n_Changes_dropped => k_is)
    (case a_is_number => k_is)
    (case l_is_number => k_is)
    (case c_is_number => k_is)
    (case k_is_number => k_is)
    (case a_value_key => k_is)
    (case l_value_key => k_is)
    (case c_value_key => k_is)
    (case k_value_key => k_is)
    (case a_row_key => k_is)
    (case l_row_key => k_is)
    (case c_row_key => k_is)
    (case k_row_key => k_is)
    (case a_in_order => k_is)
    (case l_in_order => k_is)
    (case c_in_order => k_is)
    (case k_in_order => k_is)
    (case a_Relation_init => k_is)
    (case i_Relation_init => k_is)
    (case l_Relation_init => k_is)
    (case v_Relation_init => exact .inr ⟨List.cons_ne_nil _ _, _, _, _, _, rfl, (by k_is), rfl, (.cons rfl .nil)⟩)
    (case le_Relation_init => k_is)
    (case c_Relation_init => k_is)
    (case k_Relation_init => k_is)
    (case a_Relation_has => k_is)
    (case i_Relation_has => k_is)
    (case l_Relation_has => k_is)
    (case c_Relation_has => k_is)
    (case k_Relation_has => k_is)
    (case a_Relation_size => k_is)
    (case i_Relation_size => k_is)
    (case l_Relation_size => k_is)
    (case c_Relation_size => k_is)
    (case k_Relation_size => k_is)
    (case a_Relation_add => k_is)
    (case i_Relation_add => k_is)
    (case l_Relation_add => k_is)
    (case c_Relation_add => k_is)
    (case k_Relation_add => k_is)
    (case a_Relation_drop => k_is)
    (case i_Relation_drop => k_is)
    (case l_Relation_drop => k_is)
    (case c_Relation_drop => k_is)
    (case k_Relation_drop => k_is)
    (case a_Relation_rows => k_is)
    (case i_Relation_rows => k_is)
    (case l_Relation_rows => k_is)
    (case c_Relation_rows => k_is)
    (case k_Relation_rows => k_is)
    (case a_Store_init => k_is)
    (case i_Store_init => k_is)
    (case l_Store_init => k_is)
    (case c_Store_init => k_is)
    (case k_Store_init => k_is)
    (case a_Store_of => k_is)
    (case i_Store_of => k_is)
    (case l_Store_of => k_is)
    (case c_Store_of => k_is)
    (case k_Store_of => k_is)
    (case a_Store_names => k_is)
    (case i_Store_names => k_is)
    (case l_Store_names => k_is)
    (case c_Store_names => k_is)
    (case k_Store_names => k_is)
    (case a_Store_has => k_is)
    (case i_Store_has => k_is)
    (case l_Store_has => k_is)
    (case c_Store_has => k_is)
    (case k_Store_has => k_is)
    (case a_Store_size => k_is)
    (case i_Store_size => k_is)
    (case l_Store_size => k_is)
    (case c_Store_size => k_is)
    (case k_Store_size => k_is)
    (case a_Store_shown => k_is)
    (case i_Store_shown => k_is)
    (case l_Store_shown => k_is)
    (case c_Store_shown => k_is)
    (case k_Store_shown => k_is)
    (case a_Changes_init => k_is)
    (case i_Changes_init => k_is)
    (case l_Changes_init => k_is)
    (case c_Changes_init => k_is)
    (case k_Changes_init => k_is)
    (case a_Changes_note => k_is)
    (case i_Changes_note => k_is)
    (case l_Changes_note => k_is)
    (case c_Changes_note => k_is)
    (case k_Changes_note => k_is)
    (case a_Changes_came => k_is)
    (case i_Changes_came => k_is)
    (case l_Changes_came => k_is)
    (case c_Changes_came => k_is)
    (case k_Changes_came => k_is)
    (case a_Changes_went => k_is)
    (case i_Changes_went => k_is)
    (case l_Changes_went => k_is)
    (case c_Changes_went => k_is)
    (case k_Changes_went => k_is)
    (case a_Changes_names => k_is)
    (case i_Changes_names => k_is)
    (case l_Changes_names => k_is)
    (case c_Changes_names => k_is)
    (case k_Changes_names => k_is)
    (case a_Changes_is_bare => k_is)
    (case i_Changes_is_bare => k_is)
    (case l_Changes_is_bare => k_is)
    (case c_Changes_is_bare => k_is)
    (case k_Changes_is_bare => k_is)
    (case a_Changes_turned => k_is)
    (case i_Changes_turned => k_is)
    (case l_Changes_turned => k_is)
    (case c_Changes_turned => k_is)
    (case k_Changes_turned => k_is)
    (case a_Changes_shown => k_is)
    (case i_Changes_shown => k_is)
    (case l_Changes_shown => k_is)
    (case c_Changes_shown => k_is)
    (case k_Changes_shown => k_is)
    (case a_put_under => k_is)
    (case l_put_under => k_is)
    (case c_put_under => k_is)
    (case k_put_under => k_is)
    (case a_take_from => k_is)
    (case l_take_from => k_is)
    (case c_take_from => k_is)
    (case k_take_from => k_is)
    (case a_picked => k_is)
    (case l_picked => k_is)
    (case c_picked => k_is)
    (case k_picked => k_is)
    (case a_store_of => k_is)
    (case l_store_of => k_is)
    (case c_store_of => k_is)
    (case k_store_of => k_is)
    (case a_apart => k_is)
    (case l_apart => k_is)
    (case c_apart => k_is)
    (case k_apart => k_is)
    (case a_laid_on => k_is)
    (case l_laid_on => k_is)
    (case c_laid_on => k_is)
    (case k_laid_on => k_is)
    (case a_l_dice => k_is)
    (case l_l_dice => k_is)
    (case c_l_dice => k_is)
    (case k_l_dice => k_is)
    (case a_l_roll => k_is)
    (case l_l_roll => k_is)
    (case c_l_roll => k_is)
    (case k_l_roll => k_is)
    (case a_l_rounds => k_is)
    (case l_l_rounds => k_is)
    (case c_l_rounds => k_is)
    (case k_l_rounds => k_is)
    (case a_l_told => k_is)
    (case l_l_told => k_is)
    (case c_l_told => k_is)
    (case k_l_told => k_is)
    (case a_l_facts => k_is)
    (case l_l_facts => k_is)
    (case c_l_facts => k_is)
    (case k_l_facts => k_is)
    (case a_law => k_is)
    (case l_law => k_is)
    (case c_law => k_is)
    (case k_law => k_is)
    (case z_abs => k_is)
    (case z_any => k_is)
    (case z_int => k_is)
    (case z_isinstance => k_is)
    (case z_len => k_is)
    (case z_list => k_is)
    (case z_range => k_is)
    (case z_sorted => k_is)
    (case z_sum => k_is)
    (case z_tuple => k_is)
    (case q_BadSign => k_is)
    (case q_BadRule => k_is)
    (case q_BadKind => k_is)
    (case q_BadLayer => k_is)
    (case q_NoSuch => k_is)
    (case q_BadDeed => k_is)
    (case q_BadGround => k_is)
    (case q_BadStore => k_is)
    (case q_Broken => k_is)
    (case q_BadSize => k_is)
    (case x_NoSuch => k_exc)
    (case k_NoSuch => k_is)
    (case sb_NoSuch => k_is)
    (case ty_NoSuch => k_is)
    (case m_NoSuch_BadSign => exact PySem.W.exm_ref (by k_is) (by k_is) (by k_is) (by k_is))
    (case m_NoSuch_BadRule => exact PySem.W.exm_ref (by k_is) (by k_is) (by k_is) (by k_is))
    (case m_NoSuch_BadKind => exact PySem.W.exm_ref (by k_is) (by k_is) (by k_is) (by k_is))
    (case m_NoSuch_BadLayer => exact PySem.W.exm_ref (by k_is) (by k_is) (by k_is) (by k_is))
    (case m_NoSuch_NoSuch => exact PySem.W.exm_ref (by k_is) (by k_is) (by k_is) (by k_is))
    (case h_law => first | kernel_rfl | rfl)
    (case n_law => first | kernel_rfl | rfl)
