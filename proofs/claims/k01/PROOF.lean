import PyProof.Rows.All
import Wide.All
import OpenK.AllK
import Wide.FinOn
import PyProof.EqAt
import PyProof.EqKinds
import PyProof.TupleCall
import PyProof.TupleOfSeq
import KE.KLam
import KE.KDictSum
import HandS.ForMost
import HandS.Defaults
import HandS.Deep
import HandS.Codes
import HandS.Zip
import HandS.Conv
import HandS.Exc
import HandS.ForExc
import HandS.TryOnly
import HandS.TryMany
import HandS.Lambda
import HandS.EndOwn
import HandS.RaiseMore
import HandS.FStr
import HandS.IsInst
import HandS.TupAny
import KE.GoesMore
import HandS.Iter
import HandS.WordsExc
import HandS.WordsList
import HandS.DictComp
import HandS.SetKeys
import KE.DataCmp
import KE.KEqNest
import HandS.Text
import HandS.More
import HandS.Walk
import KE.DataMinMax
import PyProof.Rows.SortShellAny
import KE.KDictCopyH
import KE.SortKeyHeap
import HandS.SortKw
import KE.SortData
import HandS.TupLen
import KE.KDictLaws
import HandS.StrMore
import HandS.Replace
import HandS.DictSubView
import KE.KDictWalk
import HandS.Rev
import KE.GoesRaise
import KE.GoesEnum
import HandS.ExcIs
import PySem.Challenge.RW_deducehall_k01_terms_and_rows
set_option Elab.async false
set_option linter.all false
set_option maxRecDepth 100000
set_option maxHeartbeats 4000000
/-! ## own rules: tuple of a dict, extend by a tuple, sorted of a tuple of words -/
namespace L2
open PySem PySem.Spec PyProof.Rows
section
variable {prog : Program} {w : World} {A : Around} {E : Value → Shared → Prop} {s : Shared} {d : Addr} {n : Nat} {P : Nat → Value → Prop} {OK : Heap → Prop}
theorem code_tuple_new_src {Q₁ : Value → Shared → Prop} (K : PySem.W.KdlSrc prog w "dict" d d n P OK) (hh : A.handled = none) (hok : OK s.heap) (hn : n ≤ sizeLine)
    (h : ∀ (h' : Heap) (tk : Nat) (acc : Array Value), (∀ b o, s.heap.get? b = some o → h'.get? b = some o) → ItemsOf P acc n →
      Q₁ (.ref h'.objs.size) { s with heap := h'.push { cls := .type "tuple", data := .seq acc }, toks := tk }) :
    codeAny (model prog w) A (.call (.builtin "tuple.__new__") ⟨[.type "tuple", .ref d], []⟩) (wants Q₁ E) s := by
  refine codeAny_of_tree ?_
  show wpAny _ A.in1 (do checkBuiltinCall "tuple.__new__" ⟨[.type "tuple", .ref d], []⟩; again (.builtin "tuple.__new__" ⟨[.type "tuple", .ref d], []⟩)) _ _ s
  refine wpAny_bind (wpAny_of_eq (F.newCall_tuple_1 _) (wpAny_pure ⟨plainId_quiet F.plain_tuple_new _, codeAny_builtin F.entry_tuple_new ?_⟩))
  rw [Around.under_plainId F.plain_tuple_new _]
  have hsub := sub_tuple_self
  have hinit := init_tuple_lookup
  have hmh := madeHere_tuple
  have hTI : s.TypeIs (.ref d) "dict" := K.type s hok
  have hh1 : A.in1.handled = none := hh
  wp_walk using wpAny_typeOf hTI, PySem.W.kdu_collect (A := A.in1) K hh1 hok hn
  intro h' tk acc hk hacc
  show wpAny _ _ (Builtin.Tuple.tupleExact acc.toList.toArray >>= fun v => ret v) _ _ _
  unfold Builtin.Tuple.tupleExact
  refine wpAny_bind (wpAny_newObj_type ?_ (by show acc.toList.toArray.size ≤ sizeLine; simp only [Array.toArray_toList]; rw [hacc.1]; exact hn))
  refine wpAny_pure ?_
  have e : acc.toList.toArray = acc := by simp
  rw [e]
  exact h h' tk acc hk hacc
theorem call_tuple_src {Q : Value → Shared → Prop} (K : PySem.W.KdlSrc prog w "dict" d d n P OK) (hh : A.handled = none) (hok : OK s.heap) (hn : n ≤ sizeLine)
    (hQ : ∀ (h' : Heap) (tk : Nat) (acc : Array Value), (∀ b o, s.heap.get? b = some o → h'.get? b = some o) → ItemsOf P acc n →
      Q (.ref h'.objs.size) { s with heap := h'.push { cls := .type "tuple", data := .seq acc }, toks := tk }) :
    wpAny (model prog w) A (call (.type "tuple") [.ref d]) Q E s := by
  refine callType_codes (Q₁ := fun obj s₁ => s₁.TypeIs obj "tuple" ∧ Q obj s₁) F.called_tuple (F.typeCall_tuple_1 _) F.entry_object_init
    (code_tuple_new_src (A := A.in1) K hh hok hn fun h' tk acc hk hacc => ⟨⟨_, Heap.get?_push_size _ rfl, rfl⟩, hQ h' tk acc hk hacc⟩) fun obj s₁ h₁ => ?_
  exact ⟨h₁.1, F.args_object_init_2 obj _, object_init_meets F.called_tuple.init.lookup F.called_tuple.made (by decide) prog w A.in1 _ s₁ ⟨h₁.1, rfl, h₁.2⟩⟩
end
/-- tuple(d), d a dict of ints and words -/
def rTupD : List V → Hp → VK → Prop := fun xs H Q => ∃ p kvs, xs = [.ref p] ∧ H p = some (.dK kvs) ∧ ∀ q, H q = none → Q (.ref q) (upd H q (.tup (kvs.map fun kv => kV kv.1)))
theorem call_tuple_dK {X : Cx} (hc : X.calm = true := by rfl) : CallR X (.type "tuple") rTupD := by
  intro pins s σ H xs us Q I r h
  obtain ⟨p, kvs, e, hk, q⟩ := h
  subst e
  obtain ⟨u, eu, rx⟩ := vals1 r
  subst eu
  obtain rfl : u = Value.ref p := rx
  obtain ⟨z, lo, vs, rk, hd⟩ := (show ObjOk X.prog X.w H s.heap p (.dK kvs) from I.hok p _ hk)
  obtain ⟨ep, hat⟩ := hd.dictAt
  have hl : kvs.length = vs.length := Paired.length rk
  refine call_tuple_src (PySem.W.kdl_dict (knd := mixKind X.prog X.w) (kvs := vs) (ep := ep) lo) (I.ok.hd hc) hat (by rw [← hl]; exact z) fun h' tk acc hkeep hacc => ?_
  have hv : Vals (kvs.map fun kv => kV kv.1) acc.toList := by
    have el : acc.toList.length = acc.size := by simp
    refine vals_of_at (by rw [List.length_map, el, hacc.1, hl]) fun j x w h1 h2 => ?_
    obtain ⟨k, y, hky, hi⟩ := hacc.2 j w (by rw [← Array.getElem?_toList]; exact h2)
    have e1 : (kvs.map (·.1))[j]? = some k := by
      rw [KV.keys rk, List.getElem?_map, hky] <;> rfl
    have e2 : (kvs.map fun kv => kV kv.1)[j]? = some (kV k) := by
      have e3 : (kvs.map fun kv => kV kv.1) = (kvs.map (·.1)).map kV := by rw [List.map_map] <;> rfl
      rw [e3, List.getElem?_map, e1] <;> rfl
    rw [e2] at h1
    cases h1
    exact keyIs_rel hi
  have I1 : Inv X pins σ H { s with heap := h', toks := tk } := I.kept hkeep
  have I2 : Inv X pins σ (upd H h'.objs.size (.tup (kvs.map fun kv => kV kv.1))) { s with heap := h'.push { cls := .type "tuple", data := .seq acc }, toks := tk } :=
    I1.laid (t' := tk) (fun b o e => Heap.get?_push_of_some _ e) (Nat.le_refl _) (show ObjOk X.prog X.w _ _ _ (.tup (kvs.map fun kv => kV kv.1)) from ⟨by rw [List.length_map]; exact z, acc.toList, hv, by rw [Array.toArray_toList]; exact IsTup.new _ _⟩)
  exact ⟨.ref h'.objs.size, _, I2, rfl, q _ (I1.hok.fresh (Nat.le_refl _))⟩
/-- l.extend(t), t a tuple -/
theorem list_extend_tupW (l : Addr) (items : Array Value) (n : Nat) (b : Addr) (items2 : Array Value) (n2 : Nat) (dd : Option Addr) (sl : Array (Option Value)) (hs0 : ¬(!items.isEmpty && Builtin.List.listTooLong (items.size + items2.size)) = true) (hs1 : items.size ≤ sizeLine) (hs2 : items.size + items2.size ≤ sizeLine + 1) :
    Meets (Builtin.«list.extend» ⟨[.ref l, .ref b], []⟩) (fun _ R s => s.heap.get? l = some { cls := .type "list", dict := none, data := .seq items n, slots := #[] } ∧ s.heap.get? b = some { cls := .type "tuple", dict := dd, data := .seq items2 n2, slots := sl } ∧ R (.ok (.ret Value.none)) { s with heap := s.heap.update l (Obj.mapSeq fun x => x ++ items2), toks := s.toks }) :=
  .of_wp fun prog w A R s h => by
    obtain ⟨hp, g, d, tk, os⟩ := s; obtain ⟨hl, hb, h⟩ := h; have f1 := AutoSeq1.idx_int; have f2 := AutoSeq1.sub_tuple_tuple; have f3 := AutoSeq1.sub_list_list; have f4 := AutoSeq1.sub_tuple_list; have f5 := AutoSeq1.sub_list_tuple;
    have hz' : (items ++ items2).size ≤ sizeLine + 1 := by rw [Array.size_append]; exact hs2
    wp_walk using (wpAny_updateSeq hl rfl (hz := hs1) (_hz' := hz')), AutoSeq1.wpAny_loadPart' hl, AutoSeq1.wpAny_loadPart' hb; exact ⟨_, rfl, h⟩
def rExtT (K : PySem.W.Frag) : V → List V → Hp → VK → Prop := fun x vs H Q => ∃ l b xs zs, x = .ref l ∧ vs = [.ref b] ∧ H l = some (.lst xs) ∧ SqT K H b zs ∧ xs.length + zs.length ≤ sizeLine ∧ Q .non (upd H l (.lst (xs ++ zs)))
theorem mt_extendT {X : Cx} (K : PySem.W.Frag) (hK : X.K = K := by rfl) : MtM X "list.extend" (rExtT K) := by
  subst hK
  intro pins s σ H x vs v us Q I rx rv h
  obtain ⟨l, b, xs, zs, rfl, rfl, hH, hB, hz, q⟩ := h
  cases rx
  obtain ⟨u, rfl, ru⟩ := rv.one
  cases ru
  obtain ⟨z, its, n, r, hl, e⟩ := I.lstM hH
  obtain ⟨its2, r2, ⟨⟨oc, od, dt, sl⟩, e2, c2, n2, d2⟩, hz2⟩ := I.tuple hB
  simp only at c2 d2
  subst c2 d2
  have hl2 := r2.length
  have hsz : its.toArray.size + its2.toArray.size ≤ sizeLine := by rw [List.size_toArray, List.size_toArray]; omega
  have hlong : ¬ (!its.toArray.isEmpty && Builtin.List.listTooLong (its.toArray.size + its2.toArray.size)) = true := by
    rw [notLongL hsz, Bool.and_false]
    exact Bool.false_ne_true
  refine call_meets PySem.F.slot_list_extend ⟨_, e, rfl⟩ PySem.F.entry_list_extend (PySem.F.args_list_extend_2 _ _)
    (list_extend_tupW l its.toArray n b its2.toArray n2 od sl hlong (by rw [List.size_toArray]; omega) (by omega)) ⟨e, e2, ?_⟩
  refine ⟨.non, _, I.lset (its' := its ++ its2) hH e (by simp) (r.append r2) ?_, rfl, q⟩
  rw [List.length_append]
  omega
/-! sorted(t), t a tuple of words -/
section
variable {prog : Program} {w : World} {A : Around} {E : Value → Shared → Prop} {s : Shared}
theorem sorted_tup_strs {l : Addr} {vs : List Value} {ss : List Str} {Q : Value → Shared → Prop} (hl : IsTup s.heap l vs.toArray) (hS : StrsAre vs ss) (h64 : vs.length < 64)
    (h : ∀ (h1 h' : Heap) (out : Array Value) (ss' : List Str) (ep : Nat), (∀ b o', s.heap.get? b = some o' → h1.get? b = some o') → (∀ b o', h1.get? b = some o' → h'.get? b = some o') → h'.get? h1.objs.size = some (seqObj "list" out ep) → StrsAre out.toList ss' → ss'.Perm ss → sortedS ss' = true → Q (.ref h1.objs.size) { s with heap := h' }) :
    wpAny (model prog w) A (call (.builtin "sorted") [.ref l]) Q E s := by
  obtain ⟨o, ho, hc, n, hd⟩ := hl
  refine Calls.call_function_entry kind_sorted plain_sorted entry_sorted (args_sorted1 _) ?_
  unfold Builtin.«sorted»
  refine wpAny_bind (m := checkCount "sorted" 1 1 _) (wpAny_pure ?_)
  refine wpAny_bind (wpAny_collect_seq l (.inr rfl) ho hc hd (fun h1 kp => ?_) (by rw [List.size_toArray, sizeLine_eq]; omega))
  rw [List.toList_toArray]
  refine wpAny_bind (wpAny_newList ?_)
  have hoL : (h1.push (seqObj "list" vs.toArray 0)).get? h1.objs.size = some (seqObj "list" vs.toArray 0) := Heap.get?_push_size _ rfl
  refine wpAny_bind (wpAny_holding (wpAny_call_entry slot_list_sort ⟨_, hoL, rfl⟩ entry_list_sort (list_sort_treeK strKind_oneLt hoL hS.keysOf (fun v₁ v₂ rest e => keyKind_strs (by rw [← e]; exact hS)) h64 fun st' hp hs => ⟨_, rfl, ?_⟩) (args_list_sort _)))
  obtain ⟨ss', a1, a2, a3⟩ := sorted_out_str hS hp hs
  obtain ⟨ep, he⟩ := sortedHeap_at (vs := vs) (out := (arrOf st').map (·.2)) hoL
  refine wpAny_pure ⟨_, rfl, h h1 _ _ ss' ep kp (fun b o' e => ?_) he a1 a2 a3⟩
  have lt := Heap.lt_size e
  rw [sortedHeap_old (Nat.ne_of_lt lt) (by rw [size_push']; exact Nat.lt_succ_of_lt lt)]
  exact Heap.get?_push_of_some _ e
end
def rSortedT (K : PySem.W.Frag) : List V → Hp → VK → Prop := fun vs H Q => ∃ (a : Addr) (xs : List Str), vs = [V.ref a] ∧ SqT K H a (xs.map V.str) ∧ xs.length < 64 ∧
  ∀ (ys : List Str) (p : Addr), ys.Perm xs → sortedS ys = true → H p = none → Q (.ref p) (upd H p (.lst (ys.map V.str)))
theorem cr_sortedT {X : Cx} (K : PySem.W.Frag) (hK : X.K = K := by rfl) : CallR X (.builtin "sorted") (rSortedT K) := by
  subst hK
  intro pins s σ H vs us Q I r h
  obtain ⟨a, xs, rfl, hs, h64, q⟩ := h
  obtain ⟨its, rv, hl, _⟩ := I.tuple hs
  rw [Vals.ref1 r]
  have hlen0 := rv.length
  rw [List.length_map] at hlen0
  refine sorted_tup_strs hl rv.strs (by rw [← hlen0]; exact h64) fun h1 h' out ys ep kp kp2 he h1' h2 h3 => ?_
  have hlen : (ys.map V.str).length ≤ sizeLine := by rw [List.length_map, h2.length_eq]; exact small64 h64
  have I1 : Inv X pins σ H { s with heap := h1 } := I.kept (t' := s.toks) kp
  exact ⟨.ref _, upd H h1.objs.size (.lst (ys.map V.str)), I1.laid (t' := s.toks) kp2 (Nat.le_refl _) ⟨hlen, out.toList, ep, vals_of_strs h1', he⟩, rfl, q ys _ h2 h3 (I1.hok.fresh (Nat.le_refl _))⟩
end L2

set_option Elab.async false
set_option linter.all false
set_option maxRecDepth 100000
set_option maxHeartbeats 4000000
/-! ## own rules: a lambda of one parameter held in a name; told with many excepts; a def whose code's table is known -/
namespace LamX
open PySem PySem.Spec PyProof.Rows L2
/-- a lambda without captured names stands at f -/
def LamO (f : Addr) (q : Str) (params : Arguments) (body : Expr) (scope : Scope) (c' : Addr) : HO := .ext fun h => ∃ pm ctv, h.get? f = some (PySem.W.kla_obj "<lambda>" q params body scope [] pm c' ctv)
theorem lamO_ok {P : Program} {w : World} {H : Hp} {h : Heap} {f c' : Addr} {q : Str} {params : Arguments} {body : Expr} {scope : Scope} {pm ctv : Value} (e : h.get? f = some (PySem.W.kla_obj "<lambda>" q params body scope [] pm c' ctv)) : ObjOk P w H h f (LamO f q params body scope c') :=
  ⟨⟨pm, ctv, e⟩, ⟨_, e⟩, fun h1 h2 ⟨pm, ctv, e1⟩ st => ⟨pm, ctv, st _ e1⟩⟩
section
variable {X : Cx} {pins : List (Addr × Obj)} {σ : L2.St} {H : Hp} {s : Shared}
theorem lam_makeO {T : List (Addr × Str)} {c P : Addr} {params : Arguments} {body : Expr} {scope : Scope} {pos : Pos} {E : Value → Shared → Prop} {Q : Value → Shared → Prop} (I : Inv X pins σ H s) (TB : TabB X.base X.mg c P) (hcode : X.env.code = .ref c)
    (hm : (P, X.env.qual ++ "<lambda>") ∈ T) (hu : ∀ p ∈ T, p.1 = P → p.2 = X.env.qual ++ "<lambda>") (hT : Tabs T H) (hdef : defaultsOf params X.env = ([], [])) (hfree : ∀ y ∈ scope.names, y.2 = .free → ∃ c, X.env.cells.lookup y.1 = some c) (hcl : cloFrom X.env.cells scope.names [] = [])
    (h : ∀ (f c' : Addr) (H1 : Hp) (s' : Shared), Inv X pins σ (upd H1 f (LamO f (X.env.qual ++ "<lambda>") params body scope c')) s' → ExtN H H1 → Tabs T H1 → H1 f = none → H1 c' = some (CodeO c' (X.env.qual ++ "<lambda>")) → Q (.ref f) s') :
    wpAny (model X.prog X.w) X.A (eval (.Lambda params body scope pos) X.env) Q E s := by
  obtain ⟨ps, hP, ht, ha⟩ := hT _ hm
  refine PySem.W.kla_eval hdef ?_
  have bP : s.heap.BuiltinsAt X.mg P := TB.bm.keeps I.bk
  have hP' : s.heap.get? P = some { cls := .none, data := .fields ps } := I.hok P _ hP
  cases hc : codeAmong pos ps.toList with
  | none =>
    refine PySem.W.kla_makeFunction (mg := X.mg) (c := c) (P := P) (ps := ps) (closure_ok hfree) I.ok.glob (I.mod.glob.keeps I.bk) hcode (TB.code.keeps I.bk) hP' ht hc TB.gP bP fun c' ctv h' tk hx hge hlt hrec htb => ?_
    obtain ⟨c2, oc, vs, t, e2, hoc, hd, hv⟩ := hrec
    cases e2
    have nC : H c' = none := I.hok.fresh hge
    have I1 := inv_table (t' := tk) (more := #[rawInt pos.line, rawInt pos.col, .ref c']) (h' := h') I hP hx htb hge ⟨oc, vs, t, hoc, hd, hv⟩
    have hE : ExtN H (upd (upd H P (.tbl (ps ++ #[rawInt pos.line, rawInt pos.col, .ref c']))) c' (CodeO c' (X.env.qual ++ "<lambda>"))) := fun b o e n => by
      rw [upd_ne (ne_of_none e nC), upd_ne (fun z => n ps (Option.some.inj (e.symm.trans (by rw [z]; exact hP))))]
      exact e
    have eL : (ps ++ #[rawInt pos.line, rawInt pos.col, .ref c']).toList = ps.toList ++ [rawInt pos.line, rawInt pos.col, .ref c'] := by simp
    rw [hcl]
    refine h h'.objs.size c' _ _ (I1.laid (t' := tk) (fun b o e => Heap.get?_push_of_some _ e) (Nat.le_refl _) (lamO_ok (Heap.get?_push_size _ rfl))) hE (fun p hp => ?_) (I1.hok.fresh (Nat.le_refl _)) upd_same
    by_cases hb : p.1 = P
    · rw [hu p hp hb, hb]
      refine ⟨_, by rw [upd_ne (ne_of_none hP nC), upd_same], by rw [eL]; exact PySem.TriplesOk_snoc _ _ _ _ ht, fun p' cv hcv => ?_⟩
      rw [eL] at hcv
      rcases among_app _ ht hcv with z | z
      · obtain ⟨c0, e1, e2⟩ := ha p' cv z
        exact ⟨c0, e1, hE _ _ e2 codeO_ne⟩
      · exact ⟨c', z, upd_same⟩
    · obtain ⟨ps', a1, a2, a3⟩ := hT p hp
      refine ⟨ps', by rw [upd_ne (ne_of_none a1 nC), upd_ne hb]; exact a1, a2, fun p' cv hcv => ?_⟩
      obtain ⟨c0, e1, e2⟩ := a3 p' cv hcv
      exact ⟨c0, e1, hE _ _ e2 codeO_ne⟩
  | some cv =>
    obtain ⟨c', e, hco⟩ := ha pos cv hc
    subst e
    refine PySem.W.kla_makeFunctionHit (mg := X.mg) (c := c) (P := P) (ps := ps) (closure_ok hfree) I.ok.glob (I.mod.glob.keeps I.bk) hcode (TB.code.keeps I.bk) hP' ht hc bP fun ctv h' tk hx hsz => ?_
    have I1 : Inv X pins σ H { s with heap := h', toks := tk } := I.kept hx
    rw [hcl]
    exact h h'.objs.size c' H _ (I1.laid (t' := tk) (fun b o e => Heap.get?_push_of_some _ e) (Nat.le_refl _) (lamO_ok (Heap.get?_push_size _ rfl))) (ExtN.refl H) hT (I1.hok.fresh (Nat.le_refl _)) hco
end
def tLamD (T : List (Addr × Str)) (q : Str) (params : Arguments) (body : Expr) (scope : Scope) : TE := fun _ H Q => Tabs T H ∧ ∀ f c' H1, ExtN H H1 → Tabs T H1 → H1 c' = some (CodeO c' q) → H1 f = none → Q (.ref f) (upd H1 f (LamO f q params body scope c'))
/-- lambda x: e, without captured names, as a value -/
theorem pe_lamdef {X : Cx} {T : List (Addr × Str)} {c P : Addr} {params : Arguments} {body : Expr} {scope : Scope} {pos : Pos} (TB : TabB X.base X.mg c P) (hcode : X.env.code = .ref c)
    (hm : (P, X.env.qual ++ "<lambda>") ∈ T) (hu : ∀ p ∈ T, p.1 = P → p.2 = X.env.qual ++ "<lambda>") (hdef : defaultsOf params X.env = ([], [])) (hfree : ∀ y ∈ scope.names, y.2 ≠ .free) (hcl : cloFrom X.env.cells scope.names [] = [] := by rfl) :
    PE X (.Lambda params body scope pos) (tLamD T (X.env.qual ++ "<lambda>") params body scope) := by
  refine ⟨fun pins s σ H Q I h => ?_⟩
  obtain ⟨hT, h⟩ := h
  exact lam_makeO I TB hcode hm hu hT hdef (fun y hy e => absurd e (hfree y hy)) hcl fun f c' H1 s' I1 eN T1 hf hco => ⟨.ref f, _, I1, rfl, h f c' H1 eN T1 hco hf⟩
/-- the lambda is called -/
theorem run_lam {P : Program} {w : World} {K : PySem.W.Frag} {mg : Str → Option Value} {base : Heap} {k : Nat} {f c' : Addr} {q : Str} {params : Arguments} {body : Expr} {scope : Scope} {N ps : List Str} {tb : TE} (S : FnScope N ps scope)
    {A : Around} {outer : List Env} {s : Shared} {H : Hp} {us : List Value} {vs : List V} {Q : VK} (hr : Room (k + 1) A) (e0 : Env0 P w K mg base A outer s H) (hf : H f = some (LamO f q params body scope c')) (hc : H c' = some (CodeO c' q))
    (hb : ∀ pm cv ctv, bindArgs (PySem.W.kla_fn "<lambda>" q params body scope [] pm cv ctv) ⟨us, []⟩ = pure (ps.zip us)) (r : Vals vs us) (hl : vs.length = ps.length)
    (hbody : Room k (A.deeper (envOfC q scope s.heap.objs.size f (.ref c'))) → PE (cxOf C8.CX0 P w K mg base N q scope f (.ref c') A outer s H C8.E0) body tb) (ht : tb (L2.start N vs) H Q) :
    codeAny (model P w) A (.call (.ref f) ⟨us, []⟩) (CR C8.CX0 outer P w H s Q C8.E0) s := by
  have lim : s.heap.NoLimit := e0.mod.nolimit.keeps fun b o e => (e0.bs b o e).1
  have hkind : ∀ y ∈ ps.zip us, scope.names.lookup y.1 = some .local ∨ (scope.names.lookup y.1 = some .cell ∧ ((cellsFrom (s.heap.objs.size + 1) scope.names []).lookup y.1).isSome = true) := fun ⟨n, v⟩ hy => by
    rcases S.par n (List.of_mem_zip hy).1 with q | q
    · exact .inl q
    · exact .inr ⟨q, PySem.W.cellsFrom_some _ _ _ (.inl q)⟩
  obtain ⟨⟨pm, ctv, of⟩, _, _⟩ := e0.hok f _ hf
  obtain ⟨⟨oc, xs, t, hoc, hdc, hvc⟩, _, _⟩ := e0.hok c' _ hc
  refine PySem.W.kla_callFunE hr.depth of rfl S.co S.gen rfl ⟨c', oc, xs, t, rfl, hoc, hdc, hvc⟩ ?_
  rw [hb]
  refine wpAny_pure (wpAny_newFunctionEnv_cells S.kind hkind fun env he s1 x => ?_)
  subst he
  refine ⟨lim.keeps x.toInCall.keep, PySem.W.kla_codeExpr ?_⟩
  have I : Inv (cxOf C8.CX0 P w K mg base N q scope f (.ref c') A outer s H C8.E0) [] (L2.start N vs) H s1 := inv_start S hr.hd e0 hl r x
  refine wpAny_mono ((hbody (hr.deeper _)).run [] s1 (L2.start N vs) H Q I ht) (fun v s' hs => ?_) fun e s' hs => hs
  obtain ⟨w', H', J, rv, q⟩ := hs
  exact ⟨w', H', J.os, J.bare, J.base, J.hok, rv, q⟩
def tLam1 (i : Nat) (N : List Str) (q : Str) (params : Arguments) (body : Expr) (scope : Scope) (t : TA) (tb : TE) : TE := fun σ H Q => ∃ f c', σ[i]? = some (some (.ref f)) ∧ H f = some (LamO f q params body scope c') ∧
  t σ H fun vs H1 => vs.length = 1 ∧ H1 f = some (LamO f q params body scope c') ∧ H1 c' = some (CodeO c' q) ∧ tb (L2.start N vs) H1 Q
/-- x(e), x a name that holds such a lambda -/
theorem pe_lam1 {X : Cx} {k i : Nat} {x a q : Str} {params : Arguments} {body : Expr} {scope : Scope} {N : List Str} {tb : TE} {t : TA} {e : Expr} {p pos : Pos} (S : FnScope N [a] scope) (hr : Room (k + 1) X.A)
    (hb : ∀ pm cv ctv u, bindArgs (PySem.W.kla_fn "<lambda>" q params body scope [] pm cv ctv) ⟨[u], []⟩ = pure [(a, u)])
    (hbody : ∀ (A : Around) (outer : List Env) (s : Shared) (H : Hp) (f c' : Addr), Room k (A.deeper (envOfC q scope s.heap.objs.size f (.ref c'))) → PE (cxOf C8.CX0 X.prog X.w X.K X.mg X.base N q scope f (.ref c') A outer s H C8.E0) body tb)
    (hN : X.N[i]? = some x) (hv : Vis X.env.scope x) (ha : PA X [e] t) (hdb : (x == ("__debug__" : Str)) = false := by decide) (hcd : (x == ("__classdict__" : Str)) = false := by decide)
    (he : starEach [e] X.env = (false, eval e X.env) :: starEach [] X.env := by rfl) :
    PE X (.Call (.Name x p) [e] [] pos) (tLam1 i N q params body scope t tb) := by
  refine ⟨fun pins s σ H Q I h => ?_⟩
  obtain ⟨f, c', hs, hf, ht⟩ := h
  refine wpAny_Call_Name_kw (thn ((pe_var (pos := p) hN hv hdb hcd).run pins s σ H (fun v H1 => v = .ref f ∧ H1 = H) I ⟨.ref f, hs, rfl, rfl⟩) fun u s1 ⟨v, H1, I1, r1, q1⟩ => ?_)
  obtain ⟨rfl, rfl⟩ := q1
  obtain rfl : u = Value.ref f := r1
  obtain ⟨⟨pm, ctv, of⟩, _, _⟩ := I1.hok f _ hf
  have FA : PySem.W.FnAt f s1.heap := ⟨_, _, _, _, of⟩
  refine PySem.W.callWith_F (pos := pos) (env := X.env) (e := e) (rest := []) (first := []) FA (thn (ha.run pos pins s1 σ _ _ I1 ht) fun us s2 ⟨vs, H2, I2, r, hl, hf2, hc2, hq⟩ => ?_) he (by rfl)
  obtain ⟨⟨pm2, ctv2, of2⟩, _, _⟩ := I2.hok f _ hf2
  refine ⟨⟨_, _, _, _, of2⟩, ?_⟩
  have hlen := r.length
  obtain ⟨y, rfl⟩ : ∃ y, us = [y] := by
    match us, hlen with
    | [y], _ => exact ⟨y, rfl⟩
    | [], z =>
      rw [hl] at z
      cases z
    | _ :: _ :: _, z =>
      rw [hl] at z
      simp at z
  refine wpAny_call (codeAny_mono (run_lam (ps := [a]) S hr I2.env0 hf2 hc2 (fun pm cv ctv => hb pm cv ctv y) r hl (fun hr' => hbody _ _ _ _ f c' hr') hq) fun r' s' hq' => ?_)
  cases r' with
  | error e => exact (show False from hq').elim
  | ok fl =>
    cases fl with
    | ret u => exact I2.after hq'
    | next => exact False.elim hq'
    | brk => exact False.elim hq'
    | cont => exact False.elim hq'
/-! ### told: try: return a() / except x1: return r1 / .. -/
def wTold (K : PySem.W.Frag) (Q : VK) : List (Value × Str) → Value → Hp → Prop
  | [], _, _ => False
  | (c, r) :: l, cls, H => ∃ b, PySem.W.exmOne K cls c = some b ∧ (b = true → Q (.str r) H) ∧ (b = false → wTold K Q l cls H)
def TTm (K : PySem.W.Frag) (l : List (Value × Str)) : (XK → Hp → VK → Prop) → Hp → VK → Prop := fun tl H Q => tl (fun cls _ H' => wTold K Q l cls H') H Q
abbrev retsOf (l : List (Value × Str)) : List (Value × (Addr → Value → Option Addr → TS)) := l.map fun q => (q.1, fun _ _ _ => tRet (tC (.str q.2)))
theorem many_of {K : PySem.W.Frag} {D : Ends} {cls : Value} {d : Option Addr} {σ : L2.St} {H : Hp} : ∀ {l : List (Value × Str)}, wTold K D.rt l cls H → wMany K (fun _ _ _ _ => False) D (retsOf l) cls d σ H
  | [], h => h
  | (c, r) :: l, ⟨b, e, h1, h2⟩ => ⟨b, e, fun hb a _ => h1 hb, fun hb => many_of (h2 hb)⟩
theorem told_givesM {X : Cx} {Ng : List Str} {x a q : Str} {sg : Scope} {g : Addr} {cdg : Value} {h0 : ExceptHandler} {hds : List ExceptHandler} {l : List (Value × Str)} {p1 p2 p3 p8 : Pos} (h0' : ∀ f : Addr, (L2.start Ng [V.ref f])[0]? = some (some (V.ref f)))
    (hh : ∀ s H, HdsOk (cxOf C8.CX0 X.prog X.w X.K X.mg X.base Ng x sg g cdg X.A X.stack s H C8.E0).nox (h0 :: hds) (retsOf l)) :
    GivesTo X Ng x sg g cdg [.Try [.Return (some (.Call (.Name a p1) [] [] p2)) p3] (h0 :: hds) [] [] p8] a q (TTm X.K l) := by
  intro f c' s H Q tl act hc h
  refine ⟨_, pss_one (ps_try_many (X := (cxOf C8.CX0 X.prog X.w X.K X.mg X.base Ng x sg g cdg X.A X.stack s H C8.E0).nox) (Wout := fun _ _ _ _ => False)
      (tb := fun W D σ H => ∃ Ech : XK, (∀ cls d σ' H', Ech cls d H' → W cls d σ' H') ∧ σ[0]? = some (some (.ref f)) ∧ H c' = some (CodeO c' q) ∧ tl Ech H D.rt)
      rfl rfl takes0 (fun W pn xe tk _ => ?_) (hh s H)), ?_⟩
  · refine ⟨fun pins s' σ H' D I h' => ?_⟩
    obtain ⟨Ech, hW, h1, h2, h3⟩ := h'
    have hp := act W pn xe Ech p1 p2 tk hW
    have hq := pss_one (ps_ret (pos := p3) hp)
    exact hq.run pins s' σ H' D I ⟨h1, h2, h3⟩
  · exact ⟨fun cls _ H' => wTold X.K Q l cls H', fun cls d σ' H' hw => many_of hw, h0' f, hc, h⟩
end LamX

set_option Elab.async false
set_option linter.all false
set_option maxRecDepth 100000
set_option maxHeartbeats 4000000
/-! ## own rules: enumerate of a tuple -/
namespace L2
open PySem PySem.Spec PyProof.Rows
open AutoSeq1 (wpAny_loadPart')
theorem meets_enumerate_newT (l : Addr) (items : Array Value) (n : Nat) (dct : Option Addr) (sl : Array (Option Value)) :
    Meets (Builtin.«enumerate.__new__» ⟨[.type "enumerate", .ref l], []⟩) (fun _ R s => s.heap.get? l = some { cls := .type "tuple", dict := dct, data := .seq items n, slots := sl } ∧
      R (.ok (.ret (.ref (s.heap.push { cls := .type "tuple_iterator", data := .fields #[.ref l, .int 0 0] }).objs.size)))
        { s with heap := (s.heap.push { cls := .type "tuple_iterator", data := .fields #[.ref l, .int 0 0] }).push { cls := .type "enumerate", data := .fields #[.none, .bool false, .ref s.heap.objs.size, rawInt 0, .none, .none] } }) :=
  .of_wp fun prog w A R s h => by
    obtain ⟨hp, g, d, tk, os⟩ := s; obtain ⟨hl, h⟩ := h
    have hsub := sub_enumerate
    have hL : Heap.IsTuple (Shared.heap ⟨hp, g, d, tk, os⟩) l items := ⟨_, hl, rfl, n, rfl⟩
    wp_walk using wpAny_loadPart' hl
    refine wpAny_stack_any fun st => wpAny_pure ?_
    split
    · rename_i c _ _ _ _ _
      cases (c == Value.type "enumerate")
      · wp_walk using wpAny_loadPart' hl, wpAny_pyIter_tuple hL
        exact ⟨_, rfl, h⟩
      · wp_walk using wpAny_loadPart' hl, wpAny_pyIter_tuple hL
        exact ⟨_, rfl, h⟩
    · wp_walk using wpAny_loadPart' hl, wpAny_pyIter_tuple hL
      exact ⟨_, rfl, h⟩
section
variable {prog : Program} {w : World} {A : Around} {E : Value → Shared → Prop} {s : Shared}
theorem call_enumerate_tuple {l : Addr} {items : Array Value} {Q : Value → Shared → Prop} (hL : s.heap.IsTuple l items)
    (h : ∀ h', IsEnum h' (s.heap.objs.size + 1) s.heap.objs.size 0 .none → h'.IsTupleIter s.heap.objs.size l 0 → h'.objs.size = s.heap.objs.size + 2 →
      (∀ b o, s.heap.get? b = some o → h'.get? b = some o) → Q (.ref (s.heap.objs.size + 1)) { s with heap := h' }) :
    wpAny (model prog w) A (call (.type "enumerate") [.ref l]) Q E s := by
  obtain ⟨⟨c, dct, dt, sl⟩, hl, hc, n, hd⟩ := hL
  replace hc : c = .type "tuple" := hc
  replace hd : dt = .seq items n := hd
  subst hc hd
  refine callType_new F.called_enumerate (by decide) (F.typeCall_enumerate_1 _) (F.newCall_enumerate_1 _) (fun obj => F.args_object_init_2 obj _) F.entry_enumerate_new
    (meets_enumerate_newT l items n dct sl) ⟨hl, ?_⟩
  have hz : (s.heap.push { cls := .type "tuple_iterator", data := .fields #[.ref l, .int 0 0] }).objs.size = s.heap.objs.size + 1 := Heap.size_push ..
  show _ ∧ _
  rw [hz]
  have he : IsEnum ((s.heap.push { cls := .type "tuple_iterator", data := .fields #[.ref l, .int 0 0] }).push
      { cls := .type "enumerate", data := .fields #[.none, .bool false, .ref s.heap.objs.size, rawInt 0, .none, .none] }) (s.heap.objs.size + 1) s.heap.objs.size 0 .none := by
    have := Heap.get?_push_size (s.heap.push { cls := .type "tuple_iterator", data := .fields #[.ref l, .int 0 0] })
      (o := { cls := .type "enumerate", data := .fields #[.none, .bool false, .ref s.heap.objs.size, rawInt 0, .none, .none] }) rfl
    rw [hz] at this; exact this
  refine ⟨⟨_, he, rfl⟩, h _ he ⟨_, Heap.get?_push_of_some _ (Heap.get?_push_size _ rfl), rfl, rfl⟩ (by rw [Heap.size_push, hz]) fun b o x => Heap.get?_push_of_some _ (Heap.get?_push_of_some _ x)⟩
end
/-- the tuple at a, each item in a new pair -/
def IteT (K : PySem.W.Frag) (a : Addr) : It :=
  ⟨fun i H => ∃ (xs : List V) (x : V), SqT K H a xs ∧ xs[i]? = some x, fun i H v H' => ∃ T x, v = .ref T ∧ H T = none ∧ H' = upd H T (.tup [.int (i : Nat), x]) ∧ ∀ xs, SqT K H a xs → xs[i]? = some x, fun i H => ∃ xs : List V, SqT K H a xs ∧ xs.length ≤ i⟩
theorem tup_apart {h : Heap} {a it : Addr} {i : Nat} {items : Array Value} (p : h.IsTuple a items) (q : h.IsTupleIter it a i) : a ≠ it := fun z => by
  obtain ⟨o, e1, c1, _⟩ := p
  obtain ⟨o2, e2, c2, _⟩ := q
  rw [z, e2] at e1
  cases e1
  rw [c2] at c1
  exact absurd (Value.type.inj c1) (by decide)
theorem next_enum_endT {prog : Program} {w : World} {A : Around} {E : Value → Shared → Prop} {s : Shared} {e it l : Addr} {i : Nat} {items : Array Value} {old : Value} {Q : Option Value → Shared → Prop} (hh : A.handled = none)
    (he : IsEnum s.heap e it i old) (hit : s.heap.IsTupleIter it l i) (hl : s.heap.IsTuple l items) (hx : items[i]? = none)
    (hQ : ∀ h', Heap.ExtBut it s.heap h' → Q none { s with heap := h' }) : wpAny (model prog w) A (pyNext (.ref e)) Q E s := by
  have hT : s.TypeIs (.ref e) "enumerate" := ⟨_, he, rfl⟩
  unfold pyNext
  refine wpAny_bind (wpAny_attempt (wpAny_callSpecial?_slot (name := Str.ofString "__next__") hT F.slot_enumerate_next
    (wpAny_call_entry F.slot_enumerate_next hT F.entry_enumerate_next ?_ (F.args_enumerate_next_1 _))))
  show wpAny _ _ (field (.ref e) 2 >>= _) _ _ _
  refine wpAny_bind (wpAny_field he rfl (x := .ref it) rfl ?_)
  refine wpAny_bind (wpAny_nextOf_tuple_end hh hit hl hx fun h' x he' hx' => ?_)
  obtain ⟨o, ho, hc⟩ := hx'
  refine wpAny_bind (wpAny_isInstance (T := "StopIteration") (b := true) ⟨o, ho, hc⟩ isSubtype_stop ?_)
  exact wpAny_pure (hQ _ he')
theorem turn_enumT {P : Program} {w : World} {K : PySem.W.Frag} {elts : List Expr} {kk : Nat} {tpos : Pos} (a e it : Addr) :
    Turn P w K (.Tuple elts kk tpos) (IteT K a) [e, it] e (fun i h => (∃ old, IsEnum h e it ((i : Nat) : Int) old) ∧ h.IsTupleIter it a i ∧ e ≠ it) where
  mem := by simp
  obj := fun i h st b hb => by
    obtain ⟨⟨old, he⟩, ⟨o, ho, hc, hd⟩, _⟩ := st
    have e' : b = e ∨ b = it := by simpa using hb
    rcases e' with z | z
    · rw [z]; exact ⟨_, he, fun v q => nomatch q⟩
    · rw [z]; exact ⟨o, ho, fun v q => by rw [hd] at q; cases q⟩
  keep := fun i h h' st k => let ⟨⟨old, he⟩, ⟨o, ho, r⟩, hne⟩ := st; ⟨⟨old, k e (by simp) _ he⟩, ⟨o, k it (by simp) o ho, r⟩, hne⟩
  item := by
    intro X hP hw hK hc i pins s σ H E I hf st hg
    subst hP hw hK
    obtain ⟨⟨old, he⟩, hit, hne⟩ := st
    obtain ⟨xs, x, hq, hx⟩ := hg
    obtain ⟨its, rv, p, hz⟩ := I.tuple hq
    obtain ⟨u, hu, ru⟩ := rv.get hx
    have hel : e < s.heap.objs.size := Heap.lt_size he
    have hil : it < s.heap.objs.size := by obtain ⟨_, q, _⟩ := hit; exact Heap.lt_size q
    have hlt : i < its.toArray.size := by
      rcases Nat.lt_or_ge i its.length with z | z
      · simpa using z
      · rw [List.getElem?_eq_none z] at hu
        cases hu
    have hai := tup_apart p hit
    have hae : e ≠ a := fun z => by
      obtain ⟨o, e1, c1, _⟩ := p
      have he1 : s.heap.get? e = some _ := he
      rw [← z, he1] at e1
      cases e1
      exact absurd (Value.type.inj c1) (by decide)
    have D := Draws.tuple (prog := X.prog) (w := X.w) (A := X.A.in1) (I.ok.hd hc) it a hai its.toArray
    have hef : e ∉ [it, a] := by
      simp only [List.mem_cons, List.not_mem_nil, or_false, not_or]
      exact ⟨hne, hae⟩
    refine wpAny_pyNext_enum_itemD D he (by exact ⟨hit, p⟩) hlt hne hef fun y h' tk hy ho hst' hT hsz hk => ?_
    have ey : y = u := by
      have e1 : its.toArray[i]? = some u := by simpa using hu
      rw [e1] at hy
      exact (Option.some.inj hy).symm
    subst ey
    refine ⟨_, rfl, wpAny_letOwnedTupleGo_enum (s := { s with heap := h', toks := tk + 1 }) ho fun h'' he' sb => ?_⟩
    have hT2 : h''.get? s.heap.objs.size = some { cls := .type "tuple", data := .seq #[.int i tk, y] } := (sb.2 _ (Nat.ne_of_gt hel)).trans hT
    have new : ObjOk X.prog X.w (upd H s.heap.objs.size (.tup [.int (i : Nat), x])) h'' s.heap.objs.size (.tup [.int (i : Nat), x]) :=
      ⟨by show 2 ≤ sizeLine; decide, [.int i tk, y], .cons ⟨_, rfl⟩ (.cons ru .nil), ⟨_, hT2, rfl, _, rfl⟩⟩
    have I1 : Inv X pins σ (upd H s.heap.objs.size (.tup [.int (i : Nat), x])) { s with heap := h'', toks := tk + 1 } :=
      I.turnedNew (ch := [e, it]) (fun b ob hb q => (sb.2 b (fun z => hb (by simp [z]))).trans (hk b ob (fun z => hb (by simp [z])) (fun z => hb (by simp [z])) q)) hf (Nat.le_refl _) new
    refine ⟨.ref s.heap.objs.size, _, I1, rfl, ⟨_, x, rfl, I.hok.fresh (Nat.le_refl _), rfl, fun ys hy => by rw [I.tuple_inj hy hq]; exact hx⟩, ⟨⟨y, ?_⟩, ?_, hne⟩, fun b hb => ?_⟩
    · have e1 : ((i + 1 : Nat) : Int) = (i : Int) + 1 := by omega
      rw [e1]; exact he'
    · obtain ⟨o, e1, c1, d1⟩ := hst'.1
      exact ⟨o, (sb.2 it (Ne.symm hne)).trans e1, c1, d1⟩
    · have hb' : b < s.heap.objs.size := by
        have e' : b = e ∨ b = it := by simpa using hb
        rcases e' with z | z
        · rw [z]; exact hel
        · rw [z]; exact hil
      rw [upd_ne (Nat.ne_of_lt hb')]
      exact (hf b hb).1
  done := by
    intro X hP hw hK hc i pins s σ H E I hf st hg
    subst hP hw hK
    obtain ⟨⟨old, he⟩, hit, hne⟩ := st
    obtain ⟨xs, hq, hx⟩ := hg
    obtain ⟨its, rv, p, hz⟩ := I.tuple hq
    obtain ⟨f0, f1, f2, f3, f4, f5⟩ := hf it (by simp)
    have hl := rv.length
    exact next_enum_endT (I.ok.hd hc) he hit p (by simp; omega) fun h' eb => ⟨rfl, I.turned (t' := s.toks) (fun b o hb q => eb b o hb q) f0 f1 f3 f4 f5⟩
  self := fun A i s Q E st h => let ⟨⟨_, he⟩, _⟩ := st; wpAny_pyIter_enum he h
def iEnumT (K : PySem.W.Frag) (ta : TA) : TI := fun σ H R => ta σ H fun vs H1 => ∃ a xs, vs = [.ref a] ∧ SqT K H1 a xs ∧ R (IteT K a) H1
theorem enumTK {X : Cx} (K : PySem.W.Frag) {e : Expr} {ta : TA} {p pos tpos : Pos} {elts : List Expr} {kk : Nat} (hg : Gl X "enumerate") (hm : X.mg "enumerate" = none) (ha : PA X [e] ta) (hs : starEach [e] X.env = [(false, eval e X.env)] := by rfl) (hK : X.K = K := by rfl) :
    PI X (.Tuple elts kk tpos) (.Call (.Name "enumerate" p) [e] [] pos) (iEnumT K ta) := by
  subst hK
  refine ⟨fun pins s σ H R I h => ?_⟩
  refine Call_ (ld_blt I hg hm boot_enumerate (PyProof.Rows.callWith_type1 (thn (ha.run pos pins s σ H _ I h) fun us s1 ⟨vs, H1, I1, r1, q1⟩ => ?_) hs rfl))
  obtain ⟨a, xs, ex, hq, q⟩ := q1
  subst ex
  cases r1 with
  | cons r rr =>
    cases rr
    cases r
    obtain ⟨its, rv, p', hz⟩ := I1.tuple hq
    refine call_enumerate_tuple p' fun h' he hit hsz hk => wpAny_pyIter_enum he ?_
    have I2 : Inv X pins σ H1 { s1 with heap := h' } := I1.kept (t' := s1.toks) hk
    refine ⟨s1.heap.objs.size + 1, [s1.heap.objs.size + 1, s1.heap.objs.size], _, _, H1, rfl, I2, turn_enumT a (s1.heap.objs.size + 1) s1.heap.objs.size, ⟨⟨.none, he⟩, hit, Nat.succ_ne_self _⟩, fun b hb => ?_, q⟩
    have e' : b = s1.heap.objs.size + 1 ∨ b = s1.heap.objs.size := by simpa using hb
    have hle : s1.heap.objs.size ≤ b := by
      rcases e' with z | z
      · rw [z]; exact Nat.le_add_right _ _
      · rw [z]; exact Nat.le_refl _
    exact I1.fpOk hle (I1.hok.fresh hle)
/-- a comprehension over enumerate of a tuple that stays -/
theorem lc_enumT {K : PySem.W.Frag} {a : Addr} {xs : List V} {g : TG} {tt : TT} {te : TE} {vs : List Nat} {σ : L2.St} {H1 : Hp} {D : Addr} {Qd : Hp → Prop} (Pv : Nat → Hp → Prop) (h0 : Pv 0 (upd H1 D (.lst []))) (hl : ∀ i H, i ≤ xs.length → Pv i H → SqT K H a xs)
    (hs : ∀ i x T H, xs[i]? = some x → Pv i H → H T = none → g (.ref T) (wipe σ vs) (upd H T (.tup [.int (i : Nat), x])) fun σ2 H2 => wipe σ2 vs = wipe σ vs ∧ tt σ2 H2 fun b H3 =>
      if b = true then te σ2 H3 fun y H4 => ∃ acc, H4 D = some (.lst acc) ∧ acc.length < sizeLine ∧ Pv (i + 1) (upd H4 D (.lst (acc ++ [y]))) else Pv (i + 1) H3) (hd : ∀ H, Pv xs.length H → Qd H) :
    ∃ W : Nat → Nat → Hp → Prop, (∃ m, W 0 m (upd H1 D (.lst []))) ∧ ∀ i m H, W i m H →
      ((IteT K a).stop i H ∧ Qd H) ∨ ((IteT K a).go i H ∧ ∃ Nx : Hp → Prop, (∀ H', Nx H' → ∃ m', m' < m ∧ W (i + 1) m' H') ∧ ∀ x H', (IteT K a).yld i H x H' → g x (wipe σ vs) H' fun σ2 H2 => wipe σ2 vs = wipe σ vs ∧ tt σ2 H2 fun b H3 =>
        if b = true then te σ2 H3 fun y H4 => ∃ acc, H4 D = some (.lst acc) ∧ acc.length < sizeLine ∧ Nx (upd H4 D (.lst (acc ++ [y]))) else Nx H3) := by
  refine ⟨fun i m H => m = xs.length - i ∧ i ≤ xs.length ∧ Pv i H, ⟨xs.length, by simp, Nat.zero_le _, h0⟩, ?_⟩
  rintro i m H ⟨rfl, hi, p⟩
  have q := hl i H hi p
  by_cases hlt : i < xs.length
  · refine .inr ⟨⟨xs, xs[i], q, by simp [hlt]⟩, Pv (i + 1), fun H' p' => ⟨xs.length - (i + 1), by omega, rfl, hlt, p'⟩, fun x H' y => ?_⟩
    obtain ⟨T, x', rfl, hT, rfl, f⟩ := y
    exact hs i x' T _ (f xs q) p hT
  · have e : i = xs.length := by omega
    subst e
    exact .inl ⟨⟨xs, q, Nat.le_refl _⟩, hd H p⟩
end L2

set_option Elab.async false
set_option linter.all false
set_option maxRecDepth 100000
set_option maxHeartbeats 4000000
/-! ## own rules, with the written part said -/
namespace L2
open PySem PySem.Spec PyProof.Rows
section
variable {X : Cx} (K : PySem.W.Frag)
theorem anyK (hc : X.calm = true := by rfl) (h : X.K = K := by rfl) : CallR X (.builtin "any") (rAny K) := by subst h; exact cr_any hc
theorem allK (hc : X.calm = true := by rfl) (h : X.K = K := by rfl) : CallR X (.builtin "all") (rAll K) := by subst h; exact cr_all hc
theorem isiK (h : X.K = K := by rfl) : CallR X (.builtin "isinstance") (rIsi K) := by subst h; exact call_isi
theorem catAK (h : X.K = K := by rfl) : OpR X (binaryOp .Add) (rCatA K) := by subst h; exact op_catA
theorem slAK (h : X.K = K := by rfl) : SlR X (rSlA K) := by subst h; exact sl_tupA
theorem sortedSK (h : X.K = K := by rfl) : CallR X (.builtin "sorted") (rSortedS K) := by subst h; exact cr_sortedS
theorem tupDK (hc : X.calm = true := by rfl) : CallR X (.type "tuple") rTupD := call_tuple_dK hc
/-- x in a dict or a row of flat things -/
def rInAny (K : PySem.W.Frag) : R2 := fun x y H Q => ∃ p b, y = .ref p ∧ ((∃ ov, DGet H p x ov ∧ b = ov.isSome) ∨ ∃ xs, (SqL K H p xs ∨ SqT K H p xs) ∧ flatV x = true ∧ xs.all flatV = true ∧ b = inV x xs) ∧ Q (.bl b) H
theorem inAny (hu : X.A.units + 1 < cLine) (h : X.K = K := by rfl) : OpR X (compareOp .In) (rInAny K) := by
  subst h
  intro pins s σ H x y v u Q I rx ry h
  obtain ⟨p, b, rfl, h, q⟩ := h
  rcases h with ⟨ov, g, rfl⟩ | ⟨xs, h1, h2, h3, rfl⟩
  · obtain rfl : u = Value.ref p := ry
    exact d_in hu I g rx fun s3 I3 => ⟨.bl ov.isSome, H, I3, rfl, q⟩
  · exact op_in_seq pins s σ H x _ v u Q I rx ry ⟨p, xs, rfl, h1, h2, h3, q⟩
/-- == of a tuple and a bare tuple -/
def rEqT0 (K : PySem.W.Frag) : R2 := fun x y H Q => ∃ a b xs, x = .ref a ∧ y = .ref b ∧ SqT K H a xs ∧ SqT K H b [] ∧ Q (.bl (decide (xs.length = 0))) H
theorem eqT0 (hu : X.A.units < cLine) (hK : X.K = K := by rfl) : OpR X (compareOp .Eq) (rEqT0 K) := by
  subst hK
  intro pins s σ H x y v u Q I rx ry h
  obtain ⟨a, b, xs, rfl, rfl, h1, h2, q⟩ := h
  obtain rfl : v = Value.ref a := rx
  obtain rfl : u = Value.ref b := ry
  obtain ⟨is, r1, l1, z1⟩ := I.tuple h1
  obtain ⟨js, r2, l2, z2⟩ := I.tuple h2
  have hj : js.length = 0 := r2.length.symm
  have hi := r1.length
  show wpAny _ _ (richCompare .Eq (.ref a) (.ref b)) _ _ _
  have e0 : decide (xs.length = 0) = ((List.range (min is.toArray.size js.toArray.size)).all (fun _ => true) && is.toArray.size == js.toArray.size) := by
    simp only [List.size_toArray, hj, hi]
    cases is <;> simp
  rw [e0] at q
  exact SeqAt.RcAt.tuples (e := fun _ => true) l1 l2 hu (fun j h1 h2 => absurd h2 (by simp; omega)) _ _ _ _ ⟨.bl _, H, I, rfl, q⟩
/-- x is not True, x a bool -/
def rNotTrue : R2 := fun x y H Q => ∃ k, x = .bl k ∧ y = .bl true ∧ Q (.bl (!k)) H
theorem opNotTrue : OpR X (compareOp .IsNot) rNotTrue := by
  intro pins s σ H x y v u Q I rx ry h
  obtain ⟨k, rfl, rfl, q⟩ := h
  obtain rfl : v = Value.bool k := rx
  obtain rfl : u = Value.bool true := ry
  refine PySem.wpAny_isNot_plain (by rfl) ⟨.bl (!k), H, I, ?_, q⟩
  cases k <;> rfl
end
end L2

set_option Elab.async false
set_option linter.all false
set_option maxRecDepth 100000
set_option maxHeartbeats 4000000
/-! ## own rules: a def whose code object is known -/
namespace L2
open PySem PySem.Spec PyProof.Rows
structure FunC (K : PySem.W.Frag) (x qual : Str) (st : Stmt) (f : Addr) (fd : FuncData) (c : Addr) : Prop where
  ex : ∃ (oc : Value) (od : Option Addr) (kV doc pm : Value) (an : Option Addr) (ct : Value) (osl : Array (Option Value)),
    fd = PySem.W.fnOf x qual (defArgs st) (defBody st) (defScope st) .none kV doc pm an (.ref c) ct ∧ K.lookup f = some ⟨oc, od, .func fd, osl⟩ ∧ PySem.W.codeIn K (.ref c) qual = true
theorem FunC.ok {P : Program} {w : World} {K : PySem.W.Frag} {mg : Str → Option Value} {base : Heap} {x qual : Str} {st : Stmt} {f c : Addr} {fd : FuncData} {N ps : List Str} {k : Nat} {sp : Sp} (F : FunC K x qual st f fd c) (S : FnScope N ps (defScope st)) (len : ∀ vs H Q E, sp vs H Q E → vs.length = ps.length)
    (hbody : ∀ (A : Around) (outer : List Env) (s : Shared) (H : Hp) (vs : List V) (Q : VK) (E : XK), Room k (A.deeper (envOfC qual (defScope st) s.heap.objs.size f (.ref c))) → sp vs H Q E →
      ∃ t, PSs (cxOf CX0 P w K mg base N qual (defScope st) f (.ref c) A outer s H E).nox (defBody st) t ∧ t { nx := fun _ H' => Q .non H', rt := Q } (start N vs) H) : FnOk P w K mg base CX0 (k + 1) f fd ps sp := by
  obtain ⟨oc, od, kV, doc, pm, an, ct, osl, rfl, lk, hcd⟩ := F.ex
  refine fn_of lk hcd S len fun A outer s H vs Q E hr hsp => ?_
  obtain ⟨t, h, q⟩ := hbody A outer s H vs Q E hr hsp
  exact ⟨t, h.nox, q⟩
theorem FunC.tab {K : PySem.W.Frag} {h : Heap} {x qual : Str} {st : Stmt} {f c Pt : Addr} {fd : FuncData} (F : FunC K x qual st f fd c) (hd : PySem.W.codeHdIn K c Pt = true) (OT : LamX.OwnTab K f h) : h.get? Pt = some { cls := .none, data := .fields #[] } := by
  obtain ⟨oc, od, kV, doc, pm, an, ct, osl, rfl, lk, hcd⟩ := F.ex
  unfold PySem.W.codeHdIn at hd
  split at hd
  · rename_i vs sl hk
    simp only [Bool.and_eq_true] at hd
    obtain ⟨⟨⟨⟨⟨e1, _⟩, _⟩, _⟩, _⟩, _⟩ := hd
    split at e1
    · rename_i P' h11
      have hP : P' = Pt := beq_iff_eq.mp e1
      subst hP
      exact OT c P' _ _ _ _ vs _ lk rfl rfl hk h11
    · cases e1
  · cases hd
section
variable {X : Cx} {e : Expr} {es : List Expr} {t : TA} {o : Expr} {to : TE} {apos cpos : Pos}
theorem extK (K : PySem.W.Frag) (ho : PE X o to) (ha : PA X (e :: es) t) (hbase : attributeBase o "extend" X.env (eval o X.env) = eval o X.env := by rfl)
    (hfew : ((backTo cpos (starEach (e :: es) X.env)).all (fun x => !x.1) && (backToKw cpos (keywordEach [] X.env)).all (fun x => x.1.isSome)
      && decide ((e :: es).length + ([] : List Keyword).length + (if ([] : List Keyword).isEmpty then 0 else 1) < 30)) = true := by rfl)
    (hline : (apos.endLine == cpos.line) = true := by rfl) (hs : starEach (e :: es) X.env = (false, eval e X.env) :: starEach es X.env := by rfl) (hplain : (backTo cpos (starEach es X.env)).any (·.1) = false := by rfl) (h : X.K = K := by rfl) :
    PE X (.Call (.Attribute o "extend" apos) (e :: es) [] cpos) (tBM K "list" (rExtT K) to t) := by
  subst h
  exact pe_bm PySem.F.plainAttrs_list PySem.F.slot_list_extend PySem.F.type_list_extend (mt_extendT X.K) ho ha hbase hfew hline hs hplain
end
end L2

set_option Elab.async false
set_option linter.all false
set_option maxRecDepth 100000
set_option maxHeartbeats 4000000
/-! ## own rules: e.f op= value with K said -/
namespace L2
open PySem PySem.Spec PyProof.Rows
section
variable {X : Cx} (K : PySem.W.Frag) {o e value : Expr} {f : Str} {pos pos' tpos : Pos} {ta tv : TE}
theorem fldaugK {op : Operator} {rd : V → V → Hp → VK → Prop} (ha : PE X o ta) (hv : PE X value tv) (hop : InOp X op rd) (hK : X.K = K := by rfl) : PS X (.AugAssign (.Attribute o f tpos) op value pos) (sFldAug K ta tv rd f) := by
  subst hK
  exact ps_fldaug ha hv hop
end
end L2

set_option Elab.async false
set_option linter.all false
set_option maxRecDepth 100000
set_option maxHeartbeats 4000000
/-! ## own rules: lists of one dict compared, rows of unlike kinds compared, a bare dict seen as one of rows -/
namespace PySem.SeqAt
open AutoSeq1 (wpAny_loadPart')
open MeetsSeq MeetsSeq2 MeetsSeq3 SeqRoads2
section
variable {P : Program} {W : World}
theorem unlike_end (p q : Addr) (xs ys : Array Value) (nx : xs[1]? = none) (ny : ys[1]? = none) (hz : xs.size = ys.size) (m m2 : Nat) (o o2 : Option Addr) (z z2 : Array (Option Value)) :
    MeetsIn P W (Builtin.«list.__eq__.loop» ⟨[.ref p, .ref q, rawInt 1, rawInt 3], []⟩)
      (fun _ F t => (t.heap.get? p = some { cls := .type "list", dict := o, data := .seq xs m, slots := z } ∧ t.heap.get? q = some { cls := .type "list", dict := o2, data := .seq ys m2, slots := z2 }) ∧
        F (.ok (.ret (.bool false))) t) := by
  rintro B F ⟨hp, g, d, tk, os⟩ ⟨⟨h1, h2⟩, f⟩
  wp_walk using wpAny_loadPart' h1, wpAny_loadPart' h2
  have nx' : xs[Int.toNat 1]? = none := nx
  have ny' : ys[Int.toNat 1]? = none := ny
  rw [nx', ny']
  wp_walk using wpAny_loadPart' h1, wpAny_loadPart' h2
  show F (.ok (.ret (.bool (xs.size != ys.size)))) _
  rw [hz]
  simpa using f
theorem unlike_loop (p q : Addr) (xs ys : Array Value) {x y : Value} (sx : xs[0]? = some x) (sy : ys[0]? = some y) (nx : xs[1]? = none) (ny : ys[1]? = none) (hz : xs.size = ys.size) (m m2 : Nat) (o o2 : Option Addr) (z z2 : Array (Option Value)) :
    MeetsIn P W (Builtin.«list.__eq__.loop» ⟨[.ref p, .ref q, rawInt 0, rawInt 3], []⟩)
      (fun B F t => (t.heap.get? p = some { cls := .type "list", dict := o, data := .seq xs m, slots := z } ∧ t.heap.get? q = some { cls := .type "list", dict := o2, data := .seq ys m2, slots := z2 }) ∧
        EqIn P W B.in1 t x y true ∧ F (.ok (.ret (.bool false))) t) := by
  rintro B F ⟨hp, g, d, tk, os⟩ ⟨⟨h1, h2⟩, k, f⟩
  wp_walk using wpAny_loadPart' h1, wpAny_loadPart' h2
  have sx' : xs[Int.toNat 0]? = some x := sx
  have sy' : ys[Int.toNat 0]? = some y := sy
  rw [sx', sy']
  refine wpAny_bind (k _ _ ?_)
  wp_walk
  refine ⟨plainId_quiet plain_eq_loop _, codeAny_builtin entry_eq_loop ?_⟩
  rw [Around.under_plainId plain_eq_loop _]
  exact unlike_end p q xs ys nx ny hz m m2 o o2 z z2 _ _ _ ⟨⟨h1, h2⟩, f⟩
theorem unlike_one (p q : Addr) (xs ys : Array Value) {x y : Value} (sx : xs[0]? = some x) (sy : ys[0]? = some y) (nx : xs[1]? = none) (ny : ys[1]? = none) (hz : xs.size = ys.size) (m m2 : Nat) (o o2 : Option Addr) (z z2 : Array (Option Value)) :
    MeetsIn P W (Builtin.«list.__ne__» ⟨[.ref p, .ref q], []⟩)
      (fun B F t => (t.heap.get? p = some { cls := .type "list", dict := o, data := .seq xs m, slots := z } ∧ t.heap.get? q = some { cls := .type "list", dict := o2, data := .seq ys m2, slots := z2 }) ∧
        EqIn P W B.in1 t x y true ∧ F (.ok (.ret (.bool false))) t) := by
  rintro B F ⟨hp, g, d, tk, os⟩ ⟨⟨h1, h2⟩, k, f⟩
  have sub := AutoSeq1.sub_list_list
  have nn : ¬ (xs.size != ys.size) = true := by simp [hz]
  wp_walk using wpAny_loadPart' h1, wpAny_loadPart' h2
  refine ⟨plainId_quiet plain_eq_loop _, codeAny_builtin entry_eq_loop ?_⟩
  rw [Around.under_plainId plain_eq_loop _]
  exact unlike_loop p q xs ys sx sy nx ny hz m m2 o o2 z z2 _ _ _ ⟨⟨h1, h2⟩, k, f⟩
theorem unlike_lists {B : Around} {t : Shared} {Fq : Value → Shared → Prop} {G : Value → Shared → Prop} {p q : Addr} {x y : Value} (h1 : t.heap.IsList p #[x]) (h2 : t.heap.IsList q #[y]) (room : B.units < cLine)
    (k : EqIn P W B.in1 t x y true) (f : Fq (.bool false) t) : wpAny (model P W) B (richCompare .NotEq (.ref p) (.ref q)) Fq G t := by
  obtain ⟨⟨c, o, u, z⟩, e1, e2, m, e3⟩ := id h1
  obtain ⟨⟨c2, o2, u2, z2⟩, g1, g2, m2, g3⟩ := id h2
  simp only at e2 e3 g2 g3
  subst e2 e3 g2 g3
  refine wpAny_richCompare_same_room (T := "list") (op := .NotEq) ⟨_, e1, rfl⟩ ⟨_, g1, rfl⟩ F.slot_list_ne ?_ room
  exact call_meetsIn F.slot_list_ne ⟨_, e1, rfl⟩ F.entry_list_ne (F.args_list_ne_2 _ _) (unlike_one p q #[x] #[y] rfl rfl rfl rfl rfl m m2 o o2 z z2) ⟨⟨e1, g1⟩, k, fun w => (nomatch w), f⟩
end
end PySem.SeqAt
namespace L2
open PySem PySem.Spec PyProof.Rows
section
variable {X : Cx} (K : PySem.W.Frag)
theorem seenT {pins : List (Addr × Obj)} {s : Shared} {σ : L2.St} {H : Hp} {d : Addr} (I : Inv X pins σ H s) (e : H d = some (.dK [])) : Inv X pins σ (upd H d (.dT [])) s := by
  obtain ⟨_, nm, vs, kv, o, es, ep, g, ex, dt, ky, pr, nd⟩ := I.hok d _ e
  cases kv
  have z : es.toList = [] := by
    revert pr
    generalize es.toList = l
    intro pr
    cases pr
    rfl
  exact I.write (x := d) (e := d) (h' := s.heap) (t' := s.toks) (by rw [e]; trivial) (.inl rfl) (fun _ _ _ h => h) ⟨o, g⟩ ⟨Nat.zero_le _, nm, [], .nil, o, es, ep, g, ex, dt, z, List.nodup_nil⟩
def tAsT (t : TE) : TE := fun σ H Q => t σ H fun v H1 => ∃ d, v = .ref d ∧ H1 d = some (.dK []) ∧ Q v (upd H1 d (.dT []))
theorem pe_asT {e : Expr} {t : TE} (h : PE X e t) : PE X e (tAsT t) := ⟨fun pins s σ H Q I q => by
  refine thn (h.run pins s σ H _ I q) fun u s1 ⟨v, H1, I1, r, d, _, e1, q1⟩ => ?_
  exact ⟨v, _, seenT I1 e1, r, q1⟩⟩
def rLtD (K : PySem.W.Frag) : R2 := fun x y H Q => ∃ d e, Dp K H x d ∧ Dp K H y e ∧ PySem.W.alike d e = true ∧ d ≠ .none ∧ d.depth ≤ 8 ∧ Q (.bl (PySem.W.dataLt d e)) H
def rLeD (K : PySem.W.Frag) : R2 := fun x y H Q => ∃ d e, Dp K H x d ∧ Dp K H y e ∧ PySem.W.alike d e = true ∧ d ≠ .none ∧ d.depth ≤ 8 ∧ Q (.bl (!PySem.W.dataLt e d)) H
theorem ltD (hu : X.A.units + 64 < cLine) (hK : X.K = K := by rfl) : OpR X (compareOp .Lt) (rLtD K) := by
  subst hK
  rintro pins s σ H x y v u Q I rx ry ⟨d, e, hd, he, al, nn, dp, q⟩
  obtain ⟨as, r1⟩ := Dp.reads I d x v hd rx
  obtain ⟨bs, r2⟩ := Dp.reads I e y u he ry
  exact PySem.W.lt_data r1 r2 al nn (by omega) ⟨.bl _, H, I, rfl, q⟩
theorem leD (hu : X.A.units + 64 < cLine) (hK : X.K = K := by rfl) : OpR X (compareOp .LtE) (rLeD K) := by
  subst hK
  rintro pins s σ H x y v u Q I rx ry ⟨d, e, hd, he, al, nn, dp, q⟩
  obtain ⟨as, r1⟩ := Dp.reads I d x v hd rx
  obtain ⟨bs, r2⟩ := Dp.reads I e y u he ry
  exact PySem.W.le_data r1 r2 al nn (by omega) ⟨.bl _, H, I, rfl, q⟩
/-- x < y, two numbers or two words -/
def rLtIS : R2 := fun x y H Q => (∃ i j, x = .int i ∧ y = .int j ∧ Q (.bl (decide (i < j))) H) ∨ ∃ i j, x = .str i ∧ y = .str j ∧ Q (.bl (decide (i.cps.toList < j.cps.toList))) H
theorem ltIS : OpR X (compareOp .Lt) rLtIS := by
  rintro pins s σ H x y v u Q I rx ry (h | h)
  · exact op_lt pins s σ H x y v u Q I rx ry h
  · exact op_lt_str pins s σ H x y v u Q I rx ry h
/-- two lists of at most one dict, alike: != says no -/
def rNeDicts (K : PySem.W.Frag) : R2 := fun x y H Q => ∃ a b, x = .ref a ∧ y = .ref b ∧ Q (.bl false) H ∧ ((H a = some (.lst []) ∧ H b = some (.lst [])) ∨
  ∃ c d ks ls, H a = some (.lst [.ref c]) ∧ H b = some (.lst [.ref d]) ∧ c ≠ d ∧ H c = some (.dK ks) ∧ H d = some (.dK ls) ∧ ks.length = ls.length ∧ ∀ p ∈ ks, valV ls p.1 = some p.2 ∧ flatB p.2 = true)
theorem neDicts (hu : X.A.units + 1 < cLine) : OpR X (compareOp .NotEq) (rNeDicts K) := by
  rintro pins s σ H x y v u Q I rx ry ⟨a, b, rfl, rfl, q, h⟩
  obtain rfl : v = Value.ref a := rx
  obtain rfl : u = Value.ref b := ry
  show wpAny _ _ (richCompare .NotEq (.ref a) (.ref b)) _ _ _
  rcases h with ⟨e1, e2⟩ | ⟨c, d, ks, ls, e1, e2, ncd, ec, ed, hl, hp⟩
  · obtain ⟨_, is, n1, v1, g1⟩ := I.hok a _ e1
    obtain ⟨_, js, n2, v2, g2⟩ := I.hok b _ e2
    cases v1
    cases v2
    exact SeqAt.RcNeAt.lists (e := fun _ => true) ⟨_, g1, rfl, _, rfl⟩ ⟨_, g2, rfl, _, rfl⟩ rfl (by omega) (fun j h1 _ => absurd h1 (Nat.not_lt_zero _)) _ _ _ _ ⟨.bl false, H, I, rfl, q⟩
  · obtain ⟨_, is, n1, v1, g1⟩ := I.hok a _ e1
    obtain ⟨_, js, n2, v2, g2⟩ := I.hok b _ e2
    cases v1 with
    | cons r1 t1 =>
      cases t1
      cases v2 with
      | cons r2 t2 =>
        cases t2
        cases r1
        cases r2
        obtain ⟨_, yc, vc, rc, dc⟩ := (show ObjOk X.prog X.w H s.heap c (.dK ks) from I.hok c _ ec)
        obtain ⟨_, yd, vd, rd, dd⟩ := (show ObjOk X.prog X.w H s.heap d (.dK ls) from I.hok d _ ed)
        have hlen : vc.length = vd.length := by rw [← rc.length, ← rd.length]; exact hl
        refine SeqAt.unlike_lists ⟨_, g1, rfl, _, rfl⟩ ⟨_, g2, rfl, _, rfl⟩ (by omega) (SeqAt.EqIn.of_refs ncd fun E' Q' z => ?_) ⟨.bl false, H, I, rfl, q⟩
        refine PySem.W.keq_eq (knd := mixKind X.prog X.w) (r := true) yc yd dc dd ?_ (fun _ => hits_all rd rc hp) ?_
        · show X.A.units + 1 < cLine
          exact hu
        · simpa [hlen] using z
variable {e : Expr} {t : TA}
theorem zipTK {e2 : Expr} {p tpos pos : Pos} {elts : List Expr} {kk : Nat} (hg : Gl X "zip") (hm : X.mg "zip" = none) (ha : PA X [e, e2] t)
    (hs : starEach [e, e2] X.env = (false, eval e X.env) :: starEach [e2] X.env := by rfl) (hpl : (backTo pos (starEach [e2] X.env)).any (·.1) = false := by rfl) (h : X.K = K := by rfl) :
    PI X (.Tuple elts kk tpos) (.Call (.Name "zip" p) [e, e2] [] pos) (RZ.iZipA K t) := by
  subst h
  exact RZ.pi_zipA hg hm ha hs hpl
def rListT : List V → Hp → VK → Prop := fun xs H Q => ∃ d kvs, xs = [V.ref d] ∧ H d = some (.dT kvs) ∧ ∀ p bs, H p = none → IsKeys H kvs bs → Q (.ref p) (upd H p (.lst (bs.map V.ref)))
theorem call_listT (hc : X.calm = true := by rfl) : CallR X (.type "list") rListT := by
  intro pins s σ H vs us Q I r h
  obtain ⟨d, kvs, e, ed, k⟩ := h
  exact call_list_dT hc pins s σ H vs us Q I r ⟨d, kvs, e, .inl ed, k⟩
variable {pos apos cpos : Pos} {to : TE} {es : List Expr}
theorem extLK {o : Expr} (ho : PE X o to) (ha : PA X (e :: es) t) (hbase : attributeBase o "extend" X.env (eval o X.env) = eval o X.env := by rfl)
    (hfew : ((backTo cpos (starEach (e :: es) X.env)).all (fun x => !x.1) && (backToKw cpos (keywordEach [] X.env)).all (fun x => x.1.isSome)
      && decide ((e :: es).length + ([] : List Keyword).length + (if ([] : List Keyword).isEmpty then 0 else 1) < 30)) = true := by rfl)
    (hline : (apos.endLine == cpos.line) = true := by rfl) (hs : starEach (e :: es) X.env = (false, eval e X.env) :: starEach es X.env := by rfl) (hplain : (backTo cpos (starEach es X.env)).any (·.1) = false := by rfl) (h : X.K = K := by rfl) :
    PE X (.Call (.Attribute o "extend" apos) (e :: es) [] cpos) (tBM K "list" rExtend to t) := by
  subst h
  exact pe_bm PySem.F.plainAttrs_list PySem.F.slot_list_extend PySem.F.type_list_extend mt_extend ho ha hbase hfew hline hs hplain
end
end L2

set_option Elab.async false
set_option linter.all false
set_option maxRecDepth 100000
set_option maxHeartbeats 4000000
/-! ## own rules: the least of a list of rows of four numbers; sorted of a row of numbers -/
namespace L2
open PySem PySem.Spec PyProof.Rows
section
variable {prog : Program} {w : World} {A : Around} {E : Value → Shared → Prop} {s : Shared}
theorem sorted_tup_ints {l : Addr} {vs : List Value} {ns : List Int} {Q : Value → Shared → Prop} (hl : IsTup s.heap l vs.toArray) (hI : IntsAre vs ns) (h64 : vs.length < 64)
    (h : ∀ (h1 h' : Heap) (out : Array Value) (ns' : List Int) (ep : Nat), (∀ b o', s.heap.get? b = some o' → h1.get? b = some o') → (∀ b o', h1.get? b = some o' → h'.get? b = some o') → h'.get? h1.objs.size = some (seqObj "list" out ep) → IntsAre out.toList ns' → ns'.Perm ns → ns'.Pairwise (· ≤ ·) → Q (.ref h1.objs.size) { s with heap := h' }) :
    wpAny (model prog w) A (call (.builtin "sorted") [.ref l]) Q E s := by
  obtain ⟨o, ho, hc, n, hd⟩ := hl
  refine Calls.call_function_entry kind_sorted plain_sorted entry_sorted (args_sorted1 _) ?_
  unfold Builtin.«sorted»
  refine wpAny_bind (m := checkCount "sorted" 1 1 _) (wpAny_pure ?_)
  refine wpAny_bind (wpAny_collect_seq l (.inr rfl) ho hc hd (fun h1 kp => ?_) (by rw [List.size_toArray, sizeLine_eq]; omega))
  rw [List.toList_toArray]
  refine wpAny_bind (wpAny_newList ?_)
  have hoL : (h1.push (seqObj "list" vs.toArray 0)).get? h1.objs.size = some (seqObj "list" vs.toArray 0) := Heap.get?_push_size _ rfl
  refine wpAny_bind (wpAny_holding (wpAny_call_entry slot_list_sort ⟨_, hoL, rfl⟩ entry_list_sort (list_sort_treeK intKind_oneLt hoL hI.keysOfInt (fun v₁ v₂ rest e => keyKind_ints (by rw [← e]; exact hI)) h64 fun st' hp hs => ⟨_, rfl, ?_⟩) (args_list_sort _)))
  obtain ⟨ns', a1, a2, a3⟩ := sorted_out hI hp (sortedTo_of_int hs)
  obtain ⟨ep, he⟩ := sortedHeap_at (vs := vs) (out := (arrOf st').map (·.2)) hoL
  refine wpAny_pure ⟨_, rfl, h h1 _ _ ns' ep kp (fun b o' e => ?_) he a1 a2 a3⟩
  have lt := Heap.lt_size e
  rw [sortedHeap_old (Nat.ne_of_lt lt) (by rw [size_push']; exact Nat.lt_succ_of_lt lt)]
  exact Heap.get?_push_of_some _ e
end
def rSortedTI (K : PySem.W.Frag) : List V → Hp → VK → Prop := fun vs H Q => ∃ (a : Addr) (xs : List Int), vs = [V.ref a] ∧ SqT K H a (xs.map V.int) ∧ xs.length < 64 ∧
  ∀ (ys : List Int) (p : Addr), ys.Perm xs → ys.Pairwise (· ≤ ·) → H p = none → Q (.ref p) (upd H p (.lst (ys.map V.int)))
theorem cr_sortedTI {X : Cx} (K : PySem.W.Frag) (hK : X.K = K := by rfl) : CallR X (.builtin "sorted") (rSortedTI K) := by
  subst hK
  intro pins s σ H vs us Q I r h
  obtain ⟨a, xs, rfl, hs, h64, q⟩ := h
  obtain ⟨its, rv, hl, _⟩ := I.tuple hs
  rw [Vals.ref1 r]
  have hlen0 := rv.length
  rw [List.length_map] at hlen0
  refine sorted_tup_ints hl rv.ints (by rw [← hlen0]; exact h64) fun h1 h' out ys ep kp kp2 he h1' h2 h3 => ?_
  have hlen : (ys.map V.int).length ≤ sizeLine := by rw [List.length_map, h2.length_eq]; exact small64 h64
  have I1 : Inv X pins σ H { s with heap := h1 } := I.kept (t' := s.toks) kp
  exact ⟨.ref _, upd H h1.objs.size (.lst (ys.map V.int)), I1.laid (t' := s.toks) kp2 (Nat.le_refl _) ⟨hlen, out.toList, ep, vals_of_ints h1', he⟩, rfl, q ys _ h2 h3 (I1.hok.fresh (Nat.le_refl _))⟩
/-- four numbers -/
structure N4 where
  (a b c d : Int)
  deriving DecidableEq
def N4.vs (x : N4) : List V := [.int x.a, .int x.b, .int x.c, .int x.d]
def N4.dat (x : N4) : PyData := .tuple [.int x.a, .int x.b, .int x.c, .int x.d]
def lt4 (x y : N4) : Bool := decide (x.a < y.a) || (decide (x.a = y.a) && (decide (x.b < y.b) || (decide (x.b = y.b) && (decide (x.c < y.c) || (decide (x.c = y.c) && decide (x.d < y.d))))))
def min4 (x : N4) (ys : List N4) : N4 := ys.foldl (fun a y => if lt4 y a = true then y else a) x
theorem dat_inj {x y : N4} (h : x.dat = y.dat) : x = y := by
  cases x
  cases y
  simp [N4.dat] at h
  simp [h]
theorem lx_ne (a b : Int) (r : Bool) : (decide (a < b) || (!decide (b < a) && r)) = (decide (a < b) || (decide (a = b) && r)) := by
  rcases Int.lt_trichotomy a b with h | h | h
  · rw [decide_eq_true h]
    rfl
  · subst h
    simp
  · have h1 : ¬ a < b := by omega
    have h2 : ¬ a = b := by omega
    simp [h, h1, h2]
theorem lx_same (r : Bool) : (decide ((1 : Int) < 1) || (!decide ((1 : Int) < 1) && r)) = r := by
  simp
theorem dat_lt (x y : N4) : PySem.W.dataLt x.dat y.dat = lt4 x y := by
  have e : ∀ (p q : Int) (l m : List (Int ⊕ List Nat)), PyProof.Rows.lexLt PyProof.Rows.itemOrd (.inl p :: l) (.inl q :: m) = (decide (p < q) || (!decide (q < p) && PyProof.Rows.lexLt PyProof.Rows.itemOrd l m)) := fun p q l m => PyProof.Rows.lex_cons (O := PyProof.Rows.itemOrd) _ _ _ _
  simp only [N4.dat, PySem.W.dataLt_tuple, PySem.W.keyToksAll, PySem.W.keyToks, List.cons_append, List.nil_append]
  rw [e, lx_same, e, e, lx_same, e, e, lx_same, e, e, lx_same, e, e]
  rw [lx_ne, lx_ne, lx_ne, lx_ne]
  have z : (decide ((0 : Int) < 0) || (!decide ((0 : Int) < 0) && PyProof.Rows.lexLt PyProof.Rows.itemOrd [] [])) = false := by
    simp [PyProof.Rows.lexLt]
  rw [z]
  unfold lt4
  simp
theorem min_dat (x : N4) : ∀ ys : List N4, PySem.W.minD x.dat (ys.map N4.dat) = (min4 x ys).dat := by
  intro ys
  unfold PySem.W.minD min4
  induction ys generalizing x with
  | nil => rfl
  | cons y ys ih =>
    rw [List.map_cons, List.foldl_cons, List.foldl_cons, dat_lt, ← ih]
    cases lt4 y x <;> rfl
def rMin4 (K : PySem.W.Frag) : List V → Hp → VK → Prop := fun vs H Q => ∃ (p : Addr) (as : List Addr) (x : N4) (xs : List N4), vs = [.ref p] ∧ SqL K H p (as.map V.ref) ∧ as.length = (x :: xs).length ∧ (∀ (i : Nat) (a : Addr) (y : N4), as[i]? = some a → (x :: xs)[i]? = some y → SqT K H a y.vs) ∧
  ∀ a, SqT K H a (min4 x xs).vs → Q (.ref a) H
theorem dp4_all {K : PySem.W.Frag} {H : Hp} : ∀ {as : List Addr} {ys : List N4}, as.length = ys.length → (∀ (i : Nat) (a : Addr) (y : N4), as[i]? = some a → ys[i]? = some y → SqT K H a y.vs) → DpAll K H (as.map V.ref) (ys.map N4.dat)
  | [], [], _, _ => .nil
  | a :: as, y :: ys, hl, h => .cons (.tup (h 0 a y rfl rfl) (.cons (.int _) (.cons (.int _) (.cons (.int _) (.cons (.int _) .nil))))) (dp4_all (Nat.succ.inj hl) fun i b z e1 e2 => h (i + 1) b z e1 e2)
  | [], _ :: _, hl, _ => nomatch hl
  | _ :: _, [], hl, _ => nomatch hl
theorem paired_at {α β : Type} {R : α → β → Prop} : ∀ {xs : List α} {ys : List β}, Paired R xs ys → ∀ {i : Nat} {x : α} {y : β}, xs[i]? = some x → ys[i]? = some y → R x y
  | _, _, .nil, _, _, _, h, _ => by simp at h
  | _, _, .cons r t, 0, _, _, h1, h2 => by
    cases h1
    cases h2
    exact r
  | _, _, .cons r t, i + 1, _, _, h1, h2 => paired_at t (i := i) h1 h2
theorem min4K {X : Cx} (K : PySem.W.Frag) (hu : X.A.units + 64 < cLine) (hc : X.calm = true := by rfl) (hK : X.K = K := by rfl) : CallR X (.builtin "min") (rMin4 K) := by
  subst hK
  intro pins s σ H vs us Q I r h
  obtain ⟨p, as, x, xs, rfl, hs, hlen, hall, q⟩ := h
  obtain ⟨its, rv, hl, _⟩ := I.list hs
  rw [Vals.ref1 r]
  obtain ⟨bs, hr⟩ := Dp.readsAll I ((x :: xs).map N4.dat) (as.map V.ref) its (dp4_all hlen hall) rv
  have hal : PySem.W.AlikeAll ((x :: xs).map N4.dat) := ⟨fun d hd e he => by
    obtain ⟨y, _, rfl⟩ := List.mem_map.mp hd
    obtain ⟨z, _, rfl⟩ := List.mem_map.mp he
    rfl, fun d hd => by
    obtain ⟨y, _, rfl⟩ := List.mem_map.mp hd
    exact fun z => nomatch z⟩
  have hdep : ∀ l : List N4, PyData.depthAll (l.map N4.dat) ≤ 8 := fun l => by
    induction l with
    | nil => simp [PyData.depthAll]
    | cons y l ih =>
      simp only [List.map_cons, PyData.depthAll, N4.dat, PyData.depth]
      omega
  have hd8 := hdep (x :: xs)
  refine PySem.W.min_list_data (I.ok.hd hc) hl.isList (by simpa using hr) hal (by simp only [List.map_cons] at hd8; omega) fun i v h' tk cs hv hrd hk => ?_
  rw [min_dat] at hrd
  -- the value is one of the items
  have hv' : its[i]? = some v := by simpa using hv
  have hil : i < as.length := by
    have := (List.getElem?_eq_some_iff.mp hv').1
    have e := rv.length
    rw [List.length_map] at e
    omega
  have hia : as[i]? = some as[i] := List.getElem?_eq_getElem hil
  have hrel : RelV (.ref as[i]) v := paired_at rv (by rw [List.getElem?_map, hia]; rfl) hv'
  obtain rfl : v = Value.ref as[i] := hrel
  have hix : i < (x :: xs).length := by rw [← hlen]; exact hil
  have hst := hall i as[i] (x :: xs)[i] hia (List.getElem?_eq_getElem hix)
  obtain ⟨cs2, hr2⟩ := Dp.reads I (x :: xs)[i].dat (.ref as[i]) (.ref as[i]) (.tup hst (.cons (.int _) (.cons (.int _) (.cons (.int _) (.cons (.int _) .nil))))) rfl
  have e := PySem.W.alike_unique (min4 x xs).dat (x :: xs)[i].dat _ _ _ rfl hrd (PySem.W.reads_keeps hk hr2)
  have e2 := dat_inj e
  exact ⟨.ref as[i], H, I.kept hk, rfl, q as[i] (by rw [e2]; exact hst)⟩
end L2

set_option Elab.async false
set_option linter.all false
set_option maxRecDepth 100000
set_option maxHeartbeats 4000000
/-! ## own words over the hand layer, for every law: rules with the written part said, dice, many at once -/
namespace L2
open PySem PySem.Spec PyProof.Rows
theorem units65 {k : Nat} {A : Around} (r : Room k A) : A.units + 65 < cLine := by have := r.un; omega
section
variable {X : Cx} (K : PySem.W.Frag)
theorem ixL (h : X.K = K := by rfl) : IxR X (rIxL K) := by subst h; exact ix_list
theorem ixT (h : X.K = K := by rfl) : IxR X (rIxT K) := by subst h; exact ix_tup
theorem slL (h : X.K = K := by rfl) : SlR X (rSlL K) := by subst h; exact sl_list
theorem slT (h : X.K = K := by rfl) : SlR X (rSlT K) := by subst h; exact sl_tup
theorem eqD (hu : X.A.units + 64 < cLine) (h : X.K = K := by rfl) : OpR X (compareOp .Eq) (rEqD K) := by subst h; exact op_eqD hu
theorem neD (hu : X.A.units + 64 < cLine) (h : X.K = K := by rfl) : OpR X (compareOp .NotEq) (rNeD K) := by subst h; exact op_neD hu
theorem inD (hu : X.A.units + 65 < cLine) (h : X.K = K := by rfl) : OpR X (compareOp .In) (rInD K) := by subst h; exact op_inD hu
theorem notInD (hu : X.A.units + 65 < cLine) (h : X.K = K := by rfl) : OpR X (compareOp .NotIn) (rNotInD K) := by subst h; exact op_notInD hu
theorem inSeq (h : X.K = K := by rfl) : OpR X (compareOp .In) (rIn K false) := by subst h; exact op_in_seq
theorem notInSeq (h : X.K = K := by rfl) : OpR X (compareOp .NotIn) (rIn K true) := by subst h; exact op_notIn_seq
def rLenQ (K : PySem.W.Frag) : List V → Hp → VK → Prop := fun xs H Q => ∃ p ys, xs = [.ref p] ∧ (SqL K H p ys ∨ SqT K H p ys) ∧ Q (.int ys.length) H
def rListOf (K : PySem.W.Frag) : List V → Hp → VK → Prop := fun xs H Q => ∃ p ys, xs = [.ref p] ∧ (SqL K H p ys ∨ SqT K H p ys) ∧ ∀ l, H l = none → Q (.ref l) (upd H l (.lst ys))
def rTupleOf (K : PySem.W.Frag) : List V → Hp → VK → Prop := fun xs H Q => ∃ p ys, xs = [.ref p] ∧ ((SqL K H p ys ∧ ∀ l, H l = none → Q (.ref l) (upd H l (.tup ys))) ∨ (SqT K H p ys ∧ Q (.ref p) H))
theorem lenK (h : X.K = K := by rfl) : CallR X (.builtin "len") (rLenQ K) := by subst h; exact call_len_seq
theorem listOf (h : X.K = K := by rfl) : CallR X (.type "list") (rListOf K) := by subst h; exact call_list_of
theorem tupOf (h : X.K = K := by rfl) : CallR X (.type "tuple") (rTupleOf K) := by subst h; exact call_tuple_of
def rAbs : List V → Hp → VK → Prop := fun xs H Q => ∃ i, xs = [.int i] ∧ Q (.int (if i < 0 then -i else i)) H
theorem absK : CallR X (.builtin "abs") rAbs := call_abs
def rInt1 : List V → Hp → VK → Prop := fun xs H Q => (∃ i, xs = [.int i] ∧ Q (.int i) H) ∨ ∃ k, xs = [.bl k] ∧ Q (.int (if k then 1 else 0)) H
theorem int1K : CallR X (.type "int") rInt1 := call_int1
def rMin2 : List V → Hp → VK → Prop := fun xs H Q => ∃ i j, xs = [.int i, .int j] ∧ Q (.int (if j < i then j else i)) H
theorem min2K (hc : X.calm = true := by rfl) : CallR X (.builtin "min") rMin2 := call_min2 hc
variable {e : Expr} {es : List Expr} {f : Str} {pos apos cpos : Pos} {ta to : TE} {t : TA}
theorem fldK (he : PE X e ta) (hb : attributeBase e f X.env (eval e X.env) = eval e X.env) (h : X.K = K := by rfl) : PE X (.Attribute e f pos) (tFld K ta f) := by subst h; exact pe_fld he hb
theorem sfldK {v : Expr} {tv : TE} (he : PE X e ta) (hv : PE X v tv) (hsw : swapsWith v (some (.Attribute e f pos)) cpos.line X.env = pure false) (h : X.K = K := by rfl) : PS X (.Assign [.Attribute e f pos] v cpos) (sFld K ta tv f) := by
  subst h
  exact ps_fld he hv hsw
theorem tupK {k : Nat} {t : TGs} {n : Nat} (hc : X.calm = true) (h : PGs X es t)
    (hn : (assignEach es X.env).length = n := by rfl) (hst : (assignEach es X.env).findIdx? (·.1) = none := by rfl) (hK : X.K = K := by rfl) : PG X (.Tuple es k pos) (gTup K n t) := by
  subst hK
  exact pg_tup hc h hn hst
variable {tg : Expr}
theorem listK (hl : PE X e ta) (h : X.K = K := by rfl) : PI X tg e (iList K ta) := by subst h; exact pi_list hl
theorem tupIK (hl : PE X e ta) (h : X.K = K := by rfl) : PI X tg e (iTup K ta) := by subst h; exact pi_tup hl
theorem enumK {p tpos : Pos} {elts : List Expr} {kk : Nat} (hg : Gl X "enumerate") (hm : X.mg "enumerate" = none) (ha : PA X [e] t) (hs : starEach [e] X.env = [(false, eval e X.env)] := by rfl) (h : X.K = K := by rfl) :
    PI X (.Tuple elts kk tpos) (.Call (.Name "enumerate" p) [e] [] pos) (iEnum K t) := by
  subst h
  exact pi_enum hg hm ha hs
theorem zipK {e2 : Expr} {p tpos : Pos} {elts : List Expr} {kk : Nat} (hg : Gl X "zip") (hm : X.mg "zip" = none) (ha : PA X [e, e2] t)
    (hs : starEach [e, e2] X.env = (false, eval e X.env) :: starEach [e2] X.env := by rfl) (hpl : (backTo pos (starEach [e2] X.env)).any (·.1) = false := by rfl) (h : X.K = K := by rfl) :
    PI X (.Tuple elts kk tpos) (.Call (.Name "zip" p) [e, e2] [] pos) (iZip K t) := by
  subst h
  exact pi_zip hg hm ha hs hpl
theorem appK {o : Expr} (ho : PE X o to) (ha : PA X (e :: es) t) (hbase : attributeBase o "append" X.env (eval o X.env) = eval o X.env := by rfl)
    (hfew : ((backTo cpos (starEach (e :: es) X.env)).all (fun x => !x.1) && (backToKw cpos (keywordEach [] X.env)).all (fun x => x.1.isSome)
      && decide ((e :: es).length + ([] : List Keyword).length + (if ([] : List Keyword).isEmpty then 0 else 1) < 30)) = true := by rfl)
    (hline : (apos.endLine == cpos.line) = true := by rfl) (hs : starEach (e :: es) X.env = (false, eval e X.env) :: starEach es X.env := by rfl) (hplain : (backTo cpos (starEach es X.env)).any (·.1) = false := by rfl) (h : X.K = K := by rfl) :
    PE X (.Call (.Attribute o "append" apos) (e :: es) [] cpos) (tBM K "list" rAppend to t) := by
  subst h
  exact pe_bm PySem.F.plainAttrs_list PySem.F.slot_list_append PySem.F.type_list_append mt_append ho ha hbase hfew hline hs hplain
/-- == of a list and a bare list -/
def rEqL (K : PySem.W.Frag) : R2 := fun x y H Q => ∃ a b xs, x = .ref a ∧ y = .ref b ∧ SqL K H a xs ∧ SqL K H b [] ∧ Q (.bl (decide (xs.length = 0))) H
theorem eqL (hu : X.A.units < cLine) (hK : X.K = K := by rfl) : OpR X (compareOp .Eq) (rEqL K) := by
  subst hK
  intro pins s σ H x y v u Q I rx ry h
  obtain ⟨a, b, xs, rfl, rfl, h1, h2, q⟩ := h
  obtain rfl : v = Value.ref a := rx
  obtain rfl : u = Value.ref b := ry
  obtain ⟨is, r1, ⟨o1, n1, e1, c1, d1, t1⟩, z1⟩ := I.list h1
  obtain ⟨js, r2, ⟨o2, n2, e2, c2, d2, t2⟩, z2⟩ := I.list h2
  have l1 : s.heap.IsList a is.toArray := ⟨o1, e1, c1, n1, t1⟩
  have l2 : s.heap.IsList b js.toArray := ⟨o2, e2, c2, n2, t2⟩
  have hj : js.length = 0 := r2.length.symm
  have hi := r1.length
  show wpAny _ _ (richCompare .Eq (.ref a) (.ref b)) _ _ _
  by_cases hx : xs.length = 0
  · rw [decide_eq_true hx] at q
    have hz : is.toArray.size = js.toArray.size := by simp; omega
    refine SeqAt.RcAt.lists (e := fun _ => true) l1 l2 hz hu (fun j h1 _ => ?_) _ _ _ _ ⟨.bl true, H, I, ?_, q⟩
    · exact absurd h1 (by simp; omega)
    · show Value.bool _ = Value.bool true
      simp
  · rw [decide_eq_false hx] at q
    have hz : (is.toArray.size != js.toArray.size) = true := by simp; omega
    exact SeqAt.RcAt.lists_lengths l1 l2 hz hu _ _ _ _ ⟨.bl false, H, I, rfl, q⟩
end
end L2

set_option Elab.async false
set_option linter.all false
set_option maxRecDepth 100000
set_option maxHeartbeats 4000000
/-! ## the data layer: what a reading evaluates to, as plain data -/
namespace DL
open PySem L2
/-- data that nobody changes any more -/
inductive D where
  | non | bl (b : Bool) | int (i : Int) | str (s : Str) | tup (l : List D) | tupK (l : List D) | lst (l : List D) | lstK (l : List D) | dct (l : List (D × D)) | ins (C : Addr) (l : List (Str × D)) | cls (n : String)
/-- a value: data, or the n-th of the objects that change -/
inductive Vl where
  | d (x : D) | mu (n : Nat)
inductive M where
  | lst (l : List Vl) | dct (l : List (D × Vl)) | ins (C : Addr) (l : List (Str × Vl)) | lk (l : List (D × Vl)) | dead
def Vl.below (k : Nat) : Vl → Bool
  | .d _ => true
  | .mu n => decide (n < k)
def M.below (k : Nat) : M → Bool
  | .lst l => l.all (·.below k)
  | .dct l => l.all (·.2.below k)
  | .ins _ l => l.all (·.2.below k)
  | .lk l => l.all (·.2.below k)
  | .dead => true
abbrev Ms := List M
def Closed (W : Ms) : Prop := W.all (M.below W.length) = true
abbrev Ev := List (Option Vl)
inductive Res (α : Type) where
  | ok (x : α) (W : Ms) | exc (C : Addr) (W : Ms) | stuck
inductive Out where
  | nx (ρ : Ev) (W : Ms) | rt (v : Vl) (W : Ms) | bk (ρ : Ev) (W : Ms) | ct (ρ : Ev) (W : Ms) | exc (C : Addr) (W : Ms) | stuck
def Res.bind {α β : Type} (r : Res α) (k : α → Ms → Res β) : Res β := match r with
  | .ok x W => k x W
  | .exc C W => .exc C W
  | .stuck => .stuck
def Res.bindS {α : Type} (r : Res α) (k : α → Ms → Out) : Out := match r with
  | .ok x W => k x W
  | .exc C W => .exc C W
  | .stuck => .stuck
@[simp] theorem Res.bind_ok {α β : Type} (x : α) (W : Ms) (k : α → Ms → Res β) : (Res.ok x W).bind k = k x W := rfl
@[simp] theorem Res.bind_exc {α β : Type} (C : Addr) (W : Ms) (k : α → Ms → Res β) : (Res.exc C W).bind k = .exc C W := rfl
@[simp] theorem Res.bind_stuck {α β : Type} (k : α → Ms → Res β) : (Res.stuck : Res α).bind k = .stuck := rfl
@[simp] theorem Res.bindS_ok {α : Type} (x : α) (W : Ms) (k : α → Ms → Out) : (Res.ok x W).bindS k = k x W := rfl
@[simp] theorem Res.bindS_exc {α : Type} (C : Addr) (W : Ms) (k : α → Ms → Out) : (Res.exc C W : Res α).bindS k = .exc C W := rfl
@[simp] theorem Res.bindS_stuck {α : Type} (k : α → Ms → Out) : (Res.stuck : Res α).bindS k = .stuck := rfl

/-! ### what stands for what -/
def kD : Key → D
  | .inl i => .int i
  | .inr s => .str s
/-- the written part and the world -/
structure Fr where
  K : PySem.W.Frag
  w : World
/-! ### keys that are tuples -/
mutual
def nkOf : D → Option NestedKey
  | .non => some .none
  | .int i => some (.num i)
  | .str s => some (.text s)
  | .tup l => (nkL l).map NestedKey.tup
  | _ => none
def nkL : List D → Option (List NestedKey)
  | [] => some []
  | x :: l => match nkOf x, nkL l with
    | some k, some ks => some (k :: ks)
    | _, _ => none
end
/-- a dict whose keys are tuples, by their addresses -/
def dN (w : World) (a : Addr) (xs : List (NestedKey × Addr × V)) : HO := .ext fun h => xs.length ≤ sizeLine ∧ (a == sysModules) = false ∧
  ∃ (us : List (NestedKey × Addr × Value)) (o : Obj) (es : Array DictEntry) (ep : Nat), Paired (fun x u => x.1 = u.1 ∧ x.2.1 = u.2.1 ∧ RelV x.2.2 u.2.2) xs us ∧
    h.get? a = some o ∧ o.ExactDict ∧ o.data = .dict es ep ∧ es.toList = us.map (fun u => ⟨u.1.hash w, .ref u.2.1, u.2.2⟩) ∧ (us.map (·.1)).Nodup
/-- the class at C and the names of its instances' attributes -/
structure ClsF (K : Fr) (C : Addr) (fs : List Str) : Prop where
  cl : L2.Cls K.K C
  no : ∀ f ∈ fs, L2.NoAttr K.K C f
mutual
inductive Rp (K : Fr) (G : Hp) : V → D → Prop
  | non : Rp K G .non .non
  | bl (b : Bool) : Rp K G (.bl b) (.bl b)
  | int (i : Int) : Rp K G (.int i) (.int i)
  | str (s : Str) : Rp K G (.str s) (.str s)
  | cls (n : String) : Rp K G (.ty n) (.cls n)
  | tup {a : Addr} {vs : List V} {l : List D} : G a = some (.tup vs) → RpL K G vs l → Rp K G (.ref a) (.tup l)
  | tupK {a : Addr} {vs : List V} {l : List D} : SqT K.K G a vs → RpL K G vs l → Rp K G (.ref a) (.tupK l)
  | lstK {a : Addr} {vs : List V} {l : List D} : SqL K.K G a vs → RpL K G vs l → Rp K G (.ref a) (.lstK l)
  | lst {a : Addr} {vs : List V} {l : List D} : G a = some (.lst vs) → RpL K G vs l → Rp K G (.ref a) (.lst l)
  | dct {a : Addr} {kvs : List (Key × V)} {l : List (D × D)} : Rd G a (.dK kvs) → RpK K G kvs l → Rp K G (.ref a) (.dct l)
  | dcN {a : Addr} {kvs : List (NestedKey × Addr × V)} {l : List (D × D)} : Rd G a (dN K.w a kvs) → l ≠ [] → RpN K G kvs l → Rp K G (.ref a) (.dct l)
  | ins {a C dx : Addr} {fs : List (Str × V)} {l : List (Str × D)} : G a = some (.ins C dx fs) → ClsF K C (fs.map (·.1)) → RpF K G fs l → Rp K G (.ref a) (.ins C l)
inductive RpL (K : Fr) (G : Hp) : List V → List D → Prop
  | nil : RpL K G [] []
  | cons {v : V} {x : D} {vs : List V} {l : List D} : Rp K G v x → RpL K G vs l → RpL K G (v :: vs) (x :: l)
inductive RpK (K : Fr) (G : Hp) : List (Key × V) → List (D × D) → Prop
  | nil : RpK K G [] []
  | cons {k : Key} {v : V} {x : D} {vs : List (Key × V)} {l : List (D × D)} : Rp K G v x → RpK K G vs l → RpK K G ((k, v) :: vs) ((kD k, x) :: l)
inductive RpN (K : Fr) (G : Hp) : List (NestedKey × Addr × V) → List (D × D) → Prop
  | nil : RpN K G [] []
  | cons {nk : NestedKey} {b : Addr} {k : D} {v : V} {x : D} {vs : List (NestedKey × Addr × V)} {l : List (D × D)} : Rp K G (.ref b) k → nkOf k = some nk → nk.depth ≤ 8 → Rp K G v x → RpN K G vs l → RpN K G ((nk, b, v) :: vs) ((k, x) :: l)
inductive RpF (K : Fr) (G : Hp) : List (Str × V) → List (Str × D) → Prop
  | nil : RpF K G [] []
  | cons {f : Str} {v : V} {x : D} {vs : List (Str × V)} {l : List (Str × D)} : Rp K G v x → RpF K G vs l → RpF K G ((f, v) :: vs) ((f, x) :: l)
end
/-- what stands in G is to be read in G', too -/
structure Rds (K : Fr) (G G' : Hp) : Prop where
  t : ∀ a vs, SqT K.K G a vs → SqT K.K G' a vs
  L : ∀ a vs, SqL K.K G a vs → SqL K.K G' a vs
  u : ∀ a vs, G a = some (.tup vs) → G' a = some (.tup vs)
  l : ∀ a vs, G a = some (.lst vs) → G' a = some (.lst vs)
  k : ∀ a kvs, Rd G a (.dK kvs) → Rd G' a (.dK kvs)
  T : ∀ w a kvs, Rd G a (dN w a kvs) → Rd G' a (dN w a kvs)
  i : ∀ a C dx fs, G a = some (.ins C dx fs) → G' a = some (.ins C dx fs)
section
variable {K : Fr} {G G' : Hp}
theorem Rds.of (h : Same G G') : Rds K G G' :=
  have r : ∀ a u, Rd G a u → Rd G' a u := fun a u e => e.elim (fun e => .inl (h _ _ e)) fun ⟨o, e⟩ => .inr ⟨o, h _ _ e⟩
  ⟨fun a vs e => e.elim (fun e => .inl (r _ _ e)) .inr, fun a vs e => e.elim (fun e => .inl (r _ _ e)) .inr, fun _ _ e => h _ _ e, fun _ _ e => h _ _ e, fun _ _ e => r _ _ e, fun _ _ _ e => r _ _ e, fun _ _ _ _ e => h _ _ e⟩
mutual
theorem Rp.to (m : Rds K G G') : ∀ {v : V} {x : D}, Rp K G v x → Rp K G' v x
  | _, _, .non => .non
  | _, _, .bl b => .bl b
  | _, _, .int i => .int i
  | _, _, .str s => .str s
  | _, _, .cls n => .cls n
  | _, _, .tup h r => .tup (m.u _ _ h) (RpL.to m r)
  | _, _, .tupK h r => .tupK (m.t _ _ h) (RpL.to m r)
  | _, _, .lstK h r => .lstK (m.L _ _ h) (RpL.to m r)
  | _, _, .lst h r => .lst (m.l _ _ h) (RpL.to m r)
  | _, _, .dct h r => .dct (m.k _ _ h) (RpK.to m r)
  | _, _, .dcN h n r => .dcN (m.T _ _ _ h) n (RpN.to m r)
  | _, _, .ins h c r => .ins (m.i _ _ _ _ h) c (RpF.to m r)
theorem RpL.to (m : Rds K G G') : ∀ {vs : List V} {l : List D}, RpL K G vs l → RpL K G' vs l
  | _, _, .nil => .nil
  | _, _, .cons h r => .cons (Rp.to m h) (RpL.to m r)
theorem RpK.to (m : Rds K G G') : ∀ {vs : List (Key × V)} {l : List (D × D)}, RpK K G vs l → RpK K G' vs l
  | _, _, .nil => .nil
  | _, _, .cons h r => .cons (Rp.to m h) (RpK.to m r)
theorem RpN.to (m : Rds K G G') : ∀ {vs : List (NestedKey × Addr × V)} {l : List (D × D)}, RpN K G vs l → RpN K G' vs l
  | _, _, .nil => .nil
  | _, _, .cons h0 h1 h2 h r => .cons (Rp.to m h0) h1 h2 (Rp.to m h) (RpN.to m r)
theorem RpF.to (m : Rds K G G') : ∀ {vs : List (Str × V)} {l : List (Str × D)}, RpF K G vs l → RpF K G' vs l
  | _, _, .nil => .nil
  | _, _, .cons h r => .cons (Rp.to m h) (RpF.to m r)
end
inductive RpV (K : Fr) (ws : List Addr) (G : Hp) : V → Vl → Prop
  | d {v : V} {x : D} : Rp K G v x → RpV K ws G v (.d x)
  | mu {a : Addr} {n : Nat} : ws[n]? = some a → RpV K ws G (.ref a) (.mu n)
abbrev RpVs (K : Fr) (ws : List Addr) (G : Hp) : List V → List Vl → Prop := Paired (RpV K ws G)
def RpVK (K : Fr) (ws : List Addr) (G : Hp) : List (Key × V) → List (D × Vl) → Prop := Paired fun p q => q.1 = kD p.1 ∧ RpV K ws G p.2 q.2
def RpVN (K : Fr) (ws : List Addr) (G : Hp) : List (NestedKey × Addr × V) → List (D × Vl) → Prop := Paired fun p q => (Rp K G (.ref p.2.1) q.1 ∧ nkOf q.1 = some p.1 ∧ p.1.depth ≤ 8) ∧ RpV K ws G p.2.2 q.2
def RpVF (K : Fr) (ws : List Addr) (G : Hp) : List (Str × V) → List (Str × Vl) → Prop := Paired fun p q => q.1 = p.1 ∧ RpV K ws G p.2 q.2
theorem Paired.imp {α β : Type} {F F' : α → β → Prop} (f : ∀ a b, F a b → F' a b) : ∀ {l : List α} {r : List β}, Paired F l r → Paired F' l r
  | _, _, .nil => .nil
  | _, _, .cons h t => .cons (f _ _ h) (Paired.imp f t)
theorem Paired.impB {α β : Type} {F F' : α → β → Prop} : ∀ {l : List α} {r : List β}, Paired F l r → (∀ a b, b ∈ r → F a b → F' a b) → Paired F' l r
  | _, _, .nil, _ => .nil
  | _, _, .cons h t, f => .cons (f _ _ List.mem_cons_self h) (Paired.impB t fun a b hb => f a b (List.mem_cons_of_mem _ hb))
theorem Paired.app {α β : Type} {F : α → β → Prop} : ∀ {l l' : List α} {r r' : List β}, Paired F l r → Paired F l' r' → Paired F (l ++ l') (r ++ r')
  | _, _, _, _, .nil, h => h
  | _, _, _, _, .cons h t, g => .cons h (Paired.app t g)
theorem Paired.at' {α β : Type} {F : α → β → Prop} : ∀ {l : List α} {r : List β} {i : Nat} {b : β}, Paired F l r → r[i]? = some b → ∃ a, l[i]? = some a ∧ F a b
  | _, _, _, _, .nil, e => by simp at e
  | _, _, 0, _, .cons h _, e => by simp at e; subst e; exact ⟨_, rfl, h⟩
  | _, _, i + 1, _, .cons _ t, e => by
    obtain ⟨a, h1, h2⟩ := Paired.at' (i := i) t (by simpa using e)
    exact ⟨a, by simpa using h1, h2⟩
theorem Paired.set' {α β : Type} {F : α → β → Prop} {a : α} {b : β} (h : F a b) : ∀ {l : List α} {r : List β} (i : Nat), Paired F l r → Paired F (l.set i a) (r.set i b)
  | _, _, _, .nil => .nil
  | _, _, 0, .cons _ t => .cons h t
  | _, _, i + 1, .cons g t => .cons g (Paired.set' h i t)
variable {ws ws' : List Addr}
theorem RpV.to (m : Rds K G G') (hw : ∀ (n : Nat) (a : Addr), ws[n]? = some a → ws'[n]? = some a) {v : V} {x : Vl} (h : RpV K ws G v x) : RpV K ws' G' v x := by
  cases h with
  | d h => exact .d (h.to m)
  | mu h => exact .mu (hw _ _ h)
theorem RpV.bel {v : V} {x : Vl} (h : RpV K ws G v x) (k : Nat) (hb : x.below k = true) : RpV K (ws.take k) G v x := by
  cases h with
  | d h => exact .d h
  | mu h =>
    refine .mu ?_
    rw [List.getElem?_take, if_pos (of_decide_eq_true hb)]
    exact h
/-! ### the state -/
def MAt (K : Fr) (ws : List Addr) (G H : Hp) (a : Addr) : M → Prop
  | .lst l => ∃ vs, H a = some (.lst vs) ∧ RpVs K ws G vs l
  | .dct l => (∃ kvs, H a = some (.dK kvs) ∧ RpVK K ws G kvs l) ∨ ∃ kvs, H a = some (dN K.w a kvs) ∧ RpVN K ws G kvs l ∧ l ≠ []
  | .ins C l => ∃ dx fs, H a = some (.ins C dx fs) ∧ ClsF K C (fs.map (·.1)) ∧ RpVF K ws G fs l
  | .lk l => (∃ ob kvs, H a = some (.frz ob (.dK kvs)) ∧ RpVK K ws G kvs l) ∨ ∃ ob kvs, H a = some (.frz ob (dN K.w a kvs)) ∧ RpVN K ws G kvs l ∧ l ≠ []
  | .dead => True
structure Cf (K : Fr) (TB : List (Addr × Str)) (ws : List Addr) (G H : Hp) (W : Ms) : Prop where
  g : Same G H
  len : ws.length = W.length
  nd : ws.Nodup
  dm : ∀ a, a ∈ ws → ∃ o, H a = some o ∧ ∀ ps, o ≠ .tbl ps
  nt : ∀ a ps, G a ≠ some (.tbl ps)
  ob : ∀ (n : Nat) (a : Addr) (m : M), ws[n]? = some a → W[n]? = some m → m ≠ .dead → G a = none ∧ MAt K ws G H a m
  tb : LamX.Tabs TB H
structure Gr (ws : List Addr) (G H : Hp) (ws' : List Addr) (G' H' : Hp) : Prop where
  g : Same G G'
  p : ∃ more, ws' = ws ++ more
  fr : ∀ a o, H a = some o → a ∉ ws → (∀ ps, o ≠ .tbl ps) → H' a = some o
  fz : ∀ a o u, H a = some (.frz o u) → H' a = some (.frz o u)
  nw : ∀ a o, H a = some o → (∀ ps, o ≠ .tbl ps) → a ∉ ws → a ∉ ws'
  nf : ∀ a o, H a = some o → G a = none → a ∉ ws → (∀ ps, o ≠ .tbl ps) → G' a = none ∨ ∃ xs, o = .tup xs
variable {H H' H1 H2 G1 G2 : Hp} {ws1 ws2 : List Addr} {W W' : Ms} {TB : List (Addr × Str)}
theorem Gr.refl : Gr ws G H ws G H := ⟨fun _ _ h => h, ⟨[], by simp⟩, fun a o h _ _ => h, fun _ _ _ h => h, fun a o _ _ h => h, fun a _ _ h _ _ => .inl h⟩
theorem Gr.trans (a : Gr ws G H ws1 G1 H1) (b : Gr ws1 G1 H1 ws2 G2 H2) : Gr ws G H ws2 G2 H2 where
  g := fun x o h => b.g x o (a.g x o h)
  p := by
    obtain ⟨m, e⟩ := a.p
    obtain ⟨m', e'⟩ := b.p
    exact ⟨m ++ m', by rw [e', e, List.append_assoc]⟩
  fr := fun x o h hw n => b.fr x o (a.fr x o h hw n) (a.nw x o h n hw) n
  fz := fun x o u h => b.fz x o u (a.fz x o u h)
  nw := fun x o h n hw => b.nw x o (a.fr x o h hw n) n (a.nw x o h n hw)
  nf := fun x o h hg hw n => (a.nf x o h hg hw n).elim (fun k => b.nf x o (a.fr x o h hw n) k (a.nw x o h n hw) n) .inr
theorem Gr.at (a : Gr ws G H ws1 G1 H1) {n : Nat} {x : Addr} (h : ws[n]? = some x) : ws1[n]? = some x := by
  obtain ⟨m, e⟩ := a.p
  rw [e, List.getElem?_append_left (List.getElem?_eq_some_iff.mp h).1]
  exact h
theorem Gr.rp (a : Gr ws G H ws1 G1 H1) {v : V} {x : D} (h : Rp K G v x) : Rp K G1 v x := h.to (.of a.g)
theorem Gr.rv (a : Gr ws G H ws1 G1 H1) {v : V} {x : Vl} (h : RpV K ws G v x) : RpV K ws1 G1 v x := h.to (.of a.g) fun _ _ e => a.at e
theorem Gr.rvs (a : Gr ws G H ws1 G1 H1) {vs : List V} {xs : List Vl} (h : RpVs K ws G vs xs) : RpVs K ws1 G1 vs xs := Paired.imp (fun _ _ => a.rv) h
/-! ### slots -/
def RpO (K : Fr) (ws : List Addr) (G : Hp) (ov : Option V) : Option Vl → Prop
  | none => True
  | some x => ∃ v, ov = some v ∧ RpV K ws G v x
abbrev EnvR (K : Fr) (ws : List Addr) (G : Hp) : L2.St → Ev → Prop := Paired (RpO K ws G)
theorem EnvR.up {σ : L2.St} {ρ : Ev} (a : Gr ws G H ws1 G1 H1) (e : EnvR K ws G σ ρ) : EnvR K ws1 G1 σ ρ := Paired.imp (fun ov od h => by
  cases od with
  | none => trivial
  | some x =>
    obtain ⟨v, e, r⟩ := h
    exact ⟨v, e, a.rv r⟩) e
theorem EnvR.at {σ : L2.St} {ρ : Ev} (e : EnvR K ws G σ ρ) {i : Nat} {x : Vl} (h : ρ[i]? = some (some x)) : ∃ v, σ[i]? = some (some v) ∧ RpV K ws G v x := by
  obtain ⟨ov, h1, v, h2, r⟩ := Paired.at' e h
  subst h2
  exact ⟨v, h1, r⟩
theorem EnvR.set {σ : L2.St} {ρ : Ev} (e : EnvR K ws G σ ρ) (i : Nat) {v : V} {x : Vl} (h : RpV K ws G v x) : EnvR K ws G (σ.set i (some v)) (ρ.set i (some x)) := Paired.set' ⟨v, rfl, h⟩ i e
def wipeE (ρ : Ev) : List Nat → Ev
  | [] => ρ
  | v :: vs => (wipeE ρ vs).set v none
theorem EnvR.wipe {σ : L2.St} {ρ : Ev} (e : EnvR K ws G σ ρ) : ∀ vs : List Nat, EnvR K ws G (L2.wipe σ vs) (wipeE ρ vs)
  | [] => e
  | v :: vs => Paired.set' trivial v (EnvR.wipe e vs)
end
/-! ### what is wanted -/
section
variable {α β α' β' : Type} (K : Fr) (TB : List (Addr × Str))
def Wish (R : List Addr → Hp → Hp → β → α → Prop) (E : XK) (ws : List Addr) (G H : Hp) (Q : β → Hp → Prop) : Res α → Prop
  | .ok x W' => ∀ b ws' G' H', Gr ws G H ws' G' H' → Cf K TB ws' G' H' W' → R ws' G' H' b x → Q b H'
  | .exc C W' => ∀ ws' G' H', Gr ws G H ws' G' H' → Cf K TB ws' G' H' W' → E (.ref C) none H'
  | .stuck => False
def WishS (E : XK) (ws : List Addr) (G H : Hp) (Dn : Ends) : Out → Prop
  | .nx ρ W' => ∀ σ' ws' G' H', Gr ws G H ws' G' H' → Cf K TB ws' G' H' W' → EnvR K ws' G' σ' ρ → Dn.nx σ' H'
  | .rt x W' => ∀ v ws' G' H', Gr ws G H ws' G' H' → Cf K TB ws' G' H' W' → RpV K ws' G' v x → Dn.rt v H'
  | .bk ρ W' => ∀ σ' ws' G' H', Gr ws G H ws' G' H' → Cf K TB ws' G' H' W' → EnvR K ws' G' σ' ρ → Dn.bk σ' H'
  | .ct ρ W' => ∀ σ' ws' G' H', Gr ws G H ws' G' H' → Cf K TB ws' G' H' W' → EnvR K ws' G' σ' ρ → Dn.ct σ' H'
  | .exc C W' => ∀ ws' G' H', Gr ws G H ws' G' H' → Cf K TB ws' G' H' W' → E (.ref C) none H'
  | .stuck => False
def Snd (R : List Addr → Hp → Hp → β → α → Prop) (E : XK) (t : L2.St → Hp → (β → Hp → Prop) → Prop) (f : Ev → Ms → Res α) : Prop :=
  ∀ (σ : L2.St) (ws : List Addr) (G H : Hp) (ρ : Ev) (W : Ms) (Q : β → Hp → Prop), EnvR K ws G σ ρ → Cf K TB ws G H W → Wish K TB R E ws G H Q (f ρ W) → t σ H Q
abbrev RV : List Addr → Hp → Hp → V → Vl → Prop := fun ws G _ => RpV K ws G
abbrev RVs : List Addr → Hp → Hp → List V → List Vl → Prop := fun ws G _ => RpVs K ws G
abbrev SE (E : XK) (t : TE) (f : Ev → Ms → Res Vl) : Prop := Snd K TB (RV K) E t f
abbrev SA (E : XK) (t : TA) (f : Ev → Ms → Res (List Vl)) : Prop := Snd K TB (RVs K) E t f
abbrev ST (E : XK) (t : TT) (f : Ev → Ms → Res Bool) : Prop := Snd K TB (fun _ _ _ b x => b = x) E t f
def SS (E : XK) (t : TS) (f : Ev → Ms → Out) : Prop :=
  ∀ (σ : L2.St) (ws : List Addr) (G H : Hp) (ρ : Ev) (W : Ms) (Dn : Ends), EnvR K ws G σ ρ → Cf K TB ws G H W → WishS K TB E ws G H Dn (f ρ W) → t Dn σ H
def spD (F : List Vl → Ms → Res Vl) : Sp := fun vs H Q E => ∃ ws G W ds, Cf K TB ws G H W ∧ RpVs K ws G vs ds ∧ Wish K TB (RV K) E ws G H Q (F ds W)
variable {K TB} {R : List Addr → Hp → Hp → β → α → Prop} {R' : List Addr → Hp → Hp → β' → α' → Prop} {E : XK} {ws ws1 : List Addr} {G H G1 H1 : Hp} {Q : β → Hp → Prop} {Q' : β' → Hp → Prop} {Dn : Ends}
theorem Wish.up {r : Res α} (w : Wish K TB R E ws G H Q r) (a : Gr ws G H ws1 G1 H1) : Wish K TB R E ws1 G1 H1 Q r := by
  cases r with
  | ok x W' => exact fun b ws' G' H' g c r => w b ws' G' H' (a.trans g) c r
  | exc C W' => exact fun ws' G' H' g c => w ws' G' H' (a.trans g) c
  | stuck => exact w
theorem WishS.up {r : Out} (w : WishS K TB E ws G H Dn r) (a : Gr ws G H ws1 G1 H1) : WishS K TB E ws1 G1 H1 Dn r := by
  cases r with
  | nx ρ W' => exact fun b ws' G' H' g c r => w b ws' G' H' (a.trans g) c r
  | rt ρ W' => exact fun b ws' G' H' g c r => w b ws' G' H' (a.trans g) c r
  | bk ρ W' => exact fun b ws' G' H' g c r => w b ws' G' H' (a.trans g) c r
  | ct ρ W' => exact fun b ws' G' H' g c r => w b ws' G' H' (a.trans g) c r
  | exc C W' => exact fun ws' G' H' g c => w ws' G' H' (a.trans g) c
  | stuck => exact w
theorem Wish.ok {x : α} {W : Ms} {b : β} (w : Wish K TB R E ws G H Q (.ok x W)) (c : Cf K TB ws G H W) (r : R ws G H b x) : Q b H := w b ws G H .refl c r
/-- go through a part -/
theorem Snd.go {t : L2.St → Hp → (β' → Hp → Prop) → Prop} {f : Ev → Ms → Res α'} {σ : L2.St} {ρ : Ev} {W : Ms} {k : α' → Ms → Res α} (h : Snd K TB R' E t f) (e : EnvR K ws G σ ρ) (c : Cf K TB ws G H W)
    (w : Wish K TB R E ws G H Q ((f ρ W).bind k))
    (nx : ∀ b x W1 ws1 G1 H1, Gr ws G H ws1 G1 H1 → Cf K TB ws1 G1 H1 W1 → R' ws1 G1 H1 b x → Wish K TB R E ws1 G1 H1 Q (k x W1) → Q' b H1) : t σ H Q' := by
  refine h σ ws G H ρ W Q' e c ?_
  cases q : f ρ W with
  | ok x W1 =>
    rw [q] at w
    exact fun b ws1 G1 H1 g c1 r => nx b x W1 ws1 G1 H1 g c1 r (Wish.up w g)
  | exc C W1 =>
    rw [q] at w
    exact w
  | stuck =>
    rw [q] at w
    exact w
theorem Snd.goS {t : L2.St → Hp → (β' → Hp → Prop) → Prop} {f : Ev → Ms → Res α'} {σ : L2.St} {ρ : Ev} {W : Ms} {k : α' → Ms → Out} (h : Snd K TB R' E t f) (e : EnvR K ws G σ ρ) (c : Cf K TB ws G H W)
    (w : WishS K TB E ws G H Dn ((f ρ W).bindS k))
    (nx : ∀ b x W1 ws1 G1 H1, Gr ws G H ws1 G1 H1 → Cf K TB ws1 G1 H1 W1 → R' ws1 G1 H1 b x → WishS K TB E ws1 G1 H1 Dn (k x W1) → Q' b H1) : t σ H Q' := by
  refine h σ ws G H ρ W Q' e c ?_
  cases q : f ρ W with
  | ok x W1 =>
    rw [q] at w
    exact fun b ws1 G1 H1 g c1 r => nx b x W1 ws1 G1 H1 g c1 r (WishS.up w g)
  | exc C W1 =>
    rw [q] at w
    exact w
  | stuck =>
    rw [q] at w
    exact w
end
end DL

set_option Elab.async false
set_option linter.all false
set_option maxRecDepth 100000
set_option maxHeartbeats 4000000
namespace DL
open PySem L2
/-! ## what happens to the state -/
section
variable {K : Fr} {TB : List (Addr × Str)} {ws ws' : List Addr} {G G' H H' : Hp} {W W' : Ms} {p a : Addr} {o u : HO} {m : M} {n : Nat}
theorem idx_inj {l : List Addr} (nd : l.Nodup) {i n : Nat} {a : Addr} (h1 : l[i]? = some a) (h2 : l[n]? = some a) : i = n := by
  have hp : l.Pairwise (· ≠ ·) := nd
  rw [List.pairwise_iff_getElem] at hp
  obtain ⟨q1, e1⟩ := List.getElem?_eq_some_iff.mp h1
  obtain ⟨q2, e2⟩ := List.getElem?_eq_some_iff.mp h2
  rcases Nat.lt_trichotomy i n with h | h | h
  · exact absurd (e1.trans e2.symm) (hp i n q1 q2 h)
  · exact h
  · exact absurd (e2.trans e1.symm) (hp n i q2 q1 h)
def Plain (u : HO) : Prop := (∀ ps, u ≠ .tbl ps) ∧ (∀ c q, u ≠ LamX.CodeO c q) ∧ ∀ xs, u ≠ .tup xs
theorem dN_ne_code {w : World} {a : Addr} {xs : List (NestedKey × Addr × V)} (c : Addr) (q : Str) : dN w a xs ≠ LamX.CodeO c q := by
  intro e
  injection e with e
  have hg : (⟨Array.replicate (c + 1) { cls := .none, data := .fields #[.none, .str q 0] }, {}⟩ : Heap).get? c = some { cls := .none, data := .fields #[.none, .str q 0] } := by
    unfold Heap.get?
    simp
  have h2 := congrFun e (⟨Array.replicate (c + 1) { cls := .none, data := .fields #[.none, .str q 0] }, {}⟩ : Heap)
  have h3 := (Eq.mpr h2 ⟨_, _, 0, hg, rfl, rfl⟩ : _)
  obtain ⟨_, _, us, o, es, ep, _, h4, _, h5, _⟩ := h3
  unfold Heap.get? at h4
  by_cases ha : a < c + 1
  · simp [ha] at h4
    rw [← h4] at h5
    cases h5
  · simp [ha] at h4
theorem plain_dN {w : World} {a : Addr} {xs : List (NestedKey × Addr × V)} : Plain (dN w a xs) := ⟨fun _ z => (nomatch z), dN_ne_code, fun _ z => (nomatch z)⟩
theorem plain_lst {xs : List V} : Plain (.lst xs) := ⟨fun _ z => (nomatch z), fun _ _ z => (nomatch z), fun _ z => (nomatch z)⟩
theorem plain_dK {xs : List (Key × V)} : Plain (.dK xs) := ⟨fun _ z => (nomatch z), fun _ _ z => (nomatch z), fun _ z => (nomatch z)⟩
theorem plain_ins {C dx : Addr} {fs : List (Str × V)} : Plain (.ins C dx fs) := ⟨fun _ z => (nomatch z), fun _ _ z => (nomatch z), fun _ z => (nomatch z)⟩
theorem plain_frz {o : Obj} {u : HO} : Plain (.frz o u) := ⟨fun _ z => (nomatch z), fun _ _ z => (nomatch z), fun _ z => (nomatch z)⟩
theorem nf_lst {xs : List V} : Plain (.lst xs) ∧ ∀ o' u', HO.lst xs ≠ .frz o' u' := ⟨plain_lst, fun _ _ z => (nomatch z)⟩
theorem nf_dK {xs : List (Key × V)} : Plain (.dK xs) ∧ ∀ o' u', HO.dK xs ≠ .frz o' u' := ⟨plain_dK, fun _ _ z => (nomatch z)⟩
theorem nf_dN {w : World} {a : Addr} {xs : List (NestedKey × Addr × V)} : Plain (dN w a xs) ∧ ∀ o' u', dN w a xs ≠ .frz o' u' := ⟨plain_dN, fun _ _ z => (nomatch z)⟩
theorem nf_ins {C dx : Addr} {fs : List (Str × V)} : Plain (.ins C dx fs) ∧ ∀ o' u', HO.ins C dx fs ≠ .frz o' u' := ⟨plain_ins, fun _ _ z => (nomatch z)⟩
theorem MAt.plain (h : MAt K ws G H a m) (hm : m ≠ .dead) : ∃ u, H a = some u ∧ Plain u := by
  cases m with
  | lst l => obtain ⟨vs, e, _⟩ := h; exact ⟨_, e, plain_lst⟩
  | dct l =>
    rcases h with ⟨kvs, e, _⟩ | ⟨kvs, e, _⟩
    · exact ⟨_, e, plain_dK⟩
    · exact ⟨_, e, plain_dN⟩
  | ins C l => obtain ⟨dx, fs, e, _⟩ := h; exact ⟨_, e, plain_ins⟩
  | lk l => rcases h with ⟨ob, kvs, e, _⟩ | ⟨ob, kvs, e, _⟩ <;> exact ⟨_, e, plain_frz⟩
  | dead => exact absurd rfl hm
theorem MAt.to (h : MAt K ws G H a m) (r : ∀ v x, RpV K ws G v x → RpV K ws' G' v x) (e : H' a = H a) : MAt K ws' G' H' a m := by
  have r0 : ∀ v x, Rp K G v x → Rp K G' v x := fun v x h => by
    cases r v (.d x) (.d h) with
    | d h => exact h
  cases m with
  | lst l => obtain ⟨vs, q, h⟩ := h; exact ⟨vs, e.trans q, Paired.imp r h⟩
  | dct l =>
    rcases h with ⟨kvs, q, h⟩ | ⟨kvs, q, h, nl⟩
    · exact .inl ⟨kvs, e.trans q, Paired.imp (fun _ _ z => ⟨z.1, r _ _ z.2⟩) h⟩
    · exact .inr ⟨kvs, e.trans q, Paired.imp (fun _ _ z => ⟨⟨r0 _ _ z.1.1, z.1.2⟩, r _ _ z.2⟩) h, nl⟩
  | ins C l => obtain ⟨dx, fs, q, c, h⟩ := h; exact ⟨dx, fs, e.trans q, c, Paired.imp (fun _ _ z => ⟨z.1, r _ _ z.2⟩) h⟩
  | lk l =>
    rcases h with ⟨ob, kvs, q, h⟩ | ⟨ob, kvs, q, h, nl⟩
    · exact .inl ⟨ob, kvs, e.trans q, Paired.imp (fun _ _ z => ⟨z.1, r _ _ z.2⟩) h⟩
    · exact .inr ⟨ob, kvs, e.trans q, Paired.imp (fun _ _ z => ⟨⟨r0 _ _ z.1.1, z.1.2⟩, r _ _ z.2⟩) h, nl⟩
  | dead => exact trivial
theorem same_upd (h : G p = none) : Same G (upd G p o) := fun b u e => by
  rw [upd_ne (ne_of_none e h)]
  exact e
theorem Cf.gn (c : Cf K TB ws G H W) (h : H p = none) : G p = none := by
  cases e : G p with
  | none => rfl
  | some o => rw [c.g p o e] at h; cases h
theorem Cf.wn (c : Cf K TB ws G H W) (h : H p = none) : p ∉ ws := fun z => by
  obtain ⟨o, e, _⟩ := c.dm p z
  rw [h] at e
  cases e
theorem Cf.ne (c : Cf K TB ws G H W) (h : H p = none) {n : Nat} {a : Addr} (e : ws[n]? = some a) : a ≠ p := fun z => c.wn h (z ▸ List.mem_of_getElem? e)
/-- a new object that nobody changes -/
theorem Cf.new (c : Cf K TB ws G H W) (h : H p = none) (ho : ∀ ps, o ≠ .tbl ps := by intro _ z; cases z) : Cf K TB ws (upd G p o) (upd H p o) W where
  g := fun b u e => by
    by_cases q : b = p
    · subst q; rw [upd_same] at e ⊢; exact e
    · rw [upd_ne q] at e ⊢; exact c.g b u e
  len := c.len
  nd := c.nd
  nt := fun b ps q => by
    by_cases z : b = p
    · subst z; rw [upd_same] at q; exact ho ps (Option.some.inj q)
    · rw [upd_ne z] at q; exact c.nt b ps q
  dm := fun b hb => by have ne : b ≠ p := fun z => c.wn h (z ▸ hb); rw [upd_ne ne]; exact c.dm b hb
  ob := fun n a m e1 e2 hm => by
    obtain ⟨h1, h2⟩ := c.ob n a m e1 e2 hm
    have ne := c.ne h e1
    exact ⟨by rw [upd_ne ne]; exact h1, h2.to (fun v x r => r.to (.of (same_upd (c.gn h))) fun _ _ e => e) (upd_ne ne)⟩
  tb := c.tb.ext (same_upd h)
theorem Gr.new (c : Cf K TB ws G H W) (h : H p = none) : Gr ws G H ws (upd G p o) (upd H p o) where
  g := same_upd (c.gn h)
  p := ⟨[], by simp⟩
  fr := fun b u e _ _ => by rw [upd_ne (ne_of_none e h)]; exact e
  fz := fun b o u e => by rw [upd_ne (ne_of_none e h)]; exact e
  nw := fun _ _ _ _ hw => hw
  nf := fun b u hb hg hw _ => .inl (by rw [upd_ne (ne_of_none hb h)]; exact hg)
/-- a new object that is not told of -/
theorem Cf.junk (c : Cf K TB ws G H W) (h : H p = none) : Cf K TB ws G (upd H p o) W where
  g := fun b u e => by
    rw [upd_ne (ne_of_none e (c.gn h))]
    exact c.g b u e
  len := c.len
  nd := c.nd
  nt := c.nt
  dm := fun b hb => by have ne : b ≠ p := fun z => c.wn h (z ▸ hb); rw [upd_ne ne]; exact c.dm b hb
  ob := fun n a m e1 e2 hm => by
    obtain ⟨h1, h2⟩ := c.ob n a m e1 e2 hm
    exact ⟨h1, h2.to (fun v x r => r) (upd_ne (c.ne h e1))⟩
  tb := c.tb.ext (same_upd h)
theorem Gr.junk (h : H p = none) : Gr ws G H ws G (upd H p o) where
  g := fun _ _ e => e
  p := ⟨[], by simp⟩
  fr := fun b u e _ _ => by rw [upd_ne (ne_of_none e h)]; exact e
  fz := fun b o u e => by rw [upd_ne (ne_of_none e h)]; exact e
  nw := fun _ _ _ _ hw => hw
  nf := fun b u hb hg hw _ => .inl hg
/-- such an object is written -/
theorem Cf.junkW (c : Cf K TB ws G H W) (hg : G p = none) (hw : p ∉ ws) (hp : ∃ u, H p = some u ∧ Plain u) : Cf K TB ws G (upd H p o) W where
  g := fun b u e => by
    rw [upd_ne (ne_of_none e hg)]
    exact c.g b u e
  len := c.len
  nd := c.nd
  nt := c.nt
  dm := fun b hb => by have ne : b ≠ p := fun z => hw (z ▸ hb); rw [upd_ne ne]; exact c.dm b hb
  ob := fun n a m e1 e2 hm => by
    obtain ⟨h1, h2⟩ := c.ob n a m e1 e2 hm
    exact ⟨h1, h2.to (fun v x r => r) (upd_ne (show a ≠ p from fun z => hw (z ▸ List.mem_of_getElem? e1)))⟩
  tb := fun q hq => by
    obtain ⟨ps, h1, h2, h3⟩ := c.tb q hq
    obtain ⟨u, eu, pu⟩ := hp
    refine ⟨ps, by rw [upd_ne (fun z => by rw [z, eu] at h1; exact pu.1 _ (Option.some.inj h1))]; exact h1, h2, fun pos cv hc => ?_⟩
    obtain ⟨d, e1, e2⟩ := h3 pos cv hc
    exact ⟨d, e1, by rw [upd_ne (fun z => by rw [z, eu] at e2; exact pu.2.1 _ _ (Option.some.inj e2))]; exact e2⟩
theorem Gr.junkW (g : Gr ws G H ws' G' H') (h : H p = none) : Gr ws G H ws' G' (upd H' p o) where
  g := g.g
  p := g.p
  fr := fun b u e h2 n => by
    rw [upd_ne (ne_of_none e h)]
    exact g.fr b u e h2 n
  fz := fun b o u e => by rw [upd_ne (ne_of_none e h)]; exact g.fz b o u e
  nw := g.nw
  nf := g.nf
/-- a new object that changes -/
theorem Cf.newM (c : Cf K TB ws G H W) (h : H p = none) (hm : MAt K (ws ++ [p]) G (upd H p o) p m) (ho : ∀ ps, o ≠ .tbl ps := by intro _ z; cases z) : Cf K TB (ws ++ [p]) G (upd H p o) (W ++ [m]) where
  nt := c.nt
  g := fun b u e => by
    rw [upd_ne (ne_of_none e (c.gn h))]
    exact c.g b u e
  len := by rw [List.length_append, List.length_append, c.len]; rfl
  nd := List.nodup_append.mpr ⟨c.nd, by simp, fun a ha b hb z => by
    rw [List.mem_singleton] at hb
    exact c.wn h (hb ▸ z ▸ ha)⟩
  dm := fun b hb => by
    rcases List.mem_append.mp hb with hb | hb
    · have ne : b ≠ p := fun z => c.wn h (z ▸ hb)
      rw [upd_ne ne]; exact c.dm b hb
    · rw [List.mem_singleton.mp hb, upd_same]; exact ⟨_, rfl, ho⟩
  ob := fun n a x e1 e2 hx => by
    by_cases hn : n < ws.length
    · rw [List.getElem?_append_left hn] at e1
      rw [List.getElem?_append_left (by rw [← c.len]; exact hn)] at e2
      obtain ⟨h1, h2⟩ := c.ob n a x e1 e2 hx
      refine ⟨h1, h2.to (fun v x r => r.to (.of fun _ _ e => e) fun i b e => ?_) (upd_ne (c.ne h e1))⟩
      rw [List.getElem?_append_left (List.getElem?_eq_some_iff.mp e).1]
      exact e
    · have hn2 : n = ws.length := by
        have := (List.getElem?_eq_some_iff.mp e1).1
        rw [List.length_append] at this
        have : n < ws.length + 1 := this
        omega
      subst hn2
      rw [List.getElem?_append_right (Nat.le_refl _), Nat.sub_self] at e1
      rw [List.getElem?_append_right (by rw [c.len]; exact Nat.le_refl _), ← c.len, Nat.sub_self] at e2
      cases e1
      cases e2
      exact ⟨c.gn h, hm⟩
  tb := c.tb.ext (same_upd h)
theorem Gr.newM (c : Cf K TB ws G H W) (h : H p = none) : Gr ws G H (ws ++ [p]) G (upd H p o) where
  g := fun _ _ e => e
  p := ⟨[p], rfl⟩
  fr := fun b u e _ _ => by rw [upd_ne (ne_of_none e h)]; exact e
  fz := fun b o u e => by rw [upd_ne (ne_of_none e h)]; exact e
  nw := fun b u hb _ hw z => by
    rcases List.mem_append.mp z with z | z
    · exact hw z
    · rw [List.mem_singleton.mp z, h] at hb
      cases hb
  nf := fun b u hb hg hw _ => .inl hg
/-- an object is changed -/
theorem Cf.put (c : Cf K TB ws G H W) (e : ws[n]? = some a) {m0 : M} (e0 : W[n]? = some m0) (hd : m0 ≠ .dead) (hm : MAt K ws G (upd H a o) a m) (ho : ∀ ps, o ≠ .tbl ps := by intro _ z; cases z) : Cf K TB ws G (upd H a o) (W.set n m) where
  nt := c.nt
  g := fun b u q => by
    rw [upd_ne (ne_of_none q (c.ob n a m0 e e0 hd).1)]
    exact c.g b u q
  len := by rw [List.length_set]; exact c.len
  nd := c.nd
  dm := fun b hb => by
    by_cases z : b = a
    · subst z; rw [upd_same]; exact ⟨_, rfl, ho⟩
    · rw [upd_ne z]; exact c.dm b hb
  ob := fun i b x e1 e2 hx => by
    by_cases hi : i = n
    · subst hi
      rw [e] at e1
      cases e1
      rw [List.getElem?_set_self (List.getElem?_eq_some_iff.mp e0).1] at e2
      cases e2
      exact ⟨(c.ob i a m0 e e0 hd).1, hm⟩
    · rw [List.getElem?_set_ne (Ne.symm hi)] at e2
      obtain ⟨h1, h2⟩ := c.ob i b x e1 e2 hx
      exact ⟨h1, h2.to (fun v x r => r) (upd_ne (show b ≠ a from fun z => hi (idx_inj c.nd e1 (z ▸ e))))⟩
  tb := fun q hq => by
    obtain ⟨ps, h1, h2, h3⟩ := c.tb q hq
    obtain ⟨u, eu, pu⟩ := (c.ob n a m0 e e0 hd).2.plain hd
    refine ⟨ps, by rw [upd_ne (fun z => by rw [z, eu] at h1; exact pu.1 _ (Option.some.inj h1))]; exact h1, h2, fun pos cv hc => ?_⟩
    obtain ⟨d, e1, e2⟩ := h3 pos cv hc
    exact ⟨d, e1, by rw [upd_ne (fun z => by rw [z, eu] at e2; exact pu.2.1 _ _ (Option.some.inj e2))]; exact e2⟩
theorem Gr.put (e : ws[n]? = some a) (hp : ∃ u, H a = some u ∧ Plain u ∧ ∀ o' u', u ≠ .frz o' u') : Gr ws G H ws G (upd H a o) where
  g := fun _ _ e => e
  p := ⟨[], by simp⟩
  fr := fun b u q hw _ => by have ne : b ≠ a := fun z => hw (z ▸ List.mem_of_getElem? e); rw [upd_ne ne]; exact q
  fz := fun b o' u' q => by
    obtain ⟨u, eu, _, pu⟩ := hp
    have ne : b ≠ a := by rintro rfl; rw [q] at eu; exact pu _ _ (Option.some.inj eu).symm
    rw [upd_ne ne]
    exact q
  nw := fun _ _ _ _ hw => hw
  nf := fun b u hb hg hw _ => .inl hg
/-- an object will be changed no more -/
theorem Cf.freeze (c : Cf K TB ws G H W) (e : ws[n]? = some a) {m0 : M} (e0 : W[n]? = some m0) (hd : m0 ≠ .dead) (eo : H a = some o) : Cf K TB ws (upd G a o) H (W.set n .dead) where
  g := fun b u q => by
    by_cases z : b = a
    · subst z; rw [upd_same] at q; rw [← q]; exact eo
    · rw [upd_ne z] at q; exact c.g b u q
  len := by rw [List.length_set]; exact c.len
  nd := c.nd
  nt := fun b ps q => by
    by_cases z : b = a
    · subst z
      rw [upd_same] at q
      obtain ⟨u, eu, pu⟩ := (c.ob n b m0 e e0 hd).2.plain hd
      rw [eo] at eu
      cases eu
      exact pu.1 ps (Option.some.inj q)
    · rw [upd_ne z] at q; exact c.nt b ps q
  dm := c.dm
  ob := fun i b x e1 e2 hx => by
    by_cases hi : i = n
    · subst hi
      rw [List.getElem?_set_self (List.getElem?_eq_some_iff.mp e0).1] at e2
      cases e2
      exact absurd rfl hx
    · rw [List.getElem?_set_ne (Ne.symm hi)] at e2
      obtain ⟨h1, h2⟩ := c.ob i b x e1 e2 hx
      have ne : b ≠ a := fun z => hi (idx_inj c.nd e1 (z ▸ e))
      exact ⟨by rw [upd_ne ne]; exact h1, h2.to (fun v x r => r.to (.of (same_upd (c.ob n a m0 e e0 hd).1)) fun _ _ e => e) rfl⟩
  tb := c.tb
theorem Gr.freeze (c : Cf K TB ws G H W) (e : ws[n]? = some a) {m0 : M} (e0 : W[n]? = some m0) (hd : m0 ≠ .dead) : Gr ws G H ws (upd G a o) H where
  g := same_upd (c.ob n a m0 e e0 hd).1
  p := ⟨[], by simp⟩
  fr := fun b u q _ _ => q
  fz := fun _ _ _ q => q
  nw := fun _ _ _ _ hw => hw
  nf := fun b u hb hg hw _ => .inl (by have ne : b ≠ a := fun z => hw (z ▸ List.mem_of_getElem? e); rw [upd_ne ne]; exact hg)
/-- what was made on the way is forgotten -/
def Chk (k : Nat) (W0 W : Ms) : Prop := ∀ i, i < k → W[i]? = W0[i]? ∨ ∃ m, W[i]? = some m ∧ m.below k = true
theorem MAt.bel (k : Nat) (h : MAt K ws G H a m) (hb : m.below k = true) : MAt K (ws.take k) G H a m := by
  cases m with
  | lst l => obtain ⟨vs, e, h⟩ := h; exact ⟨vs, e, Paired.impB h fun v x hx r => r.bel k (List.all_eq_true.mp hb x hx)⟩
  | dct l =>
    rcases h with ⟨kvs, e, h⟩ | ⟨kvs, e, h, nl⟩
    · exact .inl ⟨kvs, e, Paired.impB h fun v x hx r => ⟨r.1, r.2.bel k (List.all_eq_true.mp hb x hx)⟩⟩
    · exact .inr ⟨kvs, e, Paired.impB h fun v x hx r => ⟨r.1, r.2.bel k (List.all_eq_true.mp hb x hx)⟩, nl⟩
  | ins C l => obtain ⟨dx, fs, e, c, h⟩ := h; exact ⟨dx, fs, e, c, Paired.impB h fun v x hx r => ⟨r.1, r.2.bel k (List.all_eq_true.mp hb x hx)⟩⟩
  | lk l =>
    rcases h with ⟨ob, kvs, e, h⟩ | ⟨ob, kvs, e, h, nl⟩
    · exact .inl ⟨ob, kvs, e, Paired.impB h fun v x hx r => ⟨r.1, r.2.bel k (List.all_eq_true.mp hb x hx)⟩⟩
    · exact .inr ⟨ob, kvs, e, Paired.impB h fun v x hx r => ⟨r.1, r.2.bel k (List.all_eq_true.mp hb x hx)⟩, nl⟩
  | dead => exact trivial
theorem Paired.mem' {α β : Type} {F : α → β → Prop} {b : β} : ∀ {l : List α} {r : List β}, Paired F l r → b ∈ r → ∃ a, F a b
  | _, _, .nil, h => nomatch h
  | _, _, .cons f t, h => by
    rcases List.mem_cons.mp h with e | h
    · subst e; exact ⟨_, f⟩
    · exact Paired.mem' t h
theorem RpV.lt {v : V} {x : Vl} (r : RpV K ws G v x) : x.below ws.length = true := by
  cases r with
  | d h => rfl
  | mu h => exact decide_eq_true (List.getElem?_eq_some_iff.mp h).1
theorem MAt.lt (h : MAt K ws G H a m) : m.below ws.length = true := by
  cases m with
  | lst l =>
    obtain ⟨vs, e, h⟩ := h
    exact List.all_eq_true.mpr fun x hx => let ⟨_, r⟩ := Paired.mem' h hx; r.lt
  | dct l =>
    rcases h with ⟨kvs, e, h⟩ | ⟨kvs, e, h, _⟩ <;> exact List.all_eq_true.mpr fun x hx => let ⟨_, r⟩ := Paired.mem' h hx; r.2.lt
  | ins C l =>
    obtain ⟨dx, fs, e, c, h⟩ := h
    exact List.all_eq_true.mpr fun x hx => let ⟨_, r⟩ := Paired.mem' h hx; r.2.lt
  | lk l =>
    rcases h with ⟨ob, kvs, e, h⟩ | ⟨ob, kvs, e, h, _⟩ <;> exact List.all_eq_true.mpr fun x hx => let ⟨_, r⟩ := Paired.mem' h hx; r.2.lt
  | dead => rfl
theorem Gr.take (g : Gr ws G H ws' G' H') (hk : ws.length = n) : ws'.take n = ws := by
  obtain ⟨more, e⟩ := g.p
  rw [e, ← hk, List.take_left']
  rfl
theorem Cf.trim (c0 : Cf K TB ws G H W) (g : Gr ws G H ws' G' H') (c : Cf K TB ws' G' H' W') (h : Chk W.length W W') : Cf K TB ws G' H' (W'.take W.length) where
  g := c.g
  len := by
    obtain ⟨more, e⟩ := g.p
    have := c.len
    rw [e, List.length_append] at this
    rw [List.length_take, c0.len] at *
    omega
  nd := c0.nd
  nt := c.nt
  dm := fun a ha => c.dm a (by obtain ⟨more, e⟩ := g.p; rw [e]; exact List.mem_append_left _ ha)
  ob := fun i a m e1 e2 hm => by
    have hi : i < W.length := by rw [← c0.len]; exact (List.getElem?_eq_some_iff.mp e1).1
    rw [List.getElem?_take, if_pos hi] at e2
    obtain ⟨h1, h2⟩ := c.ob i a m (g.at e1) e2 hm
    refine ⟨h1, ?_⟩
    have hb : m.below W.length = true := by
      rcases h i hi with q | ⟨m', q, hb⟩
      · rw [e2] at q
        rw [← c0.len]
        exact (c0.ob i a m e1 q.symm hm).2.lt
      · rw [e2] at q
        cases q
        exact hb
    have z := h2.bel W.length hb
    rw [g.take c0.len] at z
    exact z
  tb := c.tb
theorem Gr.trim (g : Gr ws G H ws' G' H') : Gr ws G H ws G' H' where
  g := g.g
  p := ⟨[], by simp⟩
  fr := g.fr
  fz := g.fz
  nw := fun _ _ _ _ hw => hw
  nf := g.nf
/-- a tuple that stands is taken over -/
theorem Cf.adopt {xs : List V} (c : Cf K TB ws G H W) (e : H p = some (.tup xs)) : Cf K TB ws (upd G p (.tup xs)) H W where
  g := fun b u q => by
    by_cases z : b = p
    · subst z; rw [upd_same] at q; cases q; exact e
    · rw [upd_ne z] at q; exact c.g b u q
  len := c.len
  nd := c.nd
  nt := fun b ps q => by
    by_cases z : b = p
    · subst z; rw [upd_same] at q; cases q
    · rw [upd_ne z] at q; exact c.nt b ps q
  dm := c.dm
  ob := fun i a m e1 e2 hm => by
    obtain ⟨h1, h2⟩ := c.ob i a m e1 e2 hm
    have ne : a ≠ p := by
      rintro rfl
      obtain ⟨u, eu, pu⟩ := h2.plain hm
      rw [e] at eu
      exact pu.2.2 _ (Option.some.inj eu).symm
    refine ⟨by rw [upd_ne ne]; exact h1, h2.to (fun v x r => r.to (.of fun b u q => ?_) fun _ _ z => z) rfl⟩
    by_cases z : b = p
    · subst z
      rw [c.g _ _ q] at e
      cases e
      rw [upd_same]
    · rw [upd_ne z]; exact q
  tb := c.tb
theorem Gr.adopt {xs : List V} (c : Cf K TB ws G H W) (e : H p = some (.tup xs)) : Gr ws G H ws (upd G p (.tup xs)) H where
  g := fun b u q => by
    by_cases z : b = p
    · subst z
      rw [c.g _ _ q] at e
      cases e
      rw [upd_same]
    · rw [upd_ne z]; exact q
  p := ⟨[], by simp⟩
  fr := fun b u q _ _ => q
  fz := fun _ _ _ q => q
  nw := fun _ _ _ _ hw => hw
  nf := fun b u hb hg hw _ => by
    by_cases z : b = p
    · subst z
      rw [e] at hb
      cases hb
      exact .inr ⟨_, rfl⟩
    · exact .inl (by rw [upd_ne z]; exact hg)
open Classical in
/-- a def's end -/
noncomputable def fin (W0 : Ms) (v : Vl) (W : Ms) : Res Vl := if v.below W0.length = true ∧ Chk W0.length W0 W then .ok v (W.take W0.length) else .ok v W
open Classical in
noncomputable def finX {α : Type} (W0 : Ms) (C : Addr) (W : Ms) : Res α := if Chk W0.length W0 W then .exc C (W.take W0.length) else .exc C W
end
end DL

set_option Elab.async false
set_option linter.all false
set_option maxRecDepth 100000
set_option maxHeartbeats 4000000
namespace DL
open PySem L2
/-! ## the parts of expressions -/
abbrev FE := Ev → Ms → Res Vl
abbrev FA := Ev → Ms → Res (List Vl)
abbrev FT := Ev → Ms → Res Bool
abbrev FS := Ev → Ms → Out
abbrev FD := List Vl → Ms → Res Vl
def eVar (i : Nat) : FE := fun ρ W => match ρ[i]? with
  | some (some x) => .ok x W
  | _ => .stuck
def eC (x : D) : FE := fun _ W => .ok (.d x) W
def aNil : FA := fun _ W => .ok [] W
def aCons (f : FE) (g : FA) : FA := fun ρ W => (f ρ W).bind fun x W1 => (g ρ W1).bind fun xs W2 => .ok (x :: xs) W2
def dsOf : List Vl → Option (List D)
  | [] => some []
  | .d x :: l => (dsOf l).map (x :: ·)
  | _ => none
def mkTup (xs : List Vl) (W : Ms) : Res Vl := if xs.length ≤ 1000000 then (match dsOf xs with
  | some l => .ok (.d (.tup l)) W
  | none => .stuck) else .stuck
def mkLst (xs : List Vl) (W : Ms) : Res Vl := if xs.length ≤ 1000000 then (match dsOf xs with
  | some l => .ok (.d (.lst l)) W
  | none => .stuck) else .stuck
def mkLstM (xs : List Vl) (W : Ms) : Res Vl := if xs.length ≤ 1000000 then .ok (.mu W.length) (W ++ [.lst xs]) else .stuck
def eTup (g : FA) : FE := fun ρ W => (g ρ W).bind mkTup
def eLst (g : FA) : FE := fun ρ W => (g ρ W).bind mkLst
def eLstM (g : FA) : FE := fun ρ W => (g ρ W).bind mkLstM
def eDnew : FE := fun _ W => .ok (.d (.dct [])) W
def eDnewM : FE := fun _ W => .ok (.mu W.length) (W ++ [.dct []])
def eOp (g : Ms → Vl → Vl → Res Vl) (fa fb : FE) : FE := fun ρ W => (fa ρ W).bind fun x W1 => (fb ρ W1).bind fun y W2 => g W2 x y
def eUn (g : Ms → Vl → Res Vl) (fa : FE) : FE := fun ρ W => (fa ρ W).bind fun x W1 => g W1 x
def eCB (g : Ms → List Vl → Res Vl) (fs : FA) : FE := fun ρ W => (fs ρ W).bind fun xs W1 => g W1 xs
def eCall (F : FD) (dd : List Vl) (fs : FA) : FE := fun ρ W => (fs ρ W).bind fun xs W1 => F (xs ++ dd) W1
def insOf (W : Ms) : Vl → Option (Addr × List (Str × Vl))
  | .d (.ins C l) => some (C, l.map fun p => (p.1, .d p.2))
  | .mu n => match W[n]? with
    | some (.ins C l) => some (C, l)
    | _ => none
  | _ => none
def fldOf (f : Str) (W : Ms) (x : Vl) : Res Vl := match insOf W x with
  | some (_, l) => (match l.lookup f with
    | some y => .ok y W
    | none => .stuck)
  | none => .stuck
def eFld (f : Str) (fa : FE) : FE := eUn (fldOf f) fa
def isI (C : Addr) (m : Str) (W : Ms) (x : Vl) : Bool := match insOf W x with
  | some (C', l) => C' == C && (l.lookup m).isNone
  | none => false
def eMeth (C : Addr) (m : Str) (F : FD) (dd : List Vl) (fa : FE) (fs : FA) : FE := fun ρ W => (fa ρ W).bind fun x W1 => if isI C m W1 x = true then (fs ρ W1).bind fun xs W2 => F (x :: (xs ++ dd)) W2 else .stuck
def isNon : Vl → Bool
  | .d .non => true
  | _ => false
def eMakeM (C : Addr) (F : FD) (dd : List Vl) (fs : FA) : FE := fun ρ W => (fs ρ W).bind fun xs W1 =>
  (F (.mu W1.length :: (xs ++ dd)) (W1 ++ [.ins C []])).bind fun r W2 => if isNon r = true then .ok (.mu W1.length) W2 else .stuck
def insD : List (Str × Vl) → Option (List (Str × D))
  | [] => some []
  | (f, .d x) :: l => (insD l).map ((f, x) :: ·)
  | _ => none
def frozen : M → Option D
  | .lst l => (dsOf l).map D.lst
  | .dct l => (l.foldr (fun p acc => match p.2, acc with
    | .d x, some r => some ((p.1, x) :: r)
    | _, _ => none) (some [])).map D.dct
  | .ins C l => (insD l).map (D.ins C)
  | _ => none
/-- nobody changes the n-th any more -/
def frz (W : Ms) : Vl → Res Vl
  | .d x => .ok (.d x) W
  | .mu n => match W[n]? with
    | some m => (match frozen m with
      | some x => .ok (.d x) (W.set n .dead)
      | none => .stuck)
    | none => .stuck
open Classical in
/-- the objects made behind the first k are forgotten -/
noncomputable def trimTo (W0 : Ms) (v : Vl) (W : Ms) : Res Vl := fin W0 v W
noncomputable def eMake (C : Addr) (F : FD) (dd : List Vl) (fs : FA) : FE := fun ρ W => (fs ρ W).bind fun xs W1 =>
  (F (.mu W1.length :: (xs ++ dd)) (W1 ++ [.ins C []])).bind fun r W2 => if isNon r = true then (frz W2 (.mu W1.length)).bind fun v W3 => fin W1 v W3 else .stuck
def eIf (c : FT) (a b : FE) : FE := fun ρ W => (c ρ W).bind fun t W1 => if t = true then a ρ W1 else b ρ W1
def blOf : Vl → Option Bool
  | .d (.bl b) => some b
  | _ => none
def eAndV (a b : FE) : FE := fun ρ W => (a ρ W).bind fun x W1 => match blOf x with
  | some t => if t = true then b ρ W1 else .ok (.d (.bl false)) W1
  | none => .stuck
def eOrV (a b : FE) : FE := fun ρ W => (a ρ W).bind fun x W1 => match blOf x with
  | some t => if t = true then .ok (.d (.bl true)) W1 else b ρ W1
  | none => .stuck
def eNotV (a : FE) : FE := eUn (fun W x => match blOf x with
  | some t => .ok (.d (.bl (!t))) W
  | none => .stuck) a
/-- tests -/
def tstV (f : FE) : FT := fun ρ W => (f ρ W).bind fun x W1 => match blOf x with
  | some t => .ok t W1
  | none => .stuck
def tstAnd (a b : FT) : FT := fun ρ W => (a ρ W).bind fun t W1 => if t = true then b ρ W1 else .ok false W1
def tstOr (a b : FT) : FT := fun ρ W => (a ρ W).bind fun t W1 => if t = true then .ok true W1 else b ρ W1
def tstNot (a : FT) : FT := fun ρ W => (a ρ W).bind fun t W1 => .ok (!t) W1
def tstYes : FT := fun _ W => .ok true W

section
variable {K : Fr} {TB : List (Addr × Str)} {E : XK}
abbrev OpD (K : Fr) (TB : List (Addr × Str)) (r : R2) (g : Ms → Vl → Vl → Res Vl) : Prop :=
  ∀ (E : XK) (ws : List Addr) (G H : Hp) (W : Ms) (x y : V) (a b : Vl) (Q : VK), Cf K TB ws G H W → RpV K ws G x a → RpV K ws G y b → Wish K TB (RV K) E ws G H Q (g W a b) → r x y H Q
abbrev UnD (K : Fr) (TB : List (Addr × Str)) (r : V → Hp → VK → Prop) (g : Ms → Vl → Res Vl) : Prop :=
  ∀ (E : XK) (ws : List Addr) (G H : Hp) (W : Ms) (x : V) (a : Vl) (Q : VK), Cf K TB ws G H W → RpV K ws G x a → Wish K TB (RV K) E ws G H Q (g W a) → r x H Q
abbrev CallD (K : Fr) (TB : List (Addr × Str)) (r : List V → Hp → VK → Prop) (g : Ms → List Vl → Res Vl) : Prop :=
  ∀ (E : XK) (ws : List Addr) (G H : Hp) (W : Ms) (xs : List V) (as : List Vl) (Q : VK), Cf K TB ws G H W → RpVs K ws G xs as → Wish K TB (RV K) E ws G H Q (g W as) → r xs H Q
theorem s_var (i : Nat) : SE K TB E (tVar i) (eVar i) := by
  intro σ ws G H ρ W Q e c w
  unfold eVar at w
  cases h : ρ[i]? with
  | none => rw [h] at w; exact w.elim
  | some o =>
    cases o with
    | none => rw [h] at w; exact w.elim
    | some x =>
      rw [h] at w
      obtain ⟨v, hv, r⟩ := e.at h
      exact ⟨v, hv, w.ok c r⟩
theorem s_c {v : V} {x : D} (h : ∀ G, Rp K G v x) : SE K TB E (tC v) (eC x) := fun σ ws G H ρ W Q e c w => w.ok c (.d (h G))
theorem s_int (i : Int) : SE K TB E (tC (.int i)) (eC (.int i)) := s_c fun _ => .int i
theorem s_str (s : Str) : SE K TB E (tC (.str s)) (eC (.str s)) := s_c fun _ => .str s
theorem s_bl (b : Bool) : SE K TB E (tC (.bl b)) (eC (.bl b)) := s_c fun _ => .bl b
theorem s_non : SE K TB E (tC .non) (eC .non) := s_c fun _ => .non
theorem s_anil : SA K TB E tNil aNil := fun σ ws G H ρ W Q e c w => w.ok c .nil
theorem s_acons {ta : TE} {tr : TA} {f : FE} {g : FA} (h : SE K TB E ta f) (k : SA K TB E tr g) : SA K TB E (tCons ta tr) (aCons f g) := by
  intro σ ws G H ρ W Q e c w
  refine h.go (R := RVs K) e c w fun x dx W1 ws1 G1 H1 g1 c1 r1 w1 => ?_
  refine k.go (R := RVs K) (e.up g1) c1 w1 fun xs dxs W2 ws2 G2 H2 g2 c2 r2 w2 => ?_
  exact w2.ok c2 (.cons (g2.rv r1) r2)
theorem dsOf_rp {ws : List Addr} {G : Hp} : ∀ {xs : List V} {as : List Vl} {l : List D}, RpVs K ws G xs as → dsOf as = some l → RpL K G xs l
  | _, _, _, .nil, h => by cases h; exact .nil
  | _, .d x :: as, l, .cons r t, h => by
    cases q : dsOf as with
    | none => simp [dsOf, q] at h
    | some l' =>
      simp [dsOf, q] at h
      subst h
      cases r with
      | d r => exact .cons r (dsOf_rp t q)
  | _, .mu n :: as, l, .cons r t, h => by simp [dsOf] at h
theorem mil {n : Nat} (h : n ≤ 1000000) : n ≤ sizeLine := by rw [sizeLine_eq]; omega
theorem mil' {n : Nat} (h : n ≤ 1000000) : n < sizeLine := by rw [sizeLine_eq]; omega
variable {ws : List Addr} {G H : Hp} {W : Ms} {Q : VK}
theorem mk_tup {xs : List V} {as : List Vl} (c : Cf K TB ws G H W) (r : RpVs K ws G xs as) (w : Wish K TB (RV K) E ws G H Q (mkTup as W)) : xs.length ≤ sizeLine ∧ ∀ p, H p = none → Q (.ref p) (upd H p (.tup xs)) := by
  unfold mkTup at w
  split at w
  · rename_i hl
    cases q : dsOf as with
    | none => rw [q] at w; exact w.elim
    | some l =>
      rw [q] at w
      refine ⟨mil (by rw [Paired.length r]; exact hl), fun p hp => w _ ws _ _ (Gr.new c hp) (c.new hp) (.d (.tup upd_same ?_))⟩
      exact (dsOf_rp r q).to (.of (same_upd (c.gn hp)))
  · exact w.elim
theorem mk_lst {xs : List V} {as : List Vl} (c : Cf K TB ws G H W) (r : RpVs K ws G xs as) (w : Wish K TB (RV K) E ws G H Q (mkLst as W)) : xs.length ≤ sizeLine ∧ ∀ p, H p = none → Q (.ref p) (upd H p (.lst xs)) := by
  unfold mkLst at w
  split at w
  · rename_i hl
    cases q : dsOf as with
    | none => rw [q] at w; exact w.elim
    | some l =>
      rw [q] at w
      refine ⟨mil (by rw [Paired.length r]; exact hl), fun p hp => w _ ws _ _ (Gr.new c hp) (c.new hp) (.d (.lst upd_same ?_))⟩
      exact (dsOf_rp r q).to (.of (same_upd (c.gn hp)))
  · exact w.elim
theorem at_end {l : List Addr} {p : Addr} {n : Nat} (h : l.length = n) : (l ++ [p])[n]? = some p := by
  rw [List.getElem?_append_right (by omega), h, Nat.sub_self]; rfl
theorem mk_lstM {xs : List V} {as : List Vl} (c : Cf K TB ws G H W) (r : RpVs K ws G xs as) (w : Wish K TB (RV K) E ws G H Q (mkLstM as W)) : xs.length ≤ sizeLine ∧ ∀ p, H p = none → Q (.ref p) (upd H p (.lst xs)) := by
  unfold mkLstM at w
  split at w
  · rename_i hl
    refine ⟨mil (by rw [Paired.length r]; exact hl), fun p hp => w _ _ _ _ (Gr.newM c hp) (c.newM hp ⟨_, upd_same, ?_⟩) (.mu (at_end c.len))⟩
    exact (Gr.newM (o := .lst xs) c hp).rvs r
  · exact w.elim
theorem s_tup {t : TA} {g : FA} (h : SA K TB E t g) : SE K TB E (tTup t) (eTup g) := by
  intro σ ws G H ρ W Q e c w
  exact h.go (R := RV K) e c w fun xs as W1 ws1 G1 H1 g1 c1 r1 w1 => mk_tup c1 r1 w1
theorem s_lst {t : TA} {g : FA} (h : SA K TB E t g) : SE K TB E (tLst t) (eLst g) := by
  intro σ ws G H ρ W Q e c w
  exact h.go (R := RV K) e c w fun xs as W1 ws1 G1 H1 g1 c1 r1 w1 => mk_lst c1 r1 w1
theorem s_lstM {t : TA} {g : FA} (h : SA K TB E t g) : SE K TB E (tLst t) (eLstM g) := by
  intro σ ws G H ρ W Q e c w
  exact h.go (R := RV K) e c w fun xs as W1 ws1 G1 H1 g1 c1 r1 w1 => mk_lstM c1 r1 w1
theorem s_dnew : SE K TB E tDNewK eDnew := fun σ ws G H ρ W Q e c w p hp => w _ ws _ _ (Gr.new c hp) (c.new hp) (.d (.dct (.inl upd_same) .nil))
theorem s_dnewM : SE K TB E tDNewK eDnewM := fun σ ws G H ρ W Q e c w p hp => w _ _ _ _ (Gr.newM c hp) (c.newM hp (.inl ⟨_, upd_same, .nil⟩)) (.mu (at_end c.len))
theorem s_op {ta tb : TE} {fa fb : FE} {r : R2} {g : Ms → Vl → Vl → Res Vl} (hg : OpD K TB r g) (ha : SE K TB E ta fa) (hb : SE K TB E tb fb) : SE K TB E (tOp r ta tb) (eOp g fa fb) := by
  intro σ ws G H ρ W Q e c w
  refine ha.go (R := RV K) e c w fun x dx W1 ws1 G1 H1 g1 c1 r1 w1 => ?_
  refine hb.go (R := RV K) (e.up g1) c1 w1 fun y dy W2 ws2 G2 H2 g2 c2 r2 w2 => ?_
  exact hg E _ _ _ _ _ _ _ _ _ c2 (g2.rv r1) r2 w2
theorem s_un {ta : TE} {fa : FE} {r : V → Hp → VK → Prop} {g : Ms → Vl → Res Vl} (hg : UnD K TB r g) (ha : SE K TB E ta fa) : SE K TB E (tUn r ta) (eUn g fa) := by
  intro σ ws G H ρ W Q e c w
  exact ha.go (R := RV K) e c w fun x dx W1 ws1 G1 H1 g1 c1 r1 w1 => hg E _ _ _ _ _ _ _ c1 r1 w1
theorem s_cb {t : TA} {fs : FA} {r : List V → Hp → VK → Prop} {g : Ms → List Vl → Res Vl} (hg : CallD K TB r g) (ha : SA K TB E t fs) : SE K TB E (tCB r t) (eCB g fs) := by
  intro σ ws G H ρ W Q e c w
  exact ha.go (R := RV K) e c w fun x dx W1 ws1 G1 H1 g1 c1 r1 w1 => hg E _ _ _ _ _ _ _ c1 r1 w1
abbrev DvOk (K : Fr) (dvs : List V) (dd : List Vl) : Prop := ∀ ws G, RpVs K ws G dvs dd
theorem dv_nil : DvOk K [] [] := fun _ _ => .nil
theorem s_call {F : FD} {dvs : List V} {dd : List Vl} {t : TA} {fs : FA} (hd : DvOk K dvs dd) (ha : SA K TB E t fs) : SE K TB E (tCall (spD K TB F) dvs E t) (eCall F dd fs) := by
  intro σ ws G H ρ W Q e c w
  exact ha.go (R := RV K) e c w fun xs as W1 ws1 G1 H1 g1 c1 r1 w1 => ⟨ws1, G1, W1, _, c1, Paired.app r1 (hd ws1 G1), w1⟩
theorem RpF.vf {ws : List Addr} : ∀ {fs : List (Str × V)} {l : List (Str × D)}, RpF K G fs l → RpVF K ws G fs (l.map fun p => (p.1, .d p.2))
  | _, _, .nil => .nil
  | _, _, .cons h t => .cons ⟨rfl, .d h⟩ (RpF.vf t)
theorem ins_at {v : V} {x : Vl} {C : Addr} {l : List (Str × Vl)} (c : Cf K TB ws G H W) (r : RpV K ws G v x) (h : insOf W x = some (C, l)) :
    ∃ a dx fs, v = .ref a ∧ H a = some (.ins C dx fs) ∧ ClsF K C (fs.map (·.1)) ∧ RpVF K ws G fs l := by
  cases r with
  | d r =>
    cases r with
    | ins e k rf =>
      simp only [insOf, Option.some.injEq, Prod.mk.injEq] at h
      obtain ⟨rfl, rfl⟩ := h
      exact ⟨_, _, _, rfl, c.g _ _ e, k, rf.vf⟩
    | _ => simp [insOf] at h
  | @mu a n e =>
    simp only [insOf] at h
    cases q : W[n]? with
    | none => rw [q] at h; cases h
    | some m =>
      rw [q] at h
      cases m with
      | ins C' l' =>
        simp only [Option.some.injEq, Prod.mk.injEq] at h
        obtain ⟨rfl, rfl⟩ := h
        obtain ⟨_, dx, fs, e1, k, rf⟩ := c.ob n a _ e q (by simp)
        exact ⟨a, dx, fs, rfl, e1, k, rf⟩
      | _ => cases h
theorem lookup_vf {f : Str} : ∀ {fs : List (Str × V)} {l : List (Str × Vl)}, RpVF K ws G fs l → (l.lookup f = none → fs.lookup f = none) ∧ ∀ y, l.lookup f = some y → ∃ v, fs.lookup f = some v ∧ RpV K ws G v y ∧ f ∈ fs.map (·.1)
  | _, _, .nil => ⟨fun _ => rfl, fun y h => by simp at h⟩
  | (f1, v1) :: fs, (f2, y2) :: l, .cons ⟨h1, h2⟩ t => by
    obtain ⟨i1, i2⟩ := lookup_vf (f := f) t
    obtain rfl : f2 = f1 := h1
    by_cases e : f = f2
    · subst e
      refine ⟨fun h => by simp [List.lookup] at h, fun y h => ⟨v1, by simp [List.lookup], ?_, by simp⟩⟩
      simp [List.lookup] at h
      subst h
      exact h2
    · have eb : (f == f2) = false := beq_eq_false_iff_ne.mpr e
      refine ⟨fun h => ?_, fun y h => ?_⟩
      · simp only [List.lookup, eb] at h ⊢
        exact i1 h
      · simp only [List.lookup, eb] at h ⊢
        obtain ⟨v, q1, q2, q3⟩ := i2 y h
        exact ⟨v, q1, q2, by simp; right; simpa using q3⟩
theorem s_fld {ta : TE} {fa : FE} {f : Str} (ha : SE K TB E ta fa) : SE K TB E (tFld K.K ta f) (eFld f fa) := by
  intro σ ws G H ρ W Q e c w
  refine ha.go (R := RV K) e c w fun x dx W1 ws1 G1 H1 g1 c1 r1 w1 => ?_
  unfold fldOf at w1
  cases q : insOf W1 dx with
  | none => rw [q] at w1; exact w1.elim
  | some p =>
    obtain ⟨C, l⟩ := p
    rw [q] at w1
    obtain ⟨a, d, fs, rfl, h1, k, rf⟩ := ins_at c1 r1 q
    simp only at w1
    cases z : l.lookup f with
    | none => rw [z] at w1; exact w1.elim
    | some y =>
      rw [z] at w1
      obtain ⟨v, e1, r2, hf⟩ := (lookup_vf rf).2 y z
      exact ⟨a, C, d, fs, v, rfl, h1, k.cl, k.no f hf, e1, w1.ok c1 r2⟩
theorem s_meth {ta : TE} {fa : FE} {C : Addr} {m : Str} {F : FD} {dvs : List V} {dd : List Vl} {t : TA} {fs : FA} (hd : DvOk K dvs dd) (ha : SE K TB E ta fa) (hs : SA K TB E t fs) : SE K TB E (tMeth C m (spD K TB F) dvs E ta t) (eMeth C m F dd fa fs) := by
  intro σ ws G H ρ W Q e c w
  refine ha.go (R := RV K) e c w fun x dx W1 ws1 G1 H1 g1 c1 r1 w1 => ?_
  split at w1
  · rename_i hi
    unfold isI at hi
    cases q : insOf W1 dx with
    | none => rw [q] at hi; cases hi
    | some p =>
      obtain ⟨C', l⟩ := p
      rw [q] at hi
      simp only [Bool.and_eq_true, beq_iff_eq, Option.isNone_iff_eq_none] at hi
      obtain ⟨rfl, hn⟩ := hi
      obtain ⟨a, d, fs', rfl, h1, k, rf⟩ := ins_at c1 r1 q
      refine ⟨a, d, fs', rfl, h1, (lookup_vf rf).1 hn, ?_⟩
      refine hs.go (R := RV K) (e.up g1) c1 w1 fun xs as W2 ws2 G2 H2 g2 c2 r2 w2 => ?_
      exact ⟨ws2, G2, W2, _, c2, .cons (g2.rv r1) (Paired.app r2 (hd ws2 G2)), w2⟩
  · exact w1.elim
theorem isNon_rp {v : V} {x : Vl} (r : RpV K ws G v x) (h : isNon x = true) : v = .non := by
  cases r with
  | d r => cases r <;> first | rfl | cases h
  | mu _ => cases h
/-- a new instance and its dict -/
theorem make_at (cl : L2.Cls K.K C) (c : Cf K TB ws G H W) {x dx : Addr} (nx : H x = none) (nd : H dx = none) (ne : dx ≠ x) :
    Gr ws G H (ws ++ [x]) G (upd (upd H dx (.own x)) x (.ins C dx [])) ∧ Cf K TB (ws ++ [x]) G (upd (upd H dx (.own x)) x (.ins C dx [])) (W ++ [.ins C []]) := by
  have nx' : upd H dx (.own x) x = none := by rw [upd_ne (Ne.symm ne)]; exact nx
  have c1 := c.junk (o := .own x) nd
  exact ⟨(Gr.junk nd).trans (Gr.newM c1 nx'), c1.newM nx' ⟨dx, [], upd_same, ⟨cl, fun f hf => nomatch hf⟩, .nil⟩⟩
theorem s_makeM {C : Addr} {F : FD} {dvs : List V} {dd : List Vl} {t : TA} {fs : FA} (cl : L2.Cls K.K C) (hd : DvOk K dvs dd) (hs : SA K TB E t fs) : SE K TB E (tMake C (spD K TB F) dvs E t) (eMakeM C F dd fs) := by
  intro σ ws G H ρ W Q e c w
  refine hs.go (R := RV K) e c w fun xs as W1 ws1 G1 H1 g1 c1 r1 w1 => fun x dx nx nd ne => ?_
  obtain ⟨g2, c2⟩ := make_at cl c1 nx nd ne
  refine ⟨_, _, _, _, c2, .cons (.mu (at_end c1.len)) (Paired.app (g2.rvs r1) (hd _ _)), ?_⟩
  cases q : F (.mu W1.length :: (as ++ dd)) (W1 ++ [.ins C []]) with
  | stuck => rw [q] at w1; exact w1
  | exc C' W2 => rw [q] at w1; exact Wish.up (R := RV K) (Q := Q) w1 g2
  | ok r W2 =>
    rw [q] at w1
    intro v ws3 G3 H3 g3 c3 r3
    rw [Res.bind_ok] at w1
    split at w1
    · rename_i hn
      exact ⟨isNon_rp r3 hn, w1 _ _ _ _ (g2.trans g3) c3 (.mu (g3.at (at_end c1.len)))⟩
    · exact w1.elim
theorem dsOf_len {as : List Vl} {l : List D} (h : dsOf as = some l) : as = l.map Vl.d := by
  induction as generalizing l with
  | nil => cases h; rfl
  | cons a as ih =>
    cases a with
    | mu n => simp [dsOf] at h
    | d x =>
      cases q : dsOf as with
      | none => simp [dsOf, q] at h
      | some l' =>
        simp [dsOf, q] at h
        subst h
        rw [List.map_cons, ← ih q]
theorem insD_rp {fs : List (Str × V)} {l : List (Str × Vl)} (r : RpVF K ws G fs l) : ∀ {l' : List (Str × D)}, insD l = some l' → RpF K G fs l' := by
  induction r with
  | nil => intro l' h; cases h; exact .nil
  | @cons p q fs l h t ih =>
    intro l' hl
    obtain ⟨f, x⟩ := q
    obtain ⟨f1, v⟩ := p
    obtain ⟨h1, h2⟩ := h
    obtain rfl : f = f1 := h1
    cases x with
    | mu n => simp [insD] at hl
    | d x =>
      cases q : insD l with
      | none => simp [insD, q] at hl
      | some l2 =>
        simp [insD, q] at hl
        subst hl
        cases h2 with
        | d h2 => exact .cons h2 (ih q)
def dctD : List (D × Vl) → Option (List (D × D)) := fun l => l.foldr (fun p acc => match p.2, acc with
    | .d x, some r => some ((p.1, x) :: r)
    | _, _ => none) (some [])
theorem dctK_rp {fs : List (Key × V)} {l : List (D × Vl)} (r : RpVK K ws G fs l) : ∀ {l' : List (D × D)}, dctD l = some l' → RpK K G fs l' := by
  induction r with
  | nil => intro l' h; cases h; exact .nil
  | @cons p q fs l h t ih =>
    intro l' hl
    obtain ⟨f, x⟩ := q
    obtain ⟨f1, v⟩ := p
    obtain ⟨h1, h2⟩ := h
    obtain rfl : f = kD f1 := h1
    cases x with
    | mu n => simp [dctD] at hl
    | d x =>
      cases q : dctD l with
      | none =>
        have q' := q
        unfold dctD at q' hl
        rw [List.foldr_cons, q'] at hl
        cases hl
      | some l2 =>
        have q' := q
        unfold dctD at q' hl
        rw [List.foldr_cons, q'] at hl
        cases hl
        cases h2 with
        | d h2 => exact .cons h2 (ih q)
theorem dctN_rp {fs : List (NestedKey × Addr × V)} {l : List (D × Vl)} (r : RpVN K ws G fs l) : ∀ {l' : List (D × D)}, dctD l = some l' → RpN K G fs l' := by
  induction r with
  | nil => intro l' h; cases h; exact .nil
  | @cons p q fs l h t ih =>
    intro l' hl
    obtain ⟨f, x⟩ := q
    obtain ⟨f1, b, v⟩ := p
    obtain ⟨⟨h0, h1, h3⟩, h2⟩ := h
    cases x with
    | mu n => simp [dctD] at hl
    | d x =>
      cases q : dctD l with
      | none =>
        have q' := q
        unfold dctD at q' hl
        rw [List.foldr_cons, q'] at hl
        cases hl
      | some l2 =>
        have q' := q
        unfold dctD at q' hl
        rw [List.foldr_cons, q'] at hl
        cases hl
        cases h2 with
        | d h2 => exact .cons h0 h1 h3 h2 (ih q)
theorem dctD_ne {l : List (D × Vl)} (h : l ≠ []) {l' : List (D × D)} (e : dctD l = some l') : l' ≠ [] := by
  cases l with
  | nil => exact absurd rfl h
  | cons p l =>
    unfold dctD at e
    rw [List.foldr_cons] at e
    split at e
    · cases e; exact List.cons_ne_nil _ _
    · cases e
/-- the same value, now never changed any more -/
theorem frz_ok {v : V} {x : Vl} (c : Cf K TB ws G H W) (r : RpV K ws G v x) (w : Wish K TB (RV K) E ws G H Q (frz W x)) : Q v H := by
  cases r with
  | d r => exact w.ok c (.d r)
  | @mu a n e =>
    simp only [frz] at w
    cases q : W[n]? with
    | none => rw [q] at w; exact w.elim
    | some m =>
      rw [q] at w
      simp only at w
      cases z : frozen m with
      | none => rw [z] at w; exact w.elim
      | some y =>
        rw [z] at w
        have hd : m ≠ .dead := by rintro rfl; simp [frozen] at z
        obtain ⟨hg, hm⟩ := c.ob n a m e q hd
        have fin : ∀ o, H a = some o → Rp K (upd G a o) (.ref a) y → Q (.ref a) H := fun o eo rp => w _ _ _ _ (Gr.freeze c e q hd) (c.freeze e q hd eo) (.d rp)
        have up : ∀ o, Rds K G (upd G a o) := fun o => .of (same_upd hg)
        cases m with
        | lst l =>
          obtain ⟨vs, e1, rv⟩ := hm
          simp only [frozen] at z
          cases k : dsOf l with
          | none => rw [k] at z; cases z
          | some l' =>
            rw [k] at z
            cases z
            exact fin _ e1 (.lst upd_same ((dsOf_rp rv k).to (up _)))
        | dct l =>
          simp only [frozen] at z
          cases k : dctD l with
          | none =>
            have k' := k
            unfold dctD at k'
            rw [k'] at z
            cases z
          | some l' =>
            have k' := k
            unfold dctD at k'
            rw [k'] at z
            cases z
            rcases hm with ⟨kvs, e1, rv⟩ | ⟨kvs, e1, rv, nl⟩
            · exact fin _ e1 (.dct (.inl upd_same) ((dctK_rp rv k).to (up _)))
            · exact fin _ e1 (.dcN (.inl upd_same) (dctD_ne nl k) ((dctN_rp rv k).to (up _)))
        | ins C l =>
          obtain ⟨dx, fs, e1, k1, rv⟩ := hm
          simp only [frozen] at z
          cases k : insD l with
          | none => rw [k] at z; cases z
          | some l' =>
            rw [k] at z
            cases z
            exact fin _ e1 (.ins upd_same k1 ((insD_rp rv k).to (up _)))
        | lk l => simp [frozen] at z
        | dead => simp [frozen] at z
theorem s_frz {ta : TE} {fa : FE} (ha : SE K TB E ta fa) : SE K TB E ta (eUn frz fa) := by
  intro σ ws G H ρ W Q e c w
  exact ha.go (R := RV K) e c w fun x dx W1 ws1 G1 H1 g1 c1 r1 w1 => frz_ok c1 r1 w1
/-- behind a call: what it made on the way is forgotten -/
theorem fin_ok {ws1 : List Addr} {G1 H1 : Hp} {W1 : Ms} {v : V} {x : Vl} (c : Cf K TB ws G H W) (g : Gr ws G H ws1 G1 H1) (c1 : Cf K TB ws1 G1 H1 W1) (r : RpV K ws1 G1 v x) (w : Wish K TB (RV K) E ws G H Q (fin W x W1)) : Q v H1 := by
  unfold fin at w
  split at w
  · rename_i h
    refine w _ _ _ _ g.trim (Cf.trim c g c1 h.2) ?_
    have z := r.bel W.length h.1
    rw [g.take c.len] at z
    exact z
  · exact w _ _ _ _ g c1 r
theorem finX_ok {α β : Type} {R : List Addr → Hp → Hp → β → α → Prop} {Q : β → Hp → Prop} {ws1 : List Addr} {G1 H1 : Hp} {W1 : Ms} {C : Addr} (c : Cf K TB ws G H W) (g : Gr ws G H ws1 G1 H1) (c1 : Cf K TB ws1 G1 H1 W1) (w : Wish K TB R E ws G H Q (finX W C W1)) : E (.ref C) none H1 := by
  unfold finX at w
  split at w
  · rename_i h
    exact w _ _ _ g.trim (Cf.trim c g c1 h)
  · exact w _ _ _ g c1
theorem s_make {C : Addr} {F : FD} {dvs : List V} {dd : List Vl} {t : TA} {fs : FA} (cl : L2.Cls K.K C) (hd : DvOk K dvs dd) (hs : SA K TB E t fs) : SE K TB E (tMake C (spD K TB F) dvs E t) (eMake C F dd fs) := by
  intro σ ws G H ρ W Q e c w
  refine hs.go (R := RV K) e c w fun xs as W1 ws1 G1 H1 g1 c1 r1 w1 => fun x dx nx nd ne => ?_
  obtain ⟨g2, c2⟩ := make_at cl c1 nx nd ne
  refine ⟨_, _, _, _, c2, .cons (.mu (at_end c1.len)) (Paired.app (g2.rvs r1) (hd _ _)), ?_⟩
  cases q : F (.mu W1.length :: (as ++ dd)) (W1 ++ [.ins C []]) with
  | stuck => rw [q] at w1; exact w1
  | exc C' W2 => rw [q] at w1; exact Wish.up (R := RV K) (Q := Q) w1 g2
  | ok r W2 =>
    rw [q] at w1
    intro v ws3 G3 H3 g3 c3 r3
    rw [Res.bind_ok] at w1
    split at w1
    · rename_i hn
      refine ⟨isNon_rp r3 hn, ?_⟩
      refine frz_ok (Q := Q) (E := E) c3 (.mu (g3.at (at_end c1.len))) ?_
      cases z : frz W2 (.mu W1.length) with
      | stuck => rw [z] at w1; exact w1
      | exc C' W3 => rw [z] at w1; exact Wish.up (R := RV K) (Q := Q) w1 (g2.trans g3)
      | ok y W3 =>
        rw [z] at w1
        intro b ws4 G4 H4 g4 c4 r4
        exact fin_ok c1 ((g2.trans g3).trans g4) c4 r4 w1
    · exact w1.elim
theorem s_if {tc : TT} {ta tb : TE} {fc : FT} {fa fb : FE} (hc : ST K TB E tc fc) (ha : SE K TB E ta fa) (hb : SE K TB E tb fb) : SE K TB E (tIf tc ta tb) (eIf fc fa fb) := by
  intro σ ws G H ρ W Q e c w
  refine hc.go (R := RV K) e c w fun t b W1 ws1 G1 H1 g1 c1 r1 w1 => ?_
  obtain rfl : t = b := r1
  cases t
  · exact hb _ _ _ _ _ _ _ (e.up g1) c1 w1
  · exact ha _ _ _ _ _ _ _ (e.up g1) c1 w1
theorem blOf_rp {v : V} {x : Vl} {t : Bool} (r : RpV K ws G v x) (h : blOf x = some t) : v = .bl t := by
  cases r with
  | d r => cases r <;> first | (cases h; rfl) | cases h
  | mu _ => cases h
theorem s_andV {ta tb : TE} {fa fb : FE} (ha : SE K TB E ta fa) (hb : SE K TB E tb fb) : SE K TB E (tAndV ta tb) (eAndV fa fb) := by
  intro σ ws G H ρ W Q e c w
  refine ha.go (R := RV K) e c w fun x dx W1 ws1 G1 H1 g1 c1 r1 w1 => ?_
  cases q : blOf dx with
  | none => rw [q] at w1; exact w1.elim
  | some t =>
    rw [q] at w1
    refine ⟨t, blOf_rp r1 q, ?_⟩
    cases t
    · exact Wish.ok (R := RV K) w1 c1 (.d (.bl false))
    · exact hb _ _ _ _ _ _ _ (e.up g1) c1 w1
theorem s_orV {ta tb : TE} {fa fb : FE} (ha : SE K TB E ta fa) (hb : SE K TB E tb fb) : SE K TB E (tOrV ta tb) (eOrV fa fb) := by
  intro σ ws G H ρ W Q e c w
  refine ha.go (R := RV K) e c w fun x dx W1 ws1 G1 H1 g1 c1 r1 w1 => ?_
  cases q : blOf dx with
  | none => rw [q] at w1; exact w1.elim
  | some t =>
    rw [q] at w1
    refine ⟨t, blOf_rp r1 q, ?_⟩
    cases t
    · exact hb _ _ _ _ _ _ _ (e.up g1) c1 w1
    · exact Wish.ok (R := RV K) w1 c1 (.d (.bl true))
theorem s_notV {ta : TE} {fa : FE} (ha : SE K TB E ta fa) : SE K TB E (tNotV ta) (eNotV fa) := by
  intro σ ws G H ρ W Q e c w
  refine ha.go (R := RV K) e c w fun x dx W1 ws1 G1 H1 g1 c1 r1 w1 => ?_
  cases q : blOf dx with
  | none => simp only [q] at w1; exact w1.elim
  | some t =>
    simp only [q] at w1
    exact ⟨t, blOf_rp r1 q, Wish.ok (R := RV K) w1 c1 (.d (.bl (!t)))⟩
theorem s_tst {ta : TE} {fa : FE} (ha : SE K TB E ta fa) : ST K TB E (tTest ta) (tstV fa) := by
  intro σ ws G H ρ W Q e c w
  refine ha.go e c w fun x dx W1 ws1 G1 H1 g1 c1 r1 w1 => ?_
  cases q : blOf dx with
  | none => rw [q] at w1; exact w1.elim
  | some t =>
    rw [q] at w1
    exact ⟨t, blOf_rp r1 q, w1.ok c1 rfl⟩
theorem s_tstB {ta : TE} {fa : FE} (ha : SE K TB E ta fa) : ST K TB E (tB ta) (tstV fa) := by
  intro σ ws G H ρ W Q e c w
  refine ha.go e c w fun x dx W1 ws1 G1 H1 g1 c1 r1 w1 => ?_
  cases q : blOf dx with
  | none => rw [q] at w1; exact w1.elim
  | some t =>
    rw [q] at w1
    exact ⟨t, blOf_rp r1 q, w1.ok c1 rfl⟩
theorem s_and {ta tb : TT} {fa fb : FT} (ha : ST K TB E ta fa) (hb : ST K TB E tb fb) : ST K TB E (tAnd ta tb) (tstAnd fa fb) := by
  intro σ ws G H ρ W Q e c w
  refine ha.go e c w fun x dx W1 ws1 G1 H1 g1 c1 r1 w1 => ?_
  obtain rfl : x = dx := r1
  cases x
  · exact w1.ok c1 rfl
  · exact hb _ _ _ _ _ _ _ (e.up g1) c1 w1
theorem s_or {ta tb : TT} {fa fb : FT} (ha : ST K TB E ta fa) (hb : ST K TB E tb fb) : ST K TB E (tOr ta tb) (tstOr fa fb) := by
  intro σ ws G H ρ W Q e c w
  refine ha.go e c w fun x dx W1 ws1 G1 H1 g1 c1 r1 w1 => ?_
  obtain rfl : x = dx := r1
  cases x
  · exact hb _ _ _ _ _ _ _ (e.up g1) c1 w1
  · exact w1.ok c1 rfl
theorem s_not {ta : TT} {fa : FT} (ha : ST K TB E ta fa) : ST K TB E (tNot ta) (tstNot fa) := by
  intro σ ws G H ρ W Q e c w
  refine ha.go e c w fun x dx W1 ws1 G1 H1 g1 c1 r1 w1 => ?_
  obtain rfl : x = dx := r1
  exact w1.ok c1 rfl
theorem s_yes : ST K TB E tYes tstYes := fun σ ws G H ρ W Q e c w => w.ok c rfl
end
end DL

set_option Elab.async false
set_option linter.all false
set_option maxRecDepth 100000
set_option maxHeartbeats 4000000
namespace DL
open PySem L2 PyProof.Rows
/-! ## statements -/
def sNil : FS := fun ρ W => .nx ρ W
def sSeq (f g : FS) : FS := fun ρ W => match f ρ W with
  | .nx ρ1 W1 => g ρ1 W1
  | o => o
def sBreak : FS := fun ρ W => .bk ρ W
def sCont : FS := fun ρ W => .ct ρ W
def sExpr (f : FE) : FS := fun ρ W => (f ρ W).bindS fun _ W1 => .nx ρ W1
def sRet (f : FE) : FS := fun ρ W => (f ρ W).bindS fun v W1 => .rt v W1
def sRetN : FS := fun _ W => .rt (.d .non) W
def sIf (c : FT) (a b : FS) : FS := fun ρ W => (c ρ W).bindS fun t W1 => if t = true then a ρ W1 else b ρ W1
abbrev FG := Vl → Ev → Option Ev
abbrev FGs := List Vl → Ev → Option Ev
def gN (i : Nat) : FG := fun x ρ => some (ρ.set i (some x))
def gsNil : FGs := fun xs ρ => match xs with
  | [] => some ρ
  | _ => none
def gsCons (g : FG) (gs : FGs) : FGs := fun xs ρ => match xs with
  | x :: r => (g x ρ).bind fun ρ1 => gs r ρ1
  | [] => none
def tupOf : Vl → Option (List D)
  | .d (.tup l) => some l
  | .d (.tupK l) => some l
  | _ => none
def gT (n : Nat) (gs : FGs) : FG := fun x ρ => match tupOf x with
  | some l => if l.length = n then gs (l.map Vl.d) ρ else none
  | none => none
def sAsg (f : FE) (g : FG) : FS := fun ρ W => (f ρ W).bindS fun x W1 => match g x ρ with
  | some ρ1 => .nx ρ1 W1
  | none => .stuck
def sSet (i : Nat) (f : FE) : FS := fun ρ W => (f ρ W).bindS fun x W1 => .nx (ρ.set i (some x)) W1
/-- a, b, .. = x, y, ..: the pair itself is forgotten -/
def sAsgT (n : Nat) (fs : FA) (gs : FGs) : FS := fun ρ W => (fs ρ W).bindS fun xs W1 => if xs.length = n ∧ n ≤ 1000 then (match gs xs ρ with
  | some ρ1 => .nx ρ1 W1
  | none => .stuck) else .stuck
def sAug (i : Nat) (g : Ms → Vl → Vl → Res Vl) (f : FE) : FS := fun ρ W => match ρ[i]? with
  | some (some x) => (f ρ W).bindS fun y W1 => (g W1 x y).bindS fun z W2 => .nx (ρ.set i (some z)) W2
  | _ => .stuck
def sRaise (C : Addr) (f : FE) : FS := fun ρ W => (f ρ W).bindS fun _ W1 => .exc C W1
def sNever : FS := fun _ _ => .stuck
def putV {α : Type} (f : Str) (y : α) : List (Str × α) → List (Str × α)
  | [] => [(f, y)]
  | (g, x) :: r => if g = f then (g, y) :: r else (g, x) :: putV f y r
def setFld (C : Addr) (f : Str) (W : Ms) (y x : Vl) : Option Ms := match x with
  | .mu n => (match W[n]? with
    | some (.ins C' l) => if C' = C ∧ l.length < 1000 then some (W.set n (.ins C' (putV f y l))) else none
    | _ => none)
  | _ => none
def sFldSet (C : Addr) (f : Str) (fx fy : FE) : FS := fun ρ W => (fy ρ W).bindS fun y W1 => (fx ρ W1).bindS fun x W2 => match setFld C f W2 y x with
  | some W3 => .nx ρ W3
  | none => .stuck
/-- what a loop walks -/
structure Itm where
  xs : List Vl
  kp : Ms → Prop
abbrev FI := Ev → Ms → Res Itm
open Classical in
noncomputable def forL (kp : Ms → Prop) (fg : FG) (b : FS) : List Vl → Ev → Ms → Out
  | [], ρ, W => if kp W then .nx ρ W else .stuck
  | x :: xs, ρ, W => if kp W then (match fg x ρ with
    | some ρ1 => (match b ρ1 W with
      | .nx ρ2 W2 => forL kp fg b xs ρ2 W2
      | .ct ρ2 W2 => forL kp fg b xs ρ2 W2
      | .bk ρ2 W2 => .nx ρ2 W2
      | .rt v W2 => .rt v W2
      | .exc C W2 => .exc C W2
      | .stuck => .stuck)
    | none => .stuck) else .stuck
noncomputable def sFor (fi : FI) (fg : FG) (b : FS) : FS := fun ρ W => (fi ρ W).bindS fun it W1 => forL it.kp fg b it.xs ρ W1
open Classical in
noncomputable def lcL (kp : Ms → Prop) (fg : FG) (t : FT) (f : FE) (ρ : Ev) : List Vl → Ms → Res (List Vl)
  | [], W => if kp W then .ok [] W else .stuck
  | x :: xs, W => if kp W then (match fg x ρ with
    | some ρ1 => (t ρ1 W).bind fun b W1 => if b = true then (f ρ1 W1).bind fun y W2 => (lcL kp fg t f ρ xs W2).bind fun ys W3 => .ok (y :: ys) W3 else lcL kp fg t f ρ xs W1
    | none => .stuck) else .stuck
noncomputable def lcB (fg : FG) (t : FT) (f : FE) (vs : List Nat) (ρ : Ev) (it : Itm) (W1 : Ms) : Res (List Vl) := if it.xs.length ≤ 1000000 then lcL it.kp fg t f (wipeE ρ vs) it.xs W1 else .stuck
noncomputable def lcA (fi : FI) (fg : FG) (t : FT) (f : FE) (vs : List Nat) : FA := fun ρ W => (fi ρ W).bind (lcB fg t f vs ρ)
noncomputable def eLc (fi : FI) (fg : FG) (t : FT) (f : FE) (vs : List Nat) : FE := fun ρ W => (lcA fi fg t f vs ρ W).bind mkLst
noncomputable def eLcM (fi : FI) (fg : FG) (t : FT) (f : FE) (vs : List Nat) : FE := fun ρ W => (lcA fi fg t f vs ρ W).bind mkLstM
/-- while: at most n turns -/
def whl (c : FT) (b : FS) : Nat → Ev → Ms → Out
  | 0, _, _ => .stuck
  | n + 1, ρ, W => (c ρ W).bindS fun t W1 => if t = true then (match b ρ W1 with
      | .nx ρ2 W2 => whl c b n ρ2 W2
      | .ct ρ2 W2 => whl c b n ρ2 W2
      | .bk ρ2 W2 => .nx ρ2 W2
      | .rt v W2 => .rt v W2
      | .exc C W2 => .exc C W2
      | .stuck => .stuck) else .nx ρ W1
def sWhile (n : Nat) (c : FT) (b : FS) : FS := whl c b n
def startE (nn : Nat) (ds : List Vl) : Ev := ds.map some ++ List.replicate (nn - ds.length) none
noncomputable def runB (np nn : Nat) (b : FS) : FD := fun ds W => if ds.length = np then (match b (startE nn ds) W with
  | .nx _ W' => fin W (.d .non) W'
  | .rt v W' => fin W v W'
  | .exc C W' => finX W C W'
  | _ => .stuck) else .stuck
/-- a def that makes nothing that changes -/
def run0 (np nn : Nat) (b : FS) : FD := fun ds W => if ds.length = np then (match b (startE nn ds) W with
  | .nx _ W' => .ok (.d .non) W'
  | .rt v W' => .ok v W'
  | .exc C W' => .exc C W'
  | _ => .stuck) else .stuck

section
variable {K : Fr} {TB : List (Addr × Str)} {E : XK}
/-- what a walk asks of the growth -/
structure GrI (ws : List Addr) (G H : Hp) (ws' : List Addr) (G' H' : Hp) : Prop where
  g : Same G G'
  p : ∃ more, ws' = ws ++ more
  fz : ∀ a o u, H a = some (.frz o u) → H' a = some (.frz o u)
theorem Gr.i {ws ws' : List Addr} {G H G' H' : Hp} (a : Gr ws G H ws' G' H') : GrI ws G H ws' G' H' := ⟨a.g, a.p, a.fz⟩
theorem GrI.trans {ws ws1 ws2 : List Addr} {G H G1 H1 G2 H2 : Hp} (a : GrI ws G H ws1 G1 H1) (b : GrI ws1 G1 H1 ws2 G2 H2) : GrI ws G H ws2 G2 H2 :=
  ⟨fun x o h => b.g x o (a.g x o h), let ⟨m, e⟩ := a.p; let ⟨m', e'⟩ := b.p; ⟨m ++ m', by rw [e', e, List.append_assoc]⟩, fun x o u h => b.fz x o u (a.fz x o u h)⟩
def ItOk (K : Fr) (TB : List (Addr × Str)) (ws : List Addr) (G H : Hp) (J : It) (it : Itm) : Prop :=
  ∀ (ws2 : List Addr) (G2 H2 : Hp) (W2 : Ms), GrI ws G H ws2 G2 H2 → Cf K TB ws2 G2 H2 W2 → it.kp W2 → ∀ i,
    (it.xs.length ≤ i → J.stop i H2) ∧ ∀ x, it.xs[i]? = some x → J.go i H2 ∧ ∀ v H3, J.yld i H2 v H3 → ∃ G3, Gr ws2 G2 H2 ws2 G3 H3 ∧ Cf K TB ws2 G3 H3 W2 ∧ RpV K ws2 G3 v x
abbrev SI (K : Fr) (TB : List (Addr × Str)) (E : XK) (t : TI) (f : FI) : Prop := Snd K TB (ItOk K TB) E t f
def SG (K : Fr) (TB : List (Addr × Str)) (vs : List Nat) (g : TG) (fg : FG) : Prop :=
  ∀ (v : V) (x : Vl) (σ : L2.St) (ρ ρ' : Ev) (ws : List Addr) (G H : Hp) (W : Ms) (Q : L2.St → Hp → Prop), EnvR K ws G σ ρ → Cf K TB ws G H W → RpV K ws G v x → fg x ρ = some ρ' → (∀ σ', EnvR K ws G σ' ρ' → L2.wipe σ' vs = L2.wipe σ vs → Q σ' H) → g v σ H Q
def SGs (K : Fr) (TB : List (Addr × Str)) (vs : List Nat) (g : TGs) (fg : FGs) : Prop :=
  ∀ (v : List V) (x : List Vl) (σ : L2.St) (ρ ρ' : Ev) (ws : List Addr) (G H : Hp) (W : Ms) (Q : L2.St → Hp → Prop), EnvR K ws G σ ρ → Cf K TB ws G H W → RpVs K ws G v x → fg x ρ = some ρ' → (∀ σ', EnvR K ws G σ' ρ' → L2.wipe σ' vs = L2.wipe σ vs → Q σ' H) → g v σ H Q
theorem set_none_comm (σ : L2.St) (i j : Nat) : (σ.set i none).set j none = (σ.set j none).set i none := by
  by_cases h : i = j
  · subst h; rfl
  · exact List.set_comm _ _ h
theorem wipe_out (σ : L2.St) (i : Nat) : ∀ vs : List Nat, (L2.wipe σ vs).set i none = L2.wipe (σ.set i none) vs
  | [] => rfl
  | v :: vs => by
    show ((L2.wipe σ vs).set v none).set i none = (L2.wipe (σ.set i none) vs).set v none
    rw [set_none_comm, wipe_out]
theorem wipe_set (σ : L2.St) (i : Nat) (o : Option V) : ∀ {vs : List Nat}, i ∈ vs → L2.wipe (σ.set i o) vs = L2.wipe σ vs
  | v :: vs, h => by
    show (L2.wipe (σ.set i o) vs).set v none = (L2.wipe σ vs).set v none
    rcases List.mem_cons.mp h with e | h
    · subst e
      rw [wipe_out, wipe_out, List.set_set]
    · rw [wipe_set σ i o h]
theorem wipe_idem (σ : L2.St) (vs : List Nat) : L2.wipe (L2.wipe σ vs) vs = L2.wipe σ vs := by
  have : ∀ (us : List Nat), (∀ i ∈ us, i ∈ vs) → L2.wipe (L2.wipe σ us) vs = L2.wipe σ vs := by
    intro us
    induction us with
    | nil => intro _; rfl
    | cons u us ih =>
      intro h
      show L2.wipe ((L2.wipe σ us).set u none) vs = _
      rw [wipe_set _ _ _ (h u List.mem_cons_self)]
      exact ih fun i hi => h i (List.mem_cons_of_mem _ hi)
  exact this vs fun _ h => h
theorem g_name {vs : List Nat} (i : Nat) (h : i ∈ vs) : SG K TB vs (gName i) (gN i) := fun v x σ ρ ρ' ws G H W Q e c r q k => by
  cases q
  exact k _ (e.set i r) (wipe_set σ i _ h)
theorem gs_nil {vs : List Nat} : SGs K TB vs gNil gsNil := fun v x σ ρ ρ' ws G H W Q e c r q k => by
  cases r with
  | nil =>
    cases q
    exact ⟨rfl, k _ e rfl⟩
  | cons _ _ => cases q
theorem gs_cons {vs : List Nat} {g : TG} {gs : TGs} {fg : FG} {fgs : FGs} (h : SG K TB vs g fg) (hs : SGs K TB vs gs fgs) : SGs K TB vs (gCons g gs) (gsCons fg fgs) := fun v x σ ρ ρ' ws G H W Q e c r q k => by
  cases r with
  | nil => cases q
  | @cons a b as bs r1 r2 =>
    simp only [gsCons] at q
    cases z : fg b ρ with
    | none => rw [z] at q; cases q
    | some ρ1 =>
      rw [z] at q
      refine ⟨a, as, rfl, ?_⟩
      exact h a b σ ρ ρ1 ws G H W _ e c r1 z fun σ1 e1 w1 => hs as bs σ1 ρ1 ρ' ws G H W _ e1 c r2 q fun σ2 e2 w2 => k σ2 e2 (w2.trans w1)
theorem RpL.vs {ws : List Addr} {G : Hp} : ∀ {xs : List V} {l : List D}, RpL K G xs l → RpVs K ws G xs (l.map Vl.d)
  | _, _, .nil => .nil
  | _, _, .cons h t => .cons (.d h) (RpL.vs t)
theorem RpL.len {G : Hp} : ∀ {xs : List V} {l : List D}, RpL K G xs l → xs.length = l.length
  | _, _, .nil => rfl
  | _, _, .cons h t => congrArg Nat.succ (RpL.len t)
theorem RpL.at {G : Hp} : ∀ {xs : List V} {l : List D} {i : Nat} {x : D}, RpL K G xs l → l[i]? = some x → ∃ v, xs[i]? = some v ∧ Rp K G v x
  | _, _, _, _, .nil, e => by simp at e
  | _, _, 0, _, .cons h _, e => by simp at e; subst e; exact ⟨_, rfl, h⟩
  | _, _, i + 1, _, .cons _ t, e => by
    obtain ⟨a, h1, h2⟩ := RpL.at (i := i) t (by simpa using e)
    exact ⟨a, by simpa using h1, h2⟩
theorem tup_rp {ws : List Addr} {G H : Hp} {W : Ms} {v : V} {x : Vl} {l : List D} (c : Cf K TB ws G H W) (r : RpV K ws G v x) (h : tupOf x = some l) : ∃ a vs, v = .ref a ∧ SqT K.K G a vs ∧ SqT K.K H a vs ∧ RpL K G vs l := by
  cases r with
  | d r =>
    cases r with
    | tup e rl => cases h; exact ⟨_, _, rfl, SqT.of e, SqT.of (c.g _ _ e), rl⟩
    | tupK e rl => cases h; exact ⟨_, _, rfl, e, (Rds.of c.g (K := K)).t _ _ e, rl⟩
    | _ => cases h
  | mu _ => cases h
theorem g_tup {vs : List Nat} {n : Nat} {gs : TGs} {fgs : FGs} (hs : SGs K TB vs gs fgs) : SG K TB vs (gTup K.K n gs) (gT n fgs) := fun v x σ ρ ρ' ws G H W Q e c r q k => by
  unfold gT at q
  cases z : tupOf x with
  | none => rw [z] at q; cases q
  | some l =>
    rw [z] at q
    simp only at q
    split at q
    · rename_i hl
      obtain ⟨a, us, rfl, _, h2, rl⟩ := tup_rp c r z
      exact ⟨a, us, rfl, h2, rl.len.trans hl, hs us _ σ ρ ρ' ws G H W Q e c rl.vs q k⟩
    · cases q
variable {σ : L2.St} {ws : List Addr} {G H : Hp} {ρ : Ev} {W : Ms} {Dn : Ends}
theorem s_nil : SS K TB E tNext sNil := fun σ ws G H ρ W Dn e c w => w σ ws G H .refl c e
theorem s_break : SS K TB E tBreak sBreak := fun σ ws G H ρ W Dn e c w => w σ ws G H .refl c e
theorem s_cont : SS K TB E tCont sCont := fun σ ws G H ρ W Dn e c w => w σ ws G H .refl c e
theorem s_never : SS K TB E tNever sNever := fun σ ws G H ρ W Dn e c w => w
theorem s_seq {t u : TS} {f g : FS} (h : SS K TB E t f) (k : SS K TB E u g) : SS K TB E (tSeq t u) (sSeq f g) := by
  intro σ ws G H ρ W Dn e c w
  refine h σ ws G H ρ W _ e c ?_
  unfold sSeq at w
  cases q : f ρ W with
  | nx ρ1 W1 =>
    rw [q] at w
    exact fun σ1 ws1 G1 H1 g1 c1 e1 => k _ _ _ _ _ _ _ e1 c1 (WishS.up w g1)
  | rt v W1 => rw [q] at w; exact w
  | bk v W1 => rw [q] at w; exact w
  | ct v W1 => rw [q] at w; exact w
  | exc v W1 => rw [q] at w; exact w
  | stuck => rw [q] at w; exact w
theorem s_expr {te : TE} {f : FE} (h : SE K TB E te f) : SS K TB E (tDrop te) (sExpr f) := fun σ ws G H ρ W Dn e c w =>
  h.goS e c w fun v x W1 ws1 G1 H1 g1 c1 r1 w1 => w1 σ ws1 G1 H1 .refl c1 (e.up g1)
theorem s_ret {te : TE} {f : FE} (h : SE K TB E te f) : SS K TB E (tRet te) (sRet f) := fun σ ws G H ρ W Dn e c w =>
  h.goS (Dn := Dn) e c w fun v x W1 ws1 G1 H1 g1 c1 r1 w1 => w1 v ws1 G1 H1 .refl c1 r1
theorem s_retN : SS K TB E tRetN sRetN := fun σ ws G H ρ W Dn e c w => w .non ws G H .refl c (.d .non)
theorem s_ifS {tc : TT} {ta tb : TS} {fc : FT} {fa fb : FS} (hc : ST K TB E tc fc) (ha : SS K TB E ta fa) (hb : SS K TB E tb fb) : SS K TB E (tIfS tc ta tb) (sIf fc fa fb) := fun σ ws G H ρ W Dn e c w =>
  hc.goS e c w fun v x W1 ws1 G1 H1 g1 c1 r1 w1 => by
    obtain rfl : v = x := r1
    cases v
    · exact hb _ _ _ _ _ _ _ (e.up g1) c1 w1
    · exact ha _ _ _ _ _ _ _ (e.up g1) c1 w1
theorem s_asg {te : TE} {f : FE} {g : TG} {fg : FG} {vs : List Nat} (h : SE K TB E te f) (hg : SG K TB vs g fg) : SS K TB E (tAsg te g) (sAsg f fg) := fun σ ws G H ρ W Dn e c w =>
  h.goS e c w fun v x W1 ws1 G1 H1 g1 c1 r1 w1 => by
    cases z : fg x ρ with
    | none => rw [z] at w1; exact w1.elim
    | some ρ1 =>
      rw [z] at w1
      exact hg _ _ _ _ _ _ _ _ _ _ (e.up g1) c1 r1 z fun σ1 e1 _ => w1 σ1 ws1 G1 H1 .refl c1 e1
theorem s_set {te : TE} {f : FE} (i : Nat) (h : SE K TB E te f) : SS K TB E (tAsg te (gName i)) (sSet i f) := fun σ ws G H ρ W Dn e c w =>
  h.goS e c w fun v x W1 ws1 G1 H1 g1 c1 r1 w1 => w1 _ ws1 G1 H1 .refl c1 ((e.up g1).set i r1)
theorem s_asgT {t : TA} {fs : FA} {n : Nat} {gs : TGs} {fgs : FGs} {vs : List Nat} (h : SA K TB E t fs) (hg : SGs K TB vs gs fgs) : SS K TB E (tAsg (tTup t) (gTup K.K n gs)) (sAsgT n fs fgs) := fun σ ws G H ρ W Dn e c w =>
  h.goS e c w fun v x W1 ws1 G1 H1 g1 c1 r1 w1 => by
    split at w1
    · rename_i hn
      refine ⟨mil (by rw [Paired.length r1]; omega), fun p hp => ⟨p, v, rfl, SqT.of upd_same, (Paired.length r1).trans hn.1, ?_⟩⟩
      cases z : fgs x ρ with
      | none => rw [z] at w1; exact w1.elim
      | some ρ1 =>
        rw [z] at w1
        have c2 := c1.junk (o := .tup v) hp
        exact hg _ _ _ _ _ _ _ _ _ _ (e.up g1) c2 r1 z fun σ1 e1 _ => w1 σ1 ws1 G1 _ (Gr.junk hp) c2 e1
    · exact w1.elim
theorem s_par {t : TA} {fs : FA} {i j : Nat} (h : SA K TB E t fs) : SS K TB E (tPar i j t) (sAsgT 2 fs (gsCons (gN i) (gsCons (gN j) gsNil))) := fun σ ws G H ρ W Dn e c w =>
  h.goS e c w fun v x W1 ws1 G1 H1 g1 c1 r1 w1 => by
    split at w1
    · rename_i hn
      match x, v, r1, hn with
      | [x1, x2], [v1, v2], .cons r1 (.cons r2 .nil), _ =>
        exact ⟨v1, v2, rfl, w1 _ ws1 G1 H1 .refl c1 (((e.up g1).set i r1).set j r2)⟩
    · exact w1.elim
theorem s_aug {i : Nat} {te : TE} {f : FE} {r : TIp} {g : Ms → Vl → Vl → Res Vl} (hg : OpD K TB r g) (h : SE K TB E te f) : SS K TB E (tAug i te r) (sAug i g f) := fun σ ws G H ρ W Dn e c w => by
  unfold sAug at w
  cases q : ρ[i]? with
  | none => rw [q] at w; exact w.elim
  | some o =>
    cases o with
    | none => rw [q] at w; exact w.elim
    | some x =>
      rw [q] at w
      obtain ⟨v, hv, r⟩ := e.at q
      refine ⟨v, hv, h.goS e c w fun y dy W1 ws1 G1 H1 g1 c1 r1 w1 => ?_⟩
      refine hg E _ _ _ _ _ _ _ _ _ c1 (g1.rv r) r1 ?_
      cases z : g W1 x dy with
      | stuck => rw [z] at w1; exact w1
      | exc C W2 => rw [z] at w1; exact w1
      | ok d W2 =>
        rw [z] at w1
        exact fun b ws2 G2 H2 g2 c2 r2 => w1 _ ws2 G2 H2 g2 c2 (((e.up g1).up g2).set i r2)
theorem s_raise {C : Addr} {te : TE} {f : FE} (h : SE K TB E te f) : SS K TB E (fun _ σ H => te σ H fun _ H1 => E (.ref C) none H1) (sRaise C f) := fun σ ws G H ρ W Dn e c w =>
  h.goS (Dn := Dn) e c w fun v x W1 ws1 G1 H1 g1 c1 r1 w1 => w1 ws1 G1 H1 .refl c1
theorem putV_rp {f : Str} {v : V} {y : Vl} (r : RpV K ws G v y) : ∀ {fs : List (Str × V)} {l : List (Str × Vl)}, RpVF K ws G fs l → RpVF K ws G (L2.putF f v fs) (putV f y l)
  | _, _, .nil => .cons ⟨rfl, r⟩ .nil
  | (g, a) :: fs, (g', b) :: l, .cons ⟨h1, h2⟩ t => by
    obtain rfl : g' = g := h1
    unfold L2.putF putV
    by_cases q : g' = f
    · rw [if_pos q, if_pos q]; exact .cons ⟨rfl, r⟩ t
    · rw [if_neg q, if_neg q]; exact .cons ⟨rfl, h2⟩ (putV_rp r t)
theorem putF_names {f : Str} {v : V} : ∀ {fs : List (Str × V)} {g : Str}, g ∈ (L2.putF f v fs).map (·.1) → g = f ∨ g ∈ fs.map (·.1)
  | [], g, h => by
    rw [show L2.putF f v [] = [(f, v)] from rfl, List.map_cons, List.map_nil, List.mem_singleton] at h
    exact .inl h
  | (k, a) :: fs, g, h => by
    unfold L2.putF at h
    by_cases q : k = f
    · rw [if_pos q] at h; exact .inr h
    · rw [if_neg q, List.map_cons] at h
      rcases List.mem_cons.mp h with e | h
      · exact .inr (by rw [List.map_cons, e]; exact List.mem_cons_self)
      · rcases putF_names h with h | h
        · exact .inl h
        · exact .inr (by rw [List.map_cons]; exact List.mem_cons_of_mem _ h)
theorem s_fldset {C : Addr} {f : Str} {ta tv : TE} {fx fy : FE} (hn : L2.NoAttr K.K C f) (hx : SE K TB E ta fx) (hy : SE K TB E tv fy) : SS K TB E (sFld K.K ta tv f) (sFldSet C f fx fy) := fun σ ws G H ρ W Dn e c w =>
  hy.goS e c w fun v y W1 ws1 G1 H1 g1 c1 r1 w1 => by
    refine hx.goS (e.up g1) c1 w1 fun u x W2 ws2 G2 H2 g2 c2 r2 w2 => ?_
    unfold setFld at w2
    cases r2 with
    | d _ => exact w2.elim
    | @mu a n ea =>
      cases q : W2[n]? with
      | none => simp only [q] at w2; exact w2.elim
      | some m =>
        cases m with
        | ins C' l =>
          simp only [q] at w2
          split at w2
          · rename_i z
            split at z
            · rename_i hc
              cases z
              obtain ⟨rfl, hl⟩ := hc
              obtain ⟨hg, dx, fs, e1, k, rf⟩ := c2.ob n a _ ea q (by simp)
              refine ⟨a, C', dx, fs, rfl, e1, k.cl, hn, by rw [Paired.length rf]; exact hl, ?_⟩
              refine w2 σ ws2 G2 _ (Gr.put ea ⟨_, e1, nf_ins⟩) (c2.put ea q (by simp) ⟨dx, _, upd_same, ⟨k.cl, fun g hg => ?_⟩, putV_rp (g2.rv r1) rf⟩) ((e.up g1).up g2)
              rcases putF_names hg with z | z
              · rw [z]; exact hn
              · exact k.no g z
            · cases z
          · exact w2.elim
        | _ => simp only [q] at w2; exact w2.elim
/-! ### loops -/
theorem ItOk.up {ws1 : List Addr} {G1 H1 : Hp} {J : It} {it : Itm} (h : ItOk K TB ws G H J it) (g : Gr ws G H ws1 G1 H1) : ItOk K TB ws1 G1 H1 J it := fun ws2 G2 H2 W2 s c k i => h ws2 G2 H2 W2 (g.i.trans s) c k i
theorem for_core {g : TG} {tb : TS} {fg : FG} {b : FS} {vs : List Nat} {J : It} {it : Itm} {ws1 : List Addr} {G1 H1 : Hp} {W1 : Ms} (hg : SG K TB vs g fg) (hb : SS K TB E tb b) (ok : ItOk K TB ws1 G1 H1 J it) (c1 : Cf K TB ws1 G1 H1 W1) (e1 : EnvR K ws1 G1 σ ρ)
    (w1 : WishS K TB E ws1 G1 H1 Dn (forL it.kp fg b it.xs ρ W1)) : ∃ Wv : Nat → Nat → L2.St → Hp → Prop, (∃ m, Wv 0 m σ H1) ∧ ∀ i m σ H, Wv i m σ H →
  (J.stop i H ∧ Dn.nx σ H) ∨ (J.go i H ∧ ∃ N : L2.St → Hp → Prop, (∀ σ' H', N σ' H' → ∃ m', m' < m ∧ Wv (i + 1) m' σ' H') ∧ ∀ x H', J.yld i H x H' → g x σ H' fun σ2 H2 => tb { Dn with nx := N, ct := N, bk := Dn.nx } σ2 H2) := by
  refine ⟨fun i m σ2 H2 => i + m = it.xs.length ∧ ∃ ws2 G2 W2 ρ2, Gr ws1 G1 H1 ws2 G2 H2 ∧ Cf K TB ws2 G2 H2 W2 ∧ EnvR K ws2 G2 σ2 ρ2 ∧ WishS K TB E ws2 G2 H2 Dn (forL it.kp fg b (it.xs.drop i) ρ2 W2),
    ⟨it.xs.length, Nat.zero_add _, ws1, G1, W1, ρ, .refl, c1, e1, by rw [List.drop_zero]; exact w1⟩, ?_⟩
  rintro i m σ2 H2 ⟨hm, ws2, G2, W2, ρ2, g2, c2, e2, w2⟩
  by_cases hl : it.xs.length ≤ i
  · rw [List.drop_of_length_le hl] at w2
    unfold forL at w2
    split at w2
    · rename_i hk
      exact .inl ⟨((ok ws2 G2 H2 W2 g2.i c2 hk) i).1 hl, w2 σ2 ws2 G2 H2 .refl c2 e2⟩
    · exact w2.elim
  · have hi' : i < it.xs.length := by omega
    rw [List.drop_eq_getElem_cons hi'] at w2
    unfold forL at w2
    split at w2
    · rename_i hk
      obtain ⟨go, yl⟩ := ((ok ws2 G2 H2 W2 g2.i c2 hk) i).2 _ (List.getElem?_eq_getElem hi')
      cases z : fg it.xs[i] ρ2 with
      | none => simp only [z] at w2; exact w2.elim
      | some ρ3 =>
        simp only [z] at w2
        refine .inr ⟨go, fun σ' H' => ∃ m', m' < m ∧ i + 1 + m' = it.xs.length ∧ ∃ ws4 G4 W4 ρ4, Gr ws1 G1 H1 ws4 G4 H' ∧ Cf K TB ws4 G4 H' W4 ∧ EnvR K ws4 G4 σ' ρ4 ∧ WishS K TB E ws4 G4 H' Dn (forL it.kp fg b (it.xs.drop (i + 1)) ρ4 W4), fun σ' H' h => h, fun v H3 hy => ?_⟩
        obtain ⟨G3, g3, c3, r3⟩ := yl v H3 hy
        refine hg v _ σ2 ρ2 ρ3 ws2 G3 H3 W2 _ (e2.up g3) c3 r3 z fun σ3 e3 _ => ?_
        refine hb _ _ _ _ _ _ _ e3 c3 ?_
        cases q : b ρ3 W2 with
        | nx ρ4 W4 =>
          simp only [q] at w2
          exact fun σ4 ws4 G4 H4 g4 c4 e4 => ⟨m - 1, by omega, by omega, ws4, G4, W4, ρ4, (g2.trans g3).trans g4, c4, e4, WishS.up w2 (g3.trans g4)⟩
        | ct ρ4 W4 =>
          simp only [q] at w2
          exact fun σ4 ws4 G4 H4 g4 c4 e4 => ⟨m - 1, by omega, by omega, ws4, G4, W4, ρ4, (g2.trans g3).trans g4, c4, e4, WishS.up w2 (g3.trans g4)⟩
        | bk ρ4 W4 =>
          simp only [q] at w2
          exact fun σ4 ws4 G4 H4 g4 c4 e4 => w2 σ4 ws4 G4 H4 (g3.trans g4) c4 e4
        | rt v4 W4 =>
          simp only [q] at w2
          exact fun σ4 ws4 G4 H4 g4 c4 e4 => w2 σ4 ws4 G4 H4 (g3.trans g4) c4 e4
        | exc C4 W4 =>
          simp only [q] at w2
          exact fun ws4 G4 H4 g4 c4 => w2 ws4 G4 H4 (g3.trans g4) c4
        | stuck =>
          simp only [q] at w2
          exact w2.elim
    · exact w2.elim
theorem s_for {wi : TI} {g : TG} {tb : TS} {fi : FI} {fg : FG} {b : FS} {vs : List Nat} (hi : SI K TB E wi fi) (hg : SG K TB vs g fg) (hb : SS K TB E tb b) : SS K TB E (tFor wi g tb) (sFor fi fg b) := fun σ ws G H ρ W Dn e c w =>
  hi.goS (Dn := Dn) e c w fun J it W1 ws1 G1 H1 g1 c1 ok w1 => for_core hg hb ok c1 (e.up g1) w1
theorem s_while {tc : TT} {tb : TS} {fc : FT} {b : FS} (n : Nat) (hc : ST K TB E tc fc) (hb : SS K TB E tb b) : SS K TB E (tWhile tc tb) (sWhile n fc b) := fun σ ws G H ρ W Dn e c w => by
  refine ⟨fun m σ2 H2 => ∃ ws2 G2 W2 ρ2, Gr ws G H ws2 G2 H2 ∧ Cf K TB ws2 G2 H2 W2 ∧ EnvR K ws2 G2 σ2 ρ2 ∧ WishS K TB E ws2 G2 H2 Dn (whl fc b m ρ2 W2), ⟨n, ws, G, W, ρ, .refl, c, e, w⟩, ?_⟩
  rintro m σ2 H2 ⟨ws2, G2, W2, ρ2, g2, c2, e2, w2⟩
  cases m with
  | zero => exact w2.elim
  | succ m =>
    unfold whl at w2
    refine hc.goS e2 c2 w2 fun t d W3 ws3 G3 H3 g3 c3 r3 w3 => ?_
    obtain rfl : t = d := r3
    cases t
    · exact w3 σ2 ws3 G3 H3 .refl c3 (e2.up g3)
    · refine iteT ⟨fun σ' H' => ∃ m', m' < m + 1 ∧ ∃ ws4 G4 W4 ρ4, Gr ws G H ws4 G4 H' ∧ Cf K TB ws4 G4 H' W4 ∧ EnvR K ws4 G4 σ' ρ4 ∧ WishS K TB E ws4 G4 H' Dn (whl fc b m' ρ4 W4), fun σ' H' h => h, ?_⟩
      refine hb _ _ _ _ _ _ _ (e2.up g3) c3 ?_
      simp only [if_pos] at w3
      cases q : b ρ2 W3 with
      | nx ρ4 W4 =>
        simp only [q] at w3
        exact fun σ4 ws4 G4 H4 g4 c4 e4 => ⟨m, by omega, ws4, G4, W4, ρ4, (g2.trans g3).trans g4, c4, e4, WishS.up w3 g4⟩
      | ct ρ4 W4 =>
        simp only [q] at w3
        exact fun σ4 ws4 G4 H4 g4 c4 e4 => ⟨m, by omega, ws4, G4, W4, ρ4, (g2.trans g3).trans g4, c4, e4, WishS.up w3 g4⟩
      | bk ρ4 W4 =>
        simp only [q] at w3
        exact fun σ4 ws4 G4 H4 g4 c4 e4 => w3 σ4 ws4 G4 H4 g4 c4 e4
      | rt v4 W4 =>
        simp only [q] at w3
        exact fun σ4 ws4 G4 H4 g4 c4 e4 => w3 σ4 ws4 G4 H4 g4 c4 e4
      | exc C4 W4 =>
        simp only [q] at w3
        exact fun ws4 G4 H4 g4 c4 => w3 ws4 G4 H4 g4 c4
      | stuck =>
        simp only [q] at w3
        exact w3.elim
/-- a fresh object that was built is told of from now on -/
theorem Cf.own {p : Addr} {o : HO} (c : Cf K TB ws G H W) (hg : G p = none) (hw : p ∉ ws) (e : H p = some o) (ho : ∀ ps, o ≠ .tbl ps := by intro _ z; cases z) : Cf K TB ws (upd G p o) H W where
  g := fun b u q => by
    by_cases z : b = p
    · subst z; rw [upd_same] at q; rw [← q]; exact e
    · rw [upd_ne z] at q; exact c.g b u q
  len := c.len
  nd := c.nd
  nt := fun b ps q => by
    by_cases z : b = p
    · subst z; rw [upd_same] at q; exact ho ps (Option.some.inj q)
    · rw [upd_ne z] at q; exact c.nt b ps q
  dm := c.dm
  ob := fun i a m e1 e2 hm => by
    obtain ⟨h1, h2⟩ := c.ob i a m e1 e2 hm
    have ne : a ≠ p := fun z => hw (z ▸ List.mem_of_getElem? e1)
    exact ⟨by rw [upd_ne ne]; exact h1, h2.to (fun v x r => r.to (.of (same_upd hg)) fun _ _ z => z) rfl⟩
  tb := c.tb
theorem Gr.own {p : Addr} {o : HO} {ws1 : List Addr} {G1 H1 : Hp} (g : Gr ws G H ws1 G1 H1) (h : H p = none) (hG : G p = none) (hg : G1 p = none) : Gr ws G H ws1 (upd G1 p o) H1 where
  g := fun a u e => by
    rw [upd_ne (ne_of_none e hG)]
    exact g.g a u e
  p := g.p
  fr := g.fr
  fz := g.fz
  nw := g.nw
  nf := fun a u e e2 hw m => by
    rcases g.nf a u e e2 hw m with n | n
    · exact .inl (by rw [upd_ne (ne_of_none e h)]; exact n)
    · exact .inr n
theorem Cf.ownM {p : Addr} {m : M} (c : Cf K TB ws G H W) (hg : G p = none) (hw : p ∉ ws) (hp : ∃ o, H p = some o ∧ ∀ ps, o ≠ .tbl ps) (hm : MAt K (ws ++ [p]) G H p m) : Cf K TB (ws ++ [p]) G H (W ++ [m]) where
  nt := c.nt
  g := c.g
  len := by rw [List.length_append, List.length_append, c.len]; rfl
  nd := List.nodup_append.mpr ⟨c.nd, by simp, fun a ha b hb z => by
    rw [List.mem_singleton] at hb
    exact hw (hb ▸ z ▸ ha)⟩
  dm := fun b hb => by
    rcases List.mem_append.mp hb with hb | hb
    · exact c.dm b hb
    · rw [List.mem_singleton.mp hb]; exact hp
  ob := fun n a x e1 e2 hx => by
    by_cases hn : n < ws.length
    · rw [List.getElem?_append_left hn] at e1
      rw [List.getElem?_append_left (by rw [← c.len]; exact hn)] at e2
      obtain ⟨h1, h2⟩ := c.ob n a x e1 e2 hx
      refine ⟨h1, h2.to (fun v x r => r.to (.of fun _ _ e => e) fun i b e => ?_) rfl⟩
      rw [List.getElem?_append_left (List.getElem?_eq_some_iff.mp e).1]
      exact e
    · have hn2 : n = ws.length := by
        have := (List.getElem?_eq_some_iff.mp e1).1
        rw [List.length_append] at this
        have : n < ws.length + 1 := this
        omega
      subst hn2
      rw [List.getElem?_append_right (Nat.le_refl _), Nat.sub_self] at e1
      rw [List.getElem?_append_right (by rw [c.len]; exact Nat.le_refl _), ← c.len, Nat.sub_self] at e2
      cases e1
      cases e2
      exact ⟨hg, hm⟩
  tb := c.tb
theorem Gr.ownM {p : Addr} {ws1 : List Addr} {G1 H1 : Hp} (g : Gr ws G H ws1 G1 H1) (h : H p = none) : Gr ws G H (ws1 ++ [p]) G1 H1 where
  g := g.g
  p := by
    obtain ⟨m, e⟩ := g.p
    exact ⟨m ++ [p], by rw [e, List.append_assoc]⟩
  fr := g.fr
  fz := g.fz
  nw := fun a u ha n hw z => by
    rcases List.mem_append.mp z with z | z
    · exact g.nw a u ha n hw z
    · rw [List.mem_singleton.mp z, h] at ha
      cases ha
  nf := g.nf
/-- as Snd.go, the wish told from an earlier state -/
theorem Snd.goB {α β α' β' : Type} {R : List Addr → Hp → Hp → β → α → Prop} {R' : List Addr → Hp → Hp → β' → α' → Prop} {Q : β → Hp → Prop} {Q' : β' → Hp → Prop} {t : L2.St → Hp → (β' → Hp → Prop) → Prop} {f : Ev → Ms → Res α'} {k : α' → Ms → Res α}
    {wsb : List Addr} {Gb Hb : Hp} (h : Snd K TB R' E t f) (e : EnvR K ws G σ ρ) (c : Cf K TB ws G H W) (gb : Gr wsb Gb Hb ws G H)
    (w : Wish K TB R E wsb Gb Hb Q ((f ρ W).bind k))
    (nx : ∀ b x W1 ws1 G1 H1, Gr ws G H ws1 G1 H1 → Cf K TB ws1 G1 H1 W1 → R' ws1 G1 H1 b x → Wish K TB R E wsb Gb Hb Q (k x W1) → Q' b H1) : t σ H Q' := by
  refine h σ ws G H ρ W Q' e c ?_
  cases q : f ρ W with
  | ok x W1 =>
    rw [q] at w
    exact fun b ws1 G1 H1 g c1 r => nx b x W1 ws1 G1 H1 g c1 r w
  | exc C W1 =>
    rw [q] at w
    exact fun ws1 G1 H1 g c1 => w ws1 G1 H1 (gb.trans g) c1
  | stuck =>
    rw [q] at w
    exact w
/-- what a comprehension asks of the walk -/
def lcR (g : TG) (tt : TT) (te : TE) (vs : List Nat) (σ : L2.St) (Q : VK) : It → Hp → Prop := fun J H1 => ∀ D, H1 D = none → ∃ W : Nat → Nat → Hp → Prop, (∃ m, W 0 m (upd H1 D (.lst []))) ∧ ∀ i m H, W i m H →
  (J.stop i H ∧ Q (.ref D) H) ∨ (J.go i H ∧ ∃ Nx : Hp → Prop, (∀ H', Nx H' → ∃ m', m' < m ∧ W (i + 1) m' H') ∧ ∀ x H', J.yld i H x H' → g x (L2.wipe σ vs) H' fun σ2 H2 => L2.wipe σ2 vs = L2.wipe σ vs ∧ tt σ2 H2 fun b H3 =>
    if b = true then te σ2 H3 fun y H4 => ∃ acc, H4 D = some (.lst acc) ∧ acc.length < sizeLine ∧ Nx (upd H4 D (.lst (acc ++ [y]))) else Nx H3)
/-- the walk of a comprehension -/
theorem lc_core {g : TG} {tt : TT} {te : TE} {fg : FG} {ft : FT} {fe : FE} {vs : List Nat} {J : It} {it : Itm} {ws1 : List Addr} {G1 H1 : Hp} {W1 : Ms} (hg : SG K TB vs g fg) (ht : ST K TB E tt ft) (he : SE K TB E te fe)
    {mk : List Vl → Ms → Res Vl} {Q : VK} (ok : ItOk K TB ws1 G1 H1 J it)
    (e1 : EnvR K ws1 G1 σ ρ) (c1 : Cf K TB ws1 G1 H1 W1) (w1 : Wish K TB (RV K) E ws1 G1 H1 Q ((lcB fg ft fe vs ρ it W1).bind mk))
    (end_ : ∀ (p : Addr) (ws2 : List Addr) (G2 H2 : Hp) (W2 : Ms) (xs : List V) (as : List Vl), H1 p = none → Gr ws1 G1 H1 ws2 G2 H2 → Cf K TB ws2 G2 H2 W2 → G2 p = none → p ∉ ws2 → H2 p = some (.lst xs) → RpVs K ws2 G2 xs as →
      Wish K TB (RV K) E ws1 G1 H1 Q (mk as W2) → Q (.ref p) H2) : lcR g tt te vs σ Q J H1 := by
  intro p hp
  unfold lcB at w1
  by_cases hsz : it.xs.length ≤ 1000000
  · rw [if_pos hsz] at w1
    have hG1 := c1.gn hp
    refine ⟨fun i m H2 => i + m = it.xs.length ∧ ∃ ws2 G2 W2 xs as, Gr ws1 G1 H1 ws2 G2 H2 ∧ Cf K TB ws2 G2 H2 W2 ∧ G2 p = none ∧ p ∉ ws2 ∧ H2 p = some (.lst xs) ∧ xs.length ≤ i ∧ RpVs K ws2 G2 xs as ∧
        Wish K TB (RV K) E ws1 G1 H1 Q ((lcL it.kp fg ft fe (wipeE ρ vs) (it.xs.drop i) W2).bind fun ys W3 => mk (as ++ ys) W3),
      ⟨it.xs.length, Nat.zero_add _, ws1, G1, W1, [], [], Gr.junk hp, c1.junk hp, hG1, c1.wn hp, upd_same, Nat.zero_le _, .nil, ?_⟩, ?_⟩
    · rw [List.drop_zero]
      exact w1
    rintro i m H2 ⟨hm, ws2, G2, W2, xs, as, g2, c2, n1, n2, hx, hxl, rx, w2⟩
    have e2 : EnvR K ws2 G2 (L2.wipe σ vs) (wipeE ρ vs) := (e1.up g2).wipe vs
    by_cases hl : it.xs.length ≤ i
    · rw [List.drop_of_length_le hl] at w2
      unfold lcL at w2
      split at w2
      · rename_i hk
        refine .inl ⟨((ok ws2 G2 H2 W2 g2.i c2 hk) i).1 hl, end_ p ws2 G2 H2 W2 xs as hp g2 c2 n1 n2 hx rx ?_⟩
        rw [Res.bind_ok, List.append_nil] at w2
        exact w2
      · exact w2.elim
    · have hi' : i < it.xs.length := by omega
      rw [List.drop_eq_getElem_cons hi'] at w2
      unfold lcL at w2
      split at w2
      · rename_i hk
        obtain ⟨go, yl⟩ := ((ok ws2 G2 H2 W2 g2.i c2 hk) i).2 _ (List.getElem?_eq_getElem hi')
        cases z : fg it.xs[i] (wipeE ρ vs) with
        | none => simp only [z] at w2; exact w2.elim
        | some ρ3 =>
          simp only [z] at w2
          refine .inr ⟨go, fun H' => ∃ m', m' < m ∧ i + 1 + m' = it.xs.length ∧ ∃ ws4 G4 W4 xs4 as4, Gr ws1 G1 H1 ws4 G4 H' ∧ Cf K TB ws4 G4 H' W4 ∧ G4 p = none ∧ p ∉ ws4 ∧ H' p = some (.lst xs4) ∧ xs4.length ≤ i + 1 ∧ RpVs K ws4 G4 xs4 as4 ∧
            Wish K TB (RV K) E ws1 G1 H1 Q ((lcL it.kp fg ft fe (wipeE ρ vs) (it.xs.drop (i + 1)) W4).bind fun ys W3 => mk (as4 ++ ys) W3), fun H' h => h, fun v H3 hy => ?_⟩
          obtain ⟨G3, g3, c3, r3⟩ := yl v H3 hy
          have keep : ∀ {ws' : List Addr} {G' H' : Hp} {us : List V}, Gr ws2 G2 H2 ws' G' H' → G' p = none ∧ p ∉ ws' ∧ H' p = some (.lst xs) := fun {ws' G' H' us} gr => by
            refine ⟨?_, gr.nw p _ hx (fun _ z => nomatch z) n2, ?_⟩
            · rcases gr.nf p _ hx n1 n2 (fun _ z => nomatch z) with q | ⟨ys, q⟩
              · exact q
              · cases q
            · have e1 := gr.fr p _ hx n2 (fun _ z => nomatch z)
              exact e1
          refine hg v _ _ _ ρ3 ws2 G3 H3 W2 _ (e2.up g3) c3 r3 z fun σ3 e3 q3 => ⟨q3.trans (wipe_idem σ vs), ?_⟩
          have w3 : Wish K TB (RV K) E ws1 G1 H1 Q ((ft ρ3 W2).bind fun b W1 => (if b = true then (fe ρ3 W1).bind fun y W2 => (lcL it.kp fg ft fe (wipeE ρ vs) (it.xs.drop (i + 1)) W2).bind fun ys W3 => .ok (y :: ys) W3 else lcL it.kp fg ft fe (wipeE ρ vs) (it.xs.drop (i + 1)) W1).bind fun ys W3 => mk (as ++ ys) W3) := by
            cases q : ft ρ3 W2 with
            | ok b W5 => rw [q] at w2; exact w2
            | exc C W5 => rw [q] at w2; exact w2
            | stuck => rw [q] at w2; exact w2
          refine ht.goB (R := RV K) e3 c3 (g2.trans g3) w3 fun b b' W5 ws5 G5 H5 g5 c5 r5 w5 => ?_
          obtain rfl : b = b' := r5
          obtain ⟨k1, k2, k3⟩ := keep (us := xs) (g3.trans g5)
          cases b
          · refine iteF ?_
            simp only [Bool.false_eq_true, if_false] at w5
            exact ⟨m - 1, by omega, by omega, ws5, G5, W5, xs, as, (g2.trans g3).trans g5, c5, k1, k2, k3, by omega, (g3.trans g5).rvs rx, w5⟩
          · refine iteT ?_
            simp only [if_true] at w5
            have w6 : Wish K TB (RV K) E ws1 G1 H1 Q ((fe ρ3 W5).bind fun y W2 => (lcL it.kp fg ft fe (wipeE ρ vs) (it.xs.drop (i + 1)) W2).bind fun ys W3 => mk (as ++ y :: ys) W3) := by
              cases q : fe ρ3 W5 with
              | ok b W6 =>
                rw [q] at w5
                rw [Res.bind_ok] at w5 ⊢
                cases q2 : lcL it.kp fg ft fe (wipeE ρ vs) (it.xs.drop (i + 1)) W6 with
                | ok ys W7 => rw [q2] at w5; exact w5
                | exc C W7 => rw [q2] at w5; exact w5
                | stuck => rw [q2] at w5; exact w5
              | exc C W6 => rw [q] at w5; exact w5
              | stuck => rw [q] at w5; exact w5
            refine he.goB (R := RV K) (e3.up g5) c5 ((g2.trans g3).trans g5) w6 fun y dy W6 ws6 G6 H6 g6 c6 r6 w7 => ?_
            obtain ⟨k1, k2, k3⟩ := keep (us := xs) ((g3.trans g5).trans g6)
            refine ⟨xs, k3, mil' (by omega), m - 1, by omega, by omega, ws6, G6, W6, xs ++ [y], as ++ [dy], Gr.junkW (((g2.trans g3).trans g5).trans g6) hp, c6.junkW k1 k2 ⟨_, k3, plain_lst⟩, k1, k2, upd_same, by rw [List.length_append]; exact Nat.succ_le_succ hxl, ?_, ?_⟩
            · exact Paired.app (((g3.trans g5).trans g6).rvs rx) (.cons r6 .nil)
            · have ez : ∀ ys : List Vl, as ++ [dy] ++ ys = as ++ dy :: ys := fun ys => by simp
              simp only [ez]
              exact w7
      · exact w2.elim
  · rw [if_neg hsz] at w1
    exact w1.elim
theorem s_lcG {wi : TI} {g : TG} {tt : TT} {te : TE} {fi : FI} {fg : FG} {ft : FT} {fe : FE} {vs : List Nat} {mk : List Vl → Ms → Res Vl} (hi : SI K TB E wi fi) (hg : SG K TB vs g fg) (ht : ST K TB E tt ft) (he : SE K TB E te fe)
    (end_ : ∀ (ws1 : List Addr) (G1 H1 : Hp) (W1 : Ms) (Q : VK) (p : Addr) (ws2 : List Addr) (G2 H2 : Hp) (W2 : Ms) (xs : List V) (as : List Vl), Cf K TB ws1 G1 H1 W1 → H1 p = none → Gr ws1 G1 H1 ws2 G2 H2 → Cf K TB ws2 G2 H2 W2 → G2 p = none → p ∉ ws2 → H2 p = some (.lst xs) → RpVs K ws2 G2 xs as →
      Wish K TB (RV K) E ws1 G1 H1 Q (mk as W2) → Q (.ref p) H2) : SE K TB E (tLc wi g tt te vs) (fun ρ W => ((fi ρ W).bind (lcB fg ft fe vs ρ)).bind mk) := by
  intro σ ws G H ρ W Q e c w
  have w' : Wish K TB (RV K) E ws G H Q ((fi ρ W).bind fun it W1 => (lcB fg ft fe vs ρ it W1).bind mk) := by
    cases q : fi ρ W with
    | ok it W1 => simp only [q] at w; exact w
    | exc C W1 => simp only [q] at w; exact w
    | stuck => simp only [q] at w; exact w
  exact hi.go (R := RV K) (Q' := lcR g tt te vs σ Q) e c w' fun J it W1 ws1 G1 H1 g1 c1 ok w1 => lc_core hg ht he ok (e.up g1) c1 w1 fun p ws2 G2 H2 W2 xs as => end_ ws1 G1 H1 W1 Q p ws2 G2 H2 W2 xs as c1
theorem end_lst {ws1 : List Addr} {G1 H1 : Hp} {W1 : Ms} {Q : VK} {p : Addr} {ws2 : List Addr} {G2 H2 : Hp} {W2 : Ms} {xs : List V} {as : List Vl} (c1 : Cf K TB ws1 G1 H1 W1) (hp : H1 p = none) (g2 : Gr ws1 G1 H1 ws2 G2 H2) (c2 : Cf K TB ws2 G2 H2 W2) (n1 : G2 p = none) (n2 : p ∉ ws2) (hx : H2 p = some (.lst xs)) (rx : RpVs K ws2 G2 xs as)
      (w2 : Wish K TB (RV K) E ws1 G1 H1 Q (mkLst as W2)) : Q (.ref p) H2 := by
  unfold mkLst at w2
  split at w2
  · cases q : dsOf as with
    | none => rw [q] at w2; exact w2.elim
    | some l =>
      rw [q] at w2
      exact w2 _ ws2 (upd G2 p (.lst xs)) H2 (Gr.own g2 hp (c1.gn hp) n1) (c2.own n1 n2 hx) (.d (.lst upd_same ((dsOf_rp rx q).to (.of (same_upd n1)))))
  · exact w2.elim
theorem end_lstM {ws1 : List Addr} {G1 H1 : Hp} {W1 : Ms} {Q : VK} {p : Addr} {ws2 : List Addr} {G2 H2 : Hp} {W2 : Ms} {xs : List V} {as : List Vl} (c1 : Cf K TB ws1 G1 H1 W1) (hp : H1 p = none) (g2 : Gr ws1 G1 H1 ws2 G2 H2) (c2 : Cf K TB ws2 G2 H2 W2) (n1 : G2 p = none) (n2 : p ∉ ws2) (hx : H2 p = some (.lst xs)) (rx : RpVs K ws2 G2 xs as)
      (w2 : Wish K TB (RV K) E ws1 G1 H1 Q (mkLstM as W2)) : Q (.ref p) H2 := by
  unfold mkLstM at w2
  split at w2
  · refine w2 _ (ws2 ++ [p]) G2 H2 (Gr.ownM g2 hp) (c2.ownM n1 n2 ⟨_, hx, fun _ z => nomatch z⟩ ⟨xs, hx, ?_⟩) (.mu (at_end c2.len))
    exact Paired.imp (fun _ _ r => r.to (.of fun _ _ z => z) fun i b z => by
      rw [List.getElem?_append_left (List.getElem?_eq_some_iff.mp z).1]
      exact z) rx
  · exact w2.elim
theorem s_lc {wi : TI} {g : TG} {tt : TT} {te : TE} {fi : FI} {fg : FG} {ft : FT} {fe : FE} {vs : List Nat} (hi : SI K TB E wi fi) (hg : SG K TB vs g fg) (ht : ST K TB E tt ft) (he : SE K TB E te fe) : SE K TB E (tLc wi g tt te vs) (eLc fi fg ft fe vs) :=
  s_lcG hi hg ht he fun _ _ _ _ _ _ _ _ _ _ _ _ c1 hp g2 c2 n1 n2 hx rx w => end_lst c1 hp g2 c2 n1 n2 hx rx w
theorem s_lcM {wi : TI} {g : TG} {tt : TT} {te : TE} {fi : FI} {fg : FG} {ft : FT} {fe : FE} {vs : List Nat} (hi : SI K TB E wi fi) (hg : SG K TB vs g fg) (ht : ST K TB E tt ft) (he : SE K TB E te fe) : SE K TB E (tLc wi g tt te vs) (eLcM fi fg ft fe vs) :=
  s_lcG hi hg ht he fun _ _ _ _ _ _ _ _ _ _ _ _ c1 hp g2 c2 n1 n2 hx rx w => end_lstM c1 hp g2 c2 n1 n2 hx rx w
/-! ### a def -/
theorem some_ok : ∀ {vs : List V} {ds : List Vl}, RpVs K ws G vs ds → EnvR K ws G (vs.map some) (ds.map some)
  | _, _, .nil => .nil
  | _, _, .cons h t => .cons ⟨_, rfl, h⟩ (some_ok t)
theorem startE_ok {vs : List V} {ds : List Vl} (nn : List Str) (r : RpVs K ws G vs ds) : EnvR K ws G (L2.start nn vs) (startE nn.length ds) := by
  unfold L2.start startE
  rw [Paired.length r]
  refine Paired.app ?_ ?_
  · exact some_ok r
  · generalize nn.length - ds.length = k
    induction k with
    | zero => exact .nil
    | succ k ih => exact .cons trivial ih
theorem body_ok {t : TS} {b : FS} {np : Nat} {nn : List Str} {vs : List V} {ds : List Vl} {Q : VK} (hb : SS K TB E t b) (c : Cf K TB ws G H W) (r : RpVs K ws G vs ds) (w : Wish K TB (RV K) E ws G H Q (runB np nn.length b ds W)) :
    t { nx := fun _ H' => Q .non H', rt := Q } (L2.start nn vs) H := by
  unfold runB at w
  split at w
  · refine hb _ ws G H _ W _ (startE_ok nn r) c ?_
    cases q : b (startE nn.length ds) W with
    | nx ρ1 W1 =>
      simp only [q] at w
      exact fun σ' ws1 G1 H1 g1 c1 _ => fin_ok (E := E) c g1 c1 (.d .non) w
    | rt v W1 =>
      simp only [q] at w
      exact fun σ' ws1 G1 H1 g1 c1 r1 => fin_ok (E := E) c g1 c1 r1 w
    | bk ρ1 W1 => simp only [q] at w; exact w.elim
    | ct ρ1 W1 => simp only [q] at w; exact w.elim
    | exc C W1 =>
      simp only [q] at w
      exact fun ws1 G1 H1 g1 c1 => finX_ok (R := RV K) (Q := Q) c g1 c1 w
    | stuck => simp only [q] at w; exact w
  · exact w.elim
theorem body0_ok {t : TS} {b : FS} {np : Nat} {nn : List Str} {vs : List V} {ds : List Vl} {Q : VK} (hb : SS K TB E t b) (c : Cf K TB ws G H W) (r : RpVs K ws G vs ds) (w : Wish K TB (RV K) E ws G H Q (run0 np nn.length b ds W)) :
    t { nx := fun _ H' => Q .non H', rt := Q } (L2.start nn vs) H := by
  unfold run0 at w
  split at w
  · refine hb _ ws G H _ W _ (startE_ok nn r) c ?_
    cases q : b (startE nn.length ds) W with
    | nx ρ1 W1 =>
      simp only [q] at w
      exact fun σ' ws1 G1 H1 g1 c1 _ => w _ _ _ _ g1 c1 (.d .non)
    | rt v W1 =>
      simp only [q] at w
      exact fun σ' ws1 G1 H1 g1 c1 r1 => w _ _ _ _ g1 c1 r1
    | bk ρ1 W1 => simp only [q] at w; exact w.elim
    | ct ρ1 W1 => simp only [q] at w; exact w.elim
    | exc C W1 =>
      simp only [q] at w
      exact fun ws1 G1 H1 g1 c1 => w _ _ _ g1 c1
    | stuck => simp only [q] at w; exact w
  · exact w.elim
theorem runB_len {np nn : Nat} {b : FS} {ds : List Vl} {W : Ms} {Q : VK} (w : Wish K TB (RV K) E ws G H Q (runB np nn b ds W)) : ds.length = np := by
  unfold runB at w
  split at w
  · assumption
  · exact w.elim
theorem run0_len {np nn : Nat} {b : FS} {ds : List Vl} {W : Ms} {Q : VK} (w : Wish K TB (RV K) E ws G H Q (run0 np nn b ds W)) : ds.length = np := by
  unfold run0 at w
  split at w
  · assumption
  · exact w.elim
end
/-- THE RULE for a def: its body as a term of rules, and what that evaluates to -/
theorem Fun.okB {P : Program} {w : World} {K : Fr} {TB : List (Addr × Str)} {mg : Str → Option Value} {base : Heap} {x qual : Str} {st : Stmt} {f : Addr} {fd : FuncData} {N ps : List Str} {k : Nat} {b : FS}
    (F : L2.Fun K.K x qual st f fd) (S : L2.FnScope N ps (L2.defScope st))
    (hbody : ∀ (cdv : Value) (A : Around) (outer : List Env) (s : Shared) (H : Hp) (E : XK), L2.Room k (A.deeper (envOfC qual (L2.defScope st) s.heap.objs.size f cdv)) →
      ∃ t, L2.PSs (L2.cxOf (L2.CX P w) P w K.K mg base N qual (L2.defScope st) f cdv A outer s H E) (L2.defBody st) t ∧ SS K TB E t b) : L2.FnOk P w K.K mg base (L2.CX P w) (k + 1) f fd ps (spD K TB (runB ps.length N.length b)) := by
  refine F.okX S (fun vs H Q E h => ?_) (fun cdv ar outer s H vs Q E hr h => ?_)
  · obtain ⟨ws, G, W, ds, c, r, w⟩ := h
    exact (Paired.length r).trans (runB_len w)
  · obtain ⟨ws, G, W, ds, c, r, w⟩ := h
    obtain ⟨t, h1, h2⟩ := hbody cdv ar outer s H E hr
    exact ⟨t, h1, body_ok h2 c r w⟩
theorem Fun.ok0 {P : Program} {w : World} {K : Fr} {TB : List (Addr × Str)} {mg : Str → Option Value} {base : Heap} {x qual : Str} {st : Stmt} {f : Addr} {fd : FuncData} {N ps : List Str} {k : Nat} {b : FS}
    (F : L2.Fun K.K x qual st f fd) (S : L2.FnScope N ps (L2.defScope st))
    (hbody : ∀ (cdv : Value) (A : Around) (outer : List Env) (s : Shared) (H : Hp) (E : XK), L2.Room k (A.deeper (envOfC qual (L2.defScope st) s.heap.objs.size f cdv)) →
      ∃ t, L2.PSs (L2.cxOf (L2.CX P w) P w K.K mg base N qual (L2.defScope st) f cdv A outer s H E) (L2.defBody st) t ∧ SS K TB E t b) : L2.FnOk P w K.K mg base (L2.CX P w) (k + 1) f fd ps (spD K TB (run0 ps.length N.length b)) := by
  refine F.okX S (fun vs H Q E h => ?_) (fun cdv ar outer s H vs Q E hr h => ?_)
  · obtain ⟨ws, G, W, ds, c, r, w⟩ := h
    exact (Paired.length r).trans (run0_len w)
  · obtain ⟨ws, G, W, ds, c, r, w⟩ := h
    obtain ⟨t, h1, h2⟩ := hbody cdv ar outer s H E hr
    exact ⟨t, h1, body0_ok h2 c r w⟩
end DL

set_option Elab.async false
set_option linter.all false
set_option maxRecDepth 100000
set_option maxHeartbeats 4000000
/-! ## dicts whose keys are tuples of any depth -/
namespace DL
open PySem PySem.Spec PyProof.Rows L2
mutual
inductive Nk (H : Hp) : V → NestedKey → Prop
  | non : Nk H .non .none
  | num (i : Int) : Nk H (.int i) (.num i)
  | text (s : Str) : Nk H (.str s) (.text s)
  | tup {a : Addr} {vs : List V} {ks : List NestedKey} : H a = some (.tup vs) → NkL H vs ks → Nk H (.ref a) (.tup ks)
inductive NkL (H : Hp) : List V → List NestedKey → Prop
  | nil : NkL H [] []
  | cons {v : V} {k : NestedKey} {vs : List V} {ks : List NestedKey} : Nk H v k → NkL H vs ks → NkL H (v :: vs) (k :: ks)
end
section
variable {P : Program} {w : World} {H : Hp} {h : Heap}
mutual
theorem Nk.is (ok : HOk P w H h) : ∀ {v : V} {k : NestedKey} {u : Value}, Nk H v k → RelV v u → NestedIs h k u
  | _, _, _, .non, r => by cases r; exact .none
  | _, _, _, .num i, r => by obtain ⟨t, rfl⟩ := r; exact .int i t
  | _, _, _, .text s, r => by obtain ⟨t, rfl⟩ := r; exact .text s t
  | _, _, _, .tup (a := a) (vs := vs) (ks := ks) e l, r => by
    cases r
    obtain ⟨_, its, rv, o, h1, h2, n, h3⟩ := (show ObjOk P w H h a (.tup vs) from ok a _ e)
    exact .tup h1 h2 h3 (by simpa using NkL.is ok l rv)
theorem NkL.is (ok : HOk P w H h) : ∀ {vs : List V} {ks : List NestedKey} {us : List Value}, NkL H vs ks → Vals vs us → NestedAll h ks us
  | _, _, _, .nil, .nil => .nil
  | _, _, _, .cons n l, .cons r t => .cons (Nk.is ok n r) (NkL.is ok l t)
end
def NkAll (H : Hp) (xs : List (NestedKey × Addr × V)) : Prop := ∀ x ∈ xs, Nk H (.ref x.2.1) x.1 ∧ x.1.depth ≤ 8
def valN : List (NestedKey × Addr × V) → NestedKey → Option V
  | [], _ => none
  | x :: xs, k => if x.1 = k then some x.2.2 else valN xs k
def putN (xs : List (NestedKey × Addr × V)) (k : NestedKey) (b : Addr) (v : V) : List (NestedKey × Addr × V) :=
  if (xs.any fun x => decide (x.1 = k)) = true then xs.map fun x => if x.1 = k then (x.1, x.2.1, v) else x else xs ++ [(k, b, v)]
def dropN (xs : List (NestedKey × Addr × V)) (k : NestedKey) : List (NestedKey × Addr × V) := xs.filter fun x => decide (x.1 ≠ k)
abbrev XU (x : NestedKey × Addr × V) (u : NestedKey × Addr × Value) : Prop := x.1 = u.1 ∧ x.2.1 = u.2.1 ∧ RelV x.2.2 u.2.2
theorem xu_mem {xs : List (NestedKey × Addr × V)} {us : List (NestedKey × Addr × Value)} (r : Paired XU xs us) {u : NestedKey × Addr × Value} (hu : u ∈ us) : ∃ x, x ∈ xs ∧ x.1 = u.1 ∧ x.2.1 = u.2.1 := by
  induction r with
  | nil => exact nomatch hu
  | cons f t ih =>
    rcases List.mem_cons.mp hu with q | q
    · subst q; exact ⟨_, List.mem_cons_self, f.1, f.2.1⟩
    · obtain ⟨x, k1, k2⟩ := ih q
      exact ⟨x, List.mem_cons_of_mem _ k1, k2⟩
theorem dn_rd {a : Addr} {xs : List (NestedKey × Addr × V)} (ok : HOk P w H h) (e : Rd H a (dN w a xs)) (hk : NkAll H xs) : xs.length ≤ sizeLine ∧ (a == sysModules) = false ∧
    ∃ us, Paired XU xs us ∧ h.DictOfH (nestedKind P w) a us := by
  obtain ⟨⟨z, y, us, o, es, ep, r, h1, h2, h3, h4, h5⟩, _, _⟩ := (show ObjOk P w H h a (dN w a xs) from e.ok ok)
  refine ⟨z, y, us, r, o, es, ep, h1, h2, h3, h4, fun u hu => ?_, h5⟩
  obtain ⟨x, q1, q2, q3⟩ := xu_mem r hu
  obtain ⟨n1, n2⟩ := hk x q1
  rw [q2] at n1 n2
  rw [q3] at n1
  exact ⟨n1.is ok rfl, n2⟩
theorem dn_ok {a : Addr} {xs : List (NestedKey × Addr × V)} {us : List (NestedKey × Addr × Value)} {h' : Heap} {H' : Hp} (z : xs.length ≤ sizeLine) (y : (a == sysModules) = false) (r : Paired XU xs us) (d : h'.DictOfH (nestedKind P w) a us) : ObjOk P w H' h' a (dN w a xs) := by
  obtain ⟨o, es, ep, h1, h2, h3, h4, _, h5⟩ := d
  refine ⟨⟨z, y, us, o, es, ep, r, h1, h2, h3, h4, h5⟩, ⟨o, h1⟩, fun g1 g2 ⟨z, y, us, o, es, ep, r, h1, h2, h3, h4, h5⟩ k => ⟨z, y, us, o, es, ep, r, k o h1, h2, h3, h4, h5⟩⟩
theorem xu_val {xs : List (NestedKey × Addr × V)} {us : List (NestedKey × Addr × Value)} (r : Paired XU xs us) (k : NestedKey) : RelO (valN xs k) ((atKey us k).map (·.2)) := by
  induction r with
  | nil => exact True.intro
  | @cons p q ps qs f t ih =>
    obtain ⟨h1, _, h2⟩ := f
    unfold valN
    by_cases e : p.1 = k
    · have e' : q.1 = k := h1.symm.trans e
      have b : atKey (q :: qs) k = some q.2 := by simp [atKey, List.find?_cons, e']
      rw [if_pos e, b]; exact h2
    · have e' : ¬ q.1 = k := fun z => e (h1.trans z)
      have b : atKey (q :: qs) k = atKey qs k := by simp [atKey, List.find?_cons, e']
      rw [if_neg e, b]; exact ih
theorem valN_any (xs : List (NestedKey × Addr × V)) (k : NestedKey) : (xs.any fun x => decide (x.1 = k)) = (valN xs k).isSome := by
  induction xs with
  | nil => rfl
  | cons x xs ih =>
    unfold valN
    rw [List.any_cons, ih]
    by_cases e : x.1 = k
    · rw [if_pos e, decide_eq_true e]; rfl
    · rw [if_neg e, decide_eq_false e]; rfl
theorem xu_put {xs : List (NestedKey × Addr × V)} {us : List (NestedKey × Addr × Value)} (r : Paired XU xs us) (k : NestedKey) {b : Addr} {y : V} {u : Value} (ry : RelV y u) : Paired XU (putN xs k b y) (storedH us k b u) := by
  have e : (xs.any fun x => decide (x.1 = k)) = (atKey us k).isSome := by
    rw [valN_any, (xu_val r k).isSome_eq, Option.isSome_map]
  unfold putN storedH
  rw [e]
  by_cases q : (atKey us k).isSome = true
  · rw [if_pos q, if_pos q]
    clear e q
    induction r with
    | nil => exact .nil
    | @cons p q ps qs f t ih =>
      rw [List.map_cons, List.map_cons]
      refine .cons ?_ ih
      obtain ⟨h1, h2, h3⟩ := f
      unfold putAt
      by_cases e : p.1 = k
      · rw [if_pos e, if_pos (h1.symm.trans e)]; exact ⟨h1, h2, ry⟩
      · rw [if_neg e, if_neg (fun z => e (h1.trans z))]; exact ⟨h1, h2, h3⟩
  · rw [if_neg q, if_neg q]
    exact Paired.app r (.cons ⟨rfl, rfl, ry⟩ .nil)
theorem xu_drop {xs : List (NestedKey × Addr × V)} {us : List (NestedKey × Addr × Value)} (r : Paired XU xs us) (k : NestedKey) : Paired XU (dropN xs k) (withoutH us k) := by
  unfold dropN withoutH
  induction r with
  | nil => exact .nil
  | @cons p q ps qs f t ih =>
    obtain ⟨h1, h2, h3⟩ := f
    by_cases e : p.1 = k
    · have e' : q.1 = k := h1.symm.trans e
      rw [List.filter_cons_of_neg (by simp [e]), List.filter_cons_of_neg (by simp [e'])]
      exact ih
    · have e' : ¬ q.1 = k := fun z => e (h1.trans z)
      rw [List.filter_cons_of_pos (by simp [e]), List.filter_cons_of_pos (by simp [e'])]
      exact .cons ⟨h1, h2, h3⟩ ih
theorem length_putN (xs : List (NestedKey × Addr × V)) (k : NestedKey) (b : Addr) (v : V) : (putN xs k b v).length ≤ xs.length + 1 := by
  unfold putN
  split
  · rw [List.length_map]; omega
  · rw [List.length_append]; exact Nat.le_refl _
end
section
variable {X : Cx} {pins : List (Addr × Obj)} {σ : L2.St} {H : Hp} {s : Shared} {a b : Addr} {y v z : V} {u r : Value} {o : Option V} {A : Around} {E : Value → Shared → Prop} {xs : List (NestedKey × Addr × V)} {nk : NestedKey}
theorem nk_room (hu : A.units + 16 < cLine) : (nestedKind X.prog X.w).room A.in1 := by
  show A.in1.units + 8 < cLine
  have : A.in1.units = A.units + 1 := rfl
  omega
theorem nk_key (ok : HOk X.prog X.w H s.heap) (hb : Nk H (.ref b) nk) (hd : nk.depth ≤ 8) : (nestedKind X.prog X.w).is s.heap nk b := ⟨hb.is ok rfl, hd⟩
/-- an empty dict is a dict of tuple keys, too -/
theorem dk_nil (I : Inv X pins σ H s) (e : Rd H a (.dK [])) : (a == sysModules) = false ∧ s.heap.DictOfH (nestedKind X.prog X.w) a [] := by
  obtain ⟨_, hd, vs, rel, ob, es, ep, h1, h2, h3, h4, h5⟩ := dk_rd I.hok e
  cases rel
  refine ⟨hd, ob, es, ep, h1, h2, h3, ?_, fun _ hx => (nomatch hx), List.nodup_nil⟩
  obtain ⟨h5, _⟩ := h5
  generalize es.toList = l at h5 ⊢
  cases h5
  rfl
/-- what the dict at a holds at the key y -/
def GetA (w : World) (H : Hp) (a : Addr) (y : V) (r : Option V) : Prop := DGet H a y r ∨ ∃ xs nk b, (Rd H a (dN w a xs) ∨ (Rd H a (.dK []) ∧ xs = [])) ∧ NkAll H xs ∧ y = .ref b ∧ Nk H (.ref b) nk ∧ nk.depth ≤ 8 ∧ r = valN xs nk
theorem getA_of (I : Inv X pins σ H s) (g : Rd H a (dN X.w a xs) ∨ (Rd H a (.dK []) ∧ xs = [])) (hk : NkAll H xs) : xs.length ≤ sizeLine ∧ (a == sysModules) = false ∧ ∃ us, Paired XU xs us ∧ s.heap.DictOfH (nestedKind X.prog X.w) a us := by
  rcases g with g | ⟨g, rfl⟩
  · exact dn_rd I.hok g hk
  · obtain ⟨h1, h2⟩ := dk_nil I g
    exact ⟨Nat.zero_le _, h1, [], .nil, h2⟩
theorem getA_type (I : Inv X pins σ H s) (g : GetA X.w H a y o) : s.TypeIs (.ref a) "dict" ∧ ∀ b, Value.ref a = .ref b → ∃ ob, s.heap.get? b = some ob ∧ ob.dict = none := by
  rcases g with g | ⟨xs, nk, b, g, hk, _⟩
  · exact ⟨dict_typeIs I g, dict_noDict I g⟩
  · obtain ⟨_, _, us, _, dd⟩ := getA_of I g hk
    refine ⟨dd.typeIs, fun c q => ?_⟩
    cases q
    obtain ⟨ob, _, _, h1, h2, _⟩ := dd
    exact ⟨ob, h1, h2.2.1⟩
theorem a_getItem {Q : Value → Shared → Prop} (hu : A.units + 16 < cLine) (I : Inv X pins σ H s) (g : GetA X.w H a y (some v)) (ry : RelV y u) (h : ∀ w' s', Inv X pins σ H s' → RelV v w' → Q w' s') :
    wpAny (model X.prog X.w) A (getItem (.ref a) u) Q E s := by
  rcases g with g | ⟨xs, nk, b, g, hk, rfl, hb, hd, l⟩
  · exact d_getItem (by omega) I g ry h
  · cases (show u = Value.ref b from ry)
    obtain ⟨z, _, us, rel, dd⟩ := getA_of I g hk
    obtain ⟨w', hw, rw'⟩ := RelO.some_of (v := v) (o := (atKey us nk).map (·.2)) (by rw [l]; exact xu_val rel nk)
    obtain ⟨p, hp, hp2⟩ := Option.map_eq_some_iff.mp hw
    refine wpAny_getItem_heap (nk_room (X := X) hu) (nk_key I.hok hb hd) dd hp ?_
    rw [hp2]
    exact h w' _ (I.tok _) rw'
theorem a_in {Q : Value → Shared → Prop} (hu : A.units + 16 < cLine) (I : Inv X pins σ H s) (g : GetA X.w H a y o) (ry : RelV y u) (h : ∀ s', Inv X pins σ H s' → Q (.bool o.isSome) s') :
    wpAny (model X.prog X.w) A (compareOp .In u (.ref a)) Q E s := by
  rcases g with g | ⟨xs, nk, b, g, hk, rfl, hb, hd, l⟩
  · exact d_in (by omega) I g ry h
  · cases (show u = Value.ref b from ry)
    obtain ⟨z, hm, us, rel, dd⟩ := getA_of I g hk
    refine wpAny_in_heap (nk_room (X := X) hu) (nk_key I.hok hb hd) hm dd ?_
    have q := (xu_val rel nk).isSome_eq
    rw [Option.isSome_map] at q
    rw [← q, ← l]
    exact h _ (I.tok _)
theorem a_notIn {Q : Value → Shared → Prop} (hu : A.units + 16 < cLine) (I : Inv X pins σ H s) (g : GetA X.w H a y o) (ry : RelV y u) (h : ∀ s', Inv X pins σ H s' → Q (.bool (!o.isSome)) s') :
    wpAny (model X.prog X.w) A (compareOp .NotIn u (.ref a)) Q E s := by
  rcases g with g | ⟨xs, nk, b, g, hk, rfl, hb, hd, l⟩
  · exact d_notIn (by omega) I g ry h
  · cases (show u = Value.ref b from ry)
    obtain ⟨z, hm, us, rel, dd⟩ := getA_of I g hk
    refine wpAny_notIn_heap (nk_room (X := X) hu) (nk_key I.hok hb hd) hm dd ?_
    have q := (xu_val rel nk).isSome_eq
    rw [Option.isSome_map] at q
    rw [← q, ← l]
    exact h _ (I.tok _)
theorem a_get1 {Q : Value → Shared → Prop} (hu : A.units + 16 < cLine) (I : Inv X pins σ H s) (g : GetA X.w H a y o) (ry : RelV y u) (h : ∀ w' s', Inv X pins σ H s' → RelV (o.getD .non) w' → Q w' s') :
    wpAny (model X.prog X.w) A (call (.builtin "dict.get") [.ref a, u]) Q E s := by
  rcases g with g | ⟨xs, nk, b, g, hk, rfl, hb, hd, l⟩
  · exact d_get1 (by omega) I g ry h
  · cases (show u = Value.ref b from ry)
    obtain ⟨z, hm, us, rel, dd⟩ := getA_of I g hk
    refine call_meetsIn PySem.F.slot_dict_get dd.typeIs PySem.F.entry_dict_get (PySem.F.args_dict_get_2 _ _) (meetsH_dict_get (nestedKind X.prog X.w) a b hm) ⟨nk_room (X := X) hu, nk, us, nk_key I.hok hb hd, dd, h _ _ (I.tok _) ?_⟩
    rw [l]
    exact (xu_val rel nk).getD rfl
theorem a_get2 {Q : Value → Shared → Prop} (hu : A.units + 16 < cLine) (I : Inv X pins σ H s) (g : GetA X.w H a y o) (ry : RelV y u) (rd : RelV z r) (h : ∀ w' s', Inv X pins σ H s' → RelV (o.getD z) w' → Q w' s') :
    wpAny (model X.prog X.w) A (call (.builtin "dict.get") [.ref a, u, r]) Q E s := by
  rcases g with g | ⟨xs, nk, b, g, hk, rfl, hb, hd, l⟩
  · exact d_get2 (by omega) I g ry rd h
  · cases (show u = Value.ref b from ry)
    obtain ⟨z, hm, us, rel, dd⟩ := getA_of I g hk
    refine call_meetsIn PySem.F.slot_dict_get dd.typeIs PySem.F.entry_dict_get (PySem.F.args_dict_get_3 _ _ _) (meetsH_dict_get_default (nestedKind X.prog X.w) a b hm r) ⟨nk_room (X := X) hu, nk, us, nk_key I.hok hb hd, dd, h _ _ (I.tok _) ?_⟩
    rw [l]
    exact (xu_val rel nk).getD rd
/-- the heap behind a[y] = v -/
def PutA (w : World) (H : Hp) (a : Addr) (y v : V) (H' : Hp) : Prop := DPut H a y v H' ∨ ∃ xs nk b, (H a = some (dN w a xs) ∨ (H a = some (.dK []) ∧ xs = [])) ∧ NkAll H xs ∧ y = .ref b ∧ Nk H (.ref b) nk ∧ nk.depth ≤ 8 ∧ xs.length < sizeLine ∧ H' = upd H a (dN w a (putN xs nk b v))
theorem rds_of (g : H a = some (dN X.w a xs) ∨ (H a = some (.dK []) ∧ xs = [])) : (Rd H a (dN X.w a xs) ∨ (Rd H a (.dK []) ∧ xs = [])) ∧ Mut (H a) := by
  rcases g with g | ⟨g, e⟩
  · exact ⟨.inl (.inl g), by rw [g]; exact True.intro⟩
  · exact ⟨.inr ⟨.inl g, e⟩, by rw [g]; exact True.intro⟩
theorem a_setItem {H' : Hp} {Q : Unit → Shared → Prop} (hu : A.units + 16 < cLine) (I : Inv X pins σ H s) (g : PutA X.w H a y v H') (ry : RelV y u) (rv : RelV v r) (h : ∀ s', Inv X pins σ H' s' → Q () s') :
    wpAny (model X.prog X.w) A (setItem (.ref a) u r) Q E s := by
  rcases g with g | ⟨xs, nk, b, g, hk, rfl, hb, hd, l, rfl⟩
  · exact d_setItem (by omega) I g ry rv h
  · cases (show u = Value.ref b from ry)
    obtain ⟨g1, mu⟩ := rds_of g
    obtain ⟨z, hm, us, rel, dd⟩ := getA_of I g1 hk
    have hz : us.length ≤ sizeLine := by rw [← Paired.length rel]; exact z
    have hl : (putN xs nk b v).length ≤ sizeLine := by have := length_putN xs nk b v; omega
    refine wpAny_setItem_heap (hsz := hz) (nk_room (X := X) hu) (nk_key I.hok hb hd) dd fun h' dd' hs => h _ ?_
    have he : ∃ q, h'.get? a = some q := let ⟨q, _, _, hq, _⟩ := dd'; ⟨q, hq⟩
    exact d_write I mu hs he (dn_ok hl hm (xu_put rel nk rv) dd')
/-- an empty dict is one of whole numbers and texts -/
def dNe (w : World) (a : Addr) (xs : List (NestedKey × Addr × V)) : HO := match xs with
  | [] => .dK []
  | _ => dN w a xs
theorem dne_ok {P : Program} {w : World} {us : List (NestedKey × Addr × Value)} {h' : Heap} {H' : Hp} (z : xs.length ≤ sizeLine) (y : (a == sysModules) = false) (r : Paired XU xs us) (d : h'.DictOfH (nestedKind P w) a us) : ObjOk P w H' h' a (dNe w a xs) := by
  cases xs with
  | nil =>
    cases r
    obtain ⟨o, es, ep, h1, h2, h3, h4, _, h5⟩ := d
    refine ⟨Nat.zero_le _, y, [], .nil, o, es, ep, h1, h2, h3, fun e he => ?_, ?_, List.nodup_nil⟩
    · have : es.toList = [] := h4
      rw [← Array.mem_toList_iff, this] at he
      cases he
    · have : es.toList = [] := h4
      rw [this]
      exact .nil
  | cons x xs => exact dn_ok z y r d
/-- the heap behind del a[y] -/
def DelA (w : World) (H : Hp) (a : Addr) (y : V) (v : V) (H' : Hp) : Prop := (∃ kvs k, H a = some (.dK kvs) ∧ y = kV k ∧ valV kvs k = some v ∧ H' = upd H a (.dK (dropK kvs k))) ∨
  ∃ xs nk b, H a = some (dN w a xs) ∧ NkAll H xs ∧ y = .ref b ∧ Nk H (.ref b) nk ∧ nk.depth ≤ 8 ∧ valN xs nk = some v ∧ H' = upd H a (dNe w a (dropN xs nk))
theorem a_delItem {H' : Hp} {Q : Unit → Shared → Prop} (hu : A.units + 16 < cLine) (I : Inv X pins σ H s) (g : DelA X.w H a y v H') (ry : RelV y u) (h : ∀ s', Inv X pins σ H' s' → Q () s') :
    wpAny (model X.prog X.w) A (delItem (.ref a) u) Q E s := by
  rcases g with ⟨kvs, k, e, rfl, l, rfl⟩ | ⟨xs, nk, b, e, hk, rfl, hb, hd, l, rfl⟩
  · exact d_delItem I e ry (by rw [l]; rfl) h
  · cases (show u = Value.ref b from ry)
    obtain ⟨z, hm, us, rel, dd⟩ := getA_of I (.inl (.inl e)) hk
    obtain ⟨w', hw, _⟩ := RelO.some_of (v := v) (o := (atKey us nk).map (·.2)) (by rw [← l]; exact xu_val rel nk)
    obtain ⟨p, hp, _⟩ := Option.map_eq_some_iff.mp hw
    refine wpAny_delItem_heap (nk_room (X := X) hu) (nk_key I.hok hb hd) hm dd hp (hsz := by rw [← Paired.length rel]; exact z) fun h' dd' hs => h _ ?_
    have he : ∃ q, h'.get? a = some q := let ⟨q, _, _, hq, _⟩ := dd'; ⟨q, hq⟩
    exact d_write I (by rw [e]; exact True.intro) hs he (dne_ok (Nat.le_trans (List.length_filter_le _ _) z) hm (xu_drop rel nk) dd')
theorem a_pop {more : List Value} {H' : Hp} {Q : Value → Shared → Prop} (hu : A.units + 16 < cLine) (I : Inv X pins σ H s) (g : DelA X.w H a y v H') (ry : RelV y u) (hm : more = [] ∨ ∃ x, more = [x]) (h : ∀ w' s', Inv X pins σ H' s' → RelV v w' → Q w' s') :
    wpAny (model X.prog X.w) A (call (.builtin "dict.pop") (.ref a :: u :: more)) Q E s := by
  rcases g with ⟨kvs, k, e, rfl, l, rfl⟩ | ⟨xs, nk, b, e, hk, rfl, hb, hd, l, rfl⟩
  · exact d_pop I e ry l hm h
  · cases (show u = Value.ref b from ry)
    obtain ⟨z, hmm, us, rel, dd⟩ := getA_of I (.inl (.inl e)) hk
    obtain ⟨w', hw, rw'⟩ := RelO.some_of (v := v) (o := (atKey us nk).map (·.2)) (by rw [← l]; exact xu_val rel nk)
    obtain ⟨p, hp, hp2⟩ := Option.map_eq_some_iff.mp hw
    have ha : argsOk "dict.pop" ⟨.ref a :: .ref b :: more, []⟩ := by
      rcases hm with q | ⟨x, q⟩
      · subst q; exact PySem.F.args_dict_pop_2 _ _
      · subst q; exact PySem.F.args_dict_pop_3 _ _ _
    refine call_pop_heap hm ha (nk_room (X := X) hu) (nk_key I.hok hb hd) hmm dd hp (hsz := by rw [← Paired.length rel]; exact z) fun h' dd' hs => ?_
    have he : ∃ q, h'.get? a = some q := let ⟨q, _, _, hq, _⟩ := dd'; ⟨q, hq⟩
    rw [hp2]
    exact h w' _ (d_write I (by rw [e]; exact True.intro) hs he (dne_ok (Nat.le_trans (List.length_filter_le _ _) z) hmm (xu_drop rel nk) dd')) rw'
end
end DL

set_option Elab.async false
set_option linter.all false
set_option maxRecDepth 100000
set_option maxHeartbeats 4000000
/-! ## operations on values -/
namespace DL
open PySem PySem.Spec PyProof.Rows L2
/-! ### rules -/
section
variable {X : Cx}
def rGetA (w : World) : R2 := fun x y H Q => ∃ a v, x = .ref a ∧ GetA w H a y (some v) ∧ Q v H
theorem ix_dictA (hu : X.A.units + 16 < cLine) : IxR X (rGetA X.w) := by
  intro value slice pins s σ H x y v u Q I rx ry h hs
  obtain ⟨a, z, rfl, g, q⟩ := h
  cases rx
  exact tail_any (getA_type I g).1 PySem.F.slot_dict_getitem.lookup (a_getItem hu I g ry fun w' s3 I3 rw' => ⟨z, H, I3, rw', q⟩) hs
def rIxA (K : PySem.W.Frag) (w : World) : R2 := fun x y H Q => rIx K x y H Q ∨ rGetA w x y H Q
theorem ixA (K : PySem.W.Frag) (w : World) (hu : X.A.units + 16 < cLine) (hK : X.K = K := by rfl) (hw : X.w = w := by rfl) : IxR X (rIxA K w) := by
  subst hK hw
  exact ix_seq.or (ix_dictA hu)
def rInA (K : PySem.W.Frag) (w : World) (neg : Bool) : R2 := fun x y H Q => (∃ a o, y = .ref a ∧ GetA w H a x o ∧ Q (.bl (if neg then !o.isSome else o.isSome)) H) ∨ rIn K neg x y H Q ∨ (if neg then rNotInD K x y H Q else rInD K x y H Q) ∨
  ∃ i j, x = .str i ∧ y = .str j ∧ Q (.bl (if neg then !(!(Builtin.Str.occurrences j i 0 j.length 1).isEmpty) else (!(Builtin.Str.occurrences j i 0 j.length 1).isEmpty))) H
theorem inA (K : PySem.W.Frag) (w : World) (hu : X.A.units + 65 < cLine) (hK : X.K = K := by rfl) (hw : X.w = w := by rfl) : OpR X (compareOp .In) (rInA K w false) := by
  subst hK hw
  intro pins s σ H x y v u Q I rx ry h
  rcases h with ⟨a, o, rfl, g, q⟩ | h | h | h
  · cases ry
    exact a_in (by omega) I g rx fun s3 I3 => ⟨.bl o.isSome, H, I3, rfl, q⟩
  · exact op_in_seq pins s σ H x y v u Q I rx ry h
  · exact op_inD hu pins s σ H x y v u Q I rx ry h
  · exact op_in_str pins s σ H x y v u Q I rx ry h
theorem notInA (K : PySem.W.Frag) (w : World) (hu : X.A.units + 65 < cLine) (hK : X.K = K := by rfl) (hw : X.w = w := by rfl) : OpR X (compareOp .NotIn) (rInA K w true) := by
  subst hK hw
  intro pins s σ H x y v u Q I rx ry h
  rcases h with ⟨a, o, rfl, g, q⟩ | h | h | h
  · cases ry
    exact a_notIn (by omega) I g rx fun s3 I3 => ⟨.bl (!o.isSome), H, I3, rfl, q⟩
  · exact op_notIn_seq pins s σ H x y v u Q I rx ry h
  · exact op_notInD hu pins s σ H x y v u Q I rx ry h
  · exact op_notin_str pins s σ H x y v u Q I rx ry h
def rEqA (K : PySem.W.Frag) : R2 := fun x y H Q => rEq x y H Q ∨ rEqD K x y H Q
def rNeA (K : PySem.W.Frag) : R2 := fun x y H Q => rNe x y H Q ∨ rNeD K x y H Q
theorem eqA (K : PySem.W.Frag) (hu : X.A.units + 64 < cLine) (hK : X.K = K := by rfl) : OpR X (compareOp .Eq) (rEqA K) := by
  subst hK
  exact op_eq.or (op_eqD hu)
theorem neA (K : PySem.W.Frag) (hu : X.A.units + 64 < cLine) (hK : X.K = K := by rfl) : OpR X (compareOp .NotEq) (rNeA K) := by
  subst hK
  exact op_ne.or (op_neD hu)
def rLtA (K : PySem.W.Frag) : R2 := fun x y H Q => rLtIS x y H Q ∨ rLtD K x y H Q
theorem ltA (K : PySem.W.Frag) (hu : X.A.units + 64 < cLine) (hK : X.K = K := by rfl) : OpR X (compareOp .Lt) (rLtA K) := ltIS.or (ltD K hu hK)
def rLeA (K : PySem.W.Frag) : R2 := fun x y H Q => (rI0 fun i j => .bl (decide (i ≤ j))) x y H Q ∨ rLeD K x y H Q
theorem leA (K : PySem.W.Frag) (hu : X.A.units + 64 < cLine) (hK : X.K = K := by rfl) : OpR X (compareOp .LtE) (rLeA K) := op_le.or (leD K hu hK)
def rAddA (K : PySem.W.Frag) : R2 := fun x y H Q => (rI0 fun i j => .int (i + j)) x y H Q ∨ rCat x y H Q ∨ rCatA K x y H Q ∨ ∃ i j, x = .str i ∧ y = .str j ∧ i.length + j.length ≤ sizeLine ∧ Q (.str (i ++ j)) H
theorem addA (K : PySem.W.Frag) (hK : X.K = K := by rfl) : OpR X (binaryOp .Add) (rAddA K) := op_add.or (op_cat.or ((catAK K hK).or op_add_str))
def rMulA : R2 := fun x y H Q => (rI CMul fun i j => .int (i * j)) x y H Q
end
/-! ### values read -/
def lstOf (W : Ms) : Vl → Option (List Vl)
  | .d (.lst l) => some (l.map Vl.d)
  | .mu n => match W[n]? with
    | some (.lst l) => some l
    | _ => none
  | _ => none
def dctOf (W : Ms) : Vl → Option (List (D × Vl))
  | .d (.dct l) => some (l.map fun p => (p.1, .d p.2))
  | .mu n => match W[n]? with
    | some (.dct l) => some l
    | some (.lk l) => some l
    | _ => none
  | _ => none
def strOf : Vl → Option Str
  | .d (.str s) => some s
  | _ => none
def intOf : Vl → Option Int
  | .d (.int i) => some i
  | _ => none
open Classical in
noncomputable def getK {α : Type} : List (D × α) → D → Option α
  | [], _ => none
  | (k', v) :: l, k => if k' = k then some v else getK l k
open Classical in
noncomputable def putKD {α : Type} (k : D) (v : α) (l : List (D × α)) : List (D × α) :=
  if ∃ p ∈ l, p.1 = k then l.map (fun p => if p.1 = k then (p.1, v) else p) else l ++ [(k, v)]
open Classical in
noncomputable def delKD {α : Type} (k : D) (l : List (D × α)) : List (D × α) := l.filter fun p => decide (p.1 ≠ k)
def isTupD : D → Bool
  | .tup _ => true
  | _ => false
def keyOk : D → Bool
  | .int _ => true
  | .str _ => true
  | .tup l => match nkOf (.tup l) with
    | some nk => decide (nk.depth ≤ 8)
    | none => false
  | _ => false
/-- a key of the dict's own kind -/
def kindOk {α : Type} : List (D × α) → D → Bool
  | [], _ => true
  | (k0, _) :: _, k => isTupD k0 == isTupD k
def okKey {α : Type} (l : List (D × α)) (k : D) : Bool := keyOk k && kindOk l k
section
variable {K : Fr} {TB : List (Addr × Str)} {E : XK} {ws : List Addr} {G H : Hp} {W : Ms} {Q : VK} {v : V} {x : Vl}
theorem lst_at {l : List Vl} (c : Cf K TB ws G H W) (r : RpV K ws G v x) (h : lstOf W x = some l) : ∃ a vs, v = .ref a ∧ H a = some (.lst vs) ∧ RpVs K ws G vs l := by
  cases r with
  | d r =>
    cases r with
    | lst e rl => cases h; exact ⟨_, _, rfl, c.g _ _ e, rl.vs⟩
    | _ => cases h
  | @mu a n e =>
    simp only [lstOf] at h
    cases q : W[n]? with
    | none => rw [q] at h; cases h
    | some m =>
      rw [q] at h
      cases m with
      | lst l' =>
        cases h
        obtain ⟨_, vs, e1, rv⟩ := c.ob n a _ e q (by simp)
        exact ⟨a, vs, rfl, e1, rv⟩
      | _ => cases h
theorem RpK.vk : ∀ {kvs : List (Key × V)} {l : List (D × D)}, RpK K G kvs l → RpVK K ws G kvs (l.map fun p => (p.1, .d p.2))
  | _, _, .nil => .nil
  | _, _, .cons h t => .cons ⟨rfl, .d h⟩ (RpK.vk t)
theorem RpN.vn : ∀ {kvs : List (NestedKey × Addr × V)} {l : List (D × D)}, RpN K G kvs l → RpVN K ws G kvs (l.map fun p => (p.1, .d p.2))
  | _, _, .nil => .nil
  | _, _, .cons h0 h1 h2 h t => .cons ⟨⟨h0, h1, h2⟩, .d h⟩ (RpN.vn t)
theorem rd_up (c : Cf K TB ws G H W) {a : Addr} {u : HO} (h : Rd G a u) : Rd H a u := h.elim (fun e => .inl (c.g _ _ e)) fun ⟨o, e⟩ => .inr ⟨o, c.g _ _ e⟩
theorem dct_at {l : List (D × Vl)} (c : Cf K TB ws G H W) (r : RpV K ws G v x) (h : dctOf W x = some l) : ∃ a, v = .ref a ∧ ((∃ kvs, Rd H a (.dK kvs) ∧ RpVK K ws G kvs l) ∨ ∃ kvs, Rd H a (dN K.w a kvs) ∧ RpVN K ws G kvs l ∧ l ≠ []) := by
  cases r with
  | d r =>
    cases r with
    | dct e rl => cases h; exact ⟨_, rfl, .inl ⟨_, rd_up c e, rl.vk⟩⟩
    | dcN e n rl => cases h; exact ⟨_, rfl, .inr ⟨_, rd_up c e, rl.vn, fun z => n (List.map_eq_nil_iff.mp z)⟩⟩
    | _ => cases h
  | @mu a n e =>
    simp only [dctOf] at h
    cases q : W[n]? with
    | none => rw [q] at h; cases h
    | some m =>
      rw [q] at h
      cases m with
      | dct l' =>
        cases h
        obtain ⟨_, hm⟩ := c.ob n a _ e q (by simp)
        rcases hm with ⟨kvs, e1, rv⟩ | ⟨kvs, e1, rv, nl⟩
        · exact ⟨a, rfl, .inl ⟨kvs, .inl e1, rv⟩⟩
        · exact ⟨a, rfl, .inr ⟨kvs, .inl e1, rv, nl⟩⟩
      | lk l' =>
        cases h
        obtain ⟨_, hm⟩ := c.ob n a _ e q (by simp)
        rcases hm with ⟨ob, kvs, e1, rv⟩ | ⟨ob, kvs, e1, rv, nl⟩
        · exact ⟨a, rfl, .inl ⟨kvs, .inr ⟨ob, e1⟩, rv⟩⟩
        · exact ⟨a, rfl, .inr ⟨kvs, .inr ⟨ob, e1⟩, rv, nl⟩⟩
      | _ => cases h
mutual
theorem Rp.nk (s : Same G H) : ∀ {v : V} {x : D} {k : NestedKey}, Rp K G v x → nkOf x = some k → Nk H v k
  | _, _, _, .non, h => by cases h; exact .non
  | _, _, _, .int i, h => by cases h; exact .num i
  | _, _, _, .str i, h => by cases h; exact .text i
  | _, _, k, .tup (l := l) e r, h => by
    simp only [nkOf] at h
    cases q : nkL l with
    | none => rw [q] at h; cases h
    | some ks =>
      rw [q] at h
      cases h
      exact .tup (s _ _ e) (RpL.nk s r q)
  | _, _, _, .bl b, h => by simp [nkOf] at h
  | _, _, _, .tupK _ _, h => by simp [nkOf] at h
  | _, _, _, .lstK _ _, h => by simp [nkOf] at h
  | _, _, _, .lst _ _, h => by simp [nkOf] at h
  | _, _, _, .dct _ _, h => by simp [nkOf] at h
  | _, _, _, .dcN _ _ _, h => by simp [nkOf] at h
  | _, _, _, .ins _ _ _, h => by simp [nkOf] at h
  | _, _, _, .cls _, h => by simp [nkOf] at h
theorem RpL.nk (s : Same G H) : ∀ {vs : List V} {l : List D} {ks : List NestedKey}, RpL K G vs l → nkL l = some ks → NkL H vs ks
  | _, _, _, .nil, h => by cases h; exact .nil
  | _, _, _, .cons (x := x) (l := l) r t, h => by
    simp only [nkL] at h
    cases q : nkOf x with
    | none => rw [q] at h; cases h
    | some k =>
      cases q2 : nkL l with
      | none => rw [q, q2] at h; cases h
      | some ks =>
        rw [q, q2] at h
        cases h
        exact .cons (Rp.nk s r q) (RpL.nk s t q2)
end
mutual
theorem nk_inj : ∀ (x y : D) (k : NestedKey), nkOf x = some k → nkOf y = some k → x = y
  | .non, y, k, h, h2 => by
    cases h
    cases y <;> simp [nkOf] at h2
    rfl
  | .int i, y, k, h, h2 => by
    cases h
    cases y <;> simp [nkOf] at h2
    rw [h2]
  | .str i, y, k, h, h2 => by
    cases h
    cases y <;> simp [nkOf] at h2
    rw [h2]
  | .tup l, y, k, h, h2 => by
    simp only [nkOf] at h
    cases q : nkL l with
    | none => rw [q] at h; cases h
    | some ks =>
      rw [q] at h
      cases h
      cases y with
      | tup l2 =>
        simp only [nkOf] at h2
        cases q2 : nkL l2 with
        | none => rw [q2] at h2; cases h2
        | some ks2 =>
          rw [q2] at h2
          cases h2
          rw [nkL_inj l l2 ks q q2]
      | _ => simp [nkOf] at h2
  | .bl b, _, _, h, _ => by simp [nkOf] at h
  | .tupK _, _, _, h, _ => by simp [nkOf] at h
  | .lstK _, _, _, h, _ => by simp [nkOf] at h
  | .lst _, _, _, h, _ => by simp [nkOf] at h
  | .dct _, _, _, h, _ => by simp [nkOf] at h
  | .ins _ _, _, _, h, _ => by simp [nkOf] at h
  | .cls _, _, _, h, _ => by simp [nkOf] at h
theorem nkL_inj : ∀ (x y : List D) (k : List NestedKey), nkL x = some k → nkL y = some k → x = y
  | [], y, k, h, h2 => by
    cases h
    cases y with
    | nil => rfl
    | cons a l =>
      simp only [nkL] at h2
      split at h2 <;> cases h2
  | a :: l, y, k, h, h2 => by
    simp only [nkL] at h
    cases q : nkOf a with
    | none => rw [q] at h; cases h
    | some k1 =>
      cases q2 : nkL l with
      | none => rw [q, q2] at h; cases h
      | some ks =>
        rw [q, q2] at h
        cases h
        cases y with
        | nil => cases h2
        | cons b l2 =>
          simp only [nkL] at h2
          cases p : nkOf b with
          | none => rw [p] at h2; cases h2
          | some k3 =>
            cases p2 : nkL l2 with
            | none => rw [p, p2] at h2; cases h2
            | some ks3 =>
              rw [p, p2] at h2
              cases h2
              rw [nk_inj a b _ q p, nkL_inj l l2 _ q2 p2]
end
theorem kD_inj {a b : Key} (h : kD a = kD b) : a = b := by
  cases a <;> cases b <;> first | (injection h with h; rw [h]) | cases h
theorem vk_get (k : Key) : ∀ {kvs : List (Key × V)} {l : List (D × Vl)}, RpVK K ws G kvs l → (getK l (kD k) = none → valV kvs k = none) ∧ ∀ y, getK l (kD k) = some y → ∃ v, valV kvs k = some v ∧ RpV K ws G v y
  | _, _, .nil => ⟨fun _ => rfl, fun y h => nomatch h⟩
  | (k1, v1) :: kvs, (d1, y1) :: l, .cons ⟨h1, h2⟩ t => by
    obtain ⟨i1, i2⟩ := vk_get k t
    obtain rfl : d1 = kD k1 := h1
    unfold getK
    by_cases e : k1 = k
    · subst e
      rw [if_pos rfl, valV_pos rfl]
      exact ⟨fun h => (nomatch h), fun y h => by cases h; exact ⟨_, rfl, h2⟩⟩
    · rw [if_neg (fun z => e (kD_inj z)), valV_neg e]
      exact ⟨i1, i2⟩
theorem vn_get {k : D} {nk : NestedKey} (hk : nkOf k = some nk) : ∀ {kvs : List (NestedKey × Addr × V)} {l : List (D × Vl)}, RpVN K ws G kvs l → (getK l k = none → valN kvs nk = none) ∧ ∀ y, getK l k = some y → ∃ v, valN kvs nk = some v ∧ RpV K ws G v y
  | _, _, .nil => ⟨fun _ => rfl, fun y h => nomatch h⟩
  | (n1, b1, v1) :: kvs, (d1, y1) :: l, .cons ⟨⟨h0, h1, h3⟩, h2⟩ t => by
    obtain ⟨i1, i2⟩ := vn_get hk t
    unfold getK valN
    by_cases e : n1 = nk
    · have ed : d1 = k := nk_inj _ _ _ (h1.trans (congrArg some e)) hk
      rw [if_pos ed, if_pos e]
      exact ⟨fun h => (nomatch h), fun y h => by cases h; exact ⟨_, rfl, h2⟩⟩
    · rw [if_neg (fun z => e (by subst z; rw [hk] at h1; exact (Option.some.inj h1).symm)), if_neg e]
      exact ⟨i1, i2⟩
theorem nk_all (s : Same G H) {kvs : List (NestedKey × Addr × V)} {l : List (D × Vl)} (r : RpVN K ws G kvs l) : NkAll H kvs := by
  induction r with
  | nil => exact fun _ h => nomatch h
  | cons h t ih =>
    intro x hx
    rcases List.mem_cons.mp hx with e | hx
    · subst e; exact ⟨h.1.1.nk s h.1.2.1, h.1.2.2⟩
    · exact ih x hx
theorem vn_kind {kvs : List (NestedKey × Addr × V)} {l : List (D × Vl)} {k : D} (rn : RpVN K ws G kvs l) (nl : l ≠ []) (hk : isTupD k = false) : ¬ kindOk l k = true := by
  cases rn with
  | nil => exact absurd rfl nl
  | @cons p q _ _ hh t =>
    obtain ⟨p1, b, p2⟩ := p
    obtain ⟨q1, q2⟩ := q
    obtain ⟨⟨h0, h1, _⟩, _⟩ := hh
    have e : isTupD q1 = true := by
      simp only at h0 h1
      cases h0 with
      | tup _ _ => rfl
      | _ => simp [nkOf] at h1
    simp [kindOk, e, hk]
/-- what a dict holds at a key of its own kind -/
theorem get_at {y : V} {k : D} {l : List (D × Vl)} (c : Cf K TB ws G H W) (r : RpV K ws G v x) (h : dctOf W x = some l) (ry : RpV K ws G y (.d k)) (hk : okKey l k = true) :
    ∃ a, v = .ref a ∧ (getK l k = none → GetA K.w H a y none) ∧ ∀ z, getK l k = some z → ∃ u, GetA K.w H a y (some u) ∧ RpV K ws G u z := by
  obtain ⟨a, rfl, hd⟩ := dct_at c r h
  refine ⟨a, rfl, ?_⟩
  simp only [okKey, Bool.and_eq_true] at hk
  obtain ⟨hk1, hk2⟩ := hk
  cases ry with
  | d ry =>
  cases ry with
  | int i =>
    rcases hd with ⟨kvs, e, rk⟩ | ⟨kvs, e, rn, nl⟩
    · obtain ⟨g1, g2⟩ := vk_get (Sum.inl i) rk
      exact ⟨fun q => .inl (.inl ⟨kvs, Sum.inl i, e, rfl, (g1 q).symm⟩), fun z q => by
        obtain ⟨u, q1, q2⟩ := g2 z q
        exact ⟨u, .inl (.inl ⟨kvs, Sum.inl i, e, rfl, q1.symm⟩), q2⟩⟩
    · exact absurd hk2 (vn_kind rn nl rfl)
  | str i =>
    rcases hd with ⟨kvs, e, rk⟩ | ⟨kvs, e, rn, nl⟩
    · obtain ⟨g1, g2⟩ := vk_get (Sum.inr i) rk
      exact ⟨fun q => .inl (.inl ⟨kvs, Sum.inr i, e, rfl, (g1 q).symm⟩), fun z q => by
        obtain ⟨u, q1, q2⟩ := g2 z q
        exact ⟨u, .inl (.inl ⟨kvs, Sum.inr i, e, rfl, q1.symm⟩), q2⟩⟩
    · exact absurd hk2 (vn_kind rn nl rfl)
  | @tup b vs l' e0 rl =>
    simp only [keyOk] at hk1
    cases q0 : nkOf (.tup l') with
    | none => rw [q0] at hk1; cases hk1
    | some nk =>
      rw [q0] at hk1
      have hdp : nk.depth ≤ 8 := of_decide_eq_true hk1
      have hnk : Nk H (.ref b) nk := Rp.nk c.g (.tup e0 rl) q0
      rcases hd with ⟨kvs, e, rk⟩ | ⟨kvs, e, rn, nl⟩
      · cases rk with
        | nil => exact ⟨fun _ => .inr ⟨[], nk, b, .inr ⟨e, rfl⟩, fun _ h => (nomatch h), rfl, hnk, hdp, rfl⟩, fun z q => nomatch q⟩
        | @cons p q _ _ hh t =>
          obtain ⟨p1, p2⟩ := p
          obtain ⟨q1, q2⟩ := q
          obtain ⟨h1, _⟩ := hh
          obtain rfl : q1 = kD p1 := h1
          cases p1 <;> simp [kindOk, kD, isTupD] at hk2
      · obtain ⟨g1, g2⟩ := vn_get q0 rn
        exact ⟨fun q => .inr ⟨kvs, nk, b, .inl e, nk_all c.g rn, rfl, hnk, hdp, (g1 q).symm⟩, fun z q => by
          obtain ⟨u, q1, q2⟩ := g2 z q
          exact ⟨u, .inr ⟨kvs, nk, b, .inl e, nk_all c.g rn, rfl, hnk, hdp, q1.symm⟩, q2⟩⟩
  | _ => simp [keyOk] at hk1
end
end DL

set_option Elab.async false
set_option linter.all false
set_option maxRecDepth 100000
set_option maxHeartbeats 4000000
/-! ## operations on values: what they give -/
namespace DL
open PySem PySem.Spec PyProof.Rows L2
mutual
def D.ok : D → Bool
  | .non => true
  | .int _ => true
  | .str s => PyData.strOk s
  | .tup l => okL l
  | .lst l => okL l
  | _ => false
def okL : List D → Bool
  | [] => true
  | x :: l => D.ok x && okL l
end
mutual
def D.dep : D → Nat
  | .tup l => depL l + 1
  | .lst l => depL l + 1
  | _ => 0
def depL : List D → Nat
  | [] => 0
  | x :: l => max (D.dep x) (depL l)
end
mutual
def toP : D → PyData
  | .non => .none
  | .bl b => .bool b
  | .int i => .int i
  | .str s => .str s
  | .tup l => .tuple (toPs l)
  | .lst l => .list (toPs l)
  | _ => .none
def toPs : List D → List PyData
  | [] => []
  | x :: l => toP x :: toPs l
end
mutual
theorem toP_lay : ∀ x : D, x.ok = true → (toP x).canLay0 = true
  | .non, _ => rfl
  | .int i, _ => rfl
  | .str s, h => by simpa [toP, PyData.canLay0, D.ok] using h
  | .tup l, h => by
    simp only [toP, PyData.canLay0]
    exact toPs_lay l (by simpa [D.ok] using h)
  | .lst l, h => by
    simp only [toP, PyData.canLay0]
    exact toPs_lay l (by simpa [D.ok] using h)
  | .bl _, h => by simp [D.ok] at h
  | .tupK _, h => by simp [D.ok] at h
  | .lstK _, h => by simp [D.ok] at h
  | .dct _, h => by simp [D.ok] at h
  | .ins _ _, h => by simp [D.ok] at h
  | .cls _, h => by simp [D.ok] at h
theorem toPs_lay : ∀ l : List D, okL l = true → PyData.canLayAll0 (toPs l) = true
  | [], _ => rfl
  | x :: l, h => by
    simp only [okL, Bool.and_eq_true] at h
    simp only [toPs, PyData.canLayAll0, toP_lay x h.1, toPs_lay l h.2, Bool.and_self]
end
mutual
theorem toP_dep : ∀ x : D, x.ok = true → (toP x).depth = x.dep
  | .non, _ => by simp [toP, PyData.depth, D.dep]
  | .int i, _ => by simp [toP, PyData.depth, D.dep]
  | .str s, h => by simp [toP, PyData.depth, D.dep]
  | .tup l, h => by simp [toP, PyData.depth, D.dep, toPs_dep l (by simpa [D.ok] using h)]
  | .lst l, h => by simp [toP, PyData.depth, D.dep, toPs_dep l (by simpa [D.ok] using h)]
  | .bl _, h => by simp [D.ok] at h
  | .tupK _, h => by simp [D.ok] at h
  | .lstK _, h => by simp [D.ok] at h
  | .dct _, h => by simp [D.ok] at h
  | .ins _ _, h => by simp [D.ok] at h
  | .cls _, h => by simp [D.ok] at h
theorem toPs_dep : ∀ l : List D, okL l = true → PyData.depthAll (toPs l) = depL l
  | [], _ => by simp [toPs, PyData.depthAll, depL]
  | x :: l, h => by
    simp only [okL, Bool.and_eq_true] at h
    simp [toPs, PyData.depthAll, depL, toP_dep x h.1, toPs_dep l h.2]
end
mutual
theorem eqv_toP : ∀ x y : D, x.ok = true → y.ok = true → (PyData.eqv (toP x) (toP y) = true ↔ x = y)
  | .non, y, h, k => by cases y <;> simp_all [toP, PyData.eqv, D.ok]
  | .int i, y, h, k => by cases y <;> simp_all [toP, PyData.eqv, D.ok]
  | .str s, y, h, k => by cases y <;> simp_all [toP, PyData.eqv, D.ok]
  | .tup l, y, h, k => by
    cases y with
    | tup l2 => simp only [toP, PyData.eqv, D.tup.injEq]; exact eqvs_toP l l2 (by simpa [D.ok] using h) (by simpa [D.ok] using k)
    | _ => simp_all [toP, PyData.eqv, D.ok]
  | .lst l, y, h, k => by
    cases y with
    | lst l2 => simp only [toP, PyData.eqv, D.lst.injEq]; exact eqvs_toP l l2 (by simpa [D.ok] using h) (by simpa [D.ok] using k)
    | _ => simp_all [toP, PyData.eqv, D.ok]
  | .bl _, _, h, _ => by simp [D.ok] at h
  | .tupK _, _, h, _ => by simp [D.ok] at h
  | .lstK _, _, h, _ => by simp [D.ok] at h
  | .dct _, _, h, _ => by simp [D.ok] at h
  | .ins _ _, _, h, _ => by simp [D.ok] at h
  | .cls _, _, h, _ => by simp [D.ok] at h
theorem eqvs_toP : ∀ l m : List D, okL l = true → okL m = true → (PyData.eqvAll (toPs l) (toPs m) = true ↔ l = m)
  | [], [], _, _ => by simp [toPs, PyData.eqvAll]
  | [], _ :: _, _, _ => by simp [toPs, PyData.eqvAll]
  | _ :: _, [], _, _ => by simp [toPs, PyData.eqvAll]
  | x :: l, y :: m, h, k => by
    simp only [okL, Bool.and_eq_true] at h k
    simp only [toPs, PyData.eqvAll, Bool.and_eq_true, List.cons.injEq, eqv_toP x y h.1 k.1, eqvs_toP l m h.2 k.2]
end
mutual
theorem Rp.dp {K : Fr} {G H : Hp} (s : Same G H) : ∀ {v : V} {x : D}, Rp K G v x → x.ok = true → Dp K.K H v (toP x)
  | _, _, .non, _ => .non
  | _, _, .int i, _ => .int i
  | _, _, .str i, _ => .str i
  | _, _, .tup e r, h => .tup (SqT.of (s _ _ e)) (RpL.dp s r (by simpa [D.ok] using h))
  | _, _, .lst e r, h => .lst (SqL.of (s _ _ e)) (RpL.dp s r (by simpa [D.ok] using h))
  | _, _, .bl _, h => by simp [D.ok] at h
  | _, _, .tupK _ _, h => by simp [D.ok] at h
  | _, _, .lstK _ _, h => by simp [D.ok] at h
  | _, _, .dct _ _, h => by simp [D.ok] at h
  | _, _, .dcN _ _ _, h => by simp [D.ok] at h
  | _, _, .ins _ _ _, h => by simp [D.ok] at h
  | _, _, .cls _, h => by simp [D.ok] at h
theorem RpL.dp {K : Fr} {G H : Hp} (s : Same G H) : ∀ {vs : List V} {l : List D}, RpL K G vs l → okL l = true → DpAll K.K H vs (toPs l)
  | _, _, .nil, _ => .nil
  | _, _, .cons r t, h => by
    simp only [okL, Bool.and_eq_true] at h
    exact .cons (Rp.dp s r h.1) (RpL.dp s t h.2)
end
/-- the list as data -/
def rdD (W : Ms) : Vl → Option D
  | .d x => some x
  | .mu n => match W[n]? with
    | some (.lst l) => (dsOf l).map D.lst
    | _ => none
def isScal : D → Bool
  | .non => true
  | .int _ => true
  | .str _ => true
  | .bl _ => true
  | _ => false
def scalD : D → D → Bool
  | .non, .non => true | .non, .int _ => true | .int _, .non => true | .non, .bl _ => true | .bl _, .non => true | .non, .str _ => true | .str _, .non => true
  | .int _, .int _ => true | .bl _, .bl _ => true | .str _, .str _ => true
  | .int _, .str _ => true | .str _, .int _ => true | .bl _, .str _ => true | .str _, .bl _ => true
  | _, _ => false
def shapedD (a : D) : Bool := a.ok && decide (a.dep ≤ 64)
open Classical in
noncomputable def eqD (W : Ms) (x y : Vl) : Res Vl := match rdD W x, rdD W y with
  | some a, some b => if scalD a b = true ∨ (shapedD a = true ∧ shapedD b = true) then .ok (.d (.bl (decide (a = b)))) W else .stuck
  | _, _ => .stuck
open Classical in
noncomputable def neD (W : Ms) (x y : Vl) : Res Vl := match rdD W x, rdD W y with
  | some a, some b => if scalD a b = true ∨ (shapedD a = true ∧ shapedD b = true) then .ok (.d (.bl (!decide (a = b)))) W else .stuck
  | _, _ => .stuck
def seqOf (W : Ms) (x : Vl) : Option (List Vl) := match lstOf W x with
  | some l => some l
  | none => (tupOf x).map (·.map Vl.d)
noncomputable def ixD (W : Ms) (x y : Vl) : Res Vl := match dctOf W x with
  | some l => (match y with
    | .d k => if okKey l k = true then (match getK l k with
      | some z => .ok z W
      | none => .stuck) else .stuck
    | _ => .stuck)
  | none => (match intOf y with
    | some i => (match seqOf W x with
      | some l => (match atI l i with
        | some z => .ok z W
        | none => .stuck)
      | none => (match strOf x with
        | some s => if s.length ≤ 1000000 then (match atI s.cps.toList i with
          | some c => .ok (.d (.str ⟨#[c]⟩)) W
          | none => .stuck) else .stuck
        | none => .stuck))
    | none => .stuck)
def flatD : D → Bool
  | .non => true
  | .int _ => true
  | .str _ => true
  | _ => false
open Classical in
/-- x in y -/
noncomputable def isIn (W : Ms) (x y : Vl) : Option Bool := match dctOf W y with
  | some l => (match x with
    | .d k => if okKey l k = true then some (getK l k).isSome else none
    | _ => none)
  | none => (match x with
    | .d k => (match seqOf W y with
      | some l' => (match dsOf l' with
        | some l => if flatD k = true ∧ l.all flatD = true then some (decide (k ∈ l)) else if (lstOf W y).isSome = true ∧ shapedD k = true ∧ shapedD (.lst l) = true then some (decide (k ∈ l)) else none
        | none => none)
      | none => (match k, strOf y with
        | .str i, some j => some (!(Builtin.Str.occurrences j i 0 j.length 1).isEmpty)
        | _, _ => none))
    | _ => none)
noncomputable def inD (W : Ms) (x y : Vl) : Res Vl := match isIn W x y with
  | some b => .ok (.d (.bl b)) W
  | none => .stuck
noncomputable def notInD (W : Ms) (x y : Vl) : Res Vl := match isIn W x y with
  | some b => .ok (.d (.bl (!b))) W
  | none => .stuck
def arI (g : Int → Int → D) (W : Ms) (x y : Vl) : Res Vl := match intOf x, intOf y with
  | some i, some j => .ok (.d (g i j)) W
  | _, _ => .stuck
open Classical in
noncomputable def arC (C : Int → Int → Prop) (g : Int → Int → D) (W : Ms) (x y : Vl) : Res Vl := match intOf x, intOf y with
  | some i, some j => if C i j then .ok (.d (g i j)) W else .stuck
  | _, _ => .stuck
def addD (W : Ms) (x y : Vl) : Res Vl := match intOf x, intOf y with
  | some i, some j => .ok (.d (.int (i + j))) W
  | _, _ => (match strOf x, strOf y with
    | some i, some j => if i.length + j.length ≤ 1000000 then .ok (.d (.str (i ++ j))) W else .stuck
    | _, _ => (match lstOf W x, lstOf W y with
      | some l, some m => mkLst (l ++ m) W
      | _, _ => (match x, y with
        | .d (.tup l), .d (.tup m) => if l.length + m.length ≤ 1000000 then .ok (.d (.tup (l ++ m))) W else .stuck
        | _, _ => .stuck)))
def isNoneD (W : Ms) (x y : Vl) : Res Vl := match y with
  | .d .non => .ok (.d (.bl (isNon x))) W
  | _ => .stuck
def notNoneD (W : Ms) (x y : Vl) : Res Vl := match y with
  | .d .non => .ok (.d (.bl (!isNon x))) W
  | _ => .stuck
def isNonD : D → Bool
  | .non => true
  | _ => false
/-- x < y -/
def ltO (x y : D) : Option Bool := match x, y with
  | .int i, .int j => some (decide (i < j))
  | .str i, .str j => some (decide (i.cps.toList < j.cps.toList))
  | x, y => if x.ok && y.ok && !isNonD x && PySem.W.alike (toP x) (toP y) && decide (x.dep ≤ 8) then some (PySem.W.dataLt (toP x) (toP y)) else none
def leO (x y : D) : Option Bool := match x, y with
  | .int i, .int j => some (decide (i ≤ j))
  | x, y => if x.ok && y.ok && !isNonD x && PySem.W.alike (toP x) (toP y) && decide (x.dep ≤ 8) then some (!PySem.W.dataLt (toP y) (toP x)) else none
def cmpD (f : D → D → Option Bool) (W : Ms) (x y : Vl) : Res Vl := match rdD W x, rdD W y with
  | some a, some b => (match f a b with
    | some t => .ok (.d (.bl t)) W
    | none => .stuck)
  | _, _ => .stuck
section
variable {K : Fr} {TB : List (Addr × Str)}
theorem Wish.d {E : XK} {ws : List Addr} {G H : Hp} {Q : VK} {W : Ms} {x : D} {v : V} (w : Wish K TB (RV K) E ws G H Q (.ok (.d x) W)) (c : Cf K TB ws G H W) (r : Rp K G v x) : Q v H := w.ok c (.d r)
theorem intOf_at {ws : List Addr} {G : Hp} {v : V} {x : Vl} {i : Int} (r : RpV K ws G v x) (h : intOf x = some i) : v = .int i := by
  cases r with
  | d r => cases r <;> simp [intOf] at h; rw [h]
  | mu _ => cases h
theorem strOf_at {ws : List Addr} {G : Hp} {v : V} {x : Vl} {i : Str} (r : RpV K ws G v x) (h : strOf x = some i) : v = .str i := by
  cases r with
  | d r => cases r <;> simp [strOf] at h; rw [h]
  | mu _ => cases h
theorem seqOf_at {ws : List Addr} {G H : Hp} {W : Ms} {v : V} {x : Vl} {l : List Vl} (c : Cf K TB ws G H W) (r : RpV K ws G v x) (h : seqOf W x = some l) : ∃ a vs, v = .ref a ∧ (SqL K.K H a vs ∨ SqT K.K H a vs) ∧ RpVs K ws G vs l := by
  unfold seqOf at h
  cases q : lstOf W x with
  | some l' =>
    rw [q] at h
    cases h
    obtain ⟨a, vs, e, e2, rv⟩ := lst_at c r q
    exact ⟨a, vs, e, .inl (SqL.of e2), rv⟩
  | none =>
    rw [q] at h
    cases q2 : tupOf x with
    | none => simp [q2] at h
    | some l' =>
      simp [q2] at h
      subst h
      obtain ⟨a, vs, e, _, e2, rl⟩ := tup_rp c r q2
      exact ⟨a, vs, e, .inr e2, rl.vs⟩
theorem rdD_at {ws : List Addr} {G H : Hp} {W : Ms} {v : V} {x : Vl} {a : D} (c : Cf K TB ws G H W) (r : RpV K ws G v x) (h : rdD W x = some a) (ha : a.ok = true) : Dp K.K H v (toP a) := by
  cases r with
  | d r => cases h; exact r.dp c.g ha
  | @mu b n e =>
    simp only [rdD] at h
    cases q : W[n]? with
    | none => rw [q] at h; cases h
    | some m =>
      rw [q] at h
      cases m with
      | lst l =>
        cases k : dsOf l with
        | none => simp [k] at h
        | some l' =>
          simp [k] at h
          subst h
          obtain ⟨_, vs, e1, rv⟩ := c.ob n b _ e q (by simp)
          exact .lst (SqL.of e1) (RpL.dp c.g (dsOf_rp rv k) (by simpa [D.ok] using ha))
      | _ => cases h
theorem rdD_scal {ws : List Addr} {G : Hp} {W : Ms} {v : V} {x : Vl} {a : D} (r : RpV K ws G v x) (h : rdD W x = some a) (ha : isScal a = true) : Rp K G v a := by
  cases r with
  | d r => cases h; exact r
  | @mu b n e =>
    simp only [rdD] at h
    cases q : W[n]? with
    | none => rw [q] at h; cases h
    | some m =>
      rw [q] at h
      cases m with
      | lst l =>
        cases k : dsOf l with
        | none => simp [k] at h
        | some l' => simp [k] at h; subst h; simp [isScal] at ha
      | _ => cases h
theorem scal_dec {G : Hp} {v u : V} {a b : D} (h : scalD a b = true) (r : Rp K G v a) (s : Rp K G u b) : scal v u = true ∧ decide (v = u) = @decide (a = b) (Classical.propDecidable _) := by
  cases a <;> cases b <;> simp [scalD] at h <;> cases r <;> cases s <;> simp [scal]
theorem scalD_left {a b : D} (h : scalD a b = true) : isScal a = true := by
  cases a <;> cases b <;> simp [scalD] at h <;> rfl
theorem scalD_right {a b : D} (h : scalD a b = true) : isScal b = true := by
  cases a <;> cases b <;> simp [scalD] at h <;> rfl
theorem shaped_toP {a : D} (h : shapedD a = true) : a.ok = true ∧ SeqAt.shaped (toP a) = true := by
  simp only [shapedD, Bool.and_eq_true, decide_eq_true_eq] at h
  refine ⟨h.1, ?_⟩
  show ((toP a).canLay0 && decide ((toP a).depth ≤ 64)) = true
  rw [toP_lay a h.1, toP_dep a h.1, decide_eq_true h.2]
  rfl
open Classical in
theorem o_eq : OpD K TB (rEqA K.K) eqD := fun E ws G H W x y a b Q c rx ry w => by
  unfold eqD at w
  cases q1 : rdD W a with
  | none => rw [q1] at w; exact w.elim
  | some da =>
    cases q2 : rdD W b with
    | none => rw [q1, q2] at w; exact w.elim
    | some db =>
      rw [q1, q2] at w
      simp only at w
      split at w
      · rename_i h
        rcases h with h | ⟨h1, h2⟩
        · obtain ⟨e1, e2⟩ := scal_dec h (rdD_scal rx q1 (scalD_left h)) (rdD_scal ry q2 (scalD_right h))
          refine .inl ⟨e1, ?_⟩
          rw [e2]
          exact w.d c (.bl _)
        · obtain ⟨k1, s1⟩ := shaped_toP h1
          obtain ⟨k2, s2⟩ := shaped_toP h2
          refine .inr ⟨_, _, rdD_at c rx q1 k1, rdD_at c ry q2 k2, s1, s2, ?_⟩
          have e : PyData.eqv (toP da) (toP db) = decide (da = db) := by
            rw [Bool.eq_iff_iff, eqv_toP da db k1 k2, decide_eq_true_eq]
          rw [e]
          exact w.d c (.bl _)
      · exact w.elim
open Classical in
theorem o_ne : OpD K TB (rNeA K.K) neD := fun E ws G H W x y a b Q c rx ry w => by
  unfold neD at w
  cases q1 : rdD W a with
  | none => rw [q1] at w; exact w.elim
  | some da =>
    cases q2 : rdD W b with
    | none => rw [q1, q2] at w; exact w.elim
    | some db =>
      rw [q1, q2] at w
      simp only at w
      split at w
      · rename_i h
        rcases h with h | ⟨h1, h2⟩
        · obtain ⟨e1, e2⟩ := scal_dec h (rdD_scal rx q1 (scalD_left h)) (rdD_scal ry q2 (scalD_right h))
          refine .inl ⟨e1, ?_⟩
          rw [e2]
          exact w.d c (.bl _)
        · obtain ⟨k1, s1⟩ := shaped_toP h1
          obtain ⟨k2, s2⟩ := shaped_toP h2
          refine .inr ⟨_, _, rdD_at c rx q1 k1, rdD_at c ry q2 k2, s1, s2, ?_⟩
          have e : PyData.eqv (toP da) (toP db) = decide (da = db) := by
            rw [Bool.eq_iff_iff, eqv_toP da db k1 k2, decide_eq_true_eq]
          rw [e]
          exact w.d c (.bl _)
      · exact w.elim
theorem atI_rel {α β : Type} {F : α → β → Prop} {l : List α} {m : List β} (h : Paired F l m) {i : Int} {b : β} (e : atI m i = some b) : ∃ a, atI l i = some a ∧ F a b := by
  unfold atI at e ⊢
  rw [Paired.length h]
  cases q : ixN m.length i with
  | none => rw [q] at e; cases e
  | some j =>
    rw [q] at e
    obtain ⟨a, h1, h2⟩ := Paired.at' h e
    exact ⟨a, h1, h2⟩
theorem o_ix : OpD K TB (rIxA K.K K.w) ixD := fun E ws G H W x y a b Q c rx ry w => by
  unfold ixD at w
  cases q : dctOf W a with
  | some l =>
    rw [q] at w
    cases b with
    | mu n => exact w.elim
    | d k =>
      simp only at w
      split at w
      · rename_i hk
        obtain ⟨p, rfl, _, g⟩ := get_at c rx q ry hk
        cases z : getK l k with
        | none => rw [z] at w; exact w.elim
        | some u =>
          rw [z] at w
          obtain ⟨v, g1, r1⟩ := g u z
          exact .inr ⟨p, v, rfl, g1, w.ok c r1⟩
      · exact w.elim
  | none =>
    rw [q] at w
    cases q2 : intOf b with
    | none => simp only [q2] at w; exact w.elim
    | some i =>
      obtain rfl := intOf_at ry q2
      simp only [q2] at w
      cases q3 : seqOf W a with
      | some l =>
        simp only [q3] at w
        cases z : atI l i with
        | none => simp only [z] at w; exact w.elim
        | some u =>
          simp only [z] at w
          obtain ⟨p, vs, rfl, hs, rv⟩ := seqOf_at c rx q3
          obtain ⟨v, e1, r1⟩ := atI_rel rv z
          rcases hs with hs | hs
          · exact .inl (.inl ⟨p, vs, i, v, rfl, rfl, hs, e1, w.ok c r1⟩)
          · exact .inl (.inr (.inl ⟨p, vs, i, v, rfl, rfl, hs, e1, w.ok c r1⟩))
      | none =>
        simp only [q3] at w
        cases q4 : strOf a with
        | none => simp only [q4] at w; exact w.elim
        | some s =>
          simp only [q4] at w
          obtain rfl := strOf_at rx q4
          split at w
          · rename_i hl
            cases z : atI s.cps.toList i with
            | none => simp only [z] at w; exact w.elim
            | some u =>
              simp only [z] at w
              exact .inl (.inr (.inr ⟨s, i, u, rfl, rfl, mil hl, z, w.d c (.str _)⟩))
          · exact w.elim
theorem flat_rp {G : Hp} {v : V} {x : D} (r : Rp K G v x) (h : flatD x = true) : flatV v = true := by
  cases r <;> simp [flatD] at h <;> rfl
theorem flat_eq {G : Hp} {v u : V} {x y : D} (r : Rp K G v x) (s : Rp K G u y) (h : flatD x = true) (k : flatD y = true) : (eqV v u = true ↔ x = y) := by
  cases r <;> simp [flatD] at h <;> cases s <;> simp [flatD] at k <;> simp [eqV]
theorem flat_in {G : Hp} {v : V} {x : D} (r : Rp K G v x) (h : flatD x = true) : ∀ {vs : List V} {l : List D}, RpL K G vs l → l.all flatD = true → vs.all flatV = true ∧ (inV v vs = true ↔ x ∈ l)
  | _, _, .nil, _ => ⟨rfl, by simp [inV]⟩
  | _, _, .cons s t, k => by
    simp only [List.all_cons, Bool.and_eq_true] at k
    obtain ⟨i1, i2⟩ := flat_in r h t k.2
    refine ⟨by simp [flat_rp s k.1, i1], ?_⟩
    have e := flat_eq s r k.1 h
    simp only [inV, List.any_cons, Bool.or_eq_true, List.mem_cons] at i2 ⊢
    rw [e, i2]
    exact ⟨fun z => z.imp Eq.symm id, fun z => z.imp Eq.symm id⟩
theorem any_toPs {x : D} (hx : x.ok = true) : ∀ l : List D, okL l = true → ((toPs l).any (fun z => PyData.eqv z (toP x)) = true ↔ x ∈ l)
  | [], _ => by simp [toPs]
  | y :: l, h => by
    simp only [okL, Bool.and_eq_true] at h
    simp only [toPs, List.any_cons, Bool.or_eq_true, List.mem_cons, eqv_toP y x h.1 hx, any_toPs hx l h.2]
    exact ⟨fun z => z.imp Eq.symm id, fun z => z.imp Eq.symm id⟩
open Classical in
theorem isIn_at {ws : List Addr} {G H : Hp} {W : Ms} {x y : V} {a b : Vl} {t neg : Bool} {Q : VK} (c : Cf K TB ws G H W) (rx : RpV K ws G x a) (ry : RpV K ws G y b) (h : isIn W a b = some t) (hq : Q (.bl (if neg then !t else t)) H) : rInA K.K K.w neg x y H Q := by
  unfold isIn at h
  cases q : dctOf W b with
  | some l =>
    rw [q] at h
    cases a with
    | mu n => cases h
    | d k =>
      simp only at h
      split at h
      · rename_i hk
        cases h
        obtain ⟨p, rfl, g0, g⟩ := get_at c ry q rx hk
        cases z : getK l k with
        | none =>
          rw [z] at hq
          exact .inl ⟨p, none, rfl, g0 z, hq⟩
        | some u =>
          rw [z] at hq
          obtain ⟨v, g1, _⟩ := g u z
          exact .inl ⟨p, some v, rfl, g1, hq⟩
      · cases h
  | none =>
    rw [q] at h
    cases a with
    | mu n => cases h
    | d k =>
      simp only at h
      cases q2 : seqOf W b with
      | some l' =>
        rw [q2] at h
        simp only at h
        cases q3 : dsOf l' with
        | none => rw [q3] at h; cases h
        | some l =>
          rw [q3] at h
          simp only at h
          obtain ⟨p, vs, rfl, hs, rv⟩ := seqOf_at c ry q2
          have rl := dsOf_rp rv q3
          cases rx with
          | d rx =>
          split at h
          · rename_i hf
            cases h
            obtain ⟨f1, f2⟩ := flat_in rx hf.1 rl hf.2
            refine .inr (.inl ⟨p, vs, rfl, hs, flat_rp rx hf.1, f1, ?_⟩)
            have e : inV x vs = decide (k ∈ l) := by rw [Bool.eq_iff_iff, f2, decide_eq_true_eq]
            rw [e]
            exact hq
          · split at h
            · rename_i hf
              cases h
              obtain ⟨hl, hk, hsl⟩ := hf
              cases q4 : lstOf W b with
              | none => rw [q4] at hl; cases hl
              | some l2 =>
                have e3 : l2 = l' := by
                  have z := q2
                  unfold seqOf at z
                  rw [q4] at z
                  exact Option.some.inj z
                subst e3
                obtain ⟨p2, vs2, e2, hH, rv2⟩ := lst_at c ry q4
                cases e2
                obtain ⟨k1, s1⟩ := shaped_toP hk
                obtain ⟨k2, s2⟩ := shaped_toP hsl
                have k2' : okL l = true := by simpa [D.ok] using k2
                have dl : Dp K.K H (.ref p) (.list (toPs l)) := .lst (SqL.of hH) (RpL.dp c.g (dsOf_rp rv2 q3) k2')
                have e : ((toPs l).any fun z => PyData.eqv z (toP k)) = decide (k ∈ l) := by rw [Bool.eq_iff_iff, any_toPs k1 l k2', decide_eq_true_eq]
                refine .inr (.inr (.inl ?_))
                have s2' : SeqAt.shaped (.list (toPs l)) = true := by simpa [toP] using s2
                cases neg
                · refine ⟨_, _, rx.dp c.g k1, dl, s1, s2', ?_⟩
                  rw [e]; exact hq
                · refine ⟨_, _, rx.dp c.g k1, dl, s1, s2', ?_⟩
                  rw [e]; exact hq
            · cases h
      | none =>
        rw [q2] at h
        simp only at h
        split at h
        · rename_i i j e1
          cases h
          cases rx with
          | d rx =>
          cases rx
          obtain rfl := strOf_at ry e1
          exact .inr (.inr (.inr ⟨i, j, rfl, rfl, hq⟩))
        · cases h
end
end DL

set_option Elab.async false
set_option linter.all false
set_option maxRecDepth 100000
set_option maxHeartbeats 4000000
namespace DL
open PySem PySem.Spec PyProof.Rows L2
section
variable {K : Fr} {TB : List (Addr × Str)}
theorem o_in : OpD K TB (rInA K.K K.w false) inD := fun E ws G H W x y a b Q c rx ry w => by
  unfold inD at w
  cases q : isIn W a b with
  | none => rw [q] at w; exact w.elim
  | some t =>
    rw [q] at w
    exact isIn_at (neg := false) c rx ry q (w.d c (.bl _))
theorem o_notIn : OpD K TB (rInA K.K K.w true) notInD := fun E ws G H W x y a b Q c rx ry w => by
  unfold notInD at w
  cases q : isIn W a b with
  | none => rw [q] at w; exact w.elim
  | some t =>
    rw [q] at w
    exact isIn_at (neg := true) c rx ry q (w.d c (.bl _))
theorem o_arI {g : Int → Int → V} {h : Int → Int → D} (hg : ∀ G i j, Rp K G (g i j) (h i j)) : OpD K TB (rI0 g) (arI h) := fun E ws G H W x y a b Q c rx ry w => by
  unfold arI at w
  cases q : intOf a with
  | none => rw [q] at w; exact w.elim
  | some i =>
    cases q2 : intOf b with
    | none => rw [q, q2] at w; exact w.elim
    | some j =>
      rw [q, q2] at w
      obtain rfl := intOf_at rx q
      obtain rfl := intOf_at ry q2
      exact ⟨i, j, rfl, rfl, w.d c (hg _ _ _)⟩
theorem o_arC {C : Int → Int → Prop} {g : Int → Int → V} {h : Int → Int → D} (hg : ∀ G i j, Rp K G (g i j) (h i j)) : OpD K TB (rI C g) (arC C h) := fun E ws G H W x y a b Q c rx ry w => by
  unfold arC at w
  cases q : intOf a with
  | none => rw [q] at w; exact w.elim
  | some i =>
    cases q2 : intOf b with
    | none => rw [q, q2] at w; exact w.elim
    | some j =>
      rw [q, q2] at w
      simp only at w
      split at w
      · rename_i hc
        obtain rfl := intOf_at rx q
        obtain rfl := intOf_at ry q2
        exact ⟨i, j, rfl, rfl, hc, w.d c (hg _ _ _)⟩
      · exact w.elim
def subD := arI fun i j => .int (i - j)
noncomputable def mulD := arC CMul fun i j => .int (i * j)
noncomputable def fdivD := arC CDiv fun i j => .int (i / j)
noncomputable def modD := arC (fun _ j => 0 < j) fun i j => .int (i % j)
noncomputable def powD := arC CPow fun i j => .int (i ^ j.toNat)
def ltI := arI fun i j => .bl (decide (i < j))
def leI := arI fun i j => .bl (decide (i ≤ j))
def gtI := arI fun i j => .bl (decide (j < i))
def geI := arI fun i j => .bl (decide (j ≤ i))
theorem o_sub : OpD K TB (rI0 fun i j => .int (i - j)) subD := o_arI fun _ _ _ => .int _
theorem o_mul : OpD K TB (rI CMul fun i j => .int (i * j)) mulD := o_arC fun _ _ _ => .int _
theorem o_fdiv : OpD K TB (rI CDiv fun i j => .int (i / j)) fdivD := o_arC fun _ _ _ => .int _
theorem o_mod : OpD K TB (rI (fun _ j => 0 < j) fun i j => .int (i % j)) modD := o_arC fun _ _ _ => .int _
theorem o_pow : OpD K TB (rI CPow fun i j => .int (i ^ j.toNat)) powD := o_arC fun _ _ _ => .int _
theorem o_ltI : OpD K TB (rI0 fun i j => .bl (decide (i < j))) ltI := o_arI fun _ _ _ => .bl _
theorem o_leI : OpD K TB (rI0 fun i j => .bl (decide (i ≤ j))) leI := o_arI fun _ _ _ => .bl _
theorem o_gtI : OpD K TB (rI0 fun i j => .bl (decide (j < i))) gtI := o_arI fun _ _ _ => .bl _
theorem o_geI : OpD K TB (rI0 fun i j => .bl (decide (j ≤ i))) geI := o_arI fun _ _ _ => .bl _
def negD (W : Ms) (x : Vl) : Res Vl := match intOf x with
  | some i => .ok (.d (.int (-i))) W
  | none => .stuck
theorem o_neg : UnD K TB (rU fun i => .int (-i)) negD := fun E ws G H W x a Q c rx w => by
  unfold negD at w
  cases q : intOf a with
  | none => rw [q] at w; exact w.elim
  | some i =>
    rw [q] at w
    obtain rfl := intOf_at rx q
    exact ⟨i, rfl, w.d c (.int _)⟩
theorem non_dec {ws : List Addr} {G : Hp} {v : V} {x : Vl} (r : RpV K ws G v x) : decide (v = .non) = isNon x := by
  cases r with
  | d r => cases r <;> simp [isNon]
  | mu _ => simp [isNon]
theorem o_isN : OpD K TB (fun x y H Q => y = .non ∧ Q (.bl (decide (x = .non))) H) isNoneD := fun E ws G H W x y a b Q c rx ry w => by
  unfold isNoneD at w
  split at w
  · cases ry with
    | d ry =>
    cases ry
    refine ⟨rfl, ?_⟩
    rw [non_dec rx]
    exact w.d c (.bl _)
  · exact w.elim
theorem o_notN : OpD K TB (fun x y H Q => y = .non ∧ Q (.bl (!decide (x = .non))) H) notNoneD := fun E ws G H W x y a b Q c rx ry w => by
  unfold notNoneD at w
  split at w
  · cases ry with
    | d ry =>
    cases ry
    refine ⟨rfl, ?_⟩
    rw [non_dec rx]
    exact w.d c (.bl _)
  · exact w.elim
theorem pair_map {vs us : List V} {l m : List D} {G : Hp} : RpL K G vs l → RpL K G us m → RpL K G (vs ++ us) (l ++ m)
  | .nil, h => h
  | .cons r t, h => .cons r (pair_map t h)
theorem mk_lst_cat {E : XK} {ws : List Addr} {G H : Hp} {W : Ms} {Q : VK} {xs : List V} {as : List Vl} (c : Cf K TB ws G H W) (r : RpVs K ws G xs as) (w : Wish K TB (RV K) E ws G H Q (mkLst as W)) : xs.length ≤ sizeLine ∧ ∀ p, H p = none → Q (.ref p) (upd H p (.lst xs)) := mk_lst c r w
theorem o_add : OpD K TB (rAddA K.K) addD := fun E ws G H W x y a b Q c rx ry w => by
  unfold addD at w
  split at w
  · rename_i i j q1 q2
    obtain rfl := intOf_at rx q1
    obtain rfl := intOf_at ry q2
    exact .inl ⟨i, j, rfl, rfl, w.d c (.int _)⟩
  · split at w
    · rename_i i j q1 q2
      obtain rfl := strOf_at rx q1
      obtain rfl := strOf_at ry q2
      split at w
      · rename_i hl
        exact .inr (.inr (.inr ⟨i, j, rfl, rfl, mil hl, w.d c (.str _)⟩))
      · exact w.elim
    · split at w
      · rename_i l m q1 q2
        obtain ⟨p1, vs1, rfl, h1, r1⟩ := lst_at c rx q1
        obtain ⟨p2, vs2, rfl, h2, r2⟩ := lst_at c ry q2
        obtain ⟨k1, k2⟩ := mk_lst c (Paired.app r1 r2) w
        exact .inr (.inl ⟨p1, p2, vs1, vs2, rfl, rfl, h1, h2, by rw [List.length_append] at k1; exact k1, k2⟩)
      · split at w
        · rename_i l m
          cases rx with
          | d rx =>
          cases ry with
          | d ry =>
          cases rx with
          | tup e1 r1 =>
          cases ry with
          | tup e2 r2 =>
          split at w
          · rename_i hl
            refine .inr (.inr (.inl ⟨_, _, _, _, rfl, rfl, SqT.of (c.g _ _ e1), SqT.of (c.g _ _ e2), by rw [r1.len, r2.len]; exact mil hl, fun z => ?_, fun _ z => ?_, fun _ _ p hp => ?_⟩))
            · subst z
              cases r1
              exact w.d c (.tup e2 r2)
            · subst z
              cases r2
              rw [List.append_nil] at w
              exact w.d c (.tup e1 r1)
            · exact w _ ws _ _ (Gr.new c hp) (c.new hp) (.d (.tup upd_same ((pair_map r1 r2).to (.of (same_upd (c.gn hp))))))
          · exact w.elim
        · exact w.elim
theorem o_lt : OpD K TB (rLtA K.K) (cmpD ltO) := fun E ws G H W x y a b Q c rx ry w => by
  unfold cmpD at w
  cases q1 : rdD W a with
  | none => rw [q1] at w; exact w.elim
  | some da =>
    cases q2 : rdD W b with
    | none => rw [q1, q2] at w; exact w.elim
    | some db =>
      simp only [q1, q2] at w
      cases q3 : ltO da db with
      | none => rw [q3] at w; exact w.elim
      | some t =>
        rw [q3] at w
        have wq := fun v r => w.d (v := v) c r
        unfold ltO at q3
        split at q3
        · cases q3
          cases rdD_scal rx q1 rfl
          cases rdD_scal ry q2 rfl
          exact .inl (.inl ⟨_, _, rfl, rfl, wq _ (.bl _)⟩)
        · cases q3
          cases rdD_scal rx q1 rfl
          cases rdD_scal ry q2 rfl
          exact .inl (.inr ⟨_, _, rfl, rfl, wq _ (.bl _)⟩)
        · split at q3
          · rename_i h
            cases q3
            simp only [Bool.and_eq_true, decide_eq_true_eq] at h
            obtain ⟨⟨⟨⟨h1, h2⟩, h3⟩, h4⟩, h5⟩ := h
            refine .inr ⟨_, _, rdD_at c rx q1 h1, rdD_at c ry q2 h2, h4, ?_, by rw [toP_dep _ h1]; exact h5, wq _ (.bl _)⟩
            intro z
            cases da <;> simp_all [toP, D.ok, isNonD]
          · cases q3
theorem o_le : OpD K TB (rLeA K.K) (cmpD leO) := fun E ws G H W x y a b Q c rx ry w => by
  unfold cmpD at w
  cases q1 : rdD W a with
  | none => rw [q1] at w; exact w.elim
  | some da =>
    cases q2 : rdD W b with
    | none => rw [q1, q2] at w; exact w.elim
    | some db =>
      simp only [q1, q2] at w
      cases q3 : leO da db with
      | none => rw [q3] at w; exact w.elim
      | some t =>
        rw [q3] at w
        have wq := fun v r => w.d (v := v) c r
        unfold leO at q3
        split at q3
        · cases q3
          cases rdD_scal rx q1 rfl
          cases rdD_scal ry q2 rfl
          exact .inl ⟨_, _, rfl, rfl, wq _ (.bl _)⟩
        · split at q3
          · rename_i h
            cases q3
            simp only [Bool.and_eq_true, decide_eq_true_eq] at h
            obtain ⟨⟨⟨⟨h1, h2⟩, h3⟩, h4⟩, h5⟩ := h
            refine .inr ⟨_, _, rdD_at c rx q1 h1, rdD_at c ry q2 h2, h4, ?_, by rw [toP_dep _ h1]; exact h5, wq _ (.bl _)⟩
            intro z
            cases da <;> simp_all [toP, D.ok, isNonD]
          · cases q3
end
end DL

set_option Elab.async false
set_option linter.all false
set_option maxRecDepth 100000
set_option maxHeartbeats 4000000
/-! ## walks -/
namespace DL
open PySem PySem.Spec PyProof.Rows L2
theorem PI.alt {X : Cx} {tg iter : Expr} {w1 w2 : TI} (h1 : PI X tg iter w1) (h2 : PI X tg iter w2) : PI X tg iter (fun σ H R => w1 σ H R ∨ w2 σ H R) :=
  ⟨fun pins s σ H R I h => h.elim (h1.run pins s σ H R I) (h2.run pins s σ H R I)⟩
theorem PS.alt {X : Cx} {st : Stmt} {t u : TS} (h1 : PS X st t) (h2 : PS X st u) : PS X st (fun D σ H => t D σ H ∨ u D σ H) :=
  ⟨fun pins s σ H D I h => h.elim (h1.run pins s σ H D I) (h2.run pins s σ H D I)⟩
theorem PE.alt {X : Cx} {e : Expr} {t u : TE} (h1 : PE X e t) (h2 : PE X e u) : PE X e (fun σ H Q => t σ H Q ∨ u σ H Q) :=
  ⟨fun pins s σ H Q I h => h.elim (h1.run pins s σ H Q I) (h2.run pins s σ H Q I)⟩
section
variable {X : Cx} {pins : List (Addr × Obj)} {σ : L2.St} {H : Hp} {s : Shared} {d : Addr} {o : Obj}
theorem paired_at {α β : Type} {F : α → β → Prop} {l : List α} {r : List β} (h : Paired F l r) {i : Nat} {a : α} (e : l[i]? = some a) : ∃ b, r[i]? = some b ∧ F a b := by
  induction h generalizing i with
  | nil => simp at e
  | cons f t ih =>
    cases i with
    | zero => simp at e; subst e; exact ⟨_, rfl, f⟩
    | succ i =>
      obtain ⟨b, h1, h2⟩ := ih (i := i) (by simpa using e)
      exact ⟨b, by simpa using h1, h2⟩
theorem Inv.frzN {kvs : List (NestedKey × Addr × V)} (I : Inv X pins σ H s) (h : H d = some (.frz o (dN X.w d kvs))) :
    (d == sysModules) = false ∧ s.heap.get? d = some o ∧ o.ExactDict ∧ ∃ (es : Array DictEntry) (ep : Nat), o.data = .dict es ep ∧ es.size = kvs.length ∧
      ∀ (i : Nat) (k : NestedKey) (b : Addr) (v : V), kvs[i]? = some (k, b, v) → ∃ (en : DictEntry), es[i]? = some en ∧ en.key = .ref b ∧ RelV v en.val := by
  obtain ⟨hd, ⟨z, hs, us, o', es, ep, pr, ho, hx, hdt, he, _⟩, _⟩ := I.hok d _ h
  rw [hd] at ho
  cases ho
  have l1 : es.size = us.length := by
    have := congrArg List.length he
    simpa using this
  refine ⟨hs, hd, hx, es, ep, hdt, l1.trans (Paired.length pr).symm, fun i k b v e => ?_⟩
  obtain ⟨u, hu, e1, e2, e3⟩ := paired_at pr e
  have q : es.toList[i]? = some ⟨u.1.hash X.w, .ref u.2.1, u.2.2⟩ := by rw [he, List.getElem?_map, hu]; rfl
  refine ⟨⟨u.1.hash X.w, .ref u.2.1, u.2.2⟩, by rw [← Array.getElem?_toList]; exact q, ?_, e3⟩
  show Value.ref u.2.1 = Value.ref b
  rw [← e2]
/-- the keys of a locked dict of tuple keys: their own tuples -/
def Itn (w : World) (d : Addr) (o : Obj) (kvs : List (NestedKey × Addr × V)) : It :=
  ⟨fun i H => H d = some (.frz o (dN w d kvs)) ∧ i < kvs.length, fun i H x H' => H' = H ∧ ∃ (k : NestedKey) (v : V) (q : Addr), kvs[i]? = some (k, q, v) ∧ x = .ref q, fun i H => H d = some (.frz o (dN w d kvs)) ∧ kvs.length ≤ i⟩
theorem turn_keysN {P : Program} {w : World} {K : PySem.W.Frag} {tg : Expr} {es : Array DictEntry} {ep : Nat} {kvs : List (NestedKey × Addr × V)} (it : Addr) (hod : o.data = .dict es ep) : Turn P w K tg (Itn w d o kvs) [it] it (fun i h => h.IsKeyIter it d i kvs.length ep) where
  mem := by simp
  obj := fun i h st b hb => by
    have e : b = it := by simpa using hb
    subst e
    obtain ⟨oi, e, c, dd⟩ := st
    exact ⟨oi, e, fun v z => by rw [dd] at z; cases z⟩
  keep := fun i h h' st k => st.at fun oi e => k it (by simp) oi e
  item := by
    intro X hP hw hK hc i pins s σ H E I hf st hg
    subst hP hw hK
    obtain ⟨hd, hi⟩ := hg
    obtain ⟨f0, f1, f2, f3, f4, f5⟩ := hf it (by simp)
    obtain ⟨hs, hgd, hx, es', ep', hdt, hsz, ent⟩ := Inv.frzN I hd
    obtain ⟨rfl, rfl⟩ := dict_ep hod hdt
    obtain ⟨⟨k, b, v⟩, hkv⟩ : ∃ p, kvs[i]? = some p := ⟨kvs[i], List.getElem?_eq_getElem hi⟩
    obtain ⟨en, hen, hkey, _⟩ := ent i k b v hkv
    refine next_key_item st hgd hdt hsz hen fun h' st' sb => ?_
    have I1 : Inv X pins σ H { s with heap := h' } := I.turned (t' := s.toks) (fun b ob hb e => (sb.2 b hb).trans e) f0 f1 f3 f4 f5
    obtain ⟨oi, e, c, dd⟩ := id st'
    exact ⟨en.key, rfl, go_of (s := { s with heap := h' }) e c dd (by decide) ⟨.ref b, H, I1, hkey, ⟨rfl, k, v, b, hkv, rfl⟩, st', fun b hb => (hf b hb).1⟩⟩
  done := by
    intro X hP hw hK hc i pins s σ H E I hf st hg
    subst hP hw hK
    obtain ⟨hd, hi⟩ := hg
    obtain ⟨f0, f1, f2, f3, f4, f5⟩ := hf it (by simp)
    obtain ⟨hs, hgd, hx, es', ep', hdt, hsz, ent⟩ := Inv.frzN I hd
    obtain ⟨rfl, rfl⟩ := dict_ep hod hdt
    exact next_key_end (I.ok.hd hc) st hgd hdt hsz hi fun h' eb => ⟨rfl, I.turned (t' := s.toks) (fun b ob hb e => eb b ob hb e) f0 f1 f3 f4 f5⟩
  self := fun A i s Q E st h => by
    refine wpAny_pyIter_slot st.typeIs F.slot_dict_keyiterator_iter (wpAny_call_entry F.slot_dict_keyiterator_iter st.typeIs F.entry_dict_keyiterator_iter ?_ (F.args_dict_keyiterator_iter_1 _))
    show wpAny _ _ (ret (.ref it)) _ _ s
    exact wpAny_pure ⟨_, rfl, "dict_keyiterator", _, st.typeIs, F.slot_dict_keyiterator_next.lookup, h⟩
def iKeysA (w : World) (td : TE) : TI := fun σ H R => td σ H fun x H1 => ∃ d o, x = .ref d ∧ ((∃ kvs, H1 d = some (.frz o (.dK kvs)) ∧ R (Itk d o kvs) H1) ∨ ∃ kvs, H1 d = some (.frz o (dN w d kvs)) ∧ R (Itn w d o kvs) H1)
theorem pi_keysA (w : World) {tg e : Expr} {td : TE} (he : PE X e td) (hw : X.w = w := by rfl) : PI X tg e (iKeysA w td) := by
  subst hw
  refine ⟨fun pins s σ H R I h => ?_⟩
  refine thn (he.run pins s σ H _ I h) fun u s1 ⟨x, H1, I1, rx, d, o, ex, q⟩ => ?_
  subst ex
  obtain rfl : u = Value.ref d := rx
  rcases q with ⟨kvs, hd, q⟩ | ⟨kvs, hd, q⟩
  · obtain ⟨hs, hgd, hx, es, ep, vs, hdt, hsz, kv, hm⟩ := I1.frzK hd
    refine iter_keys hs hgd hx hdt (pi_one (tk := s1.toks) I1 _ (turn_keys _ hdt) ⟨_, Heap.get?_push_size _ rfl, rfl, ?_⟩ q)
    rw [hsz] <;> rfl
  · obtain ⟨hs, hgd, hx, es, ep, hdt, hsz, ent⟩ := Inv.frzN I1 hd
    refine iter_keys hs hgd hx hdt (pi_one (tk := s1.toks) I1 _ (turn_keysN _ hdt) ⟨_, Heap.get?_push_size _ rfl, rfl, ?_⟩ q)
    rw [hsz] <;> rfl
/-- a list, a tuple or a text is walked -/
def iSeq (K : PySem.W.Frag) (te : TE) : TI := fun σ H R => iList K te σ H R ∨ iTup K te σ H R ∨ iStr te σ H R
theorem pi_seq (K : PySem.W.Frag) {tg e : Expr} {te : TE} (he : PE X e te) (hK : X.K = K := by rfl) : PI X tg e (iSeq K te) := by
  subst hK
  exact PI.alt (pi_list he) (PI.alt (pi_tup he) (pi_str he))
end
/-! ### what they give -/
def yes : Ms → Prop := fun _ => True
def seqItm (x : Vl) (W : Ms) : Res Itm := match x with
  | .d (.lst l) => .ok ⟨l.map Vl.d, yes⟩ W
  | .d (.tup l) => .ok ⟨l.map Vl.d, yes⟩ W
  | .d (.tupK l) => .ok ⟨l.map Vl.d, yes⟩ W
  | .d (.str s) => .ok ⟨s.cps.toList.map fun c => Vl.d (.str ⟨#[c]⟩), yes⟩ W
  | .mu n => (match W[n]? with
    | some (.lst l) => .ok ⟨l, fun W => W[n]? = some (.lst l)⟩ W
    | _ => .stuck)
  | _ => .stuck
def iS (f : FE) : FI := fun ρ W => (f ρ W).bind seqItm
section
variable {K : Fr} {TB : List (Addr × Str)} {E : XK}
theorem SqL.uniq {Kf : PySem.W.Frag} {H : Hp} {a : Addr} {xs ys : List V} (h : H a = some (.lst xs)) (h2 : SqL Kf H a ys) (hk : Kf.lookup a = none) : ys = xs := by
  rcases h2 with (h2 | ⟨o, h2⟩) | ⟨o, its, n, h2, _⟩
  · rw [h] at h2; cases h2; rfl
  · rw [h] at h2; cases h2
  · rw [hk] at h2; cases h2
theorem it_lst {ws : List Addr} {G H : Hp} {a : Addr} {vs : List V} {l : List D} (e : G a = some (.lst vs)) (r : RpL K G vs l) : ItOk K TB ws G H (Itl K.K a) ⟨l.map Vl.d, yes⟩ := by
  intro ws2 G2 H2 W2 gg c _ i
  have s := gg.g
  have e2 := c.g _ _ (s _ _ e)
  have hs : SqL K.K H2 a vs := SqL.of e2
  refine ⟨fun h => ⟨vs, hs, by rw [r.len]; simpa using h⟩, fun x hx => ?_⟩
  rw [List.getElem?_map] at hx
  cases q : l[i]? with
  | none => rw [q] at hx; cases hx
  | some y =>
    rw [q] at hx
    cases hx
    obtain ⟨v, h1, h2⟩ := r.at q
    refine ⟨⟨vs, v, hs, h1⟩, fun u H3 hy => ?_⟩
    obtain ⟨rfl, hy⟩ := hy
    have := hy vs hs
    rw [h1] at this
    cases this
    exact ⟨G2, .refl, c, .d (h2.to (.of s))⟩
theorem it_tup {ws : List Addr} {G H : Hp} {a : Addr} {vs : List V} {l : List D} (e : SqT K.K G a vs) (r : RpL K G vs l) : ItOk K TB ws G H (Itt K.K a) ⟨l.map Vl.d, yes⟩ := by
  intro ws2 G2 H2 W2 gg c _ i
  have s := gg.g
  have hs : SqT K.K H2 a vs := (Rds.of (K := K) c.g).t _ _ ((Rds.of (K := K) s).t _ _ e)
  refine ⟨fun h => ⟨vs, hs, by rw [r.len]; simpa using h⟩, fun x hx => ?_⟩
  rw [List.getElem?_map] at hx
  cases q : l[i]? with
  | none => rw [q] at hx; cases hx
  | some y =>
    rw [q] at hx
    cases hx
    obtain ⟨v, h1, h2⟩ := r.at q
    refine ⟨⟨vs, v, hs, h1⟩, fun u H3 hy => ?_⟩
    obtain ⟨rfl, hy⟩ := hy
    have := hy vs hs
    rw [h1] at this
    cases this
    exact ⟨G2, .refl, c, .d (h2.to (.of s))⟩
theorem it_mu {ws : List Addr} {G H : Hp} {a : Addr} {n : Nat} {l : List Vl} (e : ws[n]? = some a) : ItOk K TB ws G H (Itl K.K a) ⟨l, fun W => W[n]? = some (.lst l)⟩ := by
  intro ws2 G2 H2 W2 gg c k i
  have s := gg.g
  have p := gg.p
  have e2 : ws2[n]? = some a := by
    obtain ⟨m, q⟩ := p
    rw [q, List.getElem?_append_left (List.getElem?_eq_some_iff.mp e).1]
    exact e
  obtain ⟨_, vs, hH, rv⟩ := c.ob n a _ e2 k (by simp)
  have hs : SqL K.K H2 a vs := SqL.of hH
  refine ⟨fun h => ⟨vs, hs, by rw [Paired.length rv]; exact h⟩, fun x hx => ?_⟩
  obtain ⟨v, h1, h2⟩ := Paired.at' rv hx
  refine ⟨⟨vs, v, hs, h1⟩, fun u H3 hy => ?_⟩
  obtain ⟨rfl, hy⟩ := hy
  have := hy vs hs
  rw [h1] at this
  cases this
  exact ⟨G2, .refl, c, h2⟩
theorem it_str {ws : List Addr} {G H : Hp} {z : Str} : ItOk K TB ws G H (Its z) ⟨z.cps.toList.map fun c => Vl.d (.str ⟨#[c]⟩), yes⟩ := by
  intro ws2 G2 H2 W2 gg c _ i
  have s := gg.g
  refine ⟨fun h => by simpa [Its] using h, fun x hx => ?_⟩
  rw [List.getElem?_map] at hx
  cases q : z.cps.toList[i]? with
  | none => rw [q] at hx; cases hx
  | some y =>
    rw [q] at hx
    cases hx
    have q' : z.cps[i]? = some y := by simpa using q
    refine ⟨(Array.getElem?_eq_some_iff.mp q').1, fun u H3 hy => ?_⟩
    obtain ⟨rfl, c2, h1, rfl⟩ := hy
    rw [q'] at h1
    cases h1
    exact ⟨G2, .refl, c, .d (.str _)⟩
theorem s_iS {te : TE} {f : FE} (h : SE K TB E te f) : SI K TB E (iSeq K.K te) (iS f) := fun σ ws G H ρ W R e c w => by
  unfold iS at w
  have go : ∀ Q' : VK, (∀ x W1, f ρ W = .ok x W1 → ∀ v ws1 G1 H1, Gr ws G H ws1 G1 H1 → Cf K TB ws1 G1 H1 W1 → RpV K ws1 G1 v x → Q' v H1) → te σ H Q' := fun Q' hq => by
    refine h σ ws G H ρ W Q' e c ?_
    cases q : f ρ W with
    | stuck => rw [q] at w; exact w.elim
    | exc C W1 => rw [q] at w; exact w
    | ok x W1 => exact fun v ws1 G1 H1 g c r => hq x W1 q v ws1 G1 H1 g c r
  cases q : f ρ W with
  | stuck => rw [q] at w; exact w.elim
  | exc C W1 => exact .inl (go _ fun x W2 q2 => by rw [q] at q2; cases q2)
  | ok x W1 =>
    rw [q, Res.bind_ok] at w
    cases x with
    | d x =>
      cases x with
      | lst l =>
        refine .inl (go _ fun x W2 q2 v ws1 G1 H1 g c1 r => ?_)
        rw [q] at q2
        cases q2
        cases r with
        | d r =>
        cases r with
        | lst e1 rl => exact ⟨_, rfl, ⟨_, SqL.of (c1.g _ _ e1)⟩, w _ _ _ _ g c1 (it_lst e1 rl)⟩
      | tup l =>
        refine .inr (.inl (go _ fun x W2 q2 v ws1 G1 H1 g c1 r => ?_))
        rw [q] at q2
        cases q2
        cases r with
        | d r =>
        cases r with
        | tup e1 rl => exact ⟨_, rfl, ⟨_, SqT.of (c1.g _ _ e1)⟩, w _ _ _ _ g c1 (it_tup (SqT.of e1) rl)⟩
      | tupK l =>
        refine .inr (.inl (go _ fun x W2 q2 v ws1 G1 H1 g c1 r => ?_))
        rw [q] at q2
        cases q2
        cases r with
        | d r =>
        cases r with
        | tupK e1 rl => exact ⟨_, rfl, ⟨_, (Rds.of (K := K) c1.g).t _ _ e1⟩, w _ _ _ _ g c1 (it_tup e1 rl)⟩
      | str z =>
        refine .inr (.inr (go _ fun x W2 q2 v ws1 G1 H1 g c1 r => ?_))
        rw [q] at q2
        cases q2
        cases r with
        | d r =>
        cases r
        exact ⟨_, rfl, w _ _ _ _ g c1 it_str⟩
      | _ => exact w.elim
    | mu n =>
      simp only [seqItm] at w
      cases q3 : W1[n]? with
      | none => rw [q3] at w; exact w.elim
      | some m =>
        rw [q3] at w
        cases m with
        | lst l =>
          refine .inl (go _ fun x W2 q2 v ws1 G1 H1 g c1 r => ?_)
          rw [q] at q2
          cases q2
          cases r with
          | mu e1 =>
          obtain ⟨_, vs, hH, _⟩ := c1.ob n _ _ e1 q3 (by simp)
          exact ⟨_, rfl, ⟨_, SqL.of hH⟩, w _ _ _ _ g c1 (it_mu e1)⟩
        | _ => exact w.elim
/-! ### ranges, enumerate, zip -/
noncomputable def iRg1 (fs : FA) : FI := fun ρ W => (fs ρ W).bind fun xs W1 => match xs with
  | [x] => (match intOf x with
    | some j => if -(2 ^ 62) ≤ j ∧ j < 2 ^ 62 then .ok ⟨(List.range j.toNat).map fun i => Vl.d (.int (0 + (i : Nat))), yes⟩ W1 else .stuck
    | none => .stuck)
  | _ => .stuck
noncomputable def iRg2 (fs : FA) : FI := fun ρ W => (fs ρ W).bind fun xs W1 => match xs with
  | [x, y] => (match intOf x, intOf y with
    | some i, some j => if (-(2 ^ 62) ≤ i ∧ i < 2 ^ 62) ∧ -(2 ^ 62) ≤ j ∧ j < 2 ^ 62 then .ok ⟨(List.range (j - i).toNat).map fun k => Vl.d (.int (i + (k : Nat))), yes⟩ W1 else .stuck
    | _, _ => .stuck)
  | _ => .stuck
theorem it_rng {ws : List Addr} {G H : Hp} {lo : Int} {n : Nat} : ItOk K TB ws G H (Itr lo n) ⟨(List.range n).map fun i => Vl.d (.int (lo + (i : Nat))), yes⟩ := by
  intro ws2 G2 H2 W2 gg c _ i
  have s := gg.g
  refine ⟨fun h => by simpa [Itr] using h, fun x hx => ?_⟩
  rw [List.getElem?_map] at hx
  cases q : (List.range n)[i]? with
  | none => rw [q] at hx; cases hx
  | some y =>
    rw [q] at hx
    cases hx
    obtain ⟨h1, h2⟩ := List.getElem?_eq_some_iff.mp q
    rw [List.length_range] at h1
    rw [List.getElem_range] at h2
    subst h2
    refine ⟨h1, fun u H3 hy => ?_⟩
    obtain ⟨rfl, rfl⟩ := hy
    exact ⟨G2, .refl, c, .d (.int _)⟩
theorem one_of {ws : List Addr} {G : Hp} {vs : List V} {x : Vl} (r : RpVs K ws G vs [x]) : ∃ v, vs = [v] ∧ RpV K ws G v x := by
  cases r with
  | cons h t => cases t; exact ⟨_, rfl, h⟩
theorem two_of {ws : List Addr} {G : Hp} {vs : List V} {x y : Vl} (r : RpVs K ws G vs [x, y]) : ∃ v u, vs = [v, u] ∧ RpV K ws G v x ∧ RpV K ws G u y := by
  cases r with
  | cons h t =>
    obtain ⟨u, rfl, h2⟩ := one_of t
    exact ⟨_, _, rfl, h, h2⟩
theorem s_iRg1 {t : TA} {fs : FA} (h : SA K TB E t fs) : SI K TB E (iRng1 t) (iRg1 fs) := fun σ ws G H ρ W R e c w =>
  h.go (R := ItOk K TB) e c w fun v x W1 ws1 G1 H1 g1 c1 r1 w1 => by
    match x, r1, w1 with
    | [], _, w1 => exact w1.elim
    | _ :: _ :: _, _, w1 => exact w1.elim
    | [x], r1, w1 =>
      obtain ⟨v, rfl, r⟩ := one_of r1
      cases q : intOf x with
      | none => simp only [q] at w1; exact w1.elim
      | some j =>
        simp only [q] at w1
        split at w1
        · rename_i hj
          obtain rfl := intOf_at r q
          exact ⟨j, rfl, hj.1, hj.2, w1 _ _ _ _ .refl c1 it_rng⟩
        · exact w1.elim
theorem s_iRg2 {t : TA} {fs : FA} (h : SA K TB E t fs) : SI K TB E (iRng2 t) (iRg2 fs) := fun σ ws G H ρ W R e c w =>
  h.go (R := ItOk K TB) e c w fun v x W1 ws1 G1 H1 g1 c1 r1 w1 => by
    match x, r1, w1 with
    | [], _, w1 => exact w1.elim
    | [_], _, w1 => exact w1.elim
    | _ :: _ :: _ :: _, _, w1 => exact w1.elim
    | [x, y], r1, w1 =>
      obtain ⟨v, u, rfl, r, r2⟩ := two_of r1
      cases q : intOf x with
      | none => simp only [q] at w1; exact w1.elim
      | some i =>
        cases q2 : intOf y with
        | none => simp only [q, q2] at w1; exact w1.elim
        | some j =>
          simp only [q, q2] at w1
          split at w1
          · rename_i hj
            obtain rfl := intOf_at r q
            obtain rfl := intOf_at r2 q2
            exact ⟨i, j, rfl, ⟨hj.1.1, hj.1.2, hj.2.1, hj.2.2⟩, w1 _ _ _ _ .refl c1 it_rng⟩
          · exact w1.elim
/-- (0, x), (1, y), .. -/
def enumL : Nat → List D → List Vl
  | _, [] => []
  | n, x :: l => .d (.tup [.int (n : Nat), x]) :: enumL (n + 1) l
theorem enumL_at : ∀ (l : List D) (n i : Nat), (enumL n l)[i]? = l[i]?.map fun x => Vl.d (.tup [.int ((n + i : Nat) : Int), x])
  | [], _, _ => by simp [enumL]
  | x :: l, n, 0 => by simp [enumL]
  | x :: l, n, i + 1 => by
    rw [enumL, List.getElem?_cons_succ, List.getElem?_cons_succ, enumL_at l (n + 1) i, show n + 1 + i = n + (i + 1) by omega]
theorem enumL_len : ∀ (l : List D) (n : Nat), (enumL n l).length = l.length
  | [], _ => rfl
  | x :: l, n => by rw [enumL, List.length_cons, List.length_cons, enumL_len l]
def iEn (fs : FA) : FI := fun ρ W => (fs ρ W).bind fun xs W1 => match xs with
  | [.d (.lst l)] => .ok ⟨enumL 0 l, yes⟩ W1
  | [.d (.tup l)] => .ok ⟨enumL 0 l, yes⟩ W1
  | _ => .stuck
def iEnumA (K : PySem.W.Frag) (t : TA) : TI := fun σ H R => iEnum K t σ H R ∨ iEnumT K t σ H R
theorem new_tup {ws : List Addr} {G H : Hp} {W : Ms} {p : Addr} {vs : List V} {l : List D} (c : Cf K TB ws G H W) (hp : H p = none) (r : RpL K G vs l) : ∃ G3, Gr ws G H ws G3 (upd H p (.tup vs)) ∧ Cf K TB ws G3 (upd H p (.tup vs)) W ∧ RpV K ws G3 (.ref p) (.d (.tup l)) :=
  ⟨_, Gr.new c hp, c.new hp, .d (.tup upd_same (r.to (.of (same_upd (c.gn hp)))))⟩
theorem it_enum {ws : List Addr} {G H : Hp} {a : Addr} {vs : List V} {l : List D} (e : G a = some (.lst vs)) (r : RpL K G vs l) : ItOk K TB ws G H (Ite K.K a) ⟨enumL 0 l, yes⟩ := by
  intro ws2 G2 H2 W2 gg c _ i
  have s := gg.g
  have hs : SqL K.K H2 a vs := SqL.of (c.g _ _ (s _ _ e))
  refine ⟨fun h => ⟨vs, hs, by rw [r.len]; simpa [enumL_len] using h⟩, fun x hx => ?_⟩
  rw [enumL_at] at hx
  cases q : l[i]? with
  | none => rw [q] at hx; cases hx
  | some y =>
    rw [q] at hx
    cases hx
    obtain ⟨v, h1, h2⟩ := r.at q
    refine ⟨⟨vs, v, hs, h1⟩, fun u H3 hy => ?_⟩
    obtain ⟨T, x, rfl, hT, rfl, hy⟩ := hy
    have := hy vs hs
    rw [h1] at this
    cases this
    rw [Nat.zero_add]
    exact new_tup c hT (.cons (.int _) (.cons (h2.to (.of s)) .nil))
theorem it_enumT {ws : List Addr} {G H : Hp} {a : Addr} {vs : List V} {l : List D} (e : G a = some (.tup vs)) (r : RpL K G vs l) : ItOk K TB ws G H (IteT K.K a) ⟨enumL 0 l, yes⟩ := by
  intro ws2 G2 H2 W2 gg c _ i
  have s := gg.g
  have hs : SqT K.K H2 a vs := SqT.of (c.g _ _ (s _ _ e))
  refine ⟨fun h => ⟨vs, hs, by rw [r.len]; simpa [enumL_len] using h⟩, fun x hx => ?_⟩
  rw [enumL_at] at hx
  cases q : l[i]? with
  | none => rw [q] at hx; cases hx
  | some y =>
    rw [q] at hx
    cases hx
    obtain ⟨v, h1, h2⟩ := r.at q
    refine ⟨⟨vs, v, hs, h1⟩, fun u H3 hy => ?_⟩
    obtain ⟨T, x, rfl, hT, rfl, hy⟩ := hy
    have := hy vs hs
    rw [h1] at this
    cases this
    rw [Nat.zero_add]
    exact new_tup c hT (.cons (.int _) (.cons (h2.to (.of s)) .nil))
/-- as Snd.go, what comes known -/
theorem Snd.gk {α β : Type} {R : List Addr → Hp → Hp → β → α → Prop} {t : L2.St → Hp → (β → Hp → Prop) → Prop} {f : Ev → Ms → Res α} {σ : L2.St} {ρ : Ev} {W W1 : Ms} {x : α} {ws : List Addr} {G H : Hp} {Q' : β → Hp → Prop} (h : Snd K TB R E t f) (e : EnvR K ws G σ ρ) (c : Cf K TB ws G H W)
    (q : f ρ W = .ok x W1) (nx : ∀ b ws1 G1 H1, Gr ws G H ws1 G1 H1 → Cf K TB ws1 G1 H1 W1 → R ws1 G1 H1 b x → Q' b H1) : t σ H Q' := by
  refine h σ ws G H ρ W Q' e c ?_
  rw [q]
  exact nx
theorem Snd.gx {α β α' β' : Type} {R : List Addr → Hp → Hp → β → α → Prop} {R' : List Addr → Hp → Hp → β' → α' → Prop} {t : L2.St → Hp → (β → Hp → Prop) → Prop} {f : Ev → Ms → Res α} {σ : L2.St} {ρ : Ev} {W W1 : Ms} {C : Addr} {ws : List Addr} {G H : Hp} {Q' : β → Hp → Prop} {Q : β' → Hp → Prop} (h : Snd K TB R E t f) (e : EnvR K ws G σ ρ) (c : Cf K TB ws G H W)
    (q : f ρ W = .exc C W1) (w : Wish K TB R' E ws G H Q (.exc C W1 : Res α')) : t σ H Q' := by
  refine h σ ws G H ρ W Q' e c ?_
  rw [q]
  exact w
theorem s_iEn {t : TA} {fs : FA} (h : SA K TB E t fs) : SI K TB E (iEnumA K.K t) (iEn fs) := fun σ ws G H ρ W R e c w => by
  unfold iEn at w
  cases q : fs ρ W with
  | stuck => rw [q] at w; exact w.elim
  | exc C W1 => rw [q] at w; exact .inl (h.gx (R' := ItOk K TB) e c q w)
  | ok x W1 =>
    rw [q, Res.bind_ok] at w
    split at w
    · refine .inl (h.gk e c q fun b ws1 G1 H1 g c1 r => ?_)
      obtain ⟨v, rfl, r1⟩ := one_of r
      cases r1 with
      | d r2 =>
      cases r2 with
      | lst e1 rl => exact ⟨_, _, rfl, SqL.of (c1.g _ _ e1), w _ _ _ _ g c1 (it_enum e1 rl)⟩
    · refine .inr (h.gk e c q fun b ws1 G1 H1 g c1 r => ?_)
      obtain ⟨v, rfl, r1⟩ := one_of r
      cases r1 with
      | d r2 =>
      cases r2 with
      | tup e1 rl => exact ⟨_, _, rfl, SqT.of (c1.g _ _ e1), w _ _ _ _ g c1 (it_enumT e1 rl)⟩
    · exact w.elim
/-- (x, u), (y, v), .. -/
def zipL : List D → List D → List Vl
  | x :: l, y :: m => .d (.tup [x, y]) :: zipL l m
  | _, _ => []
theorem zipL_at : ∀ (l m : List D) (i : Nat), (zipL l m)[i]? = (l[i]?).bind fun x => (m[i]?).map fun y => Vl.d (.tup [x, y])
  | [], _, _ => by simp [zipL]
  | x :: l, [], i => by
    cases h : (x :: l)[i]? <;> simp [zipL]
  | x :: l, y :: m, 0 => by simp [zipL]
  | x :: l, y :: m, i + 1 => by
    rw [zipL, List.getElem?_cons_succ, zipL_at l m i, List.getElem?_cons_succ, List.getElem?_cons_succ]
theorem zipL_len : ∀ (l m : List D), (zipL l m).length = min l.length m.length
  | [], m => by simp [zipL]
  | _ :: _, [] => by simp [zipL]
  | x :: l, y :: m => by simp [zipL, zipL_len l m]
def iZp (fs : FA) : FI := fun ρ W => (fs ρ W).bind fun xs W1 => match xs with
  | [.d (.lst l), .d (.lst m)] => .ok ⟨zipL l m, yes⟩ W1
  | [.d (.tup l), .d (.tup m)] => .ok ⟨zipL l m, yes⟩ W1
  | _ => .stuck
theorem it_zip {ws : List Addr} {G H : Hp} {a b : Addr} {vs us : List V} {l m : List D} (e : G a = some (.lst vs)) (r : RpL K G vs l) (e2 : G b = some (.lst us)) (r2 : RpL K G us m) : ItOk K TB ws G H (Itz K.K a b) ⟨zipL l m, yes⟩ := by
  intro ws2 G2 H2 W2 gg c _ i
  have s := gg.g
  have hs : SqL K.K H2 a vs := SqL.of (c.g _ _ (s _ _ e))
  have hs2 : SqL K.K H2 b us := SqL.of (c.g _ _ (s _ _ e2))
  refine ⟨fun h => ⟨vs, us, hs, hs2, by rw [r.len, r2.len]; rw [zipL_len] at h; omega⟩, fun x hx => ?_⟩
  rw [zipL_at] at hx
  cases q : l[i]? with
  | none => rw [q] at hx; cases hx
  | some y =>
    cases q2 : m[i]? with
    | none => rw [q, q2] at hx; cases hx
    | some z =>
      rw [q, q2] at hx
      cases hx
      obtain ⟨v, h1, h2⟩ := r.at q
      obtain ⟨u, h3, h4⟩ := r2.at q2
      refine ⟨⟨vs, us, v, u, hs, hs2, h1, h3⟩, fun w H3 hy => ?_⟩
      obtain ⟨T, x, y, rfl, hT, rfl, hy, hy2⟩ := hy
      have k1 := hy vs hs
      have k2 := hy2 us hs2
      rw [h1] at k1
      rw [h3] at k2
      cases k1
      cases k2
      exact new_tup c hT (.cons (h2.to (.of s)) (.cons (h4.to (.of s)) .nil))
theorem it_zipT {ws : List Addr} {G H : Hp} {a b : Addr} {vs us : List V} {l m : List D} (e : G a = some (.tup vs)) (r : RpL K G vs l) (e2 : G b = some (.tup us)) (r2 : RpL K G us m) : ItOk K TB ws G H (RZ.ItzT K.K a b) ⟨zipL l m, yes⟩ := by
  intro ws2 G2 H2 W2 gg c _ i
  have s := gg.g
  have hs : SqT K.K H2 a vs := SqT.of (c.g _ _ (s _ _ e))
  have hs2 : SqT K.K H2 b us := SqT.of (c.g _ _ (s _ _ e2))
  refine ⟨fun h => ⟨vs, us, hs, hs2, by rw [r.len, r2.len]; rw [zipL_len] at h; omega⟩, fun x hx => ?_⟩
  rw [zipL_at] at hx
  cases q : l[i]? with
  | none => rw [q] at hx; cases hx
  | some y =>
    cases q2 : m[i]? with
    | none => rw [q, q2] at hx; cases hx
    | some z =>
      rw [q, q2] at hx
      cases hx
      obtain ⟨v, h1, h2⟩ := r.at q
      obtain ⟨u, h3, h4⟩ := r2.at q2
      refine ⟨⟨vs, us, v, u, hs, hs2, h1, h3⟩, fun w H3 hy => ?_⟩
      obtain ⟨T, x, y, rfl, hT, rfl, hy, hy2⟩ := hy
      have k1 := hy vs hs
      have k2 := hy2 us hs2
      rw [h1] at k1
      rw [h3] at k2
      cases k1
      cases k2
      exact new_tup c hT (.cons (h2.to (.of s)) (.cons (h4.to (.of s)) .nil))
theorem s_iZp {t : TA} {fs : FA} (h : SA K TB E t fs) : SI K TB E (RZ.iZipA K.K t) (iZp fs) := fun σ ws G H ρ W R e c w => by
  unfold iZp at w
  cases q : fs ρ W with
  | stuck => rw [q] at w; exact w.elim
  | exc C W1 => rw [q] at w; exact h.gx (R' := ItOk K TB) e c q w
  | ok x W1 =>
    rw [q, Res.bind_ok] at w
    split at w
    · refine h.gk e c q fun b ws1 G1 H1 g c1 r => ?_
      obtain ⟨v, u, rfl, r1, r2⟩ := two_of r
      cases r1 with
      | d r1 =>
      cases r2 with
      | d r2 =>
      cases r1 with
      | lst e1 rl =>
      cases r2 with
      | lst e2 rl2 => exact ⟨_, _, _, _, rfl, .inl ⟨SqL.of (c1.g _ _ e1), SqL.of (c1.g _ _ e2), w _ _ _ _ g c1 (it_zip e1 rl e2 rl2)⟩⟩
    · refine h.gk e c q fun b ws1 G1 H1 g c1 r => ?_
      obtain ⟨v, u, rfl, r1, r2⟩ := two_of r
      cases r1 with
      | d r1 =>
      cases r2 with
      | d r2 =>
      cases r1 with
      | tup e1 rl =>
      cases r2 with
      | tup e2 rl2 => exact ⟨_, _, _, _, rfl, .inr ⟨SqT.of (c1.g _ _ e1), SqT.of (c1.g _ _ e2), w _ _ _ _ g c1 (it_zipT e1 rl e2 rl2)⟩⟩
    · exact w.elim
end
end DL

set_option Elab.async false
set_option linter.all false
set_option maxRecDepth 100000
set_option maxHeartbeats 4000000
/-! ## dicts walked: locked from the walk's start to its end -/
namespace DL
open PySem PySem.Spec PyProof.Rows L2
def NoFrz (X : Cx) (d : Addr) : Prop := ∀ o' u', X.H_0 d ≠ some (.frz o' u')
/-- P holds of the heap, once all that was locked is unlocked -/
inductive Unl (Nf : Addr → Prop) (P : Hp → Prop) : Hp → Prop
  | here {H : Hp} : P H → Unl Nf P H
  | un {H : Hp} {d : Addr} {od : Obj} {u : HO} : H d = some (.frz od u) → Nf d → Unl Nf P (upd H d u) → Unl Nf P H
theorem Unl.inv {X : Cx} {pins : List (Addr × Obj)} {σ : L2.St} {s : Shared} {P : Hp → Prop} {H : Hp} (h : Unl (NoFrz X) P H) (I : Inv X pins σ H s) : ∃ H', Inv X pins σ H' s ∧ P H' ∧ ∀ a, H a = none → H' a = none := by
  induction h with
  | here p => exact ⟨_, I, p, fun _ h => h⟩
  | @un H d od u e n _ ih =>
    obtain ⟨H', I', p, k⟩ := ih (I.unlock e n)
    exact ⟨H', I', p, fun a ha => k a (by rw [upd_ne (fun z => by subst z; rw [ha] at e; cases e)]; exact ha)⟩
def tUnl (Nf : Addr → Prop) (t : TS) : TS := fun D σ H => t ⟨fun σ' H' => Unl Nf (D.nx σ') H', fun v H' => Unl Nf (D.rt v) H', fun σ' H' => Unl Nf (D.bk σ') H', fun σ' H' => Unl Nf (D.ct σ') H'⟩ σ H
def tUnlE (Nf : Addr → Prop) (t : TE) : TE := fun σ H Q => t σ H fun v H' => Unl Nf (Q v) H'
def UE (Nf : Addr → Prop) (E : XK) : XK := fun c d H => Unl Nf (E c d) H
section
variable {X : Cx}
theorem ps_unl {st : Stmt} {t : TS} (h : PS X st t) : PS X st (tUnl (NoFrz X) t) := by
  refine ⟨fun pins s σ H D I hw => ?_⟩
  refine thn (h.run pins s σ _ _ I hw) fun f s1 q => ?_
  cases f with
  | next =>
    obtain ⟨σ', H', I2, q⟩ := q
    obtain ⟨H3, I3, p, _⟩ := q.inv I2
    exact ⟨σ', H3, I3, p⟩
  | brk =>
    obtain ⟨σ', H', I2, q⟩ := q
    obtain ⟨H3, I3, p, _⟩ := q.inv I2
    exact ⟨σ', H3, I3, p⟩
  | cont =>
    obtain ⟨σ', H', I2, q⟩ := q
    obtain ⟨H3, I3, p, _⟩ := q.inv I2
    exact ⟨σ', H3, I3, p⟩
  | ret v =>
    obtain ⟨x, σ', H', I2, r, q⟩ := q
    obtain ⟨H3, I3, p, _⟩ := q.inv I2
    exact ⟨x, σ', H3, I3, r, p⟩
theorem pe_unl {e : Expr} {t : TE} (h : PE X e t) : PE X e (tUnlE (NoFrz X) t) := by
  refine ⟨fun pins s σ H Q I hw => ?_⟩
  refine thn (h.run pins s σ _ _ I hw) fun v s1 ⟨x, H1, I2, r, q⟩ => ?_
  obtain ⟨H3, I3, p, _⟩ := q.inv I2
  exact ⟨x, H3, I3, r, p⟩
theorem takes_unl {E : XK} (tk : Takes X (fun c d _ H => E c d H)) : Takes X (fun c d _ H => UE (NoFrz X) E c d H) := fun u s' ⟨a, B, sI, pins, σ, H, cls, d, e, I, nb, up, sky, na, os, ag, w⟩ => by
  obtain ⟨H3, I3, p, k⟩ := Unl.inv w I
  exact tk u s' ⟨a, B, sI, pins, σ, H3, cls, d, e, I3, nb, up, sky, k a na, os, ag, p⟩
def iKeysL (w : World) (Nf : Addr → Prop) (td : TE) : TI := fun σ H R => td σ H fun x H1 => ∃ d, x = .ref d ∧
  ((∃ kvs, H1 d = some (.dK kvs) ∧ ∀ od, Nf d → R (Itk d od kvs) (upd H1 d (.frz od (.dK kvs)))) ∨ (∃ kvs, H1 d = some (dN w d kvs) ∧ ∀ od, Nf d → R (Itn w d od kvs) (upd H1 d (.frz od (dN w d kvs)))) ∨
   (∃ od kvs, H1 d = some (.frz od (.dK kvs)) ∧ R (Itk d od kvs) H1) ∨ ∃ od kvs, H1 d = some (.frz od (dN w d kvs)) ∧ R (Itn w d od kvs) H1)
theorem pi_keysL (w : World) {tg e : Expr} {td : TE} (he : PE X e td) (hw : X.w = w := by rfl) : PI X tg e (iKeysL w (NoFrz X) td) := by
  subst hw
  refine ⟨fun pins s σ H R I h => ?_⟩
  refine thn (he.run pins s σ H _ I h) fun u s1 ⟨x, H1, I1, rx, d, ex, q⟩ => ?_
  subst ex
  obtain rfl : u = Value.ref d := rx
  have k1 : ∀ {H2 : Hp} (od : Obj) (kvs : List (Key × V)), Inv X pins σ H2 s1 → H2 d = some (.frz od (.dK kvs)) → R (Itk d od kvs) H2 → wpAny (model X.prog X.w) X.A (pyIter (.ref d)) (PIE X pins σ tg R) X.xe s1 := fun od kvs I1 hd q => by
    obtain ⟨hs, hgd, hx, es, ep, vs, hdt, hsz, kv, hm⟩ := I1.frzK hd
    refine iter_keys hs hgd hx hdt (pi_one (tk := s1.toks) I1 _ (turn_keys _ hdt) ⟨_, Heap.get?_push_size _ rfl, rfl, ?_⟩ q)
    rw [hsz] <;> rfl
  have k2 : ∀ {H2 : Hp} (od : Obj) (kvs : List (NestedKey × Addr × V)), Inv X pins σ H2 s1 → H2 d = some (.frz od (dN X.w d kvs)) → R (Itn X.w d od kvs) H2 → wpAny (model X.prog X.w) X.A (pyIter (.ref d)) (PIE X pins σ tg R) X.xe s1 := fun od kvs I1 hd q => by
    obtain ⟨hs, hgd, hx, es, ep, hdt, hsz, ent⟩ := Inv.frzN I1 hd
    refine iter_keys hs hgd hx hdt (pi_one (tk := s1.toks) I1 _ (turn_keysN _ hdt) ⟨_, Heap.get?_push_size _ rfl, rfl, ?_⟩ q)
    rw [hsz] <;> rfl
  rcases q with ⟨kvs, hd, q⟩ | ⟨kvs, hd, q⟩ | ⟨od, kvs, hd, q⟩ | ⟨od, kvs, hd, q⟩
  · obtain ⟨od, I2⟩ := I1.lock hd True.intro
    exact k1 od kvs I2 upd_same (q od (I1.nofrz hd True.intro))
  · obtain ⟨od, I2⟩ := I1.lock hd True.intro
    exact k2 od kvs I2 upd_same (q od (I1.nofrz hd True.intro))
  · exact k1 od kvs I1 hd q
  · exact k2 od kvs I1 hd q
end
/-! ### what it gives -/
section
variable {K : Fr} {TB : List (Addr × Str)} {E : XK} {Nf : Addr → Prop}
def UnlC (Nf : Addr → Prop) (E : XK) : Prop := ∀ (c : Value) (dx : Option Addr) (H : Hp) (d : Addr) (od : Obj) (u : HO), H d = some (.frz od u) → Nf d → E c dx (upd H d u) → E c dx H
theorem ue_c {E : XK} : UnlC Nf (UE Nf E) := fun c dx H d od u e n h => .un e n h
theorem e0_c : UnlC Nf E0 := fun c dx H d od u e n h => h
def isDct : HO → Prop := fun u => (∃ kvs, u = .dK kvs) ∨ ∃ w a xs, u = dN w a xs
theorem isDct.plain {u : HO} (h : isDct u) : Plain u := by
  rcases h with ⟨kvs, rfl⟩ | ⟨w, a, xs, rfl⟩
  · exact plain_dK
  · exact plain_dN
/-- reading does not mind a lock -/
theorem rds_lock {G : Hp} {d : Addr} {od : Obj} {u : HO} (hu : isDct u) (e : G d = some u) : Rds K G (upd G d (.frz od u)) := by
  have ne : ∀ a o, G a = some o → ¬ isDct o → a ≠ d := fun a o h hn z => by
    subst z; rw [e] at h; cases h; exact hn hu
  have nf : ∀ a o o', G a = some (.frz o o') → a ≠ d := fun a o o' h => ne a _ h (by rintro (⟨k, z⟩ | ⟨w, b, k, z⟩) <;> cases z)
  refine ⟨fun a vs h => ?_, fun a vs h => ?_, fun a vs h => ?_, fun a vs h => ?_, fun a kvs h => ?_, fun w a kvs h => ?_, fun a C dx fs h => ?_⟩
  · rcases h with (h | ⟨o, h⟩) | h
    · exact .inl (.inl (by rw [upd_ne (ne a _ h (by rintro (⟨k, z⟩ | ⟨w, b, k, z⟩) <;> cases z))]; exact h))
    · exact .inl (.inr ⟨o, by rw [upd_ne (nf a _ _ h)]; exact h⟩)
    · exact .inr h
  · rcases h with (h | ⟨o, h⟩) | h
    · exact .inl (.inl (by rw [upd_ne (ne a _ h (by rintro (⟨k, z⟩ | ⟨w, b, k, z⟩) <;> cases z))]; exact h))
    · exact .inl (.inr ⟨o, by rw [upd_ne (nf a _ _ h)]; exact h⟩)
    · exact .inr h
  · rw [upd_ne (ne a _ h (by rintro (⟨k, z⟩ | ⟨w, b, k, z⟩) <;> cases z))]; exact h
  · rw [upd_ne (ne a _ h (by rintro (⟨k, z⟩ | ⟨w, b, k, z⟩) <;> cases z))]; exact h
  · by_cases q : a = d
    · subst q
      rcases h with h | ⟨o, h⟩
      · rw [e] at h; cases h; exact .inr ⟨od, upd_same⟩
      · exact absurd rfl (nf a _ _ h)
    · exact h.elim (fun h => .inl (by rw [upd_ne q]; exact h)) fun ⟨o, h⟩ => .inr ⟨o, by rw [upd_ne q]; exact h⟩
  · by_cases q : a = d
    · subst q
      rcases h with h | ⟨o, h⟩
      · rw [e] at h; cases h; exact .inr ⟨od, upd_same⟩
      · exact absurd rfl (nf a _ _ h)
    · exact h.elim (fun h => .inl (by rw [upd_ne q]; exact h)) fun ⟨o, h⟩ => .inr ⟨o, by rw [upd_ne q]; exact h⟩
  · rw [upd_ne (ne a _ h (by rintro (⟨k, z⟩ | ⟨w, b, k, z⟩) <;> cases z))]; exact h
theorem rds_unlock {G : Hp} {d : Addr} {od : Obj} {u : HO} (hu : isDct u) (e : G d = some (.frz od u)) : Rds K G (upd G d u) := by
  have ne : ∀ a o, G a = some o → (∀ o' u', o ≠ .frz o' u') → a ≠ d := fun a o h hn z => by
    subst z; rw [e] at h; cases h; exact hn _ _ rfl
  have rd : ∀ a x, isDct x → Rd G a x → Rd (upd G d u) a x := fun a x hx h => by
    by_cases q : a = d
    · subst q
      rcases h with h | ⟨o, h⟩
      · rw [e] at h
        cases h
        rcases hx with ⟨k, z⟩ | ⟨w, b, k, z⟩ <;> cases z
      · rw [e] at h; cases h; exact .inl upd_same
    · exact h.elim (fun h => .inl (by rw [upd_ne q]; exact h)) fun ⟨o, h⟩ => .inr ⟨o, by rw [upd_ne q]; exact h⟩
  refine ⟨fun a vs h => ?_, fun a vs h => ?_, fun a vs h => ?_, fun a vs h => ?_, fun a kvs h => rd a _ (.inl ⟨_, rfl⟩) h, fun w a kvs h => rd a _ (.inr ⟨_, _, _, rfl⟩) h, fun a C dx fs h => ?_⟩
  · rcases h with (h | ⟨o, h⟩) | h
    · exact .inl (.inl (by rw [upd_ne (ne a _ h fun _ _ z => (nomatch z))]; exact h))
    · refine .inl (.inr ⟨o, ?_⟩)
      have q : a ≠ d := fun z => by
        subst z
        rw [e] at h
        cases h
        rcases hu with ⟨k, z⟩ | ⟨w, b, k, z⟩ <;> cases z
      rw [upd_ne q]; exact h
    · exact .inr h
  · rcases h with (h | ⟨o, h⟩) | h
    · exact .inl (.inl (by rw [upd_ne (ne a _ h fun _ _ z => (nomatch z))]; exact h))
    · refine .inl (.inr ⟨o, ?_⟩)
      have q : a ≠ d := fun z => by
        subst z
        rw [e] at h
        cases h
        rcases hu with ⟨k, z⟩ | ⟨w, b, k, z⟩ <;> cases z
      rw [upd_ne q]; exact h
    · exact .inr h
  · rw [upd_ne (ne a _ h fun _ _ z => (nomatch z))]; exact h
  · rw [upd_ne (ne a _ h fun _ _ z => (nomatch z))]; exact h
  · rw [upd_ne (ne a _ h fun _ _ z => (nomatch z))]; exact h
variable {ws ws' : List Addr} {G G' H H' : Hp} {W W' : Ms} {d : Addr} {od : Obj} {u : HO}
theorem Cf.lock (c : Cf K TB ws G H W) (hu : isDct u) (e : G d = some u) : Cf K TB ws (upd G d (.frz od u)) (upd H d (.frz od u)) W where
  g := fun b x q => by
    by_cases z : b = d
    · subst z; rw [upd_same] at q ⊢; exact q
    · rw [upd_ne z] at q ⊢; exact c.g b x q
  len := c.len
  nd := c.nd
  nt := fun b ps q => by
    by_cases z : b = d
    · subst z; rw [upd_same] at q; cases q
    · rw [upd_ne z] at q; exact c.nt b ps q
  dm := fun b hb => by
    by_cases z : b = d
    · subst z; rw [upd_same]; exact ⟨_, rfl, fun _ z => nomatch z⟩
    · rw [upd_ne z]; exact c.dm b hb
  ob := fun n a m e1 e2 hm => by
    obtain ⟨h1, h2⟩ := c.ob n a m e1 e2 hm
    have ne : a ≠ d := fun z => by subst z; rw [e] at h1; cases h1
    exact ⟨by rw [upd_ne ne]; exact h1, h2.to (fun v x r => r.to (rds_lock hu e) fun _ _ z => z) (upd_ne ne)⟩
  tb := fun q hq => by
    obtain ⟨ps, h1, h2, h3⟩ := c.tb q hq
    have pu := hu.plain
    have eu := c.g _ _ e
    refine ⟨ps, by rw [upd_ne (fun z => by rw [z, eu] at h1; exact pu.1 _ (Option.some.inj h1))]; exact h1, h2, fun pos cv hc => ?_⟩
    obtain ⟨x, e1, e2⟩ := h3 pos cv hc
    exact ⟨x, e1, by rw [upd_ne (fun z => by rw [z, eu] at e2; exact pu.2.1 _ _ (Option.some.inj e2))]; exact e2⟩
theorem Cf.unlock (c : Cf K TB ws G H W) (hu : isDct u) (e : G d = some (.frz od u)) : Cf K TB ws (upd G d u) (upd H d u) W where
  g := fun b x q => by
    by_cases z : b = d
    · subst z; rw [upd_same] at q ⊢; exact q
    · rw [upd_ne z] at q ⊢; exact c.g b x q
  len := c.len
  nd := c.nd
  nt := fun b ps q => by
    by_cases z : b = d
    · subst z; rw [upd_same] at q; exact hu.plain.1 ps (Option.some.inj q)
    · rw [upd_ne z] at q; exact c.nt b ps q
  dm := fun b hb => by
    by_cases z : b = d
    · subst z; rw [upd_same]; exact ⟨_, rfl, hu.plain.1⟩
    · rw [upd_ne z]; exact c.dm b hb
  ob := fun n a m e1 e2 hm => by
    obtain ⟨h1, h2⟩ := c.ob n a m e1 e2 hm
    have ne : a ≠ d := fun z => by subst z; rw [e] at h1; cases h1
    exact ⟨by rw [upd_ne ne]; exact h1, h2.to (fun v x r => r.to (rds_unlock hu e) fun _ _ z => z) (upd_ne ne)⟩
  tb := fun q hq => by
    obtain ⟨ps, h1, h2, h3⟩ := c.tb q hq
    have eu := c.g _ _ e
    refine ⟨ps, by rw [upd_ne (fun z => by rw [z, eu] at h1; cases h1)]; exact h1, h2, fun pos cv hc => ?_⟩
    obtain ⟨x, e1, e2⟩ := h3 pos cv hc
    exact ⟨x, e1, by rw [upd_ne (fun z => by rw [z, eu] at e2; cases e2)]; exact e2⟩
/-- from the lock to the unlocking -/
theorem Gr.unlock (g : Gr ws (upd G d (.frz od u)) (upd H d (.frz od u)) ws' G' H') (hu : isDct u) (c : Cf K TB ws G H W) (e : G d = some u) : Gr ws G H ws' (upd G' d u) (upd H' d u) where
  g := fun a o h => by
    by_cases z : a = d
    · subst z; rw [upd_same]; rw [e] at h; exact h
    · rw [upd_ne z]; exact g.g a o (by rw [upd_ne z]; exact h)
  p := g.p
  fr := fun a o h hw n => by
    by_cases z : a = d
    · subst z
      rw [c.g _ _ e] at h
      cases h
      exact upd_same
    · rw [upd_ne z]
      exact g.fr a o (by rw [upd_ne z]; exact h) hw n
  fz := fun a o' u' h => by
    have z : a ≠ d := fun z => by
      subst z
      rw [c.g _ _ e] at h
      rcases hu with ⟨k, q⟩ | ⟨w, b, k, q⟩ <;> (rw [q] at h; cases h)
    rw [upd_ne z]
    exact g.fz a o' u' (by rw [upd_ne z]; exact h)
  nw := fun a o ha n hw => by
    by_cases z : a = d
    · subst z; exact g.nw a _ upd_same (fun _ q => nomatch q) hw
    · exact g.nw a o (by rw [upd_ne z]; exact ha) n hw
  nf := fun a o h hg hw n => by
    have z : a ≠ d := fun z => by subst z; rw [e] at hg; cases hg
    rcases g.nf a o (by rw [upd_ne z]; exact h) (by rw [upd_ne z]; exact hg) hw n with k | k
    · exact .inl (by rw [upd_ne z]; exact k)
    · exact .inr k
theorem env_lock {σ : L2.St} {ρ : Ev} (e : EnvR K ws G σ ρ) (m : Rds K G G') : EnvR K ws G' σ ρ := Paired.imp (fun ov od h => by
  cases od with
  | none => trivial
  | some x =>
    obtain ⟨v, e, r⟩ := h
    exact ⟨v, e, r.to m fun _ _ z => z⟩) e
theorem vk_keys {kvs : List (Key × V)} {l : List (D × Vl)} (r : RpVK K ws G kvs l) : (l.map fun p => Vl.d p.1) = kvs.map fun p => Vl.d (kD p.1) := by
  induction r with
  | nil => rfl
  | cons h t ih => rw [List.map_cons, List.map_cons, ih, h.1]
theorem it_keysK {kvs : List (Key × V)} (hk : H d = some (.frz od (.dK kvs))) : ItOk K TB ws G H (Itk d od kvs) ⟨kvs.map fun p => Vl.d (kD p.1), yes⟩ := by
  intro ws2 G2 H2 W2 gg c k i
  have e2 := gg.fz _ _ _ hk
  refine ⟨fun h => ⟨e2, by simpa using h⟩, fun x hx => ?_⟩
  rw [List.getElem?_map] at hx
  cases q : kvs[i]? with
  | none => rw [q] at hx; cases hx
  | some y =>
    rw [q] at hx
    cases hx
    refine ⟨⟨e2, (List.getElem?_eq_some_iff.mp q).1⟩, fun v H3 hy => ?_⟩
    obtain ⟨rfl, k, z, q2, rfl⟩ := hy
    rw [q] at q2
    cases q2
    refine ⟨G2, .refl, c, .d ?_⟩
    cases k with
    | inl i => exact .int i
    | inr s => exact .str s
theorem it_keysN {kvs : List (NestedKey × Addr × V)} {l : List (D × Vl)} (r : RpVN K ws G kvs l) (hk : H d = some (.frz od (dN K.w d kvs))) : ItOk K TB ws G H (Itn K.w d od kvs) ⟨l.map fun p => Vl.d p.1, yes⟩ := by
  intro ws2 G2 H2 W2 gg c k i
  have e2 := gg.fz _ _ _ hk
  refine ⟨fun h => ⟨e2, by rw [Paired.length r]; simpa using h⟩, fun x hx => ?_⟩
  rw [List.getElem?_map] at hx
  cases q : l[i]? with
  | none => rw [q] at hx; cases hx
  | some y =>
    rw [q] at hx
    cases hx
    obtain ⟨a, h1, h2⟩ := Paired.at' r q
    refine ⟨⟨e2, (List.getElem?_eq_some_iff.mp h1).1⟩, fun v H3 hy => ?_⟩
    obtain ⟨rfl, k, z, b, q2, rfl⟩ := hy
    rw [h1] at q2
    cases q2
    exact ⟨G2, .refl, c, .d (h2.1.1.to (.of gg.g))⟩
def DnU (Nf : Addr → Prop) (D : Ends) : Ends := ⟨fun σ' H' => Unl Nf (D.nx σ') H', fun v H' => Unl Nf (D.rt v) H', fun σ' H' => Unl Nf (D.bk σ') H', fun σ' H' => Unl Nf (D.ct σ') H'⟩
theorem wishS_here {Dn : Ends} {r : Out} (w : WishS K TB E ws G H Dn r) : WishS K TB E ws G H (DnU Nf Dn) r := by
  cases r with
  | nx ρ W => exact fun σ ws' G' H' g c e => .here (w σ ws' G' H' g c e)
  | bk ρ W => exact fun σ ws' G' H' g c e => .here (w σ ws' G' H' g c e)
  | ct ρ W => exact fun σ ws' G' H' g c e => .here (w σ ws' G' H' g c e)
  | rt v W => exact fun v ws' G' H' g c e => .here (w v ws' G' H' g c e)
  | exc C W => exact w
  | stuck => exact w
theorem wishS_lock {Dn : Ends} {r : Out} (hE : UnlC Nf E) (hu : isDct u) (e : G d = some u) (hn : Nf d) (c : Cf K TB ws G H W) (w : WishS K TB E ws G H Dn r) : WishS K TB E ws (upd G d (.frz od u)) (upd H d (.frz od u)) (DnU Nf Dn) r := by
  cases r with
  | nx ρ W1 =>
    intro σ ws' G' H' g c' e'
    have k := g.g d _ upd_same
    exact .un (c'.g _ _ k) hn (.here (w σ ws' _ _ (g.unlock hu c e) (c'.unlock hu k) (env_lock e' (rds_unlock hu k))))
  | bk ρ W1 =>
    intro σ ws' G' H' g c' e'
    have k := g.g d _ upd_same
    exact .un (c'.g _ _ k) hn (.here (w σ ws' _ _ (g.unlock hu c e) (c'.unlock hu k) (env_lock e' (rds_unlock hu k))))
  | ct ρ W1 =>
    intro σ ws' G' H' g c' e'
    have k := g.g d _ upd_same
    exact .un (c'.g _ _ k) hn (.here (w σ ws' _ _ (g.unlock hu c e) (c'.unlock hu k) (env_lock e' (rds_unlock hu k))))
  | rt v W1 =>
    intro v ws' G' H' g c' r'
    have k := g.g d _ upd_same
    exact .un (c'.g _ _ k) hn (.here (w v ws' _ _ (g.unlock hu c e) (c'.unlock hu k) (r'.to (rds_unlock hu k) fun _ _ z => z)))
  | exc C W1 =>
    intro ws' G' H' g c'
    have k := g.g d _ upd_same
    exact hE _ _ _ _ _ _ (c'.g _ _ k) hn (w ws' _ _ (g.unlock hu c e) (c'.unlock hu k))
  | stuck => exact w
/-- the n-th, a dict, is locked while it is walked -/
def lkK (n : Nat) (l : List (D × Vl)) : Ms → Prop := fun W => W[n]? = some (.lk l)
open Classical in
noncomputable def unlk (n : Nat) (l : List (D × Vl)) : Out → Out
  | .nx ρ W => if lkK n l W then .nx ρ (W.set n (.dct l)) else .stuck
  | .bk ρ W => if lkK n l W then .bk ρ (W.set n (.dct l)) else .stuck
  | .ct ρ W => if lkK n l W then .ct ρ (W.set n (.dct l)) else .stuck
  | .rt v W => if lkK n l W then .rt v (W.set n (.dct l)) else .stuck
  | .exc C W => if lkK n l W then .exc C (W.set n (.dct l)) else .stuck
  | .stuck => .stuck
noncomputable def forK (fg : FG) (b : FS) (x : Vl) (ρ : Ev) (W : Ms) : Out := match x with
  | .d (.dct l) => forL yes fg b (l.map fun p => Vl.d p.1) ρ W
  | .mu n => (match W[n]? with
    | some (.dct l) => unlk n l (forL yes fg b (l.map fun p => Vl.d p.1) ρ (W.set n (.lk l)))
    | some (.lk l) => forL yes fg b (l.map fun p => Vl.d p.1) ρ W
    | _ => .stuck)
  | _ => .stuck
noncomputable def sForK (fe : FE) (fg : FG) (b : FS) : FS := fun ρ W => (fe ρ W).bindS fun x W1 => forK fg b x ρ W1
theorem lk_un {n : Nat} {a : Addr} {l : List (D × Vl)} (c : Cf K TB ws G H W) (ea : ws[n]? = some a) (h : lkK n l W) : ∃ ob u, isDct u ∧ H a = some (.frz ob u) ∧ Cf K TB ws G (upd H a u) (W.set n (.dct l)) := by
  obtain ⟨hg, hm⟩ := c.ob n a _ ea h (by simp)
  rcases hm with ⟨ob, kvs, e, r⟩ | ⟨ob, kvs, e, r, nl⟩
  · exact ⟨ob, .dK kvs, .inl ⟨_, rfl⟩, e, c.put ea h (by simp) (.inl ⟨kvs, upd_same, r⟩)⟩
  · exact ⟨ob, dN K.w a kvs, .inr ⟨_, _, _, rfl⟩, e, c.put ea h (by simp) (.inr ⟨kvs, upd_same, r, nl⟩)⟩
theorem Gr.unlkM {n : Nat} {a : Addr} {od : Obj} {u u' v : HO} (g : Gr ws G (upd H a (.frz od u)) ws' G' H') (ea : ws[n]? = some a) (e : H a = some v) (pv : Plain v ∧ ∀ o' u', v ≠ .frz o' u') : Gr ws G H ws' G' (upd H' a u') where
  g := g.g
  p := g.p
  fr := fun b o h hw n => by
    have z : b ≠ a := fun z => hw (z ▸ List.mem_of_getElem? ea)
    rw [upd_ne z]
    exact g.fr b o (by rw [upd_ne z]; exact h) hw n
  fz := fun b o' u' h => by
    have z : b ≠ a := fun z => by
      subst z
      rw [e] at h
      exact pv.2 _ _ (Option.some.inj h)
    rw [upd_ne z]
    exact g.fz b o' u' (by rw [upd_ne z]; exact h)
  nw := fun b o ha n hw => by
    have z : b ≠ a := fun z => hw (z ▸ List.mem_of_getElem? ea)
    exact g.nw b o (by rw [upd_ne z]; exact ha) n hw
  nf := fun b o h hg hw n => by
    have z : b ≠ a := fun z => hw (z ▸ List.mem_of_getElem? ea)
    exact g.nf b o (by rw [upd_ne z]; exact h) hg hw n
theorem wishS_lkM {Dn : Ends} {r : Out} {n : Nat} {a : Addr} {l : List (D × Vl)} {od : Obj} {u v : HO} (hE : UnlC Nf E) (hn : Nf a) (ea : ws[n]? = some a) (e : H a = some v) (pv : Plain v ∧ ∀ o' u', v ≠ .frz o' u') (w : WishS K TB E ws G H Dn (unlk n l r)) : WishS K TB E ws G (upd H a (.frz od u)) (DnU Nf Dn) r := by
  cases r with
  | nx ρ W1 =>
    intro σ ws' G' H' g c' e'
    simp only [unlk] at w
    split at w
    · rename_i h
      obtain ⟨ob, u, hu, k, c2⟩ := lk_un c' (g.at ea) h
      exact .un k hn (.here (w σ ws' _ _ (g.unlkM ea e pv) c2 e'))
    · exact w.elim
  | bk ρ W1 =>
    intro σ ws' G' H' g c' e'
    simp only [unlk] at w
    split at w
    · rename_i h
      obtain ⟨ob, u, hu, k, c2⟩ := lk_un c' (g.at ea) h
      exact .un k hn (.here (w σ ws' _ _ (g.unlkM ea e pv) c2 e'))
    · exact w.elim
  | ct ρ W1 =>
    intro σ ws' G' H' g c' e'
    simp only [unlk] at w
    split at w
    · rename_i h
      obtain ⟨ob, u, hu, k, c2⟩ := lk_un c' (g.at ea) h
      exact .un k hn (.here (w σ ws' _ _ (g.unlkM ea e pv) c2 e'))
    · exact w.elim
  | rt v W1 =>
    intro v' ws' G' H' g c' e'
    simp only [unlk] at w
    split at w
    · rename_i h
      obtain ⟨ob, u, hu, k, c2⟩ := lk_un c' (g.at ea) h
      exact .un k hn (.here (w v' ws' _ _ (g.unlkM ea e pv) c2 e'))
    · exact w.elim
  | exc C W1 =>
    intro ws' G' H' g c'
    simp only [unlk] at w
    split at w
    · rename_i h
      obtain ⟨ob, u, hu, k, c2⟩ := lk_un c' (g.at ea) h
      exact hE _ _ _ _ _ _ k hn (w ws' _ _ (g.unlkM ea e pv) c2)
    · exact w.elim
  | stuck => exact w
/-- the ways in which a dict is walked: what is asked of the walk -/
theorem walk_keys {R : It → Hp → Prop} {v : V} {x : Vl} (c : Cf K TB ws G H W) (r : RpV K ws G v x)
    (frozen : ∀ l, x = .d (.dct l) → (∀ J, ItOk K TB ws G H J ⟨l.map fun p => Vl.d p.1, yes⟩ → R J H) ∧ ∀ d od u, isDct u → G d = some u → Nf d → ∀ J, ItOk K TB ws (upd G d (.frz od u)) (upd H d (.frz od u)) J ⟨l.map fun p => Vl.d p.1, yes⟩ → R J (upd H d (.frz od u)))
    (mutd : ∀ n l, x = .mu n → W[n]? = some (.dct l) → ∀ a od u, ws[n]? = some a → Nf a → H a = some u → (Plain u ∧ ∀ o' u', u ≠ .frz o' u') → Cf K TB ws G (upd H a (.frz od u)) (W.set n (.lk l)) → ∀ J, ItOk K TB ws G (upd H a (.frz od u)) J ⟨l.map fun p => Vl.d p.1, yes⟩ → R J (upd H a (.frz od u)))
    (lkd : ∀ n l, x = .mu n → W[n]? = some (.lk l) → ∀ J, ItOk K TB ws G H J ⟨l.map fun p => Vl.d p.1, yes⟩ → R J H)
    (hx : (∃ l, x = .d (.dct l)) ∨ ∃ n l, x = .mu n ∧ (W[n]? = some (.dct l) ∨ W[n]? = some (.lk l))) :
    ∃ d, v = .ref d ∧
  ((∃ kvs, H d = some (.dK kvs) ∧ ∀ od, Nf d → R (Itk d od kvs) (upd H d (.frz od (.dK kvs)))) ∨ (∃ kvs, H d = some (dN K.w d kvs) ∧ ∀ od, Nf d → R (Itn K.w d od kvs) (upd H d (.frz od (dN K.w d kvs)))) ∨
   (∃ od kvs, H d = some (.frz od (.dK kvs)) ∧ R (Itk d od kvs) H) ∨ ∃ od kvs, H d = some (.frz od (dN K.w d kvs)) ∧ R (Itn K.w d od kvs) H) := by
  rcases hx with ⟨l, rfl⟩ | ⟨n, l, rfl, hW⟩
  · obtain ⟨f1, f2⟩ := frozen l rfl
    cases r with
    | d r =>
    cases r with
    | @dct d kvs _ e rk =>
      have ek : (l.map fun p => Vl.d p.1) = kvs.map fun p => Vl.d (kD p.1) := by
        have := vk_keys (rk.vk (ws := ws))
        rwa [List.map_map] at this
      refine ⟨d, rfl, ?_⟩
      rcases e with e | ⟨od, e⟩
      · refine .inl ⟨kvs, c.g _ _ e, fun od hn => f2 d od _ (.inl ⟨_, rfl⟩) e hn _ ?_⟩
        rw [ek]
        exact it_keysK upd_same
      · refine .inr (.inr (.inl ⟨od, kvs, c.g _ _ e, f1 _ ?_⟩))
        rw [ek]
        exact it_keysK (c.g _ _ e)
    | @dcN d kvs _ e nl rn =>
      have ek : (l.map fun p => Vl.d p.1) = (l.map fun p => (p.1, Vl.d p.2)).map fun p => Vl.d p.1 := by rw [List.map_map]; rfl
      refine ⟨d, rfl, ?_⟩
      rcases e with e | ⟨od, e⟩
      · refine .inr (.inl ⟨kvs, c.g _ _ e, fun od hn => f2 d od _ (.inr ⟨_, _, _, rfl⟩) e hn _ ?_⟩)
        rw [ek]
        exact it_keysN ((rn.to (rds_lock (.inr ⟨_, _, _, rfl⟩) e)).vn) upd_same
      · refine .inr (.inr (.inr ⟨od, kvs, c.g _ _ e, f1 _ ?_⟩))
        rw [ek]
        exact it_keysN rn.vn (c.g _ _ e)
  · cases r with
    | @mu a _ ea =>
    refine ⟨a, rfl, ?_⟩
    rcases hW with hW | hW
    · obtain ⟨hg, hm⟩ := c.ob n a _ ea hW (by simp)
      rcases hm with ⟨kvs, e, rk⟩ | ⟨kvs, e, rn, nl⟩
      · refine .inl ⟨kvs, e, fun od hn => mutd n l rfl hW a od _ ea hn e nf_dK (c.put ea hW (by simp) (.inl ⟨od, kvs, upd_same, rk⟩)) _ ?_⟩
        rw [vk_keys rk]
        exact it_keysK upd_same
      · exact .inr (.inl ⟨kvs, e, fun od hn => mutd n l rfl hW a od _ ea hn e nf_dN (c.put ea hW (by simp) (.inr ⟨od, kvs, upd_same, rn, nl⟩)) _ (it_keysN rn upd_same)⟩)
    · obtain ⟨hg, hm⟩ := c.ob n a _ ea hW (by simp)
      rcases hm with ⟨ob, kvs, e, rk⟩ | ⟨ob, kvs, e, rn, nl⟩
      · refine .inr (.inr (.inl ⟨ob, kvs, e, lkd n l rfl hW _ ?_⟩))
        rw [vk_keys rk]
        exact it_keysK e
      · exact .inr (.inr (.inr ⟨ob, kvs, e, lkd n l rfl hW _ (it_keysN rn e)⟩))
def forR (g : TG) (tb : TS) (D : Ends) (σ : L2.St) : It → Hp → Prop := fun J H1 => ∃ W : Nat → Nat → L2.St → Hp → Prop, (∃ m, W 0 m σ H1) ∧ ∀ i m σ H, W i m σ H →
  (J.stop i H ∧ D.nx σ H) ∨ (J.go i H ∧ ∃ N : L2.St → Hp → Prop, (∀ σ' H', N σ' H' → ∃ m', m' < m ∧ W (i + 1) m' σ' H') ∧ ∀ x H', J.yld i H x H' → g x σ H' fun σ2 H2 => tb { D with nx := N, ct := N, bk := D.nx } σ2 H2)
theorem s_forK {td : TE} {fe : FE} {g : TG} {tb : TS} {fg : FG} {b : FS} {vs : List Nat} (hE : UnlC Nf E) (h : SE K TB E td fe) (hg : SG K TB vs g fg) (hb : SS K TB E tb b) : SS K TB E (tUnl Nf (tFor (iKeysL K.w Nf td) g tb)) (sForK fe fg b) := fun σ ws G H ρ W Dn e c w =>
  h.goS (Dn := Dn) e c w fun v x W1 ws1 G1 H1 g1 c1 r1 w1 => by
    have e1 := e.up g1
    refine walk_keys (R := forR g tb (DnU Nf Dn) σ) c1 r1 (fun l hl => ⟨fun J ok => ?_, fun d od u hu eu hn J ok => ?_⟩) (fun n l hl hW a od u ea hn eu pu c2 J ok => ?_) (fun n l hl hW J ok => ?_) ?_
    · subst hl
      exact for_core (Dn := DnU Nf Dn) hg hb ok c1 e1 (wishS_here w1)
    · subst hl
      exact for_core (Dn := DnU Nf Dn) hg hb ok (c1.lock hu eu) (env_lock e1 (rds_lock hu eu)) (wishS_lock hE hu eu hn c1 w1)
    · subst hl
      simp only [forK, hW] at w1
      exact for_core (Dn := DnU Nf Dn) hg hb ok c2 e1 (wishS_lkM hE hn ea eu pu w1)
    · subst hl
      simp only [forK, hW] at w1
      exact for_core (Dn := DnU Nf Dn) hg hb ok c1 e1 (wishS_here w1)
    · cases x with
      | d x => cases x <;> first | exact .inl ⟨_, rfl⟩ | exact (show False from w1).elim
      | mu n =>
        simp only [forK] at w1
        cases q : W1[n]? with
        | none => rw [q] at w1; exact w1.elim
        | some m =>
          rw [q] at w1
          cases m with
          | dct l => exact .inr ⟨n, l, rfl, .inl q⟩
          | lk l => exact .inr ⟨n, l, rfl, .inr q⟩
          | _ => exact w1.elim
end
end DL

set_option Elab.async false
set_option linter.all false
set_option maxRecDepth 100000
set_option maxHeartbeats 4000000
/-! ## tuples sorted, some of them empty -/
namespace DS
open PySem PySem.Spec PySem.Calls PyProof.Rows PySem.W
open SeqAt (pairEq)
theorem each_right {α β : Type} {R : α → β → Prop} : ∀ {as : List α} {bs : List β}, EachIs R as bs → ∀ b ∈ bs, ∃ a, a ∈ as ∧ R a b
  | _, _, .nil, b, h => nomatch h
  | _, _, .cons h t, b, hb => by
    rcases List.mem_cons.mp hb with rfl | hb
    · exact ⟨_, List.mem_cons_self, h⟩
    · obtain ⟨a, h1, h2⟩ := each_right t b hb
      exact ⟨a, List.mem_cons_of_mem _ h1, h2⟩
/-- all are tuples, or none is a tuple or None -/
def Sorta (ds : List PyData) : Prop := Sortable ds ∨ ∀ d, d ∈ ds → ∃ xs, d = .tuple xs
section
variable {prog : Program} {w : World} {A : Around} {E : Value → Shared → Prop} {s : Shared}
theorem call_tuple_lt {Q : Value → Shared → Prop} {l b : Addr} {items items2 : Array Value} {e r : Nat → Bool} (hl : s.heap.IsTuple l items) (hb : s.heap.IsTuple b items2)
    (he : ∀ j (h1 : j < items.size) (h2 : j < items2.size), SeqAt.EqAt A.in1 s items[j] items2[j] (e j)) (hr : ∀ j (h1 : j < items.size) (h2 : j < items2.size), e j = false → SeqAt.RcLt A.in1 s items[j] items2[j] (r j))
    (h : Q (.bool (SeqAt.firstLt e r (decide (items.size < items2.size)) (List.range (min items.size items2.size)))) s) : wpAny (model prog w) A (call (.builtin "tuple.__lt__") [.ref l, .ref b]) Q E s := by
  obtain ⟨⟨c1, d1, dt1, s1⟩, ho, hc, n, hd⟩ := id hl
  obtain ⟨⟨c2, d2, dt2, s2⟩, ho2, hc2, n2, hd2⟩ := id hb
  simp only at hc hd hc2 hd2
  subst hc hd hc2 hd2
  exact call_meets F.slot_tuple_lt ⟨_, ho, rfl⟩ F.entry_tuple_lt (F.args_tuple_lt_2 _ _) (SeqAt.tuple_ltAt l b items items2 n n2 d1 d2 s1 s2 e r) ⟨ho, ho2, he, hr, h⟩
theorem oneLt_tuples {xs ys : List PyData} {a b : Value} {as bs : List Addr} {Q : Bool → Shared → Prop} (ra : Reads s.heap a (.tuple xs) as) (rb : Reads s.heap b (.tuple ys) bs) (h : alike (.tuple xs) (.tuple ys) = true)
    (hu : A.units + min (PyData.tuple xs).depth (PyData.tuple ys).depth < cLine) (hq : Q (dataLt (.tuple xs) (.tuple ys)) s) : wpAny (model prog w) A (oneLt' true a b) Q E s := by
  have hal : alikeAll xs ys = true := by simpa [alike] using h
  cases ra with
  | @tuple l o vs n _ as₁ h1 h2 h3 h4 =>
    cases rb with
    | @tuple l' o' vs' n' _ bs₁ k1 k2 k3 k4 =>
      have n1 : vs.size = xs.length := by simpa using SeqAt.ReadsAll.length _ _ _ h4
      have n2 : vs'.size = ys.length := by simpa using SeqAt.ReadsAll.length _ _ _ k4
      rw [dataLt_tuple, ← firstLt_toks xs ys hal, ← n1, ← n2] at hq
      rw [oneLt'_eq]
      simp only [if_true]
      refine wpAny_bind (wpAny_cRoomFor (SeqAt.room_here hu) ?_)
      refine wpAny_bind (wpAny_callSpecialIfBound?_slot (T := "tuple") ⟨_, h1, h2⟩ F.slot_tuple_lt (call_tuple_lt (e := pairEq xs ys) (r := fun j => dataLt (xs.getD j .none) (ys.getD j .none)) ⟨_, h1, h2, _, h3⟩ ⟨_, k1, k2, _, k3⟩ (fun j j1 j2 => ?_) (fun j j1 j2 hj => ?_) ?_))
      · have := eqAt_alikeAll xs ys A.in1 s vs.toList vs'.toList _ _ h4 k4 hal (SeqAt.room_in hu) j (by simpa using j1) (by simpa using j2)
        simpa using this
      · have := rcLt_alikeAll xs ys A.in1 s vs.toList vs'.toList _ _ h4 k4 hal (SeqAt.room_in hu) j (by simpa using j1) (by simpa using j2) hj
        simpa using this
      · exact wpAny_truthy_bool hq
/-- the first items, none for an empty tuple -/
theorem firsts_any : ∀ {vs : List Value} {ds : List PyData}, EachIs (fun v d => ∃ as, Reads s.heap v d as) vs ds → (∀ d, d ∈ ds → ∃ xs, d = .tuple xs) → ∀ {Q : List (Option Value) → Shared → Prop},
    (∀ fs : List (Option Value), EachIs (fun f d => f.isSome = true ↔ ∃ x r, d = PyData.tuple (x :: r)) fs ds → Q fs s) → wpAny (model prog w) A (vs.mapM firstOfTuple') Q E s
  | _, _, .nil, _, _, h => by rw [List.mapM_nil]; exact wpAny_pure (h [] .nil)
  | _, _, .cons (b := d) ⟨as, r⟩ t, ht, Q, h => by
    obtain ⟨xs, rfl⟩ := ht d List.mem_cons_self
    cases r with
    | @tuple a o ys n _ _ ho hc hd hr =>
      rw [List.mapM_cons]
      refine wpAny_bind ?_
      rw [kas_first_eq]
      refine wpAny_bind (Looks.here (show Looks _ s.heap (typeOf (.ref a)) o.cls from (Looks.ld ho).andThen .now) ?_)
      rw [hc, if_neg (by first | decide | simp)]
      refine wpAny_bind (listItems_at ho hd (wpAny_pure ?_))
      refine wpAny_bind (firsts_any t (fun d' hd' => ht d' (List.mem_cons_of_mem _ hd')) fun fs hfs => wpAny_pure (h _ (.cons ?_ hfs)))
      cases xs with
      | nil =>
        have : ys.toList = [] := by cases hl : ys.toList with
          | nil => rfl
          | cons x l => rw [hl] at hr; cases hr
        have e : ys[0]? = none := by rw [← Array.getElem?_toList, this]; rfl
        rw [e]
        exact ⟨fun z => (nomatch z), fun ⟨x, r, z⟩ => by cases z⟩
      | cons x xs =>
        cases hl : ys.toList with
        | nil => rw [hl] at hr; cases hr
        | cons y l =>
          have e : ys[0]? = some y := by rw [← Array.getElem?_toList, hl]; rfl
          rw [e]
          exact ⟨fun _ => ⟨x, xs, rfl⟩, fun _ => rfl⟩
theorem SortsAt.any {vs : List Value} {ds : List PyData} (e : EachIs (fun v d => ∃ as, Reads s.heap v d as) vs ds) (hal : AllAlike ds) (hk : Sorta ds) (hu : ∀ d, d ∈ ds → A.units + d.depth < cLine) : SortsAt prog w A s (dataKind s.heap ds) vs := by
  rcases hk with hk | ht
  · exact PySem.W.SortsAt.data e hal hk hu
  by_cases hs : Sortable ds
  · exact PySem.W.SortsAt.data e hal hs hu
  have room : ∀ {d d' : PyData}, d ∈ ds → A.units + min d.depth d'.depth < cLine := fun {d d'} hd => Nat.lt_of_le_of_lt (Nat.add_le_add_left (Nat.min_le_left _ _) _) (hu d hd)
  refine ⟨fun v hv => ?_, ?_⟩
  · obtain ⟨d, hd, as, r⟩ := e.left v hv
    exact ⟨_, dataKind_some hal hd r⟩
  have nn : ∀ d ∈ ds, d ≠ .none := fun d hd z => by
    obtain ⟨xs, q⟩ := ht d hd
    rw [z] at q
    cases q
  have lt : ∀ b : Bool, ∀ (E : Value → Shared → Prop) (x y : Value) (p q : (dataKind s.heap ds).α) {Q : Bool → Shared → Prop}, (dataKind s.heap ds).keyOf x = some p → (dataKind s.heap ds).keyOf y = some q → Q ((dataKind s.heap ds).blt p q) s → wpAny (model prog w) A (oneLt' b x y) Q E s := by
    intro b E x y p q Q ha hb hq
    obtain ⟨d, as, hd, ra, rfl⟩ := dataKind_inv ha
    obtain ⟨d', as', hd', rb, rfl⟩ := dataKind_inv hb
    cases b with
    | false => exact oneLt_alike (fun z => (nomatch z)) ra rb (hal d hd d' hd') (nn d hd) (room hd) hq
    | true =>
      obtain ⟨xs, rfl⟩ := ht d hd
      obtain ⟨ys, rfl⟩ := ht d' hd'
      exact oneLt_tuples ra rb (hal _ hd _ hd') (room hd) hq
  cases ds with
  | nil => exact absurd (Or.inl fun d hd => nomatch hd) hs
  | cons d₀ ds₀ =>
    have bad : ∀ fs : List (Option Value), EachIs (fun f d => f.isSome = true ↔ ∃ x r, d = PyData.tuple (x :: r)) fs (d₀ :: ds₀) → (fs.toArray.all fun f => f.isSome) = false := by
      intro fs hfs
      cases q : fs.toArray.all fun f => f.isSome with
      | false => rfl
      | true =>
        refine absurd (Or.inl fun d hd => ?_) hs
        obtain ⟨f, hf, h1⟩ := each_right hfs d hd
        simp only [List.all_toArray, List.all_eq_true] at q
        exact h1.mp (q f hf)
    by_cases hf : ∃ x r, d₀ = PyData.tuple (x :: r)
    · refine ⟨general', fun E x y p q Q ha hb hq => lt false E x y p q ha hb hq, fun h2 E Q hq => ?_⟩
      rw [keyKind'_eq, List.mapM_toArray, map_eq_pure_bind]
      refine wpAny_bind (wpAny_bind (firsts_any e ht fun fs hfs => wpAny_pure ?_))
      rw [bad fs hfs]
      cases hfs with
      | cons h1 t =>
        rename_i f fs
        have : (((f :: fs).toArray[0]?).bind id).isSome = true := by
          simpa using h1.mpr hf
        simp only [Bool.false_eq_true, if_false, this, if_true]
        exact wpAny_pure hq
    · refine ⟨oneType', fun E x y p q Q ha hb hq => lt true E x y p q ha hb hq, fun h2 E Q hq => ?_⟩
      rw [keyKind'_eq, List.mapM_toArray, map_eq_pure_bind]
      refine wpAny_bind (wpAny_bind (firsts_any e ht fun fs hfs => wpAny_pure ?_))
      rw [bad fs hfs]
      cases hfs with
      | cons h1 t =>
        rename_i f fs
        have : (((f :: fs).toArray[0]?).bind id).isSome = false := by
          cases f with
          | none => rfl
          | some y => exact absurd (h1.mp rfl) hf
        simp only [Bool.false_eq_true, if_false, this]
        cases e with
        | cons e1 e2 =>
          rename_i v vs
          rw [oneTypeOnly'_eq, List.mapM_toArray, map_eq_pure_bind]
          refine wpAny_bind (wpAny_bind (wpAny_bind (kas_mapM (r := Value.type "tuple") _ (fun u hu' Q' hq' => ?_) (wpAny_pure ?_))))
          · obtain ⟨d, hd, as, r⟩ := (EachIs.cons e1 e2).left u hu'
            obtain ⟨xs, rfl⟩ := ht d hd
            exact (looks_reads r).here hq'
          · have hall : ((List.map (fun _ => Value.type "tuple") (v :: vs)).toArray.all fun x => x == Value.type "tuple") = true := by
              simp only [List.all_toArray, List.all_map, List.all_eq_true]
              intro _ _
              rfl
            have h0 : (List.map (fun _ => Value.type "tuple") (v :: vs)).toArray[0]? = some (Value.type "tuple") := by simp
            rw [h0]
            simp only [hall, if_true]
            exact wpAny_pure (wpAny_pure hq)
end
section
variable {prog : Program} {w : World} {A : Around} {E : Value → Shared → Prop} {s : Shared} {β : Type} {vs : List Value} {bs : List β} {enc : β → PyData} {R : Value → β → Prop}
/-- xs.sort(), tuples of any lengths among them -/
theorem list_sort_any {a : Addr} {n : Nat} {Q : Value → Shared → Prop} (ho : s.heap.get? a = some (seqObj "list" vs.toArray n)) (e : EachIs R vs bs)
    (er : EachIs (fun v b => ∃ as, Reads s.heap v (enc b) as ∧ a ∉ as) vs bs) (hal : AllAlike (bs.map enc)) (hk : Sorta (bs.map enc)) (hL : bs.length ≤ sizeLine) (hu : ∀ b, b ∈ bs → A.units + 1 + (enc b).depth < cLine)
    (h : ∀ out, out.length = bs.length → EachIs R out (bs.mergeSort (dataLe false enc)) → Q .none { s with heap := sortedHeap s.heap a vs (List.toArray out) }) :
    wpAny (model prog w) A (call (.builtin "list.sort") [.ref a]) Q E s := by
  have keep : EachIs (fun v b => ∃ as, Reads (sortingHeap s.heap a vs) v (enc b) as) vs bs :=
    each_keepBut (h' := sortingHeap s.heap a vs) (fun _ _ hb q => sortingHeap_old hb q) (fun o q => by rw [ho] at q; rw [← Option.some.inj q]) hal er
  have S := SortsAt.any (prog := prog) (w := w) (A := A.in1) (s := { s with heap := sortingHeap s.heap a vs }) (each_map (R := fun v d => ∃ as, Reads (sortingHeap s.heap a vs) v d as) enc keep) hal hk (bound_map hu)
  refine wpAny_call_entry slot_list_sort ⟨_, ho, rfl⟩ entry_list_sort ?_ (args_list_sort _)
  refine list_sort_vals (κ := dataKind (sortingHeap s.heap a vs) (bs.map enc)) ho S (by rw [e.length]; exact hL) ⟨.none, rfl, ?_⟩
  exact h _ (by rw [sortVals_length false rfl]; exact e.length) (sortVals_data false e keep hal)
end
end DS

set_option Elab.async false
set_option linter.all false
set_option maxRecDepth 100000
set_option maxHeartbeats 4000000
/-! ## calls of built-ins -/
namespace DL
open PySem PySem.Spec PyProof.Rows L2
/-! ### sorted: what is collected, in order -/
mutual
def noL : PyData → Bool
  | .tuple xs => noLs xs
  | .list _ => false
  | .dict _ => false
  | _ => true
def noLs : List PyData → Bool
  | [] => true
  | x :: xs => noL x && noLs xs
end
mutual
theorem reads_nil {h : Heap} : ∀ {d : PyData} {v : Value} {as : List Addr}, noL d = true → Reads h v d as → as = []
  | .none, _, _, _, r => by cases r; rfl
  | .bool _, _, _, _, r => by cases r; rfl
  | .int _, _, _, _, r => by cases r; rfl
  | .str _, _, _, _, r => by cases r; rfl
  | .tuple xs, _, _, n, r => by
    cases r with
    | tuple _ _ _ ra => exact readsAll_nil (by simpa [noL] using n) ra
  | .list _, _, _, n, _ => by simp [noL] at n
  | .dict _, _, _, n, _ => by simp [noL] at n
theorem readsAll_nil {h : Heap} : ∀ {d : List PyData} {v : List Value} {as : List Addr}, noLs d = true → ReadsAll h v d as → as = []
  | [], _, _, _, r => by cases r; rfl
  | x :: xs, _, _, n, r => by
    simp only [noLs, Bool.and_eq_true] at n
    cases r with
    | cons r1 r2 => rw [reads_nil n.1 r1, readsAll_nil n.2 r2]; rfl
end
section
variable {prog : Program} {w : World} {A : Around} {E : Value → Shared → Prop} {s : Shared} {β : Type} {R : Value → β → Prop} {enc : β → PyData} {bs : List β}
open PySem.W in
theorem sorted_coll {l : Addr} {Q : Value → Shared → Prop} (hL : bs.length ≤ sizeLine) (hal : AllAlike (bs.map enc)) (hk : DS.Sorta (bs.map enc)) (hu : ∀ b, b ∈ bs → A.units + 2 + (enc b).depth < cLine) (hn : ∀ b, b ∈ bs → noL (enc b) = true)
    (coll : ∀ (B : Around) (R' : List Value → Shared → Prop), B.handled = A.handled → (∀ (h1 : Heap) (tk : Nat) (us : List Value), (∀ b o, s.heap.get? b = some o → h1.get? b = some o) → EachIs R us bs → EachIs (fun v b => ∃ as, Reads h1 v (enc b) as) us bs → R' us { s with heap := h1, toks := tk }) → wpAny (model prog w) B (collect (.ref l)) R' E s)
    (h : ∀ (h1 h' : Heap) (tk : Nat) (out : List Value) (c : Nat), (∀ b o, s.heap.get? b = some o → h1.get? b = some o) → (∀ b o, h1.get? b = some o → h'.get? b = some o) → h'.get? h1.objs.size = some (seqObj "list" out.toArray c) → out.length = bs.length → EachIs R out (bs.mergeSort (dataLe false enc)) → Q (.ref h1.objs.size) { s with heap := h', toks := tk }) :
    wpAny (model prog w) A (call (.builtin "sorted") [.ref l]) Q E s := by
  refine Calls.call_function_entry kind_sorted plain_sorted entry_sorted (args_sorted1 _) ?_
  unfold Builtin.«sorted»
  refine wpAny_bind (m := checkCount "sorted" 1 1 _) (wpAny_pure ?_)
  refine wpAny_bind (coll _ _ rfl fun h1 tk us kp e er => ?_)
  have hus : us.length = bs.length := e.length
  refine wpAny_bind (wpAny_newList ?_ (by rw [hus]; exact hL))
  have hoL : (h1.push (seqObj "list" us.toArray 0)).get? h1.objs.size = some (seqObj "list" us.toArray 0) := Heap.get?_push_size _ rfl
  have er' : EachIs (fun v b => ∃ as, Reads (h1.push (seqObj "list" us.toArray 0)) v (enc b) as ∧ h1.objs.size ∉ as) us bs := by
    refine (each_mem er).mono fun v b ⟨⟨as, r⟩, hb⟩ => ⟨as, PyProof.Rows.Reads.keeps (fun b o q => Heap.get?_push_of_some _ q) r, ?_⟩
    rw [reads_nil (hn b hb) r]
    exact List.not_mem_nil
  refine wpAny_bind (wpAny_holding ?_)
  refine DS.list_sort_any (n := 0) hoL e er' hal hk hL (fun b hb => by have := hu b hb; show A.in1.units + 1 + _ < _; have : A.in1.units = A.units + 1 := rfl; omega) fun out ho eo => ?_
  obtain ⟨c, hc⟩ := sortedHeap_at (vs := us) (out := out.toArray) hoL
  refine wpAny_pure ⟨_, rfl, h h1 _ tk out c kp (fun b o q => ?_) hc ho eo⟩
  have lt := Heap.lt_size q
  rw [sortedHeap_old (Nat.ne_of_lt lt) (by rw [size_push']; exact Nat.lt_succ_of_lt lt)]
  exact Heap.get?_push_of_some _ q
end
/-! ### the source of a list of values: a list, a tuple, a dict -/
section
variable {X : Cx} {pins : List (Addr × Obj)} {σ : L2.St} {H : Hp} {s : Shared} {a : Addr}
/-- what stands at a gives the values vs, in turn -/
inductive Src (K : PySem.W.Frag) (w : World) (H : Hp) (a : Addr) : List V → Prop
  | l {vs : List V} : SqL K H a vs → Src K w H a vs
  | t {vs : List V} : SqT K H a vs → Src K w H a vs
  | k {kvs : List (Key × V)} : Rd H a (.dK kvs) → Src K w H a (kvs.map fun p => kV p.1)
  | n {kvs : List (NestedKey × Addr × V)} : Rd H a (dN w a kvs) → Src K w H a (kvs.map fun p => .ref p.2.1)
theorem raw_of {kvs : List (NestedKey × Addr × V)} (I : Inv X pins σ H s) (e : Rd H a (dN X.w a kvs)) : (a == sysModules) = false ∧ kvs.length ≤ sizeLine ∧ ∃ es ep, s.heap.DictRaw a es ep ∧ es.size = kvs.length ∧ ∀ (i : Nat) (p : NestedKey × Addr × V), kvs[i]? = some p → ∃ en, es[i]? = some en ∧ en.key = .ref p.2.1 ∧ RelV p.2.2 en.val := by
  obtain ⟨⟨z, hs, us, o, es, ep, pr, ho, hx, hdt, he, _⟩, _, _⟩ := (show ObjOk X.prog X.w H s.heap a (dN X.w a kvs) from e.ok I.hok)
  have l1 : es.size = us.length := by
    have := congrArg List.length he
    simpa using this
  refine ⟨hs, z, es, ep, ⟨o, ho, hx, hdt⟩, l1.trans (Paired.length pr).symm, fun i p e => ?_⟩
  obtain ⟨u, hu, e1, e2, e3⟩ := paired_at pr e
  have q : es.toList[i]? = some ⟨u.1.hash X.w, .ref u.2.1, u.2.2⟩ := by rw [he, List.getElem?_map, hu]; rfl
  refine ⟨⟨u.1.hash X.w, .ref u.2.1, u.2.2⟩, by rw [← Array.getElem?_toList]; exact q, ?_, e3⟩
  show Value.ref u.2.1 = Value.ref p.2.1
  rw [← e2]
theorem items_vals {kvs : List (NestedKey × Addr × V)} {es : Array DictEntry} (hs : es.size = kvs.length) (hk : ∀ (i : Nat) (p : NestedKey × Addr × V), kvs[i]? = some p → ∃ en, es[i]? = some en ∧ en.key = .ref p.2.1 ∧ RelV p.2.2 en.val) {acc : Array Value}
    (hacc : ItemsOf (fun i v => ∃ hi : i < es.size, v = es[i].key) acc es.size) : Vals (kvs.map fun p => V.ref p.2.1) acc.toList := by
  refine vals_of_at (by
    have el : acc.toList.length = acc.size := by simp
    rw [List.length_map, el, hacc.1, hs]) fun j x w h1 h2 => ?_
  rw [List.getElem?_map] at h1
  cases q : kvs[j]? with
  | none => rw [q] at h1; cases h1
  | some p =>
    rw [q] at h1
    cases h1
    obtain ⟨en, e1, e2, _⟩ := hk j p q
    obtain ⟨hi, e3⟩ := hacc.2 j w (by rw [← Array.getElem?_toList]; exact h2)
    have e4 : es[j] = en := by
      rw [Array.getElem?_eq_getElem hi] at e1
      exact Option.some.inj e1
    rw [e4, e2] at e3
    exact e3
theorem keys_vals {kvs : List (Key × V)} {vs : List (Key × Value)} (rk : KV kvs vs) {acc : Array Value} {prog : Program} {w : World}
    (hacc : ItemsOf (fun i key => ∃ k v, vs[i]? = some (k, v) ∧ (mixKind prog w).is k key = true) acc vs.length) : Vals (kvs.map fun kv => kV kv.1) acc.toList := by
  have hl : kvs.length = vs.length := Paired.length rk
  refine vals_of_at (by
    have el : acc.toList.length = acc.size := by simp
    rw [List.length_map, el, hacc.1, hl]) fun j x w h1 h2 => ?_
  obtain ⟨k, y, hky, hi⟩ := hacc.2 j w (by rw [← Array.getElem?_toList]; exact h2)
  obtain ⟨p, hp, e1, _⟩ := Paired.at' rk hky
  rw [List.getElem?_map, hp] at h1
  cases h1
  show RelV (kV p.1) w
  rw [e1]
  exact keyIs_rel hi
theorem src_collect {B : Around} {E : Value → Shared → Prop} {R' : List Value → Shared → Prop} {vs : List V} (I : Inv X pins σ H s) (S : Src X.K X.w H a vs) (hh : B.handled = none) (hn : vs.length ≤ sizeLine)
    (h : ∀ (h1 : Heap) (tk : Nat) (us : List Value), (∀ b o, s.heap.get? b = some o → h1.get? b = some o) → Vals vs us → R' us { s with heap := h1, toks := tk }) : wpAny (model X.prog X.w) B (collect (.ref a)) R' E s := by
  cases S with
  | l hl =>
    obtain ⟨its, rv, ⟨o, n, ho, hc, _, hd⟩, hz⟩ := I.list hl
    refine wpAny_collect_seq a (.inl rfl) ho hc hd (fun h1 kp => ?_) (by rw [List.size_toArray, ← rv.length]; exact hn)
    rw [List.toList_toArray]
    exact h h1 s.toks its kp rv
  | t hl =>
    obtain ⟨its, rv, ⟨o, ho, hc, n, hd⟩, hz⟩ := I.tuple hl
    refine wpAny_collect_seq a (.inr rfl) ho hc hd (fun h1 kp => ?_) (by rw [List.size_toArray, ← rv.length]; exact hn)
    rw [List.toList_toArray]
    exact h h1 s.toks its kp rv
  | @k kvs e =>
    obtain ⟨z, lo, vs, rk, hd⟩ := dk_rd I.hok e
    obtain ⟨ep, hat⟩ := hd.dictAt
    refine PySem.W.kdu_collect (PySem.W.kdl_dict (knd := mixKind X.prog X.w) (kvs := vs) (ep := ep) lo) hh hat (by rw [← Paired.length rk]; exact z) fun h' tk acc kp hacc => ?_
    exact h h' tk acc.toList kp (keys_vals rk hacc)
  | @n kvs e =>
    obtain ⟨lo, z, es, ep, hr, hs, hk⟩ := raw_of I e
    refine PySem.W.kdu_collect (KdlSrc.rawDict (es := es) (ep := ep) lo) hh hr (by rw [hs]; exact z) fun h' tk acc kp hacc => ?_
    exact h h' tk acc.toList kp (items_vals hs hk hacc)
theorem each_vals : ∀ {out : List Value} {zs : List (V × PyData)}, PySem.W.EachIs (fun v z => RelV z.1 v) out zs → Vals (zs.map (·.1)) out
  | _, _, .nil => .nil
  | _, _, .cons h t => .cons h (each_vals t)
/-- sorted(x): data in order -/
def rSortA (K : PySem.W.Frag) (w : World) : List V → Hp → VK → Prop := fun xs H Q => ∃ (a : Addr) (zs : List (V × PyData)), xs = [.ref a] ∧ Src K w H a (zs.map (·.1)) ∧ zs.length ≤ 1000000 ∧ (∀ z ∈ zs, Dp K H z.1 z.2 ∧ z.2.depth ≤ 8 ∧ noL z.2 = true) ∧ PySem.W.AllAlike (zs.map (·.2)) ∧ DS.Sorta (zs.map (·.2)) ∧
  ∀ p, H p = none → Q (.ref p) (upd H p (.lst ((zs.mergeSort (PySem.W.dataLe false (·.2))).map (·.1))))
theorem sortA (K : PySem.W.Frag) (w : World) (hu : X.A.units + 64 < cLine) (hc : X.calm = true := by rfl) (hK : X.K = K := by rfl) (hw : X.w = w := by rfl) : CallR X (.builtin "sorted") (rSortA K w) := by
  subst hK hw
  intro pins s σ H xs us Q I r h
  obtain ⟨a, zs, rfl, S, hz, hd, hal, hk, q⟩ := h
  obtain ⟨u, rfl, ru⟩ := vals1 r
  cases ru
  have hz' : zs.length ≤ sizeLine := mil hz
  have each : ∀ {zs : List (V × PyData)} {us : List Value} {t : Shared} {H' : Hp}, Inv X pins σ H' t → (∀ z ∈ zs, Dp X.K H' z.1 z.2) → Vals (zs.map (·.1)) us → PySem.W.EachIs (fun v z => RelV z.1 v) us zs ∧ PySem.W.EachIs (fun v (z : V × PyData) => ∃ as, Reads t.heap v z.2 as) us zs := by
    intro zs
    induction zs with
    | nil => intro us t H' _ _ rv; cases rv; exact ⟨.nil, .nil⟩
    | cons z zs ih =>
      intro us t H' I' hd rv
      rw [List.map_cons] at rv
      cases rv with
      | cons r1 r2 =>
        obtain ⟨i1, i2⟩ := ih I' (fun y hy => hd y (List.mem_cons_of_mem _ hy)) r2
        exact ⟨.cons r1 i1, .cons (Dp.reads I' _ _ _ (hd z List.mem_cons_self) r1) i2⟩
  refine sorted_coll (β := V × PyData) (R := fun v z => RelV z.1 v) (enc := fun z => z.2) (bs := zs) hz' hal hk (fun b hb => by have := (hd b hb).2.1; omega) (fun b hb => (hd b hb).2.2) (fun B R' hB hR => ?_) (fun h1 h' tk out c k1 k2 he hl eo => ?_)
  · refine src_collect I S (hB.trans (I.ok.hd hc)) (by rw [List.length_map]; exact hz') fun h1 tk us k rv => ?_
    obtain ⟨e1, e2⟩ := each (I.kept (t' := tk) k) (fun z hz => (hd z hz).1) rv
    exact hR h1 tk us k e1 e2
  · have I1 : Inv X pins σ H { s with heap := h1, toks := tk } := I.kept (t' := tk) k1
    have rv : Vals ((zs.mergeSort (PySem.W.dataLe false (·.2))).map (·.1)) out := by
      exact each_vals eo
    have hlen : ((zs.mergeSort (PySem.W.dataLe false (·.2))).map (·.1)).length ≤ sizeLine := by rw [List.length_map, List.length_mergeSort]; exact hz'
    exact ⟨.ref _, upd H h1.objs.size (.lst ((zs.mergeSort (PySem.W.dataLe false (·.2))).map (·.1))), I1.laid (t' := tk) k2 (Nat.le_refl _) ⟨hlen, out, c, rv, he⟩, rfl, q _ (I1.hok.fresh (Nat.le_refl _))⟩
end
end DL

set_option Elab.async false
set_option linter.all false
set_option maxRecDepth 100000
set_option maxHeartbeats 4000000
namespace DL
open PySem PySem.Spec PyProof.Rows L2
section
variable {X : Cx}
def rLenA (K : PySem.W.Frag) (w : World) : List V → Hp → VK → Prop := fun xs H Q => (∃ x n, xs = [x] ∧ LenV K x H n ∧ Q (.int n) H) ∨ (∃ a kvs, xs = [V.ref a] ∧ Rd H a (.dK kvs) ∧ Q (.int kvs.length) H) ∨ ∃ a kvs, xs = [V.ref a] ∧ Rd H a (dN w a kvs) ∧ NkAll H kvs ∧ Q (.int kvs.length) H
theorem lenA (K : PySem.W.Frag) (w : World) (hK : X.K = K := by rfl) (hw : X.w = w := by rfl) : CallR X (.builtin "len") (rLenA K w) := by
  subst hK hw
  intro pins s σ H xs us Q I r h
  rcases h with h | ⟨a, kvs, rfl, e, q⟩ | ⟨a, kvs, rfl, e, hk, q⟩
  · exact call_len pins s σ H xs us Q I r h
  · obtain ⟨u, rfl, ru⟩ := vals1 r
    cases ru
    exact d_len I e fun t s' I' => ⟨.int kvs.length, H, I', ⟨t, rfl⟩, q⟩
  · obtain ⟨u, rfl, ru⟩ := vals1 r
    cases ru
    obtain ⟨z, hd, us2, rel, dd⟩ := dn_rd I.hok e hk
    refine PySem.call_len_dictH hd dd (by rw [← Paired.length rel]; rw [sizeLine_eq] at z; omega) ?_
    rw [← Paired.length rel]
    exact ⟨.int kvs.length, H, I.tok _, ⟨_, rfl⟩, q⟩
/-- tuple(x), x a dict -/
def rTupS (K : PySem.W.Frag) (w : World) : List V → Hp → VK → Prop := fun xs H Q => ∃ a, xs = [.ref a] ∧ ((∃ kvs, Rd H a (.dK kvs) ∧ ∀ q, H q = none → Q (.ref q) (upd H q (.tup (kvs.map fun p => kV p.1)))) ∨ ∃ kvs, Rd H a (dN w a kvs) ∧ ∀ q, H q = none → Q (.ref q) (upd H q (.tup (kvs.map fun p => V.ref p.2.1))))
theorem tup_src (w : World) (K : PySem.W.Frag) (hc : X.calm = true := by rfl) (hw : X.w = w := by rfl) : CallR X (.type "tuple") (rTupS K w) := by
  subst hw
  intro pins s σ H xs us Q I r h
  obtain ⟨a, rfl, h⟩ := h
  obtain ⟨u, rfl, ru⟩ := vals1 r
  cases ru
  have fin : ∀ {vs : List V} {h' : Heap} {tk : Nat} {acc : Array Value}, vs.length ≤ sizeLine → (∀ b o, s.heap.get? b = some o → h'.get? b = some o) → Vals vs acc.toList → (∀ q, H q = none → Q (.ref q) (upd H q (.tup vs))) →
      EP X pins σ Q (.ref h'.objs.size) { s with heap := h'.push { cls := .type "tuple", data := .seq acc }, toks := tk } := fun {vs h' tk acc} hz k rv q => by
    have I1 : Inv X pins σ H { s with heap := h', toks := tk } := I.kept k
    exact ⟨.ref h'.objs.size, _, I1.laid (t' := tk) (fun b o e => Heap.get?_push_of_some _ e) (Nat.le_refl _) (show ObjOk X.prog X.w _ _ _ (.tup vs) from ⟨hz, acc.toList, rv, by rw [Array.toArray_toList]; exact IsTup.new _ _⟩), rfl, q _ (I1.hok.fresh (Nat.le_refl _))⟩
  rcases h with ⟨kvs, e, q⟩ | ⟨kvs, e, q⟩
  · obtain ⟨z, lo, vs, rk, hd⟩ := dk_rd I.hok e
    obtain ⟨ep, hat⟩ := hd.dictAt
    exact call_tuple_src (PySem.W.kdl_dict (knd := mixKind X.prog X.w) (kvs := vs) (ep := ep) lo) (I.ok.hd hc) hat (by rw [← Paired.length rk]; exact z) fun h' tk acc k hacc => fin (by rw [List.length_map]; exact z) k (keys_vals rk hacc) q
  · obtain ⟨lo, z, es, ep, hr, hs, hk⟩ := raw_of I e
    exact call_tuple_src (KdlSrc.rawDict (es := es) (ep := ep) lo) (I.ok.hd hc) hr (by rw [hs]; exact z) fun h' tk acc k hacc => fin (by rw [List.length_map]; exact z) k (items_vals hs hk hacc) q
def rTupA (K : PySem.W.Frag) (w : World) : List V → Hp → VK → Prop := fun xs H Q => rTupleOf K xs H Q ∨ rTupS K w xs H Q
theorem tupA (K : PySem.W.Frag) (w : World) (hc : X.calm = true := by rfl) (hK : X.K = K := by rfl) (hw : X.w = w := by rfl) : CallR X (.type "tuple") (rTupA K w) := (L2.tupOf K hK).or (tup_src w K hc hw)
/-- list(x), x a dict -/
def rLstS (K : PySem.W.Frag) (w : World) : List V → Hp → VK → Prop := fun xs H Q => ∃ a, xs = [.ref a] ∧ ((∃ kvs, Rd H a (.dK kvs) ∧ ∀ q, H q = none → Q (.ref q) (upd H q (.lst (kvs.map fun p => kV p.1)))) ∨ ∃ kvs, Rd H a (dN w a kvs) ∧ ∀ q, H q = none → Q (.ref q) (upd H q (.lst (kvs.map fun p => V.ref p.2.1))))
theorem lst_src (w : World) (K : PySem.W.Frag) (hc : X.calm = true := by rfl) (hw : X.w = w := by rfl) : CallR X (.type "list") (rLstS K w) := by
  subst hw
  intro pins s σ H xs us Q I r h
  obtain ⟨a, rfl, h⟩ := h
  obtain ⟨u, rfl, ru⟩ := vals1 r
  cases ru
  have fin : ∀ {vs : List V} {h' : Heap} {tk c : Nat} {acc : Array Value}, vs.length ≤ sizeLine → (∀ b o, s.heap.get? b = some o → h'.get? b = some o) → h'.get? s.heap.objs.size = some { cls := .type "list", dict := none, data := .seq acc c, slots := #[] } → Vals vs acc.toList → (∀ q, H q = none → Q (.ref q) (upd H q (.lst vs))) →
      EP X pins σ Q (.ref s.heap.objs.size) { s with heap := h', toks := tk } := fun {vs h' tk c acc} hz k e rv q => by
    exact ⟨.ref s.heap.objs.size, _, I.laid (t' := tk) k (Nat.le_refl _) (show ObjOk X.prog X.w _ _ _ (.lst vs) from ⟨hz, acc.toList, c, rv, by rw [Array.toArray_toList]; exact e⟩), rfl, q _ (I.hok.fresh (Nat.le_refl _))⟩
  rcases h with ⟨kvs, e, q⟩ | ⟨kvs, e, q⟩
  · obtain ⟨z, lo, vs, rk, hd⟩ := dk_rd I.hok e
    obtain ⟨ep, hat⟩ := hd.dictAt
    exact PySem.W.kdl_call (PySem.W.kdl_dict (knd := mixKind X.prog X.w) (kvs := vs) (ep := ep) lo) (I.ok.hd hc) hat (by rw [← Paired.length rk]; exact z) fun h' tk acc c k e hacc => fin (by rw [List.length_map]; exact z) k e (keys_vals rk hacc) q
  · obtain ⟨lo, z, es, ep, hr, hs, hk⟩ := raw_of I e
    exact PySem.W.kdl_call (KdlSrc.rawDict (es := es) (ep := ep) lo) (I.ok.hd hc) hr (by rw [hs]; exact z) fun h' tk acc c k e hacc => fin (by rw [List.length_map]; exact z) k e (items_vals hs hk hacc) q
def rLstA (K : PySem.W.Frag) (w : World) : List V → Hp → VK → Prop := fun xs H Q => rListOf K xs H Q ∨ rLstS K w xs H Q
theorem lstA (K : PySem.W.Frag) (w : World) (hc : X.calm = true := by rfl) (hK : X.K = K := by rfl) (hw : X.w = w := by rfl) : CallR X (.type "list") (rLstA K w) := (listOf K hK).or (lst_src w K hc hw)
end
/-! ### what they give -/
def srcOf (W : Ms) (x : Vl) : Option (List Vl) := match seqOf W x with
  | some l => some l
  | none => (dctOf W x).map (·.map fun p => Vl.d p.1)
def lenD (W : Ms) (xs : List Vl) : Res Vl := match xs with
  | [x] => (match srcOf W x with
    | some l => .ok (.d (.int (l.length : Nat))) W
    | none => (match strOf x with
      | some s => if s.length ≤ 1000000 then .ok (.d (.int (s.length : Nat))) W else .stuck
      | none => .stuck))
  | _ => .stuck
def tupD (W : Ms) (xs : List Vl) : Res Vl := match xs with
  | [x] => (match tupOf x with
    | some _ => .ok x W
    | none => (match srcOf W x with
      | some l => mkTup l W
      | none => .stuck))
  | _ => .stuck
def lstD (W : Ms) (xs : List Vl) : Res Vl := match xs with
  | [x] => (match srcOf W x with
    | some l => mkLst l W
    | none => .stuck)
  | _ => .stuck
def lstDM (W : Ms) (xs : List Vl) : Res Vl := match xs with
  | [x] => (match srcOf W x with
    | some l => mkLstM l W
    | none => .stuck)
  | _ => .stuck
def leP (a b : D) : Bool := PySem.W.dataLe false toP a b
def sortable (l : List D) : Bool := (l.all fun a => a.ok && decide (a.dep ≤ 8) && noL (toP a)) && (l.all fun a => l.all fun b => PySem.W.alike (toP a) (toP b)) && (l.all (fun a => match a with | .tup _ => true | _ => false) || l.all (fun a => match a with | .tup _ => false | .non => false | _ => true))
def sortD (W : Ms) (xs : List Vl) : Res Vl := match xs with
  | [x] => (match srcOf W x with
    | some l' => (match dsOf l' with
      | some l => if l.length ≤ 1000000 ∧ sortable l = true then .ok (.d (.lst (l.mergeSort leP))) W else .stuck
      | none => .stuck)
    | none => .stuck)
  | _ => .stuck
section
variable {K : Fr} {TB : List (Addr × Str)} {E : XK} {ws : List Addr} {G H : Hp} {W : Ms}
theorem vn_vals {kvs : List (NestedKey × Addr × V)} {l : List (D × Vl)} (r : RpVN K ws G kvs l) : RpVs K ws G (kvs.map fun p => V.ref p.2.1) (l.map fun p => Vl.d p.1) := by
  induction r with
  | nil => exact .nil
  | cons h t ih => exact .cons (.d h.1.1) ih
theorem vk_vals {kvs : List (Key × V)} {l : List (D × Vl)} (r : RpVK K ws G kvs l) : RpVs K ws G (kvs.map fun p => kV p.1) (l.map fun p => Vl.d p.1) := by
  induction r with
  | nil => exact .nil
  | @cons p q _ _ h t ih =>
    refine .cons (.d ?_) ih
    obtain ⟨p1, p2⟩ := p
    rw [h.1]
    cases p1 with
    | inl i => exact .int i
    | inr s => exact .str s
/-- where the values come from: a list or tuple, or a dict's keys -/
theorem src_at {v : V} {x : Vl} {l : List Vl} (c : Cf K TB ws G H W) (r : RpV K ws G v x) (h : srcOf W x = some l) : ∃ a, v = .ref a ∧ ((∃ vs, (SqL K.K H a vs ∨ SqT K.K H a vs) ∧ RpVs K ws G vs l) ∨ (∃ kvs, Rd H a (.dK kvs) ∧ RpVs K ws G (kvs.map fun p => kV p.1) l) ∨ ∃ kvs, Rd H a (dN K.w a kvs) ∧ NkAll H kvs ∧ RpVs K ws G (kvs.map fun p => V.ref p.2.1) l) := by
  unfold srcOf at h
  cases q : seqOf W x with
  | some l' =>
    rw [q] at h
    cases h
    obtain ⟨a, vs, e, hs, rv⟩ := seqOf_at c r q
    exact ⟨a, e, .inl ⟨vs, hs, rv⟩⟩
  | none =>
    rw [q] at h
    cases q2 : dctOf W x with
    | none => simp [q2] at h
    | some l' =>
      simp [q2] at h
      subst h
      obtain ⟨a, e, hd⟩ := dct_at c r q2
      rcases hd with ⟨kvs, e1, rk⟩ | ⟨kvs, e1, rn, _⟩
      · exact ⟨a, e, .inr (.inl ⟨kvs, e1, vk_vals rk⟩)⟩
      · exact ⟨a, e, .inr (.inr ⟨kvs, e1, nk_all c.g rn, vn_vals rn⟩)⟩
theorem o_len : CallD K TB (rLenA K.K K.w) lenD := fun E ws G H W xs as Q c r w => by
  unfold lenD at w
  split at w
  · obtain ⟨v, rfl, r1⟩ := one_of r
    split at w
    · rename_i l q
      obtain ⟨a, rfl, hs⟩ := src_at c r1 q
      rcases hs with ⟨vs, hs, rv⟩ | ⟨kvs, e, rv⟩ | ⟨kvs, e, hk, rv⟩
      · refine .inl ⟨_, vs.length, rfl, ?_, by rw [Paired.length rv]; exact w.d c (.int _)⟩
        rcases hs with hs | hs
        · exact .inl ⟨vs, hs, rfl⟩
        · exact .inr ⟨vs, hs, rfl⟩
      · refine .inr (.inl ⟨a, kvs, rfl, e, ?_⟩)
        have := Paired.length rv
        rw [List.length_map] at this
        rw [this]
        exact w.d c (.int _)
      · refine .inr (.inr ⟨a, kvs, rfl, e, hk, ?_⟩)
        have := Paired.length rv
        rw [List.length_map] at this
        rw [this]
        exact w.d c (.int _)
    · split at w
      · rename_i s q
        obtain rfl := strOf_at r1 q
        split at w
        · rename_i hl
          exact .inl ⟨_, s.length, rfl, ⟨mil hl, rfl⟩, w.d c (.int _)⟩
        · exact w.elim
      · exact w.elim
  · exact w.elim
theorem src_lst {v : V} {x : Vl} {l : List Vl} (c : Cf K TB ws G H W) (r : RpV K ws G v x) (n : tupOf x = none) (h : srcOf W x = some l) : ∃ a, v = .ref a ∧ ((∃ vs, SqL K.K H a vs ∧ RpVs K ws G vs l) ∨ (∃ kvs, Rd H a (.dK kvs) ∧ RpVs K ws G (kvs.map fun p => kV p.1) l) ∨ ∃ kvs, Rd H a (dN K.w a kvs) ∧ RpVs K ws G (kvs.map fun p => V.ref p.2.1) l) := by
  unfold srcOf seqOf at h
  cases q : lstOf W x with
  | some l' =>
    rw [q] at h
    cases h
    obtain ⟨a, vs, e, hs, rv⟩ := lst_at c r q
    exact ⟨a, e, .inl ⟨vs, SqL.of hs, rv⟩⟩
  | none =>
    rw [q, n] at h
    cases q2 : dctOf W x with
    | none => simp [q2] at h
    | some l' =>
      simp [q2] at h
      subst h
      obtain ⟨a, e, hd⟩ := dct_at c r q2
      rcases hd with ⟨kvs, e1, rk⟩ | ⟨kvs, e1, rn, _⟩
      · exact ⟨a, e, .inr (.inl ⟨kvs, e1, vk_vals rk⟩)⟩
      · exact ⟨a, e, .inr (.inr ⟨kvs, e1, vn_vals rn⟩)⟩
theorem o_tup : CallD K TB (rTupA K.K K.w) tupD := fun E ws G H W xs as Q c r w => by
  unfold tupD at w
  split at w
  · rename_i x
    obtain ⟨v, rfl, r1⟩ := one_of r
    cases q0 : tupOf x with
    | some l =>
      simp only [q0] at w
      obtain ⟨a, vs, rfl, _, hs, _⟩ := tup_rp c r1 q0
      exact .inl ⟨a, vs, rfl, .inr ⟨hs, w.ok c r1⟩⟩
    | none =>
      simp only [q0] at w
      cases q : srcOf W x with
      | none => simp only [q] at w; exact w.elim
      | some l =>
        simp only [q] at w
        obtain ⟨a, rfl, hs⟩ := src_lst c r1 q0 q
        rcases hs with ⟨vs, hs, rv⟩ | ⟨kvs, e, rv⟩ | ⟨kvs, e, rv⟩
        · exact .inl ⟨a, vs, rfl, .inl ⟨hs, (mk_tup c rv w).2⟩⟩
        · exact .inr ⟨a, rfl, .inl ⟨kvs, e, (mk_tup c rv w).2⟩⟩
        · exact .inr ⟨a, rfl, .inr ⟨kvs, e, (mk_tup c rv w).2⟩⟩
  · exact w.elim
theorem o_lst : CallD K TB (rLstA K.K K.w) lstD := fun E ws G H W xs as Q c r w => by
  unfold lstD at w
  split at w
  · rename_i x
    obtain ⟨v, rfl, r1⟩ := one_of r
    cases q : srcOf W x with
    | none => simp only [q] at w; exact w.elim
    | some l =>
      simp only [q] at w
      obtain ⟨a, rfl, hs⟩ := src_at c r1 q
      rcases hs with ⟨vs, hs, rv⟩ | ⟨kvs, e, rv⟩ | ⟨kvs, e, hk, rv⟩
      · exact .inl ⟨a, vs, rfl, hs, (mk_lst c rv w).2⟩
      · exact .inr ⟨a, rfl, .inl ⟨kvs, e, (mk_lst c rv w).2⟩⟩
      · exact .inr ⟨a, rfl, .inr ⟨kvs, e, (mk_lst c rv w).2⟩⟩
  · exact w.elim
theorem o_lstM : CallD K TB (rLstA K.K K.w) lstDM := fun E ws G H W xs as Q c r w => by
  unfold lstDM at w
  split at w
  · rename_i x
    obtain ⟨v, rfl, r1⟩ := one_of r
    cases q : srcOf W x with
    | none => simp only [q] at w; exact w.elim
    | some l =>
      simp only [q] at w
      obtain ⟨a, rfl, hs⟩ := src_at c r1 q
      rcases hs with ⟨vs, hs, rv⟩ | ⟨kvs, e, rv⟩ | ⟨kvs, e, hk, rv⟩
      · exact .inl ⟨a, vs, rfl, hs, (mk_lstM c rv w).2⟩
      · exact .inr ⟨a, rfl, .inl ⟨kvs, e, (mk_lstM c rv w).2⟩⟩
      · exact .inr ⟨a, rfl, .inr ⟨kvs, e, (mk_lstM c rv w).2⟩⟩
  · exact w.elim
/-! ### sorted -/
theorem zip_rp : ∀ {vs : List V} {l : List D}, RpL K G vs l → (vs.zip l).map (·.1) = vs ∧ (vs.zip l).map (·.2) = l ∧ ∀ p ∈ vs.zip l, Rp K G p.1 p.2
  | _, _, .nil => ⟨rfl, rfl, fun _ h => nomatch h⟩
  | _, _, .cons h t => by
    obtain ⟨i1, i2, i3⟩ := zip_rp t
    refine ⟨by simp [i1], by simp [i2], fun p hp => ?_⟩
    rcases List.mem_cons.mp hp with e | hp
    · subst e; exact h
    · exact i3 p hp
theorem rpl_of : ∀ {ps : List (V × D)}, (∀ p ∈ ps, Rp K G p.1 p.2) → RpL K G (ps.map (·.1)) (ps.map (·.2))
  | [], _ => .nil
  | p :: ps, h => .cons (h p List.mem_cons_self) (rpl_of fun q hq => h q (List.mem_cons_of_mem _ hq))
theorem src_of {a : Addr} {vs : List V} (hs : (SqL K.K H a vs ∨ SqT K.K H a vs)) : Src K.K K.w H a vs := hs.elim .l .t
theorem o_sort : CallD K TB (rSortA K.K K.w) sortD := fun E ws G H W xs as Q c r w => by
  unfold sortD at w
  split at w
  · rename_i x
    obtain ⟨v, rfl, r1⟩ := one_of r
    cases q : srcOf W x with
    | none => simp only [q] at w; exact w.elim
    | some l' =>
      simp only [q] at w
      cases q2 : dsOf l' with
      | none => simp only [q2] at w; exact w.elim
      | some l =>
        simp only [q2] at w
        split at w
        · rename_i hl
          obtain ⟨hl, hs⟩ := hl
          simp only [sortable, Bool.and_eq_true, List.all_eq_true, decide_eq_true_eq, Bool.or_eq_true] at hs
          obtain ⟨⟨h1, h2⟩, h3⟩ := hs
          obtain ⟨a, rfl, hs⟩ := src_at c r1 q
          have main : ∀ vs, Src K.K K.w H a vs → RpVs K ws G vs l' → rSortA K.K K.w [.ref a] H Q := fun vs S rv => by
            have rl := dsOf_rp rv q2
            obtain ⟨e1, e2, e3⟩ := zip_rp rl
            have hlen : (vs.zip l).length = l.length := by
              have := congrArg List.length e2
              rwa [List.length_map] at this
            have hmem : ∀ p ∈ vs.zip l, p.2 ∈ l := fun p hp => by
              rw [← e2]; exact List.mem_map_of_mem hp
            have em : ((vs.zip l).map fun p => (p.1, toP p.2)).map (·.1) = vs := by rw [List.map_map]; exact e1
            have em2 : ((vs.zip l).map fun p => (p.1, toP p.2)).map (·.2) = l.map toP := by
              rw [List.map_map, ← e2, List.map_map, e2]; rfl
            refine ⟨a, (vs.zip l).map fun p => (p.1, toP p.2), rfl, by rw [em]; exact S, by rw [List.length_map, hlen]; exact hl, fun z hz => ?_, ?_, ?_, fun p hp => ?_⟩
            · obtain ⟨y, hy, rfl⟩ := List.mem_map.mp hz
              obtain ⟨⟨k1, k2⟩, k3⟩ := h1 y.2 (hmem y hy)
              exact ⟨(e3 y hy).dp c.g k1, by rw [toP_dep _ k1]; exact k2, k3⟩
            · rw [em2]
              intro d hd d' hd'
              obtain ⟨y, hy, rfl⟩ := List.mem_map.mp hd
              obtain ⟨z, hz, rfl⟩ := List.mem_map.mp hd'
              exact h2 y hy z hz
            · rw [em2]
              rcases h3 with h3 | h3
              · refine .inr fun d hd => ?_
                obtain ⟨y, hy, rfl⟩ := List.mem_map.mp hd
                have := h3 y hy
                cases y with
                | tup m => exact ⟨toPs m, by simp [toP]⟩
                | _ => cases this
              · refine .inl (.inr fun d hd => ?_)
                obtain ⟨y, hy, rfl⟩ := List.mem_map.mp hd
                have k := h3 y hy
                have k1 := (h1 y hy).1.1
                cases y <;> simp_all [toP, D.ok]
            · have es : ((vs.zip l).map fun p => (p.1, toP p.2)).mergeSort (PySem.W.dataLe false (·.2)) = ((vs.zip l).mergeSort fun p q => leP p.2 q.2).map fun p => (p.1, toP p.2) :=
                (PySem.W.sort_maps (r := fun p q => leP p.2 q.2) (s := PySem.W.dataLe false (·.2)) (fun p : V × D => (p.1, toP p.2)) (fun _ _ _ _ => rfl)).symm
              have el : ((vs.zip l).mergeSort fun p q => leP p.2 q.2).map (·.2) = l.mergeSort leP := by
                rw [PySem.W.sort_maps (r := fun p q => leP p.2 q.2) (s := leP) (fun p : V × D => p.2) (fun _ _ _ _ => rfl), e2]
              rw [es, List.map_map]
              have rs := rpl_of (K := K) (G := G) (ps := (vs.zip l).mergeSort fun p q => leP p.2 q.2) fun p hp => e3 p (List.mem_mergeSort.mp hp)
              rw [el] at rs
              exact w _ ws _ _ (Gr.new c hp) (c.new hp) (.d (.lst upd_same (rs.to (.of (same_upd (c.gn hp))))))
          rcases hs with ⟨vs, hs, rv⟩ | ⟨kvs, e, rv⟩ | ⟨kvs, e, hk, rv⟩
          · exact main vs (src_of hs) rv
          · exact main _ (.k e) rv
          · exact main _ (.n e) rv
        · exact w.elim
  · exact w.elim
end
end DL

set_option Elab.async false
set_option linter.all false
set_option maxRecDepth 100000
set_option maxHeartbeats 4000000
namespace DL
open PySem PySem.Spec PyProof.Rows L2
def blsOf : List Vl → Option (List Bool)
  | [] => some []
  | .d (.bl b) :: l => (blsOf l).map (b :: ·)
  | _ => none
def intsOf : List Vl → Option (List Int)
  | [] => some []
  | .d (.int b) :: l => (intsOf l).map (b :: ·)
  | _ => none
def anyD (W : Ms) (xs : List Vl) : Res Vl := match xs with
  | [x] => (match lstOf W x with
    | some l => (match blsOf l with
      | some bs => .ok (.d (.bl (bs.any id))) W
      | none => .stuck)
    | none => .stuck)
  | _ => .stuck
def allD (W : Ms) (xs : List Vl) : Res Vl := match xs with
  | [x] => (match lstOf W x with
    | some l => (match blsOf l with
      | some bs => .ok (.d (.bl (bs.all id))) W
      | none => .stuck)
    | none => .stuck)
  | _ => .stuck
def sumD (W : Ms) (xs : List Vl) : Res Vl := match xs with
  | [x] => (match lstOf W x with
    | some l => (match intsOf l with
      | some is => .ok (.d (.int is.sum)) W
      | none => .stuck)
    | none => .stuck)
  | _ => .stuck
def int1 (g : Int → D) (W : Ms) (xs : List Vl) : Res Vl := match xs with
  | [x] => (match intOf x with
    | some i => .ok (.d (g i)) W
    | none => .stuck)
  | _ => .stuck
def int2 (g : Int → Int → D) (W : Ms) (xs : List Vl) : Res Vl := match xs with
  | [x, y] => (match intOf x, intOf y with
    | some i, some j => .ok (.d (g i j)) W
    | _, _ => .stuck)
  | _ => .stuck
def absD := int1 fun i => .int (if i < 0 then -i else i)
def min2D := int2 fun i j => .int (if j < i then j else i)
def max2D := int2 fun i j => .int (if j > i then j else i)
def intD (W : Ms) (xs : List Vl) : Res Vl := match xs with
  | [.d (.int i)] => .ok (.d (.int i)) W
  | [.d (.bl k)] => .ok (.d (.int (if k = true then 1 else 0))) W
  | _ => .stuck
/-- isinstance(x, T) -/
def tyOfD : D → Option String
  | .non => some "NoneType"
  | .bl _ => some "bool"
  | .int _ => some "int"
  | .str _ => some "str"
  | .tup _ => some "tuple"
  | .lst _ => some "list"
  | _ => none
def isiD (W : Ms) (xs : List Vl) : Res Vl := match xs with
  | [.d x, .d (.cls n)] => (match tyOfD x with
    | some t => (match kitB t n with
      | some b => .ok (.d (.bl b)) W
      | none => .stuck)
    | none => .stuck)
  | _ => .stuck
/-- dict(d): a copy -/
def dictD (W : Ms) (xs : List Vl) : Res Vl := match xs with
  | [x] => (match dctOf W x with
    | some l => (match dctD l with
      | some l' => .ok (.d (.dct l')) W
      | none => .stuck)
    | none => .stuck)
  | _ => .stuck
section
variable {K : Fr} {TB : List (Addr × Str)} {E : XK}
theorem bls_at {ws : List Addr} {G : Hp} : ∀ {vs : List V} {l : List Vl} {bs : List Bool}, RpVs K ws G vs l → blsOf l = some bs → vs = bs.map V.bl
  | _, _, _, .nil, h => by cases h; rfl
  | _, .d (.bl b) :: l, _, .cons r t, h => by
    cases q : blsOf l with
    | none => simp [blsOf, q] at h
    | some bs =>
      simp [blsOf, q] at h
      subst h
      cases r with
      | d r =>
      cases r
      rw [bls_at t q]
      rfl
  | _, .d .non :: _, _, .cons _ _, h => by simp [blsOf] at h
  | _, .d (.int _) :: _, _, .cons _ _, h => by simp [blsOf] at h
  | _, .d (.str _) :: _, _, .cons _ _, h => by simp [blsOf] at h
  | _, .d (.tup _) :: _, _, .cons _ _, h => by simp [blsOf] at h
  | _, .d (.tupK _) :: _, _, .cons _ _, h => by simp [blsOf] at h
  | _, .d (.lstK _) :: _, _, .cons _ _, h => by simp [blsOf] at h
  | _, .d (.lst _) :: _, _, .cons _ _, h => by simp [blsOf] at h
  | _, .d (.dct _) :: _, _, .cons _ _, h => by simp [blsOf] at h
  | _, .d (.ins _ _) :: _, _, .cons _ _, h => by simp [blsOf] at h
  | _, .d (.cls _) :: _, _, .cons _ _, h => by simp [blsOf] at h
  | _, .mu _ :: _, _, .cons _ _, h => by simp [blsOf] at h
theorem ints_at {ws : List Addr} {G : Hp} : ∀ {vs : List V} {l : List Vl} {bs : List Int}, RpVs K ws G vs l → intsOf l = some bs → vs = bs.map V.int
  | _, _, _, .nil, h => by cases h; rfl
  | _, .d (.int b) :: l, _, .cons r t, h => by
    cases q : intsOf l with
    | none => simp [intsOf, q] at h
    | some bs =>
      simp [intsOf, q] at h
      subst h
      cases r with
      | d r =>
      cases r
      rw [ints_at t q]
      rfl
  | _, .d .non :: _, _, .cons _ _, h => by simp [intsOf] at h
  | _, .d (.bl _) :: _, _, .cons _ _, h => by simp [intsOf] at h
  | _, .d (.str _) :: _, _, .cons _ _, h => by simp [intsOf] at h
  | _, .d (.tup _) :: _, _, .cons _ _, h => by simp [intsOf] at h
  | _, .d (.tupK _) :: _, _, .cons _ _, h => by simp [intsOf] at h
  | _, .d (.lstK _) :: _, _, .cons _ _, h => by simp [intsOf] at h
  | _, .d (.lst _) :: _, _, .cons _ _, h => by simp [intsOf] at h
  | _, .d (.dct _) :: _, _, .cons _ _, h => by simp [intsOf] at h
  | _, .d (.ins _ _) :: _, _, .cons _ _, h => by simp [intsOf] at h
  | _, .d (.cls _) :: _, _, .cons _ _, h => by simp [intsOf] at h
  | _, .mu _ :: _, _, .cons _ _, h => by simp [intsOf] at h
theorem o_any : CallD K TB (rAny K.K) anyD := fun E ws G H W xs as Q c r w => by
  unfold anyD at w
  split at w
  · rename_i x
    obtain ⟨v, rfl, r1⟩ := one_of r
    cases q : lstOf W x with
    | none => simp only [q] at w; exact w.elim
    | some l =>
      simp only [q] at w
      cases q2 : blsOf l with
      | none => simp only [q2] at w; exact w.elim
      | some bs =>
        simp only [q2] at w
        obtain ⟨a, vs, rfl, hs, rv⟩ := lst_at c r1 q
        rw [bls_at rv q2] at hs
        exact ⟨a, bs, rfl, SqL.of hs, w.d c (.bl _)⟩
  · exact w.elim
theorem o_all : CallD K TB (rAll K.K) allD := fun E ws G H W xs as Q c r w => by
  unfold allD at w
  split at w
  · rename_i x
    obtain ⟨v, rfl, r1⟩ := one_of r
    cases q : lstOf W x with
    | none => simp only [q] at w; exact w.elim
    | some l =>
      simp only [q] at w
      cases q2 : blsOf l with
      | none => simp only [q2] at w; exact w.elim
      | some bs =>
        simp only [q2] at w
        obtain ⟨a, vs, rfl, hs, rv⟩ := lst_at c r1 q
        rw [bls_at rv q2] at hs
        exact ⟨a, bs, rfl, SqL.of hs, w.d c (.bl _)⟩
  · exact w.elim
theorem o_sum : CallD K TB (rSum K.K) sumD := fun E ws G H W xs as Q c r w => by
  unfold sumD at w
  split at w
  · rename_i x
    obtain ⟨v, rfl, r1⟩ := one_of r
    cases q : lstOf W x with
    | none => simp only [q] at w; exact w.elim
    | some l =>
      simp only [q] at w
      cases q2 : intsOf l with
      | none => simp only [q2] at w; exact w.elim
      | some bs =>
        simp only [q2] at w
        obtain ⟨a, vs, rfl, hs, rv⟩ := lst_at c r1 q
        rw [ints_at rv q2] at hs
        exact ⟨a, bs, rfl, SqL.of hs, w.d c (.int _)⟩
  · exact w.elim
theorem o_abs : CallD K TB rAbs absD := fun E ws G H W xs as Q c r w => by
  unfold absD int1 at w
  split at w
  · rename_i x
    obtain ⟨v, rfl, r1⟩ := one_of r
    cases q : intOf x with
    | none => simp only [q] at w; exact w.elim
    | some i =>
      simp only [q] at w
      obtain rfl := intOf_at r1 q
      exact ⟨i, rfl, w.d c (.int _)⟩
  · exact w.elim
theorem o_min2 : CallD K TB rMin2 min2D := fun E ws G H W xs as Q c r w => by
  unfold min2D int2 at w
  split at w
  · rename_i x y
    obtain ⟨v, u, rfl, r1, r2⟩ := two_of r
    cases q : intOf x with
    | none => simp only [q] at w; exact w.elim
    | some i =>
      cases q2 : intOf y with
      | none => simp only [q, q2] at w; exact w.elim
      | some j =>
        simp only [q, q2] at w
        obtain rfl := intOf_at r1 q
        obtain rfl := intOf_at r2 q2
        exact ⟨i, j, rfl, w.d c (.int _)⟩
  · exact w.elim
def rMax2' : List V → Hp → VK → Prop := fun xs H Q => ∃ i j, xs = [.int i, .int j] ∧ Q (.int (if j > i then j else i)) H
theorem max2K {X : Cx} (hc : X.calm = true := by rfl) : CallR X (.builtin "max") rMax2' := call_max2 hc
theorem o_max2 : CallD K TB rMax2' max2D := fun E ws G H W xs as Q c r w => by
  unfold max2D int2 at w
  split at w
  · rename_i x y
    obtain ⟨v, u, rfl, r1, r2⟩ := two_of r
    cases q : intOf x with
    | none => simp only [q] at w; exact w.elim
    | some i =>
      cases q2 : intOf y with
      | none => simp only [q, q2] at w; exact w.elim
      | some j =>
        simp only [q, q2] at w
        obtain rfl := intOf_at r1 q
        obtain rfl := intOf_at r2 q2
        exact ⟨i, j, rfl, w.d c (.int _)⟩
  · exact w.elim
theorem o_int : CallD K TB rInt1 intD := fun E ws G H W xs as Q c r w => by
  unfold intD at w
  split at w
  · obtain ⟨v, rfl, r1⟩ := one_of r
    cases r1 with
    | d r1 =>
    cases r1
    exact .inl ⟨_, rfl, w.d c (.int _)⟩
  · obtain ⟨v, rfl, r1⟩ := one_of r
    cases r1 with
    | d r1 =>
    cases r1
    exact .inr ⟨_, rfl, w.d c (.int _)⟩
  · exact w.elim
theorem ty_at {G H : Hp} {v : V} {x : D} {t : String} (s : Same G H) (r : Rp K G v x) (h : tyOfD x = some t) : TyX K.K H v (.type t) := by
  cases r with
  | non => cases h; exact .base .non
  | bl b => cases h; exact .base (.bl b)
  | int i => cases h; exact .base (.int i)
  | str z => cases h; exact .base (.str z)
  | tup e _ => cases h; exact .base (.tup (s _ _ e))
  | lst e _ => cases h; exact .base (.lst (s _ _ e))
  | _ => cases h
theorem o_isi : CallD K TB (rIsi K.K) isiD := fun E ws G H W xs as Q c r w => by
  unfold isiD at w
  split at w
  · rename_i x n
    obtain ⟨v, u, rfl, r1, r2⟩ := two_of r
    cases q : tyOfD x with
    | none => simp only [q] at w; exact w.elim
    | some t =>
      simp only [q] at w
      cases q2 : kitB t n with
      | none => simp only [q2] at w; exact w.elim
      | some b =>
        simp only [q2] at w
        cases r1 with
        | d r1 =>
        cases r2 with
        | d r2 =>
        cases r2
        exact ⟨_, _, _, _, b, rfl, .ty n, ty_at c.g r1 q, kit_ty q2, w.d c (.bl _)⟩
  · exact w.elim
end
end DL

set_option Elab.async false
set_option linter.all false
set_option maxRecDepth 100000
set_option maxHeartbeats 4000000
/-! ## what stands in lists and dicts is changed -/
namespace DL
open PySem PySem.Spec PyProof.Rows L2
section
variable {X : Cx}
def rSetA (w : World) : TSet := fun o i v H Q => rSetL o i v H Q ∨ ∃ a H', o = .ref a ∧ PutA w H a i v H' ∧ Q H'
theorem setA (w : World) (hu : X.A.units + 16 < cLine) (hw : X.w = w := by rfl) : PSet X (rSetA w) := by
  subst hw
  intro pins s σ H o i v ov iv u Q I ro ri rv h
  rcases h with h | ⟨a, H', rfl, g, q⟩
  · exact set_list pins s σ H o i v ov iv u Q I ro ri rv h
  · cases ro
    exact a_setItem hu I g ri rv fun s' I' => ⟨H', I', q⟩
theorem pgetA (w : World) (hu : X.A.units + 16 < cLine) (hw : X.w = w := by rfl) : PGet X (rGetA w) := by
  subst hw
  intro pins s σ H o i ov iv Q I ro ri h
  obtain ⟨a, v, rfl, g, q⟩ := h
  cases ro
  exact a_getItem hu I g ri fun w' s' I' rw' => ⟨v, H, I', rw', q⟩
/-- del d[y] -/
def sDelA (w : World) (td ty : TE) : TS := fun D σ H => td σ H fun x H1 => ty σ H1 fun y H2 => ∃ a v H', x = .ref a ∧ DelA w H2 a y v H' ∧ D.nx σ H'
theorem ps_delA {o i : Expr} {tpos pos : Pos} {td ty : TE} (w : World) (hu : X.A.units + 16 < cLine) (ho : PE X o td) (hi : PE X i ty) (hw : X.w = w := by rfl) : PS X (.Delete [.Subscript o i tpos] pos) (sDelA w td ty) := by
  subst hw
  constructor
  intro pins s σ H Dn I h
  apply wpAny_Delete
  apply wpAny_deleteEach_cons
  apply wpAny_delete_Subscript
  refine thn (ho.run pins s σ H _ I h) fun u s1 q => ?_
  obtain ⟨x, H1, I1, rx, q⟩ := q
  refine thn (hi.run pins s1 σ H1 _ I1 q) fun iv s2 q => ?_
  obtain ⟨y, H2, I2, ry, a, v, H', ex, g, q3⟩ := q
  subst ex
  cases rx
  exact a_delItem hu I2 g ry fun s3 I3 => wpAny_deleteEach_nil ⟨σ, _, I3, q3⟩
end
/-! ### as data -/
noncomputable def setIx (W : Ms) (o i v : Vl) : Option Ms := match o with
  | .mu n => (match W[n]? with
    | some (.lst l) => (match i with
      | .d (.int k) => (ixN l.length k).map fun j => W.set n (.lst (l.set j v))
      | _ => none)
    | some (.dct l) => (match i with
      | .d k => if okKey l k = true ∧ l.length < sizeLine then some (W.set n (.dct (putKD k v l))) else none
      | _ => none)
    | _ => none)
  | _ => none
noncomputable def delIx (W : Ms) (o i : Vl) : Option (Vl × Ms) := match o with
  | .mu n => (match W[n]? with
    | some (.dct l) => (match i with
      | .d k => if okKey l k = true then (getK l k).map fun v => (v, W.set n (.dct (delKD k l))) else none
      | _ => none)
    | _ => none)
  | _ => none
noncomputable def sPut (fo fi fv : FE) : FS := fun ρ W => (fv ρ W).bindS fun y W1 => (fo ρ W1).bindS fun o W2 => (fi ρ W2).bindS fun i W3 => match setIx W3 o i y with
  | some W4 => .nx ρ W4
  | none => .stuck
/-- d[k] -/
noncomputable def gixD (W : Ms) (o i : Vl) : Option Vl := match dctOf W o with
  | some l => (match i with
    | .d k => if okKey l k = true then getK l k else none
    | _ => none)
  | none => none
noncomputable def sAugS (fo fi : FE) (g : Ms → Vl → Vl → Res Vl) (f : FE) : FS := fun ρ W => (fo ρ W).bindS fun o W1 => (fi ρ W1).bindS fun i W2 => match gixD W2 o i with
  | some x => ((f ρ W2).bindS fun y W4 => (g W4 x y).bindS fun z W5 => match setIx W5 o i z with
    | some W6 => .nx ρ W6
    | none => .stuck)
  | none => .stuck
noncomputable def sDel (fo fi : FE) : FS := fun ρ W => (fo ρ W).bindS fun o W1 => (fi ρ W1).bindS fun i W2 => match delIx W2 o i with
  | some (_, W3) => .nx ρ W3
  | none => .stuck
section
variable {K : Fr} {TB : List (Addr × Str)} {E : XK} {ws : List Addr} {G H : Hp} {W : Ms}
theorem ex_key {k : Key} : ∀ {kvs : List (Key × V)} {l : List (D × Vl)}, RpVK K ws G kvs l → ((kvs.any fun kv => decide (kv.1 = k)) = true ↔ ∃ p ∈ l, p.1 = kD k)
  | _, _, .nil => by simp
  | (k1, v1) :: kvs, (d1, y1) :: l, .cons ⟨h1, h2⟩ t => by
    obtain rfl : d1 = kD k1 := h1
    have ih := ex_key (k := k) t
    simp only [List.any_cons, Bool.or_eq_true, decide_eq_true_eq, List.mem_cons, exists_eq_or_imp, ih]
    constructor
    · rintro (e | e)
      · exact .inl (congrArg kD e)
      · exact .inr e
    · rintro (e | e)
      · exact .inl (kD_inj e)
      · exact .inr e
theorem Paired.map2 {α β α' β' : Type} {F : α → β → Prop} {F' : α' → β' → Prop} {f : α → α'} {g : β → β'} (h : ∀ a b, F a b → F' (f a) (g b)) : ∀ {l : List α} {r : List β}, Paired F l r → Paired F' (l.map f) (r.map g)
  | _, _, .nil => .nil
  | _, _, .cons a t => .cons (h _ _ a) (Paired.map2 h t)
theorem vk_put {k : Key} {v : V} {y : Vl} (rv : RpV K ws G v y) {kvs : List (Key × V)} {l : List (D × Vl)} (r : RpVK K ws G kvs l) : RpVK K ws G (putK kvs k v) (putKD (kD k) y l) := by
  unfold putK putKD
  by_cases h : ∃ p ∈ l, p.1 = kD k
  · rw [if_pos ((ex_key r).2 h), if_pos h]
    refine Paired.map2 (fun a b hab => ?_) r
    obtain ⟨k1, v1⟩ := a
    obtain ⟨d1, y1⟩ := b
    obtain ⟨h1, h2⟩ := hab
    obtain rfl : d1 = kD k1 := h1
    by_cases e : k1 = k
    · subst e
      rw [if_pos rfl, if_pos rfl]
      exact ⟨rfl, rv⟩
    · rw [if_neg e, if_neg (fun z => e (kD_inj z))]
      exact ⟨rfl, h2⟩
  · rw [if_neg (fun z => h ((ex_key r).1 z)), if_neg h]
    exact Paired.app r (.cons ⟨rfl, rv⟩ .nil)
theorem vk_drop {k : Key} : ∀ {kvs : List (Key × V)} {l : List (D × Vl)}, RpVK K ws G kvs l → RpVK K ws G (dropK kvs k) (delKD (kD k) l)
  | _, _, .nil => .nil
  | (k1, v1) :: kvs, (d1, y1) :: l, .cons ⟨h1, h2⟩ t => by
    obtain rfl : d1 = kD k1 := h1
    have ih := vk_drop (k := k) t
    unfold dropK delKD at *
    by_cases e : k1 = k
    · subst e
      simpa using ih
    · have e2 : ¬ kD k1 = kD k := fun z => e (kD_inj z)
      simp only [List.filter_cons, ne_eq, e, e2, not_false_eq_true, decide_true, if_true]
      exact .cons ⟨rfl, h2⟩ ih
theorem nk_iff {k d1 : D} {nk n1 : NestedKey} (hk : nkOf k = some nk) (h1 : nkOf d1 = some n1) : n1 = nk ↔ d1 = k := by
  constructor
  · intro e
    subst e
    exact nk_inj _ _ _ h1 hk
  · intro e
    subst e
    rw [hk] at h1
    exact (Option.some.inj h1).symm
theorem ex_keyN {k : D} {nk : NestedKey} (hk : nkOf k = some nk) : ∀ {kvs : List (NestedKey × Addr × V)} {l : List (D × Vl)}, RpVN K ws G kvs l → ((kvs.any fun x => decide (x.1 = nk)) = true ↔ ∃ p ∈ l, p.1 = k)
  | _, _, .nil => by simp
  | (n1, b1, v1) :: kvs, (d1, y1) :: l, .cons ⟨⟨h0, h1, h3⟩, h2⟩ t => by
    have ih := ex_keyN hk t
    simp only [List.any_cons, Bool.or_eq_true, decide_eq_true_eq, List.mem_cons, exists_eq_or_imp, ih]
    rw [nk_iff hk h1]
theorem vn_put {k : D} {nk : NestedKey} {b : Addr} {v : V} {y : Vl} (hk : nkOf k = some nk) (hd : nk.depth ≤ 8) (rb : Rp K G (.ref b) k) (rv : RpV K ws G v y) {kvs : List (NestedKey × Addr × V)} {l : List (D × Vl)} (r : RpVN K ws G kvs l) :
    RpVN K ws G (putN kvs nk b v) (putKD k y l) := by
  unfold putN putKD
  by_cases h : ∃ p ∈ l, p.1 = k
  · rw [if_pos ((ex_keyN hk r).2 h), if_pos h]
    refine Paired.map2 (fun a c hab => ?_) r
    obtain ⟨n1, b1, v1⟩ := a
    obtain ⟨d1, y1⟩ := c
    obtain ⟨⟨h0, h1, h3⟩, h2⟩ := hab
    by_cases e : d1 = k
    · have e1 := (nk_iff hk h1).2 e
      simp only at e1
      rw [if_pos e1, if_pos e]
      exact ⟨⟨h0, h1, h3⟩, rv⟩
    · have e1 : ¬ n1 = nk := fun z => e ((nk_iff hk h1).1 z)
      rw [if_neg e1, if_neg e]
      exact ⟨⟨h0, h1, h3⟩, h2⟩
  · rw [if_neg (fun z => h ((ex_keyN hk r).1 z)), if_neg h]
    exact Paired.app r (.cons ⟨⟨rb, hk, hd⟩, rv⟩ .nil)
theorem vn_drop {k : D} {nk : NestedKey} (hk : nkOf k = some nk) : ∀ {kvs : List (NestedKey × Addr × V)} {l : List (D × Vl)}, RpVN K ws G kvs l → RpVN K ws G (dropN kvs nk) (delKD k l)
  | _, _, .nil => .nil
  | (n1, b1, v1) :: kvs, (d1, y1) :: l, .cons ⟨⟨h0, h1, h3⟩, h2⟩ t => by
    have ih := vn_drop hk t
    have i := nk_iff hk h1
    simp only at i
    unfold dropN delKD at *
    by_cases e : d1 = k
    · have e1 := i.2 e
      subst e
      subst e1
      simpa using ih
    · have e1 : ¬ n1 = nk := fun z => e (i.1 z)
      simp only [List.filter_cons, ne_eq, e, e1, not_false_eq_true, decide_true, if_true]
      exact .cons ⟨⟨h0, h1, h3⟩, h2⟩ ih
theorem put_ne {k : D} {y : Vl} {l : List (D × Vl)} : putKD k y l ≠ [] := by
  unfold putKD
  split
  · rename_i h
    obtain ⟨p, hp, _⟩ := h
    cases l with
    | nil => cases hp
    | cons a l => simp
  · simp
/-- a key that stands for itself: a number, a text, or a tuple -/
theorem key_cases {i : V} {k : D} {l : List (D × Vl)} (c : Cf K TB ws G H W) (ri : RpV K ws G i (.d k)) (hk : okKey l k = true) :
    (∃ kk : Key, i = kV kk ∧ k = kD kk ∧ isTupD k = false) ∨ ∃ b nk, i = .ref b ∧ Rp K G (.ref b) k ∧ nkOf k = some nk ∧ nk.depth ≤ 8 ∧ Nk H (.ref b) nk ∧ isTupD k = true := by
  simp only [okKey, Bool.and_eq_true] at hk
  cases ri with
  | d ri =>
  cases ri with
  | int i => exact .inl ⟨.inl i, rfl, rfl, rfl⟩
  | str i => exact .inl ⟨.inr i, rfl, rfl, rfl⟩
  | @tup b vs l' e0 rl =>
    have hk1 := hk.1
    simp only [keyOk] at hk1
    cases q0 : nkOf (.tup l') with
    | none => rw [q0] at hk1; cases hk1
    | some nk =>
      rw [q0] at hk1
      exact .inr ⟨b, nk, rfl, .tup e0 rl, rfl, of_decide_eq_true hk1, Rp.nk c.g (.tup e0 rl) q0, rfl⟩
  | _ => exact absurd hk.1 (by simp [keyOk])
theorem vk_kind {kvs : List (Key × V)} {l : List (D × Vl)} {k : D} (rk : RpVK K ws G kvs l) (hk : kindOk l k = true) (ht : isTupD k = true) : kvs = [] ∧ l = [] := by
  cases rk with
  | nil => exact ⟨rfl, rfl⟩
  | @cons p q _ _ hh t =>
    obtain ⟨p1, p2⟩ := p
    obtain ⟨q1, q2⟩ := q
    obtain ⟨h1, _⟩ := hh
    obtain rfl : q1 = kD p1 := h1
    change (isTupD (kD p1) == isTupD k) = true at hk
    rw [ht] at hk
    cases p1 <;> cases hk
theorem set_at {o i v : V} {x k y : Vl} {W' : Ms} {Q : Hp → Prop} (c : Cf K TB ws G H W) (ro : RpV K ws G o x) (ri : RpV K ws G i k) (rv : RpV K ws G v y) (h : setIx W x k y = some W')
    (q : ∀ H', Gr ws G H ws G H' → Cf K TB ws G H' W' → Q H') : rSetA K.w o i v H Q := by
  unfold setIx at h
  cases ro with
  | d _ => cases h
  | @mu a n e =>
    cases q0 : W[n]? with
    | none => simp only [q0] at h; cases h
    | some m =>
      cases m with
      | lst l =>
        simp only [q0] at h
        cases ri with
        | mu _ => cases h
        | d ri =>
          cases ri with
          | int z =>
            simp only [Option.map_eq_some_iff] at h
            obtain ⟨j, hj, rfl⟩ := h
            obtain ⟨_, vs, e1, rl⟩ := c.ob n a _ e q0 (by simp)
            exact .inl ⟨a, vs, z, j, rfl, rfl, e1, by rw [Paired.length rl]; exact hj, q _ (Gr.put e ⟨_, e1, nf_lst⟩) (c.put e q0 (by simp) ⟨_, upd_same, Paired.set' rv j rl⟩)⟩
          | _ => cases h
      | dct l =>
        simp only [q0] at h
        cases k with
        | mu _ => cases h
        | d k =>
          simp only at h
          split at h
          · rename_i hh
            obtain ⟨hk, hl⟩ := hh
            cases h
            have hkd : kindOk l k = true := by
              simp only [okKey, Bool.and_eq_true] at hk
              exact hk.2
            obtain ⟨_, hm⟩ := c.ob n a _ e q0 (by simp)
            refine .inr ?_
            rcases key_cases c ri hk with ⟨kk, rfl, rfl, ht⟩ | ⟨b, nk, rfl, rb, hn, hd, hnk, ht⟩
            · rcases hm with ⟨kvs, e1, rk⟩ | ⟨kvs, e1, rn, nl⟩
              · exact ⟨a, _, rfl, .inl (DPut.k e1 (by rw [Paired.length rk]; exact hl)), q _ (Gr.put e ⟨_, e1, nf_dK⟩) (c.put e q0 (by simp) (.inl ⟨_, upd_same, vk_put rv rk⟩))⟩
              · exact absurd hkd (vn_kind rn nl ht)
            · rcases hm with ⟨kvs, e1, rk⟩ | ⟨kvs, e1, rn, nl⟩
              · obtain ⟨rfl, rfl⟩ := vk_kind rk hkd ht
                exact ⟨a, _, rfl, .inr ⟨[], nk, b, .inr ⟨e1, rfl⟩, (fun _ z => nomatch z), rfl, hnk, hd, hl, rfl⟩, q _ (Gr.put e ⟨_, e1, nf_dK⟩) (c.put e q0 (by simp) (.inr ⟨_, upd_same, vn_put hn hd rb rv .nil, put_ne⟩))⟩
              · exact ⟨a, _, rfl, .inr ⟨kvs, nk, b, .inl e1, nk_all c.g rn, rfl, hnk, hd, by rw [Paired.length rn]; exact hl, rfl⟩, q _ (Gr.put e ⟨_, e1, nf_dN⟩) (c.put e q0 (by simp) (.inr ⟨_, upd_same, vn_put hn hd rb rv rn, put_ne⟩))⟩
          · cases h
      | _ => simp only [q0] at h; cases h
theorem dne_at {b : Addr} {kvs : List (NestedKey × Addr × V)} {l : List (D × Vl)} {H' : Hp} (h : H' b = some (dNe K.w b kvs)) (r : RpVN K ws G kvs l) : MAt K ws G H' b (.dct l) := by
  cases r with
  | nil => exact .inl ⟨[], h, .nil⟩
  | cons a t => exact .inr ⟨_, h, .cons a t, by simp⟩
theorem del_at {o i : V} {x k y : Vl} {W' : Ms} (c : Cf K TB ws G H W) (ro : RpV K ws G o x) (ri : RpV K ws G i k) (h : delIx W x k = some (y, W')) :
    ∃ a v H', o = .ref a ∧ DelA K.w H a i v H' ∧ RpV K ws G v y ∧ Gr ws G H ws G H' ∧ Cf K TB ws G H' W' := by
  unfold delIx at h
  cases ro with
  | d _ => cases h
  | @mu a n e =>
    cases q0 : W[n]? with
    | none => simp only [q0] at h; cases h
    | some m =>
      cases m with
      | dct l =>
        simp only [q0] at h
        cases k with
        | mu _ => cases h
        | d k =>
          simp only at h
          split at h
          · rename_i hk
            rw [Option.map_eq_some_iff] at h
            obtain ⟨y', hg, h⟩ := h
            cases h
            have hkd : kindOk l k = true := by
              simp only [okKey, Bool.and_eq_true] at hk
              exact hk.2
            obtain ⟨_, hm⟩ := c.ob n a _ e q0 (by simp)
            rcases key_cases c ri hk with ⟨kk, rfl, rfl, ht⟩ | ⟨b, nk, rfl, rb, hn, hd, hnk, ht⟩
            · rcases hm with ⟨kvs, e1, rk⟩ | ⟨kvs, e1, rn, nl⟩
              · obtain ⟨v, h1, h2⟩ := (vk_get kk rk).2 _ hg
                exact ⟨a, v, _, rfl, .inl ⟨kvs, kk, e1, rfl, h1, rfl⟩, h2, Gr.put e ⟨_, e1, nf_dK⟩, c.put e q0 (by simp) (.inl ⟨_, upd_same, vk_drop rk⟩)⟩
              · exact absurd hkd (vn_kind rn nl ht)
            · rcases hm with ⟨kvs, e1, rk⟩ | ⟨kvs, e1, rn, nl⟩
              · obtain ⟨rfl, rfl⟩ := vk_kind rk hkd ht
                cases hg
              · obtain ⟨v, h1, h2⟩ := (vn_get hn rn).2 _ hg
                exact ⟨a, v, _, rfl, .inr ⟨kvs, nk, b, e1, nk_all c.g rn, rfl, hnk, hd, h1, rfl⟩, h2, Gr.put e ⟨_, e1, nf_dN⟩, c.put e q0 (by simp) (dne_at upd_same (vn_drop hn rn)) (by intro _ z; unfold dNe at z; split at z <;> cases z)⟩
          · cases h
      | _ => simp only [q0] at h; cases h
/-- o[i] = v -/
theorem s_put {to ti tv : TE} {fo fi fv : FE} (hv : SE K TB E tv fv) (ho : SE K TB E to fo) (hi : SE K TB E ti fi) : SS K TB E (tAsg tv (gSub to ti (rSetA K.w))) (sPut fo fi fv) := fun σ ws G H ρ W Dn e c w =>
  hv.goS e c w fun v y W1 ws1 G1 H1 g1 c1 r1 w1 => by
    refine ho.goS (e.up g1) c1 w1 fun o x W2 ws2 G2 H2 g2 c2 r2 w2 => ?_
    refine hi.goS ((e.up g1).up g2) c2 w2 fun i k W3 ws3 G3 H3 g3 c3 r3 w3 => ?_
    cases q : setIx W3 x k y with
    | none => simp only [q] at w3; exact w3.elim
    | some W4 =>
      simp only [q] at w3
      exact set_at c3 (g3.rv r2) r3 (g3.rv (g2.rv r1)) q fun H' g c' => w3 _ _ _ _ g c' ((((e.up g1).up g2).up g3).up g)
theorem gix_at {o i : V} {x k z : Vl} (c : Cf K TB ws G H W) (ro : RpV K ws G o x) (ri : RpV K ws G i k) (h : gixD W x k = some z) : ∃ a v, o = .ref a ∧ GetA K.w H a i (some v) ∧ RpV K ws G v z := by
  unfold gixD at h
  cases q : dctOf W x with
  | none => simp only [q] at h; cases h
  | some l =>
    simp only [q] at h
    cases k with
    | mu _ => cases h
    | d k =>
      simp only at h
      split at h
      · rename_i hk
        obtain ⟨p, rfl, _, g⟩ := get_at c ro q ri hk
        obtain ⟨v, g1, r1⟩ := g z h
        exact ⟨p, v, rfl, g1, r1⟩
      · cases h
/-- o[i] op= v -/
theorem s_augS {to ti tv : TE} {fo fi fv : FE} {r : TIp} {g : Ms → Vl → Vl → Res Vl} (hg : OpD K TB r g) (ho : SE K TB E to fo) (hi : SE K TB E ti fi) (hv : SE K TB E tv fv) : SS K TB E (tAugS to ti tv (rGetA K.w) r (rSetA K.w)) (sAugS fo fi g fv) := fun σ ws G H ρ W Dn e c w =>
  ho.goS e c w fun o x W1 ws1 G1 H1 g1 c1 r1 w1 => by
    refine hi.goS (e.up g1) c1 w1 fun i k W2 ws2 G2 H2 g2 c2 r2 w2 => ?_
    cases q : gixD W2 x k with
    | none => simp only [q] at w2; exact w2.elim
    | some z =>
      simp only [q] at w2
      obtain ⟨a, v, rfl, ga, rz⟩ := gix_at c2 (g2.rv r1) r2 q
      refine ⟨a, v, rfl, ga, ?_⟩
      refine hv.goS ((e.up g1).up g2) c2 w2 fun y dy W3 ws3 G3 H3 g3 c3 r3 w3 => ?_
      refine hg E _ _ _ _ _ _ _ _ _ c3 (g3.rv rz) r3 ?_
      cases q2 : g W3 z dy with
      | stuck => rw [q2] at w3; exact w3
      | exc C W4 => rw [q2] at w3; exact fun ws' G' H' g' c' => w3 ws' G' H' g' c'
      | ok u W4 =>
        rw [q2] at w3
        intro b ws4 G4 H4 g4 c4 r4
        simp only [Res.bindS_ok] at w3
        cases q3 : setIx W4 x k u with
        | none => simp only [q3] at w3; exact w3.elim
        | some W5 =>
          simp only [q3] at w3
          exact set_at c4 (g4.rv (g3.rv (g2.rv r1))) (g4.rv (g3.rv r2)) r4 q3 fun H' g5 c5 => w3 _ _ _ _ (g4.trans g5) c5 (((((e.up g1).up g2).up g3).up g4).up g5)
theorem s_del {to ti : TE} {fo fi : FE} (ho : SE K TB E to fo) (hi : SE K TB E ti fi) : SS K TB E (sDelA K.w to ti) (sDel fo fi) := fun σ ws G H ρ W Dn e c w =>
  ho.goS e c w fun o x W1 ws1 G1 H1 g1 c1 r1 w1 => by
    refine hi.goS (e.up g1) c1 w1 fun i k W2 ws2 G2 H2 g2 c2 r2 w2 => ?_
    cases q : delIx W2 x k with
    | none => simp only [q] at w2; exact w2.elim
    | some z =>
      obtain ⟨y, W4⟩ := z
      simp only [q] at w2
      obtain ⟨a, v, H', rfl, d, _, g, c'⟩ := del_at c2 (g2.rv r1) r2 q
      exact ⟨a, v, H', rfl, d, w2 _ _ _ _ g c' (((e.up g1).up g2).up g)⟩
end
end DL

set_option Elab.async false
set_option linter.all false
set_option maxRecDepth 100000
set_option maxHeartbeats 4000000
/-! ## methods of what is built in -/
namespace DL
open PySem PySem.Spec PyProof.Rows L2
/-- of the type T -/
def tyA (K : PySem.W.Frag) (w : World) (T : String) (x : V) (H : Hp) : Prop := tyV K T x H ∨ (T = "dict" ∧ ∃ a, x = .ref a ∧ ((∃ kvs, Rd H a (.dK kvs)) ∨ ∃ kvs, Rd H a (dN w a kvs) ∧ NkAll H kvs))
def tAM (K : PySem.W.Frag) (w : World) (T : String) (r : V → List V → Hp → VK → Prop) (to : TE) (t : TA) : TE := fun σ H Q => to σ H fun x H1 => tyA K w T x H1 ∧ t σ H1 fun xs H2 => r x xs H2 Q
section
variable {X : Cx} {pins : List (Addr × Obj)} {σ : L2.St} {H : Hp} {s : Shared} {T id : String} {x : V} {v : Value}
theorem tyA_is (I : Inv X pins σ H s) (r : RelV x v) (ty : tyA X.K X.w T x H) : s.TypeIs v T ∧ ∀ a, v = .ref a → ∃ ob, s.heap.get? a = some ob ∧ ob.dict = none := by
  rcases ty with ty | ⟨rfl, a, rfl, ⟨kvs, e⟩ | ⟨kvs, e, hk⟩⟩
  · exact tyV_is I r ty
  · cases r
    obtain ⟨_, _, vs, _, dd⟩ := dk_rd I.hok e
    refine ⟨dd.typeIs, fun c z => ?_⟩
    cases z
    obtain ⟨ob, _, _, k1, k2, _⟩ := dd
    exact ⟨ob, k1, k2.2.1⟩
  · cases r
    obtain ⟨_, _, us, _, dd⟩ := dn_rd I.hok e hk
    refine ⟨dd.typeIs, fun c z => ?_⟩
    cases z
    obtain ⟨ob, _, _, k1, k2, _⟩ := dd
    exact ⟨ob, k1, k2.2.1⟩
variable {o e : Expr} {es : List Expr} {to : TE} {t : TA} {name : Str} {apos cpos : Pos} {r : V → List V → Hp → VK → Prop}
theorem pe_am0 (K : PySem.W.Frag) (w : World) (pa : PlainAttrs T) (slot : Slot T name id) (hty : typeOf (.builtin id) = pure (.type "method_descriptor")) (hm : MtR X id r) (ho : PE X o to) (hK : X.K = K := by rfl) (hw : X.w = w := by rfl)
    (hbase : attributeBase o name X.env (eval o X.env) = eval o X.env := by rfl) (hline : (apos.endLine == cpos.line) = true := by rfl) : PE X (.Call (.Attribute o name apos) [] [] cpos) (tAM K w T r to tNil) := by
  subst hK hw
  constructor
  intro pins s σ H Q I h
  refine wpAny_Call_method0_late hbase hline (thn (ho.run pins s σ H _ I h) fun v s1 z => ?_)
  obtain ⟨x, H1, I1, r1, ty, q1⟩ := z
  obtain ⟨t1, t2⟩ := tyA_is I1 r1 ty
  exact ⟨T, id, pa, slot, hty, t1, t2, Calls.callWith_builtin rfl (PySem.evalArgs_none (hm pins s1 σ H1 x [] v [] Q I1 r1 .nil q1))⟩
theorem pe_am (K : PySem.W.Frag) (w : World) (pa : PlainAttrs T) (slot : Slot T name id) (hty : typeOf (.builtin id) = pure (.type "method_descriptor")) (hm : MtR X id r) (ho : PE X o to) (ha : PA X (e :: es) t) (hK : X.K = K := by rfl) (hw : X.w = w := by rfl)
    (hbase : attributeBase o name X.env (eval o X.env) = eval o X.env := by rfl)
    (hfew : ((backTo cpos (starEach (e :: es) X.env)).all (fun x => !x.1) && (backToKw cpos (keywordEach [] X.env)).all (fun x => x.1.isSome) && decide ((e :: es).length + ([] : List Keyword).length + (if ([] : List Keyword).isEmpty then 0 else 1) < 30)) = true := by rfl)
    (hline : (apos.endLine == cpos.line) = true := by rfl) (hs : starEach (e :: es) X.env = (false, eval e X.env) :: starEach es X.env := by rfl) (hplain : (backTo cpos (starEach es X.env)).any (·.1) = false := by rfl) :
    PE X (.Call (.Attribute o name apos) (e :: es) [] cpos) (tAM K w T r to t) := by
  subst hK hw
  constructor
  intro pins s σ H Q I h
  refine wpAny_Call_method_late hbase hfew hline rfl (thn (ho.run pins s σ H _ I h) fun v s1 z => ?_)
  obtain ⟨x, H1, I1, r1, ty, q1⟩ := z
  obtain ⟨t1, t2⟩ := tyA_is I1 r1 ty
  refine ⟨T, id, pa, slot, hty, t1, t2, ?_⟩
  have aa := ha.run cpos pins s1 σ H1 _ I1 q1
  rw [hs] at aa ⊢
  have pl : ((false, eval e X.env) :: backTo cpos (starEach es X.env)).any (·.1) = false := by
    rw [List.any_cons, hplain]
    rfl
  refine Calls.callWith_builtin pl (Calls.evalArgs_plain ?_)
  exact thn aa fun us s2 z => by
    obtain ⟨vs, H2, I2, r2, q2⟩ := z
    exact hm pins s2 σ H2 x vs v us Q I2 r1 r2 q2
/-! ### of dicts -/
def rGet (w : World) : V → List V → Hp → VK → Prop := fun x xs H Q => (∃ a y o, x = .ref a ∧ xs = [y] ∧ GetA w H a y o ∧ Q (o.getD .non) H) ∨ ∃ a y z o, x = .ref a ∧ xs = [y, z] ∧ GetA w H a y o ∧ Q (o.getD z) H
theorem mtGet (w : World) (hu : X.A.units + 16 < cLine) (hw : X.w = w := by rfl) : MtR X "dict.get" (rGet w) := by
  subst hw
  intro pins s σ H x xs v us Q I rx rs h
  rcases h with ⟨a, y, o, rfl, rfl, g, q⟩ | ⟨a, y, z, o, rfl, rfl, g, q⟩
  · obtain ⟨u, rfl, ru⟩ := Vals.one rs
    cases rx
    exact a_get1 hu I g ru fun w' s' I' r' => ⟨_, H, I', r', q⟩
  · obtain ⟨u, u2, rfl, ru, ru2⟩ := Vals.two rs
    cases rx
    exact a_get2 hu I g ru ru2 fun w' s' I' r' => ⟨_, H, I', r', q⟩
def rDPop (w : World) : V → List V → Hp → VK → Prop := fun x xs H Q => ∃ a y v H', x = .ref a ∧ (xs = [y] ∨ ∃ z, xs = [y, z]) ∧ DelA w H a y v H' ∧ Q v H'
theorem mtDPop (w : World) (hu : X.A.units + 16 < cLine) (hw : X.w = w := by rfl) : MtR X "dict.pop" (rDPop w) := by
  subst hw
  intro pins s σ H x xs v us Q I rx rs h
  obtain ⟨a, y, v', H', rfl, hx, g, q⟩ := h
  cases rx
  rcases hx with rfl | ⟨z, rfl⟩
  · obtain ⟨u, rfl, ru⟩ := Vals.one rs
    exact a_pop hu I g ru (.inl rfl) fun w' s' I' r' => ⟨_, _, I', r', q⟩
  · obtain ⟨u, u2, rfl, ru, ru2⟩ := Vals.two rs
    exact a_pop hu I g ru (.inr ⟨u2, rfl⟩) fun w' s' I' r' => ⟨_, _, I', r', q⟩
def rSetDf (w : World) : V → List V → Hp → VK → Prop := fun x xs H Q => ∃ a y z, x = .ref a ∧ xs = [y, z] ∧
  ((∃ kvs k, H a = some (.dK kvs) ∧ y = kV k ∧ kvs.length < sizeLine ∧ (∀ v, valV kvs k = some v → Q v H) ∧ (valV kvs k = none → Q z (upd H a (.dK (putK kvs k z))))) ∨
   ∃ ns nk b, (H a = some (dN w a ns) ∨ (H a = some (.dK []) ∧ ns = [])) ∧ NkAll H ns ∧ y = .ref b ∧ Nk H (.ref b) nk ∧ nk.depth ≤ 8 ∧ ns.length < sizeLine ∧ (∀ v, valN ns nk = some v → Q v H) ∧ (valN ns nk = none → Q z (upd H a (dN w a (putN ns nk b z)))))
theorem mtSetDf (w : World) (hu : X.A.units + 16 < cLine) (hw : X.w = w := by rfl) : MtR X "dict.setdefault" (rSetDf w) := by
  subst hw
  intro pins s σ H x xs v us Q I rx rs h
  obtain ⟨a, y, z, rfl, rfl, h⟩ := h
  obtain ⟨u, u2, rfl, ru, ru2⟩ := Vals.two rs
  cases rx
  rcases h with ⟨kvs, k, e, rfl, hl, h1, h2⟩ | ⟨ns, nk, b, g, hk, rfl, hb, hd, hl, h1, h2⟩
  · obtain ⟨hz, hm, vs, rel, dd⟩ := dk_of I.hok e
    refine call_meetsIn PySem.F.slot_dict_setdefault dd.typeIs PySem.F.entry_dict_setdefault (PySem.F.args_dict_setdefault_3 _ _ _) (kt_meets_setdefault (mixKind X.prog X.w) _ (kV_is ru) hm _) ⟨vs, dd, by rw [← rel.length]; exact hz, fun p hp => ?_, fun hn h' dd' hs => ?_⟩
    · have rr := rel.val k
      rw [hp] at rr
      cases hv : valV kvs k with
      | none => rw [hv] at rr; exact False.elim rr
      | some x => rw [hv] at rr; exact ⟨x, H, I.tok _, rr, h1 x hv⟩
    · have rr := rel.val k
      rw [hn] at rr
      cases hv : valV kvs k with
      | some x => rw [hv] at rr; exact False.elim rr
      | none =>
        have he : ∃ q, h'.get? a = some q := let ⟨q, _, _, hq, _⟩ := dd'; ⟨q, hq⟩
        have hl2 : (putK kvs k z).length ≤ sizeLine := by have := length_putK kvs k z; omega
        exact ⟨z, _, d_write I (by rw [e]; exact True.intro) hs he (dk_new hl2 hm (rel.put k ru2) dd'), ru2, h2 hv⟩
  · cases (show u = Value.ref b from ru)
    obtain ⟨g1, mu⟩ := rds_of g
    obtain ⟨z1, hm, us, rel, dd⟩ := getA_of I g1 hk
    have hl2 : (putN ns nk b z).length ≤ sizeLine := by have := length_putN ns nk b z; omega
    have rr := xu_val rel nk
    refine call_setdefault_heap (hsz := by rw [← Paired.length rel]; exact z1) (nk_room (X := X) hu) (nk_key I.hok hb hd) hm dd (fun p hp => ?_) fun hn h' dd' hs => ?_
    · rw [hp] at rr
      cases hv : valN ns nk with
      | none => rw [hv] at rr; exact False.elim rr
      | some x => rw [hv] at rr; exact ⟨x, H, I.tok _, rr, h1 x hv⟩
    · rw [hn] at rr
      cases hv : valN ns nk with
      | some x => rw [hv] at rr; exact False.elim rr
      | none =>
        have he : ∃ q, h'.get? a = some q := let ⟨q, _, _, hq, _⟩ := dd'; ⟨q, hq⟩
        exact ⟨z, _, d_write I mu hs he (dn_ok hl2 hm (xu_put rel nk ru2) dd'), ru2, h2 hv⟩
end
end DL

set_option Elab.async false
set_option linter.all false
set_option maxRecDepth 100000
set_option maxHeartbeats 4000000
/-! ## methods as data -/
namespace DL
open PySem PySem.Spec PyProof.Rows L2
abbrev FM := Ms → Vl → List Vl → Res Vl
def eMt (ty : Ms → Vl → Bool) (g : FM) (fo : FE) (fs : FA) : FE := fun ρ W => (fo ρ W).bind fun x W1 => if ty W1 x = true then (fs ρ W1).bind fun xs W2 => g W2 x xs else .stuck
def tyLst (W : Ms) (x : Vl) : Bool := (lstOf W x).isSome
def tyDct (W : Ms) (x : Vl) : Bool := (dctOf W x).isSome
def tyStr (_ : Ms) (x : Vl) : Bool := (strOf x).isSome
noncomputable def getM : FM := fun W x xs => match dctOf W x with
  | some l => (match xs with
    | [.d k] => if okKey l k = true then .ok ((getK l k).getD (.d .non)) W else .stuck
    | [.d k, z] => if okKey l k = true then .ok ((getK l k).getD z) W else .stuck
    | _ => .stuck)
  | none => .stuck
noncomputable def dpopM : FM := fun W x xs => match xs with
  | [k] => (match delIx W x k with
    | some (v, W') => .ok v W'
    | none => .stuck)
  | [k, _] => (match delIx W x k with
    | some (v, W') => .ok v W'
    | none => .stuck)
  | _ => .stuck
noncomputable def setDfM : FM := fun W x xs => match x, xs with
  | .mu n, [.d k, z] => (match W[n]? with
    | some (.dct l) => if okKey l k = true ∧ l.length < sizeLine then (match getK l k with
      | some v => .ok v W
      | none => .ok z (W.set n (.dct (putKD k z l)))) else .stuck
    | _ => .stuck)
  | _, _ => .stuck
def lstMu (W : Ms) (x : Vl) : Option (Nat × List Vl) := match x with
  | .mu n => (match W[n]? with
    | some (.lst l) => some (n, l)
    | _ => none)
  | _ => none
def appM : FM := fun W x xs => match lstMu W x with
  | some (n, l) => (match xs with
    | [y] => if l.length < sizeLine then .ok (.d .non) (W.set n (.lst (l ++ [y]))) else .stuck
    | _ => .stuck)
  | none => .stuck
def extM : FM := fun W x xs => match lstMu W x with
  | some (n, l) => (match xs with
    | [y] => (match seqOf W y with
      | some r => if l.length + r.length ≤ sizeLine then .ok (.d .non) (W.set n (.lst (l ++ r))) else .stuck
      | none => .stuck)
    | _ => .stuck)
  | none => .stuck
def popM : FM := fun W x xs => match lstMu W x with
  | some (n, l) => (match xs with
    | [] => (match l[l.length - 1]? with
      | some y => .ok y (W.set n (.lst l.dropLast))
      | none => .stuck)
    | [.d (.int i)] => if -(2 ^ 63) ≤ i ∧ i < 2 ^ 63 then (match seqIndex? i l.length with
      | some k => (match l[k]? with
        | some y => .ok y (W.set n (.lst (l.eraseIdx k)))
        | none => .stuck)
      | none => .stuck) else .stuck
    | _ => .stuck)
  | none => .stuck
section
variable {K : Fr} {TB : List (Addr × Str)} {E : XK}
abbrev MethD (K : Fr) (TB : List (Addr × Str)) (r : V → List V → Hp → VK → Prop) (g : FM) : Prop :=
  ∀ (E : XK) (ws : List Addr) (G H : Hp) (W : Ms) (x : V) (xs : List V) (a : Vl) (as : List Vl) (Q : VK), Cf K TB ws G H W → RpV K ws G x a → RpVs K ws G xs as → Wish K TB (RV K) E ws G H Q (g W a as) → r x xs H Q
abbrev TyD (K : Fr) (TB : List (Addr × Str)) (T : String) (ty : Ms → Vl → Bool) : Prop :=
  ∀ (ws : List Addr) (G H : Hp) (W : Ms) (x : V) (a : Vl), Cf K TB ws G H W → RpV K ws G x a → ty W a = true → tyA K.K K.w T x H
theorem s_mt {T : String} {ty : Ms → Vl → Bool} {r : V → List V → Hp → VK → Prop} {g : FM} {to : TE} {t : TA} {fo : FE} {fs : FA} (ht : TyD K TB T ty) (hg : MethD K TB r g) (ho : SE K TB E to fo) (ha : SA K TB E t fs) : SE K TB E (tAM K.K K.w T r to t) (eMt ty g fo fs) := by
  intro σ ws G H ρ W Q e c w
  refine ho.go (R := RV K) e c w fun x a W1 ws1 G1 H1 g1 c1 r1 w1 => ?_
  split at w1
  · rename_i h
    refine ⟨ht _ _ _ _ _ _ c1 r1 h, ?_⟩
    refine ha.go (R := RV K) (e.up g1) c1 w1 fun xs as W2 ws2 G2 H2 g2 c2 r2 w2 => ?_
    exact hg E _ _ _ _ _ _ _ _ _ c2 (g2.rv r1) r2 w2
  · exact w1.elim
theorem ty_lst : TyD K TB "list" tyLst := fun ws G H W x a c r h => by
  unfold tyLst at h
  cases q : lstOf W a with
  | none => rw [q] at h; cases h
  | some l =>
    obtain ⟨p, vs, rfl, e, _⟩ := lst_at c r q
    exact .inl (.inl ⟨rfl, vs, SqL.of e⟩)
theorem ty_dct : TyD K TB "dict" tyDct := fun ws G H W x a c r h => by
  unfold tyDct at h
  cases q : dctOf W a with
  | none => rw [q] at h; cases h
  | some l =>
    obtain ⟨p, rfl, hd⟩ := dct_at c r q
    refine .inr ⟨rfl, p, rfl, ?_⟩
    rcases hd with ⟨kvs, e, _⟩ | ⟨kvs, e, rn, _⟩
    · exact .inl ⟨kvs, e⟩
    · exact .inr ⟨kvs, e, nk_all c.g rn⟩
theorem ty_str : TyD K TB "str" tyStr := fun ws G H W x a c r h => by
  unfold tyStr at h
  cases q : strOf a with
  | none => rw [q] at h; cases h
  | some l =>
    cases strOf_at r q
    exact .inl rfl
theorem m_get : MethD K TB (rGet K.w) getM := fun E ws G H W x xs a as Q c rx rs w => by
  unfold getM at w
  cases q : dctOf W a with
  | none => simp only [q] at w; exact w.elim
  | some l =>
    simp only [q] at w
    split at w
    · rename_i k
      obtain ⟨y, rfl, ry⟩ := one_of rs
      split at w
      · rename_i hk
        obtain ⟨p, rfl, g0, g1⟩ := get_at c rx q ry hk
        cases z : getK l k with
        | none => rw [z] at w; exact .inl ⟨p, y, none, rfl, rfl, g0 z, w.ok c (.d .non)⟩
        | some u =>
          rw [z] at w
          obtain ⟨v, g2, r2⟩ := g1 u z
          exact .inl ⟨p, y, some v, rfl, rfl, g2, w.ok c r2⟩
      · exact w.elim
    · rename_i k zz
      obtain ⟨y, y2, rfl, ry, ry2⟩ := two_of rs
      split at w
      · rename_i hk
        obtain ⟨p, rfl, g0, g1⟩ := get_at c rx q ry hk
        cases z : getK l k with
        | none => rw [z] at w; exact .inr ⟨p, y, y2, none, rfl, rfl, g0 z, w.ok c ry2⟩
        | some u =>
          rw [z] at w
          obtain ⟨v, g2, r2⟩ := g1 u z
          exact .inr ⟨p, y, y2, some v, rfl, rfl, g2, w.ok c r2⟩
      · exact w.elim
    · exact w.elim
theorem m_dpop : MethD K TB (rDPop K.w) dpopM := fun E ws G H W x xs a as Q c rx rs w => by
  unfold dpopM at w
  split at w
  · rename_i k
    obtain ⟨y, rfl, ry⟩ := one_of rs
    cases q : delIx W a k with
    | none => simp only [q] at w; exact w.elim
    | some z =>
      obtain ⟨u, W'⟩ := z
      simp only [q] at w
      obtain ⟨p, v, H', rfl, d, rv, g, c'⟩ := del_at c rx ry q
      exact ⟨p, y, v, H', rfl, .inl rfl, d, w v ws G H' g c' rv⟩
  · rename_i k zz
    obtain ⟨y, y2, rfl, ry, ry2⟩ := two_of rs
    cases q : delIx W a k with
    | none => simp only [q] at w; exact w.elim
    | some z =>
      obtain ⟨u, W'⟩ := z
      simp only [q] at w
      obtain ⟨p, v, H', rfl, d, rv, g, c'⟩ := del_at c rx ry q
      exact ⟨p, y, v, H', rfl, .inr ⟨y2, rfl⟩, d, w v ws G H' g c' rv⟩
  · exact w.elim
theorem m_setDf : MethD K TB (rSetDf K.w) setDfM := fun E ws G H W x xs a as Q c rx rs w => by
  unfold setDfM at w
  split at w
  · rename_i n k zz
    obtain ⟨y, y2, rfl, ry, ry2⟩ := two_of rs
    cases rx with
    | mu e =>
    rename_i p
    cases q : W[n]? with
    | none => simp only [q] at w; exact w.elim
    | some m =>
      cases m with
      | dct l =>
        simp only [q] at w
        split at w
        · rename_i hh
          obtain ⟨hk, hl⟩ := hh
          have hkd : kindOk l k = true := by
            simp only [okKey, Bool.and_eq_true] at hk
            exact hk.2
          obtain ⟨_, hm⟩ := c.ob n p _ e q (by simp)
          refine ⟨p, y, y2, rfl, rfl, ?_⟩
          rcases key_cases c ry hk with ⟨kk, rfl, rfl, ht⟩ | ⟨b, nk, rfl, rb, hn, hd, hnk, ht⟩
          · rcases hm with ⟨kvs, e1, rk⟩ | ⟨kvs, e1, rn, nl⟩
            · obtain ⟨g1, g2⟩ := vk_get kk rk
              refine .inl ⟨kvs, kk, e1, rfl, by rw [Paired.length rk]; exact hl, fun v hv => ?_, fun hv => ?_⟩
              · cases z : getK l (kD kk) with
                | none => rw [g1 z] at hv; cases hv
                | some u =>
                  rw [z] at w
                  obtain ⟨v', h1, h2⟩ := g2 u z
                  rw [h1] at hv
                  cases hv
                  exact w.ok c h2
              · cases z : getK l (kD kk) with
                | some u =>
                  obtain ⟨v', h1, h2⟩ := g2 u z
                  rw [h1] at hv
                  cases hv
                | none =>
                  rw [z] at w
                  exact w _ _ _ _ (Gr.put e ⟨_, e1, nf_dK⟩) (c.put e q (by simp) (.inl ⟨_, upd_same, vk_put ry2 rk⟩)) ry2
            · exact absurd hkd (vn_kind rn nl ht)
          · rcases hm with ⟨kvs, e1, rk⟩ | ⟨kvs, e1, rn, nl⟩
            · obtain ⟨rfl, rfl⟩ := vk_kind rk hkd ht
              refine .inr ⟨[], nk, b, .inr ⟨e1, rfl⟩, (fun _ z => nomatch z), rfl, hnk, hd, hl, (fun v hv => nomatch hv), fun hv => ?_⟩
              exact w _ _ _ _ (Gr.put e ⟨_, e1, nf_dK⟩) (c.put e q (by simp) (.inr ⟨_, upd_same, vn_put hn hd rb ry2 .nil, put_ne⟩)) ry2
            · obtain ⟨g1, g2⟩ := vn_get hn rn
              refine .inr ⟨kvs, nk, b, .inl e1, nk_all c.g rn, rfl, hnk, hd, by rw [Paired.length rn]; exact hl, fun v hv => ?_, fun hv => ?_⟩
              · cases z : getK l k with
                | none => rw [g1 z] at hv; cases hv
                | some u =>
                  rw [z] at w
                  obtain ⟨v', h1, h2⟩ := g2 u z
                  rw [h1] at hv
                  cases hv
                  exact w.ok c h2
              · cases z : getK l k with
                | some u =>
                  obtain ⟨v', h1, h2⟩ := g2 u z
                  rw [h1] at hv
                  cases hv
                | none =>
                  rw [z] at w
                  exact w _ _ _ _ (Gr.put e ⟨_, e1, nf_dN⟩) (c.put e q (by simp) (.inr ⟨_, upd_same, vn_put hn hd rb ry2 rn, put_ne⟩)) ry2
        · exact w.elim
      | _ => simp only [q] at w; exact w.elim
  · exact w.elim
theorem lstMu_at {ws : List Addr} {G H : Hp} {W : Ms} {x : V} {a : Vl} {n : Nat} {l : List Vl} (c : Cf K TB ws G H W) (r : RpV K ws G x a) (h : lstMu W a = some (n, l)) :
    ∃ p vs, x = .ref p ∧ H p = some (.lst vs) ∧ RpVs K ws G vs l ∧ ∀ vs' l', RpVs K ws G vs' l' → Gr ws G H ws G (upd H p (.lst vs')) ∧ Cf K TB ws G (upd H p (.lst vs')) (W.set n (.lst l')) := by
  unfold lstMu at h
  cases r with
  | d _ => cases h
  | @mu p k e =>
    cases q : W[k]? with
    | none => simp only [q] at h; cases h
    | some m =>
      cases m with
      | lst l1 =>
        simp only [q] at h
        cases h
        obtain ⟨_, vs, e1, rl⟩ := c.ob n p _ e q (by simp)
        exact ⟨p, vs, rfl, e1, rl, fun vs' l' r' => ⟨Gr.put e ⟨_, e1, nf_lst⟩, c.put e q (by simp) ⟨vs', upd_same, r'⟩⟩⟩
      | _ => simp only [q] at h; cases h
theorem m_app : MethD K TB rAppend appM := fun E ws G H W x xs a as Q c rx rs w => by
  unfold appM at w
  cases q : lstMu W a with
  | none => simp only [q] at w; exact w.elim
  | some z =>
    obtain ⟨n, l⟩ := z
    simp only [q] at w
    split at w
    · obtain ⟨y, rfl, ry⟩ := one_of rs
      split at w
      · rename_i hl
        obtain ⟨p, vs, rfl, e, rv, f⟩ := lstMu_at c rx q
        obtain ⟨g, c'⟩ := f _ _ (Paired.app rv (.cons ry .nil))
        exact ⟨p, vs, y, rfl, rfl, e, by rw [Paired.length rv]; exact hl, w _ _ _ _ g c' (.d .non)⟩
      · exact w.elim
    · exact w.elim
def rExtA (K : PySem.W.Frag) : V → List V → Hp → VK → Prop := fun x xs H Q => rExtend x xs H Q ∨ rExtT K x xs H Q
theorem mtExt {X : Cx} (K : PySem.W.Frag) (hK : X.K = K := by rfl) : MtR X "list.extend" (rExtA K) := MtR.or (id := "list.extend") mt_extend (mt_extendT K hK)
theorem m_ext : MethD K TB (rExtA K.K) extM := fun E ws G H W x xs a as Q c rx rs w => by
  unfold extM at w
  cases q : lstMu W a with
  | none => simp only [q] at w; exact w.elim
  | some z =>
    obtain ⟨n, l⟩ := z
    simp only [q] at w
    split at w
    · rename_i b
      obtain ⟨y, rfl, ry⟩ := one_of rs
      cases q2 : seqOf W b with
      | none => simp only [q2] at w; exact w.elim
      | some r =>
        simp only [q2] at w
        split at w
        · rename_i hl
          obtain ⟨p, vs, rfl, e, rv, f⟩ := lstMu_at c rx q
          unfold seqOf at q2
          cases q3 : lstOf W b with
          | some l2 =>
            rw [q3] at q2
            cases q2
            obtain ⟨p2, us, rfl, e2, ru⟩ := lst_at c ry q3
            obtain ⟨g, c'⟩ := f _ _ (Paired.app rv ru)
            exact .inl ⟨p, p2, vs, us, rfl, rfl, e, e2, by rw [Paired.length rv, Paired.length ru]; exact hl, w _ _ _ _ g c' (.d .non)⟩
          | none =>
            rw [q3] at q2
            cases q4 : tupOf b with
            | none => simp [q4] at q2
            | some l' =>
              simp [q4] at q2
              subst q2
              obtain ⟨p2, us, rfl, _, hs, ru⟩ := tup_rp c ry q4
              obtain ⟨g, c'⟩ := f _ _ (Paired.app rv ru.vs)
              exact .inr ⟨p, p2, vs, us, rfl, rfl, e, hs, by rw [Paired.length rv, Paired.length (RpL.vs (ws := ws) ru)]; exact hl, w _ _ _ _ g c' (.d .non)⟩
        · exact w.elim
    · exact w.elim
theorem paired_take {α β : Type} {F : α → β → Prop} : ∀ {l : List α} {r : List β} (n : Nat), Paired F l r → Paired F (l.take n) (r.take n)
  | _, _, _, .nil => by simpa using .nil
  | _, _, 0, .cons _ _ => .nil
  | _, _, n + 1, .cons a t => .cons a (paired_take n t)
theorem paired_drop {α β : Type} {F : α → β → Prop} : ∀ {l : List α} {r : List β} (n : Nat), Paired F l r → Paired F (l.drop n) (r.drop n)
  | _, _, _, .nil => by simpa using .nil
  | _, _, 0, .cons a t => .cons a t
  | _, _, n + 1, .cons _ t => paired_drop n t
theorem paired_erase {α β : Type} {F : α → β → Prop} : ∀ {l : List α} {r : List β} (n : Nat), Paired F l r → Paired F (l.eraseIdx n) (r.eraseIdx n)
  | _, _, _, .nil => by simpa using .nil
  | _, _, 0, .cons _ t => t
  | _, _, n + 1, .cons a t => .cons a (paired_erase n t)
theorem m_pop : MethD K TB (fun x xs H Q => rPop x xs H Q ∨ rPopAt x xs H Q) popM := fun E ws G H W x xs a as Q c rx rs w => by
  unfold popM at w
  cases q : lstMu W a with
  | none => simp only [q] at w; exact w.elim
  | some z =>
    obtain ⟨n, l⟩ := z
    simp only [q] at w
    obtain ⟨p, vs, rfl, e, rv, f⟩ := lstMu_at c rx q
    split at w
    · cases rs
      cases z : l[l.length - 1]? with
      | none => simp only [z] at w; exact w.elim
      | some y =>
        simp only [z] at w
        obtain ⟨u, h1, h2⟩ := Paired.at' rv z
        have rd : RpVs K ws G vs.dropLast l.dropLast := by
          rw [List.dropLast_eq_take, List.dropLast_eq_take, Paired.length rv]
          exact paired_take _ rv
        obtain ⟨g, c'⟩ := f _ _ rd
        exact .inl ⟨p, vs, u, rfl, rfl, e, by rw [Paired.length rv]; exact h1, w _ _ _ _ g c' h2⟩
    · rename_i i
      obtain ⟨y, rfl, ry⟩ := one_of rs
      cases ry with
      | d ry =>
      cases ry
      split at w
      · rename_i hi
        cases z : seqIndex? i l.length with
        | none => simp only [z] at w; exact w.elim
        | some k =>
          simp only [z] at w
          cases z2 : l[k]? with
          | none => simp only [z2] at w; exact w.elim
          | some y =>
            simp only [z2] at w
            obtain ⟨u, h1, h2⟩ := Paired.at' rv z2
            obtain ⟨g, c'⟩ := f _ _ (paired_erase k rv)
            exact .inr ⟨p, vs, i, k, u, rfl, rfl, e, hi.1, hi.2, by rw [Paired.length rv]; exact z, h1, w _ _ _ _ g c' h2⟩
      · exact w.elim
    · exact w.elim
end
end DL

set_option Elab.async false
set_option linter.all false
set_option maxRecDepth 100000
set_option maxHeartbeats 4000000
/-! ## cuts, texts written, chains, fields changed -/
namespace DL
open PySem PySem.Spec PyProof.Rows L2
/-! ### cuts -/
def cutL {α : Type} (xs : List α) (lo hi : Option Int) : List α := (xs.drop (HT.sIx xs.length 0 lo)).take (HT.sIx xs.length xs.length hi - HT.sIx xs.length 0 lo)
def lstSq (W : Ms) : Vl → Option (List Vl)
  | .d (.lstK l) => some (l.map Vl.d)
  | x => lstOf W x
def slD (W : Ms) (x : Vl) (lo hi : Option Int) : Res Vl := match lstSq W x with
  | some l => mkLst (cutL l lo hi) W
  | none => (match tupOf x with
    | some l => if HT.sIx l.length 0 lo = 0 ∧ HT.sIx l.length l.length hi = l.length then .ok x W else mkTup (cutL (l.map Vl.d) lo hi) W
    | none => (match strOf x with
      | some s => if s.length ≤ 1000000 then .ok (.d (.str (cutS s lo hi))) W else .stuck
      | none => .stuck))
abbrev FO := Ev → Ms → Res (Option Int)
def pNo : FO := fun _ W => .ok none W
def pSome (f : FE) : FO := fun ρ W => (f ρ W).bind fun x W1 => match intOf x with
  | some i => .ok (some i) W1
  | none => .stuck
def eSl (f : FE) (lo hi : FO) : FE := fun ρ W => (f ρ W).bind fun x W1 => (lo ρ W1).bind fun l W2 => (hi ρ W2).bind fun h W3 => slD W3 x l h
def rSlAll (K : PySem.W.Frag) : V → Option Int → Option Int → Hp → VK → Prop := fun x lo hi H Q => rSlL K x lo hi H Q ∨ rSlA K x lo hi H Q ∨ rSlS x lo hi H Q
theorem slAll {X : Cx} (K : PySem.W.Frag) (hK : X.K = K := by rfl) : SlR X (rSlAll K) := by
  subst hK
  intro pins s σ H x v vl vu lo hi sl Q I rx hs pl pu q
  rcases q with q | q | q
  · exact sl_list pins s σ H x v vl vu lo hi sl Q I rx hs pl pu q
  · exact sl_tupA pins s σ H x v vl vu lo hi sl Q I rx hs pl pu q
  · exact sl_str pins s σ H x v vl vu lo hi sl Q I rx hs pl pu q
/-! ### texts written -/
def fmtD (W : Ms) (x : Vl) : Res Vl := match strOf x with
  | some s => if s.length ≤ 1000000 then .ok x W else .stuck
  | none => (match intOf x with
    | some i => if i.natAbs.log2 < 1920 then .ok (.d (.str (toString i))) W else .stuck
    | none => .stuck)
def eFmt (f : FE) : FE := eUn fmtD f
def fJs : List FE → Str → Ev → Ms → Res Str
  | [], acc, _, W => .ok acc W
  | f :: fs, acc, ρ, W => (f ρ W).bind fun x W1 => match strOf x with
    | some y => if (acc ++ y).length ≤ sizeLine then fJs fs (acc ++ y) ρ W1 else .stuck
    | none => .stuck
def eJoin (fs : List FE) : FE := fun ρ W => (fJs fs Str.empty ρ W).bind fun s W1 => .ok (.d (.str s)) W1
/-! ### a < b < c -/
def eChain (g g' : Ms → Vl → Vl → Res Vl) (fa fb fc : FE) : FE := fun ρ W => (fa ρ W).bind fun x W1 => (fb ρ W1).bind fun y W2 => (g W2 x y).bind fun z W3 => match blOf z with
  | some k => if k = true then (fc ρ W3).bind fun w W4 => g' W4 y w else .ok (.d (.bl false)) W3
  | none => .stuck
/-! ### e.f op= v -/
def insMu (W : Ms) (x : Vl) : Option (Addr × List (Str × Vl)) := match x with
  | .mu n => (match W[n]? with
    | some (.ins C l) => some (C, l)
    | _ => none)
  | _ => none
def sFldAugD (C : Addr) (f : Str) (fx : FE) (g : Ms → Vl → Vl → Res Vl) (fy : FE) : FS := fun ρ W => (fx ρ W).bindS fun x W1 => match insMu W1 x with
  | some (C', l) => if C' = C then (match l.lookup f with
    | some v => ((fy ρ W1).bindS fun y W2 => (g W2 v y).bindS fun z W3 => match setFld C f W3 z x with
      | some W4 => .nx ρ W4
      | none => .stuck)
    | none => .stuck) else .stuck
  | none => .stuck
section
variable {K : Fr} {TB : List (Addr × Str)} {E : XK}
abbrev SO (K : Fr) (TB : List (Addr × Str)) (E : XK) (t : TO) (f : FO) : Prop := Snd K TB (fun _ _ _ b x => b = x) E t f
theorem s_po0 : SO K TB E tNoPart pNo := fun σ ws G H ρ W Q e c w => w.ok c rfl
theorem s_po {te : TE} {f : FE} (h : SE K TB E te f) : SO K TB E (tPart te) (pSome f) := fun σ ws G H ρ W Q e c w => by
  refine h.go (R := fun _ _ _ b x => b = x) e c w fun x a W1 ws1 G1 H1 g1 c1 r1 w1 => ?_
  cases q : intOf a with
  | none => rw [q] at w1; exact w1.elim
  | some i =>
    rw [q] at w1
    exact ⟨i, intOf_at r1 q, w1.ok c1 rfl⟩
theorem cut_rel {α β : Type} {F : α → β → Prop} {l : List α} {r : List β} (h : Paired F l r) (lo hi : Option Int) : Paired F (cutL l lo hi) (cutL r lo hi) := by
  unfold cutL
  rw [Paired.length h]
  exact paired_take _ (paired_drop _ h)
theorem lstSq_at {ws : List Addr} {G H : Hp} {W : Ms} {v : V} {x : Vl} {l : List Vl} (c : Cf K TB ws G H W) (r : RpV K ws G v x) (h : lstSq W x = some l) : ∃ a vs, v = .ref a ∧ SqL K.K H a vs ∧ RpVs K ws G vs l := by
  unfold lstSq at h
  split at h
  · cases h
    cases r with
    | d r =>
      cases r with
      | lstK e rl => exact ⟨_, _, rfl, (Rds.of c.g (K := K)).L _ _ e, rl.vs⟩
  · obtain ⟨a, vs, e, h1, h2⟩ := lst_at c r h
    exact ⟨a, vs, e, SqL.of h1, h2⟩
theorem sl_at {ws : List Addr} {G H : Hp} {W : Ms} {x : V} {a : Vl} {lo hi : Option Int} {Q : VK} (c : Cf K TB ws G H W) (rx : RpV K ws G x a) (w : Wish K TB (RV K) E ws G H Q (slD W a lo hi)) : rSlAll K.K x lo hi H Q := by
  unfold slD at w
  cases q : lstSq W a with
  | some l =>
    simp only [q] at w
    obtain ⟨p, vs, rfl, e, rv⟩ := lstSq_at c rx q
    exact .inl ⟨p, vs, rfl, e, (mk_lst c (cut_rel rv lo hi) w).2⟩
  | none =>
    simp only [q] at w
    cases q2 : tupOf a with
    | some l =>
      simp only [q2] at w
      obtain ⟨p, vs, rfl, _, hs, rl⟩ := tup_rp c rx q2
      have rv := RpL.vs (ws := ws) rl
      have hl : vs.length = l.length := by rw [Paired.length rv, List.length_map]
      refine .inr (.inl ⟨p, vs, rfl, hs, fun hh => ?_, fun hh => ?_⟩)
      · rw [hl] at hh
        rw [if_pos hh] at w
        exact w.ok c rx
      · rw [hl] at hh
        rw [if_neg hh] at w
        exact (mk_tup c (cut_rel rv lo hi) w).2
    | none =>
      simp only [q2] at w
      cases q3 : strOf a with
      | none => simp only [q3] at w; exact w.elim
      | some s =>
        simp only [q3] at w
        split at w
        · rename_i hl
          cases strOf_at rx q3
          exact .inr (.inr ⟨s, rfl, mil hl, w.ok c (.d (.str _))⟩)
        · exact w.elim
theorem s_sl {te : TE} {tl th : TO} {f : FE} {lo hi : FO} (h : SE K TB E te f) (hl : SO K TB E tl lo) (hh : SO K TB E th hi) : SE K TB E (tSl (rSlAll K.K) te tl th) (eSl f lo hi) := by
  intro σ ws G H ρ W Q e c w
  refine h.go (R := RV K) e c w fun x a W1 ws1 G1 H1 g1 c1 r1 w1 => ?_
  refine hl.go (R := RV K) (e.up g1) c1 w1 fun l l' W2 ws2 G2 H2 g2 c2 r2 w2 => ?_
  refine hh.go (R := RV K) ((e.up g1).up g2) c2 w2 fun u u' W3 ws3 G3 H3 g3 c3 r3 w3 => ?_
  subst r2 r3
  exact sl_at c3 (g3.rv (g2.rv r1)) w3
theorem s_fmt {te : TE} {f : FE} (h : SE K TB E te f) : SE K TB E (tFmt te) (eFmt f) := by
  intro σ ws G H ρ W Q e c w
  refine h.go (R := RV K) e c w fun x a W1 ws1 G1 H1 g1 c1 r1 w1 => ?_
  unfold fmtD at w1
  cases q : strOf a with
  | some s =>
    simp only [q] at w1
    split at w1
    · rename_i hl
      cases strOf_at r1 q
      exact .inl ⟨s, rfl, mil hl, w1.ok c1 r1⟩
    · exact w1.elim
  | none =>
    simp only [q] at w1
    cases q2 : intOf a with
    | none => simp only [q2] at w1; exact w1.elim
    | some i =>
      simp only [q2] at w1
      split at w1
      · rename_i hl
        exact .inr ⟨i, intOf_at r1 q2, hl, w1.ok c1 (.d (.str _))⟩
      · exact w1.elim
theorem s_js : ∀ {ts : List TE} {fs : List FE} (acc : Str), Paired (SE K TB E) ts fs → Snd K TB (fun _ _ _ b x => b = x) E (tJs ts acc) (fJs fs acc)
  | _, _, acc, .nil => fun σ ws G H ρ W Q e c w => w.ok c rfl
  | _, _, acc, .cons h t => fun σ ws G H ρ W Q e c w => by
    refine h.go (R := fun _ _ _ b x => b = x) e c w fun x a W1 ws1 G1 H1 g1 c1 r1 w1 => ?_
    cases q : strOf a with
    | none => simp only [q] at w1; exact w1.elim
    | some y =>
      simp only [q] at w1
      split at w1
      · rename_i hl
        exact ⟨y, strOf_at r1 q, hl, s_js (acc ++ y) t σ ws1 G1 H1 _ W1 Q (e.up g1) c1 w1⟩
      · exact w1.elim
theorem s_join {ts : List TE} {fs : List FE} (h : Paired (SE K TB E) ts fs) : SE K TB E (fun σ H Q => tJs ts Str.empty σ H fun out H1 => Q (.str out) H1) (eJoin fs) := by
  intro σ ws G H ρ W Q e c w
  refine (s_js Str.empty h).go (R := RV K) e c w fun x a W1 ws1 G1 H1 g1 c1 r1 w1 => ?_
  subst r1
  exact w1.ok c1 (.d (.str _))
theorem blOf_at {ws : List Addr} {G : Hp} {v : V} {x : Vl} {b : Bool} (r : RpV K ws G v x) (h : blOf x = some b) : v = .bl b := by
  cases x with
  | mu _ => cases h
  | d x =>
    cases r with
    | d r =>
    cases r with
    | bl b => cases h; rfl
    | _ => cases h
theorem s_chain {r r' : R2} {g g' : Ms → Vl → Vl → Res Vl} {ta tb tc : TE} {fa fb fc : FE} (hg : OpD K TB r g) (hg' : OpD K TB r' g') (ha : SE K TB E ta fa) (hb : SE K TB E tb fb) (hc : SE K TB E tc fc) : SE K TB E (tChain r r' ta tb tc) (eChain g g' fa fb fc) := by
  intro σ ws G H ρ W Q e c w
  refine ha.go (R := RV K) e c w fun x a W1 ws1 G1 H1 g1 c1 r1 w1 => ?_
  refine hb.go (R := RV K) (e.up g1) c1 w1 fun y b W2 ws2 G2 H2 g2 c2 r2 w2 => ?_
  refine hg E _ _ _ _ _ _ _ _ _ c2 (g2.rv r1) r2 ?_
  cases q : g W2 a b with
  | stuck => rw [q] at w2; exact w2
  | exc C W4 => rw [q] at w2; exact fun ws' G' H' g' c' => w2 ws' G' H' g' c'
  | ok z W3 =>
    rw [q] at w2
    intro zv ws3 G3 H3 g3 c3 r3
    simp only [Res.bind_ok] at w2
    cases q2 : blOf z with
    | none => simp only [q2] at w2; exact w2.elim
    | some k =>
      simp only [q2] at w2
      have w2' := w2.up g3
      refine ⟨k, blOf_at r3 q2, ?_⟩
      cases k with
      | false => exact w2'.ok c3 (.d (.bl false))
      | true =>
        refine hc.go (R := RV K) (((e.up g1).up g2).up g3) c3 w2' fun u d W4 ws4 G4 H4 g4 c4 r4 w4 => ?_
        exact hg' E _ _ _ _ _ _ _ _ _ c4 (g4.rv (g3.rv r2)) r4 w4
theorem insMu_at {ws : List Addr} {G H : Hp} {W : Ms} {x : V} {a : Vl} {C : Addr} {l : List (Str × Vl)} (c : Cf K TB ws G H W) (r : RpV K ws G x a) (h : insMu W a = some (C, l)) :
    ∃ p n dx fs, x = .ref p ∧ a = .mu n ∧ ws[n]? = some p ∧ H p = some (.ins C dx fs) ∧ ClsF K C (fs.map (·.1)) ∧ RpVF K ws G fs l := by
  unfold insMu at h
  cases r with
  | d _ => cases h
  | @mu p k e =>
    cases q : W[k]? with
    | none => simp only [q] at h; cases h
    | some m =>
      cases m with
      | ins C1 l1 =>
        simp only [q] at h
        cases h
        obtain ⟨_, dx, fs, e1, k1, rf⟩ := c.ob k p _ e q (by simp)
        exact ⟨p, k, dx, fs, rfl, rfl, e, e1, k1, rf⟩
      | _ => simp only [q] at h; cases h
theorem lookup_at {ws : List Addr} {G : Hp} {f : Str} : ∀ {fs : List (Str × V)} {l : List (Str × Vl)} {z : Vl}, RpVF K ws G fs l → l.lookup f = some z → ∃ v, fs.lookup f = some v ∧ RpV K ws G v z
  | _, _, _, .nil, h => nomatch h
  | (f1, v1) :: fs, (f2, z2) :: l, z, .cons ⟨h1, h2⟩ t, h => by
    obtain rfl : f2 = f1 := h1
    rw [List.lookup_cons] at h
    rw [List.lookup_cons]
    by_cases q : f == f2
    · rw [q] at h ⊢
      cases h
      exact ⟨v1, rfl, h2⟩
    · rw [Bool.not_eq_true] at q
      rw [q] at h ⊢
      exact lookup_at t h
/-- e.f op= v -/
theorem s_fldaug {C : Addr} {f : Str} {r : TIp} {ta tv : TE} {g : Ms → Vl → Vl → Res Vl} {fx fy : FE} (hn : L2.NoAttr K.K C f) (hg : OpD K TB r g) (hx : SE K TB E ta fx) (hy : SE K TB E tv fy) : SS K TB E (sFldAug K.K ta tv r f) (sFldAugD C f fx g fy) := fun σ ws G H ρ W Dn e c w =>
  hx.goS e c w fun u x W1 ws1 G1 H1 g1 c1 r1 w1 => by
    cases q : insMu W1 x with
    | none => simp only [q] at w1; exact w1.elim
    | some z =>
      obtain ⟨C', l⟩ := z
      simp only [q] at w1
      obtain ⟨p, n, dx, fs, rfl, rfl, ea, e1, kc, rf⟩ := insMu_at c1 r1 q
      split at w1
      · rename_i hc
        subst hc
        cases q2 : l.lookup f with
        | none => simp only [q2] at w1; exact w1.elim
        | some zv =>
          simp only [q2] at w1
          obtain ⟨v, hv, rz⟩ := lookup_at rf q2
          refine ⟨p, C', dx, fs, v, rfl, e1, kc.cl, hn, hv, ?_⟩
          refine hy.goS (e.up g1) c1 w1 fun y dy W2 ws2 G2 H2 g2 c2 r2 w2 => ?_
          refine hg E _ _ _ _ _ _ _ _ _ c2 (g2.rv rz) r2 ?_
          cases q3 : g W2 zv dy with
          | stuck => rw [q3] at w2; exact w2
          | exc C W4 => rw [q3] at w2; exact fun ws' G' H' g' c' => w2 ws' G' H' g' c'
          | ok zz W3 =>
            rw [q3] at w2
            intro b ws3 G3 H3 g3 c3 r3
            simp only [Res.bindS_ok] at w2
            cases q4 : setFld C' f W3 zz (.mu n) with
            | none => simp only [q4] at w2; exact w2.elim
            | some W4 =>
              simp only [q4] at w2
              have w2' := WishS.up w2 g3
              have ea3 : ws3[n]? = some p := g3.at (g2.at ea)
              unfold setFld at q4
              cases q5 : W3[n]? with
              | none => simp only [q5] at q4; cases q4
              | some m =>
                cases m with
                | ins C2 l2 =>
                  simp only [q5] at q4
                  split at q4
                  · rename_i hc
                    cases q4
                    obtain ⟨rfl, hl⟩ := hc
                    obtain ⟨hg0, dx2, fs2, e2, k2, rf2⟩ := c3.ob n p _ ea3 q5 (by simp)
                    refine ⟨dx2, fs2, e2, by rw [Paired.length rf2]; exact hl, ?_⟩
                    refine w2' σ ws3 G3 _ (Gr.put ea3 ⟨_, e2, nf_ins⟩) (c3.put ea3 q5 (by simp) ⟨dx2, _, upd_same, ⟨k2.cl, fun h hh => ?_⟩, putV_rp r3 rf2⟩) (((e.up g1).up g2).up g3)
                    rcases putF_names hh with z | z
                    · rw [z]; exact hn
                    · exact k2.no h z
                  · cases q4
                | _ => simp only [q5] at q4; cases q4
      · exact w1.elim
end
end DL

set_option Elab.async false
set_option linter.all false
set_option maxRecDepth 100000
set_option maxHeartbeats 4000000
/-! ## dict comprehensions, what may not be refused, defs with defaults -/
namespace DL
open PySem PySem.Spec PyProof.Rows L2
open Classical in
noncomputable def dcL (kp : Ms → Prop) (fg : FG) (t : FT) (fk fv : FE) (ρ : Ev) : List (D × Vl) → List Vl → Ms → Res (List (D × Vl))
  | acc, [], W => if kp W then .ok acc W else .stuck
  | acc, x :: xs, W => if kp W then (match fg x ρ with
    | some ρ1 => (t ρ1 W).bind fun b W1 => if b = true then (fk ρ1 W1).bind fun k W2 => (fv ρ1 W2).bind fun v W3 => (match keyV k with
        | some kk => dcL kp fg t fk fv ρ (putKD kk v acc) xs W3
        | none => .stuck) else dcL kp fg t fk fv ρ acc xs W1
    | none => .stuck) else .stuck
where keyV : Vl → Option D
  | .d (.int i) => some (.int i)
  | .d (.str i) => some (.str i)
  | _ => none
noncomputable def dcB (fg : FG) (t : FT) (fk fv : FE) (vs : List Nat) (ρ : Ev) (it : Itm) (W1 : Ms) : Res (List (D × Vl)) := if it.xs.length ≤ 1000000 then dcL it.kp fg t fk fv (wipeE ρ vs) [] it.xs W1 else .stuck
def mkDct (l : List (D × Vl)) (W : Ms) : Res Vl := match dctD l with
  | some r => .ok (.d (.dct r)) W
  | none => .stuck
def mkDctM (l : List (D × Vl)) (W : Ms) : Res Vl := .ok (.mu W.length) (W ++ [.dct l])
noncomputable def eDc (fi : FI) (fg : FG) (t : FT) (fk fv : FE) (vs : List Nat) : FE := fun ρ W => (fi ρ W).bind fun it W1 => (dcB fg t fk fv vs ρ it W1).bind mkDct
noncomputable def eDcM (fi : FI) (fg : FG) (t : FT) (fk fv : FE) (vs : List Nat) : FE := fun ρ W => (fi ρ W).bind fun it W1 => (dcB fg t fk fv vs ρ it W1).bind mkDctM
/-- nothing is refused -/
def nxE {α : Type} (f : Ev → Ms → Res α) : Ev → Ms → Res α := fun ρ W => match f ρ W with
  | .ok x W1 => .ok x W1
  | _ => .stuck
section
variable {K : Fr} {TB : List (Addr × Str)} {E : XK} {σ : L2.St} {ρ : Ev}
theorem s_nx {α β : Type} {R : List Addr → Hp → Hp → β → α → Prop} {t : L2.St → Hp → (β → Hp → Prop) → Prop} {f : Ev → Ms → Res α} {E' : XK} (h : Snd K TB R E' t f) : Snd K TB R E t (nxE f) := by
  intro σ ws G H ρ W Q e c w
  refine h σ ws G H ρ W Q e c ?_
  unfold nxE at w
  cases q : f ρ W with
  | ok x W1 => rw [q] at w; exact w
  | exc C W1 => rw [q] at w; exact w.elim
  | stuck => rw [q] at w; exact w
theorem dcL_key {k : Vl} {kk : D} {ws : List Addr} {G : Hp} {y : V} (h : dcL.keyV k = some kk) (r : RpV K ws G y k) : ∃ z : Key, y = kV z ∧ kk = kD z := by
  cases k with
  | mu _ => cases h
  | d k =>
    cases r with
    | d r =>
    cases r with
    | int i => cases h; exact ⟨.inl i, rfl, rfl⟩
    | str i => cases h; exact ⟨.inr i, rfl, rfl⟩
    | _ => cases h
theorem dc_core {wi : TI} {g : TG} {tt : TT} {tk tv : TE} {fg : FG} {ft : FT} {fk fv : FE} {vs : List Nat} {J : It} {it : Itm} {ws1 : List Addr} {G1 H1 : Hp} {W1 : Ms} (hg : SG K TB vs g fg) (ht : ST K TB E tt ft) (hk : SE K TB E tk fk) (he : SE K TB E tv fv)
    {mk : List (D × Vl) → Ms → Res Vl} {Q : VK} (ok : ItOk K TB ws1 G1 H1 J it)
    (e1 : EnvR K ws1 G1 σ ρ) (c1 : Cf K TB ws1 G1 H1 W1) (w1 : Wish K TB (RV K) E ws1 G1 H1 Q ((dcB fg ft fk fv vs ρ it W1).bind mk))
    (end_ : ∀ (p : Addr) (ws2 : List Addr) (G2 H2 : Hp) (W2 : Ms) (xs : List (Key × V)) (as : List (D × Vl)), H1 p = none → Gr ws1 G1 H1 ws2 G2 H2 → Cf K TB ws2 G2 H2 W2 → G2 p = none → p ∉ ws2 → H2 p = some (.dK xs) → RpVK K ws2 G2 xs as →
      Wish K TB (RV K) E ws1 G1 H1 Q (mk as W2) → Q (.ref p) H2) : ∀ D, H1 D = none → ∃ W : Nat → Nat → Hp → Prop, (∃ m, W 0 m (upd H1 D (.dK []))) ∧ ∀ i m H, W i m H →
  (J.stop i H ∧ Q (.ref D) H) ∨ (J.go i H ∧ ∃ Nx : Hp → Prop, (∀ H', Nx H' → ∃ m', m' < m ∧ W (i + 1) m' H') ∧ ∀ x H', J.yld i H x H' → g x (L2.wipe σ vs) H' fun σ2 H2 => L2.wipe σ2 vs = L2.wipe σ vs ∧ tt σ2 H2 fun b H3 =>
    if b = true then tk σ2 H3 fun y H4 => tv σ2 H4 fun z H5 => ∃ kvs k, y = kV k ∧ H5 D = some (.dK kvs) ∧ kvs.length < sizeLine ∧ Nx (upd H5 D (.dK (putK kvs k z))) else Nx H3) := by
  intro p hp
  unfold dcB at w1
  by_cases hsz : it.xs.length ≤ 1000000
  · rw [if_pos hsz] at w1
    have hG1 := c1.gn hp
    refine ⟨fun i m H2 => i + m = it.xs.length ∧ ∃ ws2 G2 W2 xs as, Gr ws1 G1 H1 ws2 G2 H2 ∧ Cf K TB ws2 G2 H2 W2 ∧ G2 p = none ∧ p ∉ ws2 ∧ H2 p = some (.dK xs) ∧ xs.length ≤ i ∧ RpVK K ws2 G2 xs as ∧
        Wish K TB (RV K) E ws1 G1 H1 Q ((dcL it.kp fg ft fk fv (wipeE ρ vs) as (it.xs.drop i) W2).bind mk),
      ⟨it.xs.length, Nat.zero_add _, ws1, G1, W1, [], [], Gr.junk hp, c1.junk hp, hG1, c1.wn hp, upd_same, Nat.zero_le _, .nil, ?_⟩, ?_⟩
    · rw [List.drop_zero]
      exact w1
    rintro i m H2 ⟨hm, ws2, G2, W2, xs, as, g2, c2, n1, n2, hx, hxl, rx, w2⟩
    have e2 : EnvR K ws2 G2 (L2.wipe σ vs) (wipeE ρ vs) := (e1.up g2).wipe vs
    by_cases hl : it.xs.length ≤ i
    · rw [List.drop_of_length_le hl] at w2
      unfold dcL at w2
      split at w2
      · rename_i hk
        exact .inl ⟨((ok ws2 G2 H2 W2 g2.i c2 hk) i).1 hl, end_ p ws2 G2 H2 W2 xs as hp g2 c2 n1 n2 hx rx w2⟩
      · exact w2.elim
    · have hi' : i < it.xs.length := by omega
      rw [List.drop_eq_getElem_cons hi'] at w2
      unfold dcL at w2
      split at w2
      · rename_i hk0
        obtain ⟨go, yl⟩ := ((ok ws2 G2 H2 W2 g2.i c2 hk0) i).2 _ (List.getElem?_eq_getElem hi')
        cases z : fg it.xs[i] (wipeE ρ vs) with
        | none => simp only [z] at w2; exact w2.elim
        | some ρ3 =>
          simp only [z] at w2
          refine .inr ⟨go, fun H' => ∃ m', m' < m ∧ i + 1 + m' = it.xs.length ∧ ∃ ws4 G4 W4 xs4 as4, Gr ws1 G1 H1 ws4 G4 H' ∧ Cf K TB ws4 G4 H' W4 ∧ G4 p = none ∧ p ∉ ws4 ∧ H' p = some (.dK xs4) ∧ xs4.length ≤ i + 1 ∧ RpVK K ws4 G4 xs4 as4 ∧
            Wish K TB (RV K) E ws1 G1 H1 Q ((dcL it.kp fg ft fk fv (wipeE ρ vs) as4 (it.xs.drop (i + 1)) W4).bind mk), fun H' h => h, fun v H3 hy => ?_⟩
          obtain ⟨G3, g3, c3, r3⟩ := yl v H3 hy
          have keep : ∀ {ws' : List Addr} {G' H' : Hp}, Gr ws2 G2 H2 ws' G' H' → G' p = none ∧ p ∉ ws' ∧ H' p = some (.dK xs) := fun {ws' G' H'} gr => by
            refine ⟨?_, gr.nw p _ hx (fun _ z => nomatch z) n2, ?_⟩
            · rcases gr.nf p _ hx n1 n2 (fun _ z => nomatch z) with q | ⟨ys, q⟩
              · exact q
              · cases q
            · have e1 := gr.fr p _ hx n2 (fun _ z => nomatch z)
              exact e1
          refine hg v _ _ _ ρ3 ws2 G3 H3 W2 _ (e2.up g3) c3 r3 z fun σ3 e3 q3 => ⟨q3.trans (wipe_idem σ vs), ?_⟩
          have as_bind : ∀ {α β γ : Type} (r : Res α) (f : α → Ms → Res β) (k : β → Ms → Res γ), (r.bind f).bind k = r.bind fun x W => (f x W).bind k := fun r f k => by cases r <;> rfl
          rw [as_bind] at w2
          refine ht.goB (R := RV K) e3 c3 (g2.trans g3) w2 fun b b' W5 ws5 G5 H5 g5 c5 r5 w5 => ?_
          obtain rfl : b = b' := r5
          cases b
          · obtain ⟨k1, k2, k3⟩ := keep (g3.trans g5)
            refine iteF ?_
            simp only [Bool.false_eq_true, if_false] at w5
            exact ⟨m - 1, by omega, by omega, ws5, G5, W5, xs, as, (g2.trans g3).trans g5, c5, k1, k2, k3, by omega, Paired.imp (fun _ _ z => ⟨z.1, (g3.trans g5).rv z.2⟩) rx, w5⟩
          · refine iteT ?_
            simp only [if_true] at w5
            rw [as_bind] at w5
            refine hk.goB (R := RV K) (e3.up g5) c5 ((g2.trans g3).trans g5) w5 fun y dy W6 ws6 G6 H6 g6 c6 r6 w6 => ?_
            rw [as_bind] at w6
            refine he.goB (R := RV K) ((e3.up g5).up g6) c6 (((g2.trans g3).trans g5).trans g6) w6 fun u du W7 ws7 G7 H7 g7 c7 r7 w7 => ?_
            cases q : dcL.keyV dy with
            | none => simp only [q] at w7; exact w7.elim
            | some kk =>
              simp only [q] at w7
              obtain ⟨z2, rfl, rfl⟩ := dcL_key q r6
              obtain ⟨k1, k2, k3⟩ := keep (((g3.trans g5).trans g6).trans g7)
              have rx' : RpVK K ws7 G7 xs as := Paired.imp (fun _ _ z => ⟨z.1, (((g3.trans g5).trans g6).trans g7).rv z.2⟩) rx
              refine ⟨xs, z2, rfl, k3, mil' (by omega), m - 1, by omega, by omega, ws7, G7, W7, _, _, Gr.junkW ((((g2.trans g3).trans g5).trans g6).trans g7) hp, c7.junkW k1 k2 ⟨_, k3, plain_dK⟩, k1, k2, upd_same, ?_, vk_put r7 rx', w7⟩
              exact Nat.le_trans (length_putK xs z2 u) (Nat.succ_le_succ hxl)
      · exact w2.elim
  · rw [if_neg hsz] at w1
    exact w1.elim
theorem s_dc {wi : TI} {g : TG} {tt : TT} {tk tv : TE} {fi : FI} {fg : FG} {ft : FT} {fk fv : FE} {vs : List Nat} (hi : SI K TB E wi fi) (hg : SG K TB vs g fg) (ht : ST K TB E tt ft) (hk : SE K TB E tk fk) (he : SE K TB E tv fv) : SE K TB E (tDc wi g tt tk tv vs) (eDc fi fg ft fk fv vs) := by
  intro σ ws G H ρ W Q e c w
  refine hi.go (R := RV K) e c w fun J it W1 ws1 G1 H1 g1 c1 ok w1 => dc_core (wi := wi) hg ht hk he ok (e.up g1) c1 w1 fun p ws2 G2 H2 W2 xs as hp g2 c2 n1 n2 hx rx w2 => ?_
  unfold mkDct at w2
  cases q : dctD as with
  | none => rw [q] at w2; exact w2.elim
  | some l =>
    rw [q] at w2
    exact w2 _ ws2 (upd G2 p (.dK xs)) H2 (Gr.own g2 hp (c1.gn hp) n1) (c2.own n1 n2 hx) (.d (.dct (.inl upd_same) ((dctK_rp rx q).to (.of (same_upd n1)))))
theorem s_dcM {wi : TI} {g : TG} {tt : TT} {tk tv : TE} {fi : FI} {fg : FG} {ft : FT} {fk fv : FE} {vs : List Nat} (hi : SI K TB E wi fi) (hg : SG K TB vs g fg) (ht : ST K TB E tt ft) (hk : SE K TB E tk fk) (he : SE K TB E tv fv) : SE K TB E (tDc wi g tt tk tv vs) (eDcM fi fg ft fk fv vs) := by
  intro σ ws G H ρ W Q e c w
  refine hi.go (R := RV K) e c w fun J it W1 ws1 G1 H1 g1 c1 ok w1 => dc_core (wi := wi) hg ht hk he ok (e.up g1) c1 w1 fun p ws2 G2 H2 W2 xs as hp g2 c2 n1 n2 hx rx w2 => ?_
  unfold mkDctM at w2
  refine w2 _ (ws2 ++ [p]) G2 H2 (Gr.ownM g2 hp) (c2.ownM n1 n2 (by rw [hx]; simp) (.inl ⟨xs, hx, ?_⟩)) (.mu (at_end c2.len))
  exact Paired.imp (fun _ _ r => ⟨r.1, r.2.to (.of fun _ _ z => z) fun i b z => by
    rw [List.getElem?_append_left (List.getElem?_eq_some_iff.mp z).1]
    exact z⟩) rx
end
theorem FunD.okB {P : Program} {w : World} {K : Fr} {TB : List (Addr × Str)} {mg : Str → Option Value} {base : Heap} {x qual : Str} {params : Arguments} {body : List Stmt} {scope : Scope} {dvs : List V} {kws : List (Str × V)} {f : Addr} {fd : FuncData} {N ps : List Str} {k : Nat} {b : FS}
    (F : L2.FunD K.K x qual params body scope dvs kws f fd) (S : L2.FnScope N ps scope)
    (hbody : ∀ (cdv : Value) (A : Around) (outer : List Env) (s : Shared) (H : Hp) (E : XK), L2.Room k (A.deeper (envOfC qual scope s.heap.objs.size f cdv)) →
      ∃ t, L2.PSs (L2.cxOf (L2.CX P w) P w K.K mg base N qual scope f cdv A outer s H E) body t ∧ SS K TB E t b) : L2.FnOk P w K.K mg base (L2.CX P w) (k + 1) f fd ps (spD K TB (runB ps.length N.length b)) := by
  refine F.ok S (fun vs H Q E h => ?_) (fun cdv ar outer s H vs Q E hr h => ?_)
  · obtain ⟨ws, G, W, ds, c, r, w⟩ := h
    exact (Paired.length r).trans (runB_len w)
  · obtain ⟨ws, G, W, ds, c, r, w⟩ := h
    obtain ⟨t, h1, h2⟩ := hbody cdv ar outer s H E hr
    exact ⟨t, h1, body_ok h2 c r w⟩
theorem FunD.ok0 {P : Program} {w : World} {K : Fr} {TB : List (Addr × Str)} {mg : Str → Option Value} {base : Heap} {x qual : Str} {params : Arguments} {body : List Stmt} {scope : Scope} {dvs : List V} {kws : List (Str × V)} {f : Addr} {fd : FuncData} {N ps : List Str} {k : Nat} {b : FS}
    (F : L2.FunD K.K x qual params body scope dvs kws f fd) (S : L2.FnScope N ps scope)
    (hbody : ∀ (cdv : Value) (A : Around) (outer : List Env) (s : Shared) (H : Hp) (E : XK), L2.Room k (A.deeper (envOfC qual scope s.heap.objs.size f cdv)) →
      ∃ t, L2.PSs (L2.cxOf (L2.CX P w) P w K.K mg base N qual scope f cdv A outer s H E) body t ∧ SS K TB E t b) : L2.FnOk P w K.K mg base (L2.CX P w) (k + 1) f fd ps (spD K TB (run0 ps.length N.length b)) := by
  refine F.ok S (fun vs H Q E h => ?_) (fun cdv ar outer s H vs Q E hr h => ?_)
  · obtain ⟨ws, G, W, ds, c, r, w⟩ := h
    exact (Paired.length r).trans (run0_len w)
  · obtain ⟨ws, G, W, ds, c, r, w⟩ := h
    obtain ⟨t, h1, h2⟩ := hbody cdv ar outer s H E hr
    exact ⟨t, h1, body0_ok h2 c r w⟩
end DL

set_option Elab.async false
set_option linter.all false
set_option maxRecDepth 100000
set_option maxHeartbeats 4000000
namespace DL
open PySem PySem.Spec PyProof.Rows L2
def addI := arI fun i j => .int (i + j)
def subI := arI fun i j => .int (i - j)
theorem room65 {k : Nat} {A : Around} (r : Room k A) : A.units + 65 < cLine := by have := r.un; omega
theorem room16 {k : Nat} {A : Around} (r : Room k A) : A.units + 16 < cLine := by have := r.un; omega
section
variable {K : Fr} {TB : List (Addr × Str)}
theorem o_ipadd : OpD K TB (ipI fun i j => i + j) addI := o_arI (g := fun i j => .int (i + j)) fun _ _ _ => .int _
theorem o_ipsub : OpD K TB (ipI fun i j => i - j) subI := o_arI (g := fun i j => .int (i - j)) fun _ _ _ => .int _
theorem o_inadd : OpD K TB rAdd addI := o_arI (g := fun i j => .int (i + j)) fun _ _ _ => .int _
theorem o_insub : OpD K TB rSub subI := o_arI (g := fun i j => .int (i - j)) fun _ _ _ => .int _
/-- constants of the text's top: tuples of numbers and texts -/
theorem c_nil {G : Hp} : RpL K G [] [] := .nil
end
end DL

set_option Elab.async false
set_option linter.all false
set_option maxRecDepth 100000
set_option maxHeartbeats 4000000
/-! ## dict(x), texts -/
namespace DL
open PySem PySem.Spec PyProof.Rows L2
def rDctA (K : PySem.W.Frag) : List V → Hp → VK → Prop := fun xs H Q => (∃ (a : Addr) (kvs : List (Key × V)), xs = [.ref a] ∧ Rd H a (.dK kvs) ∧ ∀ p, H p = none → Q (.ref p) (upd H p (.dK kvs))) ∨
  ∃ (a : Addr) (ps : List Addr) (kvs : List (Key × V)), xs = [.ref a] ∧ SqL K H a (ps.map V.ref) ∧ Paired (fun p kv => SqT K H p [kV kv.1, kv.2]) ps kvs ∧ ∀ p, H p = none → Q (.ref p) (upd H p (.dK (mergeK [] kvs)))
theorem dictA {X : Cx} (K : PySem.W.Frag) (hc : X.calm = true := by rfl) (hK : X.K = K := by rfl) : CallR X (.type "dict") (rDctA K) := by
  subst hK
  intro pins s σ H xs us Q I r h
  rcases h with h | h
  · exact call_dictD pins s σ H xs us Q I r h
  · exact call_dictP hc pins s σ H xs us Q I r h
def isKeyS : D → Bool
  | .int _ => true
  | .str _ => true
  | _ => false
def prOf : List Vl → Option (List (D × Vl))
  | [] => some []
  | .d (.tup [k, v]) :: r => if isKeyS k = true then (prOf r).map ((k, .d v) :: ·) else none
  | _ => none
noncomputable def mergeD (acc l : List (D × Vl)) : List (D × Vl) := l.foldl (fun a p => putKD p.1 p.2 a) acc
noncomputable def dictSrc (W : Ms) (x : Vl) : Option (List (D × Vl)) := match dctOf W x with
  | some l => if (l.all fun p => isKeyS p.1) = true then some l else none
  | none => (match lstOf W x with
    | some l => if l.length ≤ 1000000 then (prOf l).map (mergeD []) else none
    | none => none)
noncomputable def dictF (W : Ms) (xs : List Vl) : Res Vl := match xs with
  | [x] => (match dictSrc W x with
    | some l => mkDct l W
    | none => .stuck)
  | _ => .stuck
noncomputable def dictM (W : Ms) (xs : List Vl) : Res Vl := match xs with
  | [x] => (match dictSrc W x with
    | some l => mkDctM l W
    | none => .stuck)
  | _ => .stuck
section
variable {K : Fr} {TB : List (Addr × Str)} {E : XK} {ws : List Addr} {G H : Hp} {W : Ms}
theorem mk_dct {Q : VK} {kvs : List (Key × V)} {l : List (D × Vl)} (c : Cf K TB ws G H W) (r : RpVK K ws G kvs l) (w : Wish K TB (RV K) E ws G H Q (mkDct l W)) : ∀ p, H p = none → Q (.ref p) (upd H p (.dK kvs)) := by
  intro p hp
  unfold mkDct at w
  cases q : dctD l with
  | none => rw [q] at w; exact w.elim
  | some l' =>
    rw [q] at w
    exact w _ ws _ _ (Gr.new c hp) (c.new hp) (.d (.dct (.inl upd_same) ((dctK_rp r q).to (.of (same_upd (c.gn hp))))))
theorem mk_dctM {Q : VK} {kvs : List (Key × V)} {l : List (D × Vl)} (c : Cf K TB ws G H W) (r : RpVK K ws G kvs l) (w : Wish K TB (RV K) E ws G H Q (mkDctM l W)) : ∀ p, H p = none → Q (.ref p) (upd H p (.dK kvs)) := by
  intro p hp
  unfold mkDctM at w
  refine w _ _ _ _ (Gr.newM c hp) (c.newM hp (.inl ⟨_, upd_same, ?_⟩)) (.mu (at_end c.len))
  exact Paired.imp (fun _ _ z => ⟨z.1, (Gr.newM (o := .dK kvs) c hp).rv z.2⟩) r
theorem merge_vk : ∀ {kvs more : List (Key × V)} {l m : List (D × Vl)}, RpVK K ws G kvs l → RpVK K ws G more m → RpVK K ws G (mergeK kvs more) (mergeD l m)
  | _, _, _, _, r, .nil => r
  | kvs, (k1, v1) :: more, l, (d1, y1) :: m, r, .cons ⟨h1, h2⟩ t => by
    obtain rfl : d1 = kD k1 := h1
    have z := merge_vk (kvs := putK kvs k1 v1) (l := putKD (kD k1) y1 l) (vk_put (k := k1) h2 r) t
    exact z
theorem pr_at : ∀ {vs : List V} {l : List Vl} {m : List (D × Vl)}, RpVs K ws G vs l → prOf l = some m → Same G H → ∃ (ps : List Addr) (kvs : List (Key × V)), vs = ps.map V.ref ∧ Paired (fun p kv => SqT K.K H p [kV kv.1, kv.2]) ps kvs ∧ RpVK K ws G kvs m
  | _, _, _, .nil, h, s => by cases h; exact ⟨[], [], rfl, .nil, .nil⟩
  | v :: vs, x :: l, m, .cons r t, h, s => by
    unfold prOf at h
    split at h
    · rename_i heq
      cases heq
    · rename_i k y r0 heq
      cases heq
      split at h
      · rename_i hk
        cases q : prOf l with
        | none => rw [q] at h; cases h
        | some m0 =>
          rw [q] at h
          cases h
          obtain ⟨ps, kvs, rfl, p1, p2⟩ := pr_at t q s
          cases r with
          | d r =>
          cases r with
          | @tup a vs2 _ e rl =>
          cases rl with
          | cons rk rl =>
          cases rl with
          | cons ry rl =>
          cases rl
          cases rk with
          | int i => exact ⟨a :: ps, (.inl i, _) :: kvs, rfl, .cons (SqT.of (s _ _ e)) p1, .cons ⟨rfl, .d ry⟩ p2⟩
          | str i => exact ⟨a :: ps, (.inr i, _) :: kvs, rfl, .cons (SqT.of (s _ _ e)) p1, .cons ⟨rfl, .d ry⟩ p2⟩
          | _ => cases hk
      · cases h
    · cases h
theorem dictSrc_at {v : V} {x : Vl} {l : List (D × Vl)} {Q : VK} (c : Cf K TB ws G H W) (r : RpV K ws G v x) (h : dictSrc W x = some l) (q : ∀ kvs, RpVK K ws G kvs l → ∀ p, H p = none → Q (.ref p) (upd H p (.dK kvs))) : rDctA K.K [v] H Q := by
  unfold dictSrc at h
  cases q0 : dctOf W x with
  | some l0 =>
    simp only [q0] at h
    split at h
    · rename_i hk
      cases h
      obtain ⟨a, rfl, hd⟩ := dct_at c r q0
      rcases hd with ⟨kvs, e, rk⟩ | ⟨kvs, e, rn, nl⟩
      · exact .inl ⟨a, kvs, rfl, e, q kvs rk⟩
      · exfalso
        cases rn with
        | nil => exact nl rfl
        | @cons p q' _ _ hh t =>
          obtain ⟨p1, b, p2⟩ := p
          obtain ⟨q1, q2⟩ := q'
          obtain ⟨⟨h0, h1, _⟩, _⟩ := hh
          simp only at h0 h1
          have hk2 : isKeyS q1 = true := by
            have := List.all_eq_true.mp hk (q1, q2) List.mem_cons_self
            exact this
          cases h0 with
          | tup _ _ => cases hk2
          | _ => simp [nkOf] at h1
    · cases h
  | none =>
    simp only [q0] at h
    cases q1 : lstOf W x with
    | none => simp only [q1] at h; cases h
    | some l0 =>
      simp only [q1] at h
      split at h
      · rw [Option.map_eq_some_iff] at h
        obtain ⟨m, hm, rfl⟩ := h
        obtain ⟨a, vs, rfl, e, rv⟩ := lst_at c r q1
        obtain ⟨ps, kvs, rfl, p1, p2⟩ := pr_at rv hm c.g
        exact .inr ⟨a, ps, kvs, rfl, SqL.of e, p1, q _ (merge_vk .nil p2)⟩
      · cases h
theorem o_dict : CallD K TB (rDctA K.K) dictF := fun E ws G H W xs as Q c r w => by
  unfold dictF at w
  split at w
  · rename_i x
    obtain ⟨v, rfl, r1⟩ := one_of r
    cases q : dictSrc W x with
    | none => simp only [q] at w; exact w.elim
    | some l =>
      simp only [q] at w
      exact dictSrc_at c r1 q fun kvs rk => mk_dct c rk w
  · exact w.elim
theorem o_dictM : CallD K TB (rDctA K.K) dictM := fun E ws G H W xs as Q c r w => by
  unfold dictM at w
  split at w
  · rename_i x
    obtain ⟨v, rfl, r1⟩ := one_of r
    cases q : dictSrc W x with
    | none => simp only [q] at w; exact w.elim
    | some l =>
      simp only [q] at w
      exact dictSrc_at c r1 q fun kvs rk => mk_dctM c rk w
  · exact w.elim
end
/-! ### methods of texts -/
def strM1 (g : Str → Str → D) : FM := fun W x xs => match x, xs with
  | .d (.str a), [.d (.str b)] => .ok (.d (g a b)) W
  | _, _ => .stuck
def strM1L (g : Str → Str → D) : FM := fun W x xs => match x, xs with
  | .d (.str a), [.d (.str b)] => if a.length ≤ 1000000 then .ok (.d (g a b)) W else .stuck
  | _, _ => .stuck
def strM2 (g : Str → Str → Int → D) : FM := fun W x xs => match x, xs with
  | .d (.str a), [.d (.str b), .d (.int i)] => .ok (.d (g a b i)) W
  | _, _ => .stuck
def strM3 (g : Str → Str → Int → Int → D) : FM := fun W x xs => match x, xs with
  | .d (.str a), [.d (.str b), .d (.int i), .d (.int j)] => .ok (.d (g a b i j)) W
  | _, _ => .stuck
def stssOf : List Vl → Option (List Str)
  | [] => some []
  | .d (.str s) :: l => (stssOf l).map (s :: ·)
  | _ => none
def joinM : FM := fun W x xs => match x, xs with
  | .d (.str a), [y] => (match seqOf W y with
    | some l => (match stssOf l with
      | some ys => if (ys.map (·.length)).sum + ys.length * a.length ≤ 16777216 then .ok (.d (.str (Txt.join a ys))) W else .stuck
      | none => .stuck)
    | none => .stuck)
  | _, _ => .stuck
def splitM : FM := fun W x xs => match x, xs with
  | .d (.str a), [.d (.str b)] => if (b.length == 0) = false ∧ a.length ≤ 1000000 then .ok (.d (.lst ((Txt.split a b).map D.str))) W else .stuck
  | _, _ => .stuck
def idxM : FM := fun W x xs => match x, xs with
  | .d (.str a), [.d (.str b)] => (match Builtin.Str.occurrences a b 0 a.length 1 with
    | i :: _ => .ok (.d (.int (i : Nat))) W
    | [] => .stuck)
  | _, _ => .stuck
def ordF (W : Ms) (xs : List Vl) : Res Vl := match xs with
  | [.d (.str x)] => if x.length = 1 then .ok (.d (.int (x.cps.getD 0 0 : Nat))) W else .stuck
  | _ => .stuck
def strF (W : Ms) (xs : List Vl) : Res Vl := match xs with
  | [.d (.str x)] => .ok (.d (.str x)) W
  | [.d (.int i)] => if i.natAbs.log2 < 1920 then .ok (.d (.str (toString i))) W else .stuck
  | _ => .stuck
def rStrA : List V → Hp → VK → Prop := fun xs H Q => (∃ i, xs = [.int i] ∧ i.natAbs.log2 < 1920 ∧ Q (.str (toString i)) H) ∨ ∃ a, xs = [.str a] ∧ Q (.str a) H
theorem strA {X : Cx} : CallR X (.type "str") rStrA := fun pins s σ H xs us Q I r h => h.elim (call_str_int pins s σ H xs us Q I r) (SkE.call_str_str pins s σ H xs us Q I r)
section
variable {K : Fr} {TB : List (Addr × Str)} {E : XK}
theorem m_s1 {g : Str → Str → V} {h : Str → Str → D} (hg : ∀ G a b, Rp K G (g a b) (h a b)) : MethD K TB (fun x xs H Q => ∃ a b, x = .str a ∧ xs = [.str b] ∧ Q (g a b) H) (strM1 h) := fun E ws G H W x xs a as Q c rx rs w => by
  unfold strM1 at w
  split at w
  · obtain ⟨y, rfl, ry⟩ := one_of rs
    cases rx with | d rx =>
    cases rx
    cases ry with | d ry =>
    cases ry
    exact ⟨_, _, rfl, rfl, w.ok c (.d (hg _ _ _))⟩
  · exact w.elim
theorem m_s1L {g : Str → Str → V} {h : Str → Str → D} (hg : ∀ G a b, Rp K G (g a b) (h a b)) : MethD K TB (fun x xs H Q => ∃ a b, x = .str a ∧ xs = [.str b] ∧ a.length ≤ sizeLine ∧ Q (g a b) H) (strM1L h) := fun E ws G H W x xs a as Q c rx rs w => by
  unfold strM1L at w
  split at w
  · obtain ⟨y, rfl, ry⟩ := one_of rs
    cases rx with | d rx =>
    cases rx
    cases ry with | d ry =>
    cases ry
    split at w
    · rename_i hl
      exact ⟨_, _, rfl, rfl, mil hl, w.ok c (.d (hg _ _ _))⟩
    · exact w.elim
  · exact w.elim
theorem m_s2 {g : Str → Str → Int → V} {h : Str → Str → Int → D} (hg : ∀ G a b i, Rp K G (g a b i) (h a b i)) : MethD K TB (fun x xs H Q => ∃ (a b : Str) (i : Int), x = .str a ∧ xs = [.str b, .int i] ∧ Q (g a b i) H) (strM2 h) := fun E ws G H W x xs a as Q c rx rs w => by
  unfold strM2 at w
  split at w
  · obtain ⟨y, y2, rfl, ry, ry2⟩ := two_of rs
    cases rx with | d rx =>
    cases rx
    cases ry with | d ry =>
    cases ry
    cases ry2 with | d ry2 =>
    cases ry2
    exact ⟨_, _, _, rfl, rfl, w.ok c (.d (hg _ _ _ _))⟩
  · exact w.elim
theorem m_s3 {g : Str → Str → Int → Int → V} {h : Str → Str → Int → Int → D} (hg : ∀ G a b i j, Rp K G (g a b i j) (h a b i j)) : MethD K TB (fun x xs H Q => ∃ (a b : Str) (i j : Int), x = .str a ∧ xs = [.str b, .int i, .int j] ∧ Q (g a b i j) H) (strM3 h) := fun E ws G H W x xs a as Q c rx rs w => by
  unfold strM3 at w
  split at w
  · cases rs with | cons ry rs =>
    cases rs with | cons ry2 rs =>
    cases rs with | cons ry3 rs =>
    cases rs
    cases rx with | d rx =>
    cases rx
    cases ry with | d ry =>
    cases ry
    cases ry2 with | d ry2 =>
    cases ry2
    cases ry3 with | d ry3 =>
    cases ry3
    exact ⟨_, _, _, _, rfl, rfl, w.ok c (.d (hg _ _ _ _ _))⟩
  · exact w.elim
theorem stss_at {ws : List Addr} {G : Hp} : ∀ {vs : List V} {l : List Vl} {ys : List Str}, RpVs K ws G vs l → stssOf l = some ys → vs = ys.map V.str
  | _, _, _, .nil, h => by cases h; rfl
  | v :: vs, x :: l, ys, .cons r t, h => by
    unfold stssOf at h
    split at h
    · rename_i heq; cases heq
    · rename_i s l0 heq
      cases heq
      rw [Option.map_eq_some_iff] at h
      obtain ⟨m, hm, rfl⟩ := h
      cases r with | d r =>
      cases r
      rw [stss_at t hm]
      rfl
    · cases h
def rJoin (K : PySem.W.Frag) : V → List V → Hp → VK → Prop := fun x xs H Q => ∃ a p, ∃ ys : List Str, x = .str a ∧ xs = [.ref p] ∧ (SqL K H p (ys.map V.str) ∨ SqT K H p (ys.map V.str)) ∧ (ys.map (·.length)).sum + ys.length * a.length ≤ 16777216 ∧ Q (.str (Txt.join a ys)) H
theorem mtJoin {X : Cx} (K : PySem.W.Frag) (hK : X.K = K := by rfl) : MtR X "str.join" (rJoin K) := by subst hK; exact mt_join
theorem m_join : MethD K TB (rJoin K.K) joinM := fun E ws G H W x xs a as Q c rx rs w => by
  unfold joinM at w
  split at w
  · rename_i aa b
    obtain ⟨y, rfl, ry⟩ := one_of rs
    cases rx with | d rx =>
    cases rx
    cases q : seqOf W b with
    | none => simp only [q] at w; exact w.elim
    | some l =>
      simp only [q] at w
      cases q2 : stssOf l with
      | none => simp only [q2] at w; exact w.elim
      | some ys =>
        simp only [q2] at w
        split at w
        · rename_i hl
          obtain ⟨p, vs, rfl, hs, rv⟩ := seqOf_at c ry q
          rw [stss_at rv q2] at hs
          exact ⟨aa, p, ys, rfl, rfl, hs, hl, w.ok c (.d (.str _))⟩
        · exact w.elim
  · exact w.elim
theorem strs_rp {G : Hp} : ∀ ys : List Str, RpL K G (ys.map V.str) (ys.map D.str)
  | [] => .nil
  | _ :: r => .cons (.str _) (strs_rp r)
theorem m_split : MethD K TB (fun x xs H Q => ∃ a b, x = .str a ∧ xs = [.str b] ∧ (b.length == 0) = false ∧ a.length + 2 ≤ sizeLine ∧ rNewStrs (Txt.split a b) H Q) splitM := fun E ws G H W x xs a as Q c rx rs w => by
  unfold splitM at w
  split at w
  · obtain ⟨y, rfl, ry⟩ := one_of rs
    cases rx with | d rx =>
    cases rx
    cases ry with | d ry =>
    cases ry
    split at w
    · rename_i hl
      refine ⟨_, _, rfl, rfl, hl.1, ?_, fun p hp => w _ ws _ _ (Gr.new c hp) (c.new hp) (.d (.lst upd_same (strs_rp _)))⟩
      have := hl.2
      rw [sizeLine_eq]
      omega
    · exact w.elim
  · exact w.elim
theorem m_idx : MethD K TB (fun x xs H Q => ∃ a b i rest, x = .str a ∧ xs = [.str b] ∧ Builtin.Str.occurrences a b 0 a.length 1 = i :: rest ∧ Q (.int (i : Nat)) H) idxM := fun E ws G H W x xs a as Q c rx rs w => by
  unfold idxM at w
  split at w
  · obtain ⟨y, rfl, ry⟩ := one_of rs
    cases rx with | d rx =>
    cases rx
    cases ry with | d ry =>
    cases ry
    split at w
    · rename_i i r0 heq
      exact ⟨_, _, i, r0, rfl, rfl, heq, w.ok c (.d (.int _))⟩
    · exact w.elim
  · exact w.elim
theorem o_ord : CallD K TB (fun xs H Q => ∃ x, xs = [.str x] ∧ x.length = 1 ∧ Q (.int (x.cps.getD 0 0 : Nat)) H) ordF := fun E ws G H W xs as Q c r w => by
  unfold ordF at w
  split at w
  · obtain ⟨v, rfl, r1⟩ := one_of r
    cases r1 with | d r1 =>
    cases r1
    split at w
    · rename_i hl
      exact ⟨_, rfl, hl, w.ok c (.d (.int _))⟩
    · exact w.elim
  · exact w.elim
theorem o_str : CallD K TB rStrA strF := fun E ws G H W xs as Q c r w => by
  unfold strF at w
  split at w
  · obtain ⟨v, rfl, r1⟩ := one_of r
    cases r1 with | d r1 =>
    cases r1
    exact .inr ⟨_, rfl, w.ok c (.d (.str _))⟩
  · obtain ⟨v, rfl, r1⟩ := one_of r
    cases r1 with | d r1 =>
    cases r1
    split at w
    · rename_i hl
      exact .inl ⟨_, rfl, hl, w.ok c (.d (.str _))⟩
    · exact w.elim
  · exact w.elim
end
end DL

set_option Elab.async false
set_option linter.all false
set_option maxRecDepth 100000
set_option maxHeartbeats 4000000
/-! ## comprehensions of two walks -/
namespace DL
open PySem PySem.Spec PyProof.Rows L2
open Classical in
/-- the inner walk, from what stands in ρ on; k: what comes behind it -/
noncomputable def lcI (kp : Ms → Prop) (fg : FG) (t : FT) (f : FE) (ρ : Ev) (k : List Vl → Ms → Res (List Vl)) : List Vl → List Vl → Ms → Res (List Vl)
  | acc, [], W => if kp W then k acc W else .stuck
  | acc, x :: xs, W => if kp W ∧ acc.length ≤ 1000000 then (match fg x ρ with
    | some ρ1 => (t ρ1 W).bind fun b W1 => if b = true then (f ρ1 W1).bind fun y W2 => lcI kp fg t f ρ k (acc ++ [y]) xs W2 else lcI kp fg t f ρ k acc xs W1
    | none => .stuck) else .stuck
open Classical in
noncomputable def lcO (kp : Ms → Prop) (fg : FG) (t : FT) (fi1 : FI) (fg1 : FG) (t1 : FT) (f : FE) (vs1 : List Nat) (ρ : Ev) : List Vl → List Vl → Ms → Res (List Vl)
  | acc, [], W => if kp W then .ok acc W else .stuck
  | acc, x :: xs, W => if kp W then (match fg x ρ with
    | some ρ1 => (t ρ1 W).bind fun b W1 => if b = true then (fi1 ρ1 W1).bind fun it W2 => lcI it.kp fg1 t1 f (wipeE ρ1 vs1) (fun acc2 W3 => lcO kp fg t fi1 fg1 t1 f vs1 ρ acc2 xs W3) acc it.xs W2
      else lcO kp fg t fi1 fg1 t1 f vs1 ρ acc xs W1
    | none => .stuck) else .stuck
noncomputable def eLc2 (fi : FI) (fg : FG) (t : FT) (fi1 : FI) (fg1 : FG) (t1 : FT) (f : FE) (vs vs1 : List Nat) : FE := fun ρ W => (fi ρ W).bind fun it W1 => (lcO it.kp fg t fi1 fg1 t1 f vs1 (wipeE ρ vs) [] it.xs W1).bind mkLst
noncomputable def eLc2M (fi : FI) (fg : FG) (t : FT) (fi1 : FI) (fg1 : FG) (t1 : FT) (f : FE) (vs vs1 : List Nat) : FE := fun ρ W => (fi ρ W).bind fun it W1 => (lcO it.kp fg t fi1 fg1 t1 f vs1 (wipeE ρ vs) [] it.xs W1).bind mkLstM
section
variable {K : Fr} {TB : List (Addr × Str)} {E : XK} {σ : L2.St} {ρ : Ev}
theorem bind_as {α β γ : Type} (r : Res α) (f : α → Ms → Res β) (k : β → Ms → Res γ) : (r.bind f).bind k = r.bind fun x W => (f x W).bind k := by cases r <;> rfl
theorem Gr.hold {ws ws' : List Addr} {G G' H H' : Hp} {p : Addr} {xs : List V} (gr : Gr ws G H ws' G' H') (n1 : G p = none) (n2 : p ∉ ws) (hx : H p = some (.lst xs)) : G' p = none ∧ p ∉ ws' ∧ H' p = some (.lst xs) := by
  refine ⟨?_, gr.nw p _ hx (fun _ z => nomatch z) n2, ?_⟩
  · rcases gr.nf p _ hx n1 n2 (fun _ z => nomatch z) with q | ⟨ys, q⟩
    · exact q
    · cases q
  · have e1 := gr.fr p _ hx n2 (fun _ z => nomatch z)
    exact e1
theorem s_lc2G {wi wi1 : TI} {g g1 : TG} {tt tt1 : TT} {te : TE} {fi fi1 : FI} {fg fg1 : FG} {ft ft1 : FT} {fe : FE} {vs vs1 : List Nat} {mk : List Vl → Ms → Res Vl} (hi : SI K TB E wi fi) (hg : SG K TB vs g fg) (ht : ST K TB E tt ft)
    (hi1 : SI K TB E wi1 fi1) (hg1 : SG K TB vs1 g1 fg1) (ht1 : ST K TB E tt1 ft1) (he : SE K TB E te fe)
    (end_ : ∀ (ws1 : List Addr) (G1 H1 : Hp) (W1 : Ms) (Q : VK) (p : Addr) (ws2 : List Addr) (G2 H2 : Hp) (W2 : Ms) (xs : List V) (as : List Vl), Cf K TB ws1 G1 H1 W1 → H1 p = none → Gr ws1 G1 H1 ws2 G2 H2 → Cf K TB ws2 G2 H2 W2 → G2 p = none → p ∉ ws2 → H2 p = some (.lst xs) → RpVs K ws2 G2 xs as →
      Wish K TB (RV K) E ws1 G1 H1 Q (mk as W2) → Q (.ref p) H2) : SE K TB E (tLc2 wi g tt wi1 g1 tt1 te vs vs1) (fun ρ W => (fi ρ W).bind fun it W1 => (lcO it.kp fg ft fi1 fg1 ft1 fe vs1 (wipeE ρ vs) [] it.xs W1).bind mk) := by
  intro σ ws G H ρ W Q e c w
  refine hi.go (R := RV K) e c w fun J it W1 ws1 G1 H1 g1' c1 ok w1 => ?_
  intro p hp
  have e1 := e.up g1'
  have hG1 := c1.gn hp
  refine ⟨fun i m H2 => i + m = it.xs.length ∧ ∃ ws2 G2 W2 xs as, Gr ws1 G1 H1 ws2 G2 H2 ∧ Cf K TB ws2 G2 H2 W2 ∧ G2 p = none ∧ p ∉ ws2 ∧ H2 p = some (.lst xs) ∧ RpVs K ws2 G2 xs as ∧
      Wish K TB (RV K) E ws1 G1 H1 Q ((lcO it.kp fg ft fi1 fg1 ft1 fe vs1 (wipeE ρ vs) as (it.xs.drop i) W2).bind mk),
    ⟨it.xs.length, Nat.zero_add _, ws1, G1, W1, [], [], Gr.junk hp, c1.junk hp, hG1, c1.wn hp, upd_same, .nil, ?_⟩, ?_⟩
  · rw [List.drop_zero]
    exact w1
  rintro i m H2 ⟨hm, ws2, G2, W2, xs, as, g2, c2, n1, n2, hx, rx, w2⟩
  have e2 : EnvR K ws2 G2 (L2.wipe σ vs) (wipeE ρ vs) := (e1.up g2).wipe vs
  by_cases hl : it.xs.length ≤ i
  · rw [List.drop_of_length_le hl] at w2
    unfold lcO at w2
    split at w2
    · rename_i hk
      exact .inl ⟨((ok ws2 G2 H2 W2 g2.i c2 hk) i).1 hl, end_ ws1 G1 H1 W1 Q p ws2 G2 H2 W2 xs as c1 hp g2 c2 n1 n2 hx rx w2⟩
    · exact w2.elim
  · have hi' : i < it.xs.length := by omega
    rw [List.drop_eq_getElem_cons hi'] at w2
    unfold lcO at w2
    split at w2
    · rename_i hk
      obtain ⟨go, yl⟩ := ((ok ws2 G2 H2 W2 g2.i c2 hk) i).2 _ (List.getElem?_eq_getElem hi')
      cases z : fg it.xs[i] (wipeE ρ vs) with
      | none => simp only [z] at w2; exact w2.elim
      | some ρ3 =>
        simp only [z] at w2
        let NX : Hp → Prop := fun H' => ∃ m', m' < m ∧ i + 1 + m' = it.xs.length ∧ ∃ ws4 G4 W4 xs4 as4, Gr ws1 G1 H1 ws4 G4 H' ∧ Cf K TB ws4 G4 H' W4 ∧ G4 p = none ∧ p ∉ ws4 ∧ H' p = some (.lst xs4) ∧ RpVs K ws4 G4 xs4 as4 ∧
          Wish K TB (RV K) E ws1 G1 H1 Q ((lcO it.kp fg ft fi1 fg1 ft1 fe vs1 (wipeE ρ vs) as4 (it.xs.drop (i + 1)) W4).bind mk)
        refine .inr ⟨go, NX, fun H' h => h, fun v H3 hy => ?_⟩
        obtain ⟨G3, g3, c3, r3⟩ := yl v H3 hy
        refine hg v _ _ _ ρ3 ws2 G3 H3 W2 _ (e2.up g3) c3 r3 z fun σ3 e3 q3 => ⟨q3.trans (wipe_idem σ vs), ?_⟩
        rw [bind_as] at w2
        refine ht.goB (R := RV K) e3 c3 (g2.trans g3) w2 fun b b' W5 ws5 G5 H5 g5 c5 r5 w5 => ?_
        obtain rfl : b = b' := r5
        obtain ⟨k1, k2, k3⟩ := (g3.trans g5).hold n1 n2 hx
        cases b
        · refine iteF ?_
          simp only [Bool.false_eq_true, if_false] at w5
          exact ⟨m - 1, by omega, by omega, ws5, G5, W5, xs, as, (g2.trans g3).trans g5, c5, k1, k2, k3, (g3.trans g5).rvs rx, w5⟩
        · refine iteT ?_
          simp only [if_true] at w5
          rw [bind_as] at w5
          refine hi1.goB (R := RV K) (e3.up g5) c5 ((g2.trans g3).trans g5) w5 fun J1 it1 W6 ws6 G6 H6 g6 c6 ok1 w6 => ?_
          obtain ⟨k1, k2, k3⟩ := ((g3.trans g5).trans g6).hold n1 n2 hx
          have e6 := (e3.up g5).up g6
          refine ⟨fun j k H7 => j + k = it1.xs.length ∧ ∃ ws7 G7 W7 xs7 as7, GrI ws6 G6 H6 ws7 G7 H7 ∧ Gr ws1 G1 H1 ws7 G7 H7 ∧ Cf K TB ws7 G7 H7 W7 ∧ G7 p = none ∧ p ∉ ws7 ∧ H7 p = some (.lst xs7) ∧ RpVs K ws7 G7 xs7 as7 ∧
              Wish K TB (RV K) E ws1 G1 H1 Q ((lcI it1.kp fg1 ft1 fe (wipeE ρ3 vs1) (fun acc2 W3 => lcO it.kp fg ft fi1 fg1 ft1 fe vs1 (wipeE ρ vs) acc2 (it.xs.drop (i + 1)) W3) as7 (it1.xs.drop j) W7).bind mk),
            ⟨it1.xs.length, Nat.zero_add _, ws6, G6, W6, xs, as, Gr.refl.i, ((g2.trans g3).trans g5).trans g6, c6, k1, k2, k3, ((g3.trans g5).trans g6).rvs rx, ?_⟩, ?_⟩
          · rw [List.drop_zero]
            exact w6
          rintro j k H7 ⟨hjk, ws7, G7, W7, xs7, as7, g7, g71, c7, n71, n72, hx7, rx7, w7⟩
          have e7p : EnvR K ws7 G7 σ3 ρ3 := Paired.imp (fun ov od h => by
            cases od with
            | none => trivial
            | some x =>
              obtain ⟨v, e, r⟩ := h
              exact ⟨v, e, r.to (.of g7.g) fun n a z => by
                obtain ⟨m, em⟩ := g7.p
                rw [em, List.getElem?_append_left (List.getElem?_eq_some_iff.mp z).1]
                exact z⟩) e6
          have e7 : EnvR K ws7 G7 (L2.wipe σ3 vs1) (wipeE ρ3 vs1) := e7p.wipe vs1
          by_cases hl1 : it1.xs.length ≤ j
          · rw [List.drop_of_length_le hl1] at w7
            unfold lcI at w7
            split at w7
            · rename_i hk1
              exact .inl ⟨((ok1 ws7 G7 H7 W7 g7 c7 hk1) j).1 hl1, m - 1, by omega, by omega, ws7, G7, W7, xs7, as7, g71, c7, n71, n72, hx7, rx7, w7⟩
            · exact w7.elim
          · have hj' : j < it1.xs.length := by omega
            rw [List.drop_eq_getElem_cons hj'] at w7
            unfold lcI at w7
            split at w7
            · rename_i hk1
              obtain ⟨hk1, hsz⟩ := hk1
              obtain ⟨go1, yl1⟩ := ((ok1 ws7 G7 H7 W7 g7 c7 hk1) j).2 _ (List.getElem?_eq_getElem hj')
              cases z1 : fg1 it1.xs[j] (wipeE ρ3 vs1) with
              | none => simp only [z1] at w7; exact w7.elim
              | some ρ8 =>
                simp only [z1] at w7
                refine .inr ⟨go1, fun H' => ∃ k', k' < k ∧ j + 1 + k' = it1.xs.length ∧ ∃ ws9 G9 W9 xs9 as9, GrI ws6 G6 H6 ws9 G9 H' ∧ Gr ws1 G1 H1 ws9 G9 H' ∧ Cf K TB ws9 G9 H' W9 ∧ G9 p = none ∧ p ∉ ws9 ∧ H' p = some (.lst xs9) ∧ RpVs K ws9 G9 xs9 as9 ∧
                  Wish K TB (RV K) E ws1 G1 H1 Q ((lcI it1.kp fg1 ft1 fe (wipeE ρ3 vs1) (fun acc2 W3 => lcO it.kp fg ft fi1 fg1 ft1 fe vs1 (wipeE ρ vs) acc2 (it.xs.drop (i + 1)) W3) as9 (it1.xs.drop (j + 1)) W9).bind mk), fun H' h => h, fun v8 H8 hy8 => ?_⟩
                obtain ⟨G8, g8, c8, r8⟩ := yl1 v8 H8 hy8
                refine hg1 v8 _ _ _ ρ8 ws7 G8 H8 W7 _ (e7.up g8) c8 r8 z1 fun σ8 e8 q8 => ⟨q8.trans (wipe_idem σ3 vs1), ?_⟩
                rw [bind_as] at w7
                refine ht1.goB (R := RV K) e8 c8 (g71.trans g8) w7 fun b b' W9 ws9 G9 H9 g9 c9 r9 w9 => ?_
                obtain rfl : b = b' := r9
                obtain ⟨k1, k2, k3⟩ := (g8.trans g9).hold n71 n72 hx7
                cases b
                · refine iteF ?_
                  simp only [Bool.false_eq_true, if_false] at w9
                  exact ⟨k - 1, by omega, by omega, ws9, G9, W9, xs7, as7, (g7.trans g8.i).trans g9.i, (g71.trans g8).trans g9, c9, k1, k2, k3, (g8.trans g9).rvs rx7, w9⟩
                · refine iteT ?_
                  simp only [if_true] at w9
                  rw [bind_as] at w9
                  refine he.goB (R := RV K) (e8.up g9) c9 ((g71.trans g8).trans g9) w9 fun y dy W10 ws10 G10 H10 g10 c10 r10 w10 => ?_
                  obtain ⟨k1, k2, k3⟩ := ((g8.trans g9).trans g10).hold n71 n72 hx7
                  refine ⟨xs7, k3, mil' (by rw [Paired.length rx7]; exact hsz), k - 1, by omega, by omega, ws10, G10, W10, xs7 ++ [y], as7 ++ [dy], ?_, ((((g71.trans g8).trans g9).trans g10)).junkW hp, c10.junkW k1 k2 ⟨_, k3, plain_lst⟩, k1, k2, upd_same, Paired.app (((g8.trans g9).trans g10).rvs rx7) (.cons r10 .nil), w10⟩
                  refine ((g7.trans g8.i).trans g9.i).trans (g10.i.trans ⟨fun _ _ z => z, ⟨[], by simp⟩, fun a o u z => ?_⟩)
                  have ne : a ≠ p := fun q => by rw [q, k3] at z; cases z
                  rw [upd_ne ne]
                  exact z
            · exact w7.elim
    · exact w2.elim
theorem s_lc2 {wi wi1 : TI} {g g1 : TG} {tt tt1 : TT} {te : TE} {fi fi1 : FI} {fg fg1 : FG} {ft ft1 : FT} {fe : FE} {vs vs1 : List Nat} (hi : SI K TB E wi fi) (hg : SG K TB vs g fg) (ht : ST K TB E tt ft)
    (hi1 : SI K TB E wi1 fi1) (hg1 : SG K TB vs1 g1 fg1) (ht1 : ST K TB E tt1 ft1) (he : SE K TB E te fe) : SE K TB E (tLc2 wi g tt wi1 g1 tt1 te vs vs1) (eLc2 fi fg ft fi1 fg1 ft1 fe vs vs1) :=
  s_lc2G hi hg ht hi1 hg1 ht1 he fun _ _ _ _ _ _ _ _ _ _ _ _ c1 hp g2 c2 n1 n2 hx rx w => end_lst c1 hp g2 c2 n1 n2 hx rx w
theorem s_lc2M {wi wi1 : TI} {g g1 : TG} {tt tt1 : TT} {te : TE} {fi fi1 : FI} {fg fg1 : FG} {ft ft1 : FT} {fe : FE} {vs vs1 : List Nat} (hi : SI K TB E wi fi) (hg : SG K TB vs g fg) (ht : ST K TB E tt ft)
    (hi1 : SI K TB E wi1 fi1) (hg1 : SG K TB vs1 g1 fg1) (ht1 : ST K TB E tt1 ft1) (he : SE K TB E te fe) : SE K TB E (tLc2 wi g tt wi1 g1 tt1 te vs vs1) (eLc2M fi fg ft fi1 fg1 ft1 fe vs vs1) :=
  s_lc2G hi hg ht hi1 hg1 ht1 he fun _ _ _ _ _ _ _ _ _ _ _ _ c1 hp g2 c2 n1 n2 hx rx w => end_lstM c1 hp g2 c2 n1 n2 hx rx w
end
end DL

set_option Elab.async false
set_option linter.all false
set_option maxRecDepth 100000
set_option maxHeartbeats 4000000
/-! ## a dict comprehension that a name gets -/
namespace DL
open PySem PySem.Spec PyProof.Rows L2
section
variable {X : Cx}
theorem sw_trueD {kx vx : Expr} {gs : List Comprehension} {scope : Scope} {pos py : Pos} {y : Str} {l : Nat} {env : Env} (hk : env.scope.kind = .function) (hy : env.scope.names.lookup y = some .local) (hl : (py.line == pos.line) = true)
    (ha : (scope.names.any fun (n, k) => n == y && (k == .local || k == .cell)) = false) : swapsWith (.DictComp kx vx gs scope pos) (some (.Name y py)) l env = pure true := by
  have e1 : env.blockKind = .function := by
    unfold Env.blockKind
    rw [hk]
    rfl
  have e2 : env.kindOf y = some .local := hy
  unfold swapsWith
  simp only [e1, e2, ha, Expr.pos, hl]
  rfl
theorem ps_setDc {i : Nat} {y : Str} {py : Pos} {kx vx tg iter : Expr} {ifs : List Expr} {scope : Scope} {own : List (Str × Nat)} {pos spos : Pos} {wi : TI} {g : TG} {tt : TT} {tk tv : TE} (hc : X.calm = true) (hN : X.N.Nodup) (hy : X.N[i]? = some y) (hyl : X.env.scope.names.lookup y = some .local)
    (hsw : swapsWith (.DictComp kx vx [⟨tg, iter, ifs, 0⟩] scope pos) (some (.Name y py)) spos.line X.env = pure true) (hi : PI X tg iter wi) (ok : BlkOk X.N X.env.scope scope own)
    (hg : ∀ (s : Shared) (H : Hp) (C : Addr) (cl : List (Str × Addr)) (fp : List Addr), PG (X.blk s H scope (compEnvC scope cl C X.env) fp) tg g)
    (ht : ∀ (s : Shared) (H : Hp) (C : Addr) (cl : List (Str × Addr)) (fp : List Addr), PTs (X.blk s H scope (compEnvC scope cl C X.env) fp) ifs tt)
    (hk : ∀ (s : Shared) (H : Hp) (C : Addr) (cl : List (Str × Addr)) (fp : List Addr), PE (X.blk s H scope (compEnvC scope cl C X.env) fp) kx tk)
    (he : ∀ (s : Shared) (H : Hp) (C : Addr) (cl : List (Str × Addr)) (fp : List Addr), PE (X.blk s H scope (compEnvC scope cl C X.env) fp) vx tv) (hs : ∀ x, foldedSetIterable iter X.env x = pure x := by intro _; rfl) :
    PS X (.Assign [.Name y py] (.DictComp kx vx [⟨tg, iter, ifs, 0⟩] scope pos) spos) (tAsg (tDc wi g tt tk tv (own.map (·.2))) (gName i)) := by
  constructor
  intro pins s σ H Dn I h
  rw [exec_Assign_Name_used _ _ _ _ hsw]
  refine wpAny_bind (wpAny_standAt (wpAny_bind ?_))
  have h2 : tDc wi g tt tk tv (own.map (·.2)) σ H (fun x H1 => gName i x σ H1 Dn.nx) := h
  show wpAny _ X.A (do let _ ← comprehension (.DictComp kx vx [⟨tg, iter, ifs, 0⟩] scope pos) scope X.env (firstIterPos [⟨tg, iter, ifs, 0⟩] pos) newDict false (eval iter X.env) (some (assign (.Name y py) X.env))) _ _ s
  refine wpAny_bind (thn (L2.dc_core (Qf := fun _ s' => SP X pins Dn .next s') hc hN I hi ok hg ht hk he hs h2 fun L C s' m H' I' q hn ff => ?_) fun _ s' hq => wpAny_pure (wpAny_pure hq))
  show wpAny _ _ (assign (.Name y py) X.env (.ref L)) _ _ _
  refine wpAny_assign_Name (store_ok2 (v := V.ref L) I' hN hy (.inl hyl) rfl (fun s2 I2 z => ?_) (.inr hyl))
  obtain ⟨a, sb, ha⟩ := z
  obtain ⟨f0, f1, f2, f3, f4, f5⟩ := ff
  have hne : C ≠ a := by
    cases ha with
    | inl z => rw [z]; exact f1
    | inr z => exact fun e => f4 y a z e.symm
  exact ⟨m, hn.sameBut sb hne, fun h3 sb3 => ⟨_, H', I2.turned (t' := s2.toks) (fun b o hb e => (sb3.2 b hb).trans e) f0 f1 f3 f4 f5, q⟩⟩
end
end DL

set_option Elab.async false
set_option linter.all false
set_option maxRecDepth 100000
set_option maxHeartbeats 4000000
/-! ## d.values(), made a tuple or a list -/
namespace DL
open PySem PySem.Spec PyProof.Rows L2
/-- the dict at a has the values vs -/
def ValsAt (w : World) (H : Hp) (a : Addr) (vs : List V) : Prop := (∃ kvs : List (Key × V), Rd H a (.dK kvs) ∧ vs = kvs.map (·.2)) ∨ ∃ kvs : List (NestedKey × Addr × V), Rd H a (dN w a kvs) ∧ vs = kvs.map (·.2.2)
theorem ValsAt.up {w : World} {H : Hp} {a p : Addr} {vs : List V} {o : HO} (h : ValsAt w H a vs) (hp : H p = none) : ValsAt w (upd H p o) a vs := by
  have r : ∀ u, Rd H a u → Rd (upd H p o) a u := fun u e => by
    rcases e with e | ⟨o', e⟩
    · exact .inl (by rw [upd_ne (ne_of_none e hp)]; exact e)
    · exact .inr ⟨o', by rw [upd_ne (ne_of_none e hp)]; exact e⟩
  rcases h with ⟨kvs, e, q⟩ | ⟨kvs, e, q⟩
  · exact .inl ⟨kvs, r _ e, q⟩
  · exact .inr ⟨kvs, r _ e, q⟩
section
variable {prog : Program} {w : World} {A : Around} {E : Value → Shared → Prop} {s : Shared} {r d : Addr} {n : Nat} {P : Nat → Value → Prop} {OK : Heap → Prop}
theorem code_tuple_vals {Q₁ : Value → Shared → Prop} (K : PySem.W.KdlSrc prog w "dict_values" r d n P OK) (hh : A.handled = none) (hok : OK s.heap) (hn : n ≤ sizeLine)
    (h : ∀ (h' : Heap) (tk : Nat) (acc : Array Value), (∀ b o, s.heap.get? b = some o → h'.get? b = some o) → ItemsOf P acc n → Q₁ (.ref h'.objs.size) { s with heap := h'.push { cls := .type "tuple", data := .seq acc }, toks := tk }) :
    codeAny (model prog w) A (.call (.builtin "tuple.__new__") ⟨[.type "tuple", .ref r], []⟩) (wants Q₁ E) s := by
  apply codeAny_of_tree
  show wpAny _ A.in1 (do checkBuiltinCall "tuple.__new__" ⟨[.type "tuple", .ref r], []⟩; again (.builtin "tuple.__new__" ⟨[.type "tuple", .ref r], []⟩)) _ _ s
  refine wpAny_bind (wpAny_of_eq (PySem.F.newCall_tuple_1 _) (wpAny_pure ⟨plainId_quiet PySem.F.plain_tuple_new _, codeAny_builtin PySem.F.entry_tuple_new ?_⟩))
  rw [Around.under_plainId PySem.F.plain_tuple_new _]
  have t1 := sub_tuple_self
  have t2 := init_tuple_lookup
  have t3 := madeHere_tuple
  have ty : s.TypeIs (.ref r) "dict_values" := K.type s hok
  have h1 : A.in1.handled = none := hh
  wp_walk using wpAny_typeOf ty, PySem.W.kdu_collect (A := A.in1) K h1 hok hn
  intro h' tk acc hk hacc
  show wpAny _ _ (Builtin.Tuple.tupleExact acc.toList.toArray >>= fun v => ret v) _ _ _
  unfold Builtin.Tuple.tupleExact
  have sz : acc.toList.toArray.size ≤ sizeLine := by
    rw [Array.toArray_toList, hacc.1]
    exact hn
  refine wpAny_bind (wpAny_newObj_type ?_ sz)
  refine wpAny_pure ?_
  rw [Array.toArray_toList]
  exact h h' tk acc hk hacc
theorem call_tuple_vals {Q : Value → Shared → Prop} (K : PySem.W.KdlSrc prog w "dict_values" r d n P OK) (hh : A.handled = none) (hok : OK s.heap) (hn : n ≤ sizeLine)
    (hQ : ∀ (h' : Heap) (tk : Nat) (acc : Array Value), (∀ b o, s.heap.get? b = some o → h'.get? b = some o) → ItemsOf P acc n → Q (.ref h'.objs.size) { s with heap := h'.push { cls := .type "tuple", data := .seq acc }, toks := tk }) :
    wpAny (model prog w) A (call (.type "tuple") [.ref r]) Q E s := by
  refine callType_codes (Q₁ := fun obj s₁ => s₁.TypeIs obj "tuple" ∧ Q obj s₁) PySem.F.called_tuple (PySem.F.typeCall_tuple_1 _) PySem.F.entry_object_init (code_tuple_vals (A := A.in1) K hh hok hn fun h' tk acc hk hacc => ⟨⟨_, Heap.get?_push_size _ rfl, rfl⟩, hQ h' tk acc hk hacc⟩) fun obj s₁ h₁ => ?_
  obtain ⟨k1, k2⟩ := h₁
  exact ⟨k1, PySem.F.args_object_init_2 obj _, object_init_meets PySem.F.called_tuple.init.lookup PySem.F.called_tuple.made (by decide) prog w A.in1 _ s₁ ⟨k1, rfl, k2⟩⟩
end
section
variable {X : Cx}
def rVals (w : World) : V → List V → Hp → VK → Prop := fun x xs H Q => ∃ a vs, x = .ref a ∧ xs = [] ∧ ValsAt w H a vs ∧ ∀ p, H p = none → Q (.ref p) (upd H p (viewO "dict_values" p a))
theorem mtVals (w : World) (hw : X.w = w := by rfl) : MtR X "dict.values" (rVals w) := by
  subst hw
  intro pins s σ H x xs v us Q I rx rs h
  obtain ⟨a, vs, rfl, rfl, hv, q⟩ := h
  cases rx
  cases rs
  have fin : EP X pins σ Q (.ref s.heap.objs.size) { s with heap := s.heap.push { cls := .type "dict_values", data := .fields #[.ref a] } } := by
    refine ⟨.ref s.heap.objs.size, _, I.laid (t' := s.toks) (fun b o e => Heap.get?_push_of_some _ e) (Nat.le_refl _) (viewO_ok (T := "dict_values") (d := a) (Heap.get?_push_size _ rfl)), rfl, q _ (I.hok.fresh (Nat.le_refl _))⟩
  rcases hv with ⟨kvs, e, _⟩ | ⟨kvs, e, _⟩
  · obtain ⟨_, lo, ws, _, dd⟩ := dk_rd I.hok e
    exact call_meetsIn PySem.F.slot_dict_values dd.typeIs PySem.F.entry_dict_values (PySem.F.args_dict_values_1 _) (meets_dict_values (mixKind X.prog X.w) a lo) ⟨⟨ws, dd⟩, fin⟩
  · obtain ⟨lo, _, es, ep, hr, _, _⟩ := raw_of I e
    have ty : s.TypeIs (.ref a) "dict" := by
      obtain ⟨o, ho, hx, _⟩ := hr
      exact ⟨o, ho, hx.1⟩
    exact call_meetsIn PySem.F.slot_dict_values ty PySem.F.entry_dict_values (PySem.F.args_dict_values_1 _) (meets_dict_values_raw a lo) ⟨⟨es, ep, hr⟩, fin⟩
theorem vals_rel {kvs : List (Key × V)} {ws : List (Key × Value)} (rk : KV kvs ws) {acc : Array Value} (hacc : ItemsOf (fun i v => ∃ k, ws[i]? = some (k, v)) acc ws.length) : Vals (kvs.map (·.2)) acc.toList := by
  have hl : kvs.length = ws.length := Paired.length rk
  refine vals_of_at (by
    have el : acc.toList.length = acc.size := by simp
    rw [List.length_map, el, hacc.1, hl]) fun j x w h1 h2 => ?_
  obtain ⟨k, hk⟩ := hacc.2 j w (by rw [← Array.getElem?_toList]; exact h2)
  obtain ⟨p, hp, _, e2⟩ := Paired.at' rk hk
  rw [List.getElem?_map, hp] at h1
  cases h1
  exact e2
theorem vals_relN {kvs : List (NestedKey × Addr × V)} {es : Array DictEntry} (hs : es.size = kvs.length) (hk : ∀ (i : Nat) (p : NestedKey × Addr × V), kvs[i]? = some p → ∃ en, es[i]? = some en ∧ en.key = .ref p.2.1 ∧ RelV p.2.2 en.val) {acc : Array Value}
    (hacc : ItemsOf (fun i v => ∃ hi : i < es.size, v = es[i].val) acc es.size) : Vals (kvs.map (·.2.2)) acc.toList := by
  refine vals_of_at (by
    have el : acc.toList.length = acc.size := by simp
    rw [List.length_map, el, hacc.1, hs]) fun j x w h1 h2 => ?_
  rw [List.getElem?_map] at h1
  cases q : kvs[j]? with
  | none => rw [q] at h1; cases h1
  | some p =>
    rw [q] at h1
    cases h1
    obtain ⟨en, e1, _, e2⟩ := hk j p q
    obtain ⟨hi, e3⟩ := hacc.2 j w (by rw [← Array.getElem?_toList]; exact h2)
    have e4 : es[j] = en := by
      rw [Array.getElem?_eq_getElem hi] at e1
      exact Option.some.inj e1
    rw [e3, e4]
    exact e2
/-- what collects the values: the view at p is of the dict at a -/
def rOfVals (w : World) (o : List V → HO) : List V → Hp → VK → Prop := fun xs H Q => ∃ p a vs, xs = [.ref p] ∧ H p = some (viewO "dict_values" p a) ∧ ValsAt w H a vs ∧ ∀ q, H q = none → Q (.ref q) (upd H q (o vs))
theorem view_at {pins : List (Addr × Obj)} {σ : L2.St} {H : Hp} {s : Shared} {p a : Addr} (I : Inv X pins σ H s) (h : H p = some (viewO "dict_values" p a)) : s.heap.IsValuesView p a :=
  ⟨_, (show ObjOk X.prog X.w H s.heap p (viewO "dict_values" p a) from I.hok p _ h).1, rfl, rfl⟩
theorem tupVals (w : World) (hc : X.calm = true := by rfl) (hw : X.w = w := by rfl) : CallR X (.type "tuple") (rOfVals w .tup) := by
  subst hw
  intro pins s σ H xs us Q I r h
  obtain ⟨p, a, vs, rfl, hp, hv, q⟩ := h
  obtain ⟨u, rfl, ru⟩ := vals1 r
  cases ru
  have vw := view_at I hp
  have fin : ∀ {h' : Heap} {tk : Nat} {acc : Array Value}, vs.length ≤ sizeLine → (∀ b o, s.heap.get? b = some o → h'.get? b = some o) → Vals vs acc.toList →
      EP X pins σ Q (.ref h'.objs.size) { s with heap := h'.push { cls := .type "tuple", data := .seq acc }, toks := tk } := fun {h' tk acc} hz k rv => by
    have I1 : Inv X pins σ H { s with heap := h', toks := tk } := I.kept k
    exact ⟨.ref h'.objs.size, _, I1.laid (t' := tk) (fun b o e => Heap.get?_push_of_some _ e) (Nat.le_refl _) (show ObjOk X.prog X.w _ _ _ (.tup vs) from ⟨hz, acc.toList, rv, by rw [Array.toArray_toList]; exact IsTup.new _ _⟩), rfl, q _ (I1.hok.fresh (Nat.le_refl _))⟩
  rcases hv with ⟨kvs, e, rfl⟩ | ⟨kvs, e, rfl⟩
  · obtain ⟨z, lo, ws, rk, hd⟩ := dk_rd I.hok e
    obtain ⟨ep, hat⟩ := hd.dictAt
    exact call_tuple_vals (PySem.W.kdl_values (knd := mixKind X.prog X.w) (kvs := ws) (ep := ep) (r := p) (d := a)) (I.ok.hd hc) ⟨vw, hat⟩ (by rw [← Paired.length rk]; exact z) fun h' tk acc k hacc => fin (by rw [List.length_map]; exact z) k (vals_rel rk hacc)
  · obtain ⟨lo, z, es, ep, hr, hs, hk⟩ := raw_of I e
    exact call_tuple_vals (KdlSrc.rawValues (es := es) (ep := ep) (r := p) (d := a)) (I.ok.hd hc) ⟨vw, hr⟩ (by rw [hs]; exact z) fun h' tk acc k hacc => fin (by rw [List.length_map]; exact z) k (vals_relN hs hk hacc)
theorem lstVals (w : World) (hc : X.calm = true := by rfl) (hw : X.w = w := by rfl) : CallR X (.type "list") (rOfVals w .lst) := by
  subst hw
  intro pins s σ H xs us Q I r h
  obtain ⟨p, a, vs, rfl, hp, hv, q⟩ := h
  obtain ⟨u, rfl, ru⟩ := vals1 r
  cases ru
  have vw := view_at I hp
  have fin : ∀ {h' : Heap} {tk c : Nat} {acc : Array Value}, vs.length ≤ sizeLine → (∀ b o, s.heap.get? b = some o → h'.get? b = some o) → h'.get? s.heap.objs.size = some { cls := .type "list", dict := none, data := .seq acc c, slots := #[] } → Vals vs acc.toList →
      EP X pins σ Q (.ref s.heap.objs.size) { s with heap := h', toks := tk } := fun {h' tk c acc} hz k e rv => by
    exact ⟨.ref s.heap.objs.size, _, I.laid (t' := tk) k (Nat.le_refl _) (show ObjOk X.prog X.w _ _ _ (.lst vs) from ⟨hz, acc.toList, c, rv, by rw [Array.toArray_toList]; exact e⟩), rfl, q _ (I.hok.fresh (Nat.le_refl _))⟩
  rcases hv with ⟨kvs, e, rfl⟩ | ⟨kvs, e, rfl⟩
  · obtain ⟨z, lo, ws, rk, hd⟩ := dk_rd I.hok e
    obtain ⟨ep, hat⟩ := hd.dictAt
    exact PySem.W.kdl_call (PySem.W.kdl_values (knd := mixKind X.prog X.w) (kvs := ws) (ep := ep) (r := p) (d := a)) (I.ok.hd hc) ⟨vw, hat⟩ (by rw [← Paired.length rk]; exact z) fun h' tk acc c k e hacc => fin (by rw [List.length_map]; exact z) k e (vals_rel rk hacc)
  · obtain ⟨lo, z, es, ep, hr, hs, hk⟩ := raw_of I e
    exact PySem.W.kdl_call (KdlSrc.rawValues (es := es) (ep := ep) (r := p) (d := a)) (I.ok.hd hc) ⟨vw, hr⟩ (by rw [hs]; exact z) fun h' tk acc c k e hacc => fin (by rw [List.length_map]; exact z) k e (vals_relN hs hk hacc)
end
/-! ### as data -/
def valsOf (W : Ms) (x : Vl) : Option (List Vl) := (dctOf W x).map (·.map (·.2))
def eOfVals (mk : List Vl → Ms → Res Vl) (f : FE) : FE := fun ρ W => (f ρ W).bind fun x W1 => match valsOf W1 x with
  | some l => mk l W1
  | none => .stuck
section
variable {K : Fr} {TB : List (Addr × Str)} {E : XK} {ws : List Addr} {G H : Hp} {W : Ms}
theorem vals_at {v : V} {x : Vl} {l : List Vl} (c : Cf K TB ws G H W) (r : RpV K ws G v x) (h : valsOf W x = some l) : ∃ a vs, v = .ref a ∧ ValsAt K.w H a vs ∧ RpVs K ws G vs l ∧ tyA K.K K.w "dict" v H := by
  unfold valsOf at h
  rw [Option.map_eq_some_iff] at h
  obtain ⟨l0, q, rfl⟩ := h
  obtain ⟨a, rfl, hd⟩ := dct_at c r q
  rcases hd with ⟨kvs, e, rk⟩ | ⟨kvs, e, rn, nl⟩
  · exact ⟨a, _, rfl, .inl ⟨kvs, e, rfl⟩, Paired.map2 (fun _ _ z => z.2) rk, .inr ⟨rfl, a, rfl, .inl ⟨kvs, e⟩⟩⟩
  · exact ⟨a, _, rfl, .inr ⟨kvs, e, rfl⟩, Paired.map2 (fun _ _ z => z.2) rn, .inr ⟨rfl, a, rfl, .inr ⟨kvs, e, nk_all c.g rn⟩⟩⟩
theorem s_ofVals {to : TE} {f : FE} {o : List V → HO} {mk : List Vl → Ms → Res Vl} (hm : ∀ (ws : List Addr) (G H : Hp) (W : Ms) (Q : VK) (xs : List V) (as : List Vl), Cf K TB ws G H W → RpVs K ws G xs as → Wish K TB (RV K) E ws G H Q (mk as W) → ∀ p, H p = none → Q (.ref p) (upd H p (o xs)))
    (h : SE K TB E to f) : SE K TB E (tCB (rOfVals K.w o) (tCons (tAM K.K K.w "dict" (rVals K.w) to tNil) tNil)) (eOfVals mk f) := by
  intro σ ws G H ρ W Q e c w
  refine h.go (R := RV K) e c w fun x a W1 ws1 G1 H1 g1 c1 r1 w1 => ?_
  cases q : valsOf W1 a with
  | none => rw [q] at w1; exact w1.elim
  | some l =>
    rw [q] at w1
    obtain ⟨d, vs, rfl, hv, rv, ty⟩ := vals_at c1 r1 q
    refine ⟨ty, d, vs, rfl, rfl, hv, fun p hp => ?_⟩
    refine ⟨p, d, vs, rfl, upd_same, hv.up hp, fun q2 hq => ?_⟩
    exact hm _ _ _ _ _ _ _ (c1.junk (o := viewO "dict_values" p d) hp) rv (Wish.up w1 (Gr.junk hp)) q2 hq
theorem s_tupVals {to : TE} {f : FE} (h : SE K TB E to f) : SE K TB E (tCB (rOfVals K.w .tup) (tCons (tAM K.K K.w "dict" (rVals K.w) to tNil) tNil)) (eOfVals mkTup f) := s_ofVals (fun _ _ _ _ _ _ _ c r w => (mk_tup c r w).2) h
theorem s_lstVals {to : TE} {f : FE} (h : SE K TB E to f) : SE K TB E (tCB (rOfVals K.w .lst) (tCons (tAM K.K K.w "dict" (rVals K.w) to tNil) tNil)) (eOfVals mkLst f) := s_ofVals (fun _ _ _ _ _ _ _ c r w => (mk_lst c r w).2) h
end
end DL

set_option Elab.async false
set_option linter.all false
set_option maxRecDepth 100000
set_option maxHeartbeats 4000000
/-! ## dicts written out -/
namespace DL
open PySem PySem.Spec PyProof.Rows L2
noncomputable def fPairs : List (FE × FE) → Ev → Ms → Res (List (D × Vl))
  | [], _, W => .ok [] W
  | (fk, fv) :: r, ρ, W => (fk ρ W).bind fun k W1 => (fv ρ W1).bind fun v W2 => (fPairs r ρ W2).bind fun l W3 => match dcL.keyV k with
    | some kk => .ok ((kk, v) :: l) W3
    | none => .stuck
noncomputable def eDisp (fs : List (FE × FE)) : FE := fun ρ W => (fPairs fs ρ W).bind fun l W1 => if l.length ≤ 15 then mkDct (mergeD [] l) W1 else .stuck
noncomputable def eDispM (fs : List (FE × FE)) : FE := fun ρ W => (fPairs fs ρ W).bind fun l W1 => if l.length ≤ 15 then mkDctM (mergeD [] l) W1 else .stuck
section
variable {K : Fr} {TB : List (Addr × Str)} {E : XK}
def RP (K : Fr) : List Addr → Hp → Hp → List (V × V) → List (D × Vl) → Prop := fun ws G _ ps l => ∃ kvs : List (Key × V), ps = kvs.map (fun kv => (kV kv.1, kv.2)) ∧ RpVK K ws G kvs l
abbrev SPs (K : Fr) (TB : List (Addr × Str)) (E : XK) : List (TE × TE) → List (FE × FE) → Prop := Paired fun t f => SE K TB E t.1 f.1 ∧ SE K TB E t.2 f.2
theorem s_pairs : ∀ {ts : List (TE × TE)} {fs : List (FE × FE)}, SPs K TB E ts fs → Snd K TB (RP K) E (tPairs ts) (fPairs fs)
  | _, _, .nil => fun σ ws G H ρ W Q e c w => w.ok c ⟨[], rfl, .nil⟩
  | (tk, tv) :: ts, (fk, fv) :: fs, .cons h t => fun σ ws G H ρ W Q e c w => by
    obtain ⟨hk, hv⟩ := h
    refine hk.go (R := RP K) e c w fun y dy W1 ws1 G1 H1 g1 c1 r1 w1 => ?_
    refine hv.go (R := RP K) (e.up g1) c1 w1 fun z dz W2 ws2 G2 H2 g2 c2 r2 w2 => ?_
    refine (s_pairs t).go (R := RP K) ((e.up g1).up g2) c2 w2 fun ps l W3 ws3 G3 H3 g3 c3 r3 w3 => ?_
    cases q : dcL.keyV dy with
    | none => simp only [q] at w3; exact w3.elim
    | some kk =>
      simp only [q] at w3
      obtain ⟨k, rfl, rfl⟩ := dcL_key q r1
      obtain ⟨kvs, rfl, rk⟩ := r3
      exact w3.ok c3 ⟨(k, z) :: kvs, rfl, .cons ⟨rfl, g3.rv r2⟩ rk⟩
theorem Gr.holdD {ws ws' : List Addr} {G G' H H' : Hp} {p : Addr} {xs : List (Key × V)} (gr : Gr ws G H ws' G' H') (n1 : G p = none) (n2 : p ∉ ws) (hx : H p = some (.dK xs)) : G' p = none ∧ p ∉ ws' ∧ H' p = some (.dK xs) := by
  refine ⟨?_, gr.nw p _ hx (fun _ z => nomatch z) n2, ?_⟩
  · rcases gr.nf p _ hx n1 n2 (fun _ z => nomatch z) with q | ⟨ys, q⟩
    · exact q
    · cases q
  · have e1 := gr.fr p _ hx n2 (fun _ z => nomatch z)
    exact e1
theorem s_dispG {ts : List (TE × TE)} {fs : List (FE × FE)} {mk : List (D × Vl) → Ms → Res Vl} (h : SPs K TB E ts fs)
    (end_ : ∀ (ws G H : _) (ws1 : List Addr) (G1 H1 : Hp) (W1 : Ms) (Q : VK) (p : Addr) (kvs : List (Key × V)) (l : List (D × Vl)) (W : Ms), Cf K TB ws G H W → H p = none → Gr ws G H ws1 G1 H1 → Cf K TB ws1 G1 H1 W1 → G1 p = none → p ∉ ws1 → H1 p = some (.dK kvs) → RpVK K ws1 G1 kvs l → Wish K TB (RV K) E ws G H Q (mk l W1) → Q (.ref p) H1) :
    SE K TB E (tDisp ts) (fun ρ W => (fPairs fs ρ W).bind fun l W1 => if l.length ≤ 15 then mk (mergeD [] l) W1 else .stuck) := by
  intro σ ws G H ρ W Q e c w p hp
  dsimp only at w
  have c0 := c.junk (o := .dK []) hp
  have g0 : Gr ws G H ws G (upd H p (.dK [])) := Gr.junk hp
  refine s_pairs h σ ws G _ ρ W _ (e.up g0) c0 ?_
  cases q : fPairs fs ρ W with
  | stuck => rw [q] at w; exact w
  | exc C W1 => rw [q] at w; exact fun ws' G' H' g' c' => w ws' G' H' (g0.trans g') c'
  | ok l W1 =>
    rw [q] at w
    intro ps ws1 G1 H1 g1 c1 r1
    simp only [Res.bind_ok] at w
    split at w
    · rename_i hl
      obtain ⟨kvs, rfl, rk⟩ := r1
      obtain ⟨k1, k2, k3⟩ := g1.holdD (c.gn hp) (c.wn hp) upd_same
      refine ⟨k3, kvs, rfl, by rw [Paired.length rk]; exact hl, ?_⟩
      exact end_ ws G H ws1 G1 _ W1 Q p _ _ W c hp (Gr.junkW (g0.trans g1) hp) (c1.junkW k1 k2 ⟨_, k3, plain_dK⟩) k1 k2 upd_same (merge_vk .nil rk) w
    · exact w.elim
theorem s_disp {ts : List (TE × TE)} {fs : List (FE × FE)} (h : SPs K TB E ts fs) : SE K TB E (tDisp ts) (eDisp fs) := s_dispG h fun ws G H ws1 G1 H1 W1 Q p kvs l W c hp g c1 n1 n2 hx rk w => by
  unfold mkDct at w
  cases q : dctD l with
  | none => rw [q] at w; exact w.elim
  | some l' =>
    rw [q] at w
    exact w _ ws1 (upd G1 p (.dK kvs)) H1 (Gr.own g hp (c.gn hp) n1) (c1.own n1 n2 hx) (.d (.dct (.inl upd_same) ((dctK_rp rk q).to (.of (same_upd n1)))))
theorem s_dispM {ts : List (TE × TE)} {fs : List (FE × FE)} (h : SPs K TB E ts fs) : SE K TB E (tDisp ts) (eDispM fs) := s_dispG h fun ws G H ws1 G1 H1 W1 Q p kvs l W c hp g c1 n1 n2 hx rk w => by
  unfold mkDctM at w
  refine w _ (ws1 ++ [p]) G1 H1 (Gr.ownM g hp) (c1.ownM n1 n2 (by rw [hx]; simp) (.inl ⟨kvs, hx, ?_⟩)) (.mu (at_end c1.len))
  exact Paired.imp (fun _ _ r => ⟨r.1, r.2.to (.of fun _ _ z => z) fun i b z => by
    rw [List.getElem?_append_left (List.getElem?_eq_some_iff.mp z).1]
    exact z⟩) rk
end
end DL

set_option Elab.async false
set_option linter.all false
set_option maxRecDepth 100000
set_option maxHeartbeats 4000000
/-! ## sorted(xs, key=own def) -/
namespace DL
open PySem PySem.Spec PyProof.Rows L2
open PySem.Calls PySem.W
section
variable {prog : Program} {w : World} {A : Around} {E : Value → Shared → Prop} {s : Shared} {a kS : Addr} {vs : List Value} {keys : Array Value} {e e1 : Nat} {P : PySem.Fin → Shared → Prop}
theorem keyL_tail {st : SortSt} {out : List Value} (nk : s.heap.get? kS = some (seqObj "list" keys e)) (na : s.heap.get? a = some (seqObj "list" #[] e1)) (hka : kS ≠ a) (hsz : keys.size ≤ sizeLine) (hz : out.length ≤ sizeLine) (hfl : failedOf st = none) (ho : (PyProof.Rows.arrOf st).map (·.2) = out.toArray)
    (h : ∀ h1 h' tk c1 c, Heap.SameBut kS s.heap h1 → h1.get? kS = some (seqObj "list" #[] c1) → Heap.SameBut a h1 h' → h'.get? a = some (seqObj "list" out.toArray c) → P (.done (.ret .none)) { s with heap := h', toks := tk }) :
    wpAny (model prog w) A (ksk_tail a false e1 (.ref kS) st) P E s := by
  have u1 := Heap.SameBut.update s.heap kS (Obj.mapSeq fun _ => (#[] : Array Value))
  have m1 : (s.heap.update kS (Obj.mapSeq fun _ => (#[] : Array Value))).get? a = some (seqObj "list" #[] e1) := (u1.2 a hka.symm).trans na
  have u2 := Heap.SameBut.update (s.heap.update kS (Obj.mapSeq fun _ => (#[] : Array Value))) a (Obj.mapSeq fun _ => out.toArray)
  have z2 : out.toArray.size ≤ sizeLine + 1 := by
    rw [List.size_toArray]
    omega
  unfold ksk_tail
  dsimp only
  simp only [Bool.false_eq_true, if_false]
  rw [ho]
  refine wpAny_bind (listUpdate_at nk rfl ?_ hsz (Nat.zero_le _))
  refine wpAny_bind (wpAny_letGo ?_)
  refine wpAny_bind (seqEpoch_at m1 rfl ?_)
  refine wpAny_bind (listUpdate_at m1 rfl ?_ (Nat.zero_le _) z2)
  rw [hfl]
  simp only [bne_self_eq_false, Bool.false_eq_true, if_false]
  exact wpAny_pure (h _ _ _ _ _ u1 (get?_update_seq nk fun _ => #[]) u2 (get?_update_seq m1 fun _ => out.toArray))
theorem keyL_end {κ : PyProof.Rows.KeyKind} (nk : s.heap.get? kS = some (seqObj "list" keys e)) (na : s.heap.get? a = some (seqObj "list" #[] e1)) (hka : kS ≠ a) (S : SortsAt prog w A s κ keys.toList) (hsz : keys.size = vs.length) (hZ : vs.length ≤ sizeLine)
    (h : ∀ h1 h' tk c1 c, Heap.SameBut kS s.heap h1 → h1.get? kS = some (seqObj "list" #[] c1) → Heap.SameBut a h1 h' → h'.get? a = some (seqObj "list" (sortVals κ false keys.toList vs).toArray c) → P (.done (.ret .none)) { s with heap := h', toks := tk }) :
    wpAny (model prog w) A (ksk_end a false vs.toArray e1 (.ref kS) keys) P E s := by
  obtain ⟨kd, p1, p2⟩ := S.kind
  have kl : keys.toList.length = vs.length := by
    rw [Array.length_toList, hsz]
  have kz : keys.size ≤ sizeLine := by rw [hsz]; exact hZ
  have K : PyProof.Rows.KeysOf κ (keys.zip vs.toArray) := keysOf_zip S.keys
  have ol : (sortVals κ false keys.toList vs).length ≤ sizeLine := by
    rw [sortVals_length false kl]
    exact hZ
  have zs : (keys.zip vs.toArray).size = vs.length := by
    rw [Array.size_zip, hsz, List.size_toArray, Nat.min_self]
  have fin : ∀ st' : SortSt, (PyProof.Rows.arrOf st').Perm (keys.zip vs.toArray) → SortedToK κ (PyProof.Rows.arrOf st') (keys.zip vs.toArray).size → Stable κ (PyProof.Rows.arrOf st') (keys.zip vs.toArray) →
      (PyProof.Rows.arrOf st').map (·.2) = (sortVals κ false keys.toList vs).toArray := by
    intro st' q1 q2 q3
    have z := congrArg List.toArray (sort_out (rev := false) (keys := keys) (items := vs.toArray) (xs := PyProof.Rows.arrOf st') (κ := κ) K q1 q2 q3)
    simp only [Bool.false_eq_true, if_false] at z
    rw [Array.toArray_toList] at z
    exact z
  unfold ksk_end
  dsimp only
  simp only [Bool.false_eq_true, if_false]
  by_cases two : vs.toArray.size < 2
  · rw [if_pos two, if_pos two]
    refine wpAny_bind (wpAny_pure ?_)
    rw [StateT.run_pure]
    refine wpAny_bind (wpAny_pure ?_)
    dsimp only
    refine keyL_tail (st := SortSt.mk' general' (keys.zip vs.toArray) #[] 7 none) nk na hka kz ol rfl (fin _ (Array.Perm.refl _) ?_ (Stable.refl _)) h
    intro i j hij hj
    rw [zs] at hj
    rw [List.size_toArray] at two
    obtain rfl : i = j := by omega
    exact KeyOrd.kle_refl _
  · rw [if_neg two, if_neg two]
    rw [List.size_toArray] at two
    refine wpAny_bind (p2 (by omega) _ ?_)
    refine wpAny_bind (wpAny_mono (H.wpS_sortRunsSt (κ := κ) (kd := kd) (a₀ := keys.zip vs.toArray) (st := SortSt.mk' kd (keys.zip vs.toArray) #[] 7 none)
      (Q := fun _ st' => failedOf st' = none ∧ (PyProof.Rows.arrOf st').map (·.2) = (sortVals κ false keys.toList vs).toArray) p1 K ⟨Array.Perm.refl _, rfl, rfl⟩ rfl (Stable.refl _) (by rw [zs]; omega) fun st' a1 a2 a3 a4 => ⟨a2, fin st' a1 a3 a4⟩) ?_ fun _ _ z => z)
    rintro ⟨⟨⟩, st'⟩ s' ⟨rfl, hf, ho⟩
    dsimp only at ho ⊢
    exact keyL_tail nk na hka kz ol hf ho h
end
/-! ### the keys are made -/
/-- a list that is known to the letter -/
def lstX (a : Addr) (xs : Array Value) (n : Nat) : HO := .ext fun h => h.get? a = some (seqObj "list" xs n)
theorem lstX_ok {P : Program} {w : World} {H : Hp} {h : Heap} {a : Addr} {xs : Array Value} {n : Nat} (e : h.get? a = some (seqObj "list" xs n)) : ObjOk P w H h a (lstX a xs n) := ⟨e, ⟨_, e⟩, fun h1 h2 f k => k _ f⟩
section
variable {X : Cx} {pins : List (Addr × Obj)} {σ : L2.St} {H : Hp} {s : Shared} {a kS fa : Addr} {fd : FuncData} {ps : List Str} {k : Nat} {sp : Sp} {dvs : List V} {ds : List Value}
theorem lstX_at {xs : Array Value} {n : Nat} (I : Inv X pins σ H s) (h : H a = some (lstX a xs n)) : s.heap.get? a = some (seqObj "list" xs n) := (show ObjOk X.prog X.w H s.heap a (lstX a xs n) from I.hok a _ h).1
/-- a key -/
theorem key_run {B : Around} {us : List Value} {vs : List V} {Q : VK} (F : FnOk X.prog X.w X.K X.mg X.base (L2.CX X.prog X.w) k fa fd ps sp) (hr : Room k B) (hE : Env0 X.prog X.w X.K X.mg X.base B X.stack s H) (hb : Binds X.K fd ps ds) (hd : Vals dvs ds)
    (I : Inv X pins σ H s) (r : Vals vs us) (h : sp (vs ++ dvs) H Q E0) : wpAny (model X.prog X.w) B (call (.ref fa) us) (EP X pins σ Q) (fun _ _ => False) s := by
  have r2 : Vals (vs ++ dvs) (us ++ ds) := r.append hd
  have hl : (us ++ ds).length = ps.length := by rw [← r2.length]; exact F.len _ _ _ _ h
  apply wpAny_call
  refine codeAny_mono (F.run B X.stack s H ⟨us, []⟩ (us ++ ds) (vs ++ dvs) Q E0 hr hE (hb s us I.kIn hl) r2 h) fun rr s' hq => ?_
  match rr, hq with
  | .error e, hq =>
    obtain ⟨_, _, _, _, _, _, _, _, _, _, _, _, z⟩ := hq
    exact z.elim
  | .ok (.ret u), hq => exact I.after hq
  | .ok .next, hq => exact False.elim hq
  | .ok .brk, hq => exact False.elim hq
  | .ok .cont, hq => exact False.elim hq
theorem key_loop {B : Around} {us : List Value} {vs : List V} {J : Nat → List V → Hp → Prop} {e1 : Nat} {P : PySem.Fin → Shared → Prop} {E : Value → Shared → Prop} (F : FnOk X.prog X.w X.K X.mg X.base (L2.CX X.prog X.w) k fa fd ps sp) (hr : Room k B)
    (hE : ∀ H s, Inv X pins σ H s → Env0 X.prog X.w X.K X.mg X.base B X.stack s H) (hb : Binds X.K fd ps ds) (hd : Vals dvs ds) (rv : Vals vs us) (hz : vs.length ≤ sizeLine)
    (step : ∀ (i : Nat) (v : V) (ks : List V) (H' : Hp), vs[i]? = some v → J i ks H' → (∃ xs n, H' kS = some (lstX kS xs n)) → sp (v :: dvs) H' (fun q H'' => H'' kS = H' kS ∧ ∀ xs n, J (i + 1) (ks ++ [q]) (upd H'' kS (lstX kS xs n))) E0)
    (I : Inv X pins σ H s) (hJ : J 0 [] H) (hk : H kS = some (lstX kS #[] 0))
    (done : ∀ (ks : List V) (H' : Hp) (s' : Shared) (kA : Array Value) (n : Nat), Inv X pins σ H' s' → J vs.length ks H' → H' kS = some (lstX kS kA n) → Vals ks kA.toList → kA.size = vs.length → wpAny (model X.prog X.w) B (ksk_end a false us.toArray e1 (.ref kS) kA) P E s') :
    wpAny (model X.prog X.w) B (ksk_rest a (.ref fa) false us.toArray e1 (.ref kS)) P E s := by
  have hul : us.length = vs.length := rv.length.symm
  unfold ksk_rest
  refine wpAny_bind (wpAny_rule ?_)
  first
    | rw [List.forIn_toArray]
    | (rw [← Array.forIn_toList]; simp only [List.toList_toArray])
    | rw [← Array.forIn_toList]
  refine wpAny_bind (ksk_fold (fun i s' => ∃ H' ks kA n, Inv X pins σ H' s' ∧ J i ks H' ∧ H' kS = some (lstX kS kA n) ∧ Vals ks kA.toList ∧ kA.size = i) us 0 s ⟨H, [], #[], 0, I, hJ, hk, .nil, rfl⟩ ?step ?done)
  case step =>
    rintro j u s' hu ⟨H', ks, kA, n, I', j', hk', rk, hl⟩
    simp only [Nat.zero_add] at hl j' ⊢
    have hj : j < us.length := (List.getElem?_eq_some_iff.mp hu).1
    obtain ⟨v, hv, ru⟩ : ∃ v, vs[j]? = some v ∧ RelV v u := by
      obtain ⟨w, hw⟩ : ∃ w, vs[j]? = some w := ⟨_, List.getElem?_eq_getElem (by omega)⟩
      obtain ⟨u', hu', rw'⟩ := rv.get hw
      rw [hu] at hu'
      cases hu'
      exact ⟨w, hw, rw'⟩
    refine wpAny_bind (wpAny_attempt (wpAny_mono (key_run (vs := [v]) F hr (hE _ _ I') hb hd I' (.cons ru .nil) (step j v ks H' hv j' ⟨kA, n, hk'⟩)) (fun q s'' he => ?_) fun _ _ z => z.elim))
    obtain ⟨x, H'', I2, rx, e2, j2⟩ := he
    dsimp only
    have nk2 := lstX_at I2 (e2.trans hk')
    have sb := Heap.SameBut.update s''.heap kS (Obj.mapSeq (·.push q))
    have nk3 := get?_update_seq nk2 (·.push q)
    refine wpAny_bind (listUpdate_at nk2 rfl ?_ (by omega) (by rw [Array.size_push]; omega))
    refine wpAny_pure ⟨rfl, _, ks ++ [x], kA.push q, _, d_write I2 (by rw [e2, hk']; exact True.intro) sb ⟨_, nk3⟩ (lstX_ok nk3), j2 _ _, upd_same, ?_, by rw [Array.size_push, hl]⟩
    have ea : (kA.push q).toList = kA.toList ++ [q] := by simp
    rw [ea]
    exact rk.append (.cons rx .nil)
  case done =>
    rintro s' ⟨H', ks, kA, n, I', j', hk', rk, hl⟩
    simp only [Nat.zero_add] at hl j'
    rw [hul] at hl j'
    try dsimp only
    refine wpAny_bind (listItems_at (lstX_at I' hk') rfl ?_)
    exact done ks H' s' kA n I' j' hk' rk hl
end
end DL

set_option Elab.async false
set_option linter.all false
set_option maxRecDepth 100000
set_option maxHeartbeats 4000000
/-! ## sorted(xs, key=own def): the rule -/
namespace DL
open PySem PySem.Spec PyProof.Rows L2
open PySem.Calls PySem.W
def rSortKey (K : PySem.W.Frag) (w : World) (fa : Addr) (sp : Sp) (dvs : List V) : List V → List V → Hp → VK → Prop := fun xs zs H Q => ∃ l vs, xs = [.ref l] ∧ zs = [.ref fa] ∧ Src K w H l vs ∧ vs.length ≤ 1000000 ∧ ∀ a kS e1, kS ≠ a → H a = none → H kS = none → ∃ J : Nat → List V → Hp → Prop,
  J 0 [] (upd (upd H a (lstX a #[] e1)) kS (lstX kS #[] 0)) ∧
  (∀ (i : Nat) (v : V) (ks : List V) (H' : Hp), vs[i]? = some v → J i ks H' → (∃ xs n, H' kS = some (lstX kS xs n)) → sp (v :: dvs) H' (fun q H'' => H'' kS = H' kS ∧ ∀ xs n, J (i + 1) (ks ++ [q]) (upd H'' kS (lstX kS xs n))) E0) ∧
  ∀ (ks : List V) (H' : Hp), J vs.length ks H' → H' a = some (lstX a #[] e1) ∧ ∃ kz : List PyData, Paired (fun q d => Dp K H' q d ∧ d.depth ≤ 8) ks kz ∧ AllAlike kz ∧ DS.Sorta kz ∧
    ∀ xs n, Q (.ref a) (upd (upd H' kS (lstX kS xs n)) a (.lst (((vs.zip kz).mergeSort (dataLe false (·.2))).map (·.1))))
theorem each_reads {X : Cx} {pins : List (Addr × Obj)} {σ : L2.St} {H : Hp} {t : Shared} (I : Inv X pins σ H t) : ∀ {ks : List V} {kz : List PyData} {us : List Value}, Paired (fun q d => Dp X.K H q d ∧ d.depth ≤ 8) ks kz → Vals ks us → EachIs (fun v d => ∃ as, Reads t.heap v d as) us kz
  | _, _, _, .nil, rv => by cases rv; exact .nil
  | _, _, _, .cons h r, rv => by
    cases rv with
    | cons r1 r2 => exact .cons (Dp.reads I _ _ _ h.1 r1) (each_reads I r r2)
theorem dep8 : ∀ {K : PySem.W.Frag} {H : Hp} {ks : List V} {kz : List PyData}, Paired (fun q d => Dp K H q d ∧ d.depth ≤ 8) ks kz → ∀ d ∈ kz, d.depth ≤ 8
  | _, _, _, _, .nil, d, hd => nomatch hd
  | _, _, _, _, .cons h r, d, hd => by
    rcases List.mem_cons.mp hd with rfl | hd
    · exact h.2
    · exact dep8 r d hd
theorem each_zip : ∀ {vs : List V} {us : List Value} {kz : List PyData}, Vals vs us → kz.length = vs.length → EachIs (fun v (z : V × PyData) => RelV z.1 v) us (vs.zip kz)
  | _, _, [], r, h => by
    cases r with
    | nil => exact .nil
    | cons _ _ => simp at h
  | _, _, d :: kz, r, h => by
    cases r with
    | nil => simp at h
    | cons r1 r2 => exact .cons r1 (each_zip r2 (by simpa using h))
section
variable {X : Cx} {fa : Addr} {fd : FuncData} {ps : List Str} {k : Nat} {sp : Sp} {dvs : List V} {ds : List Value}
theorem sortKey (K : PySem.W.Frag) (w : World) (F : FnOk X.prog X.w X.K X.mg X.base (L2.CX X.prog X.w) k fa fd ps sp) (hr : Room (k + 2) X.A) (hb : Binds X.K fd ps ds) (hd : Vals dvs ds) (hc : X.calm = true := by rfl) (hK : X.K = K := by rfl) (hw : X.w = w := by rfl) :
    CallRK X (.builtin "sorted") [Str.ofString "key"] (rSortKey K w fa sp dvs) := by
  subst hK hw
  intro pins s σ H xs zs us0 ws Q I r rz h
  obtain ⟨l, vs, rfl, rfl, S, hz1, hJ⟩ := h
  obtain ⟨u, rfl, ru⟩ := vals1 r
  cases ru
  obtain ⟨u, rfl, ru⟩ := vals1 rz
  cases ru
  have hz : vs.length ≤ sizeLine := mil hz1
  have hr2 : Room k X.A.in1.in1 := hr.in1.in1
  refine call_function_entry_kw kind_sorted plain_sorted entry_sorted (by unfold argsOk; kernel_rfl) ?_
  unfold Builtin.«sorted»
  refine wpAny_bind (m := checkCount "sorted" 1 1 _) (wpAny_pure ?_)
  refine wpAny_bind (src_collect I S (I.ok.hd hc) hz fun h1 tk us kp rv => ?_)
  have hul : us.length = vs.length := rv.length.symm
  have I1 : Inv X pins σ H { s with heap := h1, toks := tk } := I.kept kp
  refine wpAny_bind (wpAny_newList ?_ (by rw [hul]; exact hz))
  have o1 : (h1.push (seqObj "list" us.toArray 0)).get? h1.objs.size = some (seqObj "list" us.toArray 0) := Heap.get?_push_size _ rfl
  have I2 : Inv X pins σ (upd H h1.objs.size (lstX h1.objs.size us.toArray 0)) { s with heap := h1.push (seqObj "list" us.toArray 0), toks := tk } := I1.laid (t' := tk) (fun b o z => Heap.get?_push_of_some _ z) (Nat.le_refl _) (lstX_ok o1)
  have na : H h1.objs.size = none := I1.hok.fresh (Nat.le_refl _)
  refine wpAny_bind (wpAny_holding (wpAny_call_entry_kw slot_list_sort ⟨_, o1, rfl⟩ entry_list_sort ?_ (by unfold argsOk; kernel_rfl)))
  show wpAny (model X.prog X.w) X.A.in1.in1 (ksk_tree h1.objs.size (.ref fa) false) _ _ _
  unfold ksk_tree
  refine wpAny_bind (listItems_at o1 rfl ?_)
  have sb := Heap.SameBut.update (h1.push (seqObj "list" us.toArray 0)) h1.objs.size (Obj.mapSeq fun _ => (#[] : Array Value))
  have o2 := get?_update_seq o1 fun _ => (#[] : Array Value)
  refine wpAny_bind (listUpdate_at o1 rfl ?_ (by rw [List.size_toArray, hul]; exact hz) (Nat.zero_le _))
  have I3 := d_write (t' := tk) I2 (by rw [upd_same]; exact True.intro) sb ⟨_, o2⟩ (lstX_ok o2)
  rw [upd_upd] at I3
  refine wpAny_bind (seqEpoch_at o2 rfl ?_)
  refine wpAny_bind (wpAny_newTuple ?_ (by show us.length ≤ _; rw [hul]; exact hz))
  have I4 := I3.kept (t' := tk) (h' := (Heap.update (h1.push (seqObj "list" us.toArray 0)) h1.objs.size (Obj.mapSeq fun _ => (#[] : Array Value))).push (seqObj "tuple" us.toArray 0)) fun b o z => Heap.get?_push_of_some _ z
  refine wpAny_bind (wpAny_newList ?_ (Nat.zero_le _))
  have o3 : (((Heap.update (h1.push (seqObj "list" us.toArray 0)) h1.objs.size (Obj.mapSeq fun _ => (#[] : Array Value))).push (seqObj "tuple" us.toArray 0)).push (seqObj "list" #[] 0)).get? ((Heap.update (h1.push (seqObj "list" us.toArray 0)) h1.objs.size (Obj.mapSeq fun _ => (#[] : Array Value))).push (seqObj "tuple" us.toArray 0)).objs.size = some (seqObj "list" #[] 0) := Heap.get?_push_size _ rfl
  have I5 := I4.laid (t' := tk) (fun b o z => Heap.get?_push_of_some _ z) (Nat.le_refl _) (lstX_ok o3)
  have nk := I4.hok.fresh (Nat.le_refl _)
  generalize hkS : ((Heap.update (h1.push (seqObj "list" us.toArray 0)) h1.objs.size (Obj.mapSeq fun _ => (#[] : Array Value))).push (seqObj "tuple" us.toArray 0)).objs.size = kS at I5 nk o3
  have hne : kS ≠ h1.objs.size := fun z => by
    rw [z, upd_same] at nk
    cases nk
  have nk0 : H kS = none := by
    rw [upd_ne hne] at nk
    exact nk
  refine wpAny_holding ?_
  obtain ⟨J, j0, step, fin⟩ := hJ h1.objs.size kS _ hne na nk0
  refine key_loop (a := h1.objs.size) (kS := kS) (us := us) (vs := vs) (J := J) (B := X.A.in1.in1) F hr2 (fun H s I => I.env0.in1.in1) hb hd rv hz step I5 j0 upd_same fun ks H' s' kA n I' jn hk' rk hsz => ?_
  obtain ⟨ha, kz, pk, hal, hsk, hq⟩ := fin ks H' jn
  have er := each_reads I' pk rk
  have hkl : kz.length = vs.length := by
    have z1 := Paired.length pk
    have z2 : ks.length = kA.toList.length := rk.length
    have z3 : kA.toList.length = kA.size := Array.length_toList
    omega
  have hu : ∀ d, d ∈ kz → X.A.in1.in1.units + d.depth < cLine := fun d hd => by
    have z1 := dep8 pk d hd
    have z2 := hr2.un
    omega
  refine keyL_end (κ := dataKind s'.heap kz) (vs := us) (lstX_at I' hk') (lstX_at I' ha) hne (DS.SortsAt.any (s := s') er hal hsk hu) (hsz.trans hul.symm) (by rw [hul]; exact hz) fun g1 g2 tk2 c1 c2 sb1 n1 sb2 n2 => ?_
  have ko : KeyedOut false ((vs.zip kz).map (·.2)) us (sortVals (dataKind s'.heap kz) false kA.toList us) := by
    have e : (vs.zip kz).map (·.2) = kz := by
      rw [List.map_snd_zip (by omega)]
    rw [e]
    exact ⟨s'.heap, kA.toList, hal, rfl, er⟩
  have eo := keyedOut_each (R := fun v (z : V × PyData) => RelV z.1 v) (·.2) ko (each_zip rv hkl)
  have ov := each_vals eo
  have I6 := d_write (t' := tk2) I' (by rw [hk']; exact True.intro) sb1 ⟨_, n1⟩ (lstX_ok n1)
  have hlen : (((vs.zip kz).mergeSort (dataLe false (·.2))).map (·.1)).length ≤ sizeLine := by
    rw [List.length_map, List.length_mergeSort, List.length_zip]
    omega
  have I7 := d_write (t' := tk2) (h' := g2) (ob := .lst (((vs.zip kz).mergeSort (dataLe false (·.2))).map (·.1))) I6 (by rw [upd_ne (Ne.symm hne), ha]; exact True.intro) sb2 ⟨_, n2⟩ ⟨hlen, _, c2, ov, n2⟩
  exact ⟨_, rfl, wpAny_pure ⟨_, rfl, .ref h1.objs.size, _, I7, rfl, hq _ _⟩⟩
end
end DL

set_option Elab.async false
set_option linter.all false
set_option maxRecDepth 100000
set_option maxHeartbeats 4000000
/-! ## sorted(xs, key=own def), as data -/
namespace DL
open PySem PySem.Spec PyProof.Rows L2
theorem lstX_ne_code {a : Addr} {xs : Array Value} {n : Nat} (c : Addr) (q : Str) : lstX a xs n ≠ LamX.CodeO c q := by
  intro e
  injection e with e
  have hg : (⟨Array.replicate (c + 1) { cls := .none, data := .fields #[.none, .str q 0] }, {}⟩ : Heap).get? c = some { cls := .none, data := .fields #[.none, .str q 0] } := by
    unfold Heap.get?
    simp
  have h2 := congrFun e (⟨Array.replicate (c + 1) { cls := .none, data := .fields #[.none, .str q 0] }, {}⟩ : Heap)
  have h3 : (⟨Array.replicate (c + 1) { cls := .none, data := .fields #[.none, .str q 0] }, {}⟩ : Heap).get? a = some (seqObj "list" xs n) := (Eq.mpr h2 ⟨_, _, 0, hg, rfl, rfl⟩ : _)
  unfold Heap.get? at h3
  by_cases ha : a < c + 1
  · simp [ha] at h3
    first | done | (injection h3 with h3; cases h3)
  · simp [ha] at h3
theorem plain_lstX {a : Addr} {xs : Array Value} {n : Nat} : Plain (lstX a xs n) := ⟨fun _ z => (nomatch z), lstX_ne_code, fun _ z => (nomatch z)⟩
noncomputable def keysD (F : FD) (dd : List Vl) : List Vl → Ms → Res (List D)
  | [], W => .ok [] W
  | x :: xs, W => match F (x :: dd) W with
    | .ok (.d k) W1 => (keysD F dd xs W1).bind fun ks W2 => .ok (k :: ks) W2
    | _ => .stuck
noncomputable def sortKeyD (F : FD) (dd : List Vl) (mk : List Vl → Ms → Res Vl) (W : Ms) (x : Vl) : Res Vl := match srcOf W x with
  | some l => if l.length ≤ 1000000 then (keysD F dd l W).bind fun ks W1 => if sortable ks = true ∧ ks.length = l.length then mk (((l.zip ks).mergeSort fun p q => leP p.2 q.2).map (·.1)) W1 else .stuck else .stuck
  | none => .stuck
noncomputable def eSortKey (F : FD) (dd : List Vl) (mk : List Vl → Ms → Res Vl) (f : FE) : FE := fun ρ W => (f ρ W).bind fun x W1 => sortKeyD F dd mk W1 x
section
variable {K : Fr} {TB : List (Addr × Str)} {E : XK} {ws : List Addr} {G H : Hp} {W : Ms}
theorem dps {ws1 : List Addr} {G1 H1 : Hp} {W1 : Ms} (c : Cf K TB ws1 G1 H1 W1) : ∀ {ks : List V} {kd : List D}, RpL K G1 ks kd → (∀ x ∈ kd, x.ok = true ∧ x.dep ≤ 8) → Paired (fun q d => Dp K.K H1 q d ∧ d.depth ≤ 8) ks (kd.map toP)
  | _, _, .nil, _ => .nil
  | _, _, .cons (x := x) h t, hx => by
    obtain ⟨k1, k2⟩ := hx x List.mem_cons_self
    exact .cons ⟨h.dp c.g k1, by rw [toP_dep _ k1]; exact k2⟩ (dps c t fun y hy => hx y (List.mem_cons_of_mem _ hy))
theorem sortable_kz {ks : List V} {kd : List D} {ws1 : List Addr} {G1 H1 : Hp} {W1 : Ms} (c : Cf K TB ws1 G1 H1 W1) (r : RpL K G1 ks kd) (hs : sortable kd = true) :
    Paired (fun q d => Dp K.K H1 q d ∧ d.depth ≤ 8) ks (kd.map toP) ∧ PySem.W.AllAlike (kd.map toP) ∧ DS.Sorta (kd.map toP) := by
  simp only [sortable, Bool.and_eq_true, List.all_eq_true, decide_eq_true_eq, Bool.or_eq_true] at hs
  obtain ⟨⟨h1, h2⟩, h3⟩ := hs
  refine ⟨?_, ?_, ?_⟩
  · exact dps c r fun x hx => (h1 x hx).1
  · intro d hd d' hd'
    obtain ⟨y, hy, rfl⟩ := List.mem_map.mp hd
    obtain ⟨z, hz, rfl⟩ := List.mem_map.mp hd'
    exact h2 y hy z hz
  · rcases h3 with h3 | h3
    · refine .inr fun d hd => ?_
      obtain ⟨y, hy, rfl⟩ := List.mem_map.mp hd
      have := h3 y hy
      cases y with
      | tup m => exact ⟨toPs m, by simp [toP]⟩
      | _ => cases this
    · refine .inl (.inr fun d hd => ?_)
      obtain ⟨y, hy, rfl⟩ := List.mem_map.mp hd
      have k := h3 y hy
      have k1 := (h1 y hy).1.1
      cases y <;> simp_all [toP, D.ok]
theorem paired_of_mem {α β γ : Type} {F : α → β → Prop} {f : γ → α} {g : γ → β} : ∀ {l : List γ}, (∀ z ∈ l, F (f z) (g z)) → Paired F (l.map f) (l.map g)
  | [], _ => .nil
  | z :: l, h => .cons (h z List.mem_cons_self) (paired_of_mem fun y hy => h y (List.mem_cons_of_mem _ hy))
theorem paired_zip {α β : Type} {F : α → β → Prop} : ∀ {l : List α} {r : List β}, Paired F l r → ∀ z ∈ l.zip r, F z.1 z.2
  | _, _, .nil, z, hz => nomatch hz
  | _, _, .cons h t, z, hz => by
    rcases List.mem_cons.mp hz with rfl | hz
    · exact h
    · exact paired_zip t z hz
/-- sorted alike -/
theorem sort_alike {vs : List V} {l : List Vl} {kd : List D} (rv : RpVs K ws G vs l) (hl : kd.length = l.length) :
    RpVs K ws G (((vs.zip (kd.map toP)).mergeSort (PySem.W.dataLe false (·.2))).map (·.1)) (((l.zip kd).mergeSort fun p q => leP p.2 q.2).map (·.1)) := by
  have hv : vs.length = l.length := Paired.length rv
  let zs : List ((V × Vl) × D) := (vs.zip l).zip kd
  have e1 : zs.map (fun z => (z.1.1, toP z.2)) = vs.zip (kd.map toP) := by
    have : ∀ (a : List V) (b : List Vl) (c : List D), a.length = b.length → ((a.zip b).zip c).map (fun z => (z.1.1, toP z.2)) = a.zip (c.map toP) := by
      intro a
      induction a with
      | nil => intro b c h; simp
      | cons x a ih =>
        intro b c h
        cases b with
        | nil => simp at h
        | cons y b =>
          cases c with
          | nil => simp
          | cons d c =>
            simp only [List.zip_cons_cons, List.map_cons]
            rw [ih b c (by simpa using h)]
    exact this vs l kd hv
  have e2 : zs.map (fun z => (z.1.2, z.2)) = l.zip kd := by
    have : ∀ (a : List V) (b : List Vl) (c : List D), a.length = b.length → ((a.zip b).zip c).map (fun z => (z.1.2, z.2)) = b.zip c := by
      intro a
      induction a with
      | nil => intro b c h; cases b <;> simp_all
      | cons x a ih =>
        intro b c h
        cases b with
        | nil => simp at h
        | cons y b =>
          cases c with
          | nil => simp
          | cons d c =>
            simp only [List.zip_cons_cons, List.map_cons]
            rw [ih b c (by simpa using h)]
    exact this vs l kd hv
  have s1 := PySem.W.sort_maps (r := fun p q : (V × Vl) × D => leP p.2 q.2) (s := PySem.W.dataLe false (·.2)) (l := zs) (fun z : (V × Vl) × D => ((z.1.1, toP z.2) : V × PyData)) (fun _ _ _ _ => rfl)
  have s2 := PySem.W.sort_maps (r := fun p q : (V × Vl) × D => leP p.2 q.2) (s := fun p q : Vl × D => leP p.2 q.2) (l := zs) (fun z : (V × Vl) × D => ((z.1.2, z.2) : Vl × D)) (fun _ _ _ _ => rfl)
  rw [e1] at s1
  rw [e2] at s2
  rw [← s1, ← s2, List.map_map, List.map_map]
  refine paired_of_mem (F := RpV K ws G) (f := fun z : (V × Vl) × D => z.1.1) (g := fun z => z.1.2) fun z hz => ?_
  have hz2 := List.mem_mergeSort.mp hz
  have hz3 : z.1 ∈ vs.zip l := by
    have := List.mem_map_of_mem (f := Prod.fst) hz2
    have e : zs.map Prod.fst = vs.zip l := by
      show ((vs.zip l).zip kd).map Prod.fst = vs.zip l
      rw [List.map_fst_zip]
      rw [List.length_zip]
      omega
    rw [e] at this
    exact this
  exact paired_zip rv z.1 hz3
theorem s_sortKeyG {fa : Addr} {F : FD} {dvs : List V} {dd : List Vl} {te : TE} {f : FE} {mk : List Vl → Ms → Res Vl} (hd : DvOk K dvs dd) (h : SE K TB E te f)
    (end_ : ∀ (ws1 : List Addr) (G1 H1 : Hp) (W1 : Ms) (Q : VK) (p : Addr) (ws2 : List Addr) (G2 H2 : Hp) (W2 : Ms) (xs : List V) (as : List Vl), Cf K TB ws1 G1 H1 W1 → H1 p = none → Gr ws1 G1 H1 ws2 G2 H2 → Cf K TB ws2 G2 H2 W2 → G2 p = none → p ∉ ws2 → H2 p = some (.lst xs) → RpVs K ws2 G2 xs as →
      Wish K TB (RV K) E ws1 G1 H1 Q (mk as W2) → Q (.ref p) H2) :
    SE K TB E (tCKw (rSortKey K.K K.w fa (spD K TB F) dvs) (tCons te tNil) (tCons (tC (.ref fa)) tNil)) (eSortKey F dd mk f) := by
  intro σ ws G H ρ W Q e c w
  refine h.go (R := RV K) e c w fun x a0 W1 ws1 G1 H1 g1 c1 r1 w1 => ?_
  unfold sortKeyD at w1
  cases q : srcOf W1 a0 with
  | none => simp only [q] at w1; exact w1.elim
  | some l =>
    simp only [q] at w1
    split at w1
    · rename_i hl
      obtain ⟨d, rfl, hs⟩ := src_at c1 r1 q
      have main : ∀ vs, Src K.K K.w H1 d vs → RpVs K ws1 G1 vs l → rSortKey K.K K.w fa (spD K TB F) dvs [V.ref d] [V.ref fa] H1 Q := fun vs S rv => by
        have hvl : vs.length = l.length := Paired.length rv
        refine ⟨d, vs, rfl, rfl, S, by rw [hvl]; exact hl, fun a kS e1 hne na nk => ?_⟩
        have nk2 : (upd H1 a (lstX a #[] e1)) kS = none := by rw [upd_ne hne]; exact nk
        have c2 := c1.junk (o := lstX a #[] e1) na
        have gA : Gr ws1 G1 H1 ws1 G1 (upd H1 a (lstX a #[] e1)) := Gr.junk na
        have c3 := c2.junk (o := lstX kS #[] 0) nk2
        refine ⟨fun i ks H' => ∃ ws2 G2 W2 kd, Gr ws1 G1 (upd H1 a (lstX a #[] e1)) ws2 G2 H' ∧ Cf K TB ws2 G2 H' W2 ∧ (∃ xs n, H' kS = some (lstX kS xs n)) ∧ G2 kS = none ∧ kS ∉ ws2 ∧ RpL K G2 ks kd ∧
            Wish K TB (RV K) E ws1 G1 H1 Q ((keysD F dd (l.drop i) W2).bind fun more W3 => if sortable (kd ++ more) = true ∧ (kd ++ more).length = l.length then mk (((l.zip (kd ++ more)).mergeSort fun p q => leP p.2 q.2).map (·.1)) W3 else .stuck),
          ⟨ws1, G1, W1, [], Gr.junk nk2, c3, ⟨#[], 0, upd_same⟩, c1.gn nk, c1.wn nk, .nil, ?_⟩, ?_, ?_⟩
        · rw [List.drop_zero]
          simpa using w1
        · rintro i v ks H' hv ⟨ws2, G2, W2, kd, g2, c4, ⟨xs, n, hk⟩, n1, n2, rk, w2⟩ _
          have hi : i < l.length := by rw [← hvl]; exact (List.getElem?_eq_some_iff.mp hv).1
          rw [List.drop_eq_getElem_cons hi] at w2
          unfold keysD at w2
          have rx : RpV K ws2 G2 v l[i] := by
            obtain ⟨v', h1, h2⟩ := Paired.at' rv (List.getElem?_eq_getElem hi)
            rw [hv] at h1
            cases h1
            exact (gA.trans g2).rv h2
          cases z : F (l[i] :: dd) W2 with
          | stuck => simp only [z] at w2; exact w2.elim
          | exc C W3 => simp only [z] at w2; exact w2.elim
          | ok y W3 =>
            cases y with
            | mu m => simp only [z] at w2; exact w2.elim
            | d y =>
              simp only [z] at w2
              refine ⟨ws2, G2, W2, l[i] :: dd, c4, .cons rx (hd ws2 G2), ?_⟩
              rw [z]
              intro b ws3 G3 H3 g3 c5 r3
              have q1 := g3.fr kS _ hk n2 (fun _ z => nomatch z)
              have m1 : G3 kS = none := by
                rcases g3.nf kS _ hk n1 n2 (fun _ z => nomatch z) with z | ⟨ys, z⟩
                · exact z
                · cases z
              have m2 : kS ∉ ws3 := g3.nw kS _ hk (fun _ z => nomatch z) n2
              refine ⟨q1.trans hk.symm, fun xs' n' => ⟨ws3, G3, W3, kd ++ [y], Gr.junkW (g2.trans g3) nk2, c5.junkW m1 m2 ⟨_, q1, plain_lstX⟩, ⟨xs', n', upd_same⟩, m1, m2, ?_, ?_⟩⟩
              · cases r3 with
                | d r3 => exact pair_map (RpL.to (.of g3.g) rk) (.cons r3 .nil)
              · have as_bind : ∀ {α β γ : Type} (r : Res α) (f : α → Ms → Res β) (k : β → Ms → Res γ), (r.bind f).bind k = r.bind fun x W => (f x W).bind k := fun r f k => by cases r <;> rfl
                rw [as_bind] at w2
                have ez : ∀ more : List D, kd ++ [y] ++ more = kd ++ y :: more := fun more => by simp
                simp only [ez]
                exact w2
        · rintro ks H' ⟨ws2, G2, W2, kd, g2, c4, ⟨xs, n, hk⟩, n1, n2, rk, w2⟩
          rw [hvl, List.drop_length] at w2
          unfold keysD at w2
          simp only [Res.bind_ok, List.append_nil] at w2
          split at w2
          · rename_i hsl
            obtain ⟨hs, hkl⟩ := hsl
            obtain ⟨pz, hal, hsk⟩ := sortable_kz c4 rk hs
            have haw : a ∉ ws1 := c1.wn na
            have q1 := g2.fr a _ upd_same haw (fun _ z => nomatch z)
            have m1 : G2 a = none := by
              rcases g2.nf a _ upd_same (c1.gn na) haw (fun _ z => nomatch z) with z | ⟨ys, z⟩
              · exact z
              · cases z
            have m2 : a ∉ ws2 := g2.nw a _ upd_same (fun _ z => nomatch z) haw
            refine ⟨q1, kd.map toP, pz, hal, hsk, fun xs' n' => ?_⟩
            have c5 := c4.junkW (o := lstX kS xs' n') n1 n2 ⟨_, hk, plain_lstX⟩
            have g5 : Gr ws1 G1 H1 ws2 G2 (upd H' kS (lstX kS xs' n')) := Gr.junkW (gA.trans g2) nk
            have q4 : (upd H' kS (lstX kS xs' n')) a = some (lstX a #[] e1) := by rw [upd_ne (Ne.symm hne)]; exact q1
            have rs := sort_alike (K := K) ((gA.trans g2).rvs rv) hkl
            exact end_ ws1 G1 H1 W1 Q a ws2 G2 _ W2 _ _ c1 na (Gr.junkW g5 na) (c5.junkW m1 m2 ⟨_, q4, plain_lstX⟩) m1 m2 upd_same rs w2
          · exact w2.elim
      rcases hs with ⟨vs, hs, rv⟩ | ⟨kvs, e, rv⟩ | ⟨kvs, e, hk, rv⟩
      · exact main vs (src_of hs) rv
      · exact main _ (.k e) rv
      · exact main _ (.n e) rv
    · exact w1.elim
theorem s_sortKey {fa : Addr} {F : FD} {dvs : List V} {dd : List Vl} {te : TE} {f : FE} (hd : DvOk K dvs dd) (h : SE K TB E te f) : SE K TB E (tCKw (rSortKey K.K K.w fa (spD K TB F) dvs) (tCons te tNil) (tCons (tC (.ref fa)) tNil)) (eSortKey F dd mkLst f) :=
  s_sortKeyG hd h fun _ _ _ _ _ _ _ _ _ _ _ _ c1 hp g2 c2 n1 n2 hx rx w => end_lst c1 hp g2 c2 n1 n2 hx rx w
end
end DL

set_option Elab.async false
set_option linter.all false
set_option maxRecDepth 100000
set_option maxHeartbeats 4000000
/-! ## lists put together that change -/
namespace DL
open PySem PySem.Spec PyProof.Rows L2 RT
def addDM (W : Ms) (x y : Vl) : Res Vl := match lstOf W x, lstOf W y with
  | some l, some m => mkLstM (l ++ m) W
  | _, _ => .stuck
section
variable {K : Fr} {TB : List (Addr × Str)} {E : XK}
theorem o_addM : OpD K TB (rAddA K.K) addDM := fun E ws G H W x y a b Q c rx ry w => by
  unfold addDM at w
  split at w
  · rename_i l m q1 q2
    obtain ⟨p1, vs1, rfl, h1, r1⟩ := lst_at c rx q1
    obtain ⟨p2, vs2, rfl, h2, r2⟩ := lst_at c ry q2
    obtain ⟨k1, k2⟩ := mk_lstM c (Paired.app r1 r2) w
    exact .inr (.inl ⟨p1, p2, vs1, vs2, rfl, rfl, h1, h2, by rw [List.length_append] at k1; exact k1, k2⟩)
  · exact w.elim
end
/-! ### walks from the end -/
theorem revK {X : Cx} (K : PySem.W.Frag) {tg e : Expr} {te : TE} {p pos : Pos} (hg : Gl X "reversed") (hm : X.mg "reversed" = none) (he : PE X e te) (hs : starEach [e] X.env = (false, eval e X.env) :: starEach [] X.env := by rfl) (hK : X.K = K := by rfl) :
    PI X tg (.Call (.Name "reversed" p) [e] [] pos) (iRevA K te) := by
  subst hK
  exact pi_revA hg hm he hs
def revItm (x : Vl) (W : Ms) : Res Itm := match x with
  | .d (.lst l) => .ok ⟨l.reverse.map Vl.d, yes⟩ W
  | .d (.tup l) => .ok ⟨l.reverse.map Vl.d, yes⟩ W
  | .d (.tupK l) => .ok ⟨l.reverse.map Vl.d, yes⟩ W
  | _ => .stuck
def iRev (f : FE) : FI := fun ρ W => (f ρ W).bind revItm
section
variable {K : Fr} {TB : List (Addr × Str)} {E : XK}
theorem rev_at {G : Hp} {vs : List V} {l : List D} (r : RpL K G vs l) {i : Nat} {y : D} (h : l.reverse[i]? = some y) : i < vs.length ∧ ∃ v, vs[vs.length - 1 - i]? = some v ∧ Rp K G v y := by
  have hi : i < l.length := by
    have := (List.getElem?_eq_some_iff.mp h).1
    simpa using this
  rw [List.getElem?_reverse hi] at h
  obtain ⟨v, h1, h2⟩ := r.at h
  rw [r.len]
  exact ⟨hi, v, h1, h2⟩
theorem it_revL {ws : List Addr} {G H : Hp} {a : Addr} {vs : List V} {l : List D} (e : G a = some (.lst vs)) (r : RpL K G vs l) : ItOk K TB ws G H (Itv K.K a vs.length) ⟨l.reverse.map Vl.d, yes⟩ := by
  intro ws2 G2 H2 W2 gg c _ i
  have hs : SqL K.K H2 a vs := SqL.of (c.g _ _ (gg.g _ _ e))
  refine ⟨fun h => ?_, fun x hx => ?_⟩
  · show vs.length ≤ i
    rw [r.len]
    simpa using h
  rw [List.getElem?_map] at hx
  cases q : l.reverse[i]? with
  | none => rw [q] at hx; cases hx
  | some y =>
    rw [q] at hx
    cases hx
    obtain ⟨k, v, h1, h2⟩ := rev_at r q
    refine ⟨⟨k, vs, v, hs, h1⟩, fun u H3 hy => ?_⟩
    obtain ⟨rfl, hy⟩ := hy
    have hv := hy vs hs
    rw [h1] at hv
    cases hv
    exact ⟨G2, .refl, c, .d (h2.to (.of gg.g))⟩
theorem it_revT {ws : List Addr} {G H : Hp} {a : Addr} {vs : List V} {l : List D} (e : SqT K.K G a vs) (r : RpL K G vs l) : ItOk K TB ws G H (ItvT K.K a vs.length) ⟨l.reverse.map Vl.d, yes⟩ := by
  intro ws2 G2 H2 W2 gg c _ i
  have hs : SqT K.K H2 a vs := (Rds.of (K := K) c.g).t _ _ ((Rds.of (K := K) gg.g).t _ _ e)
  refine ⟨fun h => ?_, fun x hx => ?_⟩
  · show vs.length ≤ i
    rw [r.len]
    simpa using h
  rw [List.getElem?_map] at hx
  cases q : l.reverse[i]? with
  | none => rw [q] at hx; cases hx
  | some y =>
    rw [q] at hx
    cases hx
    obtain ⟨k, v, h1, h2⟩ := rev_at r q
    refine ⟨⟨k, vs, v, hs, h1⟩, fun u H3 hy => ?_⟩
    obtain ⟨rfl, hy⟩ := hy
    have hv := hy vs hs
    rw [h1] at hv
    cases hv
    exact ⟨G2, .refl, c, .d (h2.to (.of gg.g))⟩
theorem s_iRev {te : TE} {f : FE} (h : SE K TB E te f) : SI K TB E (iRevA K.K te) (iRev f) := fun σ ws G H ρ W R e c w =>
  h.go (R := ItOk K TB) e c w fun v x W1 ws1 G1 H1 g1 c1 r1 w1 => by
    unfold revItm at w1
    split at w1
    · cases r1 with | d r1 =>
      cases r1 with | lst e1 rl =>
      exact ⟨_, _, rfl, .inl ⟨SqL.of (c1.g _ _ e1), w1.ok c1 (it_revL e1 rl)⟩⟩
    · cases r1 with | d r1 =>
      cases r1 with | tup e1 rl =>
      exact ⟨_, _, rfl, .inr ⟨SqT.of (c1.g _ _ e1), w1.ok c1 (it_revT (SqT.of e1) rl)⟩⟩
    · cases r1 with | d r1 =>
      cases r1 with | tupK e1 rl =>
      exact ⟨_, _, rfl, .inr ⟨(Rds.of (K := K) c1.g).t _ _ e1, w1.ok c1 (it_revT e1 rl)⟩⟩
    · exact w1.elim
end
end DL

set_option Elab.async false
set_option linter.all false
set_option maxRecDepth 100000
set_option maxHeartbeats 4000000
/-! ## a refusal out of a list comprehension -/
namespace LX
open PySem PySem.Spec PyProof.Rows L2
/-- the block's context, with a wish of its own about refusals -/
abbrev blkx (X : Cx) (s : Shared) (H : Hp) (scope : Scope) (ce : Env) (fp : List Addr) (xe : Value → Shared → Prop) : Cx := { X.blk s H scope ce fp with xe := xe }
theorem inv_xe {X : Cx} {pins : List (Addr × Obj)} {σ : L2.St} {H : Hp} {s : Shared} (xe : Value → Shared → Prop) (I : Inv X pins σ H s) : Inv { X with xe := xe } pins σ H s :=
  ⟨⟨I.ok.mod, I.ok.kind, I.ok.glob, I.ok.blt, I.ok.above, I.ok.inj, I.ok.has, I.ok.cab, I.ok.hd, I.ok.frames, I.ok.stk, I.ok.exf, I.ok.bs, I.ok.bsz, I.ok.noex, I.ok.exfs, I.ok.funs, I.ok.frf⟩,
    I.os, I.bare, I.base, I.loc, I.cell, I.free, I.freeC, I.pin, I.hok, I.len⟩
theorem inv_back {X : Cx} {pins : List (Addr × Obj)} {σ : L2.St} {H : Hp} {s : Shared} {xe : Value → Shared → Prop} (I : Inv { X with xe := xe } pins σ H s) : Inv X pins σ H s := inv_xe (X := { X with xe := xe }) X.xe I
theorem ff_less {h B B' : Heap} (k : ∀ b, B.get? b = none → B'.get? b = none) : ∀ {l : List Env}, h.FunFrames B l → h.FunFrames B' l
  | [], _ => trivial
  | _ :: _, ⟨a, ⟨L, o, hf, hb, ho, hd⟩, r⟩ => ⟨a, ⟨L, o, hf, k _ hb, ho, hd⟩, ff_less k r⟩
section
variable {X : Cx} {pins pins0 : List (Addr × Obj)} {σ σ0 : L2.St} {H H3 : Hp} {s s3 s' : Shared} {scope : Scope} {ce : Env} {fp : List Addr} {E : XK} {u : Value}
theorem exc_out (hs : X.stack = X.env :: X.outer) (hf : X.env.frame = some X.env.locals) (tk : Takes X (fun cls d _ H => E cls d H))
    (I3 : Inv X pins0 σ0 H3 s3) (hL : ce.locals = s3.heap.objs.size) (hcf : ce.frame = X.env.frame)
    (f3 : ∀ b ∈ fp, FpOk X pins0 H3 b ∧ b < s3.heap.objs.size)
    (I : Inv (X.blk s3 H3 scope ce fp) pins σ H s) (c : CX X.prog X.w X.stack H s E u s') :
    notedBy (model X.prog X.w) X.A ce (CompFails (model X.prog X.w) X.A X.xe ce) u s' := by
  obtain ⟨a, B, H1, cls, d, rfl, fly, hok, ub, na, os, ag, hE⟩ := c
  have hfr : X.A.frames = some (X.env :: X.outer) := by rw [I3.ok.frames, hs]
  obtain ⟨m, ⟨oC, es, ep, hoC, hdC, hk, hfi⟩, _⟩ := I.loc
  have nC : H ce.locals = none := I.free
  have lt3 : ∀ b o, s3.heap.get? b = some o → b ≠ ce.locals := fun b o e z => by
    have := Heap.lt_size e
    rw [z, hL] at this
    exact absurd this (Nat.lt_irrefl _)
  have stk3 : ∀ b ∈ frs X.stack, ∃ o, s3.heap.get? b = some o ∧ ∀ vs, o.data ≠ .fields vs := fun b hb => by
    obtain ⟨_, o, ho, hd⟩ := I3.stack.mem hb
    exact ⟨o, ho, hd⟩
  have nfC : ce.locals ∉ frs X.stack := fun hb => by
    obtain ⟨o, ho, _⟩ := stk3 _ hb
    exact lt3 _ _ ho rfl
  have hoC1 : B.get? ce.locals = some oC := ub.keep _ _ hoC nC nfC
  have nC1 : H1 ce.locals = none := ub.free _ _ hoC nC
  show wpAny _ _ (noteFrame (.ref a) ce) _ _ s'
  rw [noteFrame_env _ hcf]
  refine HandSPX.looks_onZ Zc.steady hfr hf (by rw [← hs]; exact fly) fun h1 held up1 => ?_
  obtain ⟨b1, b0, f1, t1⟩ := held
  have hC1 := b1 _ _ hoC1
  refine ⟨m, ⟨oC, es, ep, hC1, hdC, hk, hfi⟩, fun h2 m2 hn2 sb => ?_⟩
  obtain ⟨oe, vs, T, oT, ts, he, hz, hd, hv1, hnT, hTe, hT, hdT, ht3⟩ := t1
  have nf : ∀ b o vs, h1.get? b = some o → o.data = .fields vs → b ≠ ce.locals := fun b o vs e q z => by
    rw [z, hC1] at e
    cases e
    rw [hdC] at q
    cases q
  have he2 := (sb.2 a (nf _ _ _ he hd)).trans he
  have hT2 := (sb.2 T (nf _ _ _ hT hdT)).trans hT
  unfold PySem.passOn
  refine wpAny_bind (wpAny_field he2 hd hv1 ?_)
  rw [if_neg (show ¬ ((Value.ref T == Value.none) = true) from by simp), hcf, hf]
  generalize hB : PySem.W.hideAll B [ce.locals] = B'
  have toB : ∀ b o, B.get? b = some o → b ≠ ce.locals → B'.get? b = some o := fun b o e n => by
    rw [← hB]
    exact PySem.W.hideAll_get _ e (by simpa using n)
  have ofB : ∀ b o, B'.get? b = some o → B.get? b = some o ∧ b ≠ ce.locals := fun b o e => by
    rw [← hB] at e
    refine ⟨PySem.W.of_hideAll _ e, fun z => ?_⟩
    rw [PySem.W.hideAll_none [ce.locals] (by rw [z]; exact List.mem_singleton_self _)] at e
    cases e
  have less : ∀ b, B.get? b = none → B'.get? b = none := fun b e => by
    cases q : B'.get? b with
    | none => rfl
    | some o =>
      have := (ofB _ _ q).1
      rw [e] at this
      cases this
  have st2 : B'.StaysIn h2 := fun b o e => (sb.2 b (ofB _ _ e).2).trans (b1 b o (ofB _ _ e).1)
  refine wpAny_bind (HandSPX.setFlight_onZ (base := B') (l := X.env :: X.outer) (Z := Zc cls d) ⟨st2, less _ b0, ff_less less (Heap.FunFrames.sameBut sb hn2 f1), ⟨oe, vs, T, oT, ts, he2, hz, hd, hv1, less _ hnT, hTe, hT2, hdT, ht3⟩⟩ fun h4 held4 up4 => ?_)
  refine wpAny_throw ?_
  obtain ⟨G, g1, g2⟩ := restrict h4 fun b => (B'.get? b).isSome || decide (b ∈ frs X.stack)
  have gB : ∀ b o, B'.get? b = some o → G.get? b = some o := fun b o e => by
    rw [g1 b (by simp [e])]
    exact held4.1 b o e
  have gF : ∀ b, b ∈ frs X.stack → G.get? b = h4.get? b := fun b hb => g1 b (by simp [hb])
  have og : ∀ b o, G.get? b = some o → h4.get? b = some o ∧ ((B'.get? b).isSome = true ∨ b ∈ frs X.stack) := fun b o e => by
    cases q : ((B'.get? b).isSome || decide (b ∈ frs X.stack)) with
    | false => rw [g2 b q] at e; cases e
    | true =>
      rw [g1 b q] at e
      exact ⟨e, by simpa [Bool.or_eq_true] using q⟩
  have slots : ∀ b o, s3.heap.get? b = some o → b ∈ frs X.stack → b ∉ fp → ∃ sl, G.get? b = some { o with slots := sl } := fun b o e hb hx => by
    obtain ⟨o', e', hd'⟩ := stk3 b hb
    rw [e] at e'
    cases e'
    obtain ⟨sl1, e1⟩ := I.base.slot b o e (I3.stkFree b hb) hb hx
    obtain ⟨sl2, e2⟩ := ub.slot b _ e1 hb
    obtain ⟨sl3, e3⟩ := up1 b _ e2 hd'
    obtain ⟨sl4, e4⟩ := up4 b _ ((sb.2 b (lt3 _ _ e)).trans e3) hd'
    exact ⟨sl4, by rw [gF b hb]; exact e4⟩
  have hGok : HOk X.prog X.w H1 G := HOk.kept (fun b o q => (hok b o q).stay (fun c u hc r => toB c u r fun z => by
    rcases hc with hc | hc
    · rw [hc] at z
      rw [z, nC1] at q
      cases q
    · rw [z, nC1] at hc
      cases hc) (fun _ r => r) fun _ _ r => r) gB
  have J : Inv X pins0 σ0 H1 { s with heap := G, gens := s'.gens, drawn := s'.drawn, toks := s'.toks } := by
    refine I3.call' (ch := fp) I.os ⟨fun b o e n hb hx => ?_, fun b o e n hb hx => slots b o e hb hx, fun b o e n hx => ?_, fun b o e hx => ?_, fun b xs e => ub.tups b xs (I.base.tups b xs e), fun b o xs e => ub.frzs b o xs (I.base.frzs b o xs e), fun b ps e => ?_⟩ hGok ag
      fun b hb => ⟨(f3 b hb).1.2.2.2.1, (f3 b hb).1.2.1, (f3 b hb).1.2.2.2.2.1, (f3 b hb).1.2.2.2.2.2⟩
    · exact gB _ _ (toB _ _ (ub.keep b o (I.base.keep b o e n hb hx) (I.base.free b o e n hx) hb) (lt3 _ _ e))
    · obtain ⟨o', e'⟩ := I.base.there b o e hx
      exact ub.free b o' e' (I.base.free b o e n hx)
    · by_cases hb : b ∈ frs X.stack
      · obtain ⟨sl, q⟩ := slots b o e hb hx
        exact ⟨_, q⟩
      · obtain ⟨o', e'⟩ := I.base.there b o e hx
        obtain ⟨o2, e2⟩ := ub.there b o' e' hb
        exact ⟨o2, gB _ _ (toB _ _ e2 (lt3 _ _ e))⟩
    · obtain ⟨p1, e1⟩ := I.base.tbls b ps e
      obtain ⟨p2, e2⟩ := ub.tbls b _ e1
      exact ⟨p1 ++ p2, by rw [e2, Array.append_assoc]⟩
  refine tk (.ref a) _ ⟨a, B', _, pins0, σ0, H1, cls, d, rfl, J, fun b o e hb => ?_, Heap.UpToSlots.of_keeps fun b o e => (og b o e).1, .inr (.inr (by rw [hs]; exact held4)), na, os, ag, hE⟩
  obtain ⟨e1, h⟩ := og b o e
  rcases h with h | h
  · obtain ⟨o', q⟩ := Option.isSome_iff_exists.mp h
    have z := held4.1 b o' q
    rw [e1] at z
    cases z
    exact q
  · exact absurd h hb
end
end LX
namespace LX
open PySem PySem.Spec PyProof.Rows L2
section
variable {X : Cx} {E : XK}
/-- [e for x in xs if ..], where e may refuse -/
theorem pe_lcx {elt tg iter : Expr} {ifs : List Expr} {scope : Scope} {own : List (Str × Nat)} {pos : Pos} {wi : TI} {g : TG} {tt : TT} {te : TE}
    (hs : X.stack = X.env :: X.outer) (hf : X.env.frame = some X.env.locals) (tk : Takes X (fun cls d _ H => E cls d H))
    (hc : X.calm = true) (hN : X.N.Nodup) (hi : PI X tg iter wi) (ok : BlkOk X.N X.env.scope scope own)
    (hg : ∀ (s : Shared) (H : Hp) (C : Addr) (cl : List (Str × Addr)) (fp : List Addr), PG (X.blk s H scope (compEnvC scope cl C X.env) fp) tg g)
    (ht : ∀ (s : Shared) (H : Hp) (C : Addr) (cl : List (Str × Addr)) (fp : List Addr), PTs (X.blk s H scope (compEnvC scope cl C X.env) fp) ifs tt)
    (he : ∀ (s : Shared) (H : Hp) (C : Addr) (cl : List (Str × Addr)) (fp : List Addr) (xe : Value → Shared → Prop),
      Passes (CX X.prog X.w) (blkx X s H scope (compEnvC scope cl C X.env) fp xe) E → PE (blkx X s H scope (compEnvC scope cl C X.env) fp xe) elt te)
    (hfold : ∀ x, foldedSetIterable iter X.env x = pure x := by intro _; rfl) :
    PE X (.ListComp elt [⟨tg, iter, ifs, 0⟩] scope pos) (tLc wi g tt te (own.map (·.2))) := by
  refine ⟨fun pins s σ H Q I h => ?_⟩
  rw [eval_ListComp]
  have hfree : ∀ y ∈ scope.names, y.2 = .free → ∃ c, X.env.cells.lookup y.1 = some c := fun y hy e =>
    (ok.free y hy e).elim (fun k => I.ok.has _ (.inl k)) fun k => I.ok.has _ (.inr k)
  refine comprehension_at (use := none) rfl hfold (closure_ok hfree) ok.kind (fun y hy e => by rw [ok.uniq y hy, e]) ?_
  refine wpAny_mono (hi.run pins s σ H _ I h) (fun xv s1 hx => wpAny_mono hx (fun itv s2 h2 => ?_) fun _ _ z => z) fun _ _ z => z
  obtain ⟨it, fp, tn, J, H2, rfl, I2, T, st2, f2, q⟩ := h2
  refine wpAny_newObj_type (newEnv_comp ?_) (by show 0 ≤ sizeLine; decide)
  have hDn : H2 s2.heap.objs.size = none := I2.hok.fresh (Nat.le_refl _)
  generalize hD : s2.heap.objs.size = D at hDn
  obtain ⟨W, ⟨m0, w0⟩, turn⟩ := q D hDn
  generalize hs3 : ({ s2 with heap := s2.heap.push { cls := .type "list", data := .seq ([] : List Value).toArray } } : Shared) = s3
  have I3 : Inv X pins σ (upd H2 D (.lst [])) s3 := by
    subst hs3 hD
    exact I2.laid (t' := s2.toks) (fun b o e => Heap.get?_push_of_some _ e) (Nat.le_refl _) ⟨Nat.zero_le _, [], 0, .nil, Heap.get?_push_size _ rfl⟩
  have up3 : ∀ b o, s2.heap.get? b = some o → s3.heap.get? b = some o := fun b o e => by
    subst hs3
    exact Heap.get?_push_of_some _ e
  have lt2 : ∀ b ∈ fp, b < s2.heap.objs.size := fun b hb => let ⟨_, e, _⟩ := T.obj _ _ st2 b hb; Heap.lt_size e
  have f3 : ∀ b ∈ fp, FpOk X pins (upd H2 D (.lst [])) b ∧ b < s3.heap.objs.size := fun b hb =>
    ⟨⟨by rw [upd_ne (by rw [← hD]; exact Nat.ne_of_lt (lt2 b hb))]; exact (f2 b hb).1, (f2 b hb).2⟩, let ⟨_, e, _⟩ := T.obj _ _ st2 b hb; Heap.lt_size (up3 _ _ e)⟩
  have st3 : tn 0 s3.heap := T.keep _ _ _ st2 fun b _ o e => up3 b o e
  have I4 := block_start I3 ok hN f3
  generalize hH3 : upd H2 D (.lst []) = H3 at I3 I4 w0 f3
  generalize hcl : cellsFrom (s3.heap.objs.size + 1) scope.names (cloFrom X.env.cells scope.names []) = cl at I4
  have pg := hg s3 H3 s3.heap.objs.size cl fp
  have pt := ht s3 H3 s3.heap.objs.size cl fp
  have pe := he s3 H3 s3.heap.objs.size cl fp
  have hL : (compEnvC scope cl s3.heap.objs.size X.env).locals = s3.heap.objs.size := rfl
  have hcf : (compEnvC scope cl s3.heap.objs.size X.env).frame = X.env.frame := rfl
  have goal : codeAny (model X.prog X.w) X.A (.compStart (.ListComp elt [⟨tg, iter, ifs, 0⟩] scope pos) 0 (.ref it) (.ref D) (compEnvC scope cl s3.heap.objs.size X.env))
      (compEnds (model X.prog X.w) X.A X.xe none (fun v s' => ∃ (x : V) (H' : Hp), Inv X pins σ H' s' ∧ RelV x v ∧ Q x H') (.ref D) (compEnvC scope cl s3.heap.objs.size X.env)) { s3 with heap := pushCells (s3.heap.push { cls := .type "dict", data := .dict #[] }) scope.names } := by
    generalize hce : compEnvC scope cl s3.heap.objs.size X.env = ce at I4 pg pt pe hL hcf ⊢
    generalize hs4 : ({ s3 with heap := pushCells (s3.heap.push { cls := .type "dict", data := .dict #[] }) scope.names } : Shared) = s4 at I4 ⊢
    have st4 : tn 0 s4.heap := T.keep _ _ _ st3 fun b _ o e => by
      rw [← hs4]
      exact pushCells_keeps _ _ _ _ (Heap.get?_push_of_some _ e)
    have stat : ∀ {σ' : L2.St} {H' : Hp} {s' : Shared}, Inv (X.blk s3 H3 scope ce fp) [] σ' H' s' → (∀ b ∈ fp, H' b = none) → ∀ b ∈ fp, FpOk (X.blk s3 H3 scope ce fp) [] H' b := fun {σ' H' s'} I' hn b hb =>
      ⟨hn b hb, (I'.ok.exf b hb).1, I'.ok.exfs b hb, Or.inl hb, fun x c e => (I'.ok.exf b hb).2 x c e, fun p hp => (nomatch hp)⟩
    have loop : codeAny (model X.prog X.w) X.A (.compLoop (.ListComp elt [⟨tg, iter, ifs, 0⟩] scope pos) 0 (.ref it) (.ref D) ce)
        (compEnds (model X.prog X.w) X.A X.xe none (fun v s' => ∃ (x : V) (H' : Hp), Inv X pins σ H' s' ∧ RelV x v ∧ Q x H') (.ref D) ce) s4 := by
      refine compLoop_any (fun n s' => ∃ i H', Inv (X.blk s3 H3 scope ce fp) [] (wipe σ (own.map (·.2))) H' s' ∧ tn i s'.heap ∧ (∀ b ∈ fp, H' b = none) ∧ W i n H') ?_ m0 ⟨0, H3, I4, st4, fun b hb => (f3 b hb).1.1, w0⟩
      rintro n s5 ⟨i, H5, I5, st5, n5, w5⟩
      rcases turn i n H5 w5 with ⟨stop, qq⟩ | ⟨go, Nx, hNx, step⟩
      · refine thnF (T.done (X.blk s3 H3 scope ce fp) rfl rfl rfl hc i [] s5 _ H5 (fun _ _ => False) I5 (stat I5 n5) st5 stop) ?_
        rintro _ s6 ⟨rfl, I6⟩
        have I7 : Inv X pins σ H5 s6 := I3.call' (ch := fp) I6.os I6.base I6.hok I6.bare fun b hb => let z := (f3 b hb).1.2; ⟨z.2.2.1, z.1, z.2.2.2.1, z.2.2.2.2⟩
        obtain ⟨m, hn, _⟩ := I6.loc
        refine ⟨m, hn, fun h'' sb => ?_⟩
        have nC : H5 s3.heap.objs.size = none := by
          rw [← hL]
          exact I6.free
        obtain ⟨g0, g1, g2, g3, g4, g5⟩ := I3.fpOk (Nat.le_refl _) nC
        rw [← hL] at g0 g1 g2 g3 g4 g5
        exact ⟨.ref D, H5, I7.turned (t' := s6.toks) (fun b o hb e => (sb.2 b hb).trans e) g0 g1 g3 g4 g5, rfl, qq⟩
      · refine thnF (T.item (X.blk s3 H3 scope ce fp) rfl rfl rfl hc i [] s5 _ H5 (fun _ _ => False) I5 (stat I5 n5) st5 go) ?_
        rintro _ s6 ⟨u, rfl, h6⟩
        refine thnF h6 fun _ s7 ⟨x, H7, I7, r7, y7, st7, n7⟩ => ?_
        refine thnF (pg.run _ s7 _ H7 x u _ (I7.pinned (stat I7 n7) (T.obj _ _ st7)) r7 (step x H7 y7)) fun _ s8 ⟨σ8, H8, I8, hw8, q8⟩ => ?_
        refine thnF (pt.run _ s8 σ8 H8 _ I8 q8) fun b s9 ⟨H9, I9, q9⟩ => ?_
        have fin : ∀ {s' : Shared} {H' : Hp}, Inv (X.blk s3 H3 scope ce fp) ([] ++ pinsAt fp s7.heap) σ8 H' s' → Nx H' →
            ∃ m, m < n ∧ ∃ i H', Inv (X.blk s3 H3 scope ce fp) [] (wipe σ (own.map (·.2))) H' s' ∧ tn i s'.heap ∧ (∀ b ∈ fp, H' b = none) ∧ W i m H' := fun {s' H'} I' nx => by
          obtain ⟨m', hm, w'⟩ := hNx H' nx
          have pin' : ∀ b ∈ fp, ∀ o, s7.heap.get? b = some o → s'.heap.get? b = some o ∧ H' b = none := fun b hb o e =>
            (fun z => ⟨z.1, z.2.1⟩) (I'.pin (b, o) (List.mem_append_right _ (List.mem_append_right _ (mem_pinsAt hb e))))
          refine ⟨m', hm, i + 1, H', I'.unpinned.weak (by rw [← hw8, wipe_length]) (fun j v e => ?_), T.keep _ _ _ st7 fun b hb o e => (pin' b hb o e).1, fun b hb => ?_, w'⟩
          · rw [← hw8] at e
            exact (wipe_some e).1
          · obtain ⟨o, e, _⟩ := T.obj _ _ st7 b hb
            exact (pin' b hb o e).2
        cases b with
        | false => exact fin I9 q9
        | true =>
          refine wpAny_mono ((pe _ fun pns sg Hh sx e s' Iq cq => exc_out hs hf tk I3 hL hcf f3 (inv_back Iq) cq).run _ s9 σ8 H9 _ (inv_xe _ I9) q9) (fun z s10 hz => ?_) fun _ _ z => z
          obtain ⟨yv, H10, I10, r10, acc, hD10, hz10, nx⟩ := hz
          exact app_ok (X := X.blk s3 H3 scope ce fp) (inv_back I10) hD10 hz10 r10 fun s11 I11 => fin I11 nx
    exact codeAny_compStart_list loop (T.self X.A 0 _ _ _ st4 loop)
  subst hcl hs3 hD
  exact goal
end
end LX

set_option Elab.async false
set_option linter.all false
set_option maxRecDepth 100000
set_option maxHeartbeats 4000000
/-! ## told, a def that makes a lambda, the law's end -/
namespace DL
open PySem PySem.Spec PyProof.Rows L2
section
variable {K : Fr} {TB : List (Addr × Str)} {E : XK} {ws : List Addr} {G H H1 : Hp} {W : Ms}
theorem Cf.lam (c : Cf K TB ws G H W) (x : LamX.ExtN H H1) (t : LamX.Tabs TB H1) : Cf K TB ws G H1 W where
  g := fun b o e => x b o (c.g b o e) fun ps z => c.nt b ps (z ▸ e)
  len := c.len
  nd := c.nd
  nt := c.nt
  dm := fun b hb => by
    obtain ⟨o, e, n⟩ := c.dm b hb
    exact ⟨o, x b o e n, n⟩
  ob := fun n a m e1 e2 hm => by
    obtain ⟨h1, h2⟩ := c.ob n a m e1 e2 hm
    obtain ⟨u, eu, pu⟩ := h2.plain hm
    exact ⟨h1, h2.to (fun v y r => r) ((x a u eu pu.1).trans eu.symm)⟩
  tb := t
theorem Gr.lam (x : LamX.ExtN H H1) : Gr ws G H ws G H1 :=
  ⟨fun _ _ e => e, ⟨[], by simp⟩, fun a o e _ n => x a o e n, fun a o u e => x a _ e (fun _ z => nomatch z), fun _ _ _ _ hw => hw, fun _ _ _ hg _ _ => .inl hg⟩
/-- told(lambda: e): what e gives, or a word for its refusal -/
def eTold (tl : Addr → Option Str) (f : FE) : FE := fun ρ W => match f ρ W with
  | .ok v W1 => .ok v W1
  | .exc C W1 => (match tl C with
    | some s => .ok (.d (.str s)) W1
    | none => .stuck)
  | .stuck => .stuck
theorem s_told {l : List (Value × Str)} {t : XK → TE} {tl : Addr → Option Str} {f : FE} (hl : ∀ (C : Addr) (s : Str), tl C = some s → ∀ (Q : VK) (H : Hp), Q (.str s) H → LamX.wTold K.K Q l (.ref C) H)
    (h : ∀ E', SE K TB E' (t E') f) : SE K TB E (LamX.tLam TB (LamX.TTm K.K l) t) (eTold tl f) := fun σ ws G H ρ W Q e c w => by
  refine ⟨c.tb, fun H1 x t1 => ?_⟩
  refine h _ σ ws G H1 ρ W Q e (c.lam x t1) ?_
  unfold eTold at w
  cases q : f ρ W with
  | ok v W1 =>
    rw [q] at w
    exact Wish.up w (Gr.lam x)
  | exc C W1 =>
    simp only [q] at w
    cases q2 : tl C with
    | none => rw [q2] at w; exact w.elim
    | some s =>
      rw [q2] at w
      intro ws' G' H' g c'
      exact hl C s q2 Q H' (w (.str s) ws' G' H' ((Gr.lam x).trans g) c' (.d (.str s)))
  | stuck => rw [q] at w; exact w.elim
end
/-! ### a def whose code is known -/
section
variable {P : Program} {w : World} {K : Fr} {TB : List (Addr × Str)} {mg : Str → Option Value} {base : Heap} {x qual : Str} {st : Stmt} {f cd : Addr} {fd : FuncData} {N ps : List Str} {k : Nat} {b : FS}
theorem FunC.okX {sp : Sp} (F : L2.FunC K.K x qual st f fd cd) (S : L2.FnScope N ps (L2.defScope st)) (len : ∀ vs H Q E, sp vs H Q E → vs.length = ps.length)
    (hbody : ∀ (A : Around) (outer : List Env) (s : Shared) (H : Hp) (vs : List V) (Q : VK) (E : XK), L2.Room k (A.deeper (envOfC qual (L2.defScope st) s.heap.objs.size f (.ref cd))) → sp vs H Q E →
      ∃ t, L2.PSs (L2.cxOf (L2.CX P w) P w K.K mg base N qual (L2.defScope st) f (.ref cd) A outer s H E) (L2.defBody st) t ∧ t { nx := fun _ H' => Q .non H', rt := Q } (L2.start N vs) H) : L2.FnOk P w K.K mg base (L2.CX P w) (k + 1) f fd ps sp := by
  obtain ⟨oc, od, kV, doc, pm, an, ct, osl, rfl, lk, hcd⟩ := F.ex
  exact fn_of lk hcd S len fun A outer s H vs Q E hr hsp => hbody A outer s H vs Q E hr hsp
theorem FunC.okB (F : L2.FunC K.K x qual st f fd cd) (S : L2.FnScope N ps (L2.defScope st))
    (hbody : ∀ (A : Around) (outer : List Env) (s : Shared) (H : Hp) (E : XK), L2.Room k (A.deeper (envOfC qual (L2.defScope st) s.heap.objs.size f (.ref cd))) →
      ∃ t, L2.PSs (L2.cxOf (L2.CX P w) P w K.K mg base N qual (L2.defScope st) f (.ref cd) A outer s H E) (L2.defBody st) t ∧ SS K TB E t b) : L2.FnOk P w K.K mg base (L2.CX P w) (k + 1) f fd ps (spD K TB (runB ps.length N.length b)) := by
  refine FunC.okX F S (fun vs H Q E h => ?_) fun ar outer s H vs Q E hr h => ?_
  · obtain ⟨ws, G, W, ds, c, r, w⟩ := h
    exact (Paired.length r).trans (runB_len w)
  · obtain ⟨ws, G, W, ds, c, r, w⟩ := h
    obtain ⟨t, h1, h2⟩ := hbody ar outer s H E hr
    exact ⟨t, h1, body_ok h2 c r w⟩
theorem FunC.ok0 (F : L2.FunC K.K x qual st f fd cd) (S : L2.FnScope N ps (L2.defScope st))
    (hbody : ∀ (A : Around) (outer : List Env) (s : Shared) (H : Hp) (E : XK), L2.Room k (A.deeper (envOfC qual (L2.defScope st) s.heap.objs.size f (.ref cd))) →
      ∃ t, L2.PSs (L2.cxOf (L2.CX P w) P w K.K mg base N qual (L2.defScope st) f (.ref cd) A outer s H E) (L2.defBody st) t ∧ SS K TB E t b) : L2.FnOk P w K.K mg base (L2.CX P w) (k + 1) f fd ps (spD K TB (run0 ps.length N.length b)) := by
  refine FunC.okX F S (fun vs H Q E h => ?_) fun ar outer s H vs Q E hr h => ?_
  · obtain ⟨ws, G, W, ds, c, r, w⟩ := h
    exact (Paired.length r).trans (run0_len w)
  · obtain ⟨ws, G, W, ds, c, r, w⟩ := h
    obtain ⟨t, h1, h2⟩ := hbody ar outer s H E hr
    exact ⟨t, h1, body0_ok h2 c r w⟩
end
/-! ### the end -/
section
variable {K : Fr}
theorem ints_rp {G : Hp} : ∀ ns : List Int, RpL K G (ns.map V.int) (ns.map D.int)
  | [] => .nil
  | n :: ns => .cons (.int n) (ints_rp ns)
/-- the heap without its tables -/
def noTbl (H : Hp) : Hp := fun b => match H b with
  | some (.tbl _) => none
  | o => o
theorem noTbl_of {H : Hp} {b : Addr} {o : HO} (e : H b = some o) (n : ∀ ps, o ≠ .tbl ps) : noTbl H b = some o := by
  unfold noTbl
  rw [e]
  cases o with
  | tbl ps => exact absurd rfl (n ps)
  | _ => rfl
theorem noTbl_to {H : Hp} {b : Addr} {o : HO} (e : noTbl H b = some o) : H b = some o ∧ ∀ ps, o ≠ .tbl ps := by
  unfold noTbl at e
  split at e
  · cases e
  · rename_i hn
    refine ⟨e, fun ps z => ?_⟩
    subst z
    exact hn ps e
/-- what is known of the law on data is known of it in the model -/
theorem spD_law {TB : List (Addr × Str)} {F : FD} {H : Hp} {a : Addr} {ns : List Int} {W' : Ms} (tb : LamX.Tabs TB H) (hS : SqL K.K H a (ns.map V.int)) (h : F [.d (.lstK (ns.map D.int))] [] = .ok (.d (.bl true)) W') :
    spD K TB F [.ref a] H (fun v _ => v = .bl true) fun _ _ _ => False := by
  have sq : SqL K.K (noTbl H) a (ns.map V.int) := by
    rcases hS with (h | ⟨o, h⟩) | h
    · exact .inl (.inl (noTbl_of h fun _ z => nomatch z))
    · exact .inl (.inr ⟨o, noTbl_of h fun _ z => nomatch z⟩)
    · exact .inr h
  refine ⟨[], noTbl H, [], _, ⟨fun b o e => (noTbl_to e).1, rfl, List.nodup_nil, (fun _ hb => nomatch hb), fun b ps e => (noTbl_to e).2 ps rfl, fun n b m e => by simp at e, tb⟩, .cons (.d (.lstK sq (ints_rp ns))) .nil, ?_⟩
  rw [h]
  intro b ws' G' H' _ _ r
  cases r with
  | d r =>
    cases r
    rfl
theorem tabs_one {P : Addr} {q : Str} {H : Hp} (h : H P = some (.tbl #[])) : LamX.Tabs [(P, q)] H := fun p hp => by
  cases List.mem_singleton.mp hp
  exact ⟨#[], h, trivial, fun pos cv z => by cases z⟩
theorem tabs_nil {H : Hp} : LamX.Tabs [] H := fun p hp => nomatch hp
end
end DL

set_option Elab.async false
set_option linter.all false
set_option maxRecDepth 100000
set_option maxHeartbeats 4000000
/-! ## the end of a law of which another def makes the lambdas -/
namespace LX
open PySem PySem.Spec PyProof.Rows L2 LamX
theorem walk_at {law : PySem.W.OpenLaw} {most lv : Nat} {prog : Program} {names : List Str} {PX : (Str → Option Value) → Heap → Prop} {PY : World → Heap → Prop} {dl : DefRec} {Kp : Params → PySem.W.Frag} {CW : World → CXT} {arg : Str} (nm : Str)
    (h1 : law.most = some most) (h2 : most ≤ sizeLine) (h3 : dl.params.defaults = []) (h4 : Room lv callerA) (h5 : ((recsOf prog).any fun e => e.name == nm) = true) (h6 : ∀ (w : World) (h : Heap), PY w h → (Kp w.params).In h)
    (h7 : ∀ (w : World) (mg : Str → Option Value) (fa : Addr) (h : Heap), PY w h → (Kp w.params).In h → h.Ns mainGlobals mg → mg dl.name = some (.ref fa) → (∀ fb, mg nm = some (.ref fb) → OwnTab (Kp w.params) fb h) → LawAtS law w (Kp w.params) (CW w) lv most arg mg fa h)
    (h8 : ∀ (w : World) (H : Hp) (s : Shared) (e : Value) (s' : Shared), CW w [] H s (fun _ _ _ => False) e s' → False) :
    PySem.W.WalkO prog names PX PY law.row.toRowW dl [] (fun f vs => PySem.call f vs) := by
  refine Att.attach_callB h1 h3 fun w sa sb mg mb fa ob pm cv doc a vs ns GG YY g1 g2 g3 gmg g4 g5 g6 g7 g8 => ?_
  have inK := h6 w _ YY
  have own : ∀ fb, mg nm = some (.ref fb) → OwnTab (Kp w.params) fb sb.heap := fun fb hfb c P o1 fd1 e dd us sl k1 k2 k3 k4 k5 => by
    obtain ⟨dr, hm, hn1⟩ := List.any_eq_true.mp h5
    obtain ⟨a2, o2, fd2, c2, P2, q1, q2, q3, q4, q5, ⟨⟨oc, vc, e1, _, e3, e4⟩, hP⟩⟩ := GG.T.tab dr hm
    rw [beq_iff_eq.mp hn1, hfb] at q1
    obtain rfl : fb = a2 := by injection q1 with q1; injection q1
    rw [inK _ _ k1] at q2
    obtain rfl : o1 = o2 := Option.some.inj q2
    rw [k2] at q3
    obtain rfl : fd1 = fd2 := by injection q3
    rw [k3] at q4
    obtain rfl : c = c2 := by injection q4
    rw [inK _ _ k4] at e1
    cases e1
    cases e3
    rw [k5] at e4
    obtain rfl : P = P2 := by injection e4 with e4; injection e4
    exact hP
  obtain ⟨fd, cs, sp, t1, t2, t3, t4, t5, t6⟩ := h7 w mg fa _ YY inK GG.T.g gmg own
  exact law_callTs inK GG.T.g GG.T.b GG.T.builtins GG.T.nolimit g8 t1 t2 t3 GG.T.bmain g4 g5 (Nat.le_trans g6 h2) h4 t6 t4 (fun H hH hS => t5 H a ns g6 g7 hH hS) fun H e s' => h8 w H sb e s'
end LX

set_option Elab.async false
set_option linter.all false
set_option maxRecDepth 100000
set_option maxHeartbeats 4000000
/-! ## zip of a list and a tuple -/
namespace DZ
open PySem PySem.Spec PyProof.Rows L2
/-- the list at a and the tuple at b, turn by turn -/
def ItzM (K : PySem.W.Frag) (a b : Addr) (n m : Nat) : It where
  go i H := ∃ (xs ys : List V) (x y : V), SqL K H a xs ∧ SqT K H b ys ∧ (xs.length = n ∧ ys.length = m) ∧ xs[i]? = some x ∧ ys[i]? = some y
  yld i H v H' := ∃ T x y, v = .ref T ∧ H T = none ∧ H' = upd H T (.tup [x, y]) ∧ (∀ xs, SqL K H a xs → xs[i]? = some x) ∧ ∀ ys, SqT K H b ys → ys[i]? = some y
  stop i H := ∃ xs ys : List V, SqL K H a xs ∧ SqT K H b ys ∧ (xs.length = n ∧ ys.length = m) ∧ (xs.length ≤ i ∨ ys.length ≤ i)
theorem sep_of {a b z TI TO i1 i2 : Addr} (D : ZipApart z TI TO i1 i2 a b) : ZipSep2 z TI TO i1 i2 [i1, a] [i2, b] where
  TIz := D.TIz
  TOz := D.TOz
  TITO := D.TITO
  TIi1 := D.TIi1
  TIi2 := D.TIi2
  mem1 := by simp
  mem2 := by simp
  zf1 := by simpa using ⟨fun e => D.i1z e.symm, fun e => D.l1z e.symm⟩
  zf2 := by simpa using ⟨fun e => D.i2z e.symm, fun e => D.l2z e.symm⟩
  Tf1 := by simpa using ⟨D.TOi1, fun e => D.l1TO e.symm⟩
  Tf2 := by simpa using ⟨D.TOi2, fun e => D.l2TO e.symm⟩
  sep1_2 := by simpa using ⟨D.i12, fun e => D.l2i1 e.symm⟩
  sep2_1 := by simpa using ⟨fun e => D.i12 e.symm, fun e => D.l1i2 e.symm⟩
theorem turn_zipM {P : Program} {w : World} {K : PySem.W.Frag} {elts : List Expr} {kk : Nat} {tpos : Pos} {a b z TI TO i1 i2 : Addr} {n m : Nat} (D : ZipApart z TI TO i1 i2 a b) :
    Turn P w K (.Tuple elts kk tpos) (ItzM K a b n m) [z, TI, TO, i1, i2] z (fun i h => (i ≤ n ∧ i ≤ m) ∧ IsZip h z TI TO .none ∧ IsPair h TI (.ref i1) (.ref i2) ∧ (∃ x y, IsPair h TO x y) ∧ h.IsListIter i1 a i ∧ h.IsTupleIter i2 b i) where
  mem := List.mem_cons_self
  obj := fun i h ⟨_, hz, hTI, ⟨x, y, hTO⟩, ⟨o1, e1, _, d1⟩, ⟨o2, e2, _, d2⟩⟩ c hc => by
    simp only [List.mem_cons, List.not_mem_nil, or_false] at hc
    rcases hc with rfl | rfl | rfl | rfl | rfl
    · exact ⟨_, hz, fun v q => nomatch q⟩
    · exact ⟨_, hTI, fun v q => nomatch q⟩
    · exact ⟨_, hTO, fun v q => nomatch q⟩
    · exact ⟨o1, e1, fun v q => by rw [d1] at q; cases q⟩
    · exact ⟨o2, e2, fun v q => by rw [d2] at q; cases q⟩
  keep := fun i h h' ⟨hi, hz, hTI, ⟨x, y, hTO⟩, h1, h2⟩ k =>
    ⟨hi, k z (by simp) _ hz, k TI (by simp) _ hTI, ⟨x, y, k TO (by simp) _ hTO⟩, h1.at fun o q => k i1 (by simp) o q, h2.at fun o q => k i2 (by simp) o q⟩
  item := by
    rintro X rfl rfl rfl hc i pins s σ H E I hf ⟨hi, hz, hTI, ⟨x0, y0, hTO⟩, h1, h2⟩ ⟨xs, ys, x, y, qx, qy, hn, hx, hy⟩
    obtain ⟨is, rv, p1, _⟩ := I.list qx
    obtain ⟨js, rv2, p2, _⟩ := I.tuple qy
    obtain ⟨u, hu, ru⟩ := rv.get hx
    obtain ⟨u2, hu2, ru2⟩ := rv2.get hy
    have hh : X.A.in1.handled = none := I.ok.hd hc
    have hzl : z < s.heap.objs.size := Heap.lt_size hz
    have b1 : i < is.toArray.size := by
      have := (List.getElem?_eq_some_iff.mp hu).1
      simpa using this
    have b2 : i < js.toArray.size := by
      have := (List.getElem?_eq_some_iff.mp hu2).1
      simpa using this
    refine wpAny_pyNext_zipD2_item (sep_of D) (Draws.list hh i1 a (fun e => D.l1i1 e) is.toArray) (Draws.tuple hh i2 b (fun e => D.l2i2 e) js.toArray) hz hTI hTO ⟨h1, p1.isList⟩ ⟨h2, p2⟩ b1 b2
      fun x1 x2 h' tk e1 e2 z' TO' st1 st2 hT hsz hk => ?_
    obtain rfl : u = x1 := by simpa [hu] using e1
    obtain rfl : u2 = x2 := by simpa [hu2] using e2
    refine ⟨_, rfl, wpAny_letOwnedTupleGo_zip (s := { s with heap := h', toks := tk }) z' fun h'' z'' sb => ?_⟩
    have hT2 : h''.get? s.heap.objs.size = some { cls := .type "tuple", data := .seq #[u, u2] } := (sb.2 _ (Nat.ne_of_gt hzl)).trans hT
    have kp : ∀ c o, c ∉ [z, TI, TO, i1, i2] → s.heap.get? c = some o → h''.get? c = some o := fun c o hb q => by
      simp only [List.mem_cons, List.not_mem_nil, or_false, not_or] at hb
      exact (sb.2 c hb.1).trans (hk c o hb.1 hb.2.2.1 hb.2.2.2.1 hb.2.2.2.2 q)
    have I1 : Inv X pins σ (upd H s.heap.objs.size (.tup [x, y])) { s with heap := h'', toks := tk } :=
      I.turnedNew (t' := tk) (ch := [z, TI, TO, i1, i2]) kp hf (Nat.le_refl _) ⟨by show 2 ≤ sizeLine; decide, [u, u2], .cons ru (.cons ru2 .nil), ⟨_, hT2, rfl, _, rfl⟩⟩
    refine ⟨.ref s.heap.objs.size, _, I1, rfl, ⟨_, x, y, rfl, I.hok.fresh (Nat.le_refl _), rfl, fun l hl => by rw [I.list_inj hl qx]; exact hx, fun l hl => by rw [I.tuple_inj hl qy]; exact hy⟩, ⟨⟨?_, ?_⟩, z'', ?_, ⟨u, u2, ?_⟩, ?_, ?_⟩, fun c hcm => ?_⟩
    · have := (List.getElem?_eq_some_iff.mp hx).1
      omega
    · have := (List.getElem?_eq_some_iff.mp hy).1
      omega
    · exact (sb.2 _ D.TIz).trans (hk _ _ D.TIz D.TITO D.TIi1 D.TIi2 hTI)
    · exact (sb.2 _ D.TOz).trans TO'
    · exact st1.1.at fun o q => (sb.2 _ D.i1z).trans q
    · exact st2.1.at fun o q => (sb.2 _ D.i2z).trans q
    · have hlt : c < s.heap.objs.size := by
        have hcm' := hcm
        simp only [List.mem_cons, List.not_mem_nil, or_false] at hcm'
        rcases hcm' with rfl | rfl | rfl | rfl | rfl
        · exact hzl
        · exact Heap.lt_size hTI
        · exact Heap.lt_size hTO
        · exact let ⟨_, e1, _⟩ := h1; Heap.lt_size e1
        · exact let ⟨_, e2, _⟩ := h2; Heap.lt_size e2
      rw [upd_ne (Nat.ne_of_lt hlt)]
      exact (hf c hcm).1
  done := by
    rintro X rfl rfl rfl hc i pins s σ H E I hf ⟨hi, hz, hTI, ⟨x0, y0, hTO⟩, h1, h2⟩ ⟨xs, ys, qx, qy, hn, hend⟩
    obtain ⟨is, rv, p1, _⟩ := I.list qx
    obtain ⟨js, rv2, p2, _⟩ := I.tuple qy
    have hh : X.A.in1.handled = none := I.ok.hd hc
    have l1 : is.toArray.size = n := by rw [List.size_toArray, ← rv.length]; exact hn.1
    have l2 : js.toArray.size = m := by rw [List.size_toArray, ← rv2.length]; exact hn.2
    refine wpAny_pyNext_zipD2_end (sep_of D) (Draws.list hh i1 a (fun e => D.l1i1 e) is.toArray) (Draws.tuple hh i2 b (fun e => D.l2i2 e) js.toArray) hz hTI hTO ⟨h1, p1.isList⟩ ⟨h2, p2⟩ (by omega) (by omega) (by omega)
      fun h' tk hk => ⟨rfl, I.turnedL (t' := tk) (ch := [z, TI, TO, i1, i2]) (fun c o hb q => ?_) hf⟩
    simp only [List.mem_cons, List.not_mem_nil, or_false, not_or] at hb
    exact hk c o hb.1 hb.2.2.1 hb.2.2.2.1 hb.2.2.2.2 q
  self := fun A i s Q E st h => wpAny_pyIter_zip st.2.1 h
/-- zip of two lists, two tuples, or a list and a tuple -/
def iZipB (K : PySem.W.Frag) (ta : TA) : TI := fun σ H R => RZ.iZipA K ta σ H R ∨ ta σ H fun vs H1 => ∃ a b xs ys, vs = [.ref a, .ref b] ∧ SqL K H1 a xs ∧ SqT K H1 b ys ∧ R (ItzM K a b xs.length ys.length) H1
theorem zipB {X : Cx} (K : PySem.W.Frag) {e e2 : Expr} {ta : TA} {p pos tpos : Pos} {elts : List Expr} {kk : Nat} (hg : Gl X "zip") (hm : X.mg "zip" = none) (ha : PA X [e, e2] ta)
    (hs : starEach [e, e2] X.env = (false, eval e X.env) :: starEach [e2] X.env := by rfl) (hpl : (backTo pos (starEach [e2] X.env)).any (·.1) = false := by rfl) (hK : X.K = K := by rfl) :
    PI X (.Tuple elts kk tpos) (.Call (.Name "zip" p) [e, e2] [] pos) (iZipB K ta) := by
  subst hK
  refine ⟨fun pins s σ H R I h => ?_⟩
  rcases h with h | h
  · exact (RZ.pi_zipA hg hm ha hs hpl).run pins s σ H R I h
  refine Call_ (ld_blt I hg hm PyProof.Rows.boot_zip (PyProof.Rows.callWith_type1 (thn (ha.run pos pins s σ H _ I h) fun us s1 ⟨vs, H1, I1, r1, a, b, xs, ys, ex, qx, qy, q⟩ => ?_) hs hpl))
  subst ex
  cases r1 with
  | cons r rr =>
    cases rr with
    | cons r' rr =>
      cases rr
      cases r
      cases r'
      obtain ⟨is, rv, p1, _⟩ := I1.list qx
      obtain ⟨js, rv2, p2, _⟩ := I1.tuple qy
      obtain ⟨o2, ho2, _⟩ := id p2
      generalize hN : s1.heap.objs.size = N
      refine zip_begins2 (begins_list a is.toArray) (begins_tuple b js.toArray) p1.isList p2 fun h' hz hTI hTO g1 g2 hsz hk => wpAny_pyIter_zip hz ?_
      rw [hN] at hz hTI hTO g1 g2 ⊢
      have I2 : Inv X pins σ H1 { s1 with heap := h' } := I1.kept (t' := s1.toks) hk
      refine ⟨N + 4, [N + 4, N + 2, N + 3, N, N + 1], _, _, H1, rfl, I2, turn_zipM (PySem.W.ktu_apart N a b (hN ▸ p1.lt) (hN ▸ Heap.lt_size ho2)), ⟨⟨Nat.zero_le _, Nat.zero_le _⟩, hz, hTI, ⟨_, _, hTO⟩, ⟨_, g1, rfl, rfl⟩, ⟨_, g2, rfl, rfl⟩⟩, fun c hcm => ?_, q⟩
      have hle : s1.heap.objs.size ≤ c := by
        simp only [List.mem_cons, List.not_mem_nil, or_false] at hcm
        rw [hN]
        rcases hcm with rfl | rfl | rfl | rfl | rfl
        · exact Nat.le_add_right _ _
        · exact Nat.le_add_right _ _
        · exact Nat.le_add_right _ _
        · exact Nat.le_refl _
        · exact Nat.le_add_right _ _
      exact I1.fpOk hle (I1.hok.fresh hle)
end DZ

set_option Elab.async false
set_option linter.all false
set_option maxRecDepth 100000
set_option maxHeartbeats 4000000
/-! ## two dicts alike, compared -/
namespace DL
open PySem PySem.Spec PyProof.Rows L2
def rNeDk : R2 := fun x y H Q => ∃ a b ks ls, x = .ref a ∧ y = .ref b ∧ Rd H a (.dK ks) ∧ Rd H b (.dK ls) ∧ ks.length = ls.length ∧ (∀ p ∈ ks, valV ls p.1 = some p.2 ∧ flatB p.2 = true) ∧ Q (.bl false) H
def rNeX (K : PySem.W.Frag) : R2 := fun x y H Q => rNeDk x y H Q ∨ rNeA K x y H Q
theorem neX {X : Cx} (K : PySem.W.Frag) (hu : X.A.units + 64 < cLine) (hK : X.K = K := by rfl) : OpR X (compareOp .NotEq) (rNeX K) := by
  rintro pins s σ H x y v u Q I rx ry (h | h)
  · obtain ⟨a, b, ks, ls, rfl, rfl, ha, hb, hl, hp, q⟩ := h
    obtain rfl : v = Value.ref a := rx
    obtain rfl : u = Value.ref b := ry
    obtain ⟨_, ya, va, ra, da⟩ := (show ObjOk X.prog X.w H s.heap a (.dK ks) from ha.ok I.hok)
    obtain ⟨_, yb, vb, rb, db⟩ := (show ObjOk X.prog X.w H s.heap b (.dK ls) from hb.ok I.hok)
    have hlen : va.length = vb.length := by rw [← ra.length, ← rb.length]; exact hl
    refine PySem.W.keq_ne (knd := mixKind X.prog X.w) (r := true) ya yb da db (by omega) (fun _ => hits_all rb ra hp) ?_
    have e : (!(va.length == vb.length && true)) = false := by simp [hlen]
    rw [e]
    exact ⟨.bl false, H, I, rfl, q⟩
  · exact neA K hu hK pins s σ H x y v u Q I rx ry h
def flatK : D → Bool
  | .int _ => true
  | .str _ => true
  | _ => false
open Classical in
/-- two dicts: told only that they are alike -/
noncomputable def neX' (W : Ms) (x y : Vl) : Res Vl := match dctOf W x, dctOf W y with
  | some l, some m => if l.length = m.length ∧ (l.all fun p => flatK p.1) = true ∧ (m.all fun p => flatK p.1) = true ∧ ∀ p ∈ l, ∃ z, p.2 = .d z ∧ flatK z = true ∧ getK m p.1 = some (.d z) then .ok (.d (.bl false)) W else .stuck
  | _, _ => neD W x y
section
variable {K : Fr} {TB : List (Addr × Str)} {E : XK} {ws : List Addr} {G H : Hp} {W : Ms}
theorem flat_same {v v' : V} {x : D} (h : flatK x = true) (r : Rp K G v x) (r' : Rp K G v' x) : v = v' ∧ flatB v = true := by
  cases r <;> simp [flatK] at h <;> cases r' <;> exact ⟨rfl, rfl⟩
theorem ref_flat {a : Addr} {x : D} (h : flatK x = true) (r : Rp K G (.ref a) x) : False := by
  cases r <;> simp [flatK] at h
theorem vn_flat {kvs : List (NestedKey × Addr × V)} {l : List (D × Vl)} (r : RpVN K ws G kvs l) (nl : l ≠ []) (h : (l.all fun p => flatK p.1) = true) : False := by
  cases r with
  | nil => exact nl rfl
  | cons a t =>
    obtain ⟨⟨r, _⟩, _⟩ := a
    simp only [List.all_cons, Bool.and_eq_true] at h
    exact ref_flat h.1 r
theorem vk_len : ∀ {kvs : List (Key × V)} {l : List (D × Vl)}, RpVK K ws G kvs l → kvs.length = l.length := fun h => Paired.length h
theorem vk_mem : ∀ {kvs : List (Key × V)} {l : List (D × Vl)}, RpVK K ws G kvs l → ∀ p ∈ kvs, ∃ q ∈ l, q.1 = kD p.1 ∧ RpV K ws G p.2 q.2
  | _, _, .nil, p, h => nomatch h
  | _, _, .cons h t, p, hp => by
    rcases List.mem_cons.mp hp with rfl | hp
    · exact ⟨_, List.mem_cons_self, h⟩
    · obtain ⟨q, h1, h2⟩ := vk_mem t p hp
      exact ⟨q, List.mem_cons_of_mem _ h1, h2⟩
theorem o_neX : OpD K TB (rNeX K.K) neX' := fun E ws G H W x y a b Q c rx ry w => by
  unfold neX' at w
  split at w
  · rename_i l m q1 q2
    split at w
    · rename_i hh
      obtain ⟨hl, k1, k2, hp⟩ := hh
      obtain ⟨a1, rfl, d1⟩ := dct_at c rx q1
      obtain ⟨a2, rfl, d2⟩ := dct_at c ry q2
      rcases d1 with ⟨ks, e1, r1⟩ | ⟨ks, e1, r1, nl⟩
      · rcases d2 with ⟨ls, e2, r2⟩ | ⟨ls, e2, r2, nl⟩
        · refine .inl ⟨a1, a2, ks, ls, rfl, rfl, e1, e2, by rw [vk_len r1, vk_len r2, hl], fun p hm => ?_, w.ok c (.d (.bl false))⟩
          obtain ⟨q, hq, h1, h2⟩ := vk_mem r1 p hm
          obtain ⟨z, hz, fz, hg⟩ := hp q hq
          rw [h1] at hg
          obtain ⟨v', g1, g2⟩ := (vk_get p.1 r2).2 _ hg
          rw [hz] at h2
          have h3 : Rp K G p.2 z := by
            generalize p.2 = pv at h2
            cases h2 with
            | d h2 => exact h2
          cases g2 with
          | d g2 =>
            obtain ⟨e, f⟩ := flat_same fz h3 g2
            exact ⟨by rw [e]; exact g1, f⟩
        · exact (vn_flat r2 nl k2).elim
      · exact (vn_flat r1 nl k1).elim
    · exact w.elim
  · exact .inr (o_ne E ws G H W x y a b Q c rx ry w)
end
end DL
namespace DL
open PySem PySem.Spec PyProof.Rows L2
/-- x or y, where x is None or a dict -/
def tOrN (ta tb : TE) : TE := fun σ H Q => ta σ H fun x H1 => (x = .non ∧ tb σ H1 Q) ∨ ∃ a kvs, x = .ref a ∧ Rd H1 a (.dK kvs) ∧ ((kvs ≠ [] ∧ Q x H1) ∨ (kvs = [] ∧ tb σ H1 Q))
theorem pe_orN {X : Cx} {a b : Expr} {rest : List Expr} {pos : Pos} {ta tb : TE} (ha : PE X a ta) (hb : PE X (.BoolOp .Or (b :: rest) pos) tb) : PE X (.BoolOp .Or (a :: b :: rest) pos) (tOrN ta tb) := by
  refine ⟨fun pins s σ H Q I h => ?_⟩
  refine BoolOp_or (thn (ha.run pins s σ H _ I h) fun v s1 ⟨x, H1, I1, r1, q1⟩ => ?_)
  rcases q1 with ⟨rfl, q1⟩ | ⟨d, kvs, rfl, hd, q1⟩
  · obtain rfl : v = Value.none := r1
    show wpAny _ _ (pure false) _ _ _
    exact wpAny_pure (hb.run pins s1 σ H1 Q I1 q1)
  · obtain rfl : v = Value.ref d := r1
    obtain ⟨hz, y, us, rv, dd⟩ := (show ObjOk X.prog X.w H1 s1.heap d (.dK kvs) from hd.ok I1.hok)
    have hl : us.length = kvs.length := rv.length.symm
    refine wpAny_truthy_dict (knd := mixKind X.prog X.w) y dd (by rw [hl]; have := hz; rw [sizeLine_eq] at this; omega) ?_
    rcases q1 with ⟨nk, q1⟩ | ⟨rfl, q1⟩
    · have e : us ≠ [] := fun z => nk (List.length_eq_zero_iff.mp (by rw [← hl, z]; rfl))
      cases us with
      | nil => exact absurd rfl e
      | cons u us => exact ⟨.ref d, H1, I1.tok _, rfl, q1⟩
    · have e : us = [] := List.length_eq_zero_iff.mp (by rw [hl]; rfl)
      subst e
      exact hb.run pins _ σ H1 Q (I1.tok _) q1
def eOrN (a b : FE) : FE := fun ρ W => (a ρ W).bind fun x W1 => if isNon x = true then b ρ W1 else match dctOf W1 x with
  | some l => if (l.all fun p => flatK p.1) = true then (if l = [] then b ρ W1 else .ok x W1) else .stuck
  | none => .stuck
section
variable {K : Fr} {TB : List (Addr × Str)} {E : XK}
theorem s_orN {ta tb : TE} {fa fb : FE} (ha : SE K TB E ta fa) (hb : SE K TB E tb fb) : SE K TB E (tOrN ta tb) (eOrN fa fb) := by
  intro σ ws G H ρ W Q e c w
  refine ha.go (R := RV K) e c w fun x dx W1 ws1 G1 H1 g1 c1 r1 w1 => ?_
  split at w1
  · rename_i hn
    refine .inl ⟨?_, hb _ _ _ _ _ _ _ (e.up g1) c1 w1⟩
    cases r1 with
    | d r =>
      cases r with
      | non => rfl
      | _ => simp [isNon] at hn
    | mu _ => simp [isNon] at hn
  · cases q : dctOf W1 dx with
    | none => rw [q] at w1; exact w1.elim
    | some l =>
      simp only [q] at w1
      split at w1
      · rename_i hf
        obtain ⟨a, rfl, d1⟩ := dct_at c1 r1 q
        rcases d1 with ⟨ks, e1, rk⟩ | ⟨ks, e1, rk, nl⟩
        · refine .inr ⟨a, ks, rfl, e1, ?_⟩
          split at w1
          · rename_i hl
            subst hl
            cases rk
            exact .inr ⟨rfl, hb _ _ _ _ _ _ _ (e.up g1) c1 w1⟩
          · rename_i hl
            refine .inl ⟨fun z => ?_, Wish.ok (R := RV K) w1 c1 r1⟩
            subst z
            cases rk
            exact hl rfl
        · exact (vn_flat rk nl hf).elim
      · exact w1.elim
end
end DL
namespace DL
open PySem PySem.Spec PyProof.Rows L2
/-- zip of a list and a tuple, too -/
def iZpM (fs : FA) : FI := fun ρ W => (fs ρ W).bind fun xs W1 => match xs with
  | [.d (.lst l), .d (.tup m)] => .ok ⟨zipL l m, yes⟩ W1
  | _ => .stuck
section
variable {K : Fr} {TB : List (Addr × Str)} {E : XK} {ws : List Addr} {G H : Hp} {W : Ms}
theorem it_zipM {a b : Addr} {vs us : List V} {l m : List D} (e : G a = some (.lst vs)) (r : RpL K G vs l) (e2 : G b = some (.tup us)) (r2 : RpL K G us m) : ItOk K TB ws G H (DZ.ItzM K.K a b vs.length us.length) ⟨zipL l m, yes⟩ := by
  intro ws2 G2 H2 W2 gg c _ i
  have hs : SqL K.K H2 a vs := SqL.of (c.g _ _ (gg.g _ _ e))
  have hs2 : SqT K.K H2 b us := SqT.of (c.g _ _ (gg.g _ _ e2))
  refine ⟨fun h => ⟨vs, us, hs, hs2, ⟨rfl, rfl⟩, by rw [r.len, r2.len]; rw [zipL_len] at h; omega⟩, fun x hx => ?_⟩
  rw [zipL_at] at hx
  cases q : l[i]? with
  | none => rw [q] at hx; cases hx
  | some y =>
    cases q2 : m[i]? with
    | none => rw [q, q2] at hx; cases hx
    | some z =>
      rw [q, q2] at hx
      cases hx
      obtain ⟨v, h1, h2⟩ := r.at q
      obtain ⟨u, h3, h4⟩ := r2.at q2
      refine ⟨⟨vs, us, v, u, hs, hs2, ⟨rfl, rfl⟩, h1, h3⟩, fun w H3 hy => ?_⟩
      obtain ⟨T, x, y, rfl, hT, rfl, hy, hy2⟩ := hy
      obtain rfl : v = x := Option.some.inj (h1.symm.trans (hy vs hs))
      obtain rfl : u = y := Option.some.inj (h3.symm.trans (hy2 us hs2))
      exact new_tup c hT (.cons (h2.to (.of gg.g)) (.cons (h4.to (.of gg.g)) .nil))
theorem s_iZpM {t : TA} {fs : FA} (h : SA K TB E t fs) : SI K TB E (DZ.iZipB K.K t) (iZpM fs) := fun σ ws G H ρ W R e c w => by
  unfold iZpM at w
  cases q : fs ρ W with
  | stuck => rw [q] at w; exact w.elim
  | exc C W1 => rw [q] at w; exact .inr (h.gx (R' := ItOk K TB) e c q w)
  | ok x W1 =>
    rw [q, Res.bind_ok] at w
    split at w
    · refine .inr (h.gk e c q fun b ws1 G1 H1 g c1 r => ?_)
      obtain ⟨v, u, rfl, r1, r2⟩ := two_of r
      cases r1 with
      | d r1 =>
      cases r2 with
      | d r2 =>
      cases r1 with
      | lst e1 rl =>
      cases r2 with
      | tup e2 rl2 => exact ⟨_, _, _, _, rfl, SqL.of (c1.g _ _ e1), SqT.of (c1.g _ _ e2), w _ _ _ _ g c1 (it_zipM e1 rl e2 rl2)⟩
    · exact w.elim
end
end DL

set_option Elab.async false
set_option linter.all false
set_option maxRecDepth 100000
set_option maxHeartbeats 4000000
namespace Toy
open PySem L2 DL
def asgVal : Stmt → Expr
  | .Assign _ v _ => v
  | _ => .Constant .none 0 ⟨0, 0, 0, 0⟩
def lamArgs : Expr → Arguments
  | .Lambda a _ _ _ => a
  | _ => { posonlyargs := [], args := [], vararg := none, kwonlyargs := [], kw_defaults := [], kwarg := none, defaults := [] }
def lamBody : Expr → Expr
  | .Lambda _ b _ _ => b
  | e => e
def lamScope : Expr → Scope
  | .Lambda _ _ s _ => s
  | _ => { kind := .function, names := [], isGenerator := false, isCoroutine := false, more := [] }
def top (i : Nat) : PySem.Stmt := PySem.Challenge.pw_deducehall_k01_terms_and_rows.main.body.getD i (.Pass ⟨0, 0, 0, 0⟩)
abbrev s_Term_init : PySem.Stmt := inClass (top 13) 0
abbrev N_Term_init : List Str := ["self", "name", "value"]
theorem sc_Term_init : FnScope N_Term_init ["self", "name", "value"] (defScope s_Term_init) := ⟨rfl, rfl, rfl, by decide +kernel, rfl, by decide +kernel, by decide +kernel⟩
abbrev s_Term_is_variable : PySem.Stmt := inClass (top 13) 1
abbrev N_Term_is_variable : List Str := ["self"]
theorem sc_Term_is_variable : FnScope N_Term_is_variable ["self"] (defScope s_Term_is_variable) := ⟨rfl, rfl, rfl, by decide +kernel, rfl, by decide +kernel, by decide +kernel⟩
abbrev s_Term_shown : PySem.Stmt := inClass (top 13) 2
abbrev N_Term_shown : List Str := ["self"]
theorem sc_Term_shown : FnScope N_Term_shown ["self"] (defScope s_Term_shown) := ⟨rfl, rfl, rfl, by decide +kernel, rfl, by decide +kernel, by decide +kernel⟩
abbrev s_Term_under : PySem.Stmt := inClass (top 13) 3
abbrev N_Term_under : List Str := ["self", "bound"]
theorem sc_Term_under : FnScope N_Term_under ["self", "bound"] (defScope s_Term_under) := ⟨rfl, rfl, rfl, by decide +kernel, rfl, by decide +kernel, by decide +kernel⟩
abbrev s_Term_known : PySem.Stmt := inClass (top 13) 4
abbrev N_Term_known : List Str := ["self", "bound"]
theorem sc_Term_known : FnScope N_Term_known ["self", "bound"] (defScope s_Term_known) := ⟨rfl, rfl, rfl, by decide +kernel, rfl, by decide +kernel, by decide +kernel⟩
abbrev s_var : PySem.Stmt := top 14
abbrev N_var : List Str := ["name"]
theorem sc_var : FnScope N_var ["name"] (defScope s_var) := ⟨rfl, rfl, rfl, by decide +kernel, rfl, by decide +kernel, by decide +kernel⟩
abbrev s_val : PySem.Stmt := top 15
abbrev N_val : List Str := ["value"]
theorem sc_val : FnScope N_val ["value"] (defScope s_val) := ⟨rfl, rfl, rfl, by decide +kernel, rfl, by decide +kernel, by decide +kernel⟩
abbrev s_is_number : PySem.Stmt := top 16
abbrev N_is_number : List Str := ["value"]
theorem sc_is_number : FnScope N_is_number ["value"] (defScope s_is_number) := ⟨rfl, rfl, rfl, by decide +kernel, rfl, by decide +kernel, by decide +kernel⟩
abbrev s_value_key : PySem.Stmt := top 17
abbrev N_value_key : List Str := ["value"]
theorem sc_value_key : FnScope N_value_key ["value"] (defScope s_value_key) := ⟨rfl, rfl, rfl, by decide +kernel, rfl, by decide +kernel, by decide +kernel⟩
abbrev s_row_key : PySem.Stmt := top 18
abbrev N_row_key : List Str := ["row", "value"]
theorem sc_row_key : FnScope N_row_key ["row"] (defScope s_row_key) := ⟨rfl, rfl, rfl, by decide +kernel, rfl, by decide +kernel, by decide +kernel⟩
abbrev s_bound_key : PySem.Stmt := top 19
abbrev N_bound_key : List Str := ["bound", "name"]
theorem sc_bound_key : FnScope N_bound_key ["bound"] (defScope s_bound_key) := ⟨rfl, rfl, rfl, by decide +kernel, rfl, by decide +kernel, by decide +kernel⟩
abbrev s_in_order : PySem.Stmt := top 20
abbrev N_in_order : List Str := ["rows"]
theorem sc_in_order : FnScope N_in_order ["rows"] (defScope s_in_order) := ⟨rfl, rfl, rfl, by decide +kernel, rfl, by decide +kernel, by decide +kernel⟩
abbrev s_names_in : PySem.Stmt := top 21
abbrev N_names_in : List Str := ["terms", "names", "term"]
theorem sc_names_in : FnScope N_names_in ["terms"] (defScope s_names_in) := ⟨rfl, rfl, rfl, by decide +kernel, rfl, by decide +kernel, by decide +kernel⟩
abbrev s_filled : PySem.Stmt := top 22
abbrev N_filled : List Str := ["terms", "bound", "term"]
theorem sc_filled : FnScope N_filled ["terms", "bound"] (defScope s_filled) := ⟨rfl, rfl, rfl, by decide +kernel, rfl, by decide +kernel, by decide +kernel⟩
abbrev s_matched : PySem.Stmt := top 23
abbrev N_matched : List Str := ["terms", "row", "bound", "wider", "term", "value"]
theorem sc_matched : FnScope N_matched ["terms", "row", "bound"] (defScope s_matched) := ⟨rfl, rfl, rfl, by decide +kernel, rfl, by decide +kernel, by decide +kernel⟩
abbrev s_pattern : PySem.Stmt := top 24
abbrev N_pattern : List Str := ["terms", "bound", "places", "place", "term"]
theorem sc_pattern : FnScope N_pattern ["terms", "bound"] (defScope s_pattern) := ⟨rfl, rfl, rfl, by decide +kernel, rfl, by decide +kernel, by decide +kernel⟩
abbrev s_shown_all : PySem.Stmt := top 25
abbrev N_shown_all : List Str := ["terms", "term"]
theorem sc_shown_all : FnScope N_shown_all ["terms"] (defScope s_shown_all) := ⟨rfl, rfl, rfl, by decide +kernel, rfl, by decide +kernel, by decide +kernel⟩
abbrev s_renamed : PySem.Stmt := top 26
abbrev N_renamed : List Str := ["terms", "names", "term"]
theorem sc_renamed : FnScope N_renamed ["terms", "names"] (defScope s_renamed) := ⟨rfl, rfl, rfl, by decide +kernel, rfl, by decide +kernel, by decide +kernel⟩
abbrev s_l_dice : PySem.Stmt := top 28
abbrev N_l_dice : List Str := ["cell"]
theorem sc_l_dice : FnScope N_l_dice ["cell"] (defScope s_l_dice) := ⟨rfl, rfl, rfl, by decide +kernel, rfl, by decide +kernel, by decide +kernel⟩
abbrev s_l_roll : PySem.Stmt := top 29
abbrev N_l_roll : List Str := ["dice", "many", "found"]
theorem sc_l_roll : FnScope N_l_roll ["dice", "many"] (defScope s_l_roll) := ⟨rfl, rfl, rfl, by decide +kernel, rfl, by decide +kernel, by decide +kernel⟩
abbrev s_l_rounds : PySem.Stmt := top 30
abbrev N_l_rounds : List Str := ["script", "most", "cells", "cell"]
theorem sc_l_rounds : FnScope N_l_rounds ["script", "most"] (defScope s_l_rounds) := ⟨rfl, rfl, rfl, by decide +kernel, rfl, by decide +kernel, by decide +kernel⟩
abbrev s_l_told : PySem.Stmt := top 31
abbrev N_l_told : List Str := ["what"]
theorem sc_l_told : FnScope N_l_told ["what"] (defScope s_l_told) := ⟨rfl, rfl, rfl, by decide +kernel, rfl, by decide +kernel, by decide +kernel⟩
abbrev s_l_value : PySem.Stmt := top 32
abbrev N_l_value : List Str := ["dice"]
theorem sc_l_value : FnScope N_l_value ["dice"] (defScope s_l_value) := ⟨rfl, rfl, rfl, by decide +kernel, rfl, by decide +kernel, by decide +kernel⟩
abbrev s_l_term : PySem.Stmt := top 33
abbrev N_l_term : List Str := ["dice"]
theorem sc_l_term : FnScope N_l_term ["dice"] (defScope s_l_term) := ⟨rfl, rfl, rfl, by decide +kernel, rfl, by decide +kernel, by decide +kernel⟩
abbrev s_l_make : PySem.Stmt := top 34
abbrev N_l_make : List Str := ["term"]
theorem sc_l_make : FnScope N_l_make ["term"] (defScope s_l_make) := ⟨rfl, rfl, rfl, by decide +kernel, rfl, by decide +kernel, by decide +kernel⟩
abbrev s_l_less : PySem.Stmt := top 35
abbrev N_l_less : List Str := ["one", "other"]
theorem sc_l_less : FnScope N_l_less ["one", "other"] (defScope s_l_less) := ⟨rfl, rfl, rfl, by decide +kernel, rfl, by decide +kernel, by decide +kernel⟩
abbrev s_l_row_less : PySem.Stmt := top 36
abbrev N_l_row_less : List Str := ["one", "other", "k"]
theorem sc_l_row_less : FnScope N_l_row_less ["one", "other"] (defScope s_l_row_less) := ⟨rfl, rfl, rfl, by decide +kernel, rfl, by decide +kernel, by decide +kernel⟩
abbrev s_l_cases1 : PySem.Stmt := top 37
abbrev N_l_cases1 : List Str := ["dice", "terms", "bound", "made", "names", "kind", "said", "table", "known", "values", "term", "k"]
theorem sc_l_cases1 : FnScope N_l_cases1 ["dice", "terms", "bound"] (defScope s_l_cases1) := ⟨rfl, rfl, rfl, by decide +kernel, rfl, by decide +kernel, by decide +kernel⟩
abbrev s_law : PySem.Stmt := top 38
abbrev N_law : List Str := ["script", "dice", "rows", "told_now", "terms", "bound", "made", "row", "wide", "good", "k", "kind", "said", "here", "due", "j", "name", "term"]
theorem sc_law : FnScope N_law ["script"] (defScope s_law) := ⟨rfl, rfl, rfl, by decide +kernel, rfl, by decide +kernel, by decide +kernel⟩
structure Ad where
  C_BadSign : Addr
  C_BadRule : Addr
  C_BadKind : Addr
  C_BadLayer : Addr
  C_NoSuch : Addr
  C_BadDeed : Addr
  C_BadGround : Addr
  C_BadStore : Addr
  C_Broken : Addr
  C_BadSize : Addr
  cL : Addr
  PL : Addr
  f_Term_init : Addr
  d_Term_init : FuncData
  f_Term_is_variable : Addr
  d_Term_is_variable : FuncData
  f_Term_shown : Addr
  d_Term_shown : FuncData
  f_Term_under : Addr
  d_Term_under : FuncData
  f_Term_known : Addr
  d_Term_known : FuncData
  f_var : Addr
  d_var : FuncData
  f_val : Addr
  d_val : FuncData
  f_is_number : Addr
  d_is_number : FuncData
  f_value_key : Addr
  d_value_key : FuncData
  f_row_key : Addr
  d_row_key : FuncData
  f_bound_key : Addr
  d_bound_key : FuncData
  f_in_order : Addr
  d_in_order : FuncData
  f_names_in : Addr
  d_names_in : FuncData
  f_filled : Addr
  d_filled : FuncData
  f_matched : Addr
  d_matched : FuncData
  f_pattern : Addr
  d_pattern : FuncData
  f_shown_all : Addr
  d_shown_all : FuncData
  f_renamed : Addr
  d_renamed : FuncData
  f_l_dice : Addr
  d_l_dice : FuncData
  f_l_roll : Addr
  d_l_roll : FuncData
  f_l_rounds : Addr
  d_l_rounds : FuncData
  f_l_told : Addr
  d_l_told : FuncData
  f_l_value : Addr
  d_l_value : FuncData
  f_l_term : Addr
  d_l_term : FuncData
  f_l_make : Addr
  d_l_make : FuncData
  f_l_less : Addr
  d_l_less : FuncData
  f_l_row_less : Addr
  d_l_row_less : FuncData
  f_l_cases1 : Addr
  d_l_cases1 : FuncData
  f_law : Addr
  d_law : FuncData
  C_Term : Addr
/-- what the top leaves -/
structure Txt (K : PySem.W.Frag) (mg : Str → Option Value) (A : Ad) : Prop where
  F_Term_init : FunD K "__init__" "Term.__init__" (defArgs s_Term_init) (defBody s_Term_init) (defScope s_Term_init) [.non] [] A.f_Term_init A.d_Term_init
  b_Term_init : Binds K A.d_Term_init ["self", "name", "value"] []
  bd_Term_init : ∃ ds, Vals [.non] ds ∧ Binds K A.d_Term_init ["self", "name", "value"] ds
  F_Term_is_variable : Fun K "is_variable" "Term.is_variable" s_Term_is_variable A.f_Term_is_variable A.d_Term_is_variable
  b_Term_is_variable : Binds K A.d_Term_is_variable ["self"] []
  e_Term_is_variable : Meth K A.C_Term "is_variable" A.f_Term_is_variable
  F_Term_shown : Fun K "shown" "Term.shown" s_Term_shown A.f_Term_shown A.d_Term_shown
  b_Term_shown : Binds K A.d_Term_shown ["self"] []
  e_Term_shown : Meth K A.C_Term "shown" A.f_Term_shown
  F_Term_under : Fun K "under" "Term.under" s_Term_under A.f_Term_under A.d_Term_under
  b_Term_under : Binds K A.d_Term_under ["self", "bound"] []
  e_Term_under : Meth K A.C_Term "under" A.f_Term_under
  F_Term_known : Fun K "known" "Term.known" s_Term_known A.f_Term_known A.d_Term_known
  b_Term_known : Binds K A.d_Term_known ["self", "bound"] []
  e_Term_known : Meth K A.C_Term "known" A.f_Term_known
  F_var : Fun K "var" "var" s_var A.f_var A.d_var
  b_var : Binds K A.d_var ["name"] []
  m_var : mg "var" = some (.ref A.f_var)
  F_val : Fun K "val" "val" s_val A.f_val A.d_val
  b_val : Binds K A.d_val ["value"] []
  m_val : mg "val" = some (.ref A.f_val)
  F_is_number : Fun K "is_number" "is_number" s_is_number A.f_is_number A.d_is_number
  b_is_number : Binds K A.d_is_number ["value"] []
  m_is_number : mg "is_number" = some (.ref A.f_is_number)
  F_value_key : Fun K "value_key" "value_key" s_value_key A.f_value_key A.d_value_key
  b_value_key : Binds K A.d_value_key ["value"] []
  m_value_key : mg "value_key" = some (.ref A.f_value_key)
  F_row_key : Fun K "row_key" "row_key" s_row_key A.f_row_key A.d_row_key
  b_row_key : Binds K A.d_row_key ["row"] []
  m_row_key : mg "row_key" = some (.ref A.f_row_key)
  F_bound_key : Fun K "bound_key" "bound_key" s_bound_key A.f_bound_key A.d_bound_key
  b_bound_key : Binds K A.d_bound_key ["bound"] []
  m_bound_key : mg "bound_key" = some (.ref A.f_bound_key)
  F_in_order : Fun K "in_order" "in_order" s_in_order A.f_in_order A.d_in_order
  b_in_order : Binds K A.d_in_order ["rows"] []
  m_in_order : mg "in_order" = some (.ref A.f_in_order)
  F_names_in : Fun K "names_in" "names_in" s_names_in A.f_names_in A.d_names_in
  b_names_in : Binds K A.d_names_in ["terms"] []
  m_names_in : mg "names_in" = some (.ref A.f_names_in)
  F_filled : Fun K "filled" "filled" s_filled A.f_filled A.d_filled
  b_filled : Binds K A.d_filled ["terms", "bound"] []
  m_filled : mg "filled" = some (.ref A.f_filled)
  F_matched : Fun K "matched" "matched" s_matched A.f_matched A.d_matched
  b_matched : Binds K A.d_matched ["terms", "row", "bound"] []
  m_matched : mg "matched" = some (.ref A.f_matched)
  F_pattern : Fun K "pattern" "pattern" s_pattern A.f_pattern A.d_pattern
  b_pattern : Binds K A.d_pattern ["terms", "bound"] []
  m_pattern : mg "pattern" = some (.ref A.f_pattern)
  F_shown_all : Fun K "shown_all" "shown_all" s_shown_all A.f_shown_all A.d_shown_all
  b_shown_all : Binds K A.d_shown_all ["terms"] []
  m_shown_all : mg "shown_all" = some (.ref A.f_shown_all)
  F_renamed : Fun K "renamed" "renamed" s_renamed A.f_renamed A.d_renamed
  b_renamed : Binds K A.d_renamed ["terms", "names"] []
  m_renamed : mg "renamed" = some (.ref A.f_renamed)
  F_l_dice : Fun K "_law_dice" "_law_dice" s_l_dice A.f_l_dice A.d_l_dice
  b_l_dice : Binds K A.d_l_dice ["cell"] []
  m_l_dice : mg "_law_dice" = some (.ref A.f_l_dice)
  F_l_roll : Fun K "_law_roll" "_law_roll" s_l_roll A.f_l_roll A.d_l_roll
  b_l_roll : Binds K A.d_l_roll ["dice", "many"] []
  m_l_roll : mg "_law_roll" = some (.ref A.f_l_roll)
  F_l_rounds : Fun K "_law_rounds" "_law_rounds" s_l_rounds A.f_l_rounds A.d_l_rounds
  b_l_rounds : Binds K A.d_l_rounds ["script", "most"] []
  m_l_rounds : mg "_law_rounds" = some (.ref A.f_l_rounds)
  F_l_told : Fun K "_law_told" "_law_told" s_l_told A.f_l_told A.d_l_told
  b_l_told : Binds K A.d_l_told ["what"] []
  m_l_told : mg "_law_told" = some (.ref A.f_l_told)
  F_l_value : Fun K "_law_value" "_law_value" s_l_value A.f_l_value A.d_l_value
  b_l_value : Binds K A.d_l_value ["dice"] []
  m_l_value : mg "_law_value" = some (.ref A.f_l_value)
  F_l_term : Fun K "_law_term" "_law_term" s_l_term A.f_l_term A.d_l_term
  b_l_term : Binds K A.d_l_term ["dice"] []
  m_l_term : mg "_law_term" = some (.ref A.f_l_term)
  F_l_make : Fun K "_law_make" "_law_make" s_l_make A.f_l_make A.d_l_make
  b_l_make : Binds K A.d_l_make ["term"] []
  m_l_make : mg "_law_make" = some (.ref A.f_l_make)
  F_l_less : Fun K "_law_less" "_law_less" s_l_less A.f_l_less A.d_l_less
  b_l_less : Binds K A.d_l_less ["one", "other"] []
  m_l_less : mg "_law_less" = some (.ref A.f_l_less)
  F_l_row_less : Fun K "_law_row_less" "_law_row_less" s_l_row_less A.f_l_row_less A.d_l_row_less
  b_l_row_less : Binds K A.d_l_row_less ["one", "other"] []
  m_l_row_less : mg "_law_row_less" = some (.ref A.f_l_row_less)
  F_l_cases1 : Fun K "_law_cases1" "_law_cases1" s_l_cases1 A.f_l_cases1 A.d_l_cases1
  b_l_cases1 : Binds K A.d_l_cases1 ["dice", "terms", "bound"] []
  m_l_cases1 : mg "_law_cases1" = some (.ref A.f_l_cases1)
  F_law : Fun K "law" "law" s_law A.f_law A.d_law
  b_law : Binds K A.d_law ["script"] []
  m_law : mg "law" = some (.ref A.f_law)
  m_Term : mg "Term" = some (.ref A.C_Term)
  cl_Term : Cls K A.C_Term
  M_Term : Mk K A.C_Term A.f_Term_init
  n_Term_name : NoAttr K A.C_Term "name"
  n_Term_value : NoAttr K A.C_Term "value"
  q_BadSign : mg "BadSign" = some (.ref A.C_BadSign)
  q_BadRule : mg "BadRule" = some (.ref A.C_BadRule)
  q_BadKind : mg "BadKind" = some (.ref A.C_BadKind)
  q_BadLayer : mg "BadLayer" = some (.ref A.C_BadLayer)
  q_NoSuch : mg "NoSuch" = some (.ref A.C_NoSuch)
  q_BadDeed : mg "BadDeed" = some (.ref A.C_BadDeed)
  q_BadGround : mg "BadGround" = some (.ref A.C_BadGround)
  q_BadStore : mg "BadStore" = some (.ref A.C_BadStore)
  q_Broken : mg "Broken" = some (.ref A.C_Broken)
  q_BadSize : mg "BadSize" = some (.ref A.C_BadSize)
  x_NoSuch : PySem.W.excIn K A.C_NoSuch [.type "ValueError", .type "Exception", .type "BaseException", .type "object"] "ValueError.__new__" = true
  k_NoSuch : PySem.W.keepIn K (.ref A.C_NoSuch) = true
  sb_NoSuch : PySem.W.subIn K (.ref A.C_NoSuch) (.type "BaseException") = some true
  ty_NoSuch : PySem.W.typeIn K (.ref A.C_NoSuch) = some (.type "type")
  m_NoSuch_BadSign : PySem.W.exmOne K (.ref A.C_NoSuch) (.ref A.C_BadSign) = some false
  m_NoSuch_BadRule : PySem.W.exmOne K (.ref A.C_NoSuch) (.ref A.C_BadRule) = some false
  m_NoSuch_BadKind : PySem.W.exmOne K (.ref A.C_NoSuch) (.ref A.C_BadKind) = some false
  m_NoSuch_BadLayer : PySem.W.exmOne K (.ref A.C_NoSuch) (.ref A.C_BadLayer) = some false
  m_NoSuch_NoSuch : PySem.W.exmOne K (.ref A.C_NoSuch) (.ref A.C_NoSuch) = some true
  C_law : FunC K "_law_cases1" "_law_cases1" s_l_cases1 A.f_l_cases1 A.d_l_cases1 A.cL
  H_law : PySem.W.codeHdIn K A.cL A.PL = true
  z_abs : mg "abs" = none
  z_dict : mg "dict" = none
  z_enumerate : mg "enumerate" = none
  z_int : mg "int" = none
  z_isinstance : mg "isinstance" = none
  z_len : mg "len" = none
  z_min : mg "min" = none
  z_range : mg "range" = none
  z_sorted : mg "sorted" = none
  z_tuple : mg "tuple" = none
  z_zip : mg "zip" = none

/-- the name that the lambdas bear -/
abbrev qL : Str := ("_law_cases1" : Str) ++ ".<locals>." ++ "<lambda>"
/-- what told answers to each refusal -/
def tlA (A : Ad) : List (Value × Str) := [(.ref A.C_BadSign, "sign"), (.ref A.C_BadRule, "rule"), (.ref A.C_BadKind, "kind"), (.ref A.C_BadLayer, "layer"), (.ref A.C_NoSuch, "no such"), (.ref A.C_BadDeed, "deed"), (.ref A.C_BadGround, "ground"), (.ref A.C_BadStore, "store"), (.ref A.C_Broken, "broken"), (.ref A.C_BadSize, "size")]
def tlF (A : Ad) : Addr → Option Str := fun C => if C = A.C_NoSuch then some "no such" else none
section
variable {K : PySem.W.Frag} {mg : Str → Option Value} {A : Ad}
theorem tl_ok (T : Txt K mg A) : ∀ (C : Addr) (s : Str), tlF A C = some s → ∀ (Q : VK) (H : Hp), Q (.str s) H → LamX.wTold K Q (tlA A) (.ref C) H := fun C s h Q H q => by
  unfold tlF at h
  split at h
  · rename_i e
    subst e
    cases h
    exact ⟨_, T.m_NoSuch_BadSign, fun h => (Bool.noConfusion h : False).elim, fun _ => ⟨_, T.m_NoSuch_BadRule, fun h => (Bool.noConfusion h : False).elim, fun _ => ⟨_, T.m_NoSuch_BadKind, fun h => (Bool.noConfusion h : False).elim, fun _ => ⟨_, T.m_NoSuch_BadLayer, fun h => (Bool.noConfusion h : False).elim, fun _ => ⟨_, T.m_NoSuch_NoSuch, fun _ => q, fun h => (Bool.noConfusion h : False).elim⟩⟩⟩⟩⟩
  cases h
theorem pe_told (T : Txt K mg A) {X : Cx} (hK : X.K = K) (hmg : X.mg = mg) (TB : LamX.TabB X.base X.mg A.cL A.PL) (hcode : X.env.code = .ref A.cL) (hq : X.env.qual ++ "<lambda>" = qL) (hg : Gl X "_law_told") {k : Nat} (hr : Room (k + 2) X.A) {params : Arguments} {body : Expr} {scope : Scope} {lpos p pos : Pos} {t : XK → TE}
    (LS : LamX.LamS X.env.scope scope) (hdef : defaultsOf params X.env = ([], [])) (hbind : ∀ (q : Str) (cl : List (Str × Addr)) (pm cv ctv : Value), bindArgs (PySem.W.kla_fn "<lambda>" q params body scope cl pm cv ctv) ⟨[], []⟩ = pure [])
    (hbody : ∀ (A' : Around) (outer : List Env) (s : Shared) (H : Hp) (E : XK) (f c' : Addr), Room k (A'.deeper (LamX.lamEnv X scope s.heap.objs.size f c')) → PE (LamX.lamCx X A' outer s H E scope f c') body (t E)) :
    PE X (.Call (.Name "_law_told" p) [.Lambda params body scope lpos] [] pos) (LamX.tLam [(A.PL, qL)] (LamX.TTm K (tlA A)) t) := by
  subst hK hmg
  obtain ⟨oc, od, kV, doc, pm, an, cdv, ct, osl, hfd, lk, hcd⟩ := T.F_l_told.ex
  have hb := T.b_l_told
  rw [hfd] at hb lk
  refine LamX.pe_lamcall (x := "_law_told") (a := "what") (Ng := N_l_told) (sg := defScope s_l_told) hg T.m_l_told T.F_l_told.kp lk hcd hb sc_l_told rfl (Or.inl rfl) ?_ TB hcode (by rw [hq]; exact List.mem_cons_self) (fun p hp _ => by rw [List.mem_singleton.mp hp, hq]) hr LS hdef hbind hbody
  exact LamX.told_givesM (fun f => rfl) fun s H => (.cons ⟨rfl, by decide, .inl T.q_BadSign⟩ (fun _ _ _ _ _ _ _ => pss_one (ps_ret pe_str)) (.cons ⟨rfl, by decide, .inl T.q_BadRule⟩ (fun _ _ _ _ _ _ _ => pss_one (ps_ret pe_str)) (.cons ⟨rfl, by decide, .inl T.q_BadKind⟩ (fun _ _ _ _ _ _ _ => pss_one (ps_ret pe_str)) (.cons ⟨rfl, by decide, .inl T.q_BadLayer⟩ (fun _ _ _ _ _ _ _ => pss_one (ps_ret pe_str)) (.cons ⟨rfl, by decide, .inl T.q_NoSuch⟩ (fun _ _ _ _ _ _ _ => pss_one (ps_ret pe_str)) (.cons ⟨rfl, by decide, .inl T.q_BadDeed⟩ (fun _ _ _ _ _ _ _ => pss_one (ps_ret pe_str)) (.cons ⟨rfl, by decide, .inl T.q_BadGround⟩ (fun _ _ _ _ _ _ _ => pss_one (ps_ret pe_str)) (.cons ⟨rfl, by decide, .inl T.q_BadStore⟩ (fun _ _ _ _ _ _ _ => pss_one (ps_ret pe_str)) (.cons ⟨rfl, by decide, .inl T.q_Broken⟩ (fun _ _ _ _ _ _ _ => pss_one (ps_ret pe_str)) (.cons ⟨rfl, by decide, .inl T.q_BadSize⟩ (fun _ _ _ _ _ _ _ => pss_one (ps_ret pe_str)) .nil))))))))))
end
/-! ## the defs on data -/
noncomputable section
def b_Term_init (A : Ad) : FS :=
  (sSeq (sFldSet A.C_Term "name" (eVar 0) (eVar 1))
      (sFldSet A.C_Term "value" (eVar 0) (eVar 2)))
def f_Term_init (A : Ad) : FD := run0 3 3 (b_Term_init A)
def b_Term_is_variable (A : Ad) : FS :=
  (sRet (eOp neD (eFld "name" (eVar 0)) (eC (.str ""))))
def f_Term_is_variable (A : Ad) : FD := run0 1 1 (b_Term_is_variable A)
def b_Term_shown (A : Ad) : FS :=
  (sRet (eIf (tstV (eMeth A.C_Term "is_variable" (f_Term_is_variable A) [] (eVar 0) aNil)) (eTup (aCons (eC (.str "var")) (aCons (eFld "name" (eVar 0)) aNil))) (eTup (aCons (eC (.str "val")) (aCons (eFld "value" (eVar 0)) aNil)))))
def f_Term_shown (A : Ad) : FD := run0 1 1 (b_Term_shown A)
def b_Term_under (A : Ad) : FS :=
  (sSeq (sIf (tstNot (tstV (eMeth A.C_Term "is_variable" (f_Term_is_variable A) [] (eVar 0) aNil))) (sRet (eFld "value" (eVar 0))) sNil)
      (sSeq (sIf (tstV (eOp notInD (eFld "name" (eVar 0)) (eVar 1))) (sRaise A.C_NoSuch (eJoin [(eC (.str "not bound: ")), (eFmt (eFld "name" (eVar 0)))])) sNil)
      (sRet (eOp ixD (eVar 1) (eFld "name" (eVar 0))))))
def f_Term_under (A : Ad) : FD := run0 2 2 (b_Term_under A)
def b_Term_known (A : Ad) : FS :=
  (sRet (eOrV (eNotV (eMeth A.C_Term "is_variable" (f_Term_is_variable A) [] (eVar 0) aNil)) (eOp inD (eFld "name" (eVar 0)) (eVar 1))))
def f_Term_known (A : Ad) : FD := run0 2 2 (b_Term_known A)
def b_var (A : Ad) : FS :=
  (sRet (eMake A.C_Term (f_Term_init A) [.d .non] (aCons (eVar 0) aNil)))
def f_var (A : Ad) : FD := run0 1 1 (b_var A)
def b_val (A : Ad) : FS :=
  (sRet (eMake A.C_Term (f_Term_init A) [] (aCons (eC (.str "")) (aCons (eVar 0) aNil))))
def f_val (A : Ad) : FD := run0 1 1 (b_val A)
def b_is_number (A : Ad) : FS :=
  (sRet (eCB isiD (aCons (eVar 0) (aCons (eC (.cls "int")) aNil))))
def f_is_number (A : Ad) : FD := run0 1 1 (b_is_number A)
def b_value_key (A : Ad) : FS :=
  (sRet (eIf (tstV (eCall (f_is_number A) [] (aCons (eVar 0) aNil))) (eTup (aCons (eC (.int 0)) (aCons (eVar 0) (aCons (eC (.str "")) aNil)))) (eTup (aCons (eC (.int 1)) (aCons (eC (.int 0)) (aCons (eVar 0) aNil))))))
def f_value_key (A : Ad) : FD := run0 1 1 (b_value_key A)
def b_row_key (A : Ad) : FS :=
  (sRet (eCB tupD (aCons (eLc (iS (eVar 0)) (gN 1) (nxE tstYes) (nxE (eCall (f_value_key A) [] (aCons (eVar 1) aNil))) [1]) aNil)))
def f_row_key (A : Ad) : FD := run0 1 2 (b_row_key A)
def b_bound_key (A : Ad) : FS :=
  (sRet (eCB tupD (aCons (eLc (iS (eCB sortD (aCons (eVar 0) aNil))) (gN 1) (nxE tstYes) (nxE (eTup (aCons (eVar 1) (aCons (eCall (f_value_key A) [] (aCons (eOp ixD (eVar 0) (eVar 1)) aNil)) aNil)))) [1]) aNil)))
def f_bound_key (A : Ad) : FD := run0 1 2 (b_bound_key A)
def b_in_order (A : Ad) : FS :=
  (sRet (eCB tupD (aCons (eSortKey (f_row_key A) [] mkLst (eVar 0)) aNil)))
def f_in_order (A : Ad) : FD := run0 1 1 (b_in_order A)
def b_names_in (A : Ad) : FS :=
  (sSeq (sSet 1 eDnewM)
      (sSeq (sFor (iS (eVar 0)) (gN 2) (sIf (tstV (eMeth A.C_Term "is_variable" (f_Term_is_variable A) [] (eVar 2) aNil)) (sPut (eVar 1) (eFld "name" (eVar 2)) (eC (.bl true))) sNil))
      (sRet (eCB tupD (aCons (eVar 1) aNil)))))
def f_names_in (A : Ad) : FD := runB 1 3 (b_names_in A)
def b_filled (A : Ad) : FS :=
  (sRet (eCB tupD (aCons (eLc (iS (eVar 0)) (gN 2) (nxE tstYes) (eMeth A.C_Term "under" (f_Term_under A) [] (eVar 2) (aCons (eVar 1) aNil)) [2]) aNil)))
def f_filled (A : Ad) : FD := run0 2 3 (b_filled A)
def b_matched (A : Ad) : FS :=
  (sSeq (sIf (tstV (eOp neD (eCB lenD (aCons (eVar 0) aNil)) (eCB lenD (aCons (eVar 1) aNil)))) (sRet (eC .non)) sNil)
      (sSeq (sSet 3 (eCB dictM (aCons (eVar 2) aNil)))
      (sSeq (sFor (iZpM (aCons (eVar 0) (aCons (eVar 1) aNil))) (gT 2 (gsCons (gN 4) (gsCons (gN 5) gsNil))) (sIf (tstNot (tstV (eMeth A.C_Term "known" (f_Term_known A) [] (eVar 4) (aCons (eVar 3) aNil)))) (sPut (eVar 3) (eFld "name" (eVar 4)) (eVar 5)) (sIf (tstV (eOp neD (eMeth A.C_Term "under" (f_Term_under A) [] (eVar 4) (aCons (eVar 3) aNil)) (eVar 5))) (sRet (eC .non)) sNil)))
      (sRet (eUn frz (eVar 3))))))
def f_matched (A : Ad) : FD := runB 3 6 (b_matched A)
def b_pattern (A : Ad) : FS :=
  (sSeq (sSet 2 (eCB tupD (aCons (eLc (iEn (aCons (eVar 0) aNil)) (gT 2 (gsCons (gN 3) (gsCons (gN 4) gsNil))) (nxE (tstV (eMeth A.C_Term "known" (f_Term_known A) [] (eVar 4) (aCons (eVar 1) aNil)))) (nxE (eVar 3)) [3, 4]) aNil)))
      (sRet (eTup (aCons (eVar 2) (aCons (eCB tupD (aCons (eLc (iS (eVar 2)) (gN 3) (nxE tstYes) (nxE (eMeth A.C_Term "under" (f_Term_under A) [] (eOp ixD (eVar 0) (eVar 3)) (aCons (eVar 1) aNil))) [3]) aNil)) aNil)))))
def f_pattern (A : Ad) : FD := run0 2 5 (b_pattern A)
def b_shown_all (A : Ad) : FS :=
  (sRet (eCB tupD (aCons (eLc (iS (eVar 0)) (gN 1) (nxE tstYes) (nxE (eMeth A.C_Term "shown" (f_Term_shown A) [] (eVar 1) aNil)) [1]) aNil)))
def f_shown_all (A : Ad) : FD := run0 1 2 (b_shown_all A)
def b_renamed (A : Ad) : FS :=
  (sRet (eCB tupD (aCons (eLc (iS (eVar 0)) (gN 2) (nxE tstYes) (nxE (eIf (tstAnd (tstV (eMeth A.C_Term "is_variable" (f_Term_is_variable A) [] (eVar 2) aNil)) (tstV (eOp inD (eFld "name" (eVar 2)) (eVar 1)))) (eCall (f_var A) [] (aCons (eOp ixD (eVar 1) (eFld "name" (eVar 2))) aNil)) (eVar 2))) [2]) aNil)))
def f_renamed (A : Ad) : FD := run0 2 3 (b_renamed A)
def b_l_dice (A : Ad) : FS :=
  (sSeq (sIf (tstV (eChain (cmpD ltO) (cmpD ltO) (eOp subD (eC (.int 0)) (eC (.int 10))) (eVar 0) (eC (.int 10)))) (sRet (eLstM (aCons (eCB absD (aCons (eVar 0) aNil)) (aCons (eC (.int 0)) (aCons (eC (.int 2)) aNil))))) sNil)
      (sRet (eLstM (aCons (eVar 0) (aCons (eOp addD (eC (.int 1)) (eOp modD (eCB intD (aCons (eVar 0) aNil)) (eC (.int 1009)))) (aCons (eCB intD (aCons (eOp geI (eVar 0) (eOp powD (eC (.int 10)) (eC (.int 18)))) aNil)) aNil))))))
def f_l_dice (A : Ad) : FD := run0 1 1 (b_l_dice A)
def b_l_roll (A : Ad) : FS :=
  (sSeq (sIf (tstOr (tstV (eOp eqD (eOp ixD (eVar 0) (eC (.int 2))) (eC (.int 2)))) (tstAnd (tstV (eOp eqD (eOp ixD (eVar 0) (eC (.int 2))) (eC (.int 1)))) (tstV (eOp gtI (eOp ixD (eVar 0) (eC (.int 0))) (eC (.int 0)))))) (sSeq (sSet 2 (eOp modD (eCB intD (aCons (eOp ixD (eVar 0) (eC (.int 0))) aNil)) (eVar 1)))
      (sSeq (sPut (eVar 0) (eC (.int 0)) (eOp fdivD (eOp ixD (eVar 0) (eC (.int 0))) (eVar 1)))
      (sRet (eVar 2)))) sNil)
      (sSeq (sPut (eVar 0) (eC (.int 2)) (eC (.int 0)))
      (sSeq (sPut (eVar 0) (eC (.int 0)) (eOp modD (eCB intD (aCons (eOp addD (eOp addD (eOp mulD (eOp ixD (eVar 0) (eC (.int 0))) (eC (.int 48271))) (eOp mulD (eOp ixD (eVar 0) (eC (.int 1))) (eC (.int 69621)))) (eC (.int 11))) aNil)) (eC (.int 2147483647))))
      (sSeq (sPut (eVar 0) (eC (.int 1)) (eOp addD (eOp ixD (eVar 0) (eC (.int 1))) (eC (.int 1))))
      (sRet (eOp modD (eCB intD (aCons (eOp addD (eOp fdivD (eOp ixD (eVar 0) (eC (.int 0))) (eC (.int 7))) (eOp ixD (eVar 0) (eC (.int 0)))) aNil)) (eVar 1)))))))
def f_l_roll (A : Ad) : FD := run0 2 3 (b_l_roll A)
def b_l_rounds (A : Ad) : FS :=
  (sSeq (sSet 2 (eSl (eVar 0) pNo (pSome (eVar 1))))
      (sSeq (sIf (tstV (eOp eqD (eVar 2) (eLst aNil))) (sSet 2 (eLst (aCons (eC (.int 0)) aNil))) sNil)
      (sRet (eLcM (iS (eVar 2)) (gN 3) (nxE tstYes) (nxE (eCall (f_l_dice A) [] (aCons (eVar 3) aNil))) [3]))))
def f_l_rounds (A : Ad) : FD := run0 2 4 (b_l_rounds A)
def b_l_value (A : Ad) : FS :=
  (sRet (eOp ixD (eLst (aCons (eOp subD (eC (.int 0)) (eC (.int 3))) (aCons (eC (.int 0)) (aCons (eC (.int 1)) (aCons (eC (.int 2)) (aCons (eC (.str "a")) (aCons (eC (.str "b")) (aCons (eC (.str "it's")) (aCons (eC (.str "not")) (aCons (eC (.str "Up")) (aCons (eC (.str "x y")) aNil))))))))))) (eCall (f_l_roll A) [] (aCons (eVar 0) (aCons (eC (.int 10)) aNil)))))
def f_l_value (A : Ad) : FD := run0 1 1 (b_l_value A)
def b_l_term (A : Ad) : FS :=
  (sRet (eIf (tstV (eOp eqD (eCall (f_l_roll A) [] (aCons (eVar 0) (aCons (eC (.int 2)) aNil))) (eC (.int 0)))) (eTup (aCons (eC (.str "var")) (aCons (eOp ixD (eC (.str "XYZ")) (eCall (f_l_roll A) [] (aCons (eVar 0) (aCons (eC (.int 3)) aNil)))) aNil))) (eTup (aCons (eC (.str "val")) (aCons (eCall (f_l_value A) [] (aCons (eVar 0) aNil)) aNil)))))
def f_l_term (A : Ad) : FD := run0 1 1 (b_l_term A)
def b_l_make (A : Ad) : FS :=
  (sRet (eIf (tstV (eOp eqD (eOp ixD (eVar 0) (eC (.int 0))) (eC (.str "var")))) (eCall (f_var A) [] (aCons (eOp ixD (eVar 0) (eC (.int 1))) aNil)) (eCall (f_val A) [] (aCons (eOp ixD (eVar 0) (eC (.int 1))) aNil))))
def f_l_make (A : Ad) : FD := run0 1 1 (b_l_make A)
def b_l_less (A : Ad) : FS :=
  (sSeq (sIf (tstV (eOp neD (eCB isiD (aCons (eVar 0) (aCons (eC (.cls "int")) aNil))) (eCB isiD (aCons (eVar 1) (aCons (eC (.cls "int")) aNil))))) (sRet (eCB isiD (aCons (eVar 0) (aCons (eC (.cls "int")) aNil)))) sNil)
      (sRet (eOp (cmpD ltO) (eVar 0) (eVar 1))))
def f_l_less (A : Ad) : FD := run0 2 2 (b_l_less A)
def b_l_row_less (A : Ad) : FS :=
  (sSeq (sFor (iRg1 (aCons (eCB min2D (aCons (eCB lenD (aCons (eVar 0) aNil)) (aCons (eCB lenD (aCons (eVar 1) aNil)) aNil))) aNil)) (gN 2) (sIf (tstV (eOp neD (eOp ixD (eVar 0) (eVar 2)) (eOp ixD (eVar 1) (eVar 2)))) (sRet (eCall (f_l_less A) [] (aCons (eOp ixD (eVar 0) (eVar 2)) (aCons (eOp ixD (eVar 1) (eVar 2)) aNil)))) sNil))
      (sRet (eOp (cmpD ltO) (eCB lenD (aCons (eVar 0) aNil)) (eCB lenD (aCons (eVar 1) aNil)))))
def f_l_row_less (A : Ad) : FD := run0 2 3 (b_l_row_less A)
def b_l_cases1 (A : Ad) : FS :=
  (sSeq (sAsgT 2 (aCons (eLc (iS (eVar 1)) (gN 10) (nxE tstYes) (nxE (eCall (f_l_make A) [] (aCons (eVar 10) aNil))) [10]) (aCons (eLstM aNil) aNil)) (gsCons (gN 3) (gsCons (gN 4) gsNil)))
      (sSeq (sFor (iS (eVar 1)) (gT 2 (gsCons (gN 5) (gsCons (gN 6) gsNil))) (sIf (tstAnd (tstV (eOp eqD (eVar 5) (eC (.str "var")))) (tstV (eOp notInD (eVar 6) (eVar 4)))) (sExpr (eMt tyLst appM (eVar 4) (aCons (eVar 6) aNil))) sNil))
      (sSeq (sIf (tstOr (tstV (eOp neD (eCall (f_names_in A) [] (aCons (eVar 3) aNil)) (eCB tupD (aCons (eVar 4) aNil)))) (tstV (eOp neD (eCall (f_shown_all A) [] (aCons (eVar 3) aNil)) (eCB tupD (aCons (eVar 1) aNil))))) (sRet (eC (.bl false))) sNil)
      (sSeq (sSet 7 (eDisp [((eC (.str "X")), (eC (.str "Y"))), ((eC (.str "Y")), (eC (.str "X")))]))
      (sSeq (sIf (tstV (eOp neD (eCall (f_shown_all A) [] (aCons (eCall (f_renamed A) [] (aCons (eVar 3) (aCons (eVar 7) aNil))) aNil)) (eCB tupD (aCons (eLc (iS (eVar 1)) (gT 2 (gsCons (gN 5) (gsCons (gN 6) gsNil))) (nxE tstYes) (nxE (eTup (aCons (eVar 5) (aCons (eIf (tstV (eOp eqD (eVar 5) (eC (.str "var")))) (eMt tyDct getM (eVar 7) (aCons (eVar 6) (aCons (eVar 6) aNil))) (eVar 6)) aNil)))) [5, 6]) aNil)))) (sRet (eC (.bl false))) sNil)
      (sSeq (sSet 8 (eLc (iRg1 (aCons (eCB lenD (aCons (eVar 1) aNil)) aNil)) (gN 11) (nxE (tstOr (tstV (eOp eqD (eOp ixD (eOp ixD (eVar 1) (eVar 11)) (eC (.int 0))) (eC (.str "val")))) (tstV (eOp inD (eOp ixD (eOp ixD (eVar 1) (eVar 11)) (eC (.int 1))) (eVar 2))))) (nxE (eVar 11)) [11]))
      (sSeq (sSet 9 (eLc (iS (eVar 8)) (gN 11) (nxE tstYes) (nxE (eIf (tstV (eOp eqD (eOp ixD (eOp ixD (eVar 1) (eVar 11)) (eC (.int 0))) (eC (.str "val")))) (eOp ixD (eOp ixD (eVar 1) (eVar 11)) (eC (.int 1))) (eOp ixD (eVar 2) (eOp ixD (eOp ixD (eVar 1) (eVar 11)) (eC (.int 1)))))) [11]))
      (sSeq (sIf (tstV (eOp neD (eCall (f_pattern A) [] (aCons (eVar 3) (aCons (eVar 2) aNil))) (eTup (aCons (eCB tupD (aCons (eVar 8) aNil)) (aCons (eCB tupD (aCons (eVar 9) aNil)) aNil))))) (sRet (eC (.bl false))) sNil)
      (sRet (eOp eqD (eTold (tlF A) (eCall (f_filled A) [] (aCons (eVar 3) (aCons (eVar 2) aNil)))) (eIf (tstV (eOp eqD (eCB lenD (aCons (eVar 8) aNil)) (eCB lenD (aCons (eVar 1) aNil)))) (eCB tupD (aCons (eVar 9) aNil)) (eC (.str "no such")))))))))))))
def f_l_cases1 (A : Ad) : FD := runB 3 12 (b_l_cases1 A)
def b_law (A : Ad) : FS :=
  (sSeq (sFor (iS (eCall (f_l_rounds A) [] (aCons (eVar 0) (aCons (eC (.int 1)) aNil)))) (gN 1) (sSeq (sSet 2 (eLc (iRg1 (aCons (eCall (f_l_roll A) [] (aCons (eVar 1) (aCons (eC (.int 8)) aNil))) aNil)) (gN 10) (nxE tstYes) (nxE (eCB tupD (aCons (eLc (iRg1 (aCons (eCall (f_l_roll A) [] (aCons (eVar 1) (aCons (eC (.int 4)) aNil))) aNil)) (gN 15) (nxE tstYes) (nxE (eCall (f_l_value A) [] (aCons (eVar 1) aNil))) [15]) aNil))) [10]))
      (sSeq (sSet 3 (eCall (f_in_order A) [] (aCons (eVar 2) aNil)))
      (sSeq (sIf (tstV (eOp neD (eLc (iRg2 (aCons (eC (.int 1)) (aCons (eCB lenD (aCons (eVar 3) aNil)) aNil))) (gN 10) (nxE (tstV (eCall (f_l_row_less A) [] (aCons (eOp ixD (eVar 3) (eVar 10)) (aCons (eOp ixD (eVar 3) (eOp subD (eVar 10) (eC (.int 1)))) aNil))))) (nxE (eVar 10)) [10]) (eLst aNil))) (sRet (eC (.bl false))) sNil)
      (sSeq (sIf (tstV (eOp neD (eCB sortD (aCons (eLc (iS (eVar 2)) (gN 7) (nxE tstYes) (nxE (eCall (f_row_key A) [] (aCons (eVar 7) aNil))) [7]) aNil)) (eLc (iS (eVar 3)) (gN 7) (nxE tstYes) (nxE (eCall (f_row_key A) [] (aCons (eVar 7) aNil))) [7]))) (sRet (eC (.bl false))) sNil)
      (sSeq (sSet 4 (eLc (iRg1 (aCons (eCall (f_l_roll A) [] (aCons (eVar 1) (aCons (eC (.int 5)) aNil))) aNil)) (gN 10) (nxE tstYes) (nxE (eCall (f_l_term A) [] (aCons (eVar 1) aNil))) [10]))
      (sSeq (sSet 5 (eCB dictF (aCons (eLc (iS (eSl (eC (.str "XY")) pNo (pSome (eCall (f_l_roll A) [] (aCons (eVar 1) (aCons (eC (.int 3)) aNil)))))) (gN 16) (nxE tstYes) (nxE (eTup (aCons (eVar 16) (aCons (eCall (f_l_value A) [] (aCons (eVar 1) aNil)) aNil)))) [16]) aNil)))
      (sSeq (sIf (tstNot (tstV (eCall (f_l_cases1 A) [] (aCons (eVar 1) (aCons (eVar 4) (aCons (eVar 5) aNil)))))) (sRet (eC (.bl false))) sNil)
      (sSeq (sSet 6 (eLc (iS (eVar 4)) (gN 17) (nxE tstYes) (nxE (eCall (f_l_make A) [] (aCons (eVar 17) aNil))) [17]))
      (sFor (iS (eOp addD (eVar 2) (eLst (aCons (eCB tupD (aCons (eLc (iS (eVar 4)) (gT 2 (gsCons (gN 11) (gsCons (gN 12) gsNil))) (nxE tstYes) (nxE (eIf (tstV (eOp eqD (eVar 11) (eC (.str "val")))) (eVar 12) (eMt tyDct getM (eVar 5) (aCons (eVar 12) (aCons (eC (.int 1)) aNil))))) [11, 12]) aNil)) aNil)))) (gN 7) (sSeq (sAsgT 2 (aCons (eCB dictM (aCons (eVar 5) aNil)) (aCons (eOp eqD (eCB lenD (aCons (eVar 7) aNil)) (eCB lenD (aCons (eVar 4) aNil))) aNil)) (gsCons (gN 8) (gsCons (gN 9) gsNil)))
      (sSeq (sFor (iRg1 (aCons (eCB min2D (aCons (eCB lenD (aCons (eVar 7) aNil)) (aCons (eCB lenD (aCons (eVar 4) aNil)) aNil))) aNil)) (gN 10) (sSeq (sAsg (eOp ixD (eVar 4) (eVar 10)) (gT 2 (gsCons (gN 11) (gsCons (gN 12) gsNil))))
      (sSeq (sSet 13 (eIf (tstV (eOp eqD (eVar 11) (eC (.str "val")))) (eVar 12) (eMt tyDct setDfM (eVar 8) (aCons (eVar 12) (aCons (eOp ixD (eVar 7) (eVar 10)) aNil)))))
      (sSet 9 (eAndV (eVar 9) (eAndV (eOp eqD (eVar 13) (eOp ixD (eVar 7) (eVar 10))) (eOp eqD (eCB isiD (aCons (eVar 13) (aCons (eC (.cls "int")) aNil))) (eCB isiD (aCons (eOp ixD (eVar 7) (eVar 10)) (aCons (eC (.cls "int")) aNil))))))))))
      (sSeq (sSet 14 (eIf (tstV (eVar 9)) (eVar 8) (eC .non)))
      (sSeq (sSet 3 (eCall (f_matched A) [] (aCons (eVar 6) (aCons (eVar 7) (aCons (eVar 5) aNil)))))
      (sSeq (sIf (tstOr (tstV (eOp neX' (eVar 3) (eVar 14))) (tstOr (tstAnd (tstV (eOp notNoneD (eVar 14) (eC .non))) (tstV (eOp neD (eCall (f_bound_key A) [] (aCons (eVar 3) aNil)) (eCall (f_bound_key A) [] (aCons (eVar 14) aNil))))) (tstAnd (tstV (eOp eqD (eCall (f_filled A) [] (aCons (eVar 6) (aCons (eOrN (eVar 14) (eDisp [((eC (.str "X")), (eC (.int 0))), ((eC (.str "Y")), (eC (.int 0))), ((eC (.str "Z")), (eC (.int 0)))])) aNil))) (eTup aNil))) (tstV (eOp neD (eVar 4) (eLst aNil)))))) (sRet (eC (.bl false))) sNil)
      (sIf (tstAnd (tstV (eOp notNoneD (eVar 14) (eC .non))) (tstV (eOp neD (eCall (f_filled A) [] (aCons (eVar 6) (aCons (eVar 14) aNil))) (eVar 7)))) (sRet (eC (.bl false))) sNil))))))))))))))))
      (sRet (eC (.bl true))))
def f_law (A : Ad) : FD := runB 1 18 (b_law A)
end
section
variable {P : Program} {K : Fr} {TB : List (Addr × Str)} {mg : Str → Option Value} {base : Heap} {A : Ad}
theorem ok_Term_init (T : Txt K.K mg A) : FnOk P K.w K.K mg base (L2.CX P K.w) 1 A.f_Term_init A.d_Term_init ["self", "name", "value"] (spD K TB (f_Term_init A)) := by
  exact DL.FunD.ok0 T.F_Term_init sc_Term_init fun cdv ar outer s H E hr => ⟨_, (pss_cons (sfldK K.K (pv 0) (pv 1) rfl)
      (pss_one (sfldK K.K (pv 0) (pv 2) rfl))),
    (DL.s_seq (DL.s_fldset T.n_Term_name (DL.s_var 0) (DL.s_var 1))
      (DL.s_fldset T.n_Term_value (DL.s_var 0) (DL.s_var 2)))⟩
theorem ok_Term_is_variable (T : Txt K.K mg A) : FnOk P K.w K.K mg base (L2.CX P K.w) 1 A.f_Term_is_variable A.d_Term_is_variable ["self"] (spD K TB (f_Term_is_variable A)) := by
  exact DL.Fun.ok0 T.F_Term_is_variable sc_Term_is_variable fun cdv ar outer s H E hr => ⟨_, (pss_one (ps_ret (pe_cmpR (neA K.K hr.units) (fldK K.K (pv 0) rfl) pe_str (nomark _)))),
    (DL.s_ret (DL.s_op o_ne (DL.s_fld (DL.s_var 0)) (DL.s_str "")))⟩
theorem ok_Term_shown (T : Txt K.K mg A) : FnOk P K.w K.K mg base (L2.CX P K.w) 2 A.f_Term_shown A.d_Term_shown ["self"] (spD K TB (f_Term_shown A)) := by
  have G_Term_is_variable : FnOk P K.w K.K mg base (L2.CX P K.w) 1 A.f_Term_is_variable A.d_Term_is_variable ["self"] (spD K TB (f_Term_is_variable A)) := ok_Term_is_variable T
  exact DL.Fun.ok0 T.F_Term_shown sc_Term_shown fun cdv ar outer s H E hr => ⟨_, (pss_one (ps_ret (pe_ifExp (pt_val (pe_meth0 (pv 0) T.cl_Term T.e_Term_is_variable G_Term_is_variable (hr.mono (by decide)) T.b_Term_is_variable .nil (passes_call (takes_of rfl rfl rfl rfl) (fun _ _ _ _ h => h)))) (pe_tup (pa_cons pe_str (pa_cons (fldK K.K (pv 0) rfl) pa_nil))) (pe_tup (pa_cons pe_str (pa_cons (fldK K.K (pv 0) rfl) pa_nil)))))),
    (DL.s_ret (DL.s_if (DL.s_tstB (DL.s_meth dv_nil (DL.s_var 0) DL.s_anil)) (DL.s_tup (DL.s_acons (DL.s_str "var") (DL.s_acons (DL.s_fld (DL.s_var 0)) DL.s_anil))) (DL.s_tup (DL.s_acons (DL.s_str "val") (DL.s_acons (DL.s_fld (DL.s_var 0)) DL.s_anil)))))⟩
theorem ok_Term_under (T : Txt K.K mg A) : FnOk P K.w K.K mg base (L2.CX P K.w) 2 A.f_Term_under A.d_Term_under ["self", "bound"] (spD K TB (f_Term_under A)) := by
  have G_Term_is_variable : FnOk P K.w K.K mg base (L2.CX P K.w) 1 A.f_Term_is_variable A.d_Term_is_variable ["self"] (spD K TB (f_Term_is_variable A)) := ok_Term_is_variable T
  exact DL.Fun.ok0 T.F_Term_under sc_Term_under fun cdv ar outer s H E hr => ⟨_, (pss_cons (ps_if (pt_not (pt_val (pe_meth0 (pv 0) T.cl_Term T.e_Term_is_variable G_Term_is_variable (hr.mono (by decide)) T.b_Term_is_variable .nil (passes_call (takes_of rfl rfl rfl rfl) (fun _ _ _ _ h => h))))) (pss_one (ps_ret (fldK K.K (pv 0) rfl))) pss_nil)
      (pss_cons (ps_if (pt_cmpR (notInA K.K K.w (room65 hr)) (fldK K.K (pv 0) rfl) (pv 1) (by rfl)) (pss_one (ps_raise rfl (takes_of rfl rfl rfl rfl) (SkE.pmk_own1 PySem.F.excBase_ValueError T.x_NoSuch T.q_NoSuch T.k_NoSuch (raises_own T.sb_NoSuch T.ty_NoSuch) rfl (pe_joined (PJ.cons pe_str (PJ.cons (pe_fmt (fldK K.K (pv 0) rfl)) PJ.nil)))))) pss_nil)
      (pss_one (ps_ret (pe_ix (ixA K.K K.w (room16 hr)) (pv 1) (fldK K.K (pv 0) rfl) (fun _ _ => rfl)))))),
    (DL.s_seq (DL.s_ifS (DL.s_not (DL.s_tstB (DL.s_meth dv_nil (DL.s_var 0) DL.s_anil))) (DL.s_ret (DL.s_fld (DL.s_var 0))) DL.s_nil)
      (DL.s_seq (DL.s_ifS (DL.s_tst (DL.s_op o_notIn (DL.s_fld (DL.s_var 0)) (DL.s_var 1))) (DL.s_raise (DL.s_join (.cons (DL.s_str "not bound: ") (.cons (DL.s_fmt (DL.s_fld (DL.s_var 0))) .nil)))) DL.s_nil)
      (DL.s_ret (DL.s_op o_ix (DL.s_var 1) (DL.s_fld (DL.s_var 0))))))⟩
theorem ok_Term_known (T : Txt K.K mg A) : FnOk P K.w K.K mg base (L2.CX P K.w) 2 A.f_Term_known A.d_Term_known ["self", "bound"] (spD K TB (f_Term_known A)) := by
  have G_Term_is_variable : FnOk P K.w K.K mg base (L2.CX P K.w) 1 A.f_Term_is_variable A.d_Term_is_variable ["self"] (spD K TB (f_Term_is_variable A)) := ok_Term_is_variable T
  exact DL.Fun.ok0 T.F_Term_known sc_Term_known fun cdv ar outer s H E hr => ⟨_, (pss_one (ps_ret (pe_or (pe_not (pe_meth0 (pv 0) T.cl_Term T.e_Term_is_variable G_Term_is_variable (hr.mono (by decide)) T.b_Term_is_variable .nil (passes_call (takes_of rfl rfl rfl rfl) (fun _ _ _ _ h => h)))) (pe_one (pe_cmpR (inA K.K K.w (room65 hr)) (fldK K.K (pv 0) rfl) (pv 1) (by rfl)))))),
    (DL.s_ret (DL.s_orV (DL.s_notV (DL.s_meth dv_nil (DL.s_var 0) DL.s_anil)) (DL.s_op o_in (DL.s_fld (DL.s_var 0)) (DL.s_var 1))))⟩
theorem ok_var (T : Txt K.K mg A) : FnOk P K.w K.K mg base (L2.CX P K.w) 3 A.f_var A.d_var ["name"] (spD K TB (f_var A)) := by
  have G_Term_init : FnOk P K.w K.K mg base (L2.CX P K.w) 1 A.f_Term_init A.d_Term_init ["self", "name", "value"] (spD K TB (f_Term_init A)) := ok_Term_init T
  obtain ⟨_, hv_Term_init, hb_Term_init⟩ := T.bd_Term_init
  exact DL.Fun.ok0 T.F_var sc_var fun cdv ar outer s H E hr => ⟨_, (pss_one (ps_ret (pe_make T.M_Term G_Term_init (hr.mono (by decide)) (by rfl) T.m_Term hb_Term_init hv_Term_init (passes_call (takes_of rfl rfl rfl rfl) (fun _ _ _ _ h => h)) (pa_cons (pv 0) pa_nil)))),
    (DL.s_ret (DL.s_make T.cl_Term (fun _ _ => (.cons (.d .non) .nil)) (DL.s_acons (DL.s_var 0) DL.s_anil)))⟩
theorem ok_val (T : Txt K.K mg A) : FnOk P K.w K.K mg base (L2.CX P K.w) 3 A.f_val A.d_val ["value"] (spD K TB (f_val A)) := by
  have G_Term_init : FnOk P K.w K.K mg base (L2.CX P K.w) 1 A.f_Term_init A.d_Term_init ["self", "name", "value"] (spD K TB (f_Term_init A)) := ok_Term_init T
  obtain ⟨_, hv_Term_init, hb_Term_init⟩ := T.bd_Term_init
  exact DL.Fun.ok0 T.F_val sc_val fun cdv ar outer s H E hr => ⟨_, (pss_one (ps_ret (pe_make T.M_Term G_Term_init (hr.mono (by decide)) (by rfl) T.m_Term T.b_Term_init .nil (passes_call (takes_of rfl rfl rfl rfl) (fun _ _ _ _ h => h)) (pa_cons pe_str (pa_cons (pv 0) pa_nil))))),
    (DL.s_ret (DL.s_make T.cl_Term dv_nil (DL.s_acons (DL.s_str "") (DL.s_acons (DL.s_var 0) DL.s_anil))))⟩
theorem ok_is_number (T : Txt K.K mg A) : FnOk P K.w K.K mg base (L2.CX P K.w) 1 A.f_is_number A.d_is_number ["value"] (spD K TB (f_is_number A)) := by
  exact DL.Fun.ok0 T.F_is_number sc_is_number fun cdv ar outer s H E hr => ⟨_, (pss_one (ps_ret (pe_callB (isiK K.K) (by rfl) T.z_isinstance (by decide +kernel) (pa_cons (pv 0) (pa_cons (pe_bltn (v := .ty "int") (by rfl) T.z_int (by decide +kernel) rfl) pa_nil))))),
    (DL.s_ret (DL.s_cb o_isi (DL.s_acons (DL.s_var 0) (DL.s_acons (DL.s_c fun _ => .cls "int") DL.s_anil))))⟩
theorem ok_value_key (T : Txt K.K mg A) : FnOk P K.w K.K mg base (L2.CX P K.w) 2 A.f_value_key A.d_value_key ["value"] (spD K TB (f_value_key A)) := by
  have G_is_number : FnOk P K.w K.K mg base (L2.CX P K.w) 1 A.f_is_number A.d_is_number ["value"] (spD K TB (f_is_number A)) := ok_is_number T
  exact DL.Fun.ok0 T.F_value_key sc_value_key fun cdv ar outer s H E hr => ⟨_, (pss_one (ps_ret (pe_ifExp (pt_val (pe_call G_is_number (hr.mono (by decide)) (by rfl) T.m_is_number T.F_is_number.kp T.b_is_number .nil (passes_call (takes_of rfl rfl rfl rfl) (fun _ _ _ _ h => h)) (pa_cons (pv 0) pa_nil))) (pe_tup (pa_cons pe_int (pa_cons (pv 0) (pa_cons pe_str pa_nil)))) (pe_tup (pa_cons pe_int (pa_cons pe_int (pa_cons (pv 0) pa_nil))))))),
    (DL.s_ret (DL.s_if (DL.s_tstB (DL.s_call dv_nil (DL.s_acons (DL.s_var 0) DL.s_anil))) (DL.s_tup (DL.s_acons (DL.s_int 0) (DL.s_acons (DL.s_var 0) (DL.s_acons (DL.s_str "") DL.s_anil)))) (DL.s_tup (DL.s_acons (DL.s_int 1) (DL.s_acons (DL.s_int 0) (DL.s_acons (DL.s_var 0) DL.s_anil))))))⟩
theorem ok_row_key (T : Txt K.K mg A) : FnOk P K.w K.K mg base (L2.CX P K.w) 3 A.f_row_key A.d_row_key ["row"] (spD K TB (f_row_key A)) := by
  have G_value_key : FnOk P K.w K.K mg base (L2.CX P K.w) 2 A.f_value_key A.d_value_key ["value"] (spD K TB (f_value_key A)) := ok_value_key T
  exact DL.Fun.ok0 T.F_row_key sc_row_key fun cdv ar outer s H E hr => ⟨_, (pss_one (ps_ret (pe_callTy (tupA K.K K.w) (by rfl) T.z_tuple (by decide +kernel) (pa_cons (pe_lc (own := [("value", 1)]) (by rfl) sc_row_key.nd (pi_seq K.K (pv 0)) (blkOk_by (own := [("value", 1)]) (N := N_row_key) (sc := defScope s_row_key) (by decide +kernel)) (fun _ _ _ _ _ => (pg_name (i := 1) sc_row_key.nd rfl (Or.inl rfl))) (fun _ _ _ _ _ => pts_nil) (fun _ _ _ _ _ => (pe_call G_value_key (hr.mono (by decide)) (by rfl) T.m_value_key T.F_value_key.kp T.b_value_key .nil passL (pa_cons (pv 1) pa_nil)))) pa_nil)))),
    (DL.s_ret (DL.s_cb o_tup (DL.s_acons (DL.s_lc (vs := [1]) (DL.s_iS (DL.s_var 0)) (g_name 1 (by decide)) (DL.s_nx (E' := L2.E0) DL.s_yes) (DL.s_nx (E' := L2.E0) (DL.s_call dv_nil (DL.s_acons (DL.s_var 1) DL.s_anil)))) DL.s_anil)))⟩
theorem ok_bound_key (T : Txt K.K mg A) : FnOk P K.w K.K mg base (L2.CX P K.w) 3 A.f_bound_key A.d_bound_key ["bound"] (spD K TB (f_bound_key A)) := by
  have G_value_key : FnOk P K.w K.K mg base (L2.CX P K.w) 2 A.f_value_key A.d_value_key ["value"] (spD K TB (f_value_key A)) := ok_value_key T
  exact DL.Fun.ok0 T.F_bound_key sc_bound_key fun cdv ar outer s H E hr => ⟨_, (pss_one (ps_ret (pe_callTy (tupA K.K K.w) (by rfl) T.z_tuple (by decide +kernel) (pa_cons (pe_lc (own := [("name", 1)]) (by rfl) sc_bound_key.nd (pi_seq K.K (pe_callB (sortA K.K K.w hr.units) (by rfl) T.z_sorted (by decide +kernel) (pa_cons (pv 0) pa_nil))) (blkOk_by (own := [("name", 1)]) (N := N_bound_key) (sc := defScope s_bound_key) (by decide +kernel)) (fun _ _ _ _ _ => (pg_name (i := 1) sc_bound_key.nd rfl (Or.inl rfl))) (fun _ _ _ _ _ => pts_nil) (fun _ _ _ _ _ => (pe_tup (pa_cons (pv 1) (pa_cons (pe_call G_value_key (hr.mono (by decide)) (by rfl) T.m_value_key T.F_value_key.kp T.b_value_key .nil passL (pa_cons (pe_ix (ixA K.K K.w (room16 hr)) (pv 0) (pv 1) (fun _ _ => rfl)) pa_nil)) pa_nil))))) pa_nil)))),
    (DL.s_ret (DL.s_cb o_tup (DL.s_acons (DL.s_lc (vs := [1]) (DL.s_iS (DL.s_cb o_sort (DL.s_acons (DL.s_var 0) DL.s_anil))) (g_name 1 (by decide)) (DL.s_nx (E' := L2.E0) DL.s_yes) (DL.s_nx (E' := L2.E0) (DL.s_tup (DL.s_acons (DL.s_var 1) (DL.s_acons (DL.s_call dv_nil (DL.s_acons (DL.s_op o_ix (DL.s_var 0) (DL.s_var 1)) DL.s_anil)) DL.s_anil))))) DL.s_anil)))⟩
theorem ok_in_order (T : Txt K.K mg A) : FnOk P K.w K.K mg base (L2.CX P K.w) 6 A.f_in_order A.d_in_order ["rows"] (spD K TB (f_in_order A)) := by
  have G_row_key : FnOk P K.w K.K mg base (L2.CX P K.w) 3 A.f_row_key A.d_row_key ["row"] (spD K TB (f_row_key A)) := ok_row_key T
  exact DL.Fun.ok0 T.F_in_order sc_in_order fun cdv ar outer s H E hr => ⟨_, (pss_one (ps_ret (pe_callTy (tupA K.K K.w) (by rfl) T.z_tuple (by decide +kernel) (pa_cons (pe_callBK (sortKey K.K K.w G_row_key (hr.mono (by decide)) T.b_row_key .nil) (by rfl) T.z_sorted (by decide +kernel) (pa_cons (pv 0) pa_nil) (pk_cons (pe_glob (v := .ref A.f_row_key) rfl T.m_row_key rfl) pk_nil)) pa_nil)))),
    (DL.s_ret (DL.s_cb o_tup (DL.s_acons (DL.s_sortKey dv_nil (DL.s_var 0)) DL.s_anil)))⟩
theorem ok_names_in (T : Txt K.K mg A) : FnOk P K.w K.K mg base (L2.CX P K.w) 2 A.f_names_in A.d_names_in ["terms"] (spD K TB (f_names_in A)) := by
  have G_Term_is_variable : FnOk P K.w K.K mg base (L2.CX P K.w) 1 A.f_Term_is_variable A.d_Term_is_variable ["self"] (spD K TB (f_Term_is_variable A)) := ok_Term_is_variable T
  exact DL.Fun.okB T.F_names_in sc_names_in fun cdv ar outer s H E hr => ⟨_, (pss_cons (ps_set (i := 1) sc_names_in.nd rfl (Or.inl rfl) pe_dnewK)
      (pss_cons (ps_for (passes_of rfl) rfl (pi_seq K.K (pv 0)) (pg_name (i := 2) sc_names_in.nd rfl (Or.inl rfl)) (pss_one (ps_if (pt_val (pe_meth0 (pv 2) T.cl_Term T.e_Term_is_variable G_Term_is_variable (hr.mono (by decide)) T.b_Term_is_variable .nil (passes_call (takes_of rfl rfl rfl rfl) (fun _ _ _ _ h => h)))) (pss_one (ps_asg pe_bl (pg_sub (pv 1) (fldK K.K (pv 2) rfl) (setA K.w (room16 hr))))) pss_nil)))
      (pss_one (ps_ret (pe_callTy (tupA K.K K.w) (by rfl) T.z_tuple (by decide +kernel) (pa_cons (pv 1) pa_nil)))))),
    (DL.s_seq (DL.s_set 1 DL.s_dnewM)
      (DL.s_seq (DL.s_for (vs := [2]) (DL.s_iS (DL.s_var 0)) (g_name 2 (by decide)) (DL.s_ifS (DL.s_tstB (DL.s_meth dv_nil (DL.s_var 2) DL.s_anil)) (DL.s_put (DL.s_bl true) (DL.s_var 1) (DL.s_fld (DL.s_var 2))) DL.s_nil))
      (DL.s_ret (DL.s_cb o_tup (DL.s_acons (DL.s_var 1) DL.s_anil)))))⟩
theorem ok_filled (T : Txt K.K mg A) : FnOk P K.w K.K mg base (L2.CX P K.w) 3 A.f_filled A.d_filled ["terms", "bound"] (spD K TB (f_filled A)) := by
  have G_Term_under : FnOk P K.w K.K mg base (L2.CX P K.w) 2 A.f_Term_under A.d_Term_under ["self", "bound"] (spD K TB (f_Term_under A)) := ok_Term_under T
  exact DL.Fun.ok0 T.F_filled sc_filled fun cdv ar outer s H E hr => ⟨_, (pss_one (ps_ret (pe_callTy (tupA K.K K.w) (by rfl) T.z_tuple (by decide +kernel) (pa_cons (LX.pe_lcx (own := [("term", 2)]) rfl rfl (takes_of rfl rfl rfl rfl) (by rfl) sc_filled.nd (pi_seq K.K (pv 0)) (blkOk_by (own := [("term", 2)]) (N := N_filled) (sc := defScope s_filled) (by decide +kernel)) (fun _ _ _ _ _ => (pg_name (i := 2) sc_filled.nd rfl (Or.inl rfl))) (fun _ _ _ _ _ => pts_nil) (fun _ _ _ _ _ _ hx => (pe_meth (pv 2) T.cl_Term T.e_Term_under G_Term_under (hr.mono (by decide)) T.b_Term_under .nil hx (pa_cons (pv 1) pa_nil)))) pa_nil)))),
    (DL.s_ret (DL.s_cb o_tup (DL.s_acons (DL.s_lc (vs := [2]) (DL.s_iS (DL.s_var 0)) (g_name 2 (by decide)) (DL.s_nx (E' := L2.E0) DL.s_yes) (DL.s_meth dv_nil (DL.s_var 2) (DL.s_acons (DL.s_var 1) DL.s_anil))) DL.s_anil)))⟩
theorem ok_matched (T : Txt K.K mg A) : FnOk P K.w K.K mg base (L2.CX P K.w) 3 A.f_matched A.d_matched ["terms", "row", "bound"] (spD K TB (f_matched A)) := by
  have G_Term_known : FnOk P K.w K.K mg base (L2.CX P K.w) 2 A.f_Term_known A.d_Term_known ["self", "bound"] (spD K TB (f_Term_known A)) := ok_Term_known T
  have G_Term_under : FnOk P K.w K.K mg base (L2.CX P K.w) 2 A.f_Term_under A.d_Term_under ["self", "bound"] (spD K TB (f_Term_under A)) := ok_Term_under T
  exact DL.Fun.okB T.F_matched sc_matched fun cdv ar outer s H E hr => ⟨_, (pss_cons (ps_if (pt_cmpR (neA K.K hr.units) (pe_callB (lenA K.K K.w) (by rfl) T.z_len (by decide +kernel) (pa_cons (pv 0) pa_nil)) (pe_callB (lenA K.K K.w) (by rfl) T.z_len (by decide +kernel) (pa_cons (pv 1) pa_nil)) (nomark _)) (pss_one (ps_ret pe_non)) pss_nil)
      (pss_cons (ps_set (i := 3) sc_matched.nd rfl (Or.inl rfl) (pe_callTy (dictA K.K) (by rfl) T.z_dict (by decide +kernel) (pa_cons (pv 2) pa_nil)))
      (pss_cons (ps_for (passes_of rfl) rfl (DZ.zipB K.K (by rfl) T.z_zip (pa_cons (pv 0) (pa_cons (pv 1) pa_nil))) (tupK K.K (n := 2) rfl (pgs_cons (pg_name (i := 4) sc_matched.nd rfl (Or.inl rfl)) (pgs_cons (pg_name (i := 5) sc_matched.nd rfl (Or.inl rfl)) pgs_nil))) (pss_one (ps_if (pt_not (pt_val (pe_meth (pv 4) T.cl_Term T.e_Term_known G_Term_known (hr.mono (by decide)) T.b_Term_known .nil (passes_call (takes_of rfl rfl rfl rfl) (fun _ _ _ _ h => h)) (pa_cons (pv 3) pa_nil)))) (pss_one (ps_asg (pv 5) (pg_sub (pv 3) (fldK K.K (pv 4) rfl) (setA K.w (room16 hr))))) (pss_one (ps_if (pt_cmpR (neA K.K hr.units) (pe_meth (pv 4) T.cl_Term T.e_Term_under G_Term_under (hr.mono (by decide)) T.b_Term_under .nil (passes_call (takes_of rfl rfl rfl rfl) (fun _ _ _ _ h => h)) (pa_cons (pv 3) pa_nil)) (pv 5) (nomark _)) (pss_one (ps_ret pe_non)) pss_nil)))))
      (pss_one (ps_ret (pv 3)))))),
    (DL.s_seq (DL.s_ifS (DL.s_tst (DL.s_op o_ne (DL.s_cb o_len (DL.s_acons (DL.s_var 0) DL.s_anil)) (DL.s_cb o_len (DL.s_acons (DL.s_var 1) DL.s_anil)))) (DL.s_ret DL.s_non) DL.s_nil)
      (DL.s_seq (DL.s_set 3 (DL.s_cb o_dictM (DL.s_acons (DL.s_var 2) DL.s_anil)))
      (DL.s_seq (DL.s_for (vs := [4, 5]) (DL.s_iZpM (DL.s_acons (DL.s_var 0) (DL.s_acons (DL.s_var 1) DL.s_anil))) (g_tup (gs_cons (g_name 4 (by decide)) (gs_cons (g_name 5 (by decide)) gs_nil))) (DL.s_ifS (DL.s_not (DL.s_tstB (DL.s_meth dv_nil (DL.s_var 4) (DL.s_acons (DL.s_var 3) DL.s_anil)))) (DL.s_put (DL.s_var 5) (DL.s_var 3) (DL.s_fld (DL.s_var 4))) (DL.s_ifS (DL.s_tst (DL.s_op o_ne (DL.s_meth dv_nil (DL.s_var 4) (DL.s_acons (DL.s_var 3) DL.s_anil)) (DL.s_var 5))) (DL.s_ret DL.s_non) DL.s_nil)))
      (DL.s_ret (DL.s_frz (DL.s_var 3))))))⟩
theorem ok_pattern (T : Txt K.K mg A) : FnOk P K.w K.K mg base (L2.CX P K.w) 3 A.f_pattern A.d_pattern ["terms", "bound"] (spD K TB (f_pattern A)) := by
  have G_Term_known : FnOk P K.w K.K mg base (L2.CX P K.w) 2 A.f_Term_known A.d_Term_known ["self", "bound"] (spD K TB (f_Term_known A)) := ok_Term_known T
  have G_Term_under : FnOk P K.w K.K mg base (L2.CX P K.w) 2 A.f_Term_under A.d_Term_under ["self", "bound"] (spD K TB (f_Term_under A)) := ok_Term_under T
  exact DL.Fun.ok0 T.F_pattern sc_pattern fun cdv ar outer s H E hr => ⟨_, (pss_cons (ps_set (i := 2) sc_pattern.nd rfl (Or.inl rfl) (pe_callTy (tupA K.K K.w) (by rfl) T.z_tuple (by decide +kernel) (pa_cons (pe_lc (own := [("place", 3), ("term", 4)]) (by rfl) sc_pattern.nd (PI.alt (enumK K.K (by rfl) T.z_enumerate (pa_cons (pv 0) pa_nil)) (enumTK K.K (by rfl) T.z_enumerate (pa_cons (pv 0) pa_nil))) (blkOk_by (own := [("place", 3), ("term", 4)]) (N := N_pattern) (sc := defScope s_pattern) (by decide +kernel)) (fun _ _ _ _ _ => (tupK K.K (n := 2) rfl (pgs_cons (pg_name (i := 3) sc_pattern.nd rfl (Or.inl rfl)) (pgs_cons (pg_name (i := 4) sc_pattern.nd rfl (Or.inl rfl)) pgs_nil)))) (fun _ _ _ _ _ => (pts_one (pt_val (pe_meth (pv 4) T.cl_Term T.e_Term_known G_Term_known (hr.mono (by decide)) T.b_Term_known .nil passL (pa_cons (pv 1) pa_nil))))) (fun _ _ _ _ _ => (pv 3))) pa_nil)))
      (pss_one (ps_ret (pe_tup (pa_cons (pv 2) (pa_cons (pe_callTy (tupA K.K K.w) (by rfl) T.z_tuple (by decide +kernel) (pa_cons (pe_lc (own := [("place", 3)]) (by rfl) sc_pattern.nd (pi_seq K.K (pv 2)) (blkOk_by (own := [("place", 3)]) (N := N_pattern) (sc := defScope s_pattern) (by decide +kernel)) (fun _ _ _ _ _ => (pg_name (i := 3) sc_pattern.nd rfl (Or.inl rfl))) (fun _ _ _ _ _ => pts_nil) (fun _ _ _ _ _ => (pe_meth (pe_ix (ixA K.K K.w (room16 hr)) (pv 0) (pv 3) (fun _ _ => rfl)) T.cl_Term T.e_Term_under G_Term_under (hr.mono (by decide)) T.b_Term_under .nil passL (pa_cons (pv 1) pa_nil)))) pa_nil)) pa_nil)))))),
    (DL.s_seq (DL.s_set 2 (DL.s_cb o_tup (DL.s_acons (DL.s_lc (vs := [3, 4]) (DL.s_iEn (DL.s_acons (DL.s_var 0) DL.s_anil)) (g_tup (gs_cons (g_name 3 (by decide)) (gs_cons (g_name 4 (by decide)) gs_nil))) (DL.s_nx (E' := L2.E0) (DL.s_tstB (DL.s_meth dv_nil (DL.s_var 4) (DL.s_acons (DL.s_var 1) DL.s_anil)))) (DL.s_nx (E' := L2.E0) (DL.s_var 3))) DL.s_anil)))
      (DL.s_ret (DL.s_tup (DL.s_acons (DL.s_var 2) (DL.s_acons (DL.s_cb o_tup (DL.s_acons (DL.s_lc (vs := [3]) (DL.s_iS (DL.s_var 2)) (g_name 3 (by decide)) (DL.s_nx (E' := L2.E0) DL.s_yes) (DL.s_nx (E' := L2.E0) (DL.s_meth dv_nil (DL.s_op o_ix (DL.s_var 0) (DL.s_var 3)) (DL.s_acons (DL.s_var 1) DL.s_anil)))) DL.s_anil)) DL.s_anil)))))⟩
theorem ok_shown_all (T : Txt K.K mg A) : FnOk P K.w K.K mg base (L2.CX P K.w) 3 A.f_shown_all A.d_shown_all ["terms"] (spD K TB (f_shown_all A)) := by
  have G_Term_shown : FnOk P K.w K.K mg base (L2.CX P K.w) 2 A.f_Term_shown A.d_Term_shown ["self"] (spD K TB (f_Term_shown A)) := ok_Term_shown T
  exact DL.Fun.ok0 T.F_shown_all sc_shown_all fun cdv ar outer s H E hr => ⟨_, (pss_one (ps_ret (pe_callTy (tupA K.K K.w) (by rfl) T.z_tuple (by decide +kernel) (pa_cons (pe_lc (own := [("term", 1)]) (by rfl) sc_shown_all.nd (pi_seq K.K (pv 0)) (blkOk_by (own := [("term", 1)]) (N := N_shown_all) (sc := defScope s_shown_all) (by decide +kernel)) (fun _ _ _ _ _ => (pg_name (i := 1) sc_shown_all.nd rfl (Or.inl rfl))) (fun _ _ _ _ _ => pts_nil) (fun _ _ _ _ _ => (pe_meth0 (pv 1) T.cl_Term T.e_Term_shown G_Term_shown (hr.mono (by decide)) T.b_Term_shown .nil passL))) pa_nil)))),
    (DL.s_ret (DL.s_cb o_tup (DL.s_acons (DL.s_lc (vs := [1]) (DL.s_iS (DL.s_var 0)) (g_name 1 (by decide)) (DL.s_nx (E' := L2.E0) DL.s_yes) (DL.s_nx (E' := L2.E0) (DL.s_meth dv_nil (DL.s_var 1) DL.s_anil))) DL.s_anil)))⟩
theorem ok_renamed (T : Txt K.K mg A) : FnOk P K.w K.K mg base (L2.CX P K.w) 4 A.f_renamed A.d_renamed ["terms", "names"] (spD K TB (f_renamed A)) := by
  have G_Term_is_variable : FnOk P K.w K.K mg base (L2.CX P K.w) 1 A.f_Term_is_variable A.d_Term_is_variable ["self"] (spD K TB (f_Term_is_variable A)) := ok_Term_is_variable T
  have G_var : FnOk P K.w K.K mg base (L2.CX P K.w) 3 A.f_var A.d_var ["name"] (spD K TB (f_var A)) := ok_var T
  exact DL.Fun.ok0 T.F_renamed sc_renamed fun cdv ar outer s H E hr => ⟨_, (pss_one (ps_ret (pe_callTy (tupA K.K K.w) (by rfl) T.z_tuple (by decide +kernel) (pa_cons (pe_lc (own := [("term", 2)]) (by rfl) sc_renamed.nd (pi_seq K.K (pv 0)) (blkOk_by (own := [("term", 2)]) (N := N_renamed) (sc := defScope s_renamed) (by decide +kernel)) (fun _ _ _ _ _ => (pg_name (i := 2) sc_renamed.nd rfl (Or.inl rfl))) (fun _ _ _ _ _ => pts_nil) (fun _ _ _ _ _ => (pe_ifExp (PW.pt (pw_and (pt_val (pe_meth0 (pv 2) T.cl_Term T.e_Term_is_variable G_Term_is_variable (hr.mono (by decide)) T.b_Term_is_variable .nil passL)) (pw_and1 (pt_cmpR (inA K.K K.w (room65 hr)) (fldK K.K (pv 2) rfl) (pv 1) (by rfl))))) (pe_call G_var (hr.mono (by decide)) (by rfl) T.m_var T.F_var.kp T.b_var .nil passL (pa_cons (pe_ix (ixA K.K K.w (room16 hr)) (pv 1) (fldK K.K (pv 2) rfl) (fun _ _ => rfl)) pa_nil)) (pv 2)))) pa_nil)))),
    (DL.s_ret (DL.s_cb o_tup (DL.s_acons (DL.s_lc (vs := [2]) (DL.s_iS (DL.s_var 0)) (g_name 2 (by decide)) (DL.s_nx (E' := L2.E0) DL.s_yes) (DL.s_nx (E' := L2.E0) (DL.s_if (DL.s_and (DL.s_tstB (DL.s_meth dv_nil (DL.s_var 2) DL.s_anil)) (DL.s_tst (DL.s_op o_in (DL.s_fld (DL.s_var 2)) (DL.s_var 1)))) (DL.s_call dv_nil (DL.s_acons (DL.s_op o_ix (DL.s_var 1) (DL.s_fld (DL.s_var 2))) DL.s_anil)) (DL.s_var 2)))) DL.s_anil)))⟩
theorem ok_l_dice (T : Txt K.K mg A) : FnOk P K.w K.K mg base (L2.CX P K.w) 1 A.f_l_dice A.d_l_dice ["cell"] (spD K TB (f_l_dice A)) := by
  exact DL.Fun.ok0 T.F_l_dice sc_l_dice fun cdv ar outer s H E hr => ⟨_, (pss_cons (ps_if (pt_chain (ltA K.K hr.units) (ltA K.K hr.units) (pe_op op_sub pe_int pe_int) (pv 0) pe_int) (pss_one (ps_ret (pe_lst (pa_cons (pe_callB absK (by rfl) T.z_abs (by decide +kernel) (pa_cons (pv 0) pa_nil)) (pa_cons pe_int (pa_cons pe_int pa_nil)))))) pss_nil)
      (pss_one (ps_ret (pe_lst (pa_cons (pv 0) (pa_cons (pe_op (addA K.K) pe_int (pe_op op_mod (pe_callTy int1K (by rfl) T.z_int (by decide +kernel) (pa_cons (pv 0) pa_nil)) pe_int)) (pa_cons (pe_callTy int1K (by rfl) T.z_int (by decide +kernel) (pa_cons (pe_cmpR op_ge (pv 0) (pe_op op_pow pe_int pe_int) (nomark _)) pa_nil)) pa_nil))))))),
    (DL.s_seq (DL.s_ifS (DL.s_tst (DL.s_chain o_lt o_lt (DL.s_op o_sub (DL.s_int 0) (DL.s_int 10)) (DL.s_var 0) (DL.s_int 10))) (DL.s_ret (DL.s_lstM (DL.s_acons (DL.s_cb o_abs (DL.s_acons (DL.s_var 0) DL.s_anil)) (DL.s_acons (DL.s_int 0) (DL.s_acons (DL.s_int 2) DL.s_anil))))) DL.s_nil)
      (DL.s_ret (DL.s_lstM (DL.s_acons (DL.s_var 0) (DL.s_acons (DL.s_op o_add (DL.s_int 1) (DL.s_op o_mod (DL.s_cb o_int (DL.s_acons (DL.s_var 0) DL.s_anil)) (DL.s_int 1009))) (DL.s_acons (DL.s_cb o_int (DL.s_acons (DL.s_op o_geI (DL.s_var 0) (DL.s_op o_pow (DL.s_int 10) (DL.s_int 18))) DL.s_anil)) DL.s_anil))))))⟩
theorem ok_l_roll (T : Txt K.K mg A) : FnOk P K.w K.K mg base (L2.CX P K.w) 1 A.f_l_roll A.d_l_roll ["dice", "many"] (spD K TB (f_l_roll A)) := by
  exact DL.Fun.ok0 T.F_l_roll sc_l_roll fun cdv ar outer s H E hr => ⟨_, (pss_cons (ps_if (PW.pt (pw_or (pt_cmpR (eqA K.K hr.units) (pe_ix (ixA K.K K.w (room16 hr)) (pv 0) pe_int (fun _ _ => rfl)) pe_int (nomark _)) (pw_or1 (PW.pt (pw_and (pt_cmpR (eqA K.K hr.units) (pe_ix (ixA K.K K.w (room16 hr)) (pv 0) pe_int (fun _ _ => rfl)) pe_int (nomark _)) (pw_and1 (pt_cmpR op_gt (pe_ix (ixA K.K K.w (room16 hr)) (pv 0) pe_int (fun _ _ => rfl)) pe_int (nomark _)))))))) (pss_cons (ps_set (i := 2) sc_l_roll.nd rfl (Or.inl rfl) (pe_op op_mod (pe_callTy int1K (by rfl) T.z_int (by decide +kernel) (pa_cons (pe_ix (ixA K.K K.w (room16 hr)) (pv 0) pe_int (fun _ _ => rfl)) pa_nil)) (pv 1)))
      (pss_cons (ps_asg (pe_op op_fdiv (pe_ix (ixA K.K K.w (room16 hr)) (pv 0) pe_int (fun _ _ => rfl)) (pv 1)) (pg_sub (pv 0) pe_int (setA K.w (room16 hr))))
      (pss_one (ps_ret (pv 2))))) pss_nil)
      (pss_cons (ps_asg pe_int (pg_sub (pv 0) pe_int (setA K.w (room16 hr))))
      (pss_cons (ps_asg (pe_op op_mod (pe_callTy int1K (by rfl) T.z_int (by decide +kernel) (pa_cons (pe_op (addA K.K) (pe_op (addA K.K) (pe_op op_mul (pe_ix (ixA K.K K.w (room16 hr)) (pv 0) pe_int (fun _ _ => rfl)) pe_int) (pe_op op_mul (pe_ix (ixA K.K K.w (room16 hr)) (pv 0) pe_int (fun _ _ => rfl)) pe_int)) pe_int) pa_nil)) pe_int) (pg_sub (pv 0) pe_int (setA K.w (room16 hr))))
      (pss_cons (ps_asg (pe_op (addA K.K) (pe_ix (ixA K.K K.w (room16 hr)) (pv 0) pe_int (fun _ _ => rfl)) pe_int) (pg_sub (pv 0) pe_int (setA K.w (room16 hr))))
      (pss_one (ps_ret (pe_op op_mod (pe_callTy int1K (by rfl) T.z_int (by decide +kernel) (pa_cons (pe_op (addA K.K) (pe_op op_fdiv (pe_ix (ixA K.K K.w (room16 hr)) (pv 0) pe_int (fun _ _ => rfl)) pe_int) (pe_ix (ixA K.K K.w (room16 hr)) (pv 0) pe_int (fun _ _ => rfl))) pa_nil)) (pv 1)))))))),
    (DL.s_seq (DL.s_ifS (DL.s_or (DL.s_tst (DL.s_op o_eq (DL.s_op o_ix (DL.s_var 0) (DL.s_int 2)) (DL.s_int 2))) (DL.s_and (DL.s_tst (DL.s_op o_eq (DL.s_op o_ix (DL.s_var 0) (DL.s_int 2)) (DL.s_int 1))) (DL.s_tst (DL.s_op o_gtI (DL.s_op o_ix (DL.s_var 0) (DL.s_int 0)) (DL.s_int 0))))) (DL.s_seq (DL.s_set 2 (DL.s_op o_mod (DL.s_cb o_int (DL.s_acons (DL.s_op o_ix (DL.s_var 0) (DL.s_int 0)) DL.s_anil)) (DL.s_var 1)))
      (DL.s_seq (DL.s_put (DL.s_op o_fdiv (DL.s_op o_ix (DL.s_var 0) (DL.s_int 0)) (DL.s_var 1)) (DL.s_var 0) (DL.s_int 0))
      (DL.s_ret (DL.s_var 2)))) DL.s_nil)
      (DL.s_seq (DL.s_put (DL.s_int 0) (DL.s_var 0) (DL.s_int 2))
      (DL.s_seq (DL.s_put (DL.s_op o_mod (DL.s_cb o_int (DL.s_acons (DL.s_op o_add (DL.s_op o_add (DL.s_op o_mul (DL.s_op o_ix (DL.s_var 0) (DL.s_int 0)) (DL.s_int 48271)) (DL.s_op o_mul (DL.s_op o_ix (DL.s_var 0) (DL.s_int 1)) (DL.s_int 69621))) (DL.s_int 11)) DL.s_anil)) (DL.s_int 2147483647)) (DL.s_var 0) (DL.s_int 0))
      (DL.s_seq (DL.s_put (DL.s_op o_add (DL.s_op o_ix (DL.s_var 0) (DL.s_int 1)) (DL.s_int 1)) (DL.s_var 0) (DL.s_int 1))
      (DL.s_ret (DL.s_op o_mod (DL.s_cb o_int (DL.s_acons (DL.s_op o_add (DL.s_op o_fdiv (DL.s_op o_ix (DL.s_var 0) (DL.s_int 0)) (DL.s_int 7)) (DL.s_op o_ix (DL.s_var 0) (DL.s_int 0))) DL.s_anil)) (DL.s_var 1)))))))⟩
theorem ok_l_rounds (T : Txt K.K mg A) : FnOk P K.w K.K mg base (L2.CX P K.w) 2 A.f_l_rounds A.d_l_rounds ["script", "most"] (spD K TB (f_l_rounds A)) := by
  have G_l_dice : FnOk P K.w K.K mg base (L2.CX P K.w) 1 A.f_l_dice A.d_l_dice ["cell"] (spD K TB (f_l_dice A)) := ok_l_dice T
  exact DL.Fun.ok0 T.F_l_rounds sc_l_rounds fun cdv ar outer s H E hr => ⟨_, (pss_cons (ps_set (i := 2) sc_l_rounds.nd rfl (Or.inl rfl) (pe_slice (slAll K.K) (pv 0) po_none (po_some (pv 1))))
      (pss_cons (ps_if (pt_cmpR (eqA K.K hr.units) (pv 2) (pe_lst pa_nil) (nomark _)) (pss_one (ps_set (i := 2) sc_l_rounds.nd rfl (Or.inl rfl) (pe_lst (pa_cons pe_int pa_nil)))) pss_nil)
      (pss_one (ps_ret (pe_lc (own := [("cell", 3)]) (by rfl) sc_l_rounds.nd (pi_seq K.K (pv 2)) (blkOk_by (own := [("cell", 3)]) (N := N_l_rounds) (sc := defScope s_l_rounds) (by decide +kernel)) (fun _ _ _ _ _ => (pg_name (i := 3) sc_l_rounds.nd rfl (Or.inl rfl))) (fun _ _ _ _ _ => pts_nil) (fun _ _ _ _ _ => (pe_call G_l_dice (hr.mono (by decide)) (by rfl) T.m_l_dice T.F_l_dice.kp T.b_l_dice .nil passL (pa_cons (pv 3) pa_nil)))))))),
    (DL.s_seq (DL.s_set 2 (DL.s_sl (DL.s_var 0) DL.s_po0 (DL.s_po (DL.s_var 1))))
      (DL.s_seq (DL.s_ifS (DL.s_tst (DL.s_op o_eq (DL.s_var 2) (DL.s_lst DL.s_anil))) (DL.s_set 2 (DL.s_lst (DL.s_acons (DL.s_int 0) DL.s_anil))) DL.s_nil)
      (DL.s_ret (DL.s_lcM (vs := [3]) (DL.s_iS (DL.s_var 2)) (g_name 3 (by decide)) (DL.s_nx (E' := L2.E0) DL.s_yes) (DL.s_nx (E' := L2.E0) (DL.s_call dv_nil (DL.s_acons (DL.s_var 3) DL.s_anil)))))))⟩
theorem ok_l_value (T : Txt K.K mg A) : FnOk P K.w K.K mg base (L2.CX P K.w) 2 A.f_l_value A.d_l_value ["dice"] (spD K TB (f_l_value A)) := by
  have G_l_roll : FnOk P K.w K.K mg base (L2.CX P K.w) 1 A.f_l_roll A.d_l_roll ["dice", "many"] (spD K TB (f_l_roll A)) := ok_l_roll T
  exact DL.Fun.ok0 T.F_l_value sc_l_value fun cdv ar outer s H E hr => ⟨_, (pss_one (ps_ret (pe_ix (ixA K.K K.w (room16 hr)) (pe_lst (pa_cons (pe_op op_sub pe_int pe_int) (pa_cons pe_int (pa_cons pe_int (pa_cons pe_int (pa_cons pe_str (pa_cons pe_str (pa_cons pe_str (pa_cons pe_str (pa_cons pe_str (pa_cons pe_str pa_nil))))))))))) (pe_call G_l_roll (hr.mono (by decide)) (by rfl) T.m_l_roll T.F_l_roll.kp T.b_l_roll .nil (passes_call (takes_of rfl rfl rfl rfl) (fun _ _ _ _ h => h)) (pa_cons (pv 0) (pa_cons pe_int pa_nil))) (fun _ _ => rfl)))),
    (DL.s_ret (DL.s_op o_ix (DL.s_lst (DL.s_acons (DL.s_op o_sub (DL.s_int 0) (DL.s_int 3)) (DL.s_acons (DL.s_int 0) (DL.s_acons (DL.s_int 1) (DL.s_acons (DL.s_int 2) (DL.s_acons (DL.s_str "a") (DL.s_acons (DL.s_str "b") (DL.s_acons (DL.s_str "it's") (DL.s_acons (DL.s_str "not") (DL.s_acons (DL.s_str "Up") (DL.s_acons (DL.s_str "x y") DL.s_anil))))))))))) (DL.s_call dv_nil (DL.s_acons (DL.s_var 0) (DL.s_acons (DL.s_int 10) DL.s_anil)))))⟩
theorem ok_l_term (T : Txt K.K mg A) : FnOk P K.w K.K mg base (L2.CX P K.w) 3 A.f_l_term A.d_l_term ["dice"] (spD K TB (f_l_term A)) := by
  have G_l_roll : FnOk P K.w K.K mg base (L2.CX P K.w) 1 A.f_l_roll A.d_l_roll ["dice", "many"] (spD K TB (f_l_roll A)) := ok_l_roll T
  have G_l_value : FnOk P K.w K.K mg base (L2.CX P K.w) 2 A.f_l_value A.d_l_value ["dice"] (spD K TB (f_l_value A)) := ok_l_value T
  exact DL.Fun.ok0 T.F_l_term sc_l_term fun cdv ar outer s H E hr => ⟨_, (pss_one (ps_ret (pe_ifExp (pt_cmpR (eqA K.K hr.units) (pe_call G_l_roll (hr.mono (by decide)) (by rfl) T.m_l_roll T.F_l_roll.kp T.b_l_roll .nil (passes_call (takes_of rfl rfl rfl rfl) (fun _ _ _ _ h => h)) (pa_cons (pv 0) (pa_cons pe_int pa_nil))) pe_int (nomark _)) (pe_tup (pa_cons pe_str (pa_cons (pe_ix (ixA K.K K.w (room16 hr)) pe_str (pe_call G_l_roll (hr.mono (by decide)) (by rfl) T.m_l_roll T.F_l_roll.kp T.b_l_roll .nil (passes_call (takes_of rfl rfl rfl rfl) (fun _ _ _ _ h => h)) (pa_cons (pv 0) (pa_cons pe_int pa_nil))) (fun _ _ => rfl)) pa_nil))) (pe_tup (pa_cons pe_str (pa_cons (pe_call G_l_value (hr.mono (by decide)) (by rfl) T.m_l_value T.F_l_value.kp T.b_l_value .nil (passes_call (takes_of rfl rfl rfl rfl) (fun _ _ _ _ h => h)) (pa_cons (pv 0) pa_nil)) pa_nil)))))),
    (DL.s_ret (DL.s_if (DL.s_tst (DL.s_op o_eq (DL.s_call dv_nil (DL.s_acons (DL.s_var 0) (DL.s_acons (DL.s_int 2) DL.s_anil))) (DL.s_int 0))) (DL.s_tup (DL.s_acons (DL.s_str "var") (DL.s_acons (DL.s_op o_ix (DL.s_str "XYZ") (DL.s_call dv_nil (DL.s_acons (DL.s_var 0) (DL.s_acons (DL.s_int 3) DL.s_anil)))) DL.s_anil))) (DL.s_tup (DL.s_acons (DL.s_str "val") (DL.s_acons (DL.s_call dv_nil (DL.s_acons (DL.s_var 0) DL.s_anil)) DL.s_anil)))))⟩
theorem ok_l_make (T : Txt K.K mg A) : FnOk P K.w K.K mg base (L2.CX P K.w) 4 A.f_l_make A.d_l_make ["term"] (spD K TB (f_l_make A)) := by
  have G_val : FnOk P K.w K.K mg base (L2.CX P K.w) 3 A.f_val A.d_val ["value"] (spD K TB (f_val A)) := ok_val T
  have G_var : FnOk P K.w K.K mg base (L2.CX P K.w) 3 A.f_var A.d_var ["name"] (spD K TB (f_var A)) := ok_var T
  exact DL.Fun.ok0 T.F_l_make sc_l_make fun cdv ar outer s H E hr => ⟨_, (pss_one (ps_ret (pe_ifExp (pt_cmpR (eqA K.K hr.units) (pe_ix (ixA K.K K.w (room16 hr)) (pv 0) pe_int (fun _ _ => rfl)) pe_str (nomark _)) (pe_call G_var (hr.mono (by decide)) (by rfl) T.m_var T.F_var.kp T.b_var .nil (passes_call (takes_of rfl rfl rfl rfl) (fun _ _ _ _ h => h)) (pa_cons (pe_ix (ixA K.K K.w (room16 hr)) (pv 0) pe_int (fun _ _ => rfl)) pa_nil)) (pe_call G_val (hr.mono (by decide)) (by rfl) T.m_val T.F_val.kp T.b_val .nil (passes_call (takes_of rfl rfl rfl rfl) (fun _ _ _ _ h => h)) (pa_cons (pe_ix (ixA K.K K.w (room16 hr)) (pv 0) pe_int (fun _ _ => rfl)) pa_nil))))),
    (DL.s_ret (DL.s_if (DL.s_tst (DL.s_op o_eq (DL.s_op o_ix (DL.s_var 0) (DL.s_int 0)) (DL.s_str "var"))) (DL.s_call dv_nil (DL.s_acons (DL.s_op o_ix (DL.s_var 0) (DL.s_int 1)) DL.s_anil)) (DL.s_call dv_nil (DL.s_acons (DL.s_op o_ix (DL.s_var 0) (DL.s_int 1)) DL.s_anil))))⟩
theorem ok_l_less (T : Txt K.K mg A) : FnOk P K.w K.K mg base (L2.CX P K.w) 1 A.f_l_less A.d_l_less ["one", "other"] (spD K TB (f_l_less A)) := by
  exact DL.Fun.ok0 T.F_l_less sc_l_less fun cdv ar outer s H E hr => ⟨_, (pss_cons (ps_if (pt_cmpR (neA K.K hr.units) (pe_callB (isiK K.K) (by rfl) T.z_isinstance (by decide +kernel) (pa_cons (pv 0) (pa_cons (pe_bltn (v := .ty "int") (by rfl) T.z_int (by decide +kernel) rfl) pa_nil))) (pe_callB (isiK K.K) (by rfl) T.z_isinstance (by decide +kernel) (pa_cons (pv 1) (pa_cons (pe_bltn (v := .ty "int") (by rfl) T.z_int (by decide +kernel) rfl) pa_nil))) (nomark _)) (pss_one (ps_ret (pe_callB (isiK K.K) (by rfl) T.z_isinstance (by decide +kernel) (pa_cons (pv 0) (pa_cons (pe_bltn (v := .ty "int") (by rfl) T.z_int (by decide +kernel) rfl) pa_nil))))) pss_nil)
      (pss_one (ps_ret (pe_cmpR (ltA K.K hr.units) (pv 0) (pv 1) (nomark _))))),
    (DL.s_seq (DL.s_ifS (DL.s_tst (DL.s_op o_ne (DL.s_cb o_isi (DL.s_acons (DL.s_var 0) (DL.s_acons (DL.s_c fun _ => .cls "int") DL.s_anil))) (DL.s_cb o_isi (DL.s_acons (DL.s_var 1) (DL.s_acons (DL.s_c fun _ => .cls "int") DL.s_anil))))) (DL.s_ret (DL.s_cb o_isi (DL.s_acons (DL.s_var 0) (DL.s_acons (DL.s_c fun _ => .cls "int") DL.s_anil)))) DL.s_nil)
      (DL.s_ret (DL.s_op o_lt (DL.s_var 0) (DL.s_var 1))))⟩
theorem ok_l_row_less (T : Txt K.K mg A) : FnOk P K.w K.K mg base (L2.CX P K.w) 2 A.f_l_row_less A.d_l_row_less ["one", "other"] (spD K TB (f_l_row_less A)) := by
  have G_l_less : FnOk P K.w K.K mg base (L2.CX P K.w) 1 A.f_l_less A.d_l_less ["one", "other"] (spD K TB (f_l_less A)) := ok_l_less T
  exact DL.Fun.ok0 T.F_l_row_less sc_l_row_less fun cdv ar outer s H E hr => ⟨_, (pss_cons (ps_for (passes_of rfl) rfl (pi_range1 (by rfl) T.z_range (pa_cons (pe_callB min2K (by rfl) T.z_min (by decide +kernel) (pa_cons (pe_callB (lenA K.K K.w) (by rfl) T.z_len (by decide +kernel) (pa_cons (pv 0) pa_nil)) (pa_cons (pe_callB (lenA K.K K.w) (by rfl) T.z_len (by decide +kernel) (pa_cons (pv 1) pa_nil)) pa_nil))) pa_nil)) (pg_name (i := 2) sc_l_row_less.nd rfl (Or.inl rfl)) (pss_one (ps_if (pt_cmpR (neA K.K hr.units) (pe_ix (ixA K.K K.w (room16 hr)) (pv 0) (pv 2) (fun _ _ => rfl)) (pe_ix (ixA K.K K.w (room16 hr)) (pv 1) (pv 2) (fun _ _ => rfl)) (nomark _)) (pss_one (ps_ret (pe_call G_l_less (hr.mono (by decide)) (by rfl) T.m_l_less T.F_l_less.kp T.b_l_less .nil (passes_call (takes_of rfl rfl rfl rfl) (fun _ _ _ _ h => h)) (pa_cons (pe_ix (ixA K.K K.w (room16 hr)) (pv 0) (pv 2) (fun _ _ => rfl)) (pa_cons (pe_ix (ixA K.K K.w (room16 hr)) (pv 1) (pv 2) (fun _ _ => rfl)) pa_nil))))) pss_nil)))
      (pss_one (ps_ret (pe_cmpR (ltA K.K hr.units) (pe_callB (lenA K.K K.w) (by rfl) T.z_len (by decide +kernel) (pa_cons (pv 0) pa_nil)) (pe_callB (lenA K.K K.w) (by rfl) T.z_len (by decide +kernel) (pa_cons (pv 1) pa_nil)) (nomark _))))),
    (DL.s_seq (DL.s_for (vs := [2]) (DL.s_iRg1 (DL.s_acons (DL.s_cb o_min2 (DL.s_acons (DL.s_cb o_len (DL.s_acons (DL.s_var 0) DL.s_anil)) (DL.s_acons (DL.s_cb o_len (DL.s_acons (DL.s_var 1) DL.s_anil)) DL.s_anil))) DL.s_anil)) (g_name 2 (by decide)) (DL.s_ifS (DL.s_tst (DL.s_op o_ne (DL.s_op o_ix (DL.s_var 0) (DL.s_var 2)) (DL.s_op o_ix (DL.s_var 1) (DL.s_var 2)))) (DL.s_ret (DL.s_call dv_nil (DL.s_acons (DL.s_op o_ix (DL.s_var 0) (DL.s_var 2)) (DL.s_acons (DL.s_op o_ix (DL.s_var 1) (DL.s_var 2)) DL.s_anil)))) DL.s_nil))
      (DL.s_ret (DL.s_op o_lt (DL.s_cb o_len (DL.s_acons (DL.s_var 0) DL.s_anil)) (DL.s_cb o_len (DL.s_acons (DL.s_var 1) DL.s_anil)))))⟩
theorem ok_l_cases1 (T : Txt K.K mg A) (TBh : LamX.TabB base mg A.cL A.PL) : FnOk P K.w K.K mg base (L2.CX P K.w) 8 A.f_l_cases1 A.d_l_cases1 ["dice", "terms", "bound"] (spD K [(A.PL, qL)] (f_l_cases1 A)) := by
  have G_filled : FnOk P K.w K.K mg base (L2.CX P K.w) 3 A.f_filled A.d_filled ["terms", "bound"] (spD K [(A.PL, qL)] (f_filled A)) := ok_filled T
  have G_l_make : FnOk P K.w K.K mg base (L2.CX P K.w) 4 A.f_l_make A.d_l_make ["term"] (spD K [(A.PL, qL)] (f_l_make A)) := ok_l_make T
  have G_names_in : FnOk P K.w K.K mg base (L2.CX P K.w) 2 A.f_names_in A.d_names_in ["terms"] (spD K [(A.PL, qL)] (f_names_in A)) := ok_names_in T
  have G_pattern : FnOk P K.w K.K mg base (L2.CX P K.w) 3 A.f_pattern A.d_pattern ["terms", "bound"] (spD K [(A.PL, qL)] (f_pattern A)) := ok_pattern T
  have G_renamed : FnOk P K.w K.K mg base (L2.CX P K.w) 4 A.f_renamed A.d_renamed ["terms", "names"] (spD K [(A.PL, qL)] (f_renamed A)) := ok_renamed T
  have G_shown_all : FnOk P K.w K.K mg base (L2.CX P K.w) 3 A.f_shown_all A.d_shown_all ["terms"] (spD K [(A.PL, qL)] (f_shown_all A)) := ok_shown_all T
  exact DL.FunC.okB T.C_law sc_l_cases1 fun ar outer s H E hr => ⟨_, (pss_cons (ps_asg (pe_tup (pa_cons (pe_lc (own := [("term", 10)]) (by rfl) sc_l_cases1.nd (pi_seq K.K (pv 1)) (blkOk_by (own := [("term", 10)]) (N := N_l_cases1) (sc := defScope s_l_cases1) (by decide +kernel)) (fun _ _ _ _ _ => (pg_name (i := 10) sc_l_cases1.nd rfl (Or.inl rfl))) (fun _ _ _ _ _ => pts_nil) (fun _ _ _ _ _ => (pe_call G_l_make (hr.mono (by decide)) (by rfl) T.m_l_make T.F_l_make.kp T.b_l_make .nil passL (pa_cons (pv 10) pa_nil)))) (pa_cons (pe_lst pa_nil) pa_nil))) (tupK K.K (n := 2) rfl (pgs_cons (pg_name (i := 3) sc_l_cases1.nd rfl (Or.inr rfl)) (pgs_cons (pg_name (i := 4) sc_l_cases1.nd rfl (Or.inl rfl)) pgs_nil))))
      (pss_cons (ps_for (passes_of rfl) rfl (pi_seq K.K (pv 1)) (tupK K.K (n := 2) rfl (pgs_cons (pg_name (i := 5) sc_l_cases1.nd rfl (Or.inl rfl)) (pgs_cons (pg_name (i := 6) sc_l_cases1.nd rfl (Or.inl rfl)) pgs_nil))) (pss_one (ps_if (PW.pt (pw_and (pt_cmpR (eqA K.K hr.units) (pv 5) pe_str (nomark _)) (pw_and1 (pt_cmpR (notInA K.K K.w (room65 hr)) (pv 6) (pv 4) (by rfl))))) (pss_one (ps_expr (pe_am K.K K.w PySem.F.plainAttrs_list PySem.F.slot_list_append PySem.F.type_list_append mt_append (pv 4) (pa_cons (pv 6) pa_nil)))) pss_nil)))
      (pss_cons (ps_if (PW.pt (pw_or (pt_cmpR (neA K.K hr.units) (pe_call G_names_in (hr.mono (by decide)) (by rfl) T.m_names_in T.F_names_in.kp T.b_names_in .nil (passes_call (takes_of rfl rfl rfl rfl) (fun _ _ _ _ h => h)) (pa_cons (pv 3) pa_nil)) (pe_callTy (tupA K.K K.w) (by rfl) T.z_tuple (by decide +kernel) (pa_cons (pv 4) pa_nil)) (nomark _)) (pw_or1 (pt_cmpR (neA K.K hr.units) (pe_call G_shown_all (hr.mono (by decide)) (by rfl) T.m_shown_all T.F_shown_all.kp T.b_shown_all .nil (passes_call (takes_of rfl rfl rfl rfl) (fun _ _ _ _ h => h)) (pa_cons (pv 3) pa_nil)) (pe_callTy (tupA K.K K.w) (by rfl) T.z_tuple (by decide +kernel) (pa_cons (pv 1) pa_nil)) (nomark _))))) (pss_one (ps_ret pe_bl)) pss_nil)
      (pss_cons (ps_set (i := 7) sc_l_cases1.nd rfl (Or.inr rfl) (pe_disp (pps_cons pe_str pe_str (pps_cons pe_str pe_str pps_nil)) (by rfl) (by rfl) (fun z => by cases z) (by decide)))
      (pss_cons (ps_if (pt_cmpR (neA K.K hr.units) (pe_call G_shown_all (hr.mono (by decide)) (by rfl) T.m_shown_all T.F_shown_all.kp T.b_shown_all .nil (passes_call (takes_of rfl rfl rfl rfl) (fun _ _ _ _ h => h)) (pa_cons (pe_call G_renamed (hr.mono (by decide)) (by rfl) T.m_renamed T.F_renamed.kp T.b_renamed .nil (passes_call (takes_of rfl rfl rfl rfl) (fun _ _ _ _ h => h)) (pa_cons (pv 3) (pa_cons (pv 7) pa_nil))) pa_nil)) (pe_callTy (tupA K.K K.w) (by rfl) T.z_tuple (by decide +kernel) (pa_cons (pe_lc (own := [("kind", 5), ("said", 6)]) (by rfl) sc_l_cases1.nd (pi_seq K.K (pv 1)) (blkOk_by (own := [("kind", 5), ("said", 6)]) (N := N_l_cases1) (sc := defScope s_l_cases1) (by decide +kernel)) (fun _ _ _ _ _ => (tupK K.K (n := 2) rfl (pgs_cons (pg_name (i := 5) sc_l_cases1.nd rfl (Or.inl rfl)) (pgs_cons (pg_name (i := 6) sc_l_cases1.nd rfl (Or.inl rfl)) pgs_nil)))) (fun _ _ _ _ _ => pts_nil) (fun _ _ _ _ _ => (pe_tup (pa_cons (pv 5) (pa_cons (pe_ifExp (pt_cmpR (eqA K.K hr.units) (pv 5) pe_str (nomark _)) (pe_am K.K K.w PySem.F.plainAttrs_dict PySem.F.slot_dict_get PySem.F.type_dict_get (mtGet K.w (room16 hr)) (pv 7) (pa_cons (pv 6) (pa_cons (pv 6) pa_nil))) (pv 6)) pa_nil))))) pa_nil)) (nomark _)) (pss_one (ps_ret pe_bl)) pss_nil)
      (pss_cons (ps_setLc (i := 8) (own := [("k", 11)]) (by rfl) sc_l_cases1.nd rfl rfl (sw_true rfl rfl rfl (by decide +kernel)) (pi_range1 (by rfl) T.z_range (pa_cons (pe_callB (lenA K.K K.w) (by rfl) T.z_len (by decide +kernel) (pa_cons (pv 1) pa_nil)) pa_nil)) (blkOk_by (own := [("k", 11)]) (N := N_l_cases1) (sc := defScope s_l_cases1) (by decide +kernel)) (fun _ _ _ _ _ => (pg_name (i := 11) sc_l_cases1.nd rfl (Or.inl rfl))) (fun _ _ _ _ _ => (pts_one (PW.pt (pw_or (pt_cmpR (eqA K.K hr.units) (pe_ix (ixA K.K K.w (room16 hr)) (pe_ix (ixA K.K K.w (room16 hr)) (pv 1) (pv 11) (fun _ _ => rfl)) pe_int (fun _ _ => rfl)) pe_str (nomark _)) (pw_or1 (pt_cmpR (inA K.K K.w (room65 hr)) (pe_ix (ixA K.K K.w (room16 hr)) (pe_ix (ixA K.K K.w (room16 hr)) (pv 1) (pv 11) (fun _ _ => rfl)) pe_int (fun _ _ => rfl)) (pv 2) (by rfl))))))) (fun _ _ _ _ _ => (pv 11)))
      (pss_cons (ps_setLc (i := 9) (own := [("k", 11)]) (by rfl) sc_l_cases1.nd rfl rfl (sw_true rfl rfl rfl (by decide +kernel)) (pi_seq K.K (pv 8)) (blkOk_by (own := [("k", 11)]) (N := N_l_cases1) (sc := defScope s_l_cases1) (by decide +kernel)) (fun _ _ _ _ _ => (pg_name (i := 11) sc_l_cases1.nd rfl (Or.inl rfl))) (fun _ _ _ _ _ => pts_nil) (fun _ _ _ _ _ => (pe_ifExp (pt_cmpR (eqA K.K hr.units) (pe_ix (ixA K.K K.w (room16 hr)) (pe_ix (ixA K.K K.w (room16 hr)) (pv 1) (pv 11) (fun _ _ => rfl)) pe_int (fun _ _ => rfl)) pe_str (nomark _)) (pe_ix (ixA K.K K.w (room16 hr)) (pe_ix (ixA K.K K.w (room16 hr)) (pv 1) (pv 11) (fun _ _ => rfl)) pe_int (fun _ _ => rfl)) (pe_ix (ixA K.K K.w (room16 hr)) (pv 2) (pe_ix (ixA K.K K.w (room16 hr)) (pe_ix (ixA K.K K.w (room16 hr)) (pv 1) (pv 11) (fun _ _ => rfl)) pe_int (fun _ _ => rfl)) (fun _ _ => rfl)))))
      (pss_cons (ps_if (pt_cmpR (neA K.K hr.units) (pe_call G_pattern (hr.mono (by decide)) (by rfl) T.m_pattern T.F_pattern.kp T.b_pattern .nil (passes_call (takes_of rfl rfl rfl rfl) (fun _ _ _ _ h => h)) (pa_cons (pv 3) (pa_cons (pv 2) pa_nil))) (pe_tup (pa_cons (pe_callTy (tupA K.K K.w) (by rfl) T.z_tuple (by decide +kernel) (pa_cons (pv 8) pa_nil)) (pa_cons (pe_callTy (tupA K.K K.w) (by rfl) T.z_tuple (by decide +kernel) (pa_cons (pv 9) pa_nil)) pa_nil))) (nomark _)) (pss_one (ps_ret pe_bl)) pss_nil)
      (pss_one (ps_ret (pe_cmpR (eqA K.K hr.units) (pe_told T (by rfl) (by rfl) TBh (by rfl) (by rfl) (by rfl) (k := 4) (hr.mono (by decide)) (LamX.lamS_by (by rfl)) (by rfl) (fun _ _ _ _ _ => (by rfl)) (fun A' outer s H E f c' hr => (pe_call G_filled (hr.mono (by decide)) (by rfl) T.m_filled T.F_filled.kp T.b_filled .nil (passes_call (takes_of rfl rfl rfl rfl) (fun _ _ _ _ h => h)) (pa_cons (pv 3) (pa_cons (pv 2) pa_nil))))) (pe_ifExp (pt_cmpR (eqA K.K hr.units) (pe_callB (lenA K.K K.w) (by rfl) T.z_len (by decide +kernel) (pa_cons (pv 8) pa_nil)) (pe_callB (lenA K.K K.w) (by rfl) T.z_len (by decide +kernel) (pa_cons (pv 1) pa_nil)) (nomark _)) (pe_callTy (tupA K.K K.w) (by rfl) T.z_tuple (by decide +kernel) (pa_cons (pv 9) pa_nil)) pe_str) (nomark _)))))))))))),
    (DL.s_seq (DL.s_asgT (vs := [3, 4]) (DL.s_acons (DL.s_lc (vs := [10]) (DL.s_iS (DL.s_var 1)) (g_name 10 (by decide)) (DL.s_nx (E' := L2.E0) DL.s_yes) (DL.s_nx (E' := L2.E0) (DL.s_call dv_nil (DL.s_acons (DL.s_var 10) DL.s_anil)))) (DL.s_acons (DL.s_lstM DL.s_anil) DL.s_anil)) (gs_cons (g_name 3 (by decide)) (gs_cons (g_name 4 (by decide)) gs_nil)))
      (DL.s_seq (DL.s_for (vs := [5, 6]) (DL.s_iS (DL.s_var 1)) (g_tup (gs_cons (g_name 5 (by decide)) (gs_cons (g_name 6 (by decide)) gs_nil))) (DL.s_ifS (DL.s_and (DL.s_tst (DL.s_op o_eq (DL.s_var 5) (DL.s_str "var"))) (DL.s_tst (DL.s_op o_notIn (DL.s_var 6) (DL.s_var 4)))) (DL.s_expr (DL.s_mt ty_lst m_app (DL.s_var 4) (DL.s_acons (DL.s_var 6) DL.s_anil))) DL.s_nil))
      (DL.s_seq (DL.s_ifS (DL.s_or (DL.s_tst (DL.s_op o_ne (DL.s_call dv_nil (DL.s_acons (DL.s_var 3) DL.s_anil)) (DL.s_cb o_tup (DL.s_acons (DL.s_var 4) DL.s_anil)))) (DL.s_tst (DL.s_op o_ne (DL.s_call dv_nil (DL.s_acons (DL.s_var 3) DL.s_anil)) (DL.s_cb o_tup (DL.s_acons (DL.s_var 1) DL.s_anil))))) (DL.s_ret (DL.s_bl false)) DL.s_nil)
      (DL.s_seq (DL.s_set 7 (DL.s_disp (.cons ⟨(DL.s_str "X"), (DL.s_str "Y")⟩ (.cons ⟨(DL.s_str "Y"), (DL.s_str "X")⟩ .nil))))
      (DL.s_seq (DL.s_ifS (DL.s_tst (DL.s_op o_ne (DL.s_call dv_nil (DL.s_acons (DL.s_call dv_nil (DL.s_acons (DL.s_var 3) (DL.s_acons (DL.s_var 7) DL.s_anil))) DL.s_anil)) (DL.s_cb o_tup (DL.s_acons (DL.s_lc (vs := [5, 6]) (DL.s_iS (DL.s_var 1)) (g_tup (gs_cons (g_name 5 (by decide)) (gs_cons (g_name 6 (by decide)) gs_nil))) (DL.s_nx (E' := L2.E0) DL.s_yes) (DL.s_nx (E' := L2.E0) (DL.s_tup (DL.s_acons (DL.s_var 5) (DL.s_acons (DL.s_if (DL.s_tst (DL.s_op o_eq (DL.s_var 5) (DL.s_str "var"))) (DL.s_mt ty_dct m_get (DL.s_var 7) (DL.s_acons (DL.s_var 6) (DL.s_acons (DL.s_var 6) DL.s_anil))) (DL.s_var 6)) DL.s_anil))))) DL.s_anil)))) (DL.s_ret (DL.s_bl false)) DL.s_nil)
      (DL.s_seq (DL.s_set 8 (DL.s_lc (vs := [11]) (DL.s_iRg1 (DL.s_acons (DL.s_cb o_len (DL.s_acons (DL.s_var 1) DL.s_anil)) DL.s_anil)) (g_name 11 (by decide)) (DL.s_nx (E' := L2.E0) (DL.s_or (DL.s_tst (DL.s_op o_eq (DL.s_op o_ix (DL.s_op o_ix (DL.s_var 1) (DL.s_var 11)) (DL.s_int 0)) (DL.s_str "val"))) (DL.s_tst (DL.s_op o_in (DL.s_op o_ix (DL.s_op o_ix (DL.s_var 1) (DL.s_var 11)) (DL.s_int 1)) (DL.s_var 2))))) (DL.s_nx (E' := L2.E0) (DL.s_var 11))))
      (DL.s_seq (DL.s_set 9 (DL.s_lc (vs := [11]) (DL.s_iS (DL.s_var 8)) (g_name 11 (by decide)) (DL.s_nx (E' := L2.E0) DL.s_yes) (DL.s_nx (E' := L2.E0) (DL.s_if (DL.s_tst (DL.s_op o_eq (DL.s_op o_ix (DL.s_op o_ix (DL.s_var 1) (DL.s_var 11)) (DL.s_int 0)) (DL.s_str "val"))) (DL.s_op o_ix (DL.s_op o_ix (DL.s_var 1) (DL.s_var 11)) (DL.s_int 1)) (DL.s_op o_ix (DL.s_var 2) (DL.s_op o_ix (DL.s_op o_ix (DL.s_var 1) (DL.s_var 11)) (DL.s_int 1)))))))
      (DL.s_seq (DL.s_ifS (DL.s_tst (DL.s_op o_ne (DL.s_call dv_nil (DL.s_acons (DL.s_var 3) (DL.s_acons (DL.s_var 2) DL.s_anil))) (DL.s_tup (DL.s_acons (DL.s_cb o_tup (DL.s_acons (DL.s_var 8) DL.s_anil)) (DL.s_acons (DL.s_cb o_tup (DL.s_acons (DL.s_var 9) DL.s_anil)) DL.s_anil))))) (DL.s_ret (DL.s_bl false)) DL.s_nil)
      (DL.s_ret (DL.s_op o_eq (DL.s_told (tl_ok T) fun E' => (DL.s_call dv_nil (DL.s_acons (DL.s_var 3) (DL.s_acons (DL.s_var 2) DL.s_anil)))) (DL.s_if (DL.s_tst (DL.s_op o_eq (DL.s_cb o_len (DL.s_acons (DL.s_var 8) DL.s_anil)) (DL.s_cb o_len (DL.s_acons (DL.s_var 1) DL.s_anil)))) (DL.s_cb o_tup (DL.s_acons (DL.s_var 9) DL.s_anil)) (DL.s_str "no such"))))))))))))⟩
theorem ok_law (T : Txt K.K mg A) (TBh : LamX.TabB base mg A.cL A.PL) : FnOk P K.w K.K mg base (L2.CX P K.w) 10 A.f_law A.d_law ["script"] (spD K [(A.PL, qL)] (f_law A)) := by
  have G_bound_key : FnOk P K.w K.K mg base (L2.CX P K.w) 3 A.f_bound_key A.d_bound_key ["bound"] (spD K [(A.PL, qL)] (f_bound_key A)) := ok_bound_key T
  have G_filled : FnOk P K.w K.K mg base (L2.CX P K.w) 3 A.f_filled A.d_filled ["terms", "bound"] (spD K [(A.PL, qL)] (f_filled A)) := ok_filled T
  have G_in_order : FnOk P K.w K.K mg base (L2.CX P K.w) 6 A.f_in_order A.d_in_order ["rows"] (spD K [(A.PL, qL)] (f_in_order A)) := ok_in_order T
  have G_l_cases1 : FnOk P K.w K.K mg base (L2.CX P K.w) 8 A.f_l_cases1 A.d_l_cases1 ["dice", "terms", "bound"] (spD K [(A.PL, qL)] (f_l_cases1 A)) := ok_l_cases1 T TBh
  have G_l_make : FnOk P K.w K.K mg base (L2.CX P K.w) 4 A.f_l_make A.d_l_make ["term"] (spD K [(A.PL, qL)] (f_l_make A)) := ok_l_make T
  have G_l_roll : FnOk P K.w K.K mg base (L2.CX P K.w) 1 A.f_l_roll A.d_l_roll ["dice", "many"] (spD K [(A.PL, qL)] (f_l_roll A)) := ok_l_roll T
  have G_l_rounds : FnOk P K.w K.K mg base (L2.CX P K.w) 2 A.f_l_rounds A.d_l_rounds ["script", "most"] (spD K [(A.PL, qL)] (f_l_rounds A)) := ok_l_rounds T
  have G_l_row_less : FnOk P K.w K.K mg base (L2.CX P K.w) 2 A.f_l_row_less A.d_l_row_less ["one", "other"] (spD K [(A.PL, qL)] (f_l_row_less A)) := ok_l_row_less T
  have G_l_term : FnOk P K.w K.K mg base (L2.CX P K.w) 3 A.f_l_term A.d_l_term ["dice"] (spD K [(A.PL, qL)] (f_l_term A)) := ok_l_term T
  have G_l_value : FnOk P K.w K.K mg base (L2.CX P K.w) 2 A.f_l_value A.d_l_value ["dice"] (spD K [(A.PL, qL)] (f_l_value A)) := ok_l_value T
  have G_matched : FnOk P K.w K.K mg base (L2.CX P K.w) 3 A.f_matched A.d_matched ["terms", "row", "bound"] (spD K [(A.PL, qL)] (f_matched A)) := ok_matched T
  have G_row_key : FnOk P K.w K.K mg base (L2.CX P K.w) 3 A.f_row_key A.d_row_key ["row"] (spD K [(A.PL, qL)] (f_row_key A)) := ok_row_key T
  exact DL.Fun.okB T.F_law sc_law fun cdv ar outer s H E hr => ⟨_, (pss_cons (ps_for (passes_of rfl) rfl (pi_seq K.K (pe_call G_l_rounds (hr.mono (by decide)) (by rfl) T.m_l_rounds T.F_l_rounds.kp T.b_l_rounds .nil (passes_call (takes_of rfl rfl rfl rfl) (fun _ _ _ _ h => h)) (pa_cons (pv 0) (pa_cons pe_int pa_nil)))) (pg_name (i := 1) sc_law.nd rfl (Or.inr rfl)) (pss_cons (ps_setLc (i := 2) (own := [("k", 10)]) (by rfl) sc_law.nd rfl rfl (sw_true rfl rfl rfl (by decide +kernel)) (pi_range1 (by rfl) T.z_range (pa_cons (pe_call G_l_roll (hr.mono (by decide)) (by rfl) T.m_l_roll T.F_l_roll.kp T.b_l_roll .nil (passes_call (takes_of rfl rfl rfl rfl) (fun _ _ _ _ h => h)) (pa_cons (pv 1) (pa_cons pe_int pa_nil))) pa_nil)) (blkOk_by (own := [("k", 10)]) (N := N_law) (sc := defScope s_law) (by decide +kernel)) (fun _ _ _ _ _ => (pg_name (i := 10) sc_law.nd rfl (Or.inl rfl))) (fun _ _ _ _ _ => pts_nil) (fun _ _ _ _ _ => (pe_callTy (tupA K.K K.w) (by rfl) T.z_tuple (by decide +kernel) (pa_cons (pe_lc (own := [("j", 15)]) (by rfl) sc_law.nd (pi_range1 (by rfl) T.z_range (pa_cons (pe_call G_l_roll (hr.mono (by decide)) (by rfl) T.m_l_roll T.F_l_roll.kp T.b_l_roll .nil passL (pa_cons (pv 1) (pa_cons pe_int pa_nil))) pa_nil)) (blkOk_by (own := [("j", 15)]) (N := N_law) (by rfl)) (fun _ _ _ _ _ => (pg_name (i := 15) sc_law.nd rfl (Or.inl rfl))) (fun _ _ _ _ _ => pts_nil) (fun _ _ _ _ _ => (pe_call G_l_value (hr.mono (by decide)) (by rfl) T.m_l_value T.F_l_value.kp T.b_l_value .nil passL (pa_cons (pv 1) pa_nil)))) pa_nil))))
      (pss_cons (ps_set (i := 3) sc_law.nd rfl (Or.inr rfl) (pe_call G_in_order (hr.mono (by decide)) (by rfl) T.m_in_order T.F_in_order.kp T.b_in_order .nil (passes_call (takes_of rfl rfl rfl rfl) (fun _ _ _ _ h => h)) (pa_cons (pv 2) pa_nil)))
      (pss_cons (ps_if (pt_cmpR (neA K.K hr.units) (pe_lc (own := [("k", 10)]) (by rfl) sc_law.nd (pi_range2 (by rfl) T.z_range (pa_cons pe_int (pa_cons (pe_callB (lenA K.K K.w) (by rfl) T.z_len (by decide +kernel) (pa_cons (pv 3) pa_nil)) pa_nil))) (blkOk_by (own := [("k", 10)]) (N := N_law) (sc := defScope s_law) (by decide +kernel)) (fun _ _ _ _ _ => (pg_name (i := 10) sc_law.nd rfl (Or.inl rfl))) (fun _ _ _ _ _ => (pts_one (pt_val (pe_call G_l_row_less (hr.mono (by decide)) (by rfl) T.m_l_row_less T.F_l_row_less.kp T.b_l_row_less .nil passL (pa_cons (pe_ix (ixA K.K K.w (room16 hr)) (pv 3) (pv 10) (fun _ _ => rfl)) (pa_cons (pe_ix (ixA K.K K.w (room16 hr)) (pv 3) (pe_op op_sub (pv 10) pe_int) (fun _ _ => rfl)) pa_nil)))))) (fun _ _ _ _ _ => (pv 10))) (pe_lst pa_nil) (nomark _)) (pss_one (ps_ret pe_bl)) pss_nil)
      (pss_cons (ps_if (pt_cmpR (neA K.K hr.units) (pe_callB (sortA K.K K.w hr.units) (by rfl) T.z_sorted (by decide +kernel) (pa_cons (pe_lc (own := [("row", 7)]) (by rfl) sc_law.nd (pi_seq K.K (pv 2)) (blkOk_by (own := [("row", 7)]) (N := N_law) (sc := defScope s_law) (by decide +kernel)) (fun _ _ _ _ _ => (pg_name (i := 7) sc_law.nd rfl (Or.inl rfl))) (fun _ _ _ _ _ => pts_nil) (fun _ _ _ _ _ => (pe_call G_row_key (hr.mono (by decide)) (by rfl) T.m_row_key T.F_row_key.kp T.b_row_key .nil passL (pa_cons (pv 7) pa_nil)))) pa_nil)) (pe_lc (own := [("row", 7)]) (by rfl) sc_law.nd (pi_seq K.K (pv 3)) (blkOk_by (own := [("row", 7)]) (N := N_law) (sc := defScope s_law) (by decide +kernel)) (fun _ _ _ _ _ => (pg_name (i := 7) sc_law.nd rfl (Or.inl rfl))) (fun _ _ _ _ _ => pts_nil) (fun _ _ _ _ _ => (pe_call G_row_key (hr.mono (by decide)) (by rfl) T.m_row_key T.F_row_key.kp T.b_row_key .nil passL (pa_cons (pv 7) pa_nil)))) (nomark _)) (pss_one (ps_ret pe_bl)) pss_nil)
      (pss_cons (ps_setLc (i := 4) (own := [("k", 10)]) (by rfl) sc_law.nd rfl rfl (sw_true rfl rfl rfl (by decide +kernel)) (pi_range1 (by rfl) T.z_range (pa_cons (pe_call G_l_roll (hr.mono (by decide)) (by rfl) T.m_l_roll T.F_l_roll.kp T.b_l_roll .nil (passes_call (takes_of rfl rfl rfl rfl) (fun _ _ _ _ h => h)) (pa_cons (pv 1) (pa_cons pe_int pa_nil))) pa_nil)) (blkOk_by (own := [("k", 10)]) (N := N_law) (sc := defScope s_law) (by decide +kernel)) (fun _ _ _ _ _ => (pg_name (i := 10) sc_law.nd rfl (Or.inl rfl))) (fun _ _ _ _ _ => pts_nil) (fun _ _ _ _ _ => (pe_call G_l_term (hr.mono (by decide)) (by rfl) T.m_l_term T.F_l_term.kp T.b_l_term .nil passL (pa_cons (pv 1) pa_nil))))
      (pss_cons (ps_set (i := 5) sc_law.nd rfl (Or.inr rfl) (pe_callTy (dictA K.K) (by rfl) T.z_dict (by decide +kernel) (pa_cons (pe_lc (own := [("name", 16)]) (by rfl) sc_law.nd (pi_seq K.K (pe_slice (slAll K.K) pe_str po_none (po_some (pe_call G_l_roll (hr.mono (by decide)) (by rfl) T.m_l_roll T.F_l_roll.kp T.b_l_roll .nil (passes_call (takes_of rfl rfl rfl rfl) (fun _ _ _ _ h => h)) (pa_cons (pv 1) (pa_cons pe_int pa_nil)))))) (blkOk_by (own := [("name", 16)]) (N := N_law) (sc := defScope s_law) (by decide +kernel)) (fun _ _ _ _ _ => (pg_name (i := 16) sc_law.nd rfl (Or.inl rfl))) (fun _ _ _ _ _ => pts_nil) (fun _ _ _ _ _ => (pe_tup (pa_cons (pv 16) (pa_cons (pe_call G_l_value (hr.mono (by decide)) (by rfl) T.m_l_value T.F_l_value.kp T.b_l_value .nil passL (pa_cons (pv 1) pa_nil)) pa_nil))))) pa_nil)))
      (pss_cons (ps_if (pt_not (pt_val (pe_call G_l_cases1 (hr.mono (by decide)) (by rfl) T.m_l_cases1 T.F_l_cases1.kp T.b_l_cases1 .nil (passes_call (takes_of rfl rfl rfl rfl) (fun _ _ _ _ h => h)) (pa_cons (pv 1) (pa_cons (pv 4) (pa_cons (pv 5) pa_nil)))))) (pss_one (ps_ret pe_bl)) pss_nil)
      (pss_cons (ps_setLc (i := 6) (own := [("term", 17)]) (by rfl) sc_law.nd rfl rfl (sw_true rfl rfl rfl (by decide +kernel)) (pi_seq K.K (pv 4)) (blkOk_by (own := [("term", 17)]) (N := N_law) (sc := defScope s_law) (by decide +kernel)) (fun _ _ _ _ _ => (pg_name (i := 17) sc_law.nd rfl (Or.inl rfl))) (fun _ _ _ _ _ => pts_nil) (fun _ _ _ _ _ => (pe_call G_l_make (hr.mono (by decide)) (by rfl) T.m_l_make T.F_l_make.kp T.b_l_make .nil passL (pa_cons (pv 17) pa_nil))))
      (pss_one (ps_for (passes_of rfl) rfl (pi_seq K.K (pe_op (addA K.K) (pv 2) (pe_lst (pa_cons (pe_callTy (tupA K.K K.w) (by rfl) T.z_tuple (by decide +kernel) (pa_cons (pe_lc (own := [("kind", 11), ("said", 12)]) (by rfl) sc_law.nd (pi_seq K.K (pv 4)) (blkOk_by (own := [("kind", 11), ("said", 12)]) (N := N_law) (sc := defScope s_law) (by decide +kernel)) (fun _ _ _ _ _ => (tupK K.K (n := 2) rfl (pgs_cons (pg_name (i := 11) sc_law.nd rfl (Or.inl rfl)) (pgs_cons (pg_name (i := 12) sc_law.nd rfl (Or.inl rfl)) pgs_nil)))) (fun _ _ _ _ _ => pts_nil) (fun _ _ _ _ _ => (pe_ifExp (pt_cmpR (eqA K.K hr.units) (pv 11) pe_str (nomark _)) (pv 12) (pe_am K.K K.w PySem.F.plainAttrs_dict PySem.F.slot_dict_get PySem.F.type_dict_get (mtGet K.w (room16 hr)) (pv 5) (pa_cons (pv 12) (pa_cons pe_int pa_nil)))))) pa_nil)) pa_nil)))) (pg_name (i := 7) sc_law.nd rfl (Or.inl rfl)) (pss_cons (ps_par (i := 8) (j := 9) (by rfl) sc_law.nd rfl rfl (by decide) rfl rfl (pa_cons (pe_callTy (dictA K.K) (by rfl) T.z_dict (by decide +kernel) (pa_cons (pv 5) pa_nil)) (pa_cons (pe_cmpR (eqA K.K hr.units) (pe_callB (lenA K.K K.w) (by rfl) T.z_len (by decide +kernel) (pa_cons (pv 7) pa_nil)) (pe_callB (lenA K.K K.w) (by rfl) T.z_len (by decide +kernel) (pa_cons (pv 4) pa_nil)) (nomark _)) pa_nil)) (by rfl))
      (pss_cons (ps_for (passes_of rfl) rfl (pi_range1 (by rfl) T.z_range (pa_cons (pe_callB min2K (by rfl) T.z_min (by decide +kernel) (pa_cons (pe_callB (lenA K.K K.w) (by rfl) T.z_len (by decide +kernel) (pa_cons (pv 7) pa_nil)) (pa_cons (pe_callB (lenA K.K K.w) (by rfl) T.z_len (by decide +kernel) (pa_cons (pv 4) pa_nil)) pa_nil))) pa_nil)) (pg_name (i := 10) sc_law.nd rfl (Or.inl rfl)) (pss_cons (ps_asg (pe_ix (ixA K.K K.w (room16 hr)) (pv 4) (pv 10) (fun _ _ => rfl)) (tupK K.K (n := 2) rfl (pgs_cons (pg_name (i := 11) sc_law.nd rfl (Or.inl rfl)) (pgs_cons (pg_name (i := 12) sc_law.nd rfl (Or.inl rfl)) pgs_nil))))
      (pss_cons (ps_set (i := 13) sc_law.nd rfl (Or.inl rfl) (pe_ifExp (pt_cmpR (eqA K.K hr.units) (pv 11) pe_str (nomark _)) (pv 12) (pe_am K.K K.w PySem.F.plainAttrs_dict PySem.F.slot_dict_setdefault PySem.F.type_dict_setdefault (mtSetDf K.w (room16 hr)) (pv 8) (pa_cons (pv 12) (pa_cons (pe_ix (ixA K.K K.w (room16 hr)) (pv 7) (pv 10) (fun _ _ => rfl)) pa_nil)))))
      (pss_one (ps_set (i := 9) sc_law.nd rfl (Or.inl rfl) (pe_and (pv 9) (pe_and (pe_cmpR (eqA K.K hr.units) (pv 13) (pe_ix (ixA K.K K.w (room16 hr)) (pv 7) (pv 10) (fun _ _ => rfl)) (nomark _)) (pe_one (pe_cmpR (eqA K.K hr.units) (pe_callB (isiK K.K) (by rfl) T.z_isinstance (by decide +kernel) (pa_cons (pv 13) (pa_cons (pe_bltn (v := .ty "int") (by rfl) T.z_int (by decide +kernel) rfl) pa_nil))) (pe_callB (isiK K.K) (by rfl) T.z_isinstance (by decide +kernel) (pa_cons (pe_ix (ixA K.K K.w (room16 hr)) (pv 7) (pv 10) (fun _ _ => rfl)) (pa_cons (pe_bltn (v := .ty "int") (by rfl) T.z_int (by decide +kernel) rfl) pa_nil))) (nomark _))))))))))
      (pss_cons (ps_set (i := 14) sc_law.nd rfl (Or.inl rfl) (pe_ifExp (pt_val (pv 9)) (pv 8) pe_non))
      (pss_cons (ps_set (i := 3) sc_law.nd rfl (Or.inr rfl) (pe_call G_matched (hr.mono (by decide)) (by rfl) T.m_matched T.F_matched.kp T.b_matched .nil (passes_call (takes_of rfl rfl rfl rfl) (fun _ _ _ _ h => h)) (pa_cons (pv 6) (pa_cons (pv 7) (pa_cons (pv 5) pa_nil)))))
      (pss_cons (ps_if (PW.pt (pw_or (pt_cmpR (neX K.K hr.units) (pv 3) (pv 14) (nomark _)) (pw_or (PW.pt (pw_and (pt_cmpR op_notN (pv 14) pe_non (nomark _)) (pw_and1 (pt_cmpR (neA K.K hr.units) (pe_call G_bound_key (hr.mono (by decide)) (by rfl) T.m_bound_key T.F_bound_key.kp T.b_bound_key .nil (passes_call (takes_of rfl rfl rfl rfl) (fun _ _ _ _ h => h)) (pa_cons (pv 3) pa_nil)) (pe_call G_bound_key (hr.mono (by decide)) (by rfl) T.m_bound_key T.F_bound_key.kp T.b_bound_key .nil (passes_call (takes_of rfl rfl rfl rfl) (fun _ _ _ _ h => h)) (pa_cons (pv 14) pa_nil)) (nomark _))))) (pw_or1 (PW.pt (pw_and (pt_cmpR (eqA K.K hr.units) (pe_call G_filled (hr.mono (by decide)) (by rfl) T.m_filled T.F_filled.kp T.b_filled .nil (passes_call (takes_of rfl rfl rfl rfl) (fun _ _ _ _ h => h)) (pa_cons (pv 6) (pa_cons (pe_orN (pv 14) (pe_one (pe_disp (pps_cons pe_str pe_int (pps_cons pe_str pe_int (pps_cons pe_str pe_int pps_nil))) (by rfl) (by rfl) (fun z => by cases z) (by decide)))) pa_nil))) (pe_tup pa_nil) (nomark _)) (pw_and1 (pt_cmpR (neA K.K hr.units) (pv 4) (pe_lst pa_nil) (nomark _))))))))) (pss_one (ps_ret pe_bl)) pss_nil)
      (pss_one (ps_if (PW.pt (pw_and (pt_cmpR op_notN (pv 14) pe_non (nomark _)) (pw_and1 (pt_cmpR (neA K.K hr.units) (pe_call G_filled (hr.mono (by decide)) (by rfl) T.m_filled T.F_filled.kp T.b_filled .nil (passes_call (takes_of rfl rfl rfl rfl) (fun _ _ _ _ h => h)) (pa_cons (pv 6) (pa_cons (pv 14) pa_nil))) (pv 7) (nomark _))))) (pss_one (ps_ret pe_bl)) pss_nil))))))))))))))))))
      (pss_one (ps_ret pe_bl))),
    (DL.s_seq (DL.s_for (vs := [1]) (DL.s_iS (DL.s_call dv_nil (DL.s_acons (DL.s_var 0) (DL.s_acons (DL.s_int 1) DL.s_anil)))) (g_name 1 (by decide)) (DL.s_seq (DL.s_set 2 (DL.s_lc (vs := [10]) (DL.s_iRg1 (DL.s_acons (DL.s_call dv_nil (DL.s_acons (DL.s_var 1) (DL.s_acons (DL.s_int 8) DL.s_anil))) DL.s_anil)) (g_name 10 (by decide)) (DL.s_nx (E' := L2.E0) DL.s_yes) (DL.s_nx (E' := L2.E0) (DL.s_cb o_tup (DL.s_acons (DL.s_lc (vs := [15]) (DL.s_iRg1 (DL.s_acons (DL.s_call dv_nil (DL.s_acons (DL.s_var 1) (DL.s_acons (DL.s_int 4) DL.s_anil))) DL.s_anil)) (g_name 15 (by decide)) (DL.s_nx (E' := L2.E0) DL.s_yes) (DL.s_nx (E' := L2.E0) (DL.s_call dv_nil (DL.s_acons (DL.s_var 1) DL.s_anil)))) DL.s_anil)))))
      (DL.s_seq (DL.s_set 3 (DL.s_call dv_nil (DL.s_acons (DL.s_var 2) DL.s_anil)))
      (DL.s_seq (DL.s_ifS (DL.s_tst (DL.s_op o_ne (DL.s_lc (vs := [10]) (DL.s_iRg2 (DL.s_acons (DL.s_int 1) (DL.s_acons (DL.s_cb o_len (DL.s_acons (DL.s_var 3) DL.s_anil)) DL.s_anil))) (g_name 10 (by decide)) (DL.s_nx (E' := L2.E0) (DL.s_tstB (DL.s_call dv_nil (DL.s_acons (DL.s_op o_ix (DL.s_var 3) (DL.s_var 10)) (DL.s_acons (DL.s_op o_ix (DL.s_var 3) (DL.s_op o_sub (DL.s_var 10) (DL.s_int 1))) DL.s_anil))))) (DL.s_nx (E' := L2.E0) (DL.s_var 10))) (DL.s_lst DL.s_anil))) (DL.s_ret (DL.s_bl false)) DL.s_nil)
      (DL.s_seq (DL.s_ifS (DL.s_tst (DL.s_op o_ne (DL.s_cb o_sort (DL.s_acons (DL.s_lc (vs := [7]) (DL.s_iS (DL.s_var 2)) (g_name 7 (by decide)) (DL.s_nx (E' := L2.E0) DL.s_yes) (DL.s_nx (E' := L2.E0) (DL.s_call dv_nil (DL.s_acons (DL.s_var 7) DL.s_anil)))) DL.s_anil)) (DL.s_lc (vs := [7]) (DL.s_iS (DL.s_var 3)) (g_name 7 (by decide)) (DL.s_nx (E' := L2.E0) DL.s_yes) (DL.s_nx (E' := L2.E0) (DL.s_call dv_nil (DL.s_acons (DL.s_var 7) DL.s_anil)))))) (DL.s_ret (DL.s_bl false)) DL.s_nil)
      (DL.s_seq (DL.s_set 4 (DL.s_lc (vs := [10]) (DL.s_iRg1 (DL.s_acons (DL.s_call dv_nil (DL.s_acons (DL.s_var 1) (DL.s_acons (DL.s_int 5) DL.s_anil))) DL.s_anil)) (g_name 10 (by decide)) (DL.s_nx (E' := L2.E0) DL.s_yes) (DL.s_nx (E' := L2.E0) (DL.s_call dv_nil (DL.s_acons (DL.s_var 1) DL.s_anil)))))
      (DL.s_seq (DL.s_set 5 (DL.s_cb o_dict (DL.s_acons (DL.s_lc (vs := [16]) (DL.s_iS (DL.s_sl (DL.s_str "XY") DL.s_po0 (DL.s_po (DL.s_call dv_nil (DL.s_acons (DL.s_var 1) (DL.s_acons (DL.s_int 3) DL.s_anil)))))) (g_name 16 (by decide)) (DL.s_nx (E' := L2.E0) DL.s_yes) (DL.s_nx (E' := L2.E0) (DL.s_tup (DL.s_acons (DL.s_var 16) (DL.s_acons (DL.s_call dv_nil (DL.s_acons (DL.s_var 1) DL.s_anil)) DL.s_anil))))) DL.s_anil)))
      (DL.s_seq (DL.s_ifS (DL.s_not (DL.s_tstB (DL.s_call dv_nil (DL.s_acons (DL.s_var 1) (DL.s_acons (DL.s_var 4) (DL.s_acons (DL.s_var 5) DL.s_anil)))))) (DL.s_ret (DL.s_bl false)) DL.s_nil)
      (DL.s_seq (DL.s_set 6 (DL.s_lc (vs := [17]) (DL.s_iS (DL.s_var 4)) (g_name 17 (by decide)) (DL.s_nx (E' := L2.E0) DL.s_yes) (DL.s_nx (E' := L2.E0) (DL.s_call dv_nil (DL.s_acons (DL.s_var 17) DL.s_anil)))))
      (DL.s_for (vs := [7]) (DL.s_iS (DL.s_op o_add (DL.s_var 2) (DL.s_lst (DL.s_acons (DL.s_cb o_tup (DL.s_acons (DL.s_lc (vs := [11, 12]) (DL.s_iS (DL.s_var 4)) (g_tup (gs_cons (g_name 11 (by decide)) (gs_cons (g_name 12 (by decide)) gs_nil))) (DL.s_nx (E' := L2.E0) DL.s_yes) (DL.s_nx (E' := L2.E0) (DL.s_if (DL.s_tst (DL.s_op o_eq (DL.s_var 11) (DL.s_str "val"))) (DL.s_var 12) (DL.s_mt ty_dct m_get (DL.s_var 5) (DL.s_acons (DL.s_var 12) (DL.s_acons (DL.s_int 1) DL.s_anil)))))) DL.s_anil)) DL.s_anil)))) (g_name 7 (by decide)) (DL.s_seq (DL.s_par (DL.s_acons (DL.s_cb o_dictM (DL.s_acons (DL.s_var 5) DL.s_anil)) (DL.s_acons (DL.s_op o_eq (DL.s_cb o_len (DL.s_acons (DL.s_var 7) DL.s_anil)) (DL.s_cb o_len (DL.s_acons (DL.s_var 4) DL.s_anil))) DL.s_anil)))
      (DL.s_seq (DL.s_for (vs := [10]) (DL.s_iRg1 (DL.s_acons (DL.s_cb o_min2 (DL.s_acons (DL.s_cb o_len (DL.s_acons (DL.s_var 7) DL.s_anil)) (DL.s_acons (DL.s_cb o_len (DL.s_acons (DL.s_var 4) DL.s_anil)) DL.s_anil))) DL.s_anil)) (g_name 10 (by decide)) (DL.s_seq (DL.s_asg (vs := [11, 12]) (DL.s_op o_ix (DL.s_var 4) (DL.s_var 10)) (g_tup (gs_cons (g_name 11 (by decide)) (gs_cons (g_name 12 (by decide)) gs_nil))))
      (DL.s_seq (DL.s_set 13 (DL.s_if (DL.s_tst (DL.s_op o_eq (DL.s_var 11) (DL.s_str "val"))) (DL.s_var 12) (DL.s_mt ty_dct m_setDf (DL.s_var 8) (DL.s_acons (DL.s_var 12) (DL.s_acons (DL.s_op o_ix (DL.s_var 7) (DL.s_var 10)) DL.s_anil)))))
      (DL.s_set 9 (DL.s_andV (DL.s_var 9) (DL.s_andV (DL.s_op o_eq (DL.s_var 13) (DL.s_op o_ix (DL.s_var 7) (DL.s_var 10))) (DL.s_op o_eq (DL.s_cb o_isi (DL.s_acons (DL.s_var 13) (DL.s_acons (DL.s_c fun _ => .cls "int") DL.s_anil))) (DL.s_cb o_isi (DL.s_acons (DL.s_op o_ix (DL.s_var 7) (DL.s_var 10)) (DL.s_acons (DL.s_c fun _ => .cls "int") DL.s_anil))))))))))
      (DL.s_seq (DL.s_set 14 (DL.s_if (DL.s_tstB (DL.s_var 9)) (DL.s_var 8) DL.s_non))
      (DL.s_seq (DL.s_set 3 (DL.s_call dv_nil (DL.s_acons (DL.s_var 6) (DL.s_acons (DL.s_var 7) (DL.s_acons (DL.s_var 5) DL.s_anil)))))
      (DL.s_seq (DL.s_ifS (DL.s_or (DL.s_tst (DL.s_op o_neX (DL.s_var 3) (DL.s_var 14))) (DL.s_or (DL.s_and (DL.s_tst (DL.s_op o_notN (DL.s_var 14) DL.s_non)) (DL.s_tst (DL.s_op o_ne (DL.s_call dv_nil (DL.s_acons (DL.s_var 3) DL.s_anil)) (DL.s_call dv_nil (DL.s_acons (DL.s_var 14) DL.s_anil))))) (DL.s_and (DL.s_tst (DL.s_op o_eq (DL.s_call dv_nil (DL.s_acons (DL.s_var 6) (DL.s_acons (DL.s_orN (DL.s_var 14) (DL.s_disp (.cons ⟨(DL.s_str "X"), (DL.s_int 0)⟩ (.cons ⟨(DL.s_str "Y"), (DL.s_int 0)⟩ (.cons ⟨(DL.s_str "Z"), (DL.s_int 0)⟩ .nil))))) DL.s_anil))) (DL.s_tup DL.s_anil))) (DL.s_tst (DL.s_op o_ne (DL.s_var 4) (DL.s_lst DL.s_anil)))))) (DL.s_ret (DL.s_bl false)) DL.s_nil)
      (DL.s_ifS (DL.s_and (DL.s_tst (DL.s_op o_notN (DL.s_var 14) DL.s_non)) (DL.s_tst (DL.s_op o_ne (DL.s_call dv_nil (DL.s_acons (DL.s_var 6) (DL.s_acons (DL.s_var 14) DL.s_anil))) (DL.s_var 7)))) (DL.s_ret (DL.s_bl false)) DL.s_nil))))))))))))))))
      (DL.s_ret (DL.s_bl true)))⟩
end
end Toy

set_option Elab.async false
set_option linter.all false
set_option maxRecDepth 100000
set_option maxHeartbeats 4000000
namespace Toy
open PySem L2 DL
/-! ## rules of reckoning on data -/
theorem eqD_int (W : Ms) (i j : Int) : DL.eqD W (.d (.int i)) (.d (.int j)) = .ok (.d (.bl (decide (i = j)))) W := by
  unfold DL.eqD; simp [rdD, scalD]
theorem setIx_l {W : Ms} {n : Nat} {l : List Vl} {k : Int} {v : Vl} (h : W[n]? = some (.lst l)) {j : Nat} (hj : ixN l.length k = some j) : setIx W (.mu n) (.d (.int k)) v = some (W.set n (.lst (l.set j v))) := by
  simp [setIx, h, hj]
def Dc (m : M) : Prop := ∃ a b c : Int, m = .lst [.d (.int a), .d (.int b), .d (.int c)]
theorem roll (A : Ad) {m : M} (hm : Dc m) (R : Ms) {k : Int} (h0 : 0 < k) (h1 : k < 1000) : ∃ r m', 0 ≤ r ∧ r < k ∧ Dc m' ∧ f_l_roll A [.mu 0, .d (.int k)] (m :: R) = .ok (.d (.int r)) (m' :: R) := by
  obtain ⟨a, b, c, rfl⟩ := hm
  have k1 : CDiv a k := ⟨h0, by omega⟩
  by_cases hc : c = 2 ∨ (c = 1 ∧ 0 < a)
  · refine ⟨a % k, .lst [.d (.int (a / k)), .d (.int b), .d (.int c)], Int.emod_nonneg _ (by omega), Int.emod_lt_of_pos _ h0, ⟨_, _, _, rfl⟩, ?_⟩
    rcases hc with rfl | ⟨rfl, ha⟩
    · simp [f_l_roll, run0, b_l_roll, startE, sSeq, sIf, tstOr, tstAnd, tstV, eOp, eVar, eC, eCB, aCons, aNil, sSet, sPut, sRet, ixD, dctOf, seqOf, lstOf, atI, intOf, eqD_int, blOf, intD, modD, arC, fdivD, mulD, addD, gtI, arI, setIx, ixN, h0, k1]
    · simp [f_l_roll, run0, b_l_roll, startE, sSeq, sIf, tstOr, tstAnd, tstV, eOp, eVar, eC, eCB, aCons, aNil, sSet, sPut, sRet, ixD, dctOf, seqOf, lstOf, atI, intOf, eqD_int, blOf, intD, modD, arC, fdivD, mulD, addD, gtI, arI, setIx, ixN, h0, k1, ha]
  · have hc1 : ¬ c = 2 := fun z => hc (.inl z)
    have hc2 : c = 1 → ¬ 0 < a := fun z y => hc (.inr ⟨z, y⟩)
    have m1 : CMul a 48271 := .inr (by omega)
    have m2 : CMul b 69621 := .inr (by omega)
    have e : f_l_roll A [.mu 0, .d (.int k)] (M.lst [.d (.int a), .d (.int b), .d (.int c)] :: R) = .ok (.d (.int (((a * 48271 + b * 69621 + 11) % 2147483647 / 7 + (a * 48271 + b * 69621 + 11) % 2147483647) % k))) (M.lst [.d (.int ((a * 48271 + b * 69621 + 11) % 2147483647)), .d (.int (b + 1)), .d (.int 0)] :: R) := by
      have k2 : CDiv ((a * 48271 + b * 69621 + 11) % 2147483647) 7 := ⟨by omega, by omega⟩
      by_cases hd : c = 1
      · simp [f_l_roll, run0, b_l_roll, startE, sSeq, sIf, tstOr, tstAnd, tstV, eOp, eVar, eC, eCB, aCons, aNil, sSet, sPut, sRet, ixD, dctOf, seqOf, lstOf, atI, intOf, eqD_int, blOf, intD, modD, arC, fdivD, mulD, addD, gtI, arI, setIx, ixN, h0, k1, hc1, hd, hc2 hd, m1, m2, k2, sNil]
      · simp [f_l_roll, run0, b_l_roll, startE, sSeq, sIf, tstOr, tstAnd, tstV, eOp, eVar, eC, eCB, aCons, aNil, sSet, sPut, sRet, ixD, dctOf, seqOf, lstOf, atI, intOf, eqD_int, blOf, intD, modD, arC, fdivD, mulD, addD, gtI, arI, setIx, ixN, h0, k1, hc1, hd, m1, m2, k2, sNil]
    exact ⟨_, _, Int.emod_nonneg _ (by omega), Int.emod_lt_of_pos _ h0, ⟨_, _, _, rfl⟩, e⟩
end Toy

set_option Elab.async false
set_option linter.all false
set_option maxRecDepth 100000
set_option maxHeartbeats 4000000
namespace Toy
open PySem L2 DL
/-! ## values, terms -/
def vals : List D := [.int (-3), .int 0, .int 1, .int 2, .str "a", .str "b", .str "it's", .str "not", .str "Up", .str "x y"]
inductive T where
  | v (n : Str) | c (x : D)
def okT : T → Prop
  | .v n => n = "X" ∨ n = "Y" ∨ n = "Z"
  | .c x => x ∈ vals
def tmD : T → D
  | .v n => .tup [.str "var", .str n]
  | .c x => .tup [.str "val", x]
def mk (A : Ad) : T → D
  | .v n => .ins A.C_Term [("name", .str n), ("value", .non)]
  | .c x => .ins A.C_Term [("name", .str ""), ("value", x)]
theorem int10 {r : Int} (h0 : 0 ≤ r) (h1 : r < 10) : r = 0 ∨ r = 1 ∨ r = 2 ∨ r = 3 ∨ r = 4 ∨ r = 5 ∨ r = 6 ∨ r = 7 ∨ r = 8 ∨ r = 9 := by omega
theorem value (A : Ad) {m : M} (hm : Dc m) (R : Ms) : ∃ v m', v ∈ vals ∧ Dc m' ∧ f_l_value A [.mu 0] (m :: R) = .ok (.d v) (m' :: R) := by
  obtain ⟨r, m', h0, h1, hd, e⟩ := roll A hm R (k := 10) (by omega) (by omega)
  have go : ∀ v, atI (vals.map Vl.d) r = some (.d v) → f_l_value A [.mu 0] (m :: R) = .ok (.d v) (m' :: R) := fun v hv => by
    have hv' : atI (vals.map Vl.d) r = some (.d v) := hv
    simp only [vals, List.map_cons, List.map_nil] at hv'
    simp [f_l_value, run0, b_l_value, startE, eOp, eVar, eC, eCall, aCons, aNil, sRet, eLst, mkLst, dsOf, subD, arI, intOf, e, ixD, dctOf, seqOf, lstOf, hv']
  rcases int10 h0 h1 with rfl | rfl | rfl | rfl | rfl | rfl | rfl | rfl | rfl | rfl
  · exact ⟨.int (-3), m', by simp [vals], hd, go _ rfl⟩
  · exact ⟨.int 0, m', by simp [vals], hd, go _ rfl⟩
  · exact ⟨.int 1, m', by simp [vals], hd, go _ rfl⟩
  · exact ⟨.int 2, m', by simp [vals], hd, go _ rfl⟩
  · exact ⟨.str "a", m', by simp [vals], hd, go _ rfl⟩
  · exact ⟨.str "b", m', by simp [vals], hd, go _ rfl⟩
  · exact ⟨.str "it's", m', by simp [vals], hd, go _ rfl⟩
  · exact ⟨.str "not", m', by simp [vals], hd, go _ rfl⟩
  · exact ⟨.str "Up", m', by simp [vals], hd, go _ rfl⟩
  · exact ⟨.str "x y", m', by simp [vals], hd, go _ rfl⟩
theorem strX : ("XYZ" : Str).cps.toList = [88, 89, 90] := rfl
theorem term (A : Ad) {m : M} (hm : Dc m) (R : Ms) : ∃ t m', okT t ∧ Dc m' ∧ f_l_term A [.mu 0] (m :: R) = .ok (.d (tmD t)) (m' :: R) := by
  obtain ⟨r, m1, h0, h1, hd, e⟩ := roll A hm R (k := 2) (by omega) (by omega)
  by_cases hr : r = 0
  · obtain ⟨r2, m2, g0, g1, hd2, e2⟩ := roll A hd R (k := 3) (by omega) (by omega)
    have go : ∀ n : Nat, atI ("XYZ" : Str).cps.toList r2 = some n → f_l_term A [.mu 0] (m :: R) = .ok (.d (tmD (.v ⟨#[n]⟩))) (m2 :: R) := fun n hn => by
      have hz : ("XYZ" : Str).length ≤ 1000000 := by decide
      simp [f_l_term, run0, b_l_term, startE, eOp, eVar, eC, eCall, aCons, aNil, sRet, eIf, tstV, e, eqD_int, hr, blOf, eTup, mkTup, dsOf, e2, ixD, dctOf, intOf, seqOf, lstOf, DL.tupOf, strOf, hn, hz, tmD]
    have : r2 = 0 ∨ r2 = 1 ∨ r2 = 2 := by omega
    rcases this with rfl | rfl | rfl
    · exact ⟨.v "X", m2, .inl rfl, hd2, go 88 rfl⟩
    · exact ⟨.v "Y", m2, .inr (.inl rfl), hd2, go 89 rfl⟩
    · exact ⟨.v "Z", m2, .inr (.inr rfl), hd2, go 90 rfl⟩
  · obtain ⟨v, m2, hv, hd2, e2⟩ := value A hd R
    refine ⟨.c v, m2, hv, hd2, ?_⟩
    simp [f_l_term, run0, b_l_term, startE, eOp, eVar, eC, eCall, aCons, aNil, sRet, eIf, tstV, e, eqD_int, hr, blOf, eTup, mkTup, dsOf, e2, tmD]
/-! ### the program's terms -/
@[simp] theorem ne_nv : ¬ (("name" : Str) = "value") := by decide +kernel
@[simp] theorem ne_vv : ¬ (("val" : Str) = "var") := by decide +kernel
@[simp] theorem ne_vv2 : ¬ (("var" : Str) = "val") := by decide +kernel
@[simp] theorem app_get (W : Ms) (x : M) : (W ++ [x])[W.length]? = some x := by simp
@[simp] theorem app_set (W : Ms) (x y : M) : (W ++ [x]).set W.length y = W ++ [y] := by simp
@[simp] theorem fin_app (W X : Ms) (x : D) : fin W (.d x) (W ++ X) = .ok (.d x) W := by
  unfold fin
  rw [if_pos ⟨rfl, fun i hi => .inl (List.getElem?_append_left hi)⟩, List.take_left']
  rfl
theorem mk_var (A : Ad) (n : Str) (W : Ms) : f_var A [.d (.str n)] W = .ok (.d (mk A (.v n))) W := by
  simp [f_var, run0, b_var, startE, eVar, eC, aCons, aNil, sRet, eMake, f_Term_init, b_Term_init, sSeq, sFldSet, setFld, putV, DL.isNon, frz, frozen, insD, mk]
theorem mk_val (A : Ad) (x : D) (W : Ms) : f_val A [.d x] W = .ok (.d (mk A (.c x))) W := by
  simp [f_val, run0, b_val, startE, eVar, eC, aCons, aNil, sRet, eMake, f_Term_init, b_Term_init, sSeq, sFldSet, setFld, putV, DL.isNon, frz, frozen, insD, mk]
theorem make (A : Ad) (t : T) (W : Ms) : f_l_make A [.d (tmD t)] W = .ok (.d (mk A t)) W := by
  cases t with
  | v n => simp [f_l_make, run0, b_l_make, startE, eVar, eC, aCons, aNil, sRet, eIf, tstV, eOp, ixD, dctOf, intOf, seqOf, lstOf, DL.tupOf, tmD, atI, ixN, DL.eqD, rdD, scalD, blOf, eCall, mk_var]
  | c x => simp [f_l_make, run0, b_l_make, startE, eVar, eC, aCons, aNil, sRet, eIf, tstV, eOp, ixD, dctOf, intOf, seqOf, lstOf, DL.tupOf, tmD, atI, ixN, DL.eqD, rdD, scalD, blOf, eCall, mk_val]
end Toy

set_option Elab.async false
set_option linter.all false
set_option maxRecDepth 100000
set_option maxHeartbeats 4000000
namespace Toy
open PySem L2 DL
/-! ## comprehensions and walks, in general -/
theorem lc_may {α : Type} {kp : Ms → Prop} {fg : FG} {t : FT} {f : FE} {ρ : Ev} {W : Ms} {C : Addr} (emb : α → Vl) (h : α → Option D) (hk : kp W) : ∀ l : List α,
    (∀ a ∈ l, ∃ ρ', fg (emb a) ρ = some ρ' ∧ t ρ' W = .ok true W ∧ f ρ' W = match h a with | some y => .ok (.d y) W | none => .exc C W) →
    lcL kp fg t f ρ (l.map emb) W = match l.mapM h with | some ys => .ok (ys.map Vl.d) W | none => .exc C W
  | [], _ => by simp [lcL, hk]
  | a :: l, H => by
    obtain ⟨ρ', e1, e2, e3⟩ := H a List.mem_cons_self
    have ih := lc_may emb h hk l fun b hb => H b (List.mem_cons_of_mem _ hb)
    simp only [List.map_cons, lcL, if_pos hk, e1, e2, Res.bind_ok, if_true, e3]
    cases q : h a with
    | none => simp [List.mapM_cons, q]
    | some y =>
      simp only [Res.bind_ok, ih, List.mapM_cons, q, Option.bind_eq_bind, Option.bind_some]
      cases l.mapM h with
      | none => rfl
      | some ys => rfl
theorem lc_pure {α : Type} {kp : Ms → Prop} {fg : FG} {t : FT} {f : FE} {ρ : Ev} {W : Ms} (emb : α → Vl) (p : α → Bool) (g : α → D) (hk : kp W) : ∀ l : List α,
    (∀ a ∈ l, ∃ ρ', fg (emb a) ρ = some ρ' ∧ t ρ' W = .ok (p a) W ∧ (p a = true → f ρ' W = .ok (.d (g a)) W)) →
    lcL kp fg t f ρ (l.map emb) W = .ok (((l.filter p).map g).map Vl.d) W
  | [], _ => by simp [lcL, hk]
  | a :: l, H => by
    obtain ⟨ρ', e1, e2, e3⟩ := H a List.mem_cons_self
    have ih := lc_pure emb p g hk l fun b hb => H b (List.mem_cons_of_mem _ hb)
    cases q : p a with
    | false => simp [lcL, hk, e1, e2, q, ih]
    | true => simp [lcL, hk, e1, e2, q, ih, e3 q]
theorem dsOf_map (l : List D) : dsOf (l.map Vl.d) = some l := by
  induction l with
  | nil => rfl
  | cons x l ih => simp [dsOf, ih]
theorem mkLst_map (l : List D) (W : Ms) (h : l.length ≤ 1000000) : mkLst (l.map Vl.d) W = .ok (.d (.lst l)) W := by
  simp [mkLst, h, dsOf_map]
theorem mkTup_map (l : List D) (W : Ms) (h : l.length ≤ 1000000) : mkTup (l.map Vl.d) W = .ok (.d (.tup l)) W := by
  simp [mkTup, h, dsOf_map]
/-- a comprehension whose parts change nothing -/
theorem eLc_pure {α : Type} {fi : FI} {fg : FG} {t : FT} {f : FE} {vs : List Nat} {ρ : Ev} {W : Ms} (emb : α → Vl) (p : α → Bool) (g : α → D) (l : List α) (hi : fi ρ W = .ok ⟨l.map emb, yes⟩ W) (hl : l.length ≤ 1000000)
    (H : ∀ a ∈ l, ∃ ρ', fg (emb a) (wipeE ρ vs) = some ρ' ∧ t ρ' W = .ok (p a) W ∧ (p a = true → f ρ' W = .ok (.d (g a)) W)) :
    eLc fi fg t f vs ρ W = .ok (.d (.lst ((l.filter p).map g))) W := by
  have hl2 : ((l.filter p).map g).length ≤ 1000000 := by
    rw [List.length_map]
    exact Nat.le_trans (List.length_filter_le _ _) hl
  simp only [eLc, lcA, hi, Res.bind_ok, lcB, List.length_map, if_pos hl]
  rw [lc_pure emb p g trivial l H, Res.bind_ok, mkLst_map _ _ hl2]
theorem eLc_all {α : Type} {fi : FI} {fg : FG} {f : FE} {vs : List Nat} {ρ : Ev} {W : Ms} (emb : α → Vl) (g : α → D) (l : List α) (hi : fi ρ W = .ok ⟨l.map emb, yes⟩ W) (hl : l.length ≤ 1000000)
    (H : ∀ a ∈ l, ∃ ρ', fg (emb a) (wipeE ρ vs) = some ρ' ∧ f ρ' W = .ok (.d (g a)) W) :
    eLc fi fg (nxE tstYes) f vs ρ W = .ok (.d (.lst (l.map g))) W := by
  have := eLc_pure (t := nxE tstYes) (f := f) (vs := vs) emb (fun _ => true) g l hi hl fun a ha => by
    obtain ⟨ρ', e1, e2⟩ := H a ha
    exact ⟨ρ', e1, rfl, fun _ => e2⟩
  rw [List.filter_eq_self.mpr fun _ _ => rfl] at this
  exact this
/-- one whose parts change the state -/
theorem lc_st {α : Type} {fg : FG} {f : FE} {ρ : Ev} (emb : α → Vl) (I : Ms → Prop) (P : D → Prop) : ∀ (l : List α) (W : Ms), I W →
    (∀ a ∈ l, ∀ W, I W → ∃ ρ' y W', fg (emb a) ρ = some ρ' ∧ f ρ' W = .ok (.d y) W' ∧ P y ∧ I W') →
    ∃ (ys : List D) (W' : Ms), lcL yes fg (nxE tstYes) f ρ (l.map emb) W = .ok (ys.map Vl.d) W' ∧ ys.length = l.length ∧ (∀ y ∈ ys, P y) ∧ I W'
  | [], W, i, _ => ⟨[], W, by simp [lcL, yes], rfl, (fun y h => nomatch h), i⟩
  | a :: l, W, i, H => by
    obtain ⟨ρ', y, W1, e1, e2, p, i1⟩ := H a List.mem_cons_self W i
    obtain ⟨ys, W2, e3, hl, hp, i2⟩ := lc_st emb I P l W1 i1 fun b hb => H b (List.mem_cons_of_mem _ hb)
    refine ⟨y :: ys, W2, ?_, by rw [List.length_cons, hl, List.length_cons], fun z hz => ?_, i2⟩
    · have ey : nxE tstYes ρ' W = .ok true W := rfl
      simp [lcL, yes, e1, ey, e2]
      simp [e3]
    · rcases List.mem_cons.mp hz with rfl | hz
      · exact p
      · exact hp z hz
theorem eLc_st {α : Type} {fi : FI} {fg : FG} {f : FE} {vs : List Nat} {ρ : Ev} {W W0 : Ms} (emb : α → Vl) (I : Ms → Prop) (P : D → Prop) (l : List α) (hi : fi ρ W = .ok ⟨l.map emb, yes⟩ W0) (i : I W0) (hl : l.length ≤ 1000000)
    (H : ∀ a ∈ l, ∀ W, I W → ∃ ρ' y W', fg (emb a) (wipeE ρ vs) = some ρ' ∧ f ρ' W = .ok (.d y) W' ∧ P y ∧ I W') :
    ∃ (ys : List D) (W' : Ms), eLc fi fg (nxE tstYes) f vs ρ W = .ok (.d (.lst ys)) W' ∧ ys.length = l.length ∧ (∀ y ∈ ys, P y) ∧ I W' := by
  obtain ⟨ys, W', e, h1, h2, h3⟩ := lc_st emb I P l W0 i H
  refine ⟨ys, W', ?_, h1, h2, h3⟩
  simp only [eLc, lcA, hi, Res.bind_ok, lcB, List.length_map, if_pos hl, e]
  exact mkLst_map _ _ (by rw [h1]; exact hl)
end Toy

set_option Elab.async false
set_option linter.all false
set_option maxRecDepth 100000
set_option maxHeartbeats 4000000
namespace Toy
open PySem L2 DL
/-! ## the program's terms, what they say -/
abbrev B := List (Str × D)
def bV (b : B) : List (D × Vl) := b.map fun p => (D.str p.1, Vl.d p.2)
theorem getK_bV (n : Str) : ∀ b : B, getK (bV b) (.str n) = (b.lookup n).map Vl.d
  | [] => rfl
  | (m, x) :: b => by
    have ih := getK_bV n b
    simp only [bV, List.map_cons, getK]
    by_cases h : m = n
    · subst h
      simp [List.lookup_cons]
    · have h2 : ¬ D.str m = D.str n := fun z => h (D.str.inj z)
      have h3 : (n == m) = false := by simpa using fun z => h z.symm
      rw [if_neg h2, List.lookup_cons, h3]
      exact ih
theorem okKey_bV (n : Str) (b : B) : okKey (bV b) (.str n) = true := by
  cases b with
  | nil => rfl
  | cons p b => rfl
def T.isV : T → Bool
  | .v _ => true
  | .c _ => false
def kn (b : B) : T → Bool
  | .v n => (b.lookup n).isSome
  | .c _ => true
def und (b : B) : T → Option D
  | .v n => b.lookup n
  | .c x => some x
section
variable (A : Ad) (W : Ms)
theorem insOf_mk (t : T) : insOf W (.d (mk A t)) = some (A.C_Term, match t with | .v n => [("name", .d (.str n)), ("value", .d .non)] | .c x => [("name", .d (.str "")), ("value", .d x)]) := by
  cases t <;> rfl
@[simp] theorem ne_m1 : ¬ (("is_variable" : Str) = "name") := by decide +kernel
@[simp] theorem ne_m2 : ¬ (("is_variable" : Str) = "value") := by decide +kernel
@[simp] theorem ne_m3 : ¬ (("shown" : Str) = "name") := by decide +kernel
@[simp] theorem ne_m4 : ¬ (("shown" : Str) = "value") := by decide +kernel
@[simp] theorem ne_m5 : ¬ (("known" : Str) = "name") := by decide +kernel
@[simp] theorem ne_m6 : ¬ (("known" : Str) = "value") := by decide +kernel
@[simp] theorem ne_m7 : ¬ (("under" : Str) = "name") := by decide +kernel
@[simp] theorem ne_m8 : ¬ (("under" : Str) = "value") := by decide +kernel
@[simp] theorem ne_vn : ¬ (("value" : Str) = "name") := by decide +kernel
theorem isI_mk (t : T) : isI A.C_Term "is_variable" W (.d (mk A t)) = true ∧ isI A.C_Term "shown" W (.d (mk A t)) = true ∧ isI A.C_Term "known" W (.d (mk A t)) = true ∧ isI A.C_Term "under" W (.d (mk A t)) = true := by
  cases t <;> simp [isI, insOf_mk, List.lookup_cons, List.lookup_nil, beq_eq_false_iff_ne.mpr]
theorem fld_name (t : T) : fldOf "name" W (.d (mk A t)) = .ok (.d (.str (match t with | .v n => n | .c _ => ""))) W := by
  cases t <;> simp [fldOf, insOf_mk, List.lookup_cons]
theorem fld_value (x : D) : fldOf "value" W (.d (mk A (.c x))) = .ok (.d x) W := by
  have h : (("value" : Str) == "name") = false := by decide +kernel
  simp [fldOf, insOf_mk, List.lookup_cons, h]
theorem neD_str (a b : Str) : DL.neD W (.d (.str a)) (.d (.str b)) = .ok (.d (.bl (!decide (a = b)))) W := by
  unfold DL.neD
  simp [rdD, scalD]
theorem eqD_str (a b : Str) : DL.eqD W (.d (.str a)) (.d (.str b)) = .ok (.d (.bl (decide (a = b)))) W := by
  unfold DL.eqD
  simp [rdD, scalD]
theorem is_var {t : T} (ht : okT t) : f_Term_is_variable A [.d (mk A t)] W = .ok (.d (.bl t.isV)) W := by
  cases t with
  | v n =>
    have hn : ¬ n = ("" : Str) := by rcases ht with rfl | rfl | rfl <;> decide +kernel
    simp [f_Term_is_variable, run0, b_Term_is_variable, startE, sRet, eOp, eFld, eUn, eVar, eC, fld_name, neD_str, T.isV, hn]
  | c x => simp [f_Term_is_variable, run0, b_Term_is_variable, startE, sRet, eOp, eFld, eUn, eVar, eC, fld_name, neD_str, T.isV]
theorem shown {t : T} (ht : okT t) : f_Term_shown A [.d (mk A t)] W = .ok (.d (tmD t)) W := by
  have h1 := is_var A W ht
  have h2 := (isI_mk A W t).1
  cases t with
  | v n => simp [f_Term_shown, run0, b_Term_shown, startE, sRet, eIf, tstV, eMeth, eVar, eC, aNil, aCons, h1, h2, blOf, T.isV, eTup, mkTup, dsOf, eFld, eUn, fld_name, tmD]
  | c x => simp [f_Term_shown, run0, b_Term_shown, startE, sRet, eIf, tstV, eMeth, eVar, eC, aNil, aCons, h1, h2, blOf, T.isV, eTup, mkTup, dsOf, eFld, eUn, fld_value, tmD]
variable {b : B} {x : Vl}
theorem known {t : T} (ht : okT t) (hb : dctOf W x = some (bV b)) : f_Term_known A [.d (mk A t), x] W = .ok (.d (.bl (kn b t))) W := by
  have h1 := is_var A W ht
  have h2 := (isI_mk A W t).1
  cases t with
  | v n => simp [f_Term_known, run0, b_Term_known, startE, sRet, eOrV, eNotV, eUn, eMeth, eVar, eC, aNil, aCons, h1, h2, blOf, T.isV, eOp, eFld, fld_name, DL.inD, isIn, hb, okKey_bV, getK_bV, kn]
  | c x => simp [f_Term_known, run0, b_Term_known, startE, sRet, eOrV, eNotV, eUn, eMeth, eVar, eC, aNil, aCons, h1, h2, blOf, T.isV, kn]
theorem under {t : T} (ht : okT t) (hb : dctOf W x = some (bV b)) : f_Term_under A [.d (mk A t), x] W = match und b t with | some y => .ok (.d y) W | none => .exc A.C_NoSuch W := by
  have h1 := is_var A W ht
  have h2 := (isI_mk A W t).1
  cases t with
  | v n =>
    have hn1 : n.length ≤ 1000000 := by rcases ht with rfl | rfl | rfl <;> decide
    have hn2 : (Str.empty ++ ("not bound: " : Str)).length ≤ sizeLine := by
      have : (Str.empty ++ ("not bound: " : Str)).length ≤ 1000000 := by decide +kernel
      exact mil this
    have hn3 : (Str.empty ++ ("not bound: " : Str) ++ n).length ≤ sizeLine := by
      have : (Str.empty ++ ("not bound: " : Str) ++ n).length ≤ 1000000 := by rcases ht with rfl | rfl | rfl <;> decide +kernel
      exact mil this
    cases q : b.lookup n with
    | none => simp [f_Term_under, run0, b_Term_under, startE, sSeq, sIf, tstNot, tstV, sRet, eUn, eMeth, eVar, eC, aNil, aCons, h1, h2, blOf, T.isV, eOp, eFld, fld_name, DL.notInD, isIn, hb, okKey_bV, getK_bV, und, q, sNil, sRaise, eJoin, fJs, eFmt, fmtD, strOf, hn1, hn2, hn3]
    | some y => simp [f_Term_under, run0, b_Term_under, startE, sSeq, sIf, tstNot, tstV, sRet, eUn, eMeth, eVar, eC, aNil, aCons, h1, h2, blOf, T.isV, eOp, eFld, fld_name, DL.notInD, isIn, hb, okKey_bV, getK_bV, und, q, sNil, ixD]
  | c x => simp [f_Term_under, run0, b_Term_under, startE, sSeq, sIf, tstNot, tstV, sRet, eUn, eMeth, eVar, eC, aNil, aCons, h1, h2, blOf, T.isV, eFld, fld_value, und]
end
end Toy

set_option Elab.async false
set_option linter.all false
set_option maxRecDepth 100000
set_option maxHeartbeats 4000000
namespace Toy
open PySem L2 DL
/-! ## the program's functions of rows of terms -/
theorem tupD_lst (l : List D) (W : Ms) (h : l.length ≤ 1000000) : tupD W [.d (.lst l)] = .ok (.d (.tup l)) W := by
  have e : DL.tupOf (.d (.lst l)) = none := rfl
  simp only [tupD, e, srcOf, seqOf, lstOf]
  exact mkTup_map l W h
theorem seq_lst (l : List D) (W : Ms) : seqItm (.d (.lst l)) W = .ok ⟨l.map Vl.d, yes⟩ W := rfl
theorem seq_tup (l : List D) (W : Ms) : seqItm (.d (.tup l)) W = .ok ⟨l.map Vl.d, yes⟩ W := rfl
def okTs (ts : List T) : Prop := (∀ t ∈ ts, okT t) ∧ ts.length ≤ 1000
theorem okTs.l {ts : List T} (h : okTs ts) : ts.length ≤ 1000000 := Nat.le_trans h.2 (by decide)
theorem mapM_len {α β : Type} {h : α → Option β} : ∀ {l : List α} {ys : List β}, l.mapM h = some ys → ys.length = l.length
  | [], ys, e => by
    simp at e
    subst e
    rfl
  | a :: l, ys, e => by
    rw [List.mapM_cons] at e
    cases q : h a with
    | none => simp [q] at e
    | some y =>
      cases q2 : l.mapM h with
      | none => simp [q, q2] at e
      | some zs =>
        simp [q, q2] at e
        subst e
        simp [mapM_len q2]
section
variable (A : Ad) (W : Ms) {ts : List T} {x : Vl}
theorem shown_all (h : okTs ts) (hx : seqItm x W = .ok ⟨ts.map fun t => Vl.d (mk A t), yes⟩ W) : f_shown_all A [x] W = .ok (.d (.tup (ts.map tmD))) W := by
  have e : eLc (iS (eVar 0)) (gN 1) (nxE tstYes) (nxE (eMeth A.C_Term "shown" (f_Term_shown A) [] (eVar 1) aNil)) [1] [some x, none] W = .ok (.d (.lst (ts.map tmD))) W := by
    refine eLc_all (fun t => Vl.d (mk A t)) tmD ts (by simpa [iS, eVar] using hx) h.l fun t ht => ⟨_, rfl, ?_⟩
    have h2 := (isI_mk A W t).2.1
    simp [nxE, eMeth, eVar, wipeE, aNil, shown A W (h.1 t ht), h2]
  have hz : (ts.map tmD).length ≤ 1000000 := by rw [List.length_map]; exact h.l
  simp [f_shown_all, run0, b_shown_all, startE, sRet, eCB, aCons, aNil, e, tupD_lst _ _ hz]
def ren (b : B) : T → T
  | .v n => match b.lookup n with
    | some (.str m) => .v m
    | _ => .v n
  | .c x => .c x
theorem renamed (h : okTs ts) {b : B} {y : Vl} (hb : dctOf W y = some (bV b)) (hs : ∀ n z, b.lookup n = some z → ∃ m, z = .str m) :
    f_renamed A [.d (.lst (ts.map (mk A))), y] W = .ok (.d (.tup (ts.map fun t => mk A (ren b t)))) W := by
  have e : eLc (iS (eVar 0)) (gN 2) (nxE tstYes) (nxE (eIf (tstAnd (tstV (eMeth A.C_Term "is_variable" (f_Term_is_variable A) [] (eVar 2) aNil)) (tstV (eOp DL.inD (eFld "name" (eVar 2)) (eVar 1)))) (eCall (f_var A) [] (aCons (eOp ixD (eVar 1) (eFld "name" (eVar 2))) aNil)) (eVar 2))) [2] [some (.d (.lst (ts.map (mk A)))), some y, none] W
      = .ok (.d (.lst (ts.map fun t => mk A (ren b t)))) W := by
    refine eLc_all (fun t => Vl.d (mk A t)) (fun t => mk A (ren b t)) ts (by simp [iS, eVar, seq_lst, List.map_map, Function.comp_def]) h.l fun t ht => ⟨_, rfl, ?_⟩
    have h2 := (isI_mk A W t).1
    have h1 := is_var A W (h.1 t ht)
    cases t with
    | v n =>
      cases q : b.lookup n with
      | none => simp [nxE, eIf, tstAnd, tstV, eMeth, eVar, wipeE, aNil, aCons, h1, h2, blOf, T.isV, eOp, eFld, eUn, fld_name, DL.inD, isIn, hb, okKey_bV, getK_bV, q, ren]
      | some z =>
        obtain ⟨m, rfl⟩ := hs n z q
        simp [nxE, eIf, tstAnd, tstV, eMeth, eVar, wipeE, aNil, aCons, h1, h2, blOf, T.isV, eOp, eFld, eUn, fld_name, DL.inD, isIn, hb, okKey_bV, getK_bV, q, ren, eCall, ixD, mk_var]
    | c z => simp [nxE, eIf, tstAnd, tstV, eMeth, eVar, wipeE, aNil, aCons, h1, h2, blOf, T.isV, ren]
  have hz : (ts.map fun t => mk A (ren b t)).length ≤ 1000000 := by rw [List.length_map]; exact h.l
  simp [f_renamed, run0, b_renamed, startE, sRet, eCB, aCons, aNil, e, tupD_lst _ _ hz]
theorem filled (h : okTs ts) {b : B} {y : Vl} (hb : dctOf W y = some (bV b)) :
    f_filled A [.d (.lst (ts.map (mk A))), y] W = match ts.mapM (und b) with | some ys => .ok (.d (.tup ys)) W | none => .exc A.C_NoSuch W := by
  have hi : iS (eVar 0) [some (.d (.lst (ts.map (mk A)))), some y, none] W = .ok ⟨ts.map fun t => Vl.d (mk A t), yes⟩ W := by simp [iS, eVar, seq_lst, List.map_map, Function.comp_def]
  have e := lc_may (fg := gN 2) (t := nxE tstYes) (f := eMeth A.C_Term "under" (f_Term_under A) [] (eVar 2) (aCons (eVar 1) aNil)) (ρ := wipeE [some (.d (.lst (ts.map (mk A)))), some y, none] [2]) (W := W) (C := A.C_NoSuch) (kp := yes) (fun t => Vl.d (mk A t)) (und b) trivial ts fun t ht => by
    refine ⟨_, rfl, rfl, ?_⟩
    have h2 := (isI_mk A W t).2.2.2
    have h1 := under A W (h.1 t ht) hb
    cases q : und b t <;> simp [eMeth, eVar, wipeE, aCons, aNil, h2, h1, q]
  have hl : (ts.map fun t => Vl.d (mk A t)).length ≤ 1000000 := by rw [List.length_map]; exact h.l
  simp only [f_filled, run0, b_filled, List.length_cons, List.length_nil, if_true, startE, sRet, eCB, aCons, aNil, eLc, lcA, List.map_cons, List.map_nil]
  rw [show ([some (Vl.d (.lst (ts.map (mk A)))), some y] ++ List.replicate (3 - (0 + 1 + 1)) (none : Option Vl)) = [some (.d (.lst (ts.map (mk A)))), some y, none] from rfl, hi]
  simp only [Res.bind_ok, lcB, if_pos hl, e]
  cases q : ts.mapM (und b) with
  | none => simp
  | some ys =>
    have hy : ys.length ≤ 1000000 := by
      rw [mapM_len q]
      exact h.l
    simp [mkLst_map _ _ hy, tupD_lst _ _ hy]
end
end Toy

set_option Elab.async false
set_option linter.all false
set_option maxRecDepth 100000
set_option maxHeartbeats 4000000
namespace Toy
open PySem L2 DL
/-! ## names in order, patterns -/
def addN (acc : List Str) : T → List Str
  | .v n => if n ∈ acc then acc else acc ++ [n]
  | .c _ => acc
def names (ts : List T) : List Str := ts.foldl addN []
def nV (acc : List Str) : List (D × Vl) := acc.map fun n => (D.str n, Vl.d (.bl true))
theorem addN_len (acc : List Str) (t : T) : (addN acc t).length ≤ acc.length + 1 := by
  cases t with
  | v n =>
    simp only [addN]
    split
    · omega
    · simp
  | c x => simp [addN]
theorem okKey_nV (n : Str) (acc : List Str) : okKey (nV acc) (.str n) = true := by
  cases acc <;> rfl
theorem put_nV (n : Str) (acc : List Str) : putKD (.str n) (.d (.bl true)) (nV acc) = nV (addN acc (.v n)) := by
  unfold putKD
  by_cases h : n ∈ acc
  · have : ∃ p ∈ nV acc, p.1 = D.str n := ⟨(.str n, .d (.bl true)), List.mem_map.mpr ⟨n, h, rfl⟩, rfl⟩
    rw [if_pos this]
    simp only [addN, if_pos h, nV, List.map_map]
    refine List.map_congr_left fun m _ => ?_
    simp only [Function.comp]
    split
    · rfl
    · rfl
  · have : ¬ ∃ p ∈ nV acc, p.1 = D.str n := by
      rintro ⟨p, hp, e⟩
      obtain ⟨m, hm, rfl⟩ := List.mem_map.mp hp
      exact h (D.str.inj e ▸ hm)
    rw [if_neg this]
    simp [addN, h, nV]
section
variable (A : Ad) (W : Ms) {x : Vl}
theorem names_loop : ∀ (ts : List T) (acc : List Str) (o : Option Vl), (∀ t ∈ ts, okT t) → acc.length + ts.length ≤ 2000 → ∃ o', forL yes (gN 2) (sIf (tstV (eMeth A.C_Term "is_variable" (f_Term_is_variable A) [] (eVar 2) aNil)) (sPut (eVar 1) (eFld "name" (eVar 2)) (eC (.bl true))) sNil)
    (ts.map fun t => Vl.d (mk A t)) [some x, some (.mu W.length), o] (W ++ [.dct (nV acc)]) = .nx [some x, some (.mu W.length), o'] (W ++ [.dct (nV (ts.foldl addN acc))])
  | [], acc, o, _, _ => ⟨o, by simp [forL, yes]⟩
  | t :: ts, acc, o, ht, hl => by
    simp only [List.length_cons] at hl
    have h1 := is_var A (W ++ [.dct (nV acc)]) (ht t List.mem_cons_self)
    have h2 := (isI_mk A (W ++ [.dct (nV acc)]) t).1
    have h3 := addN_len acc t
    obtain ⟨o', ih⟩ := names_loop ts (addN acc t) (some (.d (mk A t))) (fun u hu => ht u (List.mem_cons_of_mem _ hu)) (by omega)
    refine ⟨o', ?_⟩
    cases t with
    | v n =>
      have hz : (nV acc).length < sizeLine := by
        have : (nV acc).length ≤ 1000000 := by simp [nV]; omega
        exact mil' (Nat.le_trans (by simp [nV] at this ⊢; omega) (Nat.le_refl 1000000))
      simp [forL, yes, gN, sIf, tstV, eMeth, eVar, aNil, h1, h2, blOf, T.isV, sPut, eC, eFld, eUn, fld_name, setIx, okKey_nV, hz, put_nV]
      exact ih
    | c y =>
      simp [forL, yes, gN, sIf, tstV, eMeth, eVar, aNil, h1, h2, blOf, T.isV, sNil]
      exact ih
theorem foldl_len : ∀ (ts : List T) (acc : List Str), (ts.foldl addN acc).length ≤ acc.length + ts.length
  | [], acc => by simp
  | t :: ts, acc => by
    have h1 := addN_len acc t
    have h2 := foldl_len ts (addN acc t)
    simp only [List.foldl_cons, List.length_cons]
    omega
theorem names_in {ts : List T} (h : okTs ts) (hx : ∀ W : Ms, seqItm x W = .ok ⟨ts.map fun t => Vl.d (mk A t), yes⟩ W) : f_names_in A [x] W = .ok (.d (.tup ((names ts).map D.str))) W := by
  obtain ⟨o', e⟩ := names_loop A W (x := x) ts [] none h.1 (by have := h.2; simp; omega)
  have hl := foldl_len ts []
  have hz : ((names ts).map D.str).length ≤ 1000000 := by
    have := h.2
    simp only [List.length_map, names, List.length_nil] at hl ⊢
    omega
  have e0 : nV [] = [] := rfl
  rw [e0] at e
  have et : tupD (W ++ [.dct (nV (names ts))]) [.mu W.length] = .ok (.d (.tup ((names ts).map D.str))) (W ++ [.dct (nV (names ts))]) := by
    have e1 : DL.tupOf (.mu W.length) = none := rfl
    simp only [tupD, e1, srcOf, seqOf, lstOf, app_get, dctOf, Option.map_some, Option.map_none]
    have e2 : ((nV (names ts)).map fun p => Vl.d p.1) = ((names ts).map D.str).map Vl.d := by simp [nV, List.map_map, Function.comp_def]
    rw [e2]
    exact mkTup_map _ _ hz
  simp [f_names_in, runB, b_names_in, startE, sSeq, sSet, eDnewM, sFor, iS, eVar, hx, e, sRet, eCB, aCons, aNil]
  rw [show (ts.foldl addN []) = names ts from rfl, et]
  simp
/-! ### patterns -/
theorem enumL_map (l : List D) : ∀ k : Nat, enumL k l = (List.range l.length).map fun i => Vl.d (.tup [.int ((k + i : Nat) : Int), l.getD i .non]) := by
  induction l with
  | nil => intro k; rfl
  | cons x l ih =>
    intro k
    rw [enumL, ih (k + 1), List.length_cons, List.range_succ_eq_map, List.map_cons, List.map_map]
    congr 1
    refine List.map_congr_left fun i _ => ?_
    simp only [Function.comp, List.getD_cons_succ]
    rw [show k + 1 + i = k + (i + 1) by omega]
def tk (ts : List T) (i : Nat) : T := ts.getD i (.c .non)
theorem tk_ok {ts : List T} (h : okTs ts) {i : Nat} (hi : i < ts.length) : okT (tk ts i) := by
  unfold tk
  rw [List.getD_eq_getElem?_getD, List.getElem?_eq_getElem hi]
  exact h.1 _ (List.getElem_mem hi)
theorem mk_at (ts : List T) {i : Nat} (hi : i < ts.length) : (ts.map (mk A)).getD i .non = mk A (tk ts i) := by
  unfold tk
  simp [List.getD_eq_getElem?_getD, List.getElem?_eq_getElem hi, hi]
def kns (b : B) (ts : List T) : List Nat := (List.range ts.length).filter fun i => kn b (tk ts i)
def vls (b : B) (ts : List T) : List D := (kns b ts).map fun i => (und b (tk ts i)).getD .non
theorem atI_nat {α : Type} (l : List α) (i : Nat) : atI l (i : Int) = l[i]? := by
  unfold atI
  by_cases h : i < l.length
  · simp [ixN, h]
  · simp [ixN, h]
theorem kn_und {b : B} {t : T} (h : kn b t = true) : und b t = some ((und b t).getD .non) := by
  cases t with
  | v n =>
    simp only [kn] at h
    obtain ⟨y, hy⟩ := Option.isSome_iff_exists.mp h
    simp [und, hy]
  | c x => rfl
theorem pattern {ts : List T} (h : okTs ts) {b : B} {y : Vl} (hb : dctOf W y = some (bV b)) :
    f_pattern A [.d (.lst (ts.map (mk A))), y] W = .ok (.d (.tup [.tup ((kns b ts).map fun i : Nat => D.int (i : Int)), .tup (vls b ts)])) W := by
  have hn : (kns b ts).length ≤ 1000000 := by
    have h1 : (kns b ts).length ≤ (List.range ts.length).length := List.length_filter_le _ _
    rw [List.length_range] at h1
    exact Nat.le_trans h1 h.l
  have hz1 : ((kns b ts).map fun i : Nat => D.int (i : Int)).length ≤ 1000000 := by rw [List.length_map]; exact hn
  have hz2 : (vls b ts).length ≤ 1000000 := by unfold vls; rw [List.length_map]; exact hn
  have e1 : eLc (iEn (aCons (eVar 0) aNil)) (gT 2 (gsCons (gN 3) (gsCons (gN 4) gsNil))) (nxE (tstV (eMeth A.C_Term "known" (f_Term_known A) [] (eVar 4) (aCons (eVar 1) aNil)))) (nxE (eVar 3)) [3, 4] [some (.d (.lst (ts.map (mk A)))), some y, none, none, none] W
      = .ok (.d (.lst ((kns b ts).map fun i : Nat => D.int (i : Int)))) W := by
    refine eLc_pure (fun i => Vl.d (.tup [.int ((0 + i : Nat) : Int), (ts.map (mk A)).getD i .non])) (fun i => kn b (tk ts i)) (fun i : Nat => D.int (i : Int)) (List.range ts.length) (by simp [iEn, eVar, aCons, aNil, enumL_map]) (by rw [List.length_range]; exact h.l) fun i hi => ?_
    have hi := List.mem_range.mp hi
    rw [mk_at A ts hi]
    have h2 := (isI_mk A W (tk ts i)).2.2.1
    have h1 := known A W (tk_ok h hi) hb
    refine ⟨[some (.d (.lst (ts.map (mk A)))), some y, none, some (.d (.int (i : Int))), some (.d (mk A (tk ts i)))], ?_, ?_, ?_⟩
    · simp [gT, gsCons, gN, gsNil, DL.tupOf, wipeE]
    · simp [nxE, tstV, eMeth, eVar, aCons, aNil, h1, h2, blOf]
    · intro _
      simp [nxE, eVar]
  have e2 : eLc (iS (eVar 2)) (gN 3) (nxE tstYes) (nxE (eMeth A.C_Term "under" (f_Term_under A) [] (eOp ixD (eVar 0) (eVar 3)) (aCons (eVar 1) aNil))) [3] [some (.d (.lst (ts.map (mk A)))), some y, some (.d (.tup ((kns b ts).map fun i : Nat => D.int (i : Int)))), none, none] W
      = .ok (.d (.lst (vls b ts))) W := by
    refine eLc_all (fun i : Nat => Vl.d (.int (i : Int))) (fun i => (und b (tk ts i)).getD .non) (kns b ts) (by simp [iS, eVar, seq_tup, List.map_map, Function.comp_def]) hn fun i hi => ⟨_, rfl, ?_⟩
    obtain ⟨hi1, hk⟩ := List.mem_filter.mp hi
    have hi1 := List.mem_range.mp hi1
    have h2 := (isI_mk A W (tk ts i)).2.2.2
    have h1 := under A W (tk_ok h hi1) hb
    rw [kn_und hk] at h1
    have hx : ts[i]? = some (tk ts i) := by simp [tk, List.getD_eq_getElem?_getD, List.getElem?_eq_getElem hi1]
    simp [nxE, eMeth, eVar, aCons, aNil, wipeE, eOp, ixD, dctOf, intOf, seqOf, lstOf, atI_nat, hx, h1, h2]
  simp [f_pattern, run0, b_pattern, startE, sSeq, sSet, sRet, eCB, aCons, aNil, e1, e2, tupD_lst _ _ hz1, tupD_lst _ _ hz2, eTup, eVar, mkTup, dsOf]
end
end Toy

set_option Elab.async false
set_option linter.all false
set_option maxRecDepth 100000
set_option maxHeartbeats 4000000
namespace Toy
open PySem L2 DL
/-! ## a row of terms matched with a row of values -/
def Sc (x : D) : Prop := (∃ i, x = .int i) ∨ ∃ s, x = .str s
theorem vals_sc {x : D} (h : x ∈ vals) : Sc x := by
  simp only [vals, List.mem_cons, List.not_mem_nil, or_false] at h
  rcases h with rfl | rfl | rfl | rfl | rfl | rfl | rfl | rfl | rfl | rfl
  all_goals first | exact .inl ⟨_, rfl⟩ | exact .inr ⟨_, rfl⟩
theorem neD_same {x : D} (h : Sc x) (W : Ms) : DL.neD W (.d x) (.d x) = .ok (.d (.bl false)) W := by
  rcases h with ⟨i, rfl⟩ | ⟨s, rfl⟩ <;> (unfold DL.neD; simp [rdD, scalD])
theorem neD_not {x y : D} (h : Sc x) (h' : Sc y) (n : x ≠ y) (W : Ms) : DL.neD W (.d x) (.d y) = .ok (.d (.bl true)) W := by
  rcases h with ⟨i, rfl⟩ | ⟨s, rfl⟩ <;> rcases h' with ⟨j, rfl⟩ | ⟨t, rfl⟩ <;> (unfold DL.neD; simp [rdD, scalD, n]) <;> simpa using n
theorem eqD_same {x : D} (h : Sc x) (W : Ms) : DL.eqD W (.d x) (.d x) = .ok (.d (.bl true)) W := by
  rcases h with ⟨i, rfl⟩ | ⟨s, rfl⟩ <;> (unfold DL.eqD; simp [rdD, scalD])
theorem eqD_not {x y : D} (h : Sc x) (h' : Sc y) (n : x ≠ y) (W : Ms) : DL.eqD W (.d x) (.d y) = .ok (.d (.bl false)) W := by
  rcases h with ⟨i, rfl⟩ | ⟨s, rfl⟩ <;> rcases h' with ⟨j, rfl⟩ | ⟨t, rfl⟩ <;> (unfold DL.eqD; simp [rdD, scalD, n]) <;> simpa using n
open Classical in
noncomputable def mt : List T → List D → B → Option B
  | [], _, b => some b
  | _ :: _, [], b => some b
  | .c x :: ts, v :: vs, b => if x = v then mt ts vs b else none
  | .v n :: ts, v :: vs, b => match b.lookup n with
    | none => mt ts vs (b ++ [(n, v)])
    | some y => if y = v then mt ts vs b else none
def bD (b : B) : List (D × D) := b.map fun p => (.str p.1, p.2)
theorem dct_bD (b : B) (W : Ms) : dctOf W (.d (.dct (bD b))) = some (bV b) := by
  simp [dctOf, bD, bV, List.map_map, Function.comp_def]
theorem frozen_bV : ∀ b : B, frozen (.dct (bV b)) = some (.dct (bD b))
  | [] => rfl
  | p :: b => by
    have ih := frozen_bV b
    simp only [frozen, bV, List.map_cons, List.foldr_cons] at ih ⊢
    obtain ⟨r, e1, e2⟩ := Option.map_eq_some_iff.mp ih
    rw [e1]
    have : r = bD b := D.dct.inj e2
    subst this
    rfl
theorem putK_new (n : Str) (v : D) (b : B) (h : b.lookup n = none) : putKD (.str n) (.d v) (bV b) = bV (b ++ [(n, v)]) := by
  unfold putKD
  have : ¬ ∃ p ∈ bV b, p.1 = D.str n := by
    rintro ⟨p, hp, e⟩
    obtain ⟨q, hq, rfl⟩ := List.mem_map.mp hp
    have e : q.1 = n := D.str.inj e
    rw [List.lookup_eq_none_iff] at h
    have := h q hq
    simp [e] at this
  rw [if_neg this]
  simp [bV]
def okB (b : B) : Prop := (∀ p ∈ b, Sc p.2) ∧ b.length ≤ 1000
theorem okB.at {b : B} (h : okB b) {n : Str} {y : D} (e : b.lookup n = some y) : Sc y := by
  obtain ⟨l1, l2, e1, _⟩ := List.lookup_eq_some_iff.mp e
  exact h.1 (n, y) (by rw [e1]; simp)
section
variable (A : Ad) (W : Ms)
noncomputable abbrev mtBody : FS := sIf (tstNot (tstV (eMeth A.C_Term "known" (f_Term_known A) [] (eVar 4) (aCons (eVar 3) aNil)))) (sPut (eVar 3) (eFld "name" (eVar 4)) (eVar 5)) (sIf (tstV (eOp DL.neD (eMeth A.C_Term "under" (f_Term_under A) [] (eVar 4) (aCons (eVar 3) aNil)) (eVar 5))) (sRet (eC .non)) sNil)
theorem mt_loop {x1 x2 x3 : Vl} : ∀ (ts : List T) (vs : List D) (b : B) (o4 o5 : Option Vl), (∀ t ∈ ts, okT t) → (∀ v ∈ vs, Sc v) → (∀ p ∈ b, Sc p.2) → b.length + ts.length ≤ 2000 →
    (∃ b' o4' o5', mt ts vs b = some b' ∧ forL yes (gT 2 (gsCons (gN 4) (gsCons (gN 5) gsNil))) (mtBody A) (zipL (ts.map (mk A)) vs) [some x1, some x2, some x3, some (.mu W.length), o4, o5] (W ++ [.dct (bV b)]) = .nx [some x1, some x2, some x3, some (.mu W.length), o4', o5'] (W ++ [.dct (bV b')]) ∧ (∀ p ∈ b', Sc p.2) ∧ b'.length ≤ b.length + ts.length) ∨
    (∃ b', mt ts vs b = none ∧ forL yes (gT 2 (gsCons (gN 4) (gsCons (gN 5) gsNil))) (mtBody A) (zipL (ts.map (mk A)) vs) [some x1, some x2, some x3, some (.mu W.length), o4, o5] (W ++ [.dct (bV b)]) = .rt (.d .non) (W ++ [.dct (bV b')]))
  | [], vs, b, o4, o5, _, _, hb, _ => .inl ⟨b, o4, o5, by simp [mt], by simp [forL, yes, zipL], hb, by simp⟩
  | t :: ts, [], b, o4, o5, _, _, hb, _ => .inl ⟨b, o4, o5, by cases t <;> simp [mt], by simp [forL, yes, zipL], hb, by omega⟩
  | t :: ts, v :: vs, b, o4, o5, ht, hv, hb, hl => by
    simp only [List.length_cons] at hl
    have h0 := ht t List.mem_cons_self
    have hv0 := hv v List.mem_cons_self
    have hd : dctOf (W ++ [.dct (bV b)]) (.mu W.length) = some (bV b) := by simp [dctOf]
    have h1 := known A (W ++ [.dct (bV b)]) h0 hd
    have h2 := under A (W ++ [.dct (bV b)]) h0 hd
    obtain ⟨i1, i2, i3, i4⟩ := isI_mk A (W ++ [.dct (bV b)]) t
    have hz : (bV b).length < sizeLine := mil' (by simp [bV]; omega)
    have same := mt_loop (x1 := x1) (x2 := x2) (x3 := x3) ts vs b (some (.d (mk A t))) (some (.d v)) (fun u hu => ht u (List.mem_cons_of_mem _ hu)) (fun u hu => hv u (List.mem_cons_of_mem _ hu)) hb (by omega)
    have run : ∀ (y : D), und b t = some y → kn b t = true → Sc y → (y = v → mt (t :: ts) (v :: vs) b = mt ts vs b) → (y ≠ v → mt (t :: ts) (v :: vs) b = none) →
        (∃ b' o4' o5', mt (t :: ts) (v :: vs) b = some b' ∧ forL yes (gT 2 (gsCons (gN 4) (gsCons (gN 5) gsNil))) (mtBody A) (zipL ((t :: ts).map (mk A)) (v :: vs)) [some x1, some x2, some x3, some (.mu W.length), o4, o5] (W ++ [.dct (bV b)]) = .nx [some x1, some x2, some x3, some (.mu W.length), o4', o5'] (W ++ [.dct (bV b')]) ∧ (∀ p ∈ b', Sc p.2) ∧ b'.length ≤ b.length + (t :: ts).length) ∨
        (∃ b', mt (t :: ts) (v :: vs) b = none ∧ forL yes (gT 2 (gsCons (gN 4) (gsCons (gN 5) gsNil))) (mtBody A) (zipL ((t :: ts).map (mk A)) (v :: vs)) [some x1, some x2, some x3, some (.mu W.length), o4, o5] (W ++ [.dct (bV b)]) = .rt (.d .non) (W ++ [.dct (bV b')])) := by
      intro y hy hk hs e1 e2
      rw [hk] at h1
      rw [hy] at h2
      by_cases hyv : y = v
      · have st : forL yes (gT 2 (gsCons (gN 4) (gsCons (gN 5) gsNil))) (mtBody A) (zipL ((t :: ts).map (mk A)) (v :: vs)) [some x1, some x2, some x3, some (.mu W.length), o4, o5] (W ++ [.dct (bV b)]) = forL yes (gT 2 (gsCons (gN 4) (gsCons (gN 5) gsNil))) (mtBody A) (zipL (ts.map (mk A)) vs) [some x1, some x2, some x3, some (.mu W.length), some (.d (mk A t)), some (.d v)] (W ++ [.dct (bV b)]) := by
          subst hyv
          simp [zipL, forL, yes, gT, gsCons, gN, gsNil, DL.tupOf, mtBody, sIf, tstNot, tstV, eMeth, eVar, aCons, aNil, i3, i4, h1, h2, blOf, eOp, neD_same hs, sNil]
        rw [st, e1 hyv]
        rcases same with ⟨b', p, q, r1, r2, r3, r4⟩ | ⟨b', r1, r2⟩
        · exact .inl ⟨b', p, q, r1, r2, r3, by simp only [List.length_cons]; omega⟩
        · exact .inr ⟨b', r1, r2⟩
      · refine .inr ⟨b, e2 hyv, ?_⟩
        simp [zipL, forL, yes, gT, gsCons, gN, gsNil, DL.tupOf, mtBody, sIf, tstNot, tstV, eMeth, eVar, aCons, aNil, i3, i4, h1, h2, blOf, eOp, neD_not hs hv0 hyv, sRet, eC]
    cases t with
    | c y =>
      refine run y rfl rfl (vals_sc h0) (fun e => by simp [mt, e]) fun e => by simp [mt, e]
    | v n =>
      cases q : b.lookup n with
      | some y => exact run y q (by simp [kn, q]) (by
          obtain ⟨l1, l2, e1, _⟩ := List.lookup_eq_some_iff.mp q
          exact hb (n, y) (by rw [e1]; simp)) (fun e => by simp [mt, q, e]) fun e => by simp [mt, q, e]
      | none =>
        have hk : kn b (.v n) = false := by simp [kn, q]
        rw [hk] at h1
        have new := mt_loop (x1 := x1) (x2 := x2) (x3 := x3) ts vs (b ++ [(n, v)]) (some (.d (mk A (.v n)))) (some (.d v)) (fun u hu => ht u (List.mem_cons_of_mem _ hu)) (fun u hu => hv u (List.mem_cons_of_mem _ hu)) (fun p hp => by
          rcases List.mem_append.mp hp with hp | hp
          · exact hb p hp
          · rw [List.mem_singleton.mp hp]; exact hv0) (by simp; omega)
        have st : forL yes (gT 2 (gsCons (gN 4) (gsCons (gN 5) gsNil))) (mtBody A) (zipL ((T.v n :: ts).map (mk A)) (v :: vs)) [some x1, some x2, some x3, some (.mu W.length), o4, o5] (W ++ [.dct (bV b)]) = forL yes (gT 2 (gsCons (gN 4) (gsCons (gN 5) gsNil))) (mtBody A) (zipL (ts.map (mk A)) vs) [some x1, some x2, some x3, some (.mu W.length), some (.d (mk A (.v n))), some (.d v)] (W ++ [.dct (bV (b ++ [(n, v)]))]) := by
          simp [zipL, forL, yes, gT, gsCons, gN, gsNil, DL.tupOf, mtBody, sIf, tstNot, tstV, eMeth, eVar, aCons, aNil, i3, i4, h1, blOf, sPut, eFld, eUn, fld_name, setIx, okKey_bV, hz, putK_new n v b q]
        have em : mt (T.v n :: ts) (v :: vs) b = mt ts vs (b ++ [(n, v)]) := by simp [mt, q]
        rw [st, em]
        rcases new with ⟨b', p, q, r1, r2, r3, r4⟩ | ⟨b', r1, r2⟩
        · exact .inl ⟨b', p, q, r1, r2, r3, by simp at r4 ⊢; omega⟩
        · exact .inr ⟨b', r1, r2⟩
end
end Toy

set_option Elab.async false
set_option linter.all false
set_option maxRecDepth 100000
set_option maxHeartbeats 4000000
namespace Toy
open PySem L2 DL
/-! ## matched, keys -/
theorem lenD_lst (l : List D) (W : Ms) : lenD W [.d (.lst l)] = .ok (.d (.int (l.length : Nat))) W := by
  simp [lenD, srcOf, seqOf, lstOf]
theorem lenD_tup (l : List D) (W : Ms) : lenD W [.d (.tup l)] = .ok (.d (.int (l.length : Nat))) W := by
  simp [lenD, srcOf, seqOf, lstOf, DL.tupOf]
theorem neD_int (W : Ms) (i j : Int) : DL.neD W (.d (.int i)) (.d (.int j)) = .ok (.d (.bl (!decide (i = j)))) W := by
  unfold DL.neD
  simp [rdD, scalD]
noncomputable def mtF (ts : List T) (vs : List D) (b : B) : Option B := if ts.length = vs.length then mt ts vs b else none
theorem keyS_bV (b : B) : ((bV b).all fun p => isKeyS p.1) = true := by
  simp [bV, isKeyS]
theorem mtF_ok {ts : List T} {vs : List D} {b w : B} (A : Ad) (h : okTs ts) (hv : ∀ v ∈ vs, Sc v) (hb : okB b) (e : mtF ts vs b = some w) : ∀ p ∈ w, Sc p.2 := by
  unfold mtF at e
  split at e
  · rcases mt_loop A ([] : Ms) (x1 := .d .non) (x2 := .d .non) (x3 := .d .non) ts vs b none none h.1 hv hb.1 (by have := h.2; have := hb.2; omega) with ⟨b', _, _, r1, _, r3, _⟩ | ⟨b', r1, _⟩
    · rw [r1] at e
      cases e
      exact r3
    · rw [r1] at e
      cases e
  · cases e
theorem matched (A : Ad) (W : Ms) {ts : List T} {vs : List D} {b : B} {y : Vl} (h : okTs ts) (hv : ∀ v ∈ vs, Sc v) (hb : okB b) (hy : dctOf W y = some (bV b)) :
    f_matched A [.d (.lst (ts.map (mk A))), .d (.tup vs), y] W = .ok (.d (match mtF ts vs b with | some w => .dct (bD w) | none => .non)) W := by
  by_cases hl : ts.length = vs.length
  · have src : dictSrc W y = some (bV b) := by simp only [dictSrc, hy, keyS_bV, if_true]
    have hz := mt_loop A W (x1 := .d (.lst (ts.map (mk A)))) (x2 := .d (.tup vs)) (x3 := y) ts vs b none none h.1 hv hb.1 (by have := h.2; have := hb.2; omega)
    have e0 : mtF ts vs b = mt ts vs b := if_pos hl
    rw [e0]
    rcases hz with ⟨b', o4, o5, r1, r2, _⟩ | ⟨b', r1, r2⟩
    · rw [r1]
      simp [f_matched, runB, b_matched, startE, sSeq, sIf, tstV, eOp, eCB, aCons, aNil, eVar, lenD_lst, lenD_tup, neD_int, hl, blOf, sNil, sSet, dictM, src, mkDctM, sFor, iZpM]
      rw [show (sIf _ _ _) = mtBody A from rfl, r2]
      simp [sRet, eUn, eVar, DL.frz, frozen_bV]
    · rw [r1]
      simp [f_matched, runB, b_matched, startE, sSeq, sIf, tstV, eOp, eCB, aCons, aNil, eVar, lenD_lst, lenD_tup, neD_int, hl, blOf, sNil, sSet, dictM, src, mkDctM, sFor, iZpM]
      rw [show (sIf _ _ _) = mtBody A from rfl, r2]
      simp
  · have e0 : mtF ts vs b = none := if_neg hl
    have hl2 : ¬ ((ts.length : Int) = (vs.length : Int)) := by omega
    rw [e0]
    simp [f_matched, runB, b_matched, startE, sSeq, sIf, tstV, eOp, eCB, aCons, aNil, eVar, lenD_lst, lenD_tup, neD_int, hl, hl2, blOf, sRet, eC]
    exact (fin_app W [] .non ▸ by simp)
/-! ### keys -/
def isN : D → Bool
  | .int _ => true
  | _ => false
def vk : D → D
  | .int i => .tup [.int 0, .int i, .str ""]
  | x => .tup [.int 1, .int 0, x]
section
variable (A : Ad) (W : Ms)
theorem kit_ii : kitB "int" "int" = some true := by first | rfl | decide +kernel | kernel_rfl
theorem kit_si : kitB "str" "int" = some false := by first | rfl | decide +kernel | kernel_rfl
theorem is_number {x : D} (h : Sc x) : f_is_number A [.d x] W = .ok (.d (.bl (isN x))) W := by
  rcases h with ⟨i, rfl⟩ | ⟨s, rfl⟩
  · simp [f_is_number, run0, b_is_number, startE, sRet, eCB, aCons, aNil, eVar, eC, isiD, tyOfD, kit_ii, kit_si, isN]
  · simp [f_is_number, run0, b_is_number, startE, sRet, eCB, aCons, aNil, eVar, eC, isiD, tyOfD, kit_ii, kit_si, isN]
theorem value_key {x : D} (h : Sc x) : f_value_key A [.d x] W = .ok (.d (vk x)) W := by
  have h1 := is_number A W h
  rcases h with ⟨i, rfl⟩ | ⟨s, rfl⟩
  · simp [f_value_key, run0, b_value_key, startE, sRet, eIf, tstV, eCall, aCons, aNil, eVar, eC, h1, isN, blOf, eTup, mkTup, dsOf, vk]
  · simp [f_value_key, run0, b_value_key, startE, sRet, eIf, tstV, eCall, aCons, aNil, eVar, eC, h1, isN, blOf, eTup, mkTup, dsOf, vk]
def rk (vs : List D) : D := .tup (vs.map vk)
theorem row_key {vs : List D} (h : ∀ v ∈ vs, Sc v) (hl : vs.length ≤ 1000) : f_row_key A [.d (.tup vs)] W = .ok (.d (rk vs)) W := by
  have hl2 : vs.length ≤ 1000000 := by omega
  have e : eLc (iS (eVar 0)) (gN 1) (nxE tstYes) (nxE (eCall (f_value_key A) [] (aCons (eVar 1) aNil))) [1] [some (.d (.tup vs)), none] W = .ok (.d (.lst (vs.map vk))) W := by
    refine eLc_all Vl.d vk vs (by simp [iS, eVar, seq_tup]) hl2 fun v hv => ⟨_, rfl, ?_⟩
    simp [nxE, eCall, aCons, aNil, eVar, wipeE, value_key A W (h v hv)]
  have hz : (vs.map vk).length ≤ 1000000 := by rw [List.length_map]; exact hl2
  simp [f_row_key, run0, b_row_key, startE, sRet, eCB, aCons, aNil, e, tupD_lst _ _ hz, rk]
end
end Toy

set_option Elab.async false
set_option linter.all false
set_option maxRecDepth 100000
set_option maxHeartbeats 4000000
namespace Toy
open PySem L2 DL
open PySem.W (dataLt keyToks keyToksAll dataLe)
open PyProof.Rows (itemOrd)
/-! ## the order of rows -/
theorem eqD_bl (W : Ms) (a b : Bool) : DL.eqD W (.d (.bl a)) (.d (.bl b)) = .ok (.d (.bl (decide (a = b)))) W := by
  unfold DL.eqD
  simp [rdD, scalD]
theorem neD_bl (W : Ms) (a b : Bool) : DL.neD W (.d (.bl a)) (.d (.bl b)) = .ok (.d (.bl (!decide (a = b)))) W := by
  unfold DL.neD
  simp [rdD, scalD]
def lessD : D → D → Bool
  | .int i, .int j => decide (i < j)
  | .str s, .str t => decide (s.cps.toList < t.cps.toList)
  | .int _, _ => true
  | _, _ => false
open Classical in
noncomputable def df : List D → List D → Option Bool
  | x :: xs, y :: ys => if x = y then df xs ys else some (lessD x y)
  | _, _ => none
noncomputable def rl (a b : List D) : Bool := (df a b).getD (decide (a.length < b.length))
section
variable (A : Ad) (W : Ms)
theorem less {x y : D} (hx : Sc x) (hy : Sc y) : f_l_less A [.d x, .d y] W = .ok (.d (.bl (lessD x y))) W := by
  rcases hx with ⟨i, rfl⟩ | ⟨s, rfl⟩ <;> rcases hy with ⟨j, rfl⟩ | ⟨t, rfl⟩ <;>
    simp [f_l_less, run0, b_l_less, startE, sSeq, sIf, tstV, eOp, eCB, aCons, aNil, eVar, eC, isiD, tyOfD, kit_ii, kit_si, neD_bl, blOf, sNil, sRet, cmpD, rdD, ltO, lessD]
noncomputable abbrev rlBody : FS := (sIf (tstV (eOp DL.neD (eOp ixD (eVar 0) (eVar 2)) (eOp ixD (eVar 1) (eVar 2)))) (sRet (eCall (f_l_less A) [] (aCons (eOp ixD (eVar 0) (eVar 2)) (aCons (eOp ixD (eVar 1) (eVar 2)) aNil)))) sNil)
theorem ix_tup (l : List D) (i : Nat) {x : D} (h : l[i]? = some x) : ixD W (.d (.tup l)) (.d (.int (i : Int))) = .ok (.d x) W := by
  simp [ixD, dctOf, intOf, seqOf, lstOf, DL.tupOf, atI_nat, h]
theorem rl_loop {a b : List D} (ha : ∀ x ∈ a, Sc x) (hb : ∀ x ∈ b, Sc x) : ∀ (m i : Nat) (o : Option Vl), i + m = min a.length b.length →
    (∃ t, df (a.drop i) (b.drop i) = some t ∧ forL yes (gN 2) (rlBody A) ((List.range' i m).map fun k : Nat => Vl.d (.int (k : Int))) [some (.d (.tup a)), some (.d (.tup b)), o] W = .rt (.d (.bl t)) W) ∨
    (∃ o', df (a.drop i) (b.drop i) = none ∧ forL yes (gN 2) (rlBody A) ((List.range' i m).map fun k : Nat => Vl.d (.int (k : Int))) [some (.d (.tup a)), some (.d (.tup b)), o] W = .nx [some (.d (.tup a)), some (.d (.tup b)), o'] W)
  | 0, i, o, h => by
    refine .inr ⟨o, ?_, by simp [forL, yes]⟩
    have : a.drop i = [] ∨ b.drop i = [] := by
      simp only [List.drop_eq_nil_iff]
      omega
    rcases this with e | e
    · rw [e]; cases b.drop i <;> rfl
    · rw [e]; cases a.drop i <;> rfl
  | m + 1, i, o, h => by
    have h1 : i < a.length := by omega
    have h2 : i < b.length := by omega
    have g1 : a[i]? = some a[i] := List.getElem?_eq_getElem h1
    have g2 : b[i]? = some b[i] := List.getElem?_eq_getElem h2
    have s1 := ha _ (List.getElem_mem h1)
    have s2 := hb _ (List.getElem_mem h2)
    have x1 := ix_tup W a i g1
    have x2 := ix_tup W b i g2
    rw [List.drop_eq_getElem_cons h1, List.drop_eq_getElem_cons h2]
    by_cases e : a[i] = b[i]
    · have ih := rl_loop ha hb m (i + 1) (some (.d (.int (i : Int)))) (by omega)
      have ed : df (a[i] :: a.drop (i + 1)) (b[i] :: b.drop (i + 1)) = df (a.drop (i + 1)) (b.drop (i + 1)) := by simp [df, e]
      have st : forL yes (gN 2) (rlBody A) ((List.range' i (m + 1)).map fun k : Nat => Vl.d (.int (k : Int))) [some (.d (.tup a)), some (.d (.tup b)), o] W = forL yes (gN 2) (rlBody A) ((List.range' (i + 1) m).map fun k : Nat => Vl.d (.int (k : Int))) [some (.d (.tup a)), some (.d (.tup b)), some (.d (.int (i : Int)))] W := by
        have n1 := neD_same s2 W
        rw [← e] at n1 x2
        simp [List.range'_succ, forL, yes, gN, rlBody, sIf, tstV, eOp, eVar, x1, x2, n1, blOf, sNil]
      rw [ed, st]
      exact ih
    · refine .inl ⟨lessD a[i] b[i], by simp [df, e], ?_⟩
      simp [List.range'_succ, forL, yes, gN, rlBody, sIf, tstV, eOp, eVar, x1, x2, neD_not s1 s2 e, blOf, sRet, eCall, aCons, aNil, less A W s1 s2]
theorem rg1 {fs : FA} {ρ : Ev} {n : Nat} (h : fs ρ W = .ok [.d (.int (n : Int))] W) (hn : n ≤ 1000000) : iRg1 fs ρ W = .ok ⟨(List.range' 0 n).map fun k : Nat => Vl.d (.int (k : Int)), yes⟩ W := by
  have h0 : (0 : Int) ≤ (n : Int) := Int.natCast_nonneg n
  have h2 : (n : Int) ≤ 1000000 := by omega
  have g1 : (-(2 ^ 62) : Int) ≤ (n : Int) := Int.le_trans (by decide) h0
  have g2 : (n : Int) < 2 ^ 62 := Int.lt_of_le_of_lt h2 (by decide)
  have er : ((List.range n).map fun i : Nat => Vl.d (.int (0 + (i : Int)))) = (List.range' 0 n).map fun k : Nat => Vl.d (.int (k : Int)) := by
    rw [List.range_eq_range']
    refine List.map_congr_left fun k _ => ?_
    rw [Int.zero_add]
  unfold iRg1
  rw [h, Res.bind_ok]
  simp only [intOf]
  rw [if_pos ⟨g1, g2⟩, Int.toNat_natCast, er]
theorem row_less {a b : List D} (ha : ∀ x ∈ a, Sc x) (hb : ∀ x ∈ b, Sc x) (la : a.length ≤ 1000) (lb : b.length ≤ 1000) : f_l_row_less A [.d (.tup a), .d (.tup b)] W = .ok (.d (.bl (rl a b))) W := by
  have hm : (if ((b.length : Nat) : Int) < (a.length : Nat) then ((b.length : Nat) : Int) else (a.length : Nat)) = ((min a.length b.length : Nat) : Int) := by
    split <;> omega
  have hi : iRg1 (aCons (eCB min2D (aCons (eCB lenD (aCons (eVar 0) aNil)) (aCons (eCB lenD (aCons (eVar 1) aNil)) aNil))) aNil) [some (.d (.tup a)), some (.d (.tup b)), none] W = .ok ⟨(List.range' 0 (min a.length b.length)).map fun k : Nat => Vl.d (.int (k : Int)), yes⟩ W := by
    refine rg1 W ?_ (by omega)
    simp only [aCons, aNil, eCB, eVar, List.getElem?_cons_zero, List.getElem?_cons_succ, Res.bind_ok, lenD_tup, min2D, int2, intOf, hm]
  simp only [f_l_row_less, run0, b_l_row_less, List.length_cons, List.length_nil, if_true, startE, sSeq, sFor]
  rw [show ([Vl.d (.tup a), Vl.d (.tup b)].map some ++ List.replicate (3 - (0 + 1 + 1)) (none : Option Vl)) = [some (.d (.tup a)), some (.d (.tup b)), none] from rfl, hi]
  simp only [Res.bindS_ok]
  rcases rl_loop A W ha hb (min a.length b.length) 0 none (by omega) with ⟨t, e1, e2⟩ | ⟨o', e1, e2⟩
  · rw [show (sIf _ _ _) = rlBody A from rfl, e2]
    simp only [List.drop_zero] at e1
    simp [rl, e1]
  · rw [show (sIf _ _ _) = rlBody A from rfl, e2]
    simp only [List.drop_zero] at e1
    simp [rl, e1, sRet, eOp, eCB, aCons, aNil, eVar, lenD_tup, cmpD, rdD, ltO]
end
/-! ### the order that sorting keeps -/
theorem lex_app {A B : List (Int ⊕ List Nat)} : ∀ p q : List (Int ⊕ List Nat), p.length = q.length → p ≠ q → PyProof.Rows.lexLt itemOrd (p ++ A) (q ++ B) = PyProof.Rows.lexLt itemOrd p q
  | [], [], _, n => absurd rfl n
  | x :: p, y :: q, h, n => by
    by_cases e : x = y
    · subst e
      have h1 := PySem.W.lex_pre [x] (p ++ A) (q ++ B)
      have h2 := PySem.W.lex_pre [x] p q
      simp only [List.singleton_append] at h1 h2
      rw [List.cons_append, List.cons_append, h1, h2]
      exact lex_app p q (by simpa using h) fun z => n (by rw [z])
    · rw [List.cons_append, List.cons_append]
      exact (PySem.W.lex_atom e _ _).trans (PySem.W.lex_atom e p q).symm
  | [], _ :: _, h, _ => by simp at h
  | _ :: _, [], h, _ => by simp at h
def kt (x : D) : List (Int ⊕ List Nat) := keyToks (toP (vk x))
theorem kt_len : ∀ x ∈ vals, (kt x).length = 7 := by decide +kernel
def pairsOk : Bool := (vals.zipIdx.all fun x => vals.zipIdx.all fun y => if x.2 = y.2 then true else decide (¬ kt x.1 = kt y.1) && (PyProof.Rows.lexLt itemOrd (kt x.1) (kt y.1) == lessD x.1 y.1))
theorem pairs_ok : pairsOk = true := by decide +kernel
theorem pair_ok {x y : D} (hx : x ∈ vals) (hy : y ∈ vals) (n : x ≠ y) : kt x ≠ kt y ∧ PyProof.Rows.lexLt itemOrd (kt x) (kt y) = lessD x y := by
  obtain ⟨i, hi, ei⟩ := List.mem_iff_getElem.mp hx
  obtain ⟨j, hj, ej⟩ := List.mem_iff_getElem.mp hy
  have h := pairs_ok
  simp only [pairsOk, List.all_eq_true] at h
  have h1 := h (x, i) (by rw [List.mk_mem_zipIdx_iff_getElem?]; rw [← ei]; exact List.getElem?_eq_getElem hi) (y, j) (by rw [List.mk_mem_zipIdx_iff_getElem?]; rw [← ej]; exact List.getElem?_eq_getElem hj)
  have hij : ¬ i = j := fun z => n (by subst z; rw [← ei, ← ej])
  simp only [if_neg hij, Bool.and_eq_true, beq_iff_eq] at h1
  exact ⟨of_decide_eq_true h1.1, h1.2⟩
/-- rows by the law's reckoning stand as their keys do -/
theorem lt_rows : ∀ a b : List D, (∀ x ∈ a, x ∈ vals) → (∀ x ∈ b, x ∈ vals) → dataLt (toP (rk a)) (toP (rk b)) = rl a b
  | [], [], _, _ => by rfl
  | [], y :: b, _, _ => by
    simp only [rk, toP, List.map_nil, List.map_cons, toPs, PySem.W.dataLt_tuple, keyToksAll, rl, df]
    rw [PySem.W.lex_atom (by simp), PySem.W.lex_one]
    rfl
  | x :: a, [], _, _ => by
    simp only [rk, toP, List.map_nil, List.map_cons, toPs, PySem.W.dataLt_tuple, keyToksAll, rl, df]
    rw [PySem.W.lex_atom (by simp), PySem.W.lex_one]
    rfl
  | x :: a, y :: b, ha, hb => by
    have ih := lt_rows a b (fun z hz => ha z (List.mem_cons_of_mem _ hz)) fun z hz => hb z (List.mem_cons_of_mem _ hz)
    have h1 := ha x List.mem_cons_self
    have h2 := hb y List.mem_cons_self
    simp only [rk, toP, List.map_cons, toPs, PySem.W.dataLt_tuple, keyToksAll] at ih ⊢
    have p1 := PySem.W.lex_pre [.inl 1] (keyToks (toP (vk x)) ++ keyToksAll (toPs (a.map vk))) (keyToks (toP (vk y)) ++ keyToksAll (toPs (b.map vk)))
    simp only [List.singleton_append] at p1
    rw [p1]
    by_cases e : x = y
    · subst e
      rw [PySem.W.lex_pre, ih]
      simp [rl, df]
    · obtain ⟨k1, k2⟩ := pair_ok h1 h2 e
      exact (lex_app (kt x) (kt y) ((kt_len x h1).trans (kt_len y h2).symm) k1).trans (k2.trans (by simp [rl, df, e]))
end Toy

set_option Elab.async false
set_option linter.all false
set_option maxRecDepth 100000
set_option maxHeartbeats 4000000
namespace Toy
open PySem L2 DL
open PySem.W (dataLt keyToks keyToksAll dataLe)
open PyProof.Rows (itemOrd)
/-! ## rows in order -/
def okR (r : List D) : Prop := (∀ x ∈ r, x ∈ vals) ∧ r.length ≤ 1000
theorem okR.sc {r : List D} (h : okR r) : ∀ x ∈ r, Sc x := fun x hx => vals_sc (h.1 x hx)
def okRs (rs : List (List D)) : Prop := (∀ r ∈ rs, okR r) ∧ rs.length ≤ 1000
theorem vk_ok : ∀ x ∈ vals, (vk x).ok = true ∧ (vk x).dep ≤ 1 ∧ noL (toP (vk x)) = true ∧ ∀ y ∈ vals, PySem.W.alike (toP (vk x)) (toP (vk y)) = true := by decide +kernel
theorem okL_map {α : Type} (f : α → D) : ∀ l : List α, (∀ a ∈ l, (f a).ok = true) → okL (l.map f) = true
  | [], _ => rfl
  | a :: l, h => by
    simp only [List.map_cons, okL, h a List.mem_cons_self, okL_map f l fun b hb => h b (List.mem_cons_of_mem _ hb), Bool.and_self]
theorem depL_map {α : Type} (f : α → D) (n : Nat) : ∀ l : List α, (∀ a ∈ l, (f a).dep ≤ n) → depL (l.map f) ≤ n
  | [], _ => Nat.zero_le _
  | a :: l, h => by
    simp only [List.map_cons, depL]
    exact Nat.max_le.mpr ⟨h a List.mem_cons_self, depL_map f n l fun b hb => h b (List.mem_cons_of_mem _ hb)⟩
theorem rk_ok {r : List D} (h : okR r) : (rk r).ok = true ∧ (rk r).dep ≤ 2 := by
  refine ⟨okL_map vk r fun x hx => (vk_ok x (h.1 x hx)).1, ?_⟩
  show depL (r.map vk) + 1 ≤ 2
  have := depL_map vk 1 r fun x hx => (vk_ok x (h.1 x hx)).2.1
  omega
theorem noLs_map : ∀ r : List D, (∀ x ∈ r, x ∈ vals) → noLs (toPs (r.map vk)) = true
  | [], _ => rfl
  | x :: r, h => by
    simp only [List.map_cons, toPs, noLs, (vk_ok x (h x List.mem_cons_self)).2.2.1, noLs_map r fun y hy => h y (List.mem_cons_of_mem _ hy), Bool.and_self]
theorem alike_rows : ∀ a b : List D, (∀ x ∈ a, x ∈ vals) → (∀ x ∈ b, x ∈ vals) → PySem.W.alikeAll (toPs (a.map vk)) (toPs (b.map vk)) = true
  | [], b, _, _ => by cases b <;> rfl
  | x :: a, [], _, _ => rfl
  | x :: a, y :: b, ha, hb => by
    simp only [List.map_cons, toPs, PySem.W.alikeAll, (vk_ok x (ha x List.mem_cons_self)).2.2.2 y (hb y List.mem_cons_self), alike_rows a b (fun z hz => ha z (List.mem_cons_of_mem _ hz)) fun z hz => hb z (List.mem_cons_of_mem _ hz), Bool.and_self]
theorem sortable_rows {rs : List (List D)} (h : okRs rs) : sortable (rs.map rk) = true := by
  simp only [sortable, Bool.and_eq_true, Bool.or_eq_true, List.all_eq_true, decide_eq_true_eq]
  refine ⟨⟨fun k hk => ?_, fun k hk l hl => ?_⟩, .inl fun k hk => ?_⟩
  · obtain ⟨r, hr, rfl⟩ := List.mem_map.mp hk
    have h1 := rk_ok (h.1 r hr)
    exact ⟨⟨h1.1, Nat.le_trans h1.2 (by decide)⟩, noLs_map r (h.1 r hr).1⟩
  · obtain ⟨r, hr, rfl⟩ := List.mem_map.mp hk
    obtain ⟨q, hq, rfl⟩ := List.mem_map.mp hl
    exact alike_rows r q (h.1 r hr).1 (h.1 q hq).1
  · obtain ⟨r, hr, rfl⟩ := List.mem_map.mp hk
    rfl
def leR (a b : List D) : Bool := leP (rk a) (rk b)
def srt (rs : List (List D)) : List (List D) := rs.mergeSort leR
theorem srt_mem {rs : List (List D)} {r : List D} : r ∈ srt rs ↔ r ∈ rs := List.mem_mergeSort
theorem srt_len (rs : List (List D)) : (srt rs).length = rs.length := List.length_mergeSort _
theorem okRs.srt {rs : List (List D)} (h : okRs rs) : okRs (srt rs) := ⟨fun r hr => h.1 r (srt_mem.mp hr), by rw [srt_len]; exact h.2⟩
theorem keys_srt (rs : List (List D)) : (rs.map rk).mergeSort leP = (srt rs).map rk :=
  (PySem.W.sort_maps (r := leR) (s := leP) rk fun _ _ _ _ => rfl).symm
theorem srt_pair (rs : List (List D)) : (srt rs).Pairwise fun a b => leR a b = true :=
  PySem.W.sort_pairwise (PySem.W.sortLe_total (PyProof.Rows.listOrd itemOrd) false fun r : List D => keyToks (toP (rk r))) rs
theorem leR_rl {a b : List D} (ha : okR a) (hb : okR b) (h : leR a b = true) : rl b a = false := by
  have e : leR a b = !dataLt (toP (rk b)) (toP (rk a)) := rfl
  rw [e, lt_rows b a hb.1 ha.1] at h
  cases q : rl b a with
  | false => rfl
  | true => rw [q] at h; cases h
section
variable (A : Ad) (W : Ms)
theorem keysD_rows : ∀ rs : List (List D), (∀ r ∈ rs, okR r) → keysD (f_row_key A) [] (rs.map fun r => Vl.d (.tup r)) W = .ok (rs.map rk) W
  | [], _ => rfl
  | r :: rs, h => by
    have h1 := h r List.mem_cons_self
    have e := row_key A W h1.sc h1.2
    simp only [List.map_cons, keysD, e, keysD_rows rs fun q hq => h q (List.mem_cons_of_mem _ hq), Res.bind_ok]
theorem in_order {rs : List (List D)} (h : okRs rs) : f_in_order A [.d (.lst (rs.map .tup))] W = .ok (.d (.tup ((srt rs).map .tup))) W := by
  have hl : rs.length ≤ 1000000 := Nat.le_trans h.2 (by decide)
  have hz : ((srt rs).map D.tup).length ≤ 1000000 := by rw [List.length_map, srt_len]; exact hl
  have e1 : srcOf W (.d (.lst (rs.map .tup))) = some (rs.map fun r => Vl.d (.tup r)) := by simp [srcOf, seqOf, lstOf, List.map_map, Function.comp_def]
  have e2 : (((rs.map fun r => Vl.d (.tup r)).zip (rs.map rk)).mergeSort fun p q => leP p.2 q.2).map (·.1) = ((srt rs).map D.tup).map Vl.d := by
    rw [List.zip_map', ← PySem.W.sort_maps (r := leR) (s := fun p q : Vl × D => leP p.2 q.2) (fun r => (Vl.d (.tup r), rk r)) fun _ _ _ _ => rfl, List.map_map, List.map_map]
    rfl
  have e : sortKeyD (f_row_key A) [] mkLst W (.d (.lst (rs.map .tup))) = .ok (.d (.lst ((srt rs).map .tup))) W := by
    simp only [sortKeyD, e1, List.length_map, if_pos hl, keysD_rows A W rs h.1, Res.bind_ok]
    rw [if_pos ⟨sortable_rows h, trivial⟩, e2]
    exact mkLst_map _ _ hz
  simp [f_in_order, run0, b_in_order, startE, sRet, eCB, aCons, aNil, eSortKey, eVar, e, tupD_lst _ _ hz]
theorem sortD_keys {rs : List (List D)} (h : okRs rs) : sortD W [.d (.lst (rs.map rk))] = .ok (.d (.lst ((srt rs).map rk))) W := by
  have hl : (rs.map rk).length ≤ 1000000 := by rw [List.length_map]; exact Nat.le_trans h.2 (by decide)
  have e1 : srcOf W (.d (.lst (rs.map rk))) = some ((rs.map rk).map Vl.d) := by simp only [srcOf, seqOf, lstOf]
  simp only [sortD, e1, dsOf_map]
  rw [if_pos ⟨hl, sortable_rows h⟩, keys_srt]
theorem neD_shaped {x : D} (h : shapedD x = true) : DL.neD W (.d x) (.d x) = .ok (.d (.bl false)) W := by
  unfold DL.neD
  simp [rdD, h]
theorem eqD_shaped {x : D} (h : shapedD x = true) : DL.eqD W (.d x) (.d x) = .ok (.d (.bl true)) W := by
  unfold DL.eqD
  simp [rdD, h]
theorem shaped_keys {rs : List (List D)} (h : ∀ r ∈ rs, okR r) : shapedD (.lst (rs.map rk)) = true := by
  simp only [shapedD, Bool.and_eq_true, decide_eq_true_eq]
  refine ⟨okL_map rk rs fun r hr => (rk_ok (h r hr)).1, ?_⟩
  show depL (rs.map rk) + 1 ≤ 64
  have := depL_map rk 2 rs fun r hr => (rk_ok (h r hr)).2
  omega
end
end Toy

set_option Elab.async false
set_option linter.all false
set_option maxRecDepth 100000
set_option maxHeartbeats 4000000
namespace Toy
open PySem L2 DL
/-! ## the law's own case -/
theorem sSeq_nx {f g : FS} {ρ ρ1 : Ev} {W W1 : Ms} (h : f ρ W = .nx ρ1 W1) : sSeq f g ρ W = g ρ1 W1 := by simp [sSeq, h]
theorem sSet_ok {i : Nat} {f : FE} {ρ : Ev} {W W1 : Ms} {x : Vl} (h : f ρ W = .ok x W1) : sSet i f ρ W = .nx (ρ.set i (some x)) W1 := by simp [sSet, h]
theorem sIf_no {c : FT} {a : FS} {ρ : Ev} {W W1 : Ms} (h : c ρ W = .ok false W1) : sIf c a sNil ρ W = .nx ρ W1 := by simp [sIf, h, sNil]
def okBv (b : B) : Prop := (∀ p ∈ b, p.2 ∈ vals) ∧ b.length ≤ 3
theorem okBv.b {b : B} (h : okBv b) : okB b := ⟨fun p hp => vals_sc (h.1 p hp), by have := h.2; omega⟩
theorem tm_ok : ∀ x ∈ vals, x.ok = true ∧ x.dep = 0 := by decide +kernel
theorem nm_ok : ∀ n ∈ (["X", "Y", "Z"] : List Str), PyData.strOk n = true := by decide +kernel
theorem nm_ok' {n : Str} (h : n = "X" ∨ n = "Y" ∨ n = "Z") : PyData.strOk n = true := nm_ok n (by simpa using h)
theorem var_ok : PyData.strOk "var" = true ∧ PyData.strOk "val" = true := by decide +kernel
theorem tmD_ok {t : T} (h : okT t) : (tmD t).ok = true ∧ (tmD t).dep ≤ 1 := by
  cases t with
  | v n =>
    refine ⟨?_, by simp [tmD, D.dep, depL]⟩
    simp [tmD, D.ok, okL, var_ok.1, nm_ok' h]
  | c x =>
    obtain ⟨h1, h2⟩ := tm_ok x h
    refine ⟨?_, by simp [tmD, D.dep, depL, h2]⟩
    simp [tmD, D.ok, okL, var_ok.2, h1]
theorem shaped_tms {l : List T} (h : ∀ t ∈ l, okT t) : shapedD (.tup (l.map tmD)) = true := by
  simp only [shapedD, Bool.and_eq_true, decide_eq_true_eq]
  refine ⟨okL_map tmD l fun t ht => (tmD_ok (h t ht)).1, ?_⟩
  show depL (l.map tmD) + 1 ≤ 64
  have := depL_map tmD 1 l fun t ht => (tmD_ok (h t ht)).2
  omega
def okN (n : Str) : Prop := n = "X" ∨ n = "Y" ∨ n = "Z"
theorem names_ok : ∀ (ts : List T) (acc : List Str), (∀ t ∈ ts, okT t) → (∀ n ∈ acc, okN n) → ∀ n ∈ ts.foldl addN acc, okN n
  | [], acc, _, h => h
  | t :: ts, acc, ht, h => by
    refine names_ok ts _ (fun u hu => ht u (List.mem_cons_of_mem _ hu)) fun n hn => ?_
    cases t with
    | v m =>
      simp only [addN] at hn
      split at hn
      · exact h n hn
      · rcases List.mem_append.mp hn with hn | hn
        · exact h n hn
        · rw [List.mem_singleton.mp hn]; exact ht _ List.mem_cons_self
    | c x => exact h n hn
theorem shaped_names {l : List Str} (h : ∀ n ∈ l, okN n) : shapedD (.tup (l.map D.str)) = true := by
  simp only [shapedD, Bool.and_eq_true, decide_eq_true_eq]
  refine ⟨okL_map D.str l fun n hn => nm_ok' (h n hn), ?_⟩
  show depL (l.map D.str) + 1 ≤ 64
  have := depL_map D.str 0 l fun n hn => Nat.le_refl _
  omega
section
variable (A : Ad) (W : Ms)
noncomputable abbrev nmBody : FS := (sIf (tstAnd (tstV (eOp DL.eqD (eVar 5) (eC (.str "var")))) (tstV (eOp DL.notInD (eVar 6) (eVar 4)))) (sExpr (eMt tyLst appM (eVar 4) (aCons (eVar 6) aNil))) sNil)
theorem flat_strs (l : List Str) : (l.map D.str).all flatD = true := by simp [flatD]
theorem notIn_names (n : Str) (l : List Str) : DL.notInD (W ++ [.lst (l.map fun m => Vl.d (.str m))]) (.d (.str n)) (.mu W.length) = .ok (.d (.bl (!decide (n ∈ l)))) (W ++ [.lst (l.map fun m => Vl.d (.str m))]) := by
  have e : dsOf (l.map fun m => Vl.d (.str m)) = some (l.map D.str) := by
    rw [← dsOf_map (l.map D.str), List.map_map]
    rfl
  have f1 : flatD (.str n) = true := rfl
  have m1 : (D.str n ∈ l.map D.str) ↔ n ∈ l := by simp
  simp only [DL.notInD, isIn, dctOf, app_get, seqOf, lstOf, e]
  rw [if_pos ⟨f1, flat_strs l⟩]
  simp
theorem nm_loop {x0 x1 x2 x3 : Vl} : ∀ (ts : List T) (acc : List Str) (o5 o6 : Option Vl), acc.length + ts.length ≤ 2000 → ∃ o5' o6', forL yes (gT 2 (gsCons (gN 5) (gsCons (gN 6) gsNil))) nmBody (ts.map fun t => Vl.d (tmD t)) [some x0, some x1, some x2, some x3, some (.mu W.length), o5, o6, none, none, none, none, none] (W ++ [.lst (acc.map fun m => Vl.d (.str m))])
    = .nx [some x0, some x1, some x2, some x3, some (.mu W.length), o5', o6', none, none, none, none, none] (W ++ [.lst ((ts.foldl addN acc).map fun m => Vl.d (.str m))])
  | [], acc, o5, o6, _ => ⟨o5, o6, by simp [forL, yes]⟩
  | t :: ts, acc, o5, o6, hl => by
    simp only [List.length_cons] at hl
    have hz : acc.length < sizeLine := mil' (by omega)
    have h3 := addN_len acc t
    cases t with
    | v n =>
      obtain ⟨p, q, ih⟩ := nm_loop (x0 := x0) (x1 := x1) (x2 := x2) (x3 := x3) ts (addN acc (.v n)) (some (.d (.str "var"))) (some (.d (.str n))) (by omega)
      refine ⟨p, q, ?_⟩
      rw [List.foldl_cons, ← ih]
      by_cases hn : n ∈ acc
      · have ea : addN acc (.v n) = acc := by simp [addN, hn]
        rw [ea]
        simp [forL, yes, tmD, gT, gsCons, gN, gsNil, DL.tupOf, nmBody, sIf, tstAnd, tstV, eOp, eVar, eC, eqD_str, blOf, notIn_names, hn, sNil]
      · have ea : addN acc (.v n) = acc ++ [n] := by simp [addN, hn]
        rw [ea]
        simp [forL, yes, tmD, gT, gsCons, gN, gsNil, DL.tupOf, nmBody, sIf, tstAnd, tstV, eOp, eVar, eC, eqD_str, blOf, notIn_names, hn, sExpr, eMt, tyLst, lstOf, aCons, aNil, appM, lstMu, hz]
    | c x =>
      obtain ⟨p, q, ih⟩ := nm_loop (x0 := x0) (x1 := x1) (x2 := x2) (x3 := x3) ts (addN acc (.c x)) (some (.d (.str "val"))) (some (.d x)) (by omega)
      refine ⟨p, q, ?_⟩
      rw [List.foldl_cons, ← ih]
      simp [forL, yes, tmD, gT, gsCons, gN, gsNil, DL.tupOf, nmBody, sIf, tstAnd, tstV, eOp, eVar, eC, eqD_str, blOf, sNil, addN]
def tb : B := [("X", .str "Y"), ("Y", .str "X")]
theorem tb_str (n : Str) (z : D) (h : tb.lookup n = some z) : ∃ m, z = .str m := by
  simp only [tb, List.lookup_cons, List.lookup_nil] at h
  split at h
  · cases h; exact ⟨_, rfl⟩
  · split at h
    · cases h; exact ⟨_, rfl⟩
    · cases h
theorem ren_ok {t : T} (h : okT t) : okT (ren tb t) := by
  cases t with
  | v n =>
    rcases h with rfl | rfl | rfl
    · exact .inr (.inl rfl)
    · exact .inl rfl
    · exact .inr (.inr rfl)
  | c x => exact h
@[simp] theorem ne_xy : ¬ (("X" : Str) = "Y") := by decide +kernel
theorem disp_tb (ρ : Ev) : eDisp [((eC (.str "X")), (eC (.str "Y"))), ((eC (.str "Y")), (eC (.str "X")))] ρ W = .ok (.d (.dct (bD tb))) W := by
  simp [eDisp, fPairs, eC, dcL.keyV, mergeD, putKD, mkDct, dctD, bD, tb]
end
end Toy

set_option Elab.async false
set_option linter.all false
set_option maxRecDepth 100000
set_option maxHeartbeats 4000000
namespace Toy
open PySem L2 DL
section
variable (A : Ad) (W : Ms)
theorem made {ts : List T} (h : okTs ts) {ρ : Ev} {i j : Nat} {vs : List Nat} (hx : ρ[i]? = some (some (.d (.lst (ts.map tmD))))) (hj : j < ρ.length) : eLc (iS (eVar i)) (gN j) (nxE tstYes) (nxE (eCall (f_l_make A) [] (aCons (eVar j) aNil))) [j] ρ W = .ok (.d (.lst (ts.map (mk A)))) W := by
  refine eLc_all (fun t => Vl.d (tmD t)) (mk A) ts (by simp [iS, eVar, hx, seq_lst, List.map_map, Function.comp_def]) h.l fun t ht => ⟨_, rfl, ?_⟩
  have : (((wipeE ρ [j]).set j (some (.d (tmD t))))[j]?) = some (some (.d (tmD t))) := by
    rw [List.getElem?_set_self]
    simpa [wipeE] using hj
  simp [nxE, eCall, aCons, aNil, eVar, this, make]
theorem tm_at {ts : List T} {i : Nat} (hi : i < ts.length) : (ts.map tmD)[i]? = some (tmD (tk ts i)) := by
  simp [tk, List.getD_eq_getElem?_getD, List.getElem?_eq_getElem hi]
theorem ix_lst (l : List D) (i : Nat) {x : D} (h : l[i]? = some x) : ixD W (.d (.lst l)) (.d (.int (i : Int))) = .ok (.d x) W := by
  simp [ixD, dctOf, intOf, seqOf, lstOf, atI_nat, h]
theorem ix_tm0 (t : T) : ixD W (.d (tmD t)) (.d (.int 0)) = .ok (.d (.str (match t with | .v _ => "var" | .c _ => "val"))) W := by
  cases t <;> simp [tmD, ixD, dctOf, intOf, seqOf, lstOf, DL.tupOf, atI, ixN]
theorem ix_tm1 (t : T) : ixD W (.d (tmD t)) (.d (.int 1)) = .ok (.d (match t with | .v n => .str n | .c x => x)) W := by
  cases t <;> simp [tmD, ixD, dctOf, intOf, seqOf, lstOf, DL.tupOf, atI, ixN]
theorem known_list {ts : List T} (h : okTs ts) {b : B} {ρ : Ev} (h1 : ρ[1]? = some (some (.d (.lst (ts.map tmD))))) (h2 : ρ[2]? = some (some (.d (.dct (bD b))))) (hl : ρ.length = 12) :
    eLc (iRg1 (aCons (eCB lenD (aCons (eVar 1) aNil)) aNil)) (gN 11) (nxE (tstOr (tstV (eOp DL.eqD (eOp ixD (eOp ixD (eVar 1) (eVar 11)) (eC (.int 0))) (eC (.str "val")))) (tstV (eOp DL.inD (eOp ixD (eOp ixD (eVar 1) (eVar 11)) (eC (.int 1))) (eVar 2))))) (nxE (eVar 11)) [11] ρ W
      = .ok (.d (.lst ((kns b ts).map fun i : Nat => D.int (i : Int)))) W := by
  have hi : iRg1 (aCons (eCB lenD (aCons (eVar 1) aNil)) aNil) ρ W = .ok ⟨(List.range' 0 ts.length).map fun k : Nat => Vl.d (.int (k : Int)), yes⟩ W := by
    refine rg1 W ?_ h.l
    simp [aCons, aNil, eCB, eVar, h1, lenD_lst]
  rw [← List.range_eq_range'] at hi
  refine eLc_pure (fun k : Nat => Vl.d (.int (k : Int))) (fun i => kn b (tk ts i)) (fun i : Nat => D.int (i : Int)) (List.range ts.length) hi (by rw [List.length_range]; exact h.l) fun i hi => ⟨_, rfl, ?_⟩
  have hi := List.mem_range.mp hi
  have g1 : ((wipeE ρ [11]).set 11 (some (.d (.int (i : Int)))))[1]? = some (some (.d (.lst (ts.map tmD)))) := by simpa [wipeE, List.getElem?_set] using h1
  have g2 : ((wipeE ρ [11]).set 11 (some (.d (.int (i : Int)))))[2]? = some (some (.d (.dct (bD b)))) := by simpa [wipeE, List.getElem?_set] using h2
  have g3 : ((wipeE ρ [11]).set 11 (some (.d (.int (i : Int)))))[11]? = some (some (.d (.int (i : Int)))) := by
    rw [List.getElem?_set_self]
    simp [wipeE, hl]
  have x1 := ix_lst W (ts.map tmD) i (tm_at hi)
  generalize (wipeE ρ [11]).set 11 (some (.d (.int (i : Int)))) = ρ' at g1 g2 g3
  refine ⟨?_, fun _ => by simp [nxE, eVar, g3]⟩
  have x2 := ix_tm0 W (tk ts i)
  have x3 := ix_tm1 W (tk ts i)
  cases q : tk ts i with
  | v n =>
    rw [q] at x1 x2 x3
    simp [nxE, tstOr, tstV, eOp, eVar, eC, g1, g2, g3, x1, x2, x3, eqD_str, blOf, DL.inD, isIn, dct_bD, okKey_bV, getK_bV, kn]
  | c x =>
    rw [q] at x1 x2 x3
    simp [nxE, tstOr, tstV, eOp, eVar, eC, g1, g2, g3, x1, x2, x3, eqD_str, blOf, kn]
theorem value_list {ts : List T} (h : okTs ts) {b : B} {ρ : Ev} (h1 : ρ[1]? = some (some (.d (.lst (ts.map tmD))))) (h2 : ρ[2]? = some (some (.d (.dct (bD b))))) (h8 : ρ[8]? = some (some (.d (.lst ((kns b ts).map fun i : Nat => D.int (i : Int)))))) (hl : ρ.length = 12) :
    eLc (iS (eVar 8)) (gN 11) (nxE tstYes) (nxE (eIf (tstV (eOp DL.eqD (eOp ixD (eOp ixD (eVar 1) (eVar 11)) (eC (.int 0))) (eC (.str "val")))) (eOp ixD (eOp ixD (eVar 1) (eVar 11)) (eC (.int 1))) (eOp ixD (eVar 2) (eOp ixD (eOp ixD (eVar 1) (eVar 11)) (eC (.int 1)))))) [11] ρ W
      = .ok (.d (.lst (vls b ts))) W := by
  have hn : (kns b ts).length ≤ 1000000 := by
    have h1 : (kns b ts).length ≤ (List.range ts.length).length := List.length_filter_le _ _
    rw [List.length_range] at h1
    exact Nat.le_trans h1 h.l
  refine eLc_all (fun i : Nat => Vl.d (.int (i : Int))) (fun i => (und b (tk ts i)).getD .non) (kns b ts) (by simp [iS, eVar, h8, seq_lst, List.map_map, Function.comp_def]) hn fun i hi => ⟨_, rfl, ?_⟩
  obtain ⟨hi1, hk⟩ := List.mem_filter.mp hi
  have hi1 := List.mem_range.mp hi1
  have g1 : ((wipeE ρ [11]).set 11 (some (.d (.int (i : Int)))))[1]? = some (some (.d (.lst (ts.map tmD)))) := by simpa [wipeE, List.getElem?_set] using h1
  have g2 : ((wipeE ρ [11]).set 11 (some (.d (.int (i : Int)))))[2]? = some (some (.d (.dct (bD b)))) := by simpa [wipeE, List.getElem?_set] using h2
  have g3 : ((wipeE ρ [11]).set 11 (some (.d (.int (i : Int)))))[11]? = some (some (.d (.int (i : Int)))) := by
    rw [List.getElem?_set_self]
    simp [wipeE, hl]
  have x1 := ix_lst W (ts.map tmD) i (tm_at hi1)
  generalize (wipeE ρ [11]).set 11 (some (.d (.int (i : Int)))) = ρ' at g1 g2 g3
  have x2 := ix_tm0 W (tk ts i)
  have x3 := ix_tm1 W (tk ts i)
  have ku := kn_und hk
  cases q : tk ts i with
  | v n =>
    rw [q] at x1 x2 x3 ku
    simp only [und] at ku
    simp [nxE, eIf, tstV, eOp, eVar, eC, g1, g2, g3, x1, x2, x3, eqD_str, blOf, und]
    have : ixD W (.d (.dct (bD b))) (.d (.str n)) = .ok (.d ((b.lookup n).getD .non)) W := by
      simp [ixD, dct_bD, okKey_bV, getK_bV]
      rw [ku]
      simp
    rw [this]
  | c x =>
    rw [q] at x1 x2 x3
    simp [nxE, eIf, tstV, eOp, eVar, eC, g1, g2, g3, x1, x2, x3, eqD_str, blOf, und]
theorem shown_list {ts : List T} (h : okTs ts) {ρ : Ev} (h1 : ρ[1]? = some (some (.d (.lst (ts.map tmD))))) (h7 : ρ[7]? = some (some (.d (.dct (bD tb))))) (hl : ρ.length = 12) :
    eLc (iS (eVar 1)) (gT 2 (gsCons (gN 5) (gsCons (gN 6) gsNil))) (nxE tstYes) (nxE (eTup (aCons (eVar 5) (aCons (eIf (tstV (eOp DL.eqD (eVar 5) (eC (.str "var")))) (eMt tyDct getM (eVar 7) (aCons (eVar 6) (aCons (eVar 6) aNil))) (eVar 6)) aNil)))) [5, 6] ρ W
      = .ok (.d (.lst ((ts.map (ren tb)).map tmD))) W := by
  rw [List.map_map]
  refine eLc_all (fun t => Vl.d (tmD t)) (tmD ∘ ren tb) ts (by simp [iS, eVar, h1, seq_lst, List.map_map, Function.comp_def]) h.l fun t ht => ?_
  have key : ∀ u w : D, tmD t = .tup [u, w] → ∃ ρ', gT 2 (gsCons (gN 5) (gsCons (gN 6) gsNil)) (.d (tmD t)) (wipeE ρ [5, 6]) = some ρ' ∧ ρ'[5]? = some (some (.d u)) ∧ ρ'[6]? = some (some (.d w)) ∧ ρ'[7]? = some (some (.d (.dct (bD tb)))) := by
    intro u w e
    rw [e]
    refine ⟨((wipeE ρ [5, 6]).set 5 (some (.d u))).set 6 (some (.d w)), by simp [gT, DL.tupOf, gsCons, gN, gsNil], ?_, ?_, ?_⟩
    · simp [List.getElem?_set, wipeE, hl]
    · simp [List.getElem?_set, wipeE, hl]
    · simpa [List.getElem?_set, wipeE] using h7
  cases t with
  | v n =>
    obtain ⟨ρ', e, e5, e6, e7⟩ := key _ _ rfl
    refine ⟨ρ', e, ?_⟩
    have hr : ren tb (.v n) = .v (match tb.lookup n with | some (.str m) => m | _ => n) := by
      simp only [ren]
      split <;> simp_all
    have hg : ((tb.lookup n).map Vl.d).getD (.d (.str n)) = .d (.str (match tb.lookup n with | some (.str m) => m | _ => n)) := by
      cases q : tb.lookup n with
      | none => rfl
      | some z =>
        obtain ⟨m, rfl⟩ := tb_str n z q
        rfl
    simp only [Function.comp, hr, tmD]
    simp [nxE, eTup, aCons, aNil, eVar, e5, e6, e7, eIf, tstV, eOp, eC, eqD_str, blOf, eMt, tyDct, dct_bD, getM, okKey_bV, getK_bV, hg, mkTup, dsOf]
  | c x =>
    obtain ⟨ρ', e, e5, e6, e7⟩ := key _ _ rfl
    refine ⟨ρ', e, ?_⟩
    simp [Function.comp, ren, tmD, nxE, eTup, aCons, aNil, eVar, e5, e6, e7, eIf, tstV, eOp, eC, eqD_str, blOf, mkTup, dsOf]
end
end Toy

set_option Elab.async false
set_option linter.all false
set_option maxRecDepth 100000
set_option maxHeartbeats 4000000
namespace Toy
open PySem L2 DL
theorem mapM_all {b : B} : ∀ {ts : List T}, (∀ t ∈ ts, kn b t = true) → ts.mapM (und b) = some (ts.map fun t => (und b t).getD .non)
  | [], _ => rfl
  | t :: ts, h => by
    rw [List.mapM_cons, kn_und (h t List.mem_cons_self), mapM_all fun u hu => h u (List.mem_cons_of_mem _ hu)]
    rfl
theorem und_none {b : B} {t : T} (h : kn b t = false) : und b t = none := by
  cases t with
  | v n =>
    simp only [kn, Option.isSome_eq_false_iff, Option.isNone_iff_eq_none] at h
    exact h
  | c x => cases h
theorem mapM_not {b : B} : ∀ {ts : List T}, (∃ t ∈ ts, kn b t = false) → ts.mapM (und b) = none
  | [], h => by obtain ⟨t, h, _⟩ := h; cases h
  | t :: ts, h => by
    rw [List.mapM_cons]
    cases q : kn b t with
    | false => rw [und_none q]; rfl
    | true =>
      obtain ⟨u, hu, hk⟩ := h
      rcases List.mem_cons.mp hu with rfl | hu
      · rw [q] at hk; cases hk
      · rw [kn_und q, mapM_not ⟨u, hu, hk⟩]; rfl
theorem tk_mem {ts : List T} {t : T} (h : t ∈ ts) : ∃ i, i < ts.length ∧ tk ts i = t := by
  obtain ⟨i, hi, e⟩ := List.mem_iff_getElem.mp h
  exact ⟨i, hi, by simp [tk, List.getD_eq_getElem?_getD, List.getElem?_eq_getElem hi, e]⟩
theorem tk_in {ts : List T} {i : Nat} (h : i < ts.length) : tk ts i ∈ ts := by
  simp [tk, List.getD_eq_getElem?_getD, List.getElem?_eq_getElem h]
theorem kns_all {b : B} {ts : List T} (h : ∀ t ∈ ts, kn b t = true) : kns b ts = List.range ts.length :=
  List.filter_eq_self.mpr fun i hi => h _ (tk_in (List.mem_range.mp hi))
theorem vls_all {b : B} {ts : List T} (h : ∀ t ∈ ts, kn b t = true) : vls b ts = ts.map fun t => (und b t).getD .non := by
  unfold vls
  rw [kns_all h]
  refine List.ext_getElem (by simp) fun i h1 h2 => ?_
  have hi : i < ts.length := by simpa using h1
  simp [tk, List.getD_eq_getElem?_getD, List.getElem?_eq_getElem hi]
theorem kns_len {b : B} {ts : List T} : (kns b ts).length = ts.length ↔ ∀ t ∈ ts, kn b t = true := by
  constructor
  · intro h t ht
    obtain ⟨i, hi, e⟩ := tk_mem ht
    have h2 : kns b ts = List.range ts.length := by
      refine List.Sublist.eq_of_length List.filter_sublist ?_
      rw [List.length_range]
      exact h
    have : i ∈ kns b ts := by rw [h2]; exact List.mem_range.mpr hi
    have := (List.mem_filter.mp this).2
    rw [e] at this
    exact this
  · intro h
    rw [kns_all h, List.length_range]
theorem und_val {b : B} (hb : okBv b) {t : T} (ht : okT t) (h : kn b t = true) : (und b t).getD .non ∈ vals := by
  cases t with
  | v n =>
    obtain ⟨y, hy⟩ := Option.isSome_iff_exists.mp h
    obtain ⟨l1, l2, e1, _⟩ := List.lookup_eq_some_iff.mp hy
    simp only [und, hy]
    exact hb.1 (n, y) (by rw [e1]; simp)
  | c x => exact ht
theorem vls_val {b : B} (hb : okBv b) {ts : List T} (h : okTs ts) : ∀ y ∈ vls b ts, y ∈ vals := by
  intro y hy
  obtain ⟨i, hi, rfl⟩ := List.mem_map.mp hy
  obtain ⟨h1, h2⟩ := List.mem_filter.mp hi
  exact und_val hb (tk_ok h (List.mem_range.mp h1)) h2
theorem okL_self : ∀ l : List D, (∀ x ∈ l, x.ok = true) → okL l = true := fun l h => by
  have := okL_map id l h
  simpa using this
theorem depL_self (n : Nat) : ∀ l : List D, (∀ x ∈ l, x.dep ≤ n) → depL l ≤ n := fun l h => by
  have := depL_map id n l h
  simpa using this
theorem shaped_row {l : List D} (h : ∀ x ∈ l, x ∈ vals) : shapedD (.tup l) = true := by
  simp only [shapedD, Bool.and_eq_true, decide_eq_true_eq]
  refine ⟨okL_self l fun x hx => (tm_ok x (h x hx)).1, ?_⟩
  show depL l + 1 ≤ 64
  have := depL_self 0 l fun x hx => Nat.le_of_eq (tm_ok x (h x hx)).2
  omega
theorem shaped_pat {b : B} (hb : okBv b) {ts : List T} (h : okTs ts) : shapedD (.tup [.tup ((kns b ts).map fun i : Nat => D.int (i : Int)), .tup (vls b ts)]) = true := by
  have h1 : okL ((kns b ts).map fun i : Nat => D.int (i : Int)) = true := okL_map _ _ fun _ _ => rfl
  have h2 : okL (vls b ts) = true := okL_self _ fun x hx => (tm_ok x (vls_val hb h x hx)).1
  have d1 : depL ((kns b ts).map fun i : Nat => D.int (i : Int)) ≤ 0 := depL_map _ 0 _ fun _ _ => Nat.le_refl _
  have d2 : depL (vls b ts) ≤ 0 := depL_self 0 _ fun x hx => Nat.le_of_eq (tm_ok x (vls_val hb h x hx)).2
  simp only [shapedD, Bool.and_eq_true, decide_eq_true_eq]
  refine ⟨by simp [D.ok, okL, h1, h2], ?_⟩
  show max (depL ((kns b ts).map fun i : Nat => D.int (i : Int)) + 1) (max (depL (vls b ts) + 1) 0) + 1 ≤ 64
  omega
section
variable (A : Ad) (W : Ms)
theorem cases1 {ts : List T} (h : okTs ts) {b : B} (hb : okBv b) (x0 : Vl) : f_l_cases1 A [x0, .d (.lst (ts.map tmD)), .d (.dct (bD b))] W = .ok (.d (.bl true)) W := by
  have hf : fin W (.d (.bl true)) (W ++ [.lst ((names ts).map fun m => Vl.d (.str m))]) = .ok (.d (.bl true)) W := fin_app W _ _
  have hz1 : (ts.map tmD).length ≤ 1000000 := by rw [List.length_map]; exact h.l
  have hnl := foldl_len ts []
  have hz2 : ((names ts).map D.str).length ≤ 1000000 := by
    have := h.2
    simp only [List.length_map, names, List.length_nil] at hnl ⊢
    omega
  have hz3 : ((kns b ts).map fun i : Nat => D.int (i : Int)).length ≤ 1000000 := by
    have h1 : (kns b ts).length ≤ (List.range ts.length).length := List.length_filter_le _ _
    rw [List.length_range] at h1
    rw [List.length_map]
    exact Nat.le_trans h1 h.l
  have hz4 : (vls b ts).length ≤ 1000000 := by
    unfold vls
    rw [List.length_map] at hz3 ⊢
    exact hz3
  have hz5 : ((ts.map (ren tb)).map tmD).length ≤ 1000000 := by rw [List.length_map, List.length_map]; exact h.l
  obtain ⟨o5, o6, el⟩ := nm_loop W (x0 := x0) (x1 := .d (.lst (ts.map tmD))) (x2 := .d (.dct (bD b))) (x3 := .d (.lst (ts.map (mk A)))) ts [] none none (by have := h.2; simp; omega)
  have okr : okTs (ts.map (ren tb)) := ⟨fun t ht => by
    obtain ⟨u, hu, rfl⟩ := List.mem_map.mp ht
    exact ren_ok (h.1 u hu), by rw [List.length_map]; exact h.2⟩
  have hns := names_ok ts [] h.1 (fun n hn => nomatch hn)
  -- the statements, one by one
  have e1 := made A W h (ρ := [some x0, some (.d (.lst (ts.map tmD))), some (.d (.dct (bD b))), none, none, none, none, none, none, none, none, none]) (i := 1) (j := 10) (vs := [10]) rfl (by show 10 < 12; decide)
  generalize hW1 : W ++ [.lst ((names ts).map fun m => Vl.d (.str m))] = W1 at hf
  have er : forL yes (gT 2 (gsCons (gN 5) (gsCons (gN 6) gsNil))) nmBody (ts.map fun t => Vl.d (tmD t)) [some x0, some (.d (.lst (ts.map tmD))), some (.d (.dct (bD b))), some (.d (.lst (ts.map (mk A)))), some (.mu W.length), none, none, none, none, none, none, none] (W ++ [.lst []])
      = .nx [some x0, some (.d (.lst (ts.map tmD))), some (.d (.dct (bD b))), some (.d (.lst (ts.map (mk A)))), some (.mu W.length), o5, o6, none, none, none, none, none] W1 := by rw [← hW1]; exact el
  have q0 : ∀ W : Ms, seqItm (.d (.lst (ts.map (mk A)))) W = .ok ⟨ts.map fun t => Vl.d (mk A t), yes⟩ W := fun W => by simp [seq_lst, List.map_map, Function.comp_def]
  have q1 := names_in A W1 h q0
  have q2 : tupD W1 [.mu W.length] = .ok (.d (.tup ((names ts).map D.str))) W1 := by
    have e1 : DL.tupOf (.mu W.length) = none := rfl
    have e3 : W1[W.length]? = some (.lst ((names ts).map fun m => Vl.d (.str m))) := by rw [← hW1]; exact app_get W _
    simp only [tupD, e1, srcOf, seqOf, lstOf, e3]
    have e2 : ((names ts).map fun m => Vl.d (.str m)) = ((names ts).map D.str).map Vl.d := by rw [List.map_map]; rfl
    rw [e2]
    exact mkTup_map _ _ hz2
  have q3 := shown_all A W1 h (q0 W1)
  have q4 := tupD_lst (ts.map tmD) W1 hz1
  have n1 : DL.neD W1 (.d (.tup ((names ts).map D.str))) (.d (.tup ((names ts).map D.str))) = .ok (.d (.bl false)) W1 := neD_shaped W1 (shaped_names hns)
  have n2 := neD_shaped W1 (shaped_tms h.1)
  have q5 := renamed A W1 h (b := tb) (y := .d (.dct (bD tb))) (dct_bD tb W1) tb_str
  have q6 := shown_all A W1 okr (x := .d (.tup (ts.map fun t => mk A (ren tb t)))) (by simp [seq_tup, List.map_map, Function.comp_def])
  have n3 := neD_shaped W1 (shaped_tms okr.1)
  have q7 := shown_list W1 h (ρ := [some x0, some (.d (.lst (ts.map tmD))), some (.d (.dct (bD b))), some (.d (.lst (ts.map (mk A)))), some (.mu W.length), o5, o6, some (.d (.dct (bD tb))), none, none, none, none]) rfl rfl rfl
  have q8 := known_list W1 h (b := b) (ρ := [some x0, some (.d (.lst (ts.map tmD))), some (.d (.dct (bD b))), some (.d (.lst (ts.map (mk A)))), some (.mu W.length), o5, o6, some (.d (.dct (bD tb))), none, none, none, none]) rfl rfl rfl
  have q9 := value_list W1 h (b := b) (ρ := [some x0, some (.d (.lst (ts.map tmD))), some (.d (.dct (bD b))), some (.d (.lst (ts.map (mk A)))), some (.mu W.length), o5, o6, some (.d (.dct (bD tb))), some (.d (.lst ((kns b ts).map fun i : Nat => D.int (i : Int)))), none, none, none]) rfl rfl rfl rfl
  have q10 := pattern A W1 h (b := b) (y := .d (.dct (bD b))) (dct_bD b W1)
  have n4 := neD_shaped W1 (shaped_pat hb h)
  have q11 := filled A W1 h (b := b) (y := .d (.dct (bD b))) (dct_bD b W1)
  have d1 : dsOf [Vl.d (.tup ((kns b ts).map fun i : Nat => D.int (i : Int))), Vl.d (.tup (vls b ts))] = some [.tup ((kns b ts).map fun i : Nat => D.int (i : Int)), .tup (vls b ts)] := rfl
  unfold f_l_cases1 runB
  rw [if_pos (show [x0, Vl.d (.lst (ts.map tmD)), Vl.d (.dct (bD b))].length = 3 from rfl), show startE 12 [x0, Vl.d (.lst (ts.map tmD)), Vl.d (.dct (bD b))] = [some x0, some (.d (.lst (ts.map tmD))), some (.d (.dct (bD b))), none, none, none, none, none, none, none, none, none] from rfl]
  have st1 : sAsgT 2 (aCons (eLc (iS (eVar 1)) (gN 10) (nxE tstYes) (nxE (eCall (f_l_make A) [] (aCons (eVar 10) aNil))) [10]) (aCons (eLstM aNil) aNil)) (gsCons (gN 3) (gsCons (gN 4) gsNil)) [some x0, some (.d (.lst (ts.map tmD))), some (.d (.dct (bD b))), none, none, none, none, none, none, none, none, none] W
      = .nx [some x0, some (.d (.lst (ts.map tmD))), some (.d (.dct (bD b))), some (.d (.lst (ts.map (mk A)))), some (.mu W.length), none, none, none, none, none, none, none] (W ++ [.lst []]) := by
    simp [sAsgT, aCons, aNil, e1, eLstM, mkLstM, gsCons, gN, gsNil]
  have st2 : sFor (iS (eVar 1)) (gT 2 (gsCons (gN 5) (gsCons (gN 6) gsNil))) nmBody [some x0, some (.d (.lst (ts.map tmD))), some (.d (.dct (bD b))), some (.d (.lst (ts.map (mk A)))), some (.mu W.length), none, none, none, none, none, none, none] (W ++ [.lst []])
      = .nx [some x0, some (.d (.lst (ts.map tmD))), some (.d (.dct (bD b))), some (.d (.lst (ts.map (mk A)))), some (.mu W.length), o5, o6, none, none, none, none, none] W1 := by
    have : iS (eVar 1) [some x0, some (.d (.lst (ts.map tmD))), some (.d (.dct (bD b))), some (.d (.lst (ts.map (mk A)))), some (.mu W.length), none, none, none, none, none, none, none] (W ++ [.lst []]) = .ok ⟨ts.map fun t => Vl.d (tmD t), yes⟩ (W ++ [.lst []]) := by
      simp [iS, eVar, seq_lst, List.map_map, Function.comp_def]
    simp only [sFor, this, Res.bindS_ok]
    exact er
  unfold b_l_cases1
  rw [sSeq_nx st1, sSeq_nx st2]
  rw [sSeq_nx (sIf_no (W1 := W1) (by
    simp only [tstOr, tstV, eOp, eCall, eCB, aCons, aNil, eVar, List.getElem?_cons_zero, List.getElem?_cons_succ, Res.bind_ok, List.append_nil, List.nil_append, List.cons_append, q1, q2, n1, blOf, Bool.false_eq_true, if_false, q3, q4, n2]))]
  rw [sSeq_nx (sSet_ok (disp_tb W1 _))]
  simp only [List.set_cons_succ, List.set_cons_zero]
  rw [sSeq_nx (sIf_no (W1 := W1) (by
    simp only [tstV, eOp, eCall, eCB, aCons, aNil, eVar, List.getElem?_cons_zero, List.getElem?_cons_succ, Res.bind_ok, List.append_nil, List.nil_append, List.cons_append, q5, q6, q7, tupD_lst _ _ hz5, n3, blOf]))]
  rw [sSeq_nx (sSet_ok q8)]
  simp only [List.set_cons_succ, List.set_cons_zero]
  rw [sSeq_nx (sSet_ok q9)]
  simp only [List.set_cons_succ, List.set_cons_zero]
  rw [sSeq_nx (sIf_no (W1 := W1) (by
    simp only [tstV, eOp, eCall, eCB, aCons, aNil, eVar, List.getElem?_cons_zero, List.getElem?_cons_succ, Res.bind_ok, List.append_nil, List.nil_append, List.cons_append, q10, tupD_lst _ _ hz3, tupD_lst _ _ hz4, eTup, mkTup, List.length_cons, List.length_nil, d1]
    rw [if_pos (by decide)]
    simp only [Res.bind_ok, n4, blOf]))]
  by_cases hk : ∀ t ∈ ts, kn b t = true
  · have m1 := mapM_all hk
    have m2 := vls_all hk
    rw [m1, ← m2] at q11
    have m3 := eqD_shaped W1 (shaped_row (vls_val hb h))
    have m4 : ((kns b ts).length : Int) = (ts.length : Int) := by rw [kns_len.mpr hk]
    simp [sRet, eOp, eTold, eCall, aCons, aNil, eVar, q11, eIf, tstV, eCB, lenD_lst, eqD_int, m4, blOf, tupD_lst _ _ hz4, m3, hf]
  · have hk' : ∃ t ∈ ts, kn b t = false := by
      refine Classical.byContradiction fun z => hk fun t ht => ?_
      cases q : kn b t with
      | true => rfl
      | false => exact absurd ⟨t, ht, q⟩ z
    rw [mapM_not hk'] at q11
    have m4 : ¬ ((kns b ts).length : Int) = (ts.length : Int) := fun z => hk (kns_len.mp (by omega))
    have m5 : tlF A A.C_NoSuch = some ("no such" : Str) := if_pos rfl
    simp [sRet, eOp, eTold, eCall, aCons, aNil, eVar, q11, m5, eIf, tstV, eCB, lenD_lst, eqD_int, m4, blOf, eC, eqD_str, hf]
end
end Toy

set_option Elab.async false
set_option linter.all false
set_option maxRecDepth 100000
set_option maxHeartbeats 4000000
namespace Toy
open PySem L2 DL
/-! ## dice -/
def m3 (a b c : Int) : M := .lst [.d (.int a), .d (.int b), .d (.int c)]
theorem dice (A : Ad) (c : Int) (W : Ms) : ∃ m, Dc m ∧ f_l_dice A [.d (.int c)] W = .ok (.mu W.length) (W ++ [m]) := by
  have hp : CPow 10 18 := ⟨by decide, by decide, by decide⟩
  by_cases h1 : (-10 : Int) < c
  · by_cases h2 : c < 10
    · refine ⟨m3 (if c < 0 then -c else c) 0 2, ⟨_, _, _, rfl⟩, ?_⟩
      simp [f_l_dice, run0, b_l_dice, startE, sSeq, sIf, tstV, eChain, eOp, eC, eVar, subD, arI, intOf, cmpD, rdD, ltO, h1, h2, blOf, sRet, eLstM, mkLstM, eCB, aCons, aNil, absD, int1, m3]
    · refine ⟨m3 c (1 + c % 1009) (if (10 : Int) ^ 18 ≤ c then 1 else 0), ⟨_, _, _, rfl⟩, ?_⟩
      simp [f_l_dice, run0, b_l_dice, startE, sSeq, sIf, tstV, eChain, eOp, eC, eVar, subD, arI, intOf, cmpD, rdD, ltO, h1, h2, blOf, sRet, eLstM, mkLstM, eCB, aCons, aNil, sNil, addD, modD, arC, intD, geI, powD, hp, m3]
  · refine ⟨m3 c (1 + c % 1009) (if (10 : Int) ^ 18 ≤ c then 1 else 0), ⟨_, _, _, rfl⟩, ?_⟩
    simp [f_l_dice, run0, b_l_dice, startE, sSeq, sIf, tstV, eChain, eOp, eC, eVar, subD, arI, intOf, cmpD, rdD, ltO, h1, blOf, sRet, eLstM, mkLstM, eCB, aCons, aNil, sNil, addD, modD, arC, intD, geI, powD, hp, m3]
theorem one_round (A : Ad) (c : Int) (ρ : Ev) (h2 : ρ[2]? = some (some (.d (.lst [.int c])))) (hl : ρ.length = 4) : ∃ m, Dc m ∧ eLcM (iS (eVar 2)) (gN 3) (nxE tstYes) (nxE (eCall (f_l_dice A) [] (aCons (eVar 3) aNil))) [3] ρ [] = .ok (.mu 1) [m, .lst [.mu 0]] := by
  obtain ⟨m, hm, e⟩ := dice A c []
  refine ⟨m, hm, ?_⟩
  have hv : ((wipeE ρ [3]).set 3 (some (.d (.int c))))[3]? = some (some (.d (.int c))) := by
    rw [List.getElem?_set_self]
    simp [wipeE, hl]
  have et : nxE tstYes ((wipeE ρ [3]).set 3 (some (.d (.int c)))) [] = .ok true [] := rfl
  have ef : nxE (eCall (f_l_dice A) [] (aCons (eVar 3) aNil)) ((wipeE ρ [3]).set 3 (some (.d (.int c)))) [] = .ok (.mu 0) [m] := by
    simp only [nxE, eCall, aCons, aNil, eVar, hv, Res.bind_ok, List.append_nil, List.singleton_append, e]
    rfl
  simp [eLcM, lcA, iS, eVar, h2, seq_lst, lcB, lcL, gN, et, ef, mkLstM, yes]
theorem rounds (A : Ad) (ns : List Int) : ∃ m, Dc m ∧ f_l_rounds A [.d (.lstK (ns.map .int)), .d (.int 1)] [] = .ok (.mu 1) [m, .lst [.mu 0]] := by
  have es : ∃ (c : Int) (l : List D), cutL ((ns.map D.int).map Vl.d) none (some 1) = l.map Vl.d ∧ ((l = [] ∧ c = 0) ∨ l = [.int c]) := by
    cases ns with
    | nil => exact ⟨0, [], rfl, .inl ⟨rfl, rfl⟩⟩
    | cons n r =>
      refine ⟨n, [.int n], ?_, .inr rfl⟩
      have : HT.sIx (r.length + 1) (r.length + 1) (some (1 : Int)) = 1 := by
        simp only [HT.sIx]
        rw [if_neg (by decide)]
        simp
      simp [cutL, HT.sIx_none, this]
  obtain ⟨c, l, e1, hl⟩ := es
  have hll : l.length ≤ 1000000 := by rcases hl with ⟨rfl, _⟩ | rfl <;> simp
  have sl : slD [] (.d (.lstK (ns.map D.int))) none (some 1) = .ok (.d (.lst l)) [] := by
    simp only [slD, lstSq, e1]
    exact mkLst_map l [] hll
  obtain ⟨m, hm, e⟩ := one_round A c [some (.d (.lstK (ns.map D.int))), some (.d (.int 1)), some (.d (.lst [.int c])), none] rfl rfl
  refine ⟨m, hm, ?_⟩
  have s1 : sSet 2 (eSl (eVar 0) pNo (pSome (eVar 1))) [some (.d (.lstK (ns.map D.int))), some (.d (.int 1)), none, none] [] = .nx [some (.d (.lstK (ns.map D.int))), some (.d (.int 1)), some (.d (.lst l)), none] [] := by
    simp [sSet, eSl, eVar, pNo, pSome, intOf, sl]
  have s2 : sIf (tstV (eOp DL.eqD (eVar 2) (eLst aNil))) (sSet 2 (eLst (aCons (eC (.int 0)) aNil))) sNil [some (.d (.lstK (ns.map D.int))), some (.d (.int 1)), some (.d (.lst l)), none] [] = .nx [some (.d (.lstK (ns.map D.int))), some (.d (.int 1)), some (.d (.lst [.int c])), none] [] := by
    rcases hl with ⟨rfl, rfl⟩ | rfl
    · have q : DL.eqD [] (.d (.lst [])) (.d (.lst [])) = .ok (.d (.bl true)) [] := eqD_shaped [] rfl
      simp [sIf, tstV, eOp, eVar, eLst, aNil, aCons, mkLst, dsOf, q, blOf, sSet, eC]
    · have q : DL.eqD [] (.d (.lst [.int c])) (.d (.lst [])) = .ok (.d (.bl false)) [] := by
        unfold DL.eqD
        have z1 : shapedD (.lst [.int c]) = true := rfl
        have z2 : shapedD (.lst []) = true := rfl
        simp [rdD, z1, z2]
      simp [sIf, tstV, eOp, eVar, eLst, aNil, aCons, mkLst, dsOf, q, blOf, sNil]
  unfold f_l_rounds run0 b_l_rounds
  rw [if_pos (show [Vl.d (.lstK (ns.map D.int)), Vl.d (.int 1)].length = 2 from rfl), show startE 4 [Vl.d (.lstK (ns.map D.int)), Vl.d (.int 1)] = [some (.d (.lstK (ns.map D.int))), some (.d (.int 1)), none, none] from rfl, sSeq_nx s1, sSeq_nx s2]
  simp [sRet, e]
end Toy

set_option Elab.async false
set_option linter.all false
set_option maxRecDepth 100000
set_option maxHeartbeats 4000000
namespace Toy
open PySem L2 DL
/-! ## what the law draws -/
/-- the dice stand first, all else stays -/
def Iw (R : Ms) (W : Ms) : Prop := ∃ m, Dc m ∧ W = m :: R
section
variable (A : Ad) (R : Ms)
theorem ev_roll {ρ : Ev} {W : Ms} (i : Iw R W) (h1 : ρ[1]? = some (some (.mu 0))) {k : Int} (h0 : 0 < k) (hk : k < 1000) : ∃ (n : Nat) (W' : Ms), (n : Int) < k ∧ Iw R W' ∧ aCons (eCall (f_l_roll A) [] (aCons (eVar 1) (aCons (eC (.int k)) aNil))) aNil ρ W = .ok [.d (.int (n : Int))] W' := by
  obtain ⟨m, hm, rfl⟩ := i
  obtain ⟨r, m', r0, r1, hm', e⟩ := roll A hm R h0 hk
  obtain ⟨n, rfl⟩ : ∃ n : Nat, r = (n : Int) := ⟨r.toNat, by omega⟩
  refine ⟨n, m' :: R, r1, ⟨m', hm', rfl⟩, ?_⟩
  simp [aCons, aNil, eCall, eVar, eC, h1, e]
theorem rg1' {W : Ms} {fs : FA} {ρ : Ev} {n : Nat} {W' : Ms} (h : fs ρ W = .ok [.d (.int (n : Int))] W') (hn : n ≤ 1000000) : iRg1 fs ρ W = .ok ⟨(List.range' 0 n).map fun k : Nat => Vl.d (.int (k : Int)), yes⟩ W' := by
  have e := rg1 W' (fs := fun _ _ => .ok [.d (.int (n : Int))] W') (ρ := ρ) rfl hn
  unfold iRg1 at e ⊢
  rw [h]
  exact e
theorem ev_row {ρ : Ev} {W : Ms} (i : Iw R W) (h1 : ρ[1]? = some (some (.mu 0))) (hl : ρ.length = 18) : ∃ (r : List D) (W' : Ms), okR r ∧ Iw R W' ∧ eCB tupD (aCons (eLc (iRg1 (aCons (eCall (f_l_roll A) [] (aCons (eVar 1) (aCons (eC (.int 4)) aNil))) aNil)) (gN 15) (nxE tstYes) (nxE (eCall (f_l_value A) [] (aCons (eVar 1) aNil))) [15]) aNil) ρ W = .ok (.d (.tup r)) W' := by
  obtain ⟨n, W1, hn, i1, e1⟩ := ev_roll A R i h1 (k := 4) (by decide) (by decide)
  have hi := rg1' e1 (by omega)
  obtain ⟨ys, W2, e2, hl2, hp, i2⟩ := eLc_st (f := nxE (eCall (f_l_value A) [] (aCons (eVar 1) aNil))) (fg := gN 15) (vs := [15]) (fun k : Nat => Vl.d (.int (k : Int))) (Iw R) (fun y => y ∈ vals) (List.range' 0 n) hi i1 (by simp; omega) fun k hk W ⟨m, hm, hW⟩ => by
    obtain ⟨v, m', hv, hm', e⟩ := value A hm R
    have g : ((wipeE ρ [15]).set 15 (some (.d (.int (k : Int)))))[1]? = some (some (.mu 0)) := by simpa [wipeE, List.getElem?_set] using h1
    refine ⟨_, v, m' :: R, rfl, ?_, hv, ⟨m', hm', rfl⟩⟩
    rw [hW]
    simp [nxE, eCall, aCons, aNil, eVar, g, e]
  have hz : ys.length ≤ 1000 := by rw [hl2, List.length_range']; omega
  refine ⟨ys, W2, ⟨hp, hz⟩, i2, ?_⟩
  simp only [eCB, aCons, aNil, e2, Res.bind_ok]
  exact tupD_lst ys W2 (by omega)
theorem ev_rows {ρ : Ev} {W : Ms} (i : Iw R W) (h1 : ρ[1]? = some (some (.mu 0))) (hl : ρ.length = 18) : ∃ (rs : List (List D)) (W' : Ms), okRs rs ∧ Iw R W' ∧ eLc (iRg1 (aCons (eCall (f_l_roll A) [] (aCons (eVar 1) (aCons (eC (.int 8)) aNil))) aNil)) (gN 10) (nxE tstYes) (nxE (eCB tupD (aCons (eLc (iRg1 (aCons (eCall (f_l_roll A) [] (aCons (eVar 1) (aCons (eC (.int 4)) aNil))) aNil)) (gN 15) (nxE tstYes) (nxE (eCall (f_l_value A) [] (aCons (eVar 1) aNil))) [15]) aNil))) [10] ρ W = .ok (.d (.lst (rs.map .tup))) W' := by
  obtain ⟨n, W1, hn, i1, e1⟩ := ev_roll A R i h1 (k := 8) (by decide) (by decide)
  have hi := rg1' e1 (by omega)
  obtain ⟨ys, W2, e2, hl2, hp, i2⟩ := eLc_st (f := nxE (eCB tupD (aCons (eLc (iRg1 (aCons (eCall (f_l_roll A) [] (aCons (eVar 1) (aCons (eC (.int 4)) aNil))) aNil)) (gN 15) (nxE tstYes) (nxE (eCall (f_l_value A) [] (aCons (eVar 1) aNil))) [15]) aNil))) (fg := gN 10) (vs := [10]) (fun k : Nat => Vl.d (.int (k : Int))) (Iw R) (fun y => ∃ r, okR r ∧ y = .tup r) (List.range' 0 n) hi i1 (by simp; omega) fun k hk W i => by
    have g : ((wipeE ρ [10]).set 10 (some (.d (.int (k : Int)))))[1]? = some (some (.mu 0)) := by simpa [wipeE, List.getElem?_set] using h1
    have gl : ((wipeE ρ [10]).set 10 (some (.d (.int (k : Int))))).length = 18 := by simp [wipeE, hl]
    obtain ⟨r, W', hr, i', e⟩ := ev_row A R i g gl
    exact ⟨_, .tup r, W', rfl, by simp only [nxE, e], ⟨r, hr, rfl⟩, i'⟩
  have hz : ys.length ≤ 1000 := by rw [hl2, List.length_range']; omega
  obtain ⟨rs, hrs, hok⟩ : ∃ rs : List (List D), ys = rs.map .tup ∧ ∀ r ∈ rs, okR r := by
    clear e2 hl2 hz
    induction ys with
    | nil => exact ⟨[], rfl, fun r h => nomatch h⟩
    | cons y ys ih =>
      obtain ⟨r, hr, rfl⟩ := hp y List.mem_cons_self
      obtain ⟨rs, rfl, h⟩ := ih fun z hz => hp z (List.mem_cons_of_mem _ hz)
      exact ⟨r :: rs, rfl, fun q hq => by
        rcases List.mem_cons.mp hq with rfl | hq
        · exact hr
        · exact h q hq⟩
  subst hrs
  exact ⟨rs, W2, ⟨hok, by rw [List.length_map] at hz; exact hz⟩, i2, e2⟩
theorem ev_terms {ρ : Ev} {W : Ms} (i : Iw R W) (h1 : ρ[1]? = some (some (.mu 0))) (hl : ρ.length = 18) : ∃ (ts : List T) (W' : Ms), okTs ts ∧ Iw R W' ∧ eLc (iRg1 (aCons (eCall (f_l_roll A) [] (aCons (eVar 1) (aCons (eC (.int 5)) aNil))) aNil)) (gN 10) (nxE tstYes) (nxE (eCall (f_l_term A) [] (aCons (eVar 1) aNil))) [10] ρ W = .ok (.d (.lst (ts.map tmD))) W' := by
  obtain ⟨n, W1, hn, i1, e1⟩ := ev_roll A R i h1 (k := 5) (by decide) (by decide)
  have hi := rg1' e1 (by omega)
  obtain ⟨ys, W2, e2, hl2, hp, i2⟩ := eLc_st (f := nxE (eCall (f_l_term A) [] (aCons (eVar 1) aNil))) (fg := gN 10) (vs := [10]) (fun k : Nat => Vl.d (.int (k : Int))) (Iw R) (fun y => ∃ t, okT t ∧ y = tmD t) (List.range' 0 n) hi i1 (by simp; omega) fun k hk W ⟨m, hm, hW⟩ => by
    obtain ⟨t, m', ht, hm', e⟩ := term A hm R
    have g : ((wipeE ρ [10]).set 10 (some (.d (.int (k : Int)))))[1]? = some (some (.mu 0)) := by simpa [wipeE, List.getElem?_set] using h1
    refine ⟨_, tmD t, m' :: R, rfl, ?_, ⟨t, ht, rfl⟩, ⟨m', hm', rfl⟩⟩
    rw [hW]
    simp [nxE, eCall, aCons, aNil, eVar, g, e]
  have hz : ys.length ≤ 1000 := by rw [hl2, List.length_range']; omega
  obtain ⟨ts, hts, hok⟩ : ∃ ts : List T, ys = ts.map tmD ∧ ∀ t ∈ ts, okT t := by
    clear e2 hl2 hz
    induction ys with
    | nil => exact ⟨[], rfl, fun r h => nomatch h⟩
    | cons y ys ih =>
      obtain ⟨r, hr, rfl⟩ := hp y List.mem_cons_self
      obtain ⟨rs, rfl, h⟩ := ih fun z hz => hp z (List.mem_cons_of_mem _ hz)
      exact ⟨r :: rs, rfl, fun q hq => by
        rcases List.mem_cons.mp hq with rfl | hq
        · exact hr
        · exact h q hq⟩
  subst hts
  exact ⟨ts, W2, ⟨hok, by rw [List.length_map] at hz; exact hz⟩, i2, e2⟩
theorem ev_bound {ρ : Ev} {W : Ms} (i : Iw R W) (h1 : ρ[1]? = some (some (.mu 0))) (hl : ρ.length = 18) : ∃ (b : B) (W' : Ms), okBv b ∧ (b.map (·.1)).Nodup ∧ (∀ p ∈ b, okN p.1) ∧ Iw R W' ∧ eCB dictF (aCons (eLc (iS (eSl (eC (.str "XY")) pNo (pSome (eCall (f_l_roll A) [] (aCons (eVar 1) (aCons (eC (.int 3)) aNil)))))) (gN 16) (nxE tstYes) (nxE (eTup (aCons (eVar 16) (aCons (eCall (f_l_value A) [] (aCons (eVar 1) aNil)) aNil)))) [16]) aNil) ρ W = .ok (.d (.dct (bD b))) W' := by
  obtain ⟨m, hm, rfl⟩ := i
  obtain ⟨r, m1, r0, r1, hm1, e⟩ := roll A hm R (k := 3) (by decide) (by decide)
  have hz : ("XY" : Str).length ≤ 1000000 := by decide
  have sl : ∀ s : Str, cutS ("XY" : Str) none (some r) = s → eSl (eC (.str "XY")) pNo (pSome (eCall (f_l_roll A) [] (aCons (eVar 1) (aCons (eC (.int 3)) aNil)))) ρ (m :: R) = .ok (.d (.str s)) (m1 :: R) := fun s hs => by
    have e0 : lstSq (m1 :: R) (.d (.str ("XY" : Str))) = none := rfl
    have e1 : DL.tupOf (.d (.str ("XY" : Str))) = none := rfl
    simp [eSl, eC, pNo, pSome, eCall, aCons, aNil, eVar, h1, e, intOf, slD, e0, e1, strOf, hz, hs]
  have run : ∀ (l : List Str) (s : Str), seqItm (.d (.str s)) (m1 :: R) = .ok ⟨l.map fun n => Vl.d (.str n), yes⟩ (m1 :: R) → cutS ("XY" : Str) none (some r) = s → l.length ≤ 3 → l.Nodup → (∀ n ∈ l, okN n) → ∃ (b : B) (W' : Ms), okBv b ∧ (b.map (·.1)).Nodup ∧ (∀ p ∈ b, okN p.1) ∧ Iw R W' ∧
      eCB dictF (aCons (eLc (iS (eSl (eC (.str "XY")) pNo (pSome (eCall (f_l_roll A) [] (aCons (eVar 1) (aCons (eC (.int 3)) aNil)))))) (gN 16) (nxE tstYes) (nxE (eTup (aCons (eVar 16) (aCons (eCall (f_l_value A) [] (aCons (eVar 1) aNil)) aNil)))) [16]) aNil) ρ (m :: R) = .ok (.d (.dct (bD b))) W' := by
    intro l s hs hc hll hnd hon
    have hi : iS (eSl (eC (.str "XY")) pNo (pSome (eCall (f_l_roll A) [] (aCons (eVar 1) (aCons (eC (.int 3)) aNil))))) ρ (m :: R) = .ok ⟨l.map fun n => Vl.d (.str n), yes⟩ (m1 :: R) := by
      simp only [iS, sl s hc, Res.bind_ok, hs]
    have key : ∀ (l : List Str) (W : Ms), Iw R W → ∃ (b : B) (W' : Ms), b.map (·.1) = l ∧ (∀ p ∈ b, p.2 ∈ vals) ∧ Iw R W' ∧ lcL yes (gN 16) (nxE tstYes) (nxE (eTup (aCons (eVar 16) (aCons (eCall (f_l_value A) [] (aCons (eVar 1) aNil)) aNil)))) (wipeE ρ [16]) (l.map fun n => Vl.d (.str n)) W = .ok ((b.map fun p => D.tup [.str p.1, p.2]).map Vl.d) W' := by
      intro l
      induction l with
      | nil => exact fun W i => ⟨[], W, rfl, (fun p h => nomatch h), i, by simp [lcL, yes]⟩
      | cons n l ih =>
        rintro W ⟨mm, hmm, rfl⟩
        obtain ⟨v, m2, hv, hm2, e2⟩ := value A hmm R
        obtain ⟨b, W', hb1, hb2, i', e3⟩ := ih (m2 :: R) ⟨m2, hm2, rfl⟩
        have g1 : ((wipeE ρ [16]).set 16 (some (.d (.str n))))[1]? = some (some (.mu 0)) := by simpa [wipeE, List.getElem?_set] using h1
        have g2 : ((wipeE ρ [16]).set 16 (some (.d (.str n))))[16]? = some (some (.d (.str n))) := by
          rw [List.getElem?_set_self]
          simp [wipeE, hl]
        have et : nxE tstYes ((wipeE ρ [16]).set 16 (some (.d (.str n)))) (mm :: R) = .ok true (mm :: R) := rfl
        have ef : nxE (eTup (aCons (eVar 16) (aCons (eCall (f_l_value A) [] (aCons (eVar 1) aNil)) aNil))) ((wipeE ρ [16]).set 16 (some (.d (.str n)))) (mm :: R) = .ok (.d (.tup [.str n, v])) (m2 :: R) := by
          simp [nxE, eTup, aCons, aNil, eVar, g1, g2, eCall, e2, mkTup, dsOf]
        refine ⟨(n, v) :: b, W', by simp [hb1], fun p hp => ?_, i', ?_⟩
        · rcases List.mem_cons.mp hp with rfl | hp
          · exact hv
          · exact hb2 p hp
        · simp [lcL, yes, gN, et, ef]
          rw [e3]
          simp
    obtain ⟨b, W', hb1, hb2, i', e3⟩ := key l (m1 :: R) ⟨m1, hm1, rfl⟩
    have hbl : b.length = l.length := by rw [← hb1, List.length_map]
    refine ⟨b, W', ⟨hb2, by omega⟩, by rw [hb1]; exact hnd, fun p hp => hon p.1 (by rw [← hb1]; exact List.mem_map_of_mem hp), i', ?_⟩
    have hbz : (b.map fun p => D.tup [.str p.1, p.2]).length ≤ 1000000 := by rw [List.length_map]; omega
    have hm1 : ∀ b : B, prOf ((b.map fun p => D.tup [.str p.1, p.2]).map Vl.d) = some (bV b) := by
      intro b
      induction b with
      | nil => rfl
      | cons p b ih =>
        simp only [List.map_cons, prOf, isKeyS, if_true, ih, Option.map_some]
        rfl
    have hm2 : ∀ (b a : B), ((a ++ b).map (·.1)).Nodup → mergeD (bV a) (bV b) = bV (a ++ b) := by
      intro b
      induction b with
      | nil => intro a _; simp [mergeD, bV]
      | cons p b ih =>
        intro a hn
        have hnew : a.lookup p.1 = none := by
          rw [List.lookup_eq_none_iff]
          intro q hq
          have hn2 := hn
          rw [List.map_append, List.nodup_append] at hn2
          have := hn2.2.2 q.1 (List.mem_map_of_mem hq) p.1 (by simp)
          simpa using fun z => this z.symm
        have h2 := ih (a ++ [p]) (by simpa using hn)
        have h3 : mergeD (bV a) (bV (p :: b)) = mergeD (bV (a ++ [p])) (bV b) := by
          rw [← putK_new p.1 p.2 a hnew]
          rfl
        rw [h3, h2]
        simp
    have hdc : dctD (bV b) = some (bD b) := by
      have := frozen_bV b
      unfold frozen at this
      obtain ⟨x, e1, e2⟩ := Option.map_eq_some_iff.mp this
      cases e2
      exact e1
    have el : eLc (iS (eSl (eC (.str "XY")) pNo (pSome (eCall (f_l_roll A) [] (aCons (eVar 1) (aCons (eC (.int 3)) aNil)))))) (gN 16) (nxE tstYes) (nxE (eTup (aCons (eVar 16) (aCons (eCall (f_l_value A) [] (aCons (eVar 1) aNil)) aNil)))) [16] ρ (m :: R) = .ok (.d (.lst (b.map fun p => D.tup [.str p.1, p.2]))) W' := by
      simp only [eLc, lcA, hi, Res.bind_ok, lcB, List.length_map]
      rw [if_pos (by omega), e3]
      exact mkLst_map _ _ hbz
    have h0 : mergeD [] (bV b) = bV b := hm2 b [] (by simpa [hb1] using hnd)
    have hds : dictSrc W' (.d (.lst (b.map fun p => D.tup [.str p.1, p.2]))) = some (bV b) := by
      have e0 : dctOf W' (.d (.lst (b.map fun p => D.tup [.str p.1, p.2]))) = none := rfl
      simp only [dictSrc, e0, lstOf, List.length_map]
      rw [if_pos (by omega), hm1 b, Option.map_some, h0]
    simp only [eCB, aCons, aNil, el, Res.bind_ok, dictF, hds, mkDct, hdc]
  have : r = 0 ∨ r = 1 ∨ r = 2 := by omega
  rcases this with rfl | rfl | rfl
  · exact run [] ⟨#[]⟩ rfl rfl (by decide) (by decide) (fun n h => nomatch h)
  · exact run ["X"] ⟨#[88]⟩ rfl rfl (by decide) (by decide) (fun n h => .inl (List.mem_singleton.mp h))
  · exact run ["X", "Y"] ⟨#[88, 89]⟩ rfl rfl (by decide) (by simp) (fun n h => by
      simp only [List.mem_cons, List.not_mem_nil, or_false] at h
      rcases h with rfl | rfl
      · exact .inl rfl
      · exact .inr (.inl rfl))
end
end Toy

set_option Elab.async false
set_option linter.all false
set_option maxRecDepth 100000
set_option maxHeartbeats 4000000
namespace Toy
open PySem L2 DL
/-! ## bindings told apart; what matching gives -/
structure okW (w : B) : Prop where
  v : ∀ p ∈ w, p.2 ∈ vals
  n : ∀ p ∈ w, okN p.1
  d : (w.map (·.1)).Nodup
  l : w.length ≤ 2000
noncomputable def sn (w : B) : List D := (w.map fun p => D.str p.1).mergeSort leP
def valOf (w : B) : D → D
  | .str n => (w.lookup n).getD .non
  | _ => .non
noncomputable def bkey (w : B) : D := .tup ((sn w).map fun k => .tup [k, vk (valOf w k)])
theorem lookup_mem {w : B} {p : Str × D} (h : p ∈ w) : ∃ y, w.lookup p.1 = some y := by
  cases q : w.lookup p.1 with
  | some y => exact ⟨y, rfl⟩
  | none =>
    rw [List.lookup_eq_none_iff] at q
    have := q p h
    simp at this
theorem lookup_val {w : B} (h : okW w) {n : Str} {y : D} (e : w.lookup n = some y) : y ∈ vals := by
  obtain ⟨l1, l2, e1, _⟩ := List.lookup_eq_some_iff.mp e
  exact h.v (n, y) (by rw [e1]; simp)
theorem sn_mem {w : B} {k : D} (h : k ∈ sn w) : ∃ p ∈ w, k = .str p.1 := by
  obtain ⟨p, hp, rfl⟩ := List.mem_map.mp (List.mem_mergeSort.mp h)
  exact ⟨p, hp, rfl⟩
theorem sn_len (w : B) : (sn w).length = w.length := by
  unfold sn
  rw [List.length_mergeSort, List.length_map]
theorem sortable_names {w : B} (h : okW w) : sortable (w.map fun p => D.str p.1) = true := by
  simp only [sortable, Bool.and_eq_true, Bool.or_eq_true, List.all_eq_true, decide_eq_true_eq]
  refine ⟨⟨fun k hk => ?_, fun k hk l hl => ?_⟩, .inr fun k hk => ?_⟩
  · obtain ⟨p, hp, rfl⟩ := List.mem_map.mp hk
    exact ⟨⟨nm_ok' (h.n p hp), Nat.zero_le _⟩, rfl⟩
  · obtain ⟨p, hp, rfl⟩ := List.mem_map.mp hk
    obtain ⟨q, hq, rfl⟩ := List.mem_map.mp hl
    rfl
  · obtain ⟨p, hp, rfl⟩ := List.mem_map.mp hk
    rfl
theorem valOf_val {w : B} (h : okW w) {k : D} (hk : k ∈ sn w) : valOf w k ∈ vals ∧ ∃ p ∈ w, k = .str p.1 ∧ w.lookup p.1 = some (valOf w k) := by
  obtain ⟨p, hp, rfl⟩ := sn_mem hk
  obtain ⟨y, hy⟩ := lookup_mem hp
  have e : valOf w (.str p.1) = y := by simp [valOf, hy]
  rw [e]
  exact ⟨lookup_val h hy, p, hp, rfl, hy⟩
theorem bkey_shaped {w : B} (h : okW w) : shapedD (bkey w) = true := by
  simp only [shapedD, Bool.and_eq_true, decide_eq_true_eq]
  refine ⟨okL_map _ _ fun k hk => ?_, ?_⟩
  · obtain ⟨h1, p, hp, rfl, _⟩ := valOf_val h hk
    have h2 := (vk_ok _ h1).1
    have h3 := nm_ok' (h.n p hp)
    show okL [D.str p.1, vk (valOf w (.str p.1))] = true
    simp [okL, D.ok, h3, h2]
  · show depL ((sn w).map fun k => D.tup [k, vk (valOf w k)]) + 1 ≤ 64
    have := depL_map (fun k => D.tup [k, vk (valOf w k)]) 2 (sn w) fun k hk => by
      obtain ⟨h1, p, hp, rfl, _⟩ := valOf_val h hk
      have h2 := (vk_ok _ h1).2.1
      show max 0 (max (vk (valOf w (.str p.1))).dep 0) + 1 ≤ 2
      omega
    omega
theorem eCB1 {g : Ms → List Vl → Res Vl} {f : FE} {ρ : Ev} {W W1 : Ms} {x : Vl} (h : f ρ W = .ok x W1) : eCB g (aCons f aNil) ρ W = g W1 [x] := by
  simp only [eCB, aCons, aNil, h, Res.bind_ok]
section
variable (A : Ad) (W : Ms)
theorem bound_key {w : B} (h : okW w) {x : Vl} (hd : dctOf W x = some (bV w)) (hs : srcOf W x = some (w.map fun p => Vl.d (.str p.1))) : f_bound_key A [x] W = .ok (.d (bkey w)) W := by
  have hl : w.length ≤ 1000000 := by have := h.l; omega
  have e1 : sortD W [x] = .ok (.d (.lst (sn w))) W := by
    have e0 : dsOf (w.map fun p => Vl.d (.str p.1)) = some (w.map fun p => D.str p.1) := by
      rw [← dsOf_map (w.map fun p => D.str p.1), List.map_map]
      rfl
    simp only [sortD, hs, e0]
    rw [if_pos ⟨by rw [List.length_map]; exact hl, sortable_names h⟩]
    rfl
  have hz : ((sn w).map fun k => D.tup [k, vk (valOf w k)]).length ≤ 1000000 := by rw [List.length_map, sn_len]; exact hl
  have e : eLc (iS (eCB sortD (aCons (eVar 0) aNil))) (gN 1) (nxE tstYes) (nxE (eTup (aCons (eVar 1) (aCons (eCall (f_value_key A) [] (aCons (eOp ixD (eVar 0) (eVar 1)) aNil)) aNil)))) [1] [some x, none] W = .ok (.d (.lst ((sn w).map fun k => D.tup [k, vk (valOf w k)]))) W := by
    refine eLc_all Vl.d (fun k => D.tup [k, vk (valOf w k)]) (sn w) (by simp [iS, eCB, aCons, aNil, eVar, e1, seq_lst]) (by rw [sn_len]; exact hl) fun k hk => ⟨_, rfl, ?_⟩
    obtain ⟨h1, p, hp, rfl, h2⟩ := valOf_val h hk
    have h3 := value_key A W (vals_sc h1)
    simp [nxE, eTup, aCons, aNil, eVar, wipeE, eCall, eOp, ixD, hd, okKey_bV, getK_bV, h2, h3, mkTup, dsOf]
  unfold f_bound_key run0 b_bound_key
  rw [if_pos (show [x].length = 1 from rfl), show startE 2 [x] = [some x, none] from rfl]
  simp only [sRet, eCB1 e, tupD_lst _ _ hz, Res.bindS_ok]
  rfl
theorem bound_key_d {w : B} (h : okW w) : f_bound_key A [.d (.dct (bD w))] W = .ok (.d (bkey w)) W :=
  bound_key A W h (dct_bD w W) (by
    have e0 : DL.tupOf (.d (.dct (bD w))) = none := rfl
    simp [srcOf, seqOf, lstOf, e0, dct_bD, bV, List.map_map, Function.comp_def])
theorem bound_key_mu {w : B} (h : okW w) {n : Nat} (hn : W[n]? = some (.dct (bV w))) : f_bound_key A [.mu n] W = .ok (.d (bkey w)) W :=
  bound_key A W h (by simp [dctOf, hn]) (by
    have e0 : DL.tupOf (.mu n) = none := rfl
    simp [srcOf, seqOf, lstOf, e0, dctOf, hn, bV, List.map_map, Function.comp_def])
end
/-! ### what matching gives -/
theorem nodup_snoc {b : B} {n : Str} {v : D} (h : (b.map (·.1)).Nodup) (q : b.lookup n = none) : ((b ++ [(n, v)]).map (·.1)).Nodup := by
  rw [List.map_append, List.nodup_append]
  refine ⟨h, by simp, fun a ha c hc e => ?_⟩
  obtain ⟨p, hp, rfl⟩ := List.mem_map.mp ha
  rw [List.map_singleton, List.mem_singleton] at hc
  rw [List.lookup_eq_none_iff] at q
  have := q p hp
  have e2 : n = p.1 := by
    rw [e, hc]
  simp [e2] at this
theorem lookup_snoc {b : B} {n : Str} {v : D} : ∀ {m : Str} {y : D}, b.lookup m = some y → (b ++ [(n, v)]).lookup m = some y := by
  intro m y h
  induction b with
  | nil => simp at h
  | cons p b ih =>
    obtain ⟨k, z⟩ := p
    rw [List.cons_append, List.lookup_cons]
    rw [List.lookup_cons] at h
    cases e : m == k with
    | true => rw [e] at h; exact h
    | false => rw [e] at h; exact ih h
theorem lookup_new {n : Str} {v : D} : ∀ {b : B}, b.lookup n = none → (b ++ [(n, v)]).lookup n = some v
  | [], _ => by simp
  | (k, z) :: b, h => by
    rw [List.cons_append, List.lookup_cons]
    rw [List.lookup_cons] at h
    cases e : n == k with
    | true => rw [e] at h; cases h
    | false => rw [e] at h; exact lookup_new h
theorem mt_facts : ∀ (ts : List T) (vs : List D) (b w : B), (∀ t ∈ ts, okT t) → (∀ v ∈ vs, v ∈ vals) → (∀ p ∈ b, p.2 ∈ vals) → (∀ p ∈ b, okN p.1) → (b.map (·.1)).Nodup → ts.length = vs.length → mt ts vs b = some w →
    (∀ p ∈ w, p.2 ∈ vals) ∧ (∀ p ∈ w, okN p.1) ∧ (w.map (·.1)).Nodup ∧ w.length ≤ b.length + ts.length ∧ (∀ n y, b.lookup n = some y → w.lookup n = some y) ∧ ts.mapM (und w) = some vs
  | [], [], b, w, _, _, hb, hn, hd, _, e => by
    simp only [mt, Option.some.injEq] at e
    subst e
    exact ⟨hb, hn, hd, by simp, fun _ _ h => h, rfl⟩
  | [], _ :: _, _, _, _, _, _, _, _, h, _ => by simp at h
  | _ :: _, [], _, _, _, _, _, _, _, h, _ => by simp at h
  | .c x :: ts, v :: vs, b, w, ht, hv, hb, hn, hd, hl, e => by
    simp only [mt] at e
    split at e
    · rename_i exv
      obtain ⟨a1, a2, a3, a4, a5, a6⟩ := mt_facts ts vs b w (fun t h => ht t (List.mem_cons_of_mem _ h)) (fun t h => hv t (List.mem_cons_of_mem _ h)) hb hn hd (by simpa using hl) e
      refine ⟨a1, a2, a3, by simp; omega, a5, ?_⟩
      rw [List.mapM_cons, a6]
      simp [und, exv]
    · cases e
  | .v n :: ts, v :: vs, b, w, ht, hv, hb, hn, hd, hl, e => by
    simp only [mt] at e
    cases q : b.lookup n with
    | none =>
      rw [q] at e
      simp only at e
      obtain ⟨a1, a2, a3, a4, a5, a6⟩ := mt_facts ts vs (b ++ [(n, v)]) w (fun t h => ht t (List.mem_cons_of_mem _ h)) (fun t h => hv t (List.mem_cons_of_mem _ h)) (fun p hp => by
          rcases List.mem_append.mp hp with hp | hp
          · exact hb p hp
          · rw [List.mem_singleton.mp hp]; exact hv v List.mem_cons_self) (fun p hp => by
          rcases List.mem_append.mp hp with hp | hp
          · exact hn p hp
          · rw [List.mem_singleton.mp hp]; exact ht _ List.mem_cons_self) (nodup_snoc hd q) (by simpa using hl) e
      refine ⟨a1, a2, a3, by simp at a4 ⊢; omega, fun m y h => a5 m y (lookup_snoc h), ?_⟩
      rw [List.mapM_cons, a6]
      have := a5 n v (lookup_new q)
      simp [und, this]
    | some y =>
      rw [q] at e
      simp only at e
      split at e
      · rename_i eyv
        obtain ⟨a1, a2, a3, a4, a5, a6⟩ := mt_facts ts vs b w (fun t h => ht t (List.mem_cons_of_mem _ h)) (fun t h => hv t (List.mem_cons_of_mem _ h)) hb hn hd (by simpa using hl) e
        refine ⟨a1, a2, a3, by simp; omega, a5, ?_⟩
        rw [List.mapM_cons, a6]
        have := a5 n y q
        simp [und, this, eyv]
      · cases e
end Toy

set_option Elab.async false
set_option linter.all false
set_option maxRecDepth 100000
set_option maxHeartbeats 4000000
namespace Toy
open PySem L2 DL
/-! ## the law's own matching -/
open Classical in
noncomputable def st : T → D → B × Bool → B × Bool
  | .c x, v, s => (s.1, s.2 && decide (x = v))
  | .v n, v, s => match s.1.lookup n with
    | some y => (s.1, s.2 && decide (y = v))
    | none => (s.1 ++ [(n, v)], s.2)
noncomputable def ls : List T → List D → B × Bool → B × Bool
  | t :: ts, v :: vs, s => ls ts vs (st t v s)
  | _, _, s => s
open Classical in
theorem mt_ls : ∀ (ts : List T) (vs : List D) (b : B) (g : Bool), (ls ts vs (b, g)).2 = (g && (mt ts vs b).isSome) ∧ ∀ w, mt ts vs b = some w → (ls ts vs (b, g)).1 = w
  | [], vs, b, g => by
    cases vs <;> simp [ls, mt]
  | t :: ts, [], b, g => by
    cases t <;> simp [ls, mt]
  | .c x :: ts, v :: vs, b, g => by
    have ih := mt_ls ts vs b (g && decide (x = v))
    by_cases e : x = v
    · simp only [ls, st, mt, if_pos e, e, decide_true, Bool.and_true] at ih ⊢
      simpa [e] using ih
    · simp only [ls, st, mt, if_neg e, e, decide_false, Bool.and_false] at ih ⊢
      refine ⟨by simpa using ih.1, fun w h => by cases h⟩
  | .v n :: ts, v :: vs, b, g => by
    cases q : b.lookup n with
    | none =>
      have ih := mt_ls ts vs (b ++ [(n, v)]) g
      simp only [ls, st, mt, q]
      exact ih
    | some y =>
      have ih := mt_ls ts vs b (g && decide (y = v))
      by_cases e : y = v
      · simp only [ls, st, mt, q, if_pos e, e, decide_true, Bool.and_true] at ih ⊢
        simpa [e] using ih
      · simp only [ls, st, mt, q, if_neg e, e, decide_false, Bool.and_false] at ih ⊢
        refine ⟨by simpa using ih.1, fun w h => by cases h⟩
theorem st_ok {t : T} (ht : okT t) {v : D} (hv : v ∈ vals) {s : B × Bool} (hb : ∀ p ∈ s.1, Sc p.2) : ∀ p ∈ (st t v s).1, Sc p.2 := by
  cases t with
  | c x => exact hb
  | v n =>
    simp only [st]
    split
    · exact hb
    · intro p hp
      rcases List.mem_append.mp hp with hp | hp
      · exact hb p hp
      · rw [List.mem_singleton.mp hp]; exact vals_sc hv
theorem st_len (t : T) (v : D) (s : B × Bool) : (st t v s).1.length ≤ s.1.length + 1 := by
  cases t with
  | c x => simp [st]
  | v n =>
    simp only [st]
    split <;> simp
section
variable (A : Ad) (Wp : Ms)
def ev (x0 x1 x2 x3 x4 x5 x6 x7 : Vl) (k : Nat) (g : Bool) (o10 o11 o12 o13 o14 o15 o16 o17 : Option Vl) : Ev :=
  [some x0, some x1, some x2, some x3, some x4, some x5, some x6, some x7, some (.mu k), some (.d (.bl g)), o10, o11, o12, o13, o14, o15, o16, o17]
noncomputable abbrev lsBody : FS := (sSeq (sAsg (eOp ixD (eVar 4) (eVar 10)) (gT 2 (gsCons (gN 11) (gsCons (gN 12) gsNil))))
      (sSeq (sSet 13 (eIf (tstV (eOp DL.eqD (eVar 11) (eC (.str "val")))) (eVar 12) (eMt tyDct setDfM (eVar 8) (aCons (eVar 12) (aCons (eOp ixD (eVar 7) (eVar 10)) aNil)))))
      (sSet 9 (eAndV (eVar 9) (eAndV (eOp DL.eqD (eVar 13) (eOp ixD (eVar 7) (eVar 10))) (eOp DL.eqD (eCB isiD (aCons (eVar 13) (aCons (eC (.cls "int")) aNil))) (eCB isiD (aCons (eOp ixD (eVar 7) (eVar 10)) (aCons (eC (.cls "int")) aNil)))))))))
theorem isi {x : D} (h : Sc x) (W : Ms) : isiD W [.d x, .d (.cls "int")] = .ok (.d (.bl (isN x))) W := by
  rcases h with ⟨i, rfl⟩ | ⟨s, rfl⟩ <;> simp [isiD, tyOfD, kit_ii, kit_si, isN]
theorem and_good {g : Bool} {x y : D} (hx : Sc x) (hy : Sc y) {ρ : Ev} {W : Ms} {fx fy : FE} (h9 : ρ[9]? = some (some (.d (.bl g)))) (h13 : fx ρ W = .ok (.d x) W) (hr : fy ρ W = .ok (.d y) W) (d : Bool) (hd : d = true ↔ x = y) :
    eAndV (eVar 9) (eAndV (eOp DL.eqD fx fy) (eOp DL.eqD (eCB isiD (aCons fx (aCons (eC (.cls "int")) aNil))) (eCB isiD (aCons fy (aCons (eC (.cls "int")) aNil))))) ρ W = .ok (.d (.bl (g && d))) W := by
  cases g with
  | false => simp [eAndV, eVar, h9, blOf]
  | true =>
    by_cases e : x = y
    · have : d = true := hd.mpr e
      subst this
      subst e
      simp [eAndV, eVar, h9, blOf, eOp, h13, hr, eqD_same hx, eCB, aCons, aNil, eC, isi hx, eqD_bl]
    · have : d = false := by
        cases d with
        | false => rfl
        | true => exact absurd (hd.mp rfl) e
      subst this
      simp [eAndV, eVar, h9, blOf, eOp, h13, hr, eqD_not hx hy e]
theorem ls_step {ts : List T} (h : okTs ts) {vs : List D} (hv : ∀ v ∈ vs, v ∈ vals) {b : B} {g : Bool} (hb : ∀ p ∈ b, Sc p.2) (hbl : b.length ≤ 5000) {i : Nat} (h1 : i < ts.length) (h2 : i < vs.length) {x0 x1 x2 x3 x5 x6 : Vl} {o11 o12 o13 o14 o15 o16 o17 : Option Vl} {v : D} (e2 : vs[i]? = some v) :
    ∃ p11 p12 p13, lsBody (ev x0 x1 x2 x3 (.d (.lst (ts.map tmD))) x5 x6 (.d (.tup vs)) Wp.length g (some (.d (.int (i : Int)))) o11 o12 o13 o14 o15 o16 o17) (Wp ++ [.dct (bV b)])
      = .nx (ev x0 x1 x2 x3 (.d (.lst (ts.map tmD))) x5 x6 (.d (.tup vs)) Wp.length (st (tk ts i) v (b, g)).2 (some (.d (.int (i : Int)))) p11 p12 p13 o14 o15 o16 o17) (Wp ++ [.dct (bV (st (tk ts i) v (b, g)).1)]) := by
  have hvv : v ∈ vals := hv v (List.mem_of_getElem? e2)
  have hvs := vals_sc hvv
  have x1' := ix_lst (Wp ++ [.dct (bV b)]) (ts.map tmD) i (tm_at h1)
  have x2' := ix_tup (Wp ++ [.dct (bV b)]) vs i e2
  have ht := tk_ok h h1
  have hz : (bV b).length < sizeLine := mil' (by simp [bV]; omega)
  cases q : tk ts i with
  | c x =>
    rw [q] at x1' ht
    have hxs := vals_sc (show x ∈ vals from ht)
    refine ⟨some (.d (.str "val")), some (.d x), some (.d x), ?_⟩
    have s1 : sAsg (eOp ixD (eVar 4) (eVar 10)) (gT 2 (gsCons (gN 11) (gsCons (gN 12) gsNil))) (ev x0 x1 x2 x3 (.d (.lst (ts.map tmD))) x5 x6 (.d (.tup vs)) Wp.length g (some (.d (.int (i : Int)))) o11 o12 o13 o14 o15 o16 o17) (Wp ++ [.dct (bV b)])
        = .nx (ev x0 x1 x2 x3 (.d (.lst (ts.map tmD))) x5 x6 (.d (.tup vs)) Wp.length g (some (.d (.int (i : Int)))) (some (.d (.str "val"))) (some (.d x)) o13 o14 o15 o16 o17) (Wp ++ [.dct (bV b)]) := by
      simp [sAsg, eOp, eVar, ev, x1', tmD, gT, gsCons, gN, gsNil, DL.tupOf]
    have s2 : sSet 13 (eIf (tstV (eOp DL.eqD (eVar 11) (eC (.str "val")))) (eVar 12) (eMt tyDct setDfM (eVar 8) (aCons (eVar 12) (aCons (eOp ixD (eVar 7) (eVar 10)) aNil)))) (ev x0 x1 x2 x3 (.d (.lst (ts.map tmD))) x5 x6 (.d (.tup vs)) Wp.length g (some (.d (.int (i : Int)))) (some (.d (.str "val"))) (some (.d x)) o13 o14 o15 o16 o17) (Wp ++ [.dct (bV b)])
        = .nx (ev x0 x1 x2 x3 (.d (.lst (ts.map tmD))) x5 x6 (.d (.tup vs)) Wp.length g (some (.d (.int (i : Int)))) (some (.d (.str "val"))) (some (.d x)) (some (.d x)) o14 o15 o16 o17) (Wp ++ [.dct (bV b)]) := by
      simp [sSet, eIf, tstV, eOp, eVar, eC, ev, eqD_str, blOf]
    have s3 := and_good (g := g) hxs hvs (ρ := ev x0 x1 x2 x3 (.d (.lst (ts.map tmD))) x5 x6 (.d (.tup vs)) Wp.length g (some (.d (.int (i : Int)))) (some (.d (.str "val"))) (some (.d x)) (some (.d x)) o14 o15 o16 o17) (W := Wp ++ [.dct (bV b)]) (fx := eVar 13) (fy := eOp ixD (eVar 7) (eVar 10)) rfl rfl (by simp [eOp, eVar, ev, x2']) (st (.c x) v (b, true)).2 (by simp [st])
    have e9 : (g && (st (.c x) v (b, true)).2) = (st (.c x) v (b, g)).2 := by simp [st]
    unfold lsBody
    rw [sSeq_nx s1, sSeq_nx s2, sSet_ok s3, e9]
    rfl
  | v n =>
    rw [q] at x1' ht
    cases ql : b.lookup n with
    | some y =>
      have hys : Sc y := by
        obtain ⟨l1, l2, e1, _⟩ := List.lookup_eq_some_iff.mp ql
        exact hb (n, y) (by rw [e1]; simp)
      refine ⟨some (.d (.str "var")), some (.d (.str n)), some (.d y), ?_⟩
      have s1 : sAsg (eOp ixD (eVar 4) (eVar 10)) (gT 2 (gsCons (gN 11) (gsCons (gN 12) gsNil))) (ev x0 x1 x2 x3 (.d (.lst (ts.map tmD))) x5 x6 (.d (.tup vs)) Wp.length g (some (.d (.int (i : Int)))) o11 o12 o13 o14 o15 o16 o17) (Wp ++ [.dct (bV b)])
          = .nx (ev x0 x1 x2 x3 (.d (.lst (ts.map tmD))) x5 x6 (.d (.tup vs)) Wp.length g (some (.d (.int (i : Int)))) (some (.d (.str "var"))) (some (.d (.str n))) o13 o14 o15 o16 o17) (Wp ++ [.dct (bV b)]) := by
        simp [sAsg, eOp, eVar, ev, x1', tmD, gT, gsCons, gN, gsNil, DL.tupOf]
      have s2 : sSet 13 (eIf (tstV (eOp DL.eqD (eVar 11) (eC (.str "val")))) (eVar 12) (eMt tyDct setDfM (eVar 8) (aCons (eVar 12) (aCons (eOp ixD (eVar 7) (eVar 10)) aNil)))) (ev x0 x1 x2 x3 (.d (.lst (ts.map tmD))) x5 x6 (.d (.tup vs)) Wp.length g (some (.d (.int (i : Int)))) (some (.d (.str "var"))) (some (.d (.str n))) o13 o14 o15 o16 o17) (Wp ++ [.dct (bV b)])
          = .nx (ev x0 x1 x2 x3 (.d (.lst (ts.map tmD))) x5 x6 (.d (.tup vs)) Wp.length g (some (.d (.int (i : Int)))) (some (.d (.str "var"))) (some (.d (.str n))) (some (.d y)) o14 o15 o16 o17) (Wp ++ [.dct (bV b)]) := by
        simp [sSet, eIf, tstV, eOp, eVar, eC, ev, eqD_str, blOf, eMt, tyDct, dctOf, aCons, aNil, x2', setDfM, okKey_bV, getK_bV, ql, hz]
      have s3 := and_good (g := g) hys hvs (ρ := ev x0 x1 x2 x3 (.d (.lst (ts.map tmD))) x5 x6 (.d (.tup vs)) Wp.length g (some (.d (.int (i : Int)))) (some (.d (.str "var"))) (some (.d (.str n))) (some (.d y)) o14 o15 o16 o17) (W := Wp ++ [.dct (bV b)]) (fx := eVar 13) (fy := eOp ixD (eVar 7) (eVar 10)) rfl rfl (by simp [eOp, eVar, ev, x2']) (st (.v n) v (b, true)).2 (by simp [st, ql])
      have e9 : (g && (st (.v n) v (b, true)).2) = (st (.v n) v (b, g)).2 := by simp [st, ql]
      have e1 : (st (.v n) v (b, g)).1 = b := by simp [st, ql]
      unfold lsBody
      rw [sSeq_nx s1, sSeq_nx s2, sSet_ok s3, e9, e1]
      rfl
    | none =>
      refine ⟨some (.d (.str "var")), some (.d (.str n)), some (.d v), ?_⟩
      have s1 : sAsg (eOp ixD (eVar 4) (eVar 10)) (gT 2 (gsCons (gN 11) (gsCons (gN 12) gsNil))) (ev x0 x1 x2 x3 (.d (.lst (ts.map tmD))) x5 x6 (.d (.tup vs)) Wp.length g (some (.d (.int (i : Int)))) o11 o12 o13 o14 o15 o16 o17) (Wp ++ [.dct (bV b)])
          = .nx (ev x0 x1 x2 x3 (.d (.lst (ts.map tmD))) x5 x6 (.d (.tup vs)) Wp.length g (some (.d (.int (i : Int)))) (some (.d (.str "var"))) (some (.d (.str n))) o13 o14 o15 o16 o17) (Wp ++ [.dct (bV b)]) := by
        simp [sAsg, eOp, eVar, ev, x1', tmD, gT, gsCons, gN, gsNil, DL.tupOf]
      have s2 : sSet 13 (eIf (tstV (eOp DL.eqD (eVar 11) (eC (.str "val")))) (eVar 12) (eMt tyDct setDfM (eVar 8) (aCons (eVar 12) (aCons (eOp ixD (eVar 7) (eVar 10)) aNil)))) (ev x0 x1 x2 x3 (.d (.lst (ts.map tmD))) x5 x6 (.d (.tup vs)) Wp.length g (some (.d (.int (i : Int)))) (some (.d (.str "var"))) (some (.d (.str n))) o13 o14 o15 o16 o17) (Wp ++ [.dct (bV b)])
          = .nx (ev x0 x1 x2 x3 (.d (.lst (ts.map tmD))) x5 x6 (.d (.tup vs)) Wp.length g (some (.d (.int (i : Int)))) (some (.d (.str "var"))) (some (.d (.str n))) (some (.d v)) o14 o15 o16 o17) (Wp ++ [.dct (bV (b ++ [(n, v)]))]) := by
        simp [sSet, eIf, tstV, eOp, eVar, eC, ev, eqD_str, blOf, eMt, tyDct, dctOf, aCons, aNil, x2', setDfM, okKey_bV, getK_bV, ql, hz, putK_new n v b ql]
      have x3' := ix_tup (Wp ++ [.dct (bV (b ++ [(n, v)]))]) vs i e2
      have s3 := and_good (g := g) hvs hvs (ρ := ev x0 x1 x2 x3 (.d (.lst (ts.map tmD))) x5 x6 (.d (.tup vs)) Wp.length g (some (.d (.int (i : Int)))) (some (.d (.str "var"))) (some (.d (.str n))) (some (.d v)) o14 o15 o16 o17) (W := Wp ++ [.dct (bV (b ++ [(n, v)]))]) (fx := eVar 13) (fy := eOp ixD (eVar 7) (eVar 10)) rfl rfl (by simp [eOp, eVar, ev, x3']) true (by simp)
      have e9 : (g && true) = (st (.v n) v (b, g)).2 := by simp [st, ql]
      have e1 : (st (.v n) v (b, g)).1 = b ++ [(n, v)] := by simp [st, ql]
      unfold lsBody
      rw [sSeq_nx s1, sSeq_nx s2, sSet_ok s3, e9, e1]
      rfl
theorem ls_loop {ts : List T} (h : okTs ts) {vs : List D} (hv : ∀ v ∈ vs, v ∈ vals) {x0 x1 x2 x3 x5 x6 : Vl} {o14 o15 o16 o17 : Option Vl} : ∀ (m i : Nat) (b : B) (g : Bool) (o10 o11 o12 o13 : Option Vl), (∀ p ∈ b, Sc p.2) → b.length + m ≤ 5000 → i + m = min ts.length vs.length →
    ∃ p10 p11 p12 p13, forL yes (gN 10) lsBody ((List.range' i m).map fun k : Nat => Vl.d (.int (k : Int))) (ev x0 x1 x2 x3 (.d (.lst (ts.map tmD))) x5 x6 (.d (.tup vs)) Wp.length g o10 o11 o12 o13 o14 o15 o16 o17) (Wp ++ [.dct (bV b)])
      = .nx (ev x0 x1 x2 x3 (.d (.lst (ts.map tmD))) x5 x6 (.d (.tup vs)) Wp.length (ls (ts.drop i) (vs.drop i) (b, g)).2 p10 p11 p12 p13 o14 o15 o16 o17) (Wp ++ [.dct (bV (ls (ts.drop i) (vs.drop i) (b, g)).1)])
  | 0, i, b, g, o10, o11, o12, o13, _, _, hi => by
    refine ⟨o10, o11, o12, o13, ?_⟩
    have : ts.drop i = [] ∨ vs.drop i = [] := by
      simp only [List.drop_eq_nil_iff]
      omega
    have e : ls (ts.drop i) (vs.drop i) (b, g) = (b, g) := by
      rcases this with e | e
      · rw [e]; cases vs.drop i <;> rfl
      · rw [e]; cases ts.drop i <;> rfl
    rw [e]
    simp [forL, yes]
  | m + 1, i, b, g, o10, o11, o12, o13, hb, hl, hi => by
    have h1 : i < ts.length := by omega
    have h2 : i < vs.length := by omega
    have e2 : vs[i]? = some vs[i] := List.getElem?_eq_getElem h2
    obtain ⟨p11, p12, p13, e⟩ := ls_step Wp h hv (g := g) hb (by omega) h1 h2 (x0 := x0) (x1 := x1) (x2 := x2) (x3 := x3) (x5 := x5) (x6 := x6) (o11 := o11) (o12 := o12) (o13 := o13) (o14 := o14) (o15 := o15) (o16 := o16) (o17 := o17) e2
    have hs := st_len (tk ts i) vs[i] (b, g)
    obtain ⟨r10, r11, r12, r13, ih⟩ := ls_loop h hv (x0 := x0) (x1 := x1) (x2 := x2) (x3 := x3) (x5 := x5) (x6 := x6) (o14 := o14) (o15 := o15) (o16 := o16) (o17 := o17) m (i + 1) (st (tk ts i) vs[i] (b, g)).1 (st (tk ts i) vs[i] (b, g)).2 (some (.d (.int (i : Int)))) p11 p12 p13 (st_ok (tk_ok h h1) (hv _ (List.getElem_mem h2)) hb) (by simp only at hs; omega) (by omega)
    have ed : ls (ts.drop i) (vs.drop i) (b, g) = ls (ts.drop (i + 1)) (vs.drop (i + 1)) (st (tk ts i) vs[i] (b, g)) := by
      have et : tk ts i = ts[i] := by simp [tk, List.getD_eq_getElem?_getD, List.getElem?_eq_getElem h1]
      rw [List.drop_eq_getElem_cons h1, List.drop_eq_getElem_cons h2, ls, et]
    refine ⟨r10, r11, r12, r13, ?_⟩
    rw [ed, ← ih]
    have eg : gN 10 (Vl.d (.int (i : Int))) (ev x0 x1 x2 x3 (.d (.lst (ts.map tmD))) x5 x6 (.d (.tup vs)) Wp.length g o10 o11 o12 o13 o14 o15 o16 o17) = some (ev x0 x1 x2 x3 (.d (.lst (ts.map tmD))) x5 x6 (.d (.tup vs)) Wp.length g (some (.d (.int (i : Int)))) o11 o12 o13 o14 o15 o16 o17) := rfl
    simp only [List.range'_succ, List.map_cons, forL, yes, if_true, eg, e]
end
end Toy

set_option Elab.async false
set_option linter.all false
set_option maxRecDepth 100000
set_option maxHeartbeats 4000000
namespace Toy
open PySem L2 DL
/-! ## one row of the law's last loop -/
def bd0 : B := [("X", .int 0), ("Y", .int 0), ("Z", .int 0)]
theorem bd0_ok : okBv bd0 := ⟨fun p hp => by
  simp only [bd0, List.mem_cons, List.not_mem_nil, or_false] at hp
  rcases hp with rfl | rfl | rfl <;> simp [vals], by simp [bd0]⟩
@[simp] theorem ne_xz : ¬ (("X" : Str) = "Z") := by decide +kernel
@[simp] theorem ne_yz : ¬ (("Y" : Str) = "Z") := by decide +kernel
theorem disp0 (ρ : Ev) (W : Ms) : eDisp [((eC (.str "X")), (eC (.int 0))), ((eC (.str "Y")), (eC (.int 0))), ((eC (.str "Z")), (eC (.int 0)))] ρ W = .ok (.d (.dct (bD bd0))) W := by
  simp [eDisp, fPairs, eC, dcL.keyV, mergeD, putKD, mkDct, dctD, bD, bd0]
@[simp] theorem ne_zx : ¬ (("Z" : Str) = "X") := by decide +kernel
@[simp] theorem ne_zy : ¬ (("Z" : Str) = "Y") := by decide +kernel
@[simp] theorem ne_yx : ¬ (("Y" : Str) = "X") := by decide +kernel
theorem look0 {n : Str} (h : n = "X" ∨ n = "Y" ∨ n = "Z") : bd0.lookup n = some (.int 0) := by
  rcases h with rfl | rfl | rfl <;> simp only [bd0, List.lookup_cons] <;> (repeat' split) <;> first | rfl | (exfalso; simp_all)
theorem kn0 {t : T} (h : okT t) : kn bd0 t = true := by
  cases t with
  | c x => rfl
  | v n =>
    have : bd0.lookup n = some (.int 0) := look0 h
    simp [kn, this]
theorem nodup_look {w : B} (h : (w.map (·.1)).Nodup) {p : Str × D} (hp : p ∈ w) : w.lookup p.1 = some p.2 := by
  induction w with
  | nil => exact nomatch hp
  | cons q w ih =>
    obtain ⟨k, z⟩ := q
    rw [List.map_cons, List.nodup_cons] at h
    rcases List.mem_cons.mp hp with rfl | hp
    · simp
    · have : ¬ p.1 = k := fun e => h.1 (e ▸ List.mem_map_of_mem (f := (·.1)) hp)
      rw [List.lookup_cons, show (p.1 == k) = false by simpa using this]
      exact ih h.2 hp
theorem neX'_same {w : B} (h : okW w) {W : Ms} {x y : Vl} (hx : dctOf W x = some (bV w)) (hy : dctOf W y = some (bV w)) : neX' W x y = .ok (.d (.bl false)) W := by
  unfold neX'
  rw [hx, hy]
  refine if_pos ⟨rfl, ?_, ?_, fun p hp => ?_⟩
  · simp [bV, flatK]
  · simp [bV, flatK]
  · obtain ⟨q, hq, rfl⟩ := List.mem_map.mp hp
    refine ⟨q.2, rfl, ?_, ?_⟩
    · rcases vals_sc (h.v q hq) with ⟨i, e⟩ | ⟨s, e⟩ <;> rw [e] <;> rfl
    · rw [getK_bV, nodup_look h.d hq]
      rfl
section
variable (A : Ad) (W : Ms)
theorem fill0 {ts : List T} (h : okTs ts) : ∃ ys : List D, (∀ y ∈ ys, y ∈ vals) ∧ ys.length = ts.length ∧ f_filled A [.d (.lst (ts.map (mk A))), .d (.dct (bD bd0))] W = .ok (.d (.tup ys)) W := by
  have e := filled A W h (dct_bD bd0 W)
  rw [mapM_all fun t ht => kn0 (h.1 t ht)] at e
  refine ⟨_, fun y hy => ?_, by rw [List.length_map], e⟩
  obtain ⟨t, ht, rfl⟩ := List.mem_map.mp hy
  exact und_val bd0_ok (h.1 t ht) (kn0 (h.1 t ht))
theorem fill_tst {ts : List T} {ys : List D} (hy : ∀ y ∈ ys, y ∈ vals) (hl : ys.length = ts.length) {ρ : Ev} {f : FE} (hf : f ρ W = .ok (.d (.tup ys)) W) (h4 : ρ[4]? = some (some (.d (.lst (ts.map tmD))))) :
    tstAnd (tstV (eOp DL.eqD f (eTup aNil))) (tstV (eOp DL.neD (eVar 4) (eLst aNil))) ρ W = .ok false W := by
  have et : eTup aNil ρ W = .ok (.d (.tup [])) W := rfl
  have el : eLst aNil ρ W = .ok (.d (.lst [])) W := rfl
  have s0 : shapedD (.tup []) = true := by decide +kernel
  cases ys with
  | nil =>
    have : ts = [] := List.length_eq_zero_iff.mp (by rw [← hl]; rfl)
    subst this
    have s1 : shapedD (.lst []) = true := by decide +kernel
    simp [tstAnd, tstV, eOp, hf, et, el, eVar, h4, eqD_shaped W s0, neD_shaped W s1, blOf]
  | cons y ys =>
    have s1 := shaped_row (l := y :: ys) hy
    have : DL.eqD W (.d (.tup (y :: ys))) (.d (.tup [])) = .ok (.d (.bl false)) W := by
      unfold DL.eqD
      simp [rdD, s0, s1]
    simp [tstAnd, tstV, eOp, hf, et, this, blOf]
theorem eCall2 {F : FD} {fa fb : FE} {ρ : Ev} {x y : Vl} (ha : fa ρ W = .ok x W) (hb : fb ρ W = .ok y W) : eCall F [] (aCons fa (aCons fb aNil)) ρ W = F [x, y] W := by
  simp only [eCall, aCons, aNil, ha, hb, Res.bind_ok, List.append_nil]
theorem orN {ρ : Ev} {x : Vl} {w : B} (h14 : ρ[14]? = some (some x)) (hx : DL.isNon x = false) (hd : dctOf W x = some (bV w)) : eOrN (eVar 14) (eDisp [((eC (.str "X")), (eC (.int 0))), ((eC (.str "Y")), (eC (.int 0))), ((eC (.str "Z")), (eC (.int 0)))]) ρ W = if bV w = [] then .ok (.d (.dct (bD bd0))) W else .ok x W := by
  have hk : ((bV w).all fun p => flatK p.1) = true := by simp [bV, flatK]
  simp only [eOrN, eVar, h14, Res.bind_ok, hx, Bool.false_eq_true, if_false, hd, hk, if_true, disp0]
noncomputable abbrev rowBody : FS := (sSeq (sAsgT 2 (aCons (eCB dictM (aCons (eVar 5) aNil)) (aCons (eOp DL.eqD (eCB lenD (aCons (eVar 7) aNil)) (eCB lenD (aCons (eVar 4) aNil))) aNil)) (gsCons (gN 8) (gsCons (gN 9) gsNil)))
      (sSeq (sFor (iRg1 (aCons (eCB min2D (aCons (eCB lenD (aCons (eVar 7) aNil)) (aCons (eCB lenD (aCons (eVar 4) aNil)) aNil))) aNil)) (gN 10) lsBody)
      (sSeq (sSet 14 (eIf (tstV (eVar 9)) (eVar 8) (eC .non)))
      (sSeq (sSet 3 (eCall (f_matched A) [] (aCons (eVar 6) (aCons (eVar 7) (aCons (eVar 5) aNil)))))
      (sSeq (sIf (tstOr (tstV (eOp neX' (eVar 3) (eVar 14))) (tstOr (tstAnd (tstV (eOp notNoneD (eVar 14) (eC .non))) (tstV (eOp DL.neD (eCall (f_bound_key A) [] (aCons (eVar 3) aNil)) (eCall (f_bound_key A) [] (aCons (eVar 14) aNil))))) (tstAnd (tstV (eOp DL.eqD (eCall (f_filled A) [] (aCons (eVar 6) (aCons (eOrN (eVar 14) (eDisp [((eC (.str "X")), (eC (.int 0))), ((eC (.str "Y")), (eC (.int 0))), ((eC (.str "Z")), (eC (.int 0)))])) aNil))) (eTup aNil))) (tstV (eOp DL.neD (eVar 4) (eLst aNil)))))) (sRet (eC (.bl false))) sNil)
      (sIf (tstAnd (tstV (eOp notNoneD (eVar 14) (eC .non))) (tstV (eOp DL.neD (eCall (f_filled A) [] (aCons (eVar 6) (aCons (eVar 14) aNil))) (eVar 7)))) (sRet (eC (.bl false))) sNil))))))
theorem row_step {ts : List T} (h : okTs ts) {b : B} (hb : okBv b) (hn : ∀ p ∈ b, okN p.1) (hd : (b.map (·.1)).Nodup) {r : List D} (hr : okR r) (x0 x1 x2 x3 : Vl) (o8 o9 o10 o11 o12 o13 o14 o15 o16 o17 : Option Vl) :
    ∃ p3 p8 p9 p10 p11 p12 p13 p14 X, rowBody A [some x0, some x1, some x2, some x3, some (.d (.lst (ts.map tmD))), some (.d (.dct (bD b))), some (.d (.lst (ts.map (mk A)))), some (.d (.tup r)), o8, o9, o10, o11, o12, o13, o14, o15, o16, o17] W
      = .nx [some x0, some x1, some x2, some p3, some (.d (.lst (ts.map tmD))), some (.d (.dct (bD b))), some (.d (.lst (ts.map (mk A)))), some (.d (.tup r)), p8, p9, p10, p11, p12, p13, p14, o15, o16, o17] (W ++ [X]) := by
  have src : dictSrc W (.d (.dct (bD b))) = some (bV b) := by simp only [dictSrc, dct_bD, keyS_bV, if_true]
  -- two names set at once
  have s1 : sAsgT 2 (aCons (eCB dictM (aCons (eVar 5) aNil)) (aCons (eOp DL.eqD (eCB lenD (aCons (eVar 7) aNil)) (eCB lenD (aCons (eVar 4) aNil))) aNil)) (gsCons (gN 8) (gsCons (gN 9) gsNil)) [some x0, some x1, some x2, some x3, some (.d (.lst (ts.map tmD))), some (.d (.dct (bD b))), some (.d (.lst (ts.map (mk A)))), some (.d (.tup r)), o8, o9, o10, o11, o12, o13, o14, o15, o16, o17] W
      = .nx (ev x0 x1 x2 x3 (.d (.lst (ts.map tmD))) (.d (.dct (bD b))) (.d (.lst (ts.map (mk A)))) (.d (.tup r)) W.length (decide (r.length = ts.length)) o10 o11 o12 o13 o14 o15 o16 o17) (W ++ [.dct (bV b)]) := by
    have e1 : ((r.length : Int) = (ts.length : Int)) = (r.length = ts.length) := by
      simp only [eq_iff_iff]
      omega
    simp [sAsgT, aCons, aNil, eCB, eVar, dictM, src, mkDctM, eOp, lenD_lst, lenD_tup, eqD_int, e1, gsCons, gN, gsNil, ev]
  -- the loop over the places
  have hm : (if ((ts.length : Nat) : Int) < (r.length : Nat) then ((ts.length : Nat) : Int) else (r.length : Nat)) = ((min ts.length r.length : Nat) : Int) := by
    split <;> omega
  have hi : iRg1 (aCons (eCB min2D (aCons (eCB lenD (aCons (eVar 7) aNil)) (aCons (eCB lenD (aCons (eVar 4) aNil)) aNil))) aNil) (ev x0 x1 x2 x3 (.d (.lst (ts.map tmD))) (.d (.dct (bD b))) (.d (.lst (ts.map (mk A)))) (.d (.tup r)) W.length (decide (r.length = ts.length)) o10 o11 o12 o13 o14 o15 o16 o17) (W ++ [.dct (bV b)]) = .ok ⟨(List.range' 0 (min ts.length r.length)).map fun k : Nat => Vl.d (.int (k : Int)), yes⟩ (W ++ [.dct (bV b)]) := by
    refine rg1 _ ?_ (by have := h.2; omega)
    simp only [aCons, aNil, eCB, eVar, ev, List.getElem?_cons_zero, List.getElem?_cons_succ, Res.bind_ok, lenD_tup, lenD_lst, List.length_map, min2D, int2, intOf, hm]
  obtain ⟨p10, p11, p12, p13, el⟩ := ls_loop W h hr.1 (x0 := x0) (x1 := x1) (x2 := x2) (x3 := x3) (x5 := .d (.dct (bD b))) (x6 := .d (.lst (ts.map (mk A)))) (o14 := o14) (o15 := o15) (o16 := o16) (o17 := o17) (min ts.length r.length) 0 b (decide (r.length = ts.length)) o10 o11 o12 o13 hb.b.1 (by have := h.2; have := hb.2; omega) (by omega)
  simp only [List.drop_zero] at el
  obtain ⟨f1, f2⟩ := mt_ls ts r b (decide (r.length = ts.length))
  generalize ew : (ls ts r (b, decide (r.length = ts.length))).1 = w' at el f2
  generalize eg : (ls ts r (b, decide (r.length = ts.length))).2 = g at el f1
  have s2 : sFor (iRg1 (aCons (eCB min2D (aCons (eCB lenD (aCons (eVar 7) aNil)) (aCons (eCB lenD (aCons (eVar 4) aNil)) aNil))) aNil)) (gN 10) lsBody (ev x0 x1 x2 x3 (.d (.lst (ts.map tmD))) (.d (.dct (bD b))) (.d (.lst (ts.map (mk A)))) (.d (.tup r)) W.length (decide (r.length = ts.length)) o10 o11 o12 o13 o14 o15 o16 o17) (W ++ [.dct (bV b)])
      = .nx (ev x0 x1 x2 x3 (.d (.lst (ts.map tmD))) (.d (.dct (bD b))) (.d (.lst (ts.map (mk A)))) (.d (.tup r)) W.length g p10 p11 p12 p13 o14 o15 o16 o17) (W ++ [.dct (bV w')]) := by
    simp only [sFor, hi, Res.bindS_ok, el]
  have em : mtF ts r b = if g = true then some w' else none := by
    unfold mtF
    rw [f1]
    by_cases e : ts.length = r.length
    · rw [if_pos e]
      cases q : mt ts r b with
      | none => simp
      | some w => simp [e, f2 w q]
    · have : ¬ r.length = ts.length := fun z => e z.symm
      simp [e, this]
  have hmt := matched A (W ++ [.dct (bV w')]) h hr.sc hb.b (dct_bD b (W ++ [.dct (bV w')]))
  have hdm : dctOf (W ++ [.dct (bV w')]) (.mu W.length) = some (bV w') := by simp [dctOf]
  rw [em] at hmt
  unfold rowBody
  rw [sSeq_nx s1, sSeq_nx s2]
  cases g with
  | true =>
    simp only [if_true] at hmt em
    have hl : ts.length = r.length := by
      unfold mtF at em
      split at em
      · assumption
      · cases em
    have e' : mt ts r b = some w' := by
      unfold mtF at em
      rw [if_pos hl] at em
      exact em
    obtain ⟨a1, a2, a3, a4, _, a6⟩ := mt_facts ts r b w' h.1 hr.1 hb.1 hn hd hl e'
    have hw : okW w' := ⟨a1, a2, a3, by have := h.2; have := hb.2; omega⟩
    have s3 : sSet 14 (eIf (tstV (eVar 9)) (eVar 8) (eC .non)) (ev x0 x1 x2 x3 (.d (.lst (ts.map tmD))) (.d (.dct (bD b))) (.d (.lst (ts.map (mk A)))) (.d (.tup r)) W.length true p10 p11 p12 p13 o14 o15 o16 o17) (W ++ [.dct (bV w')])
        = .nx (ev x0 x1 x2 x3 (.d (.lst (ts.map tmD))) (.d (.dct (bD b))) (.d (.lst (ts.map (mk A)))) (.d (.tup r)) W.length true p10 p11 p12 p13 (some (.mu W.length)) o15 o16 o17) (W ++ [.dct (bV w')]) := by
      simp [sSet, eIf, tstV, eVar, ev, blOf]
    have s4 : sSet 3 (eCall (f_matched A) [] (aCons (eVar 6) (aCons (eVar 7) (aCons (eVar 5) aNil)))) (ev x0 x1 x2 x3 (.d (.lst (ts.map tmD))) (.d (.dct (bD b))) (.d (.lst (ts.map (mk A)))) (.d (.tup r)) W.length true p10 p11 p12 p13 (some (.mu W.length)) o15 o16 o17) (W ++ [.dct (bV w')])
        = .nx (ev x0 x1 x2 (.d (.dct (bD w'))) (.d (.lst (ts.map tmD))) (.d (.dct (bD b))) (.d (.lst (ts.map (mk A)))) (.d (.tup r)) W.length true p10 p11 p12 p13 (some (.mu W.length)) o15 o16 o17) (W ++ [.dct (bV w')]) := by
      simp [sSet, eCall, aCons, aNil, eVar, ev, hmt]
    rw [sSeq_nx s3, sSeq_nx s4]
    have k1 := bound_key_d A (W ++ [.dct (bV w')]) hw
    have k2 := bound_key_mu A (W ++ [.dct (bV w')]) hw (n := W.length) (by simp)
    have k3 := neD_shaped (W ++ [.dct (bV w')]) (bkey_shaped hw)
    have n1 := neX'_same hw (dct_bD w' (W ++ [.dct (bV w')])) hdm
    have fr := filled A (W ++ [.dct (bV w')]) h hdm
    rw [a6] at fr
    have hk : ((bV w').all fun p => flatK p.1) = true := by simp [bV, flatK]
    have sr := neD_shaped (W ++ [.dct (bV w')]) (shaped_row hr.1)
    have ft : ∃ ys : List D, (∀ y ∈ ys, y ∈ vals) ∧ ys.length = ts.length ∧ eCall (f_filled A) [] (aCons (eVar 6) (aCons (eOrN (eVar 14) (eDisp [((eC (.str "X")), (eC (.int 0))), ((eC (.str "Y")), (eC (.int 0))), ((eC (.str "Z")), (eC (.int 0)))])) aNil)) (ev x0 x1 x2 (.d (.dct (bD w'))) (.d (.lst (ts.map tmD))) (.d (.dct (bD b))) (.d (.lst (ts.map (mk A)))) (.d (.tup r)) W.length true p10 p11 p12 p13 (some (.mu W.length)) o15 o16 o17) (W ++ [.dct (bV w')]) = .ok (.d (.tup ys)) (W ++ [.dct (bV w')]) := by
      have eo := orN (W ++ [.dct (bV w')]) (ρ := ev x0 x1 x2 (.d (.dct (bD w'))) (.d (.lst (ts.map tmD))) (.d (.dct (bD b))) (.d (.lst (ts.map (mk A)))) (.d (.tup r)) W.length true p10 p11 p12 p13 (some (.mu W.length)) o15 o16 o17) rfl rfl hdm
      by_cases e0 : bV w' = []
      · obtain ⟨ys, y1, y2, y3⟩ := fill0 A (W ++ [.dct (bV w')]) h
        rw [if_pos e0] at eo
        exact ⟨ys, y1, y2, (eCall2 (fa := eVar 6) _ rfl eo).trans y3⟩
      · rw [if_neg e0] at eo
        exact ⟨r, hr.1, hl.symm, (eCall2 (fa := eVar 6) _ rfl eo).trans fr⟩
    obtain ⟨ys, y1, y2, y3⟩ := ft
    have t1 := fill_tst (W ++ [.dct (bV w')]) y1 y2 y3 rfl
    refine ⟨.d (.dct (bD w')), some (.mu W.length), some (.d (.bl true)), p10, p11, p12, p13, some (.mu W.length), .dct (bV w'), ?_⟩
    rw [sSeq_nx (sIf_no (by
      rw [show (tstOr _ _ : FT) = fun ρ W => (tstV (eOp neX' (eVar 3) (eVar 14)) ρ W).bind fun t W1 => if t = true then .ok true W1 else _ from rfl]
      simp only [tstV, eOp, eVar, ev, List.getElem?_cons_zero, List.getElem?_cons_succ, Res.bind_ok, n1, blOf, Bool.false_eq_true, if_false]
      simp only [tstOr]
      rw [show tstAnd (tstV (eOp notNoneD (eVar 14) (eC .non))) (tstV (eOp DL.neD (eCall (f_bound_key A) [] (aCons (eVar 3) aNil)) (eCall (f_bound_key A) [] (aCons (eVar 14) aNil)))) _ _ = .ok false (W ++ [.dct (bV w')]) by
        simp only [tstAnd, tstV, eOp, eVar, eC, List.getElem?_cons_zero, List.getElem?_cons_succ, Res.bind_ok, notNoneD, DL.isNon, blOf, Bool.not_false, if_true, eCall, aCons, aNil, List.append_nil, k1, k2, k3]]
      exact t1))]
    rw [sIf_no (W1 := W ++ [.dct (bV w')]) (by
      simp only [tstAnd, tstV, eOp, eVar, eC, ev, List.getElem?_cons_zero, List.getElem?_cons_succ, Res.bind_ok, notNoneD, DL.isNon, blOf, Bool.not_false, if_true, eCall, aCons, aNil, List.append_nil, fr, sr])]
    rfl
  | false =>
    simp only [Bool.false_eq_true, if_false] at hmt
    have s3 : sSet 14 (eIf (tstV (eVar 9)) (eVar 8) (eC .non)) (ev x0 x1 x2 x3 (.d (.lst (ts.map tmD))) (.d (.dct (bD b))) (.d (.lst (ts.map (mk A)))) (.d (.tup r)) W.length false p10 p11 p12 p13 o14 o15 o16 o17) (W ++ [.dct (bV w')])
        = .nx (ev x0 x1 x2 x3 (.d (.lst (ts.map tmD))) (.d (.dct (bD b))) (.d (.lst (ts.map (mk A)))) (.d (.tup r)) W.length false p10 p11 p12 p13 (some (.d .non)) o15 o16 o17) (W ++ [.dct (bV w')]) := by
      simp [sSet, eIf, tstV, eVar, ev, blOf, eC]
    have s4 : sSet 3 (eCall (f_matched A) [] (aCons (eVar 6) (aCons (eVar 7) (aCons (eVar 5) aNil)))) (ev x0 x1 x2 x3 (.d (.lst (ts.map tmD))) (.d (.dct (bD b))) (.d (.lst (ts.map (mk A)))) (.d (.tup r)) W.length false p10 p11 p12 p13 (some (.d .non)) o15 o16 o17) (W ++ [.dct (bV w')])
        = .nx (ev x0 x1 x2 (.d .non) (.d (.lst (ts.map tmD))) (.d (.dct (bD b))) (.d (.lst (ts.map (mk A)))) (.d (.tup r)) W.length false p10 p11 p12 p13 (some (.d .non)) o15 o16 o17) (W ++ [.dct (bV w')]) := by
      simp [sSet, eCall, aCons, aNil, eVar, ev, hmt]
    rw [sSeq_nx s3, sSeq_nx s4]
    have n1 : neX' (W ++ [.dct (bV w')]) (.d .non) (.d .non) = .ok (.d (.bl false)) (W ++ [.dct (bV w')]) := by
      simp [neX', dctOf, DL.neD, rdD, scalD]
    obtain ⟨ys, y1, y2, y3⟩ := fill0 A (W ++ [.dct (bV w')]) h
    have y4 : eCall (f_filled A) [] (aCons (eVar 6) (aCons (eOrN (eVar 14) (eDisp [((eC (.str "X")), (eC (.int 0))), ((eC (.str "Y")), (eC (.int 0))), ((eC (.str "Z")), (eC (.int 0)))])) aNil)) (ev x0 x1 x2 (.d .non) (.d (.lst (ts.map tmD))) (.d (.dct (bD b))) (.d (.lst (ts.map (mk A)))) (.d (.tup r)) W.length false p10 p11 p12 p13 (some (.d .non)) o15 o16 o17) (W ++ [.dct (bV w')]) = .ok (.d (.tup ys)) (W ++ [.dct (bV w')]) := by
      simp only [eCall, aCons, aNil, eVar, ev, List.getElem?_cons_zero, List.getElem?_cons_succ, Res.bind_ok, eOrN, DL.isNon, if_true, disp0, List.append_nil, y3]
    have t1 := fill_tst (W ++ [.dct (bV w')]) y1 y2 y4 rfl
    refine ⟨.d .non, some (.mu W.length), some (.d (.bl false)), p10, p11, p12, p13, some (.d .non), .dct (bV w'), ?_⟩
    rw [sSeq_nx (sIf_no (by
      rw [show (tstOr _ _ : FT) = fun ρ W => (tstV (eOp neX' (eVar 3) (eVar 14)) ρ W).bind fun t W1 => if t = true then .ok true W1 else _ from rfl]
      simp only [tstV, eOp, eVar, ev, List.getElem?_cons_zero, List.getElem?_cons_succ, Res.bind_ok, n1, blOf, Bool.false_eq_true, if_false]
      simp only [tstOr]
      rw [show tstAnd (tstV (eOp notNoneD (eVar 14) (eC .non))) (tstV (eOp DL.neD (eCall (f_bound_key A) [] (aCons (eVar 3) aNil)) (eCall (f_bound_key A) [] (aCons (eVar 14) aNil)))) _ _ = .ok false (W ++ [.dct (bV w')]) by
        simp only [tstAnd, tstV, eOp, eVar, eC, List.getElem?_cons_zero, List.getElem?_cons_succ, Res.bind_ok, notNoneD, DL.isNon, blOf, Bool.not_true, Bool.false_eq_true, if_false]]
      exact t1))]
    rw [sIf_no (W1 := W ++ [.dct (bV w')]) (by
      simp only [tstAnd, tstV, eOp, eVar, eC, ev, List.getElem?_cons_zero, List.getElem?_cons_succ, Res.bind_ok, notNoneD, DL.isNon, blOf, Bool.not_true, Bool.false_eq_true, if_false])]
    rfl
end
end Toy

set_option Elab.async false
set_option linter.all false
set_option maxRecDepth 100000
set_option maxHeartbeats 4000000
namespace Toy
open PySem L2 DL
/-! ## one round of the law -/
def lastV (b : B) : T → D
  | .c x => x
  | .v n => (b.lookup n).getD (.int 1)
theorem lastV_val {b : B} (hb : okBv b) {t : T} (h : okT t) : lastV b t ∈ vals := by
  cases t with
  | c x => exact h
  | v n =>
    cases q : b.lookup n with
    | none => simp [lastV, q, vals]
    | some y =>
      obtain ⟨l1, l2, e1, _⟩ := List.lookup_eq_some_iff.mp q
      have := hb.1 (n, y) (by rw [e1]; simp)
      simpa [lastV, q] using this
section
variable (A : Ad) (W : Ms)
theorem ev_adj {rs : List (List D)} (h : okRs rs) {ρ : Ev} (h3 : ρ[3]? = some (some (.d (.tup ((srt rs).map .tup))))) (hl : ρ.length = 18) :
    eLc (iRg2 (aCons (eC (.int 1)) (aCons (eCB lenD (aCons (eVar 3) aNil)) aNil))) (gN 10) (nxE (tstV (eCall (f_l_row_less A) [] (aCons (eOp ixD (eVar 3) (eVar 10)) (aCons (eOp ixD (eVar 3) (eOp subD (eVar 10) (eC (.int 1)))) aNil))))) (nxE (eVar 10)) [10] ρ W = .ok (.d (.lst [])) W := by
  have hn := h.srt.2
  have hi : iRg2 (aCons (eC (.int 1)) (aCons (eCB lenD (aCons (eVar 3) aNil)) aNil)) ρ W = .ok ⟨(List.range ((srt rs).length - 1)).map fun k : Nat => Vl.d (.int ((k + 1 : Nat) : Int)), yes⟩ W := by
    have e1 : aCons (eC (.int 1)) (aCons (eCB lenD (aCons (eVar 3) aNil)) aNil) ρ W = .ok [.d (.int 1), .d (.int ((srt rs).length : Nat))] W := by
      simp [aCons, aNil, eC, eCB, eVar, h3, lenD_tup]
    have e2 : (((srt rs).length : Int) - 1).toNat = (srt rs).length - 1 := by omega
    have e3 : ((List.range ((srt rs).length - 1)).map fun k : Nat => Vl.d (.int (1 + (k : Int)))) = (List.range ((srt rs).length - 1)).map fun k : Nat => Vl.d (.int ((k + 1 : Nat) : Int)) :=
      List.map_congr_left fun k _ => by rw [Int.natCast_add, Int.add_comm]; rfl
    have g0 : (0 : Int) ≤ ((srt rs).length : Int) := Int.natCast_nonneg _
    have g1 : ((srt rs).length : Int) ≤ 1000 := by omega
    unfold iRg2
    rw [e1, Res.bind_ok]
    simp only [intOf]
    rw [if_pos ⟨⟨by decide, by decide⟩, Int.le_trans (by decide) g0, Int.lt_of_le_of_lt g1 (by decide)⟩, e2, e3]
  have := eLc_pure (fg := gN 10) (t := nxE (tstV (eCall (f_l_row_less A) [] (aCons (eOp ixD (eVar 3) (eVar 10)) (aCons (eOp ixD (eVar 3) (eOp subD (eVar 10) (eC (.int 1)))) aNil))))) (f := nxE (eVar 10)) (vs := [10]) (ρ := ρ) (fun k : Nat => Vl.d (.int ((k + 1 : Nat) : Int))) (fun _ => false) (fun _ => .non) (List.range ((srt rs).length - 1)) hi (by rw [List.length_range]; omega) fun k hk => by
    have hk := List.mem_range.mp hk
    have l1 : k + 1 < (srt rs).length := by omega
    have l0 : k < (srt rs).length := by omega
    refine ⟨_, rfl, ?_, fun h => nomatch h⟩
    have g1 : ((wipeE ρ [10]).set 10 (some (.d (.int ((k + 1 : Nat) : Int)))))[3]? = some (some (.d (.tup ((srt rs).map .tup)))) := by simpa [wipeE, List.getElem?_set] using h3
    have g2 : ((wipeE ρ [10]).set 10 (some (.d (.int ((k + 1 : Nat) : Int)))))[10]? = some (some (.d (.int ((k + 1 : Nat) : Int)))) := by
      rw [List.getElem?_set_self]
      simp [wipeE, hl]
    generalize (wipeE ρ [10]).set 10 (some (.d (.int ((k + 1 : Nat) : Int)))) = ρ' at g1 g2
    have x1 := ix_tup W ((srt rs).map .tup) (k + 1) (x := .tup (srt rs)[k + 1]) (by rw [List.getElem?_map, List.getElem?_eq_getElem l1]; rfl)
    have x0 := ix_tup W ((srt rs).map .tup) k (x := .tup (srt rs)[k]) (by rw [List.getElem?_map, List.getElem?_eq_getElem l0]; rfl)
    have r1 := h.srt.1 _ (List.getElem_mem l1)
    have r0 := h.srt.1 _ (List.getElem_mem l0)
    have hrl : rl (srt rs)[k + 1] (srt rs)[k] = false := leR_rl r0 r1 (List.pairwise_iff_getElem.mp (srt_pair rs) k (k + 1) l0 l1 (by omega))
    have e := row_less A W r1.sc r0.sc r1.2 r0.2
    rw [hrl] at e
    have sb : subD W (.d (.int ((k + 1 : Nat) : Int))) (.d (.int 1)) = .ok (.d (.int (k : Int))) W := by
      simp only [subD, arI, intOf]
      rw [show ((k + 1 : Nat) : Int) - 1 = (k : Int) by omega]
    have a1 : eOp ixD (eVar 3) (eVar 10) ρ' W = .ok (.d (.tup (srt rs)[k + 1])) W := by
      simp only [eOp, eVar, g1, g2, Res.bind_ok]
      exact x1
    have a2 : eOp ixD (eVar 3) (eOp subD (eVar 10) (eC (.int 1))) ρ' W = .ok (.d (.tup (srt rs)[k])) W := by
      simp only [eOp, eVar, eC, g1, g2, Res.bind_ok, sb]
      exact x0
    have a3 := eCall2 W (F := f_l_row_less A) a1 a2
    rw [e] at a3
    simp only [nxE, tstV, a3, Res.bind_ok, blOf]
  have ef : (List.range ((srt rs).length - 1)).filter (fun _ => false) = [] := List.filter_eq_nil_iff.mpr fun _ _ h => Bool.noConfusion h
  rw [ef] at this
  exact this
theorem ev_keys {rs : List (List D)} (h : okRs rs) {ρ : Ev} (h2 : ρ[2]? = some (some (.d (.lst (rs.map .tup))))) (h3 : ρ[3]? = some (some (.d (.tup ((srt rs).map .tup))))) (hl : ρ.length = 18) :
    eOp DL.neD (eCB sortD (aCons (eLc (iS (eVar 2)) (gN 7) (nxE tstYes) (nxE (eCall (f_row_key A) [] (aCons (eVar 7) aNil))) [7]) aNil)) (eLc (iS (eVar 3)) (gN 7) (nxE tstYes) (nxE (eCall (f_row_key A) [] (aCons (eVar 7) aNil))) [7]) ρ W = .ok (.d (.bl false)) W := by
  have key : ∀ l : List (List D), okRs l → ∀ r ∈ l, ∃ ρ', gN 7 (Vl.d (.tup r)) (wipeE ρ [7]) = some ρ' ∧ nxE (eCall (f_row_key A) [] (aCons (eVar 7) aNil)) ρ' W = .ok (.d (rk r)) W := fun l hl' r hr => by
    have g : ((wipeE ρ [7]).set 7 (some (.d (.tup r))))[7]? = some (some (.d (.tup r))) := by
      rw [List.getElem?_set_self]
      simp [wipeE, hl]
    have e := row_key A W (hl'.1 r hr).sc (hl'.1 r hr).2
    exact ⟨_, rfl, by simp only [nxE, eCall, aCons, aNil, eVar, g, Res.bind_ok, List.append_nil, e]⟩
  have e1 := eLc_all (fi := iS (eVar 2)) (fg := gN 7) (f := nxE (eCall (f_row_key A) [] (aCons (eVar 7) aNil))) (vs := [7]) (ρ := ρ) (W := W) (fun r => Vl.d (.tup r)) rk rs (by simp [iS, eVar, h2, seq_lst, List.map_map, Function.comp_def]) (by have := h.2; omega) (key rs h)
  have e2 := eLc_all (fi := iS (eVar 3)) (fg := gN 7) (f := nxE (eCall (f_row_key A) [] (aCons (eVar 7) aNil))) (vs := [7]) (ρ := ρ) (W := W) (fun r => Vl.d (.tup r)) rk (srt rs) (by simp [iS, eVar, h3, seq_tup, List.map_map, Function.comp_def]) (by have := h.srt.2; omega) (key _ h.srt)
  simp only [eOp, eCB1 e1, sortD_keys W h, Res.bind_ok, e2]
  exact neD_shaped W (shaped_keys h.srt.1)
theorem ev_last {rs : List (List D)} (h : okRs rs) {ts : List T} (ht : okTs ts) {b : B} (hb : okBv b) {ρ : Ev} (h2 : ρ[2]? = some (some (.d (.lst (rs.map .tup))))) (h4 : ρ[4]? = some (some (.d (.lst (ts.map tmD))))) (h5 : ρ[5]? = some (some (.d (.dct (bD b))))) (hl : ρ.length = 18) :
    iS (eOp addD (eVar 2) (eLst (aCons (eCB tupD (aCons (eLc (iS (eVar 4)) (gT 2 (gsCons (gN 11) (gsCons (gN 12) gsNil))) (nxE tstYes) (nxE (eIf (tstV (eOp DL.eqD (eVar 11) (eC (.str "val")))) (eVar 12) (eMt tyDct getM (eVar 5) (aCons (eVar 12) (aCons (eC (.int 1)) aNil))))) [11, 12]) aNil)) aNil))) ρ W
      = .ok ⟨(rs ++ [ts.map (lastV b)]).map fun r => Vl.d (.tup r), yes⟩ W := by
  have e1 := eLc_all (fi := iS (eVar 4)) (fg := gT 2 (gsCons (gN 11) (gsCons (gN 12) gsNil))) (f := nxE (eIf (tstV (eOp DL.eqD (eVar 11) (eC (.str "val")))) (eVar 12) (eMt tyDct getM (eVar 5) (aCons (eVar 12) (aCons (eC (.int 1)) aNil))))) (vs := [11, 12]) (ρ := ρ) (W := W) (fun t => Vl.d (tmD t)) (lastV b) ts (by simp [iS, eVar, h4, seq_lst, List.map_map, Function.comp_def]) ht.l fun t htt => by
    have hz : ∀ x y : Vl, (((wipeE ρ [11, 12]).set 11 (some x)).set 12 (some y))[11]? = some (some x) ∧ (((wipeE ρ [11, 12]).set 11 (some x)).set 12 (some y))[12]? = some (some y) ∧ (((wipeE ρ [11, 12]).set 11 (some x)).set 12 (some y))[5]? = some (some (.d (.dct (bD b)))) := fun x y => by
      refine ⟨?_, ?_, ?_⟩
      · rw [List.getElem?_set_ne (by decide), List.getElem?_set_self]
        simp [wipeE, hl]
      · rw [List.getElem?_set_self]
        simp [wipeE, hl]
      · simpa [wipeE, List.getElem?_set] using h5
    have hd := dct_bD b W
    cases t with
    | c x =>
      obtain ⟨g1, g2, g3⟩ := hz (.d (.str "val")) (.d x)
      refine ⟨((wipeE ρ [11, 12]).set 11 (some (.d (.str "val")))).set 12 (some (.d x)), by simp [gT, tmD, DL.tupOf, gsCons, gN, gsNil], ?_⟩
      simp only [nxE, eIf, tstV, eOp, eVar, eC, g1, g2, Res.bind_ok, eqD_str, blOf, decide_true, if_true, lastV]
    | v n =>
      obtain ⟨g1, g2, g3⟩ := hz (.d (.str "var")) (.d (.str n))
      refine ⟨((wipeE ρ [11, 12]).set 11 (some (.d (.str "var")))).set 12 (some (.d (.str n))), by simp [gT, tmD, DL.tupOf, gsCons, gN, gsNil], ?_⟩
      simp only [nxE, eIf, tstV, eOp, eVar, eC, g1, g2, g3, Res.bind_ok, eqD_str, blOf, ne_vv2, decide_false, Bool.false_eq_true, if_false, lastV, eMt, tyDct, hd, Option.isSome_some, if_true, aCons, aNil, getM, okKey_bV, getK_bV]
      cases b.lookup n <;> rfl
  have hz : (ts.map (lastV b)).length ≤ 1000000 := by rw [List.length_map]; exact ht.l
  have e2 : eLst (aCons (eCB tupD (aCons (eLc (iS (eVar 4)) (gT 2 (gsCons (gN 11) (gsCons (gN 12) gsNil))) (nxE tstYes) (nxE (eIf (tstV (eOp DL.eqD (eVar 11) (eC (.str "val")))) (eVar 12) (eMt tyDct getM (eVar 5) (aCons (eVar 12) (aCons (eC (.int 1)) aNil))))) [11, 12]) aNil)) aNil) ρ W = .ok (.d (.lst [.tup (ts.map (lastV b))])) W := by
    simp only [eLst, aCons, eCB1 e1, tupD_lst _ _ hz, aNil, Res.bind_ok]
    exact mkLst_map [.tup (ts.map (lastV b))] W (by simp)
  have e3 : addD W (.d (.lst (rs.map .tup))) (.d (.lst [.tup (ts.map (lastV b))])) = .ok (.d (.lst ((rs ++ [ts.map (lastV b)]).map .tup))) W := by
    have := mkLst_map ((rs ++ [ts.map (lastV b)]).map .tup) W (by have := h.2; simp; omega)
    simp only [addD, intOf, strOf, lstOf]
    rw [← this]
    exact congrArg (mkLst · W) (by simp)
  simp only [iS, eOp, eVar, h2, e2, Res.bind_ok, e3, seq_lst, List.map_map, Function.comp_def]
theorem row_loop {ts : List T} (h : okTs ts) {b : B} (hb : okBv b) (hn : ∀ p ∈ b, okN p.1) (hd : (b.map (·.1)).Nodup) (x0 x1 x2 : Vl) (o15 o16 o17 : Option Vl) : ∀ (rs : List (List D)) (W : Ms) (x3 : Vl) (o7 o8 o9 o10 o11 o12 o13 o14 : Option Vl), (∀ r ∈ rs, okR r) →
    ∃ p3 p7 p8 p9 p10 p11 p12 p13 p14 X, forL yes (gN 7) (rowBody A) (rs.map fun r => Vl.d (.tup r)) [some x0, some x1, some x2, some x3, some (.d (.lst (ts.map tmD))), some (.d (.dct (bD b))), some (.d (.lst (ts.map (mk A)))), o7, o8, o9, o10, o11, o12, o13, o14, o15, o16, o17] W
      = .nx [some x0, some x1, some x2, some p3, some (.d (.lst (ts.map tmD))), some (.d (.dct (bD b))), some (.d (.lst (ts.map (mk A)))), p7, p8, p9, p10, p11, p12, p13, p14, o15, o16, o17] (W ++ X)
  | [], W, x3, o7, o8, o9, o10, o11, o12, o13, o14, _ => ⟨x3, o7, o8, o9, o10, o11, o12, o13, o14, [], by simp [forL, yes]⟩
  | r :: rs, W, x3, o7, o8, o9, o10, o11, o12, o13, o14, hr => by
    obtain ⟨p3, p8, p9, p10, p11, p12, p13, p14, X, e⟩ := row_step A W h hb hn hd (hr r List.mem_cons_self) x0 x1 x2 x3 o8 o9 o10 o11 o12 o13 o14 o15 o16 o17
    obtain ⟨q3, q7, q8, q9, q10, q11, q12, q13, q14, Y, e2⟩ := row_loop h hb hn hd x0 x1 x2 o15 o16 o17 rs (W ++ [X]) p3 (some (.d (.tup r))) p8 p9 p10 p11 p12 p13 p14 fun s hs => hr s (List.mem_cons_of_mem _ hs)
    refine ⟨q3, q7, q8, q9, q10, q11, q12, q13, q14, X :: Y, ?_⟩
    have eg : gN 7 (Vl.d (.tup r)) [some x0, some x1, some x2, some x3, some (.d (.lst (ts.map tmD))), some (.d (.dct (bD b))), some (.d (.lst (ts.map (mk A)))), o7, o8, o9, o10, o11, o12, o13, o14, o15, o16, o17] = some [some x0, some x1, some x2, some x3, some (.d (.lst (ts.map tmD))), some (.d (.dct (bD b))), some (.d (.lst (ts.map (mk A)))), some (.d (.tup r)), o8, o9, o10, o11, o12, o13, o14, o15, o16, o17] := rfl
    simp only [List.map_cons, forL, yes, if_true, eg, e, e2, List.append_assoc, List.singleton_append]
end
end Toy

set_option Elab.async false
set_option linter.all false
set_option maxRecDepth 100000
set_option maxHeartbeats 4000000
namespace Toy
open PySem L2 DL
/-! ## the law -/
section
variable (A : Ad)
noncomputable abbrev roundBody : FS := (sSeq (sSet 2 (eLc (iRg1 (aCons (eCall (f_l_roll A) [] (aCons (eVar 1) (aCons (eC (.int 8)) aNil))) aNil)) (gN 10) (nxE tstYes) (nxE (eCB tupD (aCons (eLc (iRg1 (aCons (eCall (f_l_roll A) [] (aCons (eVar 1) (aCons (eC (.int 4)) aNil))) aNil)) (gN 15) (nxE tstYes) (nxE (eCall (f_l_value A) [] (aCons (eVar 1) aNil))) [15]) aNil))) [10]))
      (sSeq (sSet 3 (eCall (f_in_order A) [] (aCons (eVar 2) aNil)))
      (sSeq (sIf (tstV (eOp DL.neD (eLc (iRg2 (aCons (eC (.int 1)) (aCons (eCB lenD (aCons (eVar 3) aNil)) aNil))) (gN 10) (nxE (tstV (eCall (f_l_row_less A) [] (aCons (eOp ixD (eVar 3) (eVar 10)) (aCons (eOp ixD (eVar 3) (eOp subD (eVar 10) (eC (.int 1)))) aNil))))) (nxE (eVar 10)) [10]) (eLst aNil))) (sRet (eC (.bl false))) sNil)
      (sSeq (sIf (tstV (eOp DL.neD (eCB sortD (aCons (eLc (iS (eVar 2)) (gN 7) (nxE tstYes) (nxE (eCall (f_row_key A) [] (aCons (eVar 7) aNil))) [7]) aNil)) (eLc (iS (eVar 3)) (gN 7) (nxE tstYes) (nxE (eCall (f_row_key A) [] (aCons (eVar 7) aNil))) [7]))) (sRet (eC (.bl false))) sNil)
      (sSeq (sSet 4 (eLc (iRg1 (aCons (eCall (f_l_roll A) [] (aCons (eVar 1) (aCons (eC (.int 5)) aNil))) aNil)) (gN 10) (nxE tstYes) (nxE (eCall (f_l_term A) [] (aCons (eVar 1) aNil))) [10]))
      (sSeq (sSet 5 (eCB dictF (aCons (eLc (iS (eSl (eC (.str "XY")) pNo (pSome (eCall (f_l_roll A) [] (aCons (eVar 1) (aCons (eC (.int 3)) aNil)))))) (gN 16) (nxE tstYes) (nxE (eTup (aCons (eVar 16) (aCons (eCall (f_l_value A) [] (aCons (eVar 1) aNil)) aNil)))) [16]) aNil)))
      (sSeq (sIf (tstNot (tstV (eCall (f_l_cases1 A) [] (aCons (eVar 1) (aCons (eVar 4) (aCons (eVar 5) aNil)))))) (sRet (eC (.bl false))) sNil)
      (sSeq (sSet 6 (eLc (iS (eVar 4)) (gN 17) (nxE tstYes) (nxE (eCall (f_l_make A) [] (aCons (eVar 17) aNil))) [17]))
      (sFor (iS (eOp addD (eVar 2) (eLst (aCons (eCB tupD (aCons (eLc (iS (eVar 4)) (gT 2 (gsCons (gN 11) (gsCons (gN 12) gsNil))) (nxE tstYes) (nxE (eIf (tstV (eOp DL.eqD (eVar 11) (eC (.str "val")))) (eVar 12) (eMt tyDct getM (eVar 5) (aCons (eVar 12) (aCons (eC (.int 1)) aNil))))) [11, 12]) aNil)) aNil)))) (gN 7) (rowBody A))))))))))
theorem b_law_eq : b_law A = sSeq (sFor (iS (eCall (f_l_rounds A) [] (aCons (eVar 0) (aCons (eC (.int 1)) aNil)))) (gN 1) (roundBody A)) (sRet (eC (.bl true))) := rfl
theorem round {m : M} (hm : Dc m) (R : Ms) (x0 : Vl) : ∃ ρ' m' X, roundBody A [some x0, some (.mu 0), none, none, none, none, none, none, none, none, none, none, none, none, none, none, none, none] (m :: R) = .nx ρ' (m' :: (R ++ X)) := by
  obtain ⟨rs, W1, hrs, i1, e1⟩ := ev_rows A R (ρ := [some x0, some (.mu 0), none, none, none, none, none, none, none, none, none, none, none, none, none, none, none, none]) ⟨m, hm, rfl⟩ rfl rfl
  have e2 : eCall (f_in_order A) [] (aCons (eVar 2) aNil) [some x0, some (.mu 0), some (.d (.lst (rs.map .tup))), none, none, none, none, none, none, none, none, none, none, none, none, none, none, none] W1 = .ok (.d (.tup ((srt rs).map .tup))) W1 := by
    simp only [eCall, aCons, aNil, eVar, List.getElem?_cons_zero, List.getElem?_cons_succ, Res.bind_ok, List.append_nil, in_order A W1 hrs]
  have e3 := ev_adj A W1 hrs (ρ := [some x0, some (.mu 0), some (.d (.lst (rs.map .tup))), some (.d (.tup ((srt rs).map .tup))), none, none, none, none, none, none, none, none, none, none, none, none, none, none]) rfl rfl
  have s0 : shapedD (.lst []) = true := by decide +kernel
  have e3' : tstV (eOp DL.neD (eLc (iRg2 (aCons (eC (.int 1)) (aCons (eCB lenD (aCons (eVar 3) aNil)) aNil))) (gN 10) (nxE (tstV (eCall (f_l_row_less A) [] (aCons (eOp ixD (eVar 3) (eVar 10)) (aCons (eOp ixD (eVar 3) (eOp subD (eVar 10) (eC (.int 1)))) aNil))))) (nxE (eVar 10)) [10]) (eLst aNil)) [some x0, some (.mu 0), some (.d (.lst (rs.map .tup))), some (.d (.tup ((srt rs).map .tup))), none, none, none, none, none, none, none, none, none, none, none, none, none, none] W1 = .ok false W1 := by
    have el : ∀ ρ : Ev, eLst aNil ρ W1 = .ok (.d (.lst [])) W1 := fun ρ => rfl
    simp only [tstV, eOp, e3, el, Res.bind_ok, neD_shaped W1 s0, blOf]
  have e4 := ev_keys A W1 hrs (ρ := [some x0, some (.mu 0), some (.d (.lst (rs.map .tup))), some (.d (.tup ((srt rs).map .tup))), none, none, none, none, none, none, none, none, none, none, none, none, none, none]) rfl rfl rfl
  have e4' : tstV (eOp DL.neD (eCB sortD (aCons (eLc (iS (eVar 2)) (gN 7) (nxE tstYes) (nxE (eCall (f_row_key A) [] (aCons (eVar 7) aNil))) [7]) aNil)) (eLc (iS (eVar 3)) (gN 7) (nxE tstYes) (nxE (eCall (f_row_key A) [] (aCons (eVar 7) aNil))) [7])) [some x0, some (.mu 0), some (.d (.lst (rs.map .tup))), some (.d (.tup ((srt rs).map .tup))), none, none, none, none, none, none, none, none, none, none, none, none, none, none] W1 = .ok false W1 := by
    unfold tstV
    rw [e4]
    rfl
  obtain ⟨ts, W2, hts, i2, e5⟩ := ev_terms A R (ρ := [some x0, some (.mu 0), some (.d (.lst (rs.map .tup))), some (.d (.tup ((srt rs).map .tup))), none, none, none, none, none, none, none, none, none, none, none, none, none, none]) i1 rfl rfl
  obtain ⟨b, W3, hb, hd, hn, i3, e6⟩ := ev_bound A R (ρ := [some x0, some (.mu 0), some (.d (.lst (rs.map .tup))), some (.d (.tup ((srt rs).map .tup))), some (.d (.lst (ts.map tmD))), none, none, none, none, none, none, none, none, none, none, none, none, none]) i2 rfl rfl
  obtain ⟨m', hm', rfl⟩ := i3
  have e7 : tstNot (tstV (eCall (f_l_cases1 A) [] (aCons (eVar 1) (aCons (eVar 4) (aCons (eVar 5) aNil))))) [some x0, some (.mu 0), some (.d (.lst (rs.map .tup))), some (.d (.tup ((srt rs).map .tup))), some (.d (.lst (ts.map tmD))), some (.d (.dct (bD b))), none, none, none, none, none, none, none, none, none, none, none, none] (m' :: R) = .ok false (m' :: R) := by
    simp only [tstNot, tstV, eCall, aCons, aNil, eVar, List.getElem?_cons_zero, List.getElem?_cons_succ, Res.bind_ok, List.append_nil, cases1 A (m' :: R) hts hb, blOf]
    rfl
  have e8 := made A (m' :: R) hts (ρ := [some x0, some (.mu 0), some (.d (.lst (rs.map .tup))), some (.d (.tup ((srt rs).map .tup))), some (.d (.lst (ts.map tmD))), some (.d (.dct (bD b))), none, none, none, none, none, none, none, none, none, none, none, none]) (i := 4) (j := 17) (vs := [17]) rfl (by show 17 < 18; decide)
  have e9 := ev_last (m' :: R) hrs hts hb (ρ := [some x0, some (.mu 0), some (.d (.lst (rs.map .tup))), some (.d (.tup ((srt rs).map .tup))), some (.d (.lst (ts.map tmD))), some (.d (.dct (bD b))), some (.d (.lst (ts.map (mk A)))), none, none, none, none, none, none, none, none, none, none, none]) rfl rfl rfl rfl
  have hall : ∀ r ∈ rs ++ [ts.map (lastV b)], okR r := fun r hr => by
    rcases List.mem_append.mp hr with hr | hr
    · exact hrs.1 r hr
    · rw [List.mem_singleton.mp hr]
      refine ⟨fun y hy => ?_, by rw [List.length_map]; exact hts.2⟩
      obtain ⟨t, ht, rfl⟩ := List.mem_map.mp hy
      exact lastV_val hb (hts.1 t ht)
  obtain ⟨p3, p7, p8, p9, p10, p11, p12, p13, p14, X, e10⟩ := row_loop A hts hb hn hd x0 (.mu 0) (.d (.lst (rs.map .tup))) none none none (rs ++ [ts.map (lastV b)]) (m' :: R) (.d (.tup ((srt rs).map .tup))) none none none none none none none none hall
  refine ⟨[some x0, some (.mu 0), some (.d (.lst (rs.map .tup))), some p3, some (.d (.lst (ts.map tmD))), some (.d (.dct (bD b))), some (.d (.lst (ts.map (mk A)))), p7, p8, p9, p10, p11, p12, p13, p14, none, none, none], m', X, ?_⟩
  unfold roundBody
  rw [sSeq_nx (sSet_ok e1)]
  refine (sSeq_nx (sSet_ok e2)).trans ?_
  refine (sSeq_nx (sIf_no e3')).trans ?_
  refine (sSeq_nx (sIf_no e4')).trans ?_
  refine (sSeq_nx (sSet_ok e5)).trans ?_
  refine (sSeq_nx (sSet_ok e6)).trans ?_
  refine (sSeq_nx (sIf_no e7)).trans ?_
  refine (sSeq_nx (sSet_ok e8)).trans ?_
  unfold sFor
  refine (congrArg (fun r => Res.bindS r _) e9).trans ?_
  exact e10
theorem fin_any (W0 W : Ms) (x : D) : ∃ W', fin W0 (.d x) W = .ok (.d x) W' := by
  unfold fin
  split
  · exact ⟨_, rfl⟩
  · exact ⟨_, rfl⟩
theorem law_true (ns : List Int) (hl : ns.length ≤ 63) (hb : ∀ z ∈ ns, Builtin.Int.intBits z ≤ 1048576) : ∃ W', f_law A [.d (.lstK (ns.map D.int))] [] = .ok (.d (.bl true)) W' := by
  obtain ⟨m, hm, e⟩ := rounds A ns
  obtain ⟨ρ', m', X, e2⟩ := round A hm [.lst [.mu 0]] (.d (.lstK (ns.map D.int)))
  obtain ⟨W', ef⟩ := fin_any [] (m' :: ([.lst [.mu 0]] ++ X)) (.bl true)
  refine ⟨W', ?_⟩
  have hi : iS (eCall (f_l_rounds A) [] (aCons (eVar 0) (aCons (eC (.int 1)) aNil))) [some (.d (.lstK (ns.map D.int))), none, none, none, none, none, none, none, none, none, none, none, none, none, none, none, none, none] [] = .ok ⟨[.mu 0], fun W => W[1]? = some (.lst [.mu 0])⟩ [m, .lst [.mu 0]] := by
    simp only [iS, eCall, aCons, aNil, eVar, eC, List.getElem?_cons_zero, Res.bind_ok, List.append_nil, e, seqItm, List.getElem?_cons_succ]
  have hs : sFor (iS (eCall (f_l_rounds A) [] (aCons (eVar 0) (aCons (eC (.int 1)) aNil)))) (gN 1) (roundBody A) [some (.d (.lstK (ns.map D.int))), none, none, none, none, none, none, none, none, none, none, none, none, none, none, none, none, none] [] = .nx ρ' (m' :: ([.lst [.mu 0]] ++ X)) := by
    unfold sFor
    rw [hi]
    have eg : gN 1 (.mu 0) [some (.d (.lstK (ns.map D.int))), none, none, none, none, none, none, none, none, none, none, none, none, none, none, none, none, none] = some [some (.d (.lstK (ns.map D.int))), some (.mu 0), none, none, none, none, none, none, none, none, none, none, none, none, none, none, none, none] := rfl
    simp only [Res.bindS_ok, forL, List.getElem?_cons_succ, List.getElem?_cons_zero, if_true, eg, e2, List.singleton_append]
  have hsr : b_law A [some (.d (.lstK (ns.map D.int))), none, none, none, none, none, none, none, none, none, none, none, none, none, none, none, none, none] [] = .rt (.d (.bl true)) (m' :: ([.lst [.mu 0]] ++ X)) := by
    rw [b_law_eq, sSeq_nx hs]
    rfl
  unfold f_law runB
  rw [if_pos (show [Vl.d (.lstK (ns.map D.int))].length = 1 from rfl), show startE 18 [Vl.d (.lstK (ns.map D.int))] = [some (.d (.lstK (ns.map D.int))), none, none, none, none, none, none, none, none, none, none, none, none, none, none, none, none, none] from rfl, hsr]
  exact ef
end
end Toy

set_option Elab.async false
set_option linter.all false
set_option maxRecDepth 100000
set_option maxHeartbeats 4000000
namespace Toy
open PySem L2 DL
/-! ### the end
-/
theorem all_mk {l : PySem.W.OpenLaw} {w : World} {K : PySem.W.Frag} {h : Heap} {mg : Str → Option Value} {fa : Addr} (X : K.In h) (G : h.Ns mainGlobals mg) (hfa : mg "law" = some (.ref fa)) (OT : ∀ fb, mg "_law_cases1" = some (.ref fb) → LamX.OwnTab K fb h)
    {C_Term : Addr}
    {f_Term_init : Addr} {oc_Term_init kV_Term_init dc_Term_init pm_Term_init cd_Term_init ct_Term_init dV_Term_init : Value} {od_Term_init an_Term_init : Option Addr} {sl_Term_init : Array (Option Value)}
    {f_Term_is_variable : Addr} {oc_Term_is_variable kV_Term_is_variable dc_Term_is_variable pm_Term_is_variable cd_Term_is_variable ct_Term_is_variable : Value} {od_Term_is_variable an_Term_is_variable : Option Addr} {sl_Term_is_variable : Array (Option Value)}
    {f_Term_shown : Addr} {oc_Term_shown kV_Term_shown dc_Term_shown pm_Term_shown cd_Term_shown ct_Term_shown : Value} {od_Term_shown an_Term_shown : Option Addr} {sl_Term_shown : Array (Option Value)}
    {f_Term_under : Addr} {oc_Term_under kV_Term_under dc_Term_under pm_Term_under cd_Term_under ct_Term_under : Value} {od_Term_under an_Term_under : Option Addr} {sl_Term_under : Array (Option Value)}
    {f_Term_known : Addr} {oc_Term_known kV_Term_known dc_Term_known pm_Term_known cd_Term_known ct_Term_known : Value} {od_Term_known an_Term_known : Option Addr} {sl_Term_known : Array (Option Value)}
    {f_var : Addr} {oc_var kV_var dc_var pm_var cd_var ct_var : Value} {od_var an_var : Option Addr} {sl_var : Array (Option Value)}
    {f_val : Addr} {oc_val kV_val dc_val pm_val cd_val ct_val : Value} {od_val an_val : Option Addr} {sl_val : Array (Option Value)}
    {f_is_number : Addr} {oc_is_number kV_is_number dc_is_number pm_is_number cd_is_number ct_is_number : Value} {od_is_number an_is_number : Option Addr} {sl_is_number : Array (Option Value)}
    {f_value_key : Addr} {oc_value_key kV_value_key dc_value_key pm_value_key cd_value_key ct_value_key : Value} {od_value_key an_value_key : Option Addr} {sl_value_key : Array (Option Value)}
    {f_row_key : Addr} {oc_row_key kV_row_key dc_row_key pm_row_key cd_row_key ct_row_key : Value} {od_row_key an_row_key : Option Addr} {sl_row_key : Array (Option Value)}
    {f_bound_key : Addr} {oc_bound_key kV_bound_key dc_bound_key pm_bound_key cd_bound_key ct_bound_key : Value} {od_bound_key an_bound_key : Option Addr} {sl_bound_key : Array (Option Value)}
    {f_in_order : Addr} {oc_in_order kV_in_order dc_in_order pm_in_order cd_in_order ct_in_order : Value} {od_in_order an_in_order : Option Addr} {sl_in_order : Array (Option Value)}
    {f_names_in : Addr} {oc_names_in kV_names_in dc_names_in pm_names_in cd_names_in ct_names_in : Value} {od_names_in an_names_in : Option Addr} {sl_names_in : Array (Option Value)}
    {f_filled : Addr} {oc_filled kV_filled dc_filled pm_filled cd_filled ct_filled : Value} {od_filled an_filled : Option Addr} {sl_filled : Array (Option Value)}
    {f_matched : Addr} {oc_matched kV_matched dc_matched pm_matched cd_matched ct_matched : Value} {od_matched an_matched : Option Addr} {sl_matched : Array (Option Value)}
    {f_pattern : Addr} {oc_pattern kV_pattern dc_pattern pm_pattern cd_pattern ct_pattern : Value} {od_pattern an_pattern : Option Addr} {sl_pattern : Array (Option Value)}
    {f_shown_all : Addr} {oc_shown_all kV_shown_all dc_shown_all pm_shown_all cd_shown_all ct_shown_all : Value} {od_shown_all an_shown_all : Option Addr} {sl_shown_all : Array (Option Value)}
    {f_renamed : Addr} {oc_renamed kV_renamed dc_renamed pm_renamed cd_renamed ct_renamed : Value} {od_renamed an_renamed : Option Addr} {sl_renamed : Array (Option Value)}
    {f_l_dice : Addr} {oc_l_dice kV_l_dice dc_l_dice pm_l_dice cd_l_dice ct_l_dice : Value} {od_l_dice an_l_dice : Option Addr} {sl_l_dice : Array (Option Value)}
    {f_l_roll : Addr} {oc_l_roll kV_l_roll dc_l_roll pm_l_roll cd_l_roll ct_l_roll : Value} {od_l_roll an_l_roll : Option Addr} {sl_l_roll : Array (Option Value)}
    {f_l_rounds : Addr} {oc_l_rounds kV_l_rounds dc_l_rounds pm_l_rounds cd_l_rounds ct_l_rounds : Value} {od_l_rounds an_l_rounds : Option Addr} {sl_l_rounds : Array (Option Value)}
    {f_l_told : Addr} {oc_l_told kV_l_told dc_l_told pm_l_told cd_l_told ct_l_told : Value} {od_l_told an_l_told : Option Addr} {sl_l_told : Array (Option Value)}
    {f_l_value : Addr} {oc_l_value kV_l_value dc_l_value pm_l_value cd_l_value ct_l_value : Value} {od_l_value an_l_value : Option Addr} {sl_l_value : Array (Option Value)}
    {f_l_term : Addr} {oc_l_term kV_l_term dc_l_term pm_l_term cd_l_term ct_l_term : Value} {od_l_term an_l_term : Option Addr} {sl_l_term : Array (Option Value)}
    {f_l_make : Addr} {oc_l_make kV_l_make dc_l_make pm_l_make cd_l_make ct_l_make : Value} {od_l_make an_l_make : Option Addr} {sl_l_make : Array (Option Value)}
    {f_l_less : Addr} {oc_l_less kV_l_less dc_l_less pm_l_less cd_l_less ct_l_less : Value} {od_l_less an_l_less : Option Addr} {sl_l_less : Array (Option Value)}
    {f_l_row_less : Addr} {oc_l_row_less kV_l_row_less dc_l_row_less pm_l_row_less cd_l_row_less ct_l_row_less : Value} {od_l_row_less an_l_row_less : Option Addr} {sl_l_row_less : Array (Option Value)}
    {f_l_cases1 : Addr} {oc_l_cases1 kV_l_cases1 dc_l_cases1 pm_l_cases1 ct_l_cases1 : Value} {od_l_cases1 an_l_cases1 : Option Addr} {sl_l_cases1 : Array (Option Value)}
    {f_law : Addr} {oc_law kV_law dc_law pm_law cd_law ct_law : Value} {od_law an_law : Option Addr} {sl_law : Array (Option Value)}
    {C_BadSign : Addr}
    {C_BadRule : Addr}
    {C_BadKind : Addr}
    {C_BadLayer : Addr}
    {C_NoSuch : Addr}
    {C_BadDeed : Addr}
    {C_BadGround : Addr}
    {C_BadStore : Addr}
    {C_Broken : Addr}
    {C_BadSize : Addr}
    {c_L P_L : Addr}
    (aC_Term : PySem.W.nsIn K mainGlobals "Term" = some (some (.ref C_Term)))
    (pg_Term : PySem.W.plainGet K C_Term Str.empty = true)
    (hd_Term : PySem.W.hasDictIn K C_Term = true)
    (po_Term : PySem.W.plainOver K C_Term = true)
    (sa_Term : PySem.W.findIn K (.ref C_Term) "__setattr__" = some (some (.builtin "object.__setattr__")))
    (mk_Term : PySem.W.makesIn K C_Term = true)
    (kc_Term : PySem.W.keepIn K (.ref C_Term) = true)
    (n_Term_name : PySem.W.findIn K (.ref C_Term) "name" = some none)
    (n_Term_value : PySem.W.findIn K (.ref C_Term) "value" = some none)
    (a_Term_init : PySem.W.findIn K (.ref C_Term) "__init__" = some (some (.ref f_Term_init)))
    (i_Term_init : PySem.W.isFn K (.ref f_Term_init) = true)
    (l_Term_init : K.lookup f_Term_init = some ⟨oc_Term_init, od_Term_init, .func (PySem.W.fnOf "__init__" "Term.__init__" (defArgs s_Term_init) (defBody s_Term_init) (defScope s_Term_init) dV_Term_init kV_Term_init dc_Term_init pm_Term_init an_Term_init cd_Term_init ct_Term_init), sl_Term_init⟩)
    (v_Term_init : DflV K dV_Term_init [.non])
    (c_Term_init : PySem.W.codeIn K cd_Term_init "Term.__init__" = true)
    (k_Term_init : PySem.W.keepIn K (.ref f_Term_init) = true)
    (a_Term_is_variable : PySem.W.findIn K (.ref C_Term) "is_variable" = some (some (.ref f_Term_is_variable)))
    (i_Term_is_variable : PySem.W.isFn K (.ref f_Term_is_variable) = true)
    (l_Term_is_variable : K.lookup f_Term_is_variable = some ⟨oc_Term_is_variable, od_Term_is_variable, .func (PySem.W.fnOf "is_variable" "Term.is_variable" (defArgs s_Term_is_variable) (defBody s_Term_is_variable) (defScope s_Term_is_variable) .none kV_Term_is_variable dc_Term_is_variable pm_Term_is_variable an_Term_is_variable cd_Term_is_variable ct_Term_is_variable), sl_Term_is_variable⟩)
    (c_Term_is_variable : PySem.W.codeIn K cd_Term_is_variable "Term.is_variable" = true)
    (k_Term_is_variable : PySem.W.keepIn K (.ref f_Term_is_variable) = true)
    (a_Term_shown : PySem.W.findIn K (.ref C_Term) "shown" = some (some (.ref f_Term_shown)))
    (i_Term_shown : PySem.W.isFn K (.ref f_Term_shown) = true)
    (l_Term_shown : K.lookup f_Term_shown = some ⟨oc_Term_shown, od_Term_shown, .func (PySem.W.fnOf "shown" "Term.shown" (defArgs s_Term_shown) (defBody s_Term_shown) (defScope s_Term_shown) .none kV_Term_shown dc_Term_shown pm_Term_shown an_Term_shown cd_Term_shown ct_Term_shown), sl_Term_shown⟩)
    (c_Term_shown : PySem.W.codeIn K cd_Term_shown "Term.shown" = true)
    (k_Term_shown : PySem.W.keepIn K (.ref f_Term_shown) = true)
    (a_Term_under : PySem.W.findIn K (.ref C_Term) "under" = some (some (.ref f_Term_under)))
    (i_Term_under : PySem.W.isFn K (.ref f_Term_under) = true)
    (l_Term_under : K.lookup f_Term_under = some ⟨oc_Term_under, od_Term_under, .func (PySem.W.fnOf "under" "Term.under" (defArgs s_Term_under) (defBody s_Term_under) (defScope s_Term_under) .none kV_Term_under dc_Term_under pm_Term_under an_Term_under cd_Term_under ct_Term_under), sl_Term_under⟩)
    (c_Term_under : PySem.W.codeIn K cd_Term_under "Term.under" = true)
    (k_Term_under : PySem.W.keepIn K (.ref f_Term_under) = true)
    (a_Term_known : PySem.W.findIn K (.ref C_Term) "known" = some (some (.ref f_Term_known)))
    (i_Term_known : PySem.W.isFn K (.ref f_Term_known) = true)
    (l_Term_known : K.lookup f_Term_known = some ⟨oc_Term_known, od_Term_known, .func (PySem.W.fnOf "known" "Term.known" (defArgs s_Term_known) (defBody s_Term_known) (defScope s_Term_known) .none kV_Term_known dc_Term_known pm_Term_known an_Term_known cd_Term_known ct_Term_known), sl_Term_known⟩)
    (c_Term_known : PySem.W.codeIn K cd_Term_known "Term.known" = true)
    (k_Term_known : PySem.W.keepIn K (.ref f_Term_known) = true)
    (a_var : PySem.W.nsIn K mainGlobals "var" = some (some (.ref f_var)))
    (l_var : K.lookup f_var = some ⟨oc_var, od_var, .func (PySem.W.fnOf "var" "var" (defArgs s_var) (defBody s_var) (defScope s_var) .none kV_var dc_var pm_var an_var cd_var ct_var), sl_var⟩)
    (c_var : PySem.W.codeIn K cd_var "var" = true)
    (k_var : PySem.W.keepIn K (.ref f_var) = true)
    (a_val : PySem.W.nsIn K mainGlobals "val" = some (some (.ref f_val)))
    (l_val : K.lookup f_val = some ⟨oc_val, od_val, .func (PySem.W.fnOf "val" "val" (defArgs s_val) (defBody s_val) (defScope s_val) .none kV_val dc_val pm_val an_val cd_val ct_val), sl_val⟩)
    (c_val : PySem.W.codeIn K cd_val "val" = true)
    (k_val : PySem.W.keepIn K (.ref f_val) = true)
    (a_is_number : PySem.W.nsIn K mainGlobals "is_number" = some (some (.ref f_is_number)))
    (l_is_number : K.lookup f_is_number = some ⟨oc_is_number, od_is_number, .func (PySem.W.fnOf "is_number" "is_number" (defArgs s_is_number) (defBody s_is_number) (defScope s_is_number) .none kV_is_number dc_is_number pm_is_number an_is_number cd_is_number ct_is_number), sl_is_number⟩)
    (c_is_number : PySem.W.codeIn K cd_is_number "is_number" = true)
    (k_is_number : PySem.W.keepIn K (.ref f_is_number) = true)
    (a_value_key : PySem.W.nsIn K mainGlobals "value_key" = some (some (.ref f_value_key)))
    (l_value_key : K.lookup f_value_key = some ⟨oc_value_key, od_value_key, .func (PySem.W.fnOf "value_key" "value_key" (defArgs s_value_key) (defBody s_value_key) (defScope s_value_key) .none kV_value_key dc_value_key pm_value_key an_value_key cd_value_key ct_value_key), sl_value_key⟩)
    (c_value_key : PySem.W.codeIn K cd_value_key "value_key" = true)
    (k_value_key : PySem.W.keepIn K (.ref f_value_key) = true)
    (a_row_key : PySem.W.nsIn K mainGlobals "row_key" = some (some (.ref f_row_key)))
    (l_row_key : K.lookup f_row_key = some ⟨oc_row_key, od_row_key, .func (PySem.W.fnOf "row_key" "row_key" (defArgs s_row_key) (defBody s_row_key) (defScope s_row_key) .none kV_row_key dc_row_key pm_row_key an_row_key cd_row_key ct_row_key), sl_row_key⟩)
    (c_row_key : PySem.W.codeIn K cd_row_key "row_key" = true)
    (k_row_key : PySem.W.keepIn K (.ref f_row_key) = true)
    (a_bound_key : PySem.W.nsIn K mainGlobals "bound_key" = some (some (.ref f_bound_key)))
    (l_bound_key : K.lookup f_bound_key = some ⟨oc_bound_key, od_bound_key, .func (PySem.W.fnOf "bound_key" "bound_key" (defArgs s_bound_key) (defBody s_bound_key) (defScope s_bound_key) .none kV_bound_key dc_bound_key pm_bound_key an_bound_key cd_bound_key ct_bound_key), sl_bound_key⟩)
    (c_bound_key : PySem.W.codeIn K cd_bound_key "bound_key" = true)
    (k_bound_key : PySem.W.keepIn K (.ref f_bound_key) = true)
    (a_in_order : PySem.W.nsIn K mainGlobals "in_order" = some (some (.ref f_in_order)))
    (l_in_order : K.lookup f_in_order = some ⟨oc_in_order, od_in_order, .func (PySem.W.fnOf "in_order" "in_order" (defArgs s_in_order) (defBody s_in_order) (defScope s_in_order) .none kV_in_order dc_in_order pm_in_order an_in_order cd_in_order ct_in_order), sl_in_order⟩)
    (c_in_order : PySem.W.codeIn K cd_in_order "in_order" = true)
    (k_in_order : PySem.W.keepIn K (.ref f_in_order) = true)
    (a_names_in : PySem.W.nsIn K mainGlobals "names_in" = some (some (.ref f_names_in)))
    (l_names_in : K.lookup f_names_in = some ⟨oc_names_in, od_names_in, .func (PySem.W.fnOf "names_in" "names_in" (defArgs s_names_in) (defBody s_names_in) (defScope s_names_in) .none kV_names_in dc_names_in pm_names_in an_names_in cd_names_in ct_names_in), sl_names_in⟩)
    (c_names_in : PySem.W.codeIn K cd_names_in "names_in" = true)
    (k_names_in : PySem.W.keepIn K (.ref f_names_in) = true)
    (a_filled : PySem.W.nsIn K mainGlobals "filled" = some (some (.ref f_filled)))
    (l_filled : K.lookup f_filled = some ⟨oc_filled, od_filled, .func (PySem.W.fnOf "filled" "filled" (defArgs s_filled) (defBody s_filled) (defScope s_filled) .none kV_filled dc_filled pm_filled an_filled cd_filled ct_filled), sl_filled⟩)
    (c_filled : PySem.W.codeIn K cd_filled "filled" = true)
    (k_filled : PySem.W.keepIn K (.ref f_filled) = true)
    (a_matched : PySem.W.nsIn K mainGlobals "matched" = some (some (.ref f_matched)))
    (l_matched : K.lookup f_matched = some ⟨oc_matched, od_matched, .func (PySem.W.fnOf "matched" "matched" (defArgs s_matched) (defBody s_matched) (defScope s_matched) .none kV_matched dc_matched pm_matched an_matched cd_matched ct_matched), sl_matched⟩)
    (c_matched : PySem.W.codeIn K cd_matched "matched" = true)
    (k_matched : PySem.W.keepIn K (.ref f_matched) = true)
    (a_pattern : PySem.W.nsIn K mainGlobals "pattern" = some (some (.ref f_pattern)))
    (l_pattern : K.lookup f_pattern = some ⟨oc_pattern, od_pattern, .func (PySem.W.fnOf "pattern" "pattern" (defArgs s_pattern) (defBody s_pattern) (defScope s_pattern) .none kV_pattern dc_pattern pm_pattern an_pattern cd_pattern ct_pattern), sl_pattern⟩)
    (c_pattern : PySem.W.codeIn K cd_pattern "pattern" = true)
    (k_pattern : PySem.W.keepIn K (.ref f_pattern) = true)
    (a_shown_all : PySem.W.nsIn K mainGlobals "shown_all" = some (some (.ref f_shown_all)))
    (l_shown_all : K.lookup f_shown_all = some ⟨oc_shown_all, od_shown_all, .func (PySem.W.fnOf "shown_all" "shown_all" (defArgs s_shown_all) (defBody s_shown_all) (defScope s_shown_all) .none kV_shown_all dc_shown_all pm_shown_all an_shown_all cd_shown_all ct_shown_all), sl_shown_all⟩)
    (c_shown_all : PySem.W.codeIn K cd_shown_all "shown_all" = true)
    (k_shown_all : PySem.W.keepIn K (.ref f_shown_all) = true)
    (a_renamed : PySem.W.nsIn K mainGlobals "renamed" = some (some (.ref f_renamed)))
    (l_renamed : K.lookup f_renamed = some ⟨oc_renamed, od_renamed, .func (PySem.W.fnOf "renamed" "renamed" (defArgs s_renamed) (defBody s_renamed) (defScope s_renamed) .none kV_renamed dc_renamed pm_renamed an_renamed cd_renamed ct_renamed), sl_renamed⟩)
    (c_renamed : PySem.W.codeIn K cd_renamed "renamed" = true)
    (k_renamed : PySem.W.keepIn K (.ref f_renamed) = true)
    (a_l_dice : PySem.W.nsIn K mainGlobals "_law_dice" = some (some (.ref f_l_dice)))
    (l_l_dice : K.lookup f_l_dice = some ⟨oc_l_dice, od_l_dice, .func (PySem.W.fnOf "_law_dice" "_law_dice" (defArgs s_l_dice) (defBody s_l_dice) (defScope s_l_dice) .none kV_l_dice dc_l_dice pm_l_dice an_l_dice cd_l_dice ct_l_dice), sl_l_dice⟩)
    (c_l_dice : PySem.W.codeIn K cd_l_dice "_law_dice" = true)
    (k_l_dice : PySem.W.keepIn K (.ref f_l_dice) = true)
    (a_l_roll : PySem.W.nsIn K mainGlobals "_law_roll" = some (some (.ref f_l_roll)))
    (l_l_roll : K.lookup f_l_roll = some ⟨oc_l_roll, od_l_roll, .func (PySem.W.fnOf "_law_roll" "_law_roll" (defArgs s_l_roll) (defBody s_l_roll) (defScope s_l_roll) .none kV_l_roll dc_l_roll pm_l_roll an_l_roll cd_l_roll ct_l_roll), sl_l_roll⟩)
    (c_l_roll : PySem.W.codeIn K cd_l_roll "_law_roll" = true)
    (k_l_roll : PySem.W.keepIn K (.ref f_l_roll) = true)
    (a_l_rounds : PySem.W.nsIn K mainGlobals "_law_rounds" = some (some (.ref f_l_rounds)))
    (l_l_rounds : K.lookup f_l_rounds = some ⟨oc_l_rounds, od_l_rounds, .func (PySem.W.fnOf "_law_rounds" "_law_rounds" (defArgs s_l_rounds) (defBody s_l_rounds) (defScope s_l_rounds) .none kV_l_rounds dc_l_rounds pm_l_rounds an_l_rounds cd_l_rounds ct_l_rounds), sl_l_rounds⟩)
    (c_l_rounds : PySem.W.codeIn K cd_l_rounds "_law_rounds" = true)
    (k_l_rounds : PySem.W.keepIn K (.ref f_l_rounds) = true)
    (a_l_told : PySem.W.nsIn K mainGlobals "_law_told" = some (some (.ref f_l_told)))
    (l_l_told : K.lookup f_l_told = some ⟨oc_l_told, od_l_told, .func (PySem.W.fnOf "_law_told" "_law_told" (defArgs s_l_told) (defBody s_l_told) (defScope s_l_told) .none kV_l_told dc_l_told pm_l_told an_l_told cd_l_told ct_l_told), sl_l_told⟩)
    (c_l_told : PySem.W.codeIn K cd_l_told "_law_told" = true)
    (k_l_told : PySem.W.keepIn K (.ref f_l_told) = true)
    (a_l_value : PySem.W.nsIn K mainGlobals "_law_value" = some (some (.ref f_l_value)))
    (l_l_value : K.lookup f_l_value = some ⟨oc_l_value, od_l_value, .func (PySem.W.fnOf "_law_value" "_law_value" (defArgs s_l_value) (defBody s_l_value) (defScope s_l_value) .none kV_l_value dc_l_value pm_l_value an_l_value cd_l_value ct_l_value), sl_l_value⟩)
    (c_l_value : PySem.W.codeIn K cd_l_value "_law_value" = true)
    (k_l_value : PySem.W.keepIn K (.ref f_l_value) = true)
    (a_l_term : PySem.W.nsIn K mainGlobals "_law_term" = some (some (.ref f_l_term)))
    (l_l_term : K.lookup f_l_term = some ⟨oc_l_term, od_l_term, .func (PySem.W.fnOf "_law_term" "_law_term" (defArgs s_l_term) (defBody s_l_term) (defScope s_l_term) .none kV_l_term dc_l_term pm_l_term an_l_term cd_l_term ct_l_term), sl_l_term⟩)
    (c_l_term : PySem.W.codeIn K cd_l_term "_law_term" = true)
    (k_l_term : PySem.W.keepIn K (.ref f_l_term) = true)
    (a_l_make : PySem.W.nsIn K mainGlobals "_law_make" = some (some (.ref f_l_make)))
    (l_l_make : K.lookup f_l_make = some ⟨oc_l_make, od_l_make, .func (PySem.W.fnOf "_law_make" "_law_make" (defArgs s_l_make) (defBody s_l_make) (defScope s_l_make) .none kV_l_make dc_l_make pm_l_make an_l_make cd_l_make ct_l_make), sl_l_make⟩)
    (c_l_make : PySem.W.codeIn K cd_l_make "_law_make" = true)
    (k_l_make : PySem.W.keepIn K (.ref f_l_make) = true)
    (a_l_less : PySem.W.nsIn K mainGlobals "_law_less" = some (some (.ref f_l_less)))
    (l_l_less : K.lookup f_l_less = some ⟨oc_l_less, od_l_less, .func (PySem.W.fnOf "_law_less" "_law_less" (defArgs s_l_less) (defBody s_l_less) (defScope s_l_less) .none kV_l_less dc_l_less pm_l_less an_l_less cd_l_less ct_l_less), sl_l_less⟩)
    (c_l_less : PySem.W.codeIn K cd_l_less "_law_less" = true)
    (k_l_less : PySem.W.keepIn K (.ref f_l_less) = true)
    (a_l_row_less : PySem.W.nsIn K mainGlobals "_law_row_less" = some (some (.ref f_l_row_less)))
    (l_l_row_less : K.lookup f_l_row_less = some ⟨oc_l_row_less, od_l_row_less, .func (PySem.W.fnOf "_law_row_less" "_law_row_less" (defArgs s_l_row_less) (defBody s_l_row_less) (defScope s_l_row_less) .none kV_l_row_less dc_l_row_less pm_l_row_less an_l_row_less cd_l_row_less ct_l_row_less), sl_l_row_less⟩)
    (c_l_row_less : PySem.W.codeIn K cd_l_row_less "_law_row_less" = true)
    (k_l_row_less : PySem.W.keepIn K (.ref f_l_row_less) = true)
    (a_l_cases1 : PySem.W.nsIn K mainGlobals "_law_cases1" = some (some (.ref f_l_cases1)))
    (l_l_cases1 : K.lookup f_l_cases1 = some ⟨oc_l_cases1, od_l_cases1, .func (PySem.W.fnOf "_law_cases1" "_law_cases1" (defArgs s_l_cases1) (defBody s_l_cases1) (defScope s_l_cases1) .none kV_l_cases1 dc_l_cases1 pm_l_cases1 an_l_cases1 (.ref c_L) ct_l_cases1), sl_l_cases1⟩)
    (c_l_cases1 : PySem.W.codeIn K (.ref c_L) "_law_cases1" = true)
    (k_l_cases1 : PySem.W.keepIn K (.ref f_l_cases1) = true)
    (a_law : PySem.W.nsIn K mainGlobals "law" = some (some (.ref f_law)))
    (l_law : K.lookup f_law = some ⟨oc_law, od_law, .func (PySem.W.fnOf "law" "law" (defArgs s_law) (defBody s_law) (defScope s_law) .none kV_law dc_law pm_law an_law cd_law ct_law), sl_law⟩)
    (c_law : PySem.W.codeIn K cd_law "law" = true)
    (k_law : PySem.W.keepIn K (.ref f_law) = true)
    (z_abs : PySem.W.nsIn K mainGlobals "abs" = some none)
    (z_dict : PySem.W.nsIn K mainGlobals "dict" = some none)
    (z_enumerate : PySem.W.nsIn K mainGlobals "enumerate" = some none)
    (z_int : PySem.W.nsIn K mainGlobals "int" = some none)
    (z_isinstance : PySem.W.nsIn K mainGlobals "isinstance" = some none)
    (z_len : PySem.W.nsIn K mainGlobals "len" = some none)
    (z_min : PySem.W.nsIn K mainGlobals "min" = some none)
    (z_range : PySem.W.nsIn K mainGlobals "range" = some none)
    (z_sorted : PySem.W.nsIn K mainGlobals "sorted" = some none)
    (z_tuple : PySem.W.nsIn K mainGlobals "tuple" = some none)
    (z_zip : PySem.W.nsIn K mainGlobals "zip" = some none)
    (q_BadSign : PySem.W.nsIn K mainGlobals "BadSign" = some (some (.ref C_BadSign)))
    (q_BadRule : PySem.W.nsIn K mainGlobals "BadRule" = some (some (.ref C_BadRule)))
    (q_BadKind : PySem.W.nsIn K mainGlobals "BadKind" = some (some (.ref C_BadKind)))
    (q_BadLayer : PySem.W.nsIn K mainGlobals "BadLayer" = some (some (.ref C_BadLayer)))
    (q_NoSuch : PySem.W.nsIn K mainGlobals "NoSuch" = some (some (.ref C_NoSuch)))
    (q_BadDeed : PySem.W.nsIn K mainGlobals "BadDeed" = some (some (.ref C_BadDeed)))
    (q_BadGround : PySem.W.nsIn K mainGlobals "BadGround" = some (some (.ref C_BadGround)))
    (q_BadStore : PySem.W.nsIn K mainGlobals "BadStore" = some (some (.ref C_BadStore)))
    (q_Broken : PySem.W.nsIn K mainGlobals "Broken" = some (some (.ref C_Broken)))
    (q_BadSize : PySem.W.nsIn K mainGlobals "BadSize" = some (some (.ref C_BadSize)))
    (x_NoSuch : PySem.W.excIn K C_NoSuch [.type "ValueError", .type "Exception", .type "BaseException", .type "object"] "ValueError.__new__" = true)
    (k_NoSuch : PySem.W.keepIn K (.ref C_NoSuch) = true)
    (sb_NoSuch : PySem.W.subIn K (.ref C_NoSuch) (.type "BaseException") = some true)
    (ty_NoSuch : PySem.W.typeIn K (.ref C_NoSuch) = some (.type "type"))
    (m_NoSuch_BadSign : PySem.W.exmOne K (.ref C_NoSuch) (.ref C_BadSign) = some false)
    (m_NoSuch_BadRule : PySem.W.exmOne K (.ref C_NoSuch) (.ref C_BadRule) = some false)
    (m_NoSuch_BadKind : PySem.W.exmOne K (.ref C_NoSuch) (.ref C_BadKind) = some false)
    (m_NoSuch_BadLayer : PySem.W.exmOne K (.ref C_NoSuch) (.ref C_BadLayer) = some false)
    (m_NoSuch_NoSuch : PySem.W.exmOne K (.ref C_NoSuch) (.ref C_NoSuch) = some true)
    (h_law : PySem.W.codeHdIn K c_L P_L = true)
    (n_law : K.lookup P_L = none) :
    LamX.LawAtS l w K (L2.CX l.prog w) 10 63 "script" mg fa h := by
  have ef : f_law = fa := by
    have e := hfa.symm.trans (PySem.W.mg_of X G a_law)
    injection e with e
    injection e with e
    exact e.symm
  subst ef
  let A : Ad := ⟨C_BadSign, C_BadRule, C_BadKind, C_BadLayer, C_NoSuch, C_BadDeed, C_BadGround, C_BadStore, C_Broken, C_BadSize, c_L, P_L, f_Term_init, (PySem.W.fnOf "__init__" "Term.__init__" (defArgs s_Term_init) (defBody s_Term_init) (defScope s_Term_init) dV_Term_init kV_Term_init dc_Term_init pm_Term_init an_Term_init cd_Term_init ct_Term_init), f_Term_is_variable, (PySem.W.fnOf "is_variable" "Term.is_variable" (defArgs s_Term_is_variable) (defBody s_Term_is_variable) (defScope s_Term_is_variable) .none kV_Term_is_variable dc_Term_is_variable pm_Term_is_variable an_Term_is_variable cd_Term_is_variable ct_Term_is_variable), f_Term_shown, (PySem.W.fnOf "shown" "Term.shown" (defArgs s_Term_shown) (defBody s_Term_shown) (defScope s_Term_shown) .none kV_Term_shown dc_Term_shown pm_Term_shown an_Term_shown cd_Term_shown ct_Term_shown), f_Term_under, (PySem.W.fnOf "under" "Term.under" (defArgs s_Term_under) (defBody s_Term_under) (defScope s_Term_under) .none kV_Term_under dc_Term_under pm_Term_under an_Term_under cd_Term_under ct_Term_under), f_Term_known, (PySem.W.fnOf "known" "Term.known" (defArgs s_Term_known) (defBody s_Term_known) (defScope s_Term_known) .none kV_Term_known dc_Term_known pm_Term_known an_Term_known cd_Term_known ct_Term_known), f_var, (PySem.W.fnOf "var" "var" (defArgs s_var) (defBody s_var) (defScope s_var) .none kV_var dc_var pm_var an_var cd_var ct_var), f_val, (PySem.W.fnOf "val" "val" (defArgs s_val) (defBody s_val) (defScope s_val) .none kV_val dc_val pm_val an_val cd_val ct_val), f_is_number, (PySem.W.fnOf "is_number" "is_number" (defArgs s_is_number) (defBody s_is_number) (defScope s_is_number) .none kV_is_number dc_is_number pm_is_number an_is_number cd_is_number ct_is_number), f_value_key, (PySem.W.fnOf "value_key" "value_key" (defArgs s_value_key) (defBody s_value_key) (defScope s_value_key) .none kV_value_key dc_value_key pm_value_key an_value_key cd_value_key ct_value_key), f_row_key, (PySem.W.fnOf "row_key" "row_key" (defArgs s_row_key) (defBody s_row_key) (defScope s_row_key) .none kV_row_key dc_row_key pm_row_key an_row_key cd_row_key ct_row_key), f_bound_key, (PySem.W.fnOf "bound_key" "bound_key" (defArgs s_bound_key) (defBody s_bound_key) (defScope s_bound_key) .none kV_bound_key dc_bound_key pm_bound_key an_bound_key cd_bound_key ct_bound_key), f_in_order, (PySem.W.fnOf "in_order" "in_order" (defArgs s_in_order) (defBody s_in_order) (defScope s_in_order) .none kV_in_order dc_in_order pm_in_order an_in_order cd_in_order ct_in_order), f_names_in, (PySem.W.fnOf "names_in" "names_in" (defArgs s_names_in) (defBody s_names_in) (defScope s_names_in) .none kV_names_in dc_names_in pm_names_in an_names_in cd_names_in ct_names_in), f_filled, (PySem.W.fnOf "filled" "filled" (defArgs s_filled) (defBody s_filled) (defScope s_filled) .none kV_filled dc_filled pm_filled an_filled cd_filled ct_filled), f_matched, (PySem.W.fnOf "matched" "matched" (defArgs s_matched) (defBody s_matched) (defScope s_matched) .none kV_matched dc_matched pm_matched an_matched cd_matched ct_matched), f_pattern, (PySem.W.fnOf "pattern" "pattern" (defArgs s_pattern) (defBody s_pattern) (defScope s_pattern) .none kV_pattern dc_pattern pm_pattern an_pattern cd_pattern ct_pattern), f_shown_all, (PySem.W.fnOf "shown_all" "shown_all" (defArgs s_shown_all) (defBody s_shown_all) (defScope s_shown_all) .none kV_shown_all dc_shown_all pm_shown_all an_shown_all cd_shown_all ct_shown_all), f_renamed, (PySem.W.fnOf "renamed" "renamed" (defArgs s_renamed) (defBody s_renamed) (defScope s_renamed) .none kV_renamed dc_renamed pm_renamed an_renamed cd_renamed ct_renamed), f_l_dice, (PySem.W.fnOf "_law_dice" "_law_dice" (defArgs s_l_dice) (defBody s_l_dice) (defScope s_l_dice) .none kV_l_dice dc_l_dice pm_l_dice an_l_dice cd_l_dice ct_l_dice), f_l_roll, (PySem.W.fnOf "_law_roll" "_law_roll" (defArgs s_l_roll) (defBody s_l_roll) (defScope s_l_roll) .none kV_l_roll dc_l_roll pm_l_roll an_l_roll cd_l_roll ct_l_roll), f_l_rounds, (PySem.W.fnOf "_law_rounds" "_law_rounds" (defArgs s_l_rounds) (defBody s_l_rounds) (defScope s_l_rounds) .none kV_l_rounds dc_l_rounds pm_l_rounds an_l_rounds cd_l_rounds ct_l_rounds), f_l_told, (PySem.W.fnOf "_law_told" "_law_told" (defArgs s_l_told) (defBody s_l_told) (defScope s_l_told) .none kV_l_told dc_l_told pm_l_told an_l_told cd_l_told ct_l_told), f_l_value, (PySem.W.fnOf "_law_value" "_law_value" (defArgs s_l_value) (defBody s_l_value) (defScope s_l_value) .none kV_l_value dc_l_value pm_l_value an_l_value cd_l_value ct_l_value), f_l_term, (PySem.W.fnOf "_law_term" "_law_term" (defArgs s_l_term) (defBody s_l_term) (defScope s_l_term) .none kV_l_term dc_l_term pm_l_term an_l_term cd_l_term ct_l_term), f_l_make, (PySem.W.fnOf "_law_make" "_law_make" (defArgs s_l_make) (defBody s_l_make) (defScope s_l_make) .none kV_l_make dc_l_make pm_l_make an_l_make cd_l_make ct_l_make), f_l_less, (PySem.W.fnOf "_law_less" "_law_less" (defArgs s_l_less) (defBody s_l_less) (defScope s_l_less) .none kV_l_less dc_l_less pm_l_less an_l_less cd_l_less ct_l_less), f_l_row_less, (PySem.W.fnOf "_law_row_less" "_law_row_less" (defArgs s_l_row_less) (defBody s_l_row_less) (defScope s_l_row_less) .none kV_l_row_less dc_l_row_less pm_l_row_less an_l_row_less cd_l_row_less ct_l_row_less), f_l_cases1, (PySem.W.fnOf "_law_cases1" "_law_cases1" (defArgs s_l_cases1) (defBody s_l_cases1) (defScope s_l_cases1) .none kV_l_cases1 dc_l_cases1 pm_l_cases1 an_l_cases1 (.ref c_L) ct_l_cases1), f_law, (PySem.W.fnOf "law" "law" (defArgs s_law) (defBody s_law) (defScope s_law) .none kV_law dc_law pm_law an_law cd_law ct_law), C_Term⟩
  have F_Term_init : FunD K "__init__" "Term.__init__" (defArgs s_Term_init) (defBody s_Term_init) (defScope s_Term_init) [.non] [] A.f_Term_init A.d_Term_init := ⟨⟨_, _, _, _, _, _, _, _, _, _, rfl, l_Term_init, c_Term_init, v_Term_init, .inl rfl⟩, k_Term_init⟩
  have b_Term_init : Binds K A.d_Term_init ["self", "name", "value"] [] := by
    obtain ⟨ds, hv, hb⟩ := F_Term_init.binds1 (ps := ["self", "name", "value"]) 3 1 (List.cons_ne_nil _ _) rfl fun _ _ _ _ _ _ _ us its hl hi => match us, its, hl, hi with | [_, _, _], [_], _, _ => ⟨_, rfl, rfl⟩
    cases hv
    exact hb
  have bd_Term_init := F_Term_init.binds1 (ps := ["self", "name", "value"]) 2 0 (List.cons_ne_nil _ _) rfl fun _ _ _ _ _ _ _ us its hl hi => match us, its, hl, hi with | [_, _], [_], _, _ => ⟨_, rfl, rfl⟩
  have F_Term_is_variable := fun_mk (st := s_Term_is_variable) l_Term_is_variable c_Term_is_variable k_Term_is_variable
  have b_Term_is_variable := F_Term_is_variable.binds (ps := ["self"]) fun _ _ _ _ _ _ us hl => match us, hl with | [_], _ => rfl
  have F_Term_shown := fun_mk (st := s_Term_shown) l_Term_shown c_Term_shown k_Term_shown
  have b_Term_shown := F_Term_shown.binds (ps := ["self"]) fun _ _ _ _ _ _ us hl => match us, hl with | [_], _ => rfl
  have F_Term_under := fun_mk (st := s_Term_under) l_Term_under c_Term_under k_Term_under
  have b_Term_under := F_Term_under.binds (ps := ["self", "bound"]) fun _ _ _ _ _ _ us hl => match us, hl with | [_, _], _ => rfl
  have F_Term_known := fun_mk (st := s_Term_known) l_Term_known c_Term_known k_Term_known
  have b_Term_known := F_Term_known.binds (ps := ["self", "bound"]) fun _ _ _ _ _ _ us hl => match us, hl with | [_, _], _ => rfl
  have F_var := fun_mk (st := s_var) l_var c_var k_var
  have b_var := F_var.binds (ps := ["name"]) fun _ _ _ _ _ _ us hl => match us, hl with | [_], _ => rfl
  have F_val := fun_mk (st := s_val) l_val c_val k_val
  have b_val := F_val.binds (ps := ["value"]) fun _ _ _ _ _ _ us hl => match us, hl with | [_], _ => rfl
  have F_is_number := fun_mk (st := s_is_number) l_is_number c_is_number k_is_number
  have b_is_number := F_is_number.binds (ps := ["value"]) fun _ _ _ _ _ _ us hl => match us, hl with | [_], _ => rfl
  have F_value_key := fun_mk (st := s_value_key) l_value_key c_value_key k_value_key
  have b_value_key := F_value_key.binds (ps := ["value"]) fun _ _ _ _ _ _ us hl => match us, hl with | [_], _ => rfl
  have F_row_key := fun_mk (st := s_row_key) l_row_key c_row_key k_row_key
  have b_row_key := F_row_key.binds (ps := ["row"]) fun _ _ _ _ _ _ us hl => match us, hl with | [_], _ => rfl
  have F_bound_key := fun_mk (st := s_bound_key) l_bound_key c_bound_key k_bound_key
  have b_bound_key := F_bound_key.binds (ps := ["bound"]) fun _ _ _ _ _ _ us hl => match us, hl with | [_], _ => rfl
  have F_in_order := fun_mk (st := s_in_order) l_in_order c_in_order k_in_order
  have b_in_order := F_in_order.binds (ps := ["rows"]) fun _ _ _ _ _ _ us hl => match us, hl with | [_], _ => rfl
  have F_names_in := fun_mk (st := s_names_in) l_names_in c_names_in k_names_in
  have b_names_in := F_names_in.binds (ps := ["terms"]) fun _ _ _ _ _ _ us hl => match us, hl with | [_], _ => rfl
  have F_filled := fun_mk (st := s_filled) l_filled c_filled k_filled
  have b_filled := F_filled.binds (ps := ["terms", "bound"]) fun _ _ _ _ _ _ us hl => match us, hl with | [_, _], _ => rfl
  have F_matched := fun_mk (st := s_matched) l_matched c_matched k_matched
  have b_matched := F_matched.binds (ps := ["terms", "row", "bound"]) fun _ _ _ _ _ _ us hl => match us, hl with | [_, _, _], _ => rfl
  have F_pattern := fun_mk (st := s_pattern) l_pattern c_pattern k_pattern
  have b_pattern := F_pattern.binds (ps := ["terms", "bound"]) fun _ _ _ _ _ _ us hl => match us, hl with | [_, _], _ => rfl
  have F_shown_all := fun_mk (st := s_shown_all) l_shown_all c_shown_all k_shown_all
  have b_shown_all := F_shown_all.binds (ps := ["terms"]) fun _ _ _ _ _ _ us hl => match us, hl with | [_], _ => rfl
  have F_renamed := fun_mk (st := s_renamed) l_renamed c_renamed k_renamed
  have b_renamed := F_renamed.binds (ps := ["terms", "names"]) fun _ _ _ _ _ _ us hl => match us, hl with | [_, _], _ => rfl
  have F_l_dice := fun_mk (st := s_l_dice) l_l_dice c_l_dice k_l_dice
  have b_l_dice := F_l_dice.binds (ps := ["cell"]) fun _ _ _ _ _ _ us hl => match us, hl with | [_], _ => rfl
  have F_l_roll := fun_mk (st := s_l_roll) l_l_roll c_l_roll k_l_roll
  have b_l_roll := F_l_roll.binds (ps := ["dice", "many"]) fun _ _ _ _ _ _ us hl => match us, hl with | [_, _], _ => rfl
  have F_l_rounds := fun_mk (st := s_l_rounds) l_l_rounds c_l_rounds k_l_rounds
  have b_l_rounds := F_l_rounds.binds (ps := ["script", "most"]) fun _ _ _ _ _ _ us hl => match us, hl with | [_, _], _ => rfl
  have F_l_told := fun_mk (st := s_l_told) l_l_told c_l_told k_l_told
  have b_l_told := F_l_told.binds (ps := ["what"]) fun _ _ _ _ _ _ us hl => match us, hl with | [_], _ => rfl
  have F_l_value := fun_mk (st := s_l_value) l_l_value c_l_value k_l_value
  have b_l_value := F_l_value.binds (ps := ["dice"]) fun _ _ _ _ _ _ us hl => match us, hl with | [_], _ => rfl
  have F_l_term := fun_mk (st := s_l_term) l_l_term c_l_term k_l_term
  have b_l_term := F_l_term.binds (ps := ["dice"]) fun _ _ _ _ _ _ us hl => match us, hl with | [_], _ => rfl
  have F_l_make := fun_mk (st := s_l_make) l_l_make c_l_make k_l_make
  have b_l_make := F_l_make.binds (ps := ["term"]) fun _ _ _ _ _ _ us hl => match us, hl with | [_], _ => rfl
  have F_l_less := fun_mk (st := s_l_less) l_l_less c_l_less k_l_less
  have b_l_less := F_l_less.binds (ps := ["one", "other"]) fun _ _ _ _ _ _ us hl => match us, hl with | [_, _], _ => rfl
  have F_l_row_less := fun_mk (st := s_l_row_less) l_l_row_less c_l_row_less k_l_row_less
  have b_l_row_less := F_l_row_less.binds (ps := ["one", "other"]) fun _ _ _ _ _ _ us hl => match us, hl with | [_, _], _ => rfl
  have F_l_cases1 := fun_mk (st := s_l_cases1) l_l_cases1 c_l_cases1 k_l_cases1
  have b_l_cases1 := F_l_cases1.binds (ps := ["dice", "terms", "bound"]) fun _ _ _ _ _ _ us hl => match us, hl with | [_, _, _], _ => rfl
  have F_law := fun_mk (st := s_law) l_law c_law k_law
  have b_law := F_law.binds (ps := ["script"]) fun _ _ _ _ _ _ us hl => match us, hl with | [_], _ => rfl
  have T : Txt K mg A := {
    F_Term_init := F_Term_init,
    b_Term_init := b_Term_init,
    bd_Term_init := bd_Term_init,
    F_Term_is_variable := F_Term_is_variable,
    b_Term_is_variable := b_Term_is_variable,
    e_Term_is_variable := ⟨a_Term_is_variable, i_Term_is_variable, k_Term_is_variable⟩,
    F_Term_shown := F_Term_shown,
    b_Term_shown := b_Term_shown,
    e_Term_shown := ⟨a_Term_shown, i_Term_shown, k_Term_shown⟩,
    F_Term_under := F_Term_under,
    b_Term_under := b_Term_under,
    e_Term_under := ⟨a_Term_under, i_Term_under, k_Term_under⟩,
    F_Term_known := F_Term_known,
    b_Term_known := b_Term_known,
    e_Term_known := ⟨a_Term_known, i_Term_known, k_Term_known⟩,
    F_var := F_var,
    b_var := b_var,
    m_var := PySem.W.mg_of X G a_var,
    F_val := F_val,
    b_val := b_val,
    m_val := PySem.W.mg_of X G a_val,
    F_is_number := F_is_number,
    b_is_number := b_is_number,
    m_is_number := PySem.W.mg_of X G a_is_number,
    F_value_key := F_value_key,
    b_value_key := b_value_key,
    m_value_key := PySem.W.mg_of X G a_value_key,
    F_row_key := F_row_key,
    b_row_key := b_row_key,
    m_row_key := PySem.W.mg_of X G a_row_key,
    F_bound_key := F_bound_key,
    b_bound_key := b_bound_key,
    m_bound_key := PySem.W.mg_of X G a_bound_key,
    F_in_order := F_in_order,
    b_in_order := b_in_order,
    m_in_order := PySem.W.mg_of X G a_in_order,
    F_names_in := F_names_in,
    b_names_in := b_names_in,
    m_names_in := PySem.W.mg_of X G a_names_in,
    F_filled := F_filled,
    b_filled := b_filled,
    m_filled := PySem.W.mg_of X G a_filled,
    F_matched := F_matched,
    b_matched := b_matched,
    m_matched := PySem.W.mg_of X G a_matched,
    F_pattern := F_pattern,
    b_pattern := b_pattern,
    m_pattern := PySem.W.mg_of X G a_pattern,
    F_shown_all := F_shown_all,
    b_shown_all := b_shown_all,
    m_shown_all := PySem.W.mg_of X G a_shown_all,
    F_renamed := F_renamed,
    b_renamed := b_renamed,
    m_renamed := PySem.W.mg_of X G a_renamed,
    F_l_dice := F_l_dice,
    b_l_dice := b_l_dice,
    m_l_dice := PySem.W.mg_of X G a_l_dice,
    F_l_roll := F_l_roll,
    b_l_roll := b_l_roll,
    m_l_roll := PySem.W.mg_of X G a_l_roll,
    F_l_rounds := F_l_rounds,
    b_l_rounds := b_l_rounds,
    m_l_rounds := PySem.W.mg_of X G a_l_rounds,
    F_l_told := F_l_told,
    b_l_told := b_l_told,
    m_l_told := PySem.W.mg_of X G a_l_told,
    F_l_value := F_l_value,
    b_l_value := b_l_value,
    m_l_value := PySem.W.mg_of X G a_l_value,
    F_l_term := F_l_term,
    b_l_term := b_l_term,
    m_l_term := PySem.W.mg_of X G a_l_term,
    F_l_make := F_l_make,
    b_l_make := b_l_make,
    m_l_make := PySem.W.mg_of X G a_l_make,
    F_l_less := F_l_less,
    b_l_less := b_l_less,
    m_l_less := PySem.W.mg_of X G a_l_less,
    F_l_row_less := F_l_row_less,
    b_l_row_less := b_l_row_less,
    m_l_row_less := PySem.W.mg_of X G a_l_row_less,
    F_l_cases1 := F_l_cases1,
    b_l_cases1 := b_l_cases1,
    m_l_cases1 := PySem.W.mg_of X G a_l_cases1,
    F_law := F_law,
    b_law := b_law,
    m_law := PySem.W.mg_of X G a_law,
    m_Term := PySem.W.mg_of X G aC_Term,
    cl_Term := ⟨pg_Term, hd_Term, po_Term, sa_Term⟩,
    M_Term := ⟨mk_Term, a_Term_init, i_Term_init, kc_Term⟩,
    n_Term_name := n_Term_name,
    n_Term_value := n_Term_value,
    q_BadSign := PySem.W.mg_of X G q_BadSign,
    q_BadRule := PySem.W.mg_of X G q_BadRule,
    q_BadKind := PySem.W.mg_of X G q_BadKind,
    q_BadLayer := PySem.W.mg_of X G q_BadLayer,
    q_NoSuch := PySem.W.mg_of X G q_NoSuch,
    q_BadDeed := PySem.W.mg_of X G q_BadDeed,
    q_BadGround := PySem.W.mg_of X G q_BadGround,
    q_BadStore := PySem.W.mg_of X G q_BadStore,
    q_Broken := PySem.W.mg_of X G q_Broken,
    q_BadSize := PySem.W.mg_of X G q_BadSize,
    x_NoSuch := x_NoSuch,
    k_NoSuch := k_NoSuch,
    sb_NoSuch := sb_NoSuch,
    ty_NoSuch := ty_NoSuch,
    m_NoSuch_BadSign := m_NoSuch_BadSign,
    m_NoSuch_BadRule := m_NoSuch_BadRule,
    m_NoSuch_BadKind := m_NoSuch_BadKind,
    m_NoSuch_BadLayer := m_NoSuch_BadLayer,
    m_NoSuch_NoSuch := m_NoSuch_NoSuch,
    C_law := ⟨⟨_, _, _, _, _, _, _, _, rfl, l_l_cases1, c_l_cases1⟩⟩,
    H_law := h_law,
    z_abs := PySem.W.mg_none_of X G z_abs,
    z_dict := PySem.W.mg_none_of X G z_dict,
    z_enumerate := PySem.W.mg_none_of X G z_enumerate,
    z_int := PySem.W.mg_none_of X G z_int,
    z_isinstance := PySem.W.mg_none_of X G z_isinstance,
    z_len := PySem.W.mg_none_of X G z_len,
    z_min := PySem.W.mg_none_of X G z_min,
    z_range := PySem.W.mg_none_of X G z_range,
    z_sorted := PySem.W.mg_none_of X G z_sorted,
    z_tuple := PySem.W.mg_none_of X G z_tuple,
    z_zip := PySem.W.mg_none_of X G z_zip }
  refine ⟨A.d_law, [(c_L, P_L)], spD ⟨K, w⟩ [(A.PL, qL)] (Toy.f_law A), fun p hp => ?_, fun p hp => ?_, fun p hp => ?_, fun s v => .of_eq rfl, fun H a ns hl hb hT hS => (let ⟨_, ez⟩ := law_true A ns hl hb; spD_law (K := ⟨K, w⟩) (tabs_one (hT _ List.mem_cons_self)) hS ez), fun base _ _ TB => ok_law (K := ⟨K, w⟩) T (TB _ List.mem_cons_self)⟩
  · cases List.mem_singleton.mp hp
    exact FunC.tab (T.C_law) h_law (OT _ (PySem.W.mg_of X G a_l_cases1))
  · cases List.mem_singleton.mp hp
    exact n_law
  · cases List.mem_singleton.mp hp
    exact PySem.W.codeHd_of_K X h_law
end Toy

open PySem PySem.W PyProof.Rows in
set_option maxRecDepth 100000 in
set_option maxHeartbeats 0 in
theorem PySem.Challenge.cw_deducehall_k01_terms_and_rows_holds : PySem.Challenge.rw_deducehall_k01_terms_and_rows.Holds := by
  w_on; o_law; k_head; (case hw => w_witness2)
  k_fill
  refine LX.walk_at "_law_cases1" (law := PySem.Challenge.rw_deducehall_k01_terms_and_rows) (most := 63) (lv := 10) (arg := "script") (CW := fun w => L2.CX (PySem.Challenge.rw_deducehall_k01_terms_and_rows).prog w) rfl (by decide) rfl ⟨rfl, by decide, by decide⟩ rfl (fun w h Y => (by first | exact PySem.W.km_in_of Y | exact PySem.W.kIn_of Y)) ?F fun w H s e s' z => (by obtain ⟨_, _, _, _, _, _, _, _, _, _, _, _, hE⟩ := z; exact hE.elim)
  case F =>
    intro w mg fa h Y KX G hmg OT
    refine' Toy.all_mk (P_L := 339) KX G hmg OT ?aC_Term ?pg_Term ?hd_Term ?po_Term ?sa_Term ?mk_Term ?kc_Term ?n_Term_name ?n_Term_value ?a_Term_init ?i_Term_init ?l_Term_init ?v_Term_init ?c_Term_init ?k_Term_init ?a_Term_is_variable ?i_Term_is_variable ?l_Term_is_variable ?c_Term_is_variable ?k_Term_is_variable ?a_Term_shown ?i_Term_shown ?l_Term_shown ?c_Term_shown ?k_Term_shown ?a_Term_under ?i_Term_under ?l_Term_under ?c_Term_under ?k_Term_under ?a_Term_known ?i_Term_known ?l_Term_known ?c_Term_known ?k_Term_known ?a_var ?l_var ?c_var ?k_var ?a_val ?l_val ?c_val ?k_val ?a_is_number ?l_is_number ?c_is_number ?k_is_number ?a_value_key ?l_value_key ?c_value_key ?k_value_key ?a_row_key ?l_row_key ?c_row_key ?k_row_key ?a_bound_key ?l_bound_key ?c_bound_key ?k_bound_key ?a_in_order ?l_in_order ?c_in_order ?k_in_order ?a_names_in ?l_names_in ?c_names_in ?k_names_in ?a_filled ?l_filled ?c_filled ?k_filled ?a_matched ?l_matched ?c_matched ?k_matched ?a_pattern ?l_pattern ?c_pattern ?k_pattern ?a_shown_all ?l_shown_all ?c_shown_all ?k_shown_all ?a_renamed ?l_renamed ?c_renamed ?k_renamed ?a_l_dice ?l_l_dice ?c_l_dice ?k_l_dice ?a_l_roll ?l_l_roll ?c_l_roll ?k_l_roll ?a_l_rounds ?l_l_rounds ?c_l_rounds ?k_l_rounds ?a_l_told ?l_l_told ?c_l_told ?k_l_told ?a_l_value ?l_l_value ?c_l_value ?k_l_value ?a_l_term ?l_l_term ?c_l_term ?k_l_term ?a_l_make ?l_l_make ?c_l_make ?k_l_make ?a_l_less ?l_l_less ?c_l_less ?k_l_less ?a_l_row_less ?l_l_row_less ?c_l_row_less ?k_l_row_less ?a_l_cases1 ?l_l_cases1 ?c_l_cases1 ?k_l_cases1 ?a_law ?l_law ?c_law ?k_law ?z_abs ?z_dict ?z_enumerate ?z_int ?z_isinstance ?z_len ?z_min ?z_range ?z_sorted ?z_tuple ?z_zip ?q_BadSign ?q_BadRule ?q_BadKind ?q_BadLayer ?q_NoSuch ?q_BadDeed ?q_BadGround ?q_BadStore ?q_Broken ?q_BadSize ?x_NoSuch ?k_NoSuch ?sb_NoSuch ?ty_NoSuch ?m_NoSuch_BadSign ?m_NoSuch_BadRule ?m_NoSuch_BadKind ?m_NoSuch_BadLayer ?m_NoSuch_NoSuch ?h_law ?n_law
    (case aC_Term => k_is)
    (case pg_Term => k_is)
    (case hd_Term => k_is)
    (case po_Term => k_is)
    (case sa_Term => k_is)
    (case mk_Term => k_is)
    (case kc_Term => k_is)
    (case n_Term_name => k_is)
    (case n_Term_value => k_is)
    (case a_Term_init => k_is)
    (case i_Term_init => k_is)
    (case l_Term_init => k_is)
    (case v_Term_init => exact .inr ⟨List.cons_ne_nil _ _, _, _, _, _, rfl, (by k_is), rfl, (.cons rfl .nil)⟩)
    (case c_Term_init => k_is)
    (case k_Term_init => k_is)
    (case a_Term_is_variable => k_is)
    (case i_Term_is_variable => k_is)
    (case l_Term_is_variable => k_is)
    (case c_Term_is_variable => k_is)
    (case k_Term_is_variable => k_is)
    (case a_Term_shown => k_is)
    (case i_Term_shown => k_is)
    (case l_Term_shown => k_is)
    (case c_Term_shown => k_is)
    (case k_Term_shown => k_is)
    (case a_Term_under => k_is)
    (case i_Term_under => k_is)
    (case l_Term_under => k_is)
    (case c_Term_under => k_is)
    (case k_Term_under => k_is)
    (case a_Term_known => k_is)
    (case i_Term_known => k_is)
    (case l_Term_known => k_is)
    (case c_Term_known => k_is)
    (case k_Term_known => k_is)
    (case a_var => k_is)
    (case l_var => k_is)
    (case c_var => k_is)
    (case k_var => k_is)
    (case a_val => k_is)
    (case l_val => k_is)
    (case c_val => k_is)
    (case k_val => k_is)
    (case a_is_number => k_is)
    (case l_is_number => k_is)
    (case c_is_number => k_is)
    (case k_is_number => k_is)
    (case a_value_key => k_is)
    (case l_value_key => k_is)
    (case c_value_key => k_is)
    (case k_value_key => k_is)
    (case a_row_key => k_is)
    (case l_row_key => k_is)
    (case c_row_key => k_is)
    (case k_row_key => k_is)
    (case a_bound_key => k_is)
    (case l_bound_key => k_is)
    (case c_bound_key => k_is)
    (case k_bound_key => k_is)
    (case a_in_order => k_is)
    (case l_in_order => k_is)
    (case c_in_order => k_is)
    (case k_in_order => k_is)
    (case a_names_in => k_is)
    (case l_names_in => k_is)
    (case c_names_in => k_is)
    (case k_names_in => k_is)
    (case a_filled => k_is)
    (case l_filled => k_is)
    (case c_filled => k_is)
    (case k_filled => k_is)
    (case a_matched => k_is)
    (case l_matched => k_is)
    (case c_matched => k_is)
    (case k_matched => k_is)
    (case a_pattern => k_is)
    (case l_pattern => k_is)
    (case c_pattern => k_is)
    (case k_pattern => k_is)
    (case a_shown_all => k_is)
    (case l_shown_all => k_is)
    (case c_shown_all => k_is)
    (case k_shown_all => k_is)
    (case a_renamed => k_is)
    (case l_renamed => k_is)
    (case c_renamed => k_is)
    (case k_renamed => k_is)
    (case a_l_dice => k_is)
    (case l_l_dice => k_is)
    (case c_l_dice => k_is)
    (case k_l_dice => k_is)
    (case a_l_roll => k_is)
    (case l_l_roll => k_is)
    (case c_l_roll => k_is)
    (case k_l_roll => k_is)
    (case a_l_rounds => k_is)
    (case l_l_rounds => k_is)
    (case c_l_rounds => k_is)
    (case k_l_rounds => k_is)
    (case a_l_told => k_is)
    (case l_l_told => k_is)
    (case c_l_told => k_is)
    (case k_l_told => k_is)
    (case a_l_value => k_is)
    (case l_l_value => k_is)
    (case c_l_value => k_is)
    (case k_l_value => k_is)
    (case a_l_term => k_is)
    (case l_l_term => k_is)
    (case c_l_term => k_is)
    (case k_l_term => k_is)
    (case a_l_make => k_is)
    (case l_l_make => k_is)
    (case c_l_make => k_is)
    (case k_l_make => k_is)
    (case a_l_less => k_is)
    (case l_l_less => k_is)
    (case c_l_less => k_is)
    (case k_l_less => k_is)
    (case a_l_row_less => k_is)
    (case l_l_row_less => k_is)
    (case c_l_row_less => k_is)
    (case k_l_row_less => k_is)
    (case a_l_cases1 => k_is)
    (case l_l_cases1 => k_is)
    (case c_l_cases1 => k_is)
    (case k_l_cases1 => k_is)
    (case a_law => k_is)
    (case l_law => k_is)
    (case c_law => k_is)
    (case k_law => k_is)
    (case z_abs => k_is)
    (case z_dict => k_is)
    (case z_enumerate => k_is)
    (case z_int => k_is)
    (case z_isinstance => k_is)
    (case z_len => k_is)
    (case z_min => k_is)
    (case z_range => k_is)
    (case z_sorted => k_is)
    (case z_tuple => k_is)
    (case z_zip => k_is)
    (case q_BadSign => k_is)
    (case q_BadRule => k_is)
    (case q_BadKind => k_is)
    (case q_BadLayer => k_is)
    (case q_NoSuch => k_is)
    (case q_BadDeed => k_is)
    (case q_BadGround => k_is)
    (case q_BadStore => k_is)
    (case q_Broken => k_is)
    (case q_BadSize => k_is)
    (case x_NoSuch => k_exc)
    (case k_NoSuch => k_is)
    (case sb_NoSuch => k_is)
    (case ty_NoSuch => k_is)
    (case m_NoSuch_BadSign => exact PySem.W.exm_ref (by k_is) (by k_is) (by k_is) (by k_is))
    (case m_NoSuch_BadRule => exact PySem.W.exm_ref (by k_is) (by k_is) (by k_is) (by k_is))
    (case m_NoSuch_BadKind => exact PySem.W.exm_ref (by k_is) (by k_is) (by k_is) (by k_is))
    (case m_NoSuch_BadLayer => exact PySem.W.exm_ref (by k_is) (by k_is) (by k_is) (by k_is))
    (case m_NoSuch_NoSuch => exact PySem.W.exm_ref (by k_is) (by k_is) (by k_is) (by k_is))
    (case h_law => first | kernel_rfl | rfl)
    (case n_law => first | kernel_rfl | rfl)
