import PyProof.Rows.All
import Wide.All
import OpenK.AllK
import Wide.FinOn
import PyProof.EqAt
import PyProof.EqKinds
import PyProof.TupleCall
import PyProof.TupleOfSeq
import KE.KLam
import KE.KDictSum
import HandS.ForMost
import HandS.Defaults
import HandS.Deep
import HandS.Codes
import HandS.Zip
import HandS.Conv
import HandS.Exc
import HandS.ForExc
import HandS.TryOnly
import HandS.TryMany
import HandS.Lambda
import HandS.EndOwn
import HandS.RaiseMore
import HandS.FStr
import HandS.IsInst
import HandS.TupAny
import KE.GoesMore
import HandS.Iter
import HandS.WordsExc
import HandS.WordsList
import HandS.DictComp
import HandS.SetKeys
import KE.DataCmp
import KE.KEqNest
import HandS.Text
import HandS.More
import KE.DataMinMax
import PyProof.Rows.SortShellAny
import HandS.Wide
import HandS.ExcIs
import PySem.Challenge.RW_deducehall_k11_plans_of_a_body
set_option Elab.async false
set_option linter.all false
set_option maxRecDepth 100000
set_option maxHeartbeats 4000000
/-! ## own rules: tuple of a dict, extend by a tuple, sorted of a tuple of words -/
namespace L2
open PySem PySem.Spec PyProof.Rows
section
variable {prog : Program} {w : World} {A : Around} {E : Value → Shared → Prop} {s : Shared} {d : Addr} {n : Nat} {P : Nat → Value → Prop} {OK : Heap → Prop}
theorem code_tuple_new_src {Q₁ : Value → Shared → Prop} (K : PySem.W.KdlSrc prog w "dict" d d n P OK) (hh : A.handled = none) (hok : OK s.heap) (hn : n ≤ sizeLine)
    (h : ∀ (h' : Heap) (tk : Nat) (acc : Array Value), (∀ b o, s.heap.get? b = some o → h'.get? b = some o) → ItemsOf P acc n →
      Q₁ (.ref h'.objs.size) { s with heap := h'.push { cls := .type "tuple", data := .seq acc }, toks := tk }) :
    codeAny (model prog w) A (.call (.builtin "tuple.__new__") ⟨[.type "tuple", .ref d], []⟩) (wants Q₁ E) s := by
  refine codeAny_of_tree ?_
  show wpAny _ A.in1 (do checkBuiltinCall "tuple.__new__" ⟨[.type "tuple", .ref d], []⟩; again (.builtin "tuple.__new__" ⟨[.type "tuple", .ref d], []⟩)) _ _ s
  refine wpAny_bind (wpAny_of_eq (F.newCall_tuple_1 _) (wpAny_pure ⟨plainId_quiet F.plain_tuple_new _, codeAny_builtin F.entry_tuple_new ?_⟩))
  rw [Around.under_plainId F.plain_tuple_new _]
  have hsub := sub_tuple_self
  have hinit := init_tuple_lookup
  have hmh := madeHere_tuple
  have hTI : s.TypeIs (.ref d) "dict" := K.type s hok
  have hh1 : A.in1.handled = none := hh
  wp_walk using wpAny_typeOf hTI, PySem.W.kdu_collect (A := A.in1) K hh1 hok hn
  intro h' tk acc hk hacc
  show wpAny _ _ (Builtin.Tuple.tupleExact acc.toList.toArray >>= fun v => ret v) _ _ _
  unfold Builtin.Tuple.tupleExact
  refine wpAny_bind (wpAny_newObj_type ?_ (by show acc.toList.toArray.size ≤ sizeLine; simp only [Array.toArray_toList]; rw [hacc.1]; exact hn))
  refine wpAny_pure ?_
  have e : acc.toList.toArray = acc := by simp
  rw [e]
  exact h h' tk acc hk hacc
theorem call_tuple_src {Q : Value → Shared → Prop} (K : PySem.W.KdlSrc prog w "dict" d d n P OK) (hh : A.handled = none) (hok : OK s.heap) (hn : n ≤ sizeLine)
    (hQ : ∀ (h' : Heap) (tk : Nat) (acc : Array Value), (∀ b o, s.heap.get? b = some o → h'.get? b = some o) → ItemsOf P acc n →
      Q (.ref h'.objs.size) { s with heap := h'.push { cls := .type "tuple", data := .seq acc }, toks := tk }) :
    wpAny (model prog w) A (call (.type "tuple") [.ref d]) Q E s := by
  refine callType_codes (Q₁ := fun obj s₁ => s₁.TypeIs obj "tuple" ∧ Q obj s₁) F.called_tuple (F.typeCall_tuple_1 _) F.entry_object_init
    (code_tuple_new_src (A := A.in1) K hh hok hn fun h' tk acc hk hacc => ⟨⟨_, Heap.get?_push_size _ rfl, rfl⟩, hQ h' tk acc hk hacc⟩) fun obj s₁ h₁ => ?_
  exact ⟨h₁.1, F.args_object_init_2 obj _, object_init_meets F.called_tuple.init.lookup F.called_tuple.made (by decide) prog w A.in1 _ s₁ ⟨h₁.1, rfl, h₁.2⟩⟩
end
/-- tuple(d), d a dict of ints and words -/
def rTupD : List V → Hp → VK → Prop := fun xs H Q => ∃ p kvs, xs = [.ref p] ∧ H p = some (.dK kvs) ∧ ∀ q, H q = none → Q (.ref q) (upd H q (.tup (kvs.map fun kv => kV kv.1)))
theorem call_tuple_dK {X : Cx} (hc : X.calm = true := by rfl) : CallR X (.type "tuple") rTupD := by
  intro pins s σ H xs us Q I r h
  obtain ⟨p, kvs, e, hk, q⟩ := h
  subst e
  obtain ⟨u, eu, rx⟩ := vals1 r
  subst eu
  obtain rfl : u = Value.ref p := rx
  obtain ⟨z, lo, vs, rk, hd⟩ := (show ObjOk X.prog X.w H s.heap p (.dK kvs) from I.hok p _ hk)
  obtain ⟨ep, hat⟩ := hd.dictAt
  have hl : kvs.length = vs.length := Paired.length rk
  refine call_tuple_src (PySem.W.kdl_dict (knd := mixKind X.prog X.w) (kvs := vs) (ep := ep) lo) (I.ok.hd hc) hat (by rw [← hl]; exact z) fun h' tk acc hkeep hacc => ?_
  have hv : Vals (kvs.map fun kv => kV kv.1) acc.toList := by
    have el : acc.toList.length = acc.size := by simp
    refine vals_of_at (by rw [List.length_map, el, hacc.1, hl]) fun j x w h1 h2 => ?_
    obtain ⟨k, y, hky, hi⟩ := hacc.2 j w (by rw [← Array.getElem?_toList]; exact h2)
    have e1 : (kvs.map (·.1))[j]? = some k := by
      rw [KV.keys rk, List.getElem?_map, hky] <;> rfl
    have e2 : (kvs.map fun kv => kV kv.1)[j]? = some (kV k) := by
      have e3 : (kvs.map fun kv => kV kv.1) = (kvs.map (·.1)).map kV := by rw [List.map_map] <;> rfl
      rw [e3, List.getElem?_map, e1] <;> rfl
    rw [e2] at h1
    cases h1
    exact keyIs_rel hi
  have I1 : Inv X pins σ H { s with heap := h', toks := tk } := I.kept hkeep
  have I2 : Inv X pins σ (upd H h'.objs.size (.tup (kvs.map fun kv => kV kv.1))) { s with heap := h'.push { cls := .type "tuple", data := .seq acc }, toks := tk } :=
    I1.laid (t' := tk) (fun b o e => Heap.get?_push_of_some _ e) (Nat.le_refl _) (show ObjOk X.prog X.w _ _ _ (.tup (kvs.map fun kv => kV kv.1)) from ⟨by rw [List.length_map]; exact z, acc.toList, hv, by rw [Array.toArray_toList]; exact IsTup.new _ _⟩)
  exact ⟨.ref h'.objs.size, _, I2, rfl, q _ (I1.hok.fresh (Nat.le_refl _))⟩
/-- l.extend(t), t a tuple -/
theorem list_extend_tupW (l : Addr) (items : Array Value) (n : Nat) (b : Addr) (items2 : Array Value) (n2 : Nat) (dd : Option Addr) (sl : Array (Option Value)) (hs0 : ¬(!items.isEmpty && Builtin.List.listTooLong (items.size + items2.size)) = true) (hs1 : items.size ≤ sizeLine) (hs2 : items.size + items2.size ≤ sizeLine + 1) :
    Meets (Builtin.«list.extend» ⟨[.ref l, .ref b], []⟩) (fun _ R s => s.heap.get? l = some { cls := .type "list", dict := none, data := .seq items n, slots := #[] } ∧ s.heap.get? b = some { cls := .type "tuple", dict := dd, data := .seq items2 n2, slots := sl } ∧ R (.ok (.ret Value.none)) { s with heap := s.heap.update l (Obj.mapSeq fun x => x ++ items2), toks := s.toks }) :=
  .of_wp fun prog w A R s h => by
    obtain ⟨hp, g, d, tk, os⟩ := s; obtain ⟨hl, hb, h⟩ := h; have f1 := AutoSeq1.idx_int; have f2 := AutoSeq1.sub_tuple_tuple; have f3 := AutoSeq1.sub_list_list; have f4 := AutoSeq1.sub_tuple_list; have f5 := AutoSeq1.sub_list_tuple;
    have hz' : (items ++ items2).size ≤ sizeLine + 1 := by rw [Array.size_append]; exact hs2
    wp_walk using (wpAny_updateSeq hl rfl (hz := hs1) (_hz' := hz')), AutoSeq1.wpAny_loadPart' hl, AutoSeq1.wpAny_loadPart' hb; exact ⟨_, rfl, h⟩
def rExtT (K : PySem.W.Frag) : V → List V → Hp → VK → Prop := fun x vs H Q => ∃ l b xs zs, x = .ref l ∧ vs = [.ref b] ∧ H l = some (.lst xs) ∧ SqT K H b zs ∧ xs.length + zs.length ≤ sizeLine ∧ Q .non (upd H l (.lst (xs ++ zs)))
theorem mt_extendT {X : Cx} (K : PySem.W.Frag) (hK : X.K = K := by rfl) : MtM X "list.extend" (rExtT K) := by
  subst hK
  intro pins s σ H x vs v us Q I rx rv h
  obtain ⟨l, b, xs, zs, rfl, rfl, hH, hB, hz, q⟩ := h
  cases rx
  obtain ⟨u, rfl, ru⟩ := rv.one
  cases ru
  obtain ⟨z, its, n, r, hl, e⟩ := I.lstM hH
  obtain ⟨its2, r2, ⟨⟨oc, od, dt, sl⟩, e2, c2, n2, d2⟩, hz2⟩ := I.tuple hB
  simp only at c2 d2
  subst c2 d2
  have hl2 := r2.length
  have hsz : its.toArray.size + its2.toArray.size ≤ sizeLine := by rw [List.size_toArray, List.size_toArray]; omega
  have hlong : ¬ (!its.toArray.isEmpty && Builtin.List.listTooLong (its.toArray.size + its2.toArray.size)) = true := by
    rw [notLongL hsz, Bool.and_false]
    exact Bool.false_ne_true
  refine call_meets PySem.F.slot_list_extend ⟨_, e, rfl⟩ PySem.F.entry_list_extend (PySem.F.args_list_extend_2 _ _)
    (list_extend_tupW l its.toArray n b its2.toArray n2 od sl hlong (by rw [List.size_toArray]; omega) (by omega)) ⟨e, e2, ?_⟩
  refine ⟨.non, _, I.lset (its' := its ++ its2) hH e (by simp) (r.append r2) ?_, rfl, q⟩
  rw [List.length_append]
  omega
/-! sorted(t), t a tuple of words -/
section
variable {prog : Program} {w : World} {A : Around} {E : Value → Shared → Prop} {s : Shared}
theorem sorted_tup_strs {l : Addr} {vs : List Value} {ss : List Str} {Q : Value → Shared → Prop} (hl : IsTup s.heap l vs.toArray) (hS : StrsAre vs ss) (h64 : vs.length < 64)
    (h : ∀ (h1 h' : Heap) (out : Array Value) (ss' : List Str) (ep : Nat), (∀ b o', s.heap.get? b = some o' → h1.get? b = some o') → (∀ b o', h1.get? b = some o' → h'.get? b = some o') → h'.get? h1.objs.size = some (seqObj "list" out ep) → StrsAre out.toList ss' → ss'.Perm ss → sortedS ss' = true → Q (.ref h1.objs.size) { s with heap := h' }) :
    wpAny (model prog w) A (call (.builtin "sorted") [.ref l]) Q E s := by
  obtain ⟨o, ho, hc, n, hd⟩ := hl
  refine Calls.call_function_entry kind_sorted plain_sorted entry_sorted (args_sorted1 _) ?_
  unfold Builtin.«sorted»
  refine wpAny_bind (m := checkCount "sorted" 1 1 _) (wpAny_pure ?_)
  refine wpAny_bind (wpAny_collect_seq l (.inr rfl) ho hc hd (fun h1 kp => ?_) (by rw [List.size_toArray, sizeLine_eq]; omega))
  rw [List.toList_toArray]
  refine wpAny_bind (wpAny_newList ?_)
  have hoL : (h1.push (seqObj "list" vs.toArray 0)).get? h1.objs.size = some (seqObj "list" vs.toArray 0) := Heap.get?_push_size _ rfl
  refine wpAny_bind (wpAny_holding (wpAny_call_entry slot_list_sort ⟨_, hoL, rfl⟩ entry_list_sort (list_sort_treeK strKind_oneLt hoL hS.keysOf (fun v₁ v₂ rest e => keyKind_strs (by rw [← e]; exact hS)) h64 fun st' hp hs => ⟨_, rfl, ?_⟩) (args_list_sort _)))
  obtain ⟨ss', a1, a2, a3⟩ := sorted_out_str hS hp hs
  obtain ⟨ep, he⟩ := sortedHeap_at (vs := vs) (out := (arrOf st').map (·.2)) hoL
  refine wpAny_pure ⟨_, rfl, h h1 _ _ ss' ep kp (fun b o' e => ?_) he a1 a2 a3⟩
  have lt := Heap.lt_size e
  rw [sortedHeap_old (Nat.ne_of_lt lt) (by rw [size_push']; exact Nat.lt_succ_of_lt lt)]
  exact Heap.get?_push_of_some _ e
end
def rSortedT (K : PySem.W.Frag) : List V → Hp → VK → Prop := fun vs H Q => ∃ (a : Addr) (xs : List Str), vs = [V.ref a] ∧ SqT K H a (xs.map V.str) ∧ xs.length < 64 ∧
  ∀ (ys : List Str) (p : Addr), ys.Perm xs → sortedS ys = true → H p = none → Q (.ref p) (upd H p (.lst (ys.map V.str)))
theorem cr_sortedT {X : Cx} (K : PySem.W.Frag) (hK : X.K = K := by rfl) : CallR X (.builtin "sorted") (rSortedT K) := by
  subst hK
  intro pins s σ H vs us Q I r h
  obtain ⟨a, xs, rfl, hs, h64, q⟩ := h
  obtain ⟨its, rv, hl, _⟩ := I.tuple hs
  rw [Vals.ref1 r]
  have hlen0 := rv.length
  rw [List.length_map] at hlen0
  refine sorted_tup_strs hl rv.strs (by rw [← hlen0]; exact h64) fun h1 h' out ys ep kp kp2 he h1' h2 h3 => ?_
  have hlen : (ys.map V.str).length ≤ sizeLine := by rw [List.length_map, h2.length_eq]; exact small64 h64
  have I1 : Inv X pins σ H { s with heap := h1 } := I.kept (t' := s.toks) kp
  exact ⟨.ref _, upd H h1.objs.size (.lst (ys.map V.str)), I1.laid (t' := s.toks) kp2 (Nat.le_refl _) ⟨hlen, out.toList, ep, vals_of_strs h1', he⟩, rfl, q ys _ h2 h3 (I1.hok.fresh (Nat.le_refl _))⟩
end L2

set_option Elab.async false
set_option linter.all false
set_option maxRecDepth 100000
set_option maxHeartbeats 4000000
/-! ## own rules: a lambda of one parameter held in a name; told with many excepts; a def whose code's table is known -/
namespace LamX
open PySem PySem.Spec PyProof.Rows L2
/-- a lambda without captured names stands at f -/
def LamO (f : Addr) (q : Str) (params : Arguments) (body : Expr) (scope : Scope) (c' : Addr) : HO := .ext fun h => ∃ pm ctv, h.get? f = some (PySem.W.kla_obj "<lambda>" q params body scope [] pm c' ctv)
theorem lamO_ok {P : Program} {w : World} {H : Hp} {h : Heap} {f c' : Addr} {q : Str} {params : Arguments} {body : Expr} {scope : Scope} {pm ctv : Value} (e : h.get? f = some (PySem.W.kla_obj "<lambda>" q params body scope [] pm c' ctv)) : ObjOk P w H h f (LamO f q params body scope c') :=
  ⟨⟨pm, ctv, e⟩, ⟨_, e⟩, fun h1 h2 ⟨pm, ctv, e1⟩ st => ⟨pm, ctv, st _ e1⟩⟩
section
variable {X : Cx} {pins : List (Addr × Obj)} {σ : L2.St} {H : Hp} {s : Shared}
theorem lam_makeO {T : List (Addr × Str)} {c P : Addr} {params : Arguments} {body : Expr} {scope : Scope} {pos : Pos} {E : Value → Shared → Prop} {Q : Value → Shared → Prop} (I : Inv X pins σ H s) (TB : TabB X.base X.mg c P) (hcode : X.env.code = .ref c)
    (hm : (P, X.env.qual ++ "<lambda>") ∈ T) (hu : ∀ p ∈ T, p.1 = P → p.2 = X.env.qual ++ "<lambda>") (hT : Tabs T H) (hdef : defaultsOf params X.env = ([], [])) (hfree : ∀ y ∈ scope.names, y.2 = .free → ∃ c, X.env.cells.lookup y.1 = some c) (hcl : cloFrom X.env.cells scope.names [] = [])
    (h : ∀ (f c' : Addr) (H1 : Hp) (s' : Shared), Inv X pins σ (upd H1 f (LamO f (X.env.qual ++ "<lambda>") params body scope c')) s' → ExtN H H1 → Tabs T H1 → H1 f = none → H1 c' = some (CodeO c' (X.env.qual ++ "<lambda>")) → Q (.ref f) s') :
    wpAny (model X.prog X.w) X.A (eval (.Lambda params body scope pos) X.env) Q E s := by
  obtain ⟨ps, hP, ht, ha⟩ := hT _ hm
  refine PySem.W.kla_eval hdef ?_
  have bP : s.heap.BuiltinsAt X.mg P := TB.bm.keeps I.bk
  have hP' : s.heap.get? P = some { cls := .none, data := .fields ps } := I.hok P _ hP
  cases hc : codeAmong pos ps.toList with
  | none =>
    refine PySem.W.kla_makeFunction (mg := X.mg) (c := c) (P := P) (ps := ps) (closure_ok hfree) I.ok.glob (I.mod.glob.keeps I.bk) hcode (TB.code.keeps I.bk) hP' ht hc TB.gP bP fun c' ctv h' tk hx hge hlt hrec htb => ?_
    obtain ⟨c2, oc, vs, t, e2, hoc, hd, hv⟩ := hrec
    cases e2
    have nC : H c' = none := I.hok.fresh hge
    have I1 := inv_table (t' := tk) (more := #[rawInt pos.line, rawInt pos.col, .ref c']) (h' := h') I hP hx htb hge ⟨oc, vs, t, hoc, hd, hv⟩
    have hE : ExtN H (upd (upd H P (.tbl (ps ++ #[rawInt pos.line, rawInt pos.col, .ref c']))) c' (CodeO c' (X.env.qual ++ "<lambda>"))) := fun b o e n => by
      rw [upd_ne (ne_of_none e nC), upd_ne (fun z => n ps (Option.some.inj (e.symm.trans (by rw [z]; exact hP))))]
      exact e
    have eL : (ps ++ #[rawInt pos.line, rawInt pos.col, .ref c']).toList = ps.toList ++ [rawInt pos.line, rawInt pos.col, .ref c'] := by simp
    rw [hcl]
    refine h h'.objs.size c' _ _ (I1.laid (t' := tk) (fun b o e => Heap.get?_push_of_some _ e) (Nat.le_refl _) (lamO_ok (Heap.get?_push_size _ rfl))) hE (fun p hp => ?_) (I1.hok.fresh (Nat.le_refl _)) upd_same
    by_cases hb : p.1 = P
    · rw [hu p hp hb, hb]
      refine ⟨_, by rw [upd_ne (ne_of_none hP nC), upd_same], by rw [eL]; exact PySem.TriplesOk_snoc _ _ _ _ ht, fun p' cv hcv => ?_⟩
      rw [eL] at hcv
      rcases among_app _ ht hcv with z | z
      · obtain ⟨c0, e1, e2⟩ := ha p' cv z
        exact ⟨c0, e1, hE _ _ e2 codeO_ne⟩
      · exact ⟨c', z, upd_same⟩
    · obtain ⟨ps', a1, a2, a3⟩ := hT p hp
      refine ⟨ps', by rw [upd_ne (ne_of_none a1 nC), upd_ne hb]; exact a1, a2, fun p' cv hcv => ?_⟩
      obtain ⟨c0, e1, e2⟩ := a3 p' cv hcv
      exact ⟨c0, e1, hE _ _ e2 codeO_ne⟩
  | some cv =>
    obtain ⟨c', e, hco⟩ := ha pos cv hc
    subst e
    refine PySem.W.kla_makeFunctionHit (mg := X.mg) (c := c) (P := P) (ps := ps) (closure_ok hfree) I.ok.glob (I.mod.glob.keeps I.bk) hcode (TB.code.keeps I.bk) hP' ht hc bP fun ctv h' tk hx hsz => ?_
    have I1 : Inv X pins σ H { s with heap := h', toks := tk } := I.kept hx
    rw [hcl]
    exact h h'.objs.size c' H _ (I1.laid (t' := tk) (fun b o e => Heap.get?_push_of_some _ e) (Nat.le_refl _) (lamO_ok (Heap.get?_push_size _ rfl))) (ExtN.refl H) hT (I1.hok.fresh (Nat.le_refl _)) hco
end
def tLamD (T : List (Addr × Str)) (q : Str) (params : Arguments) (body : Expr) (scope : Scope) : TE := fun _ H Q => Tabs T H ∧ ∀ f c' H1, ExtN H H1 → Tabs T H1 → H1 c' = some (CodeO c' q) → H1 f = none → Q (.ref f) (upd H1 f (LamO f q params body scope c'))
/-- lambda x: e, without captured names, as a value -/
theorem pe_lamdef {X : Cx} {T : List (Addr × Str)} {c P : Addr} {params : Arguments} {body : Expr} {scope : Scope} {pos : Pos} (TB : TabB X.base X.mg c P) (hcode : X.env.code = .ref c)
    (hm : (P, X.env.qual ++ "<lambda>") ∈ T) (hu : ∀ p ∈ T, p.1 = P → p.2 = X.env.qual ++ "<lambda>") (hdef : defaultsOf params X.env = ([], [])) (hfree : ∀ y ∈ scope.names, y.2 ≠ .free) (hcl : cloFrom X.env.cells scope.names [] = [] := by rfl) :
    PE X (.Lambda params body scope pos) (tLamD T (X.env.qual ++ "<lambda>") params body scope) := by
  refine ⟨fun pins s σ H Q I h => ?_⟩
  obtain ⟨hT, h⟩ := h
  exact lam_makeO I TB hcode hm hu hT hdef (fun y hy e => absurd e (hfree y hy)) hcl fun f c' H1 s' I1 eN T1 hf hco => ⟨.ref f, _, I1, rfl, h f c' H1 eN T1 hco hf⟩
/-- the lambda is called -/
theorem run_lam {P : Program} {w : World} {K : PySem.W.Frag} {mg : Str → Option Value} {base : Heap} {k : Nat} {f c' : Addr} {q : Str} {params : Arguments} {body : Expr} {scope : Scope} {N ps : List Str} {tb : TE} (S : FnScope N ps scope)
    {A : Around} {outer : List Env} {s : Shared} {H : Hp} {us : List Value} {vs : List V} {Q : VK} (hr : Room (k + 1) A) (e0 : Env0 P w K mg base A outer s H) (hf : H f = some (LamO f q params body scope c')) (hc : H c' = some (CodeO c' q))
    (hb : ∀ pm cv ctv, bindArgs (PySem.W.kla_fn "<lambda>" q params body scope [] pm cv ctv) ⟨us, []⟩ = pure (ps.zip us)) (r : Vals vs us) (hl : vs.length = ps.length)
    (hbody : Room k (A.deeper (envOfC q scope s.heap.objs.size f (.ref c'))) → PE (cxOf C8.CX0 P w K mg base N q scope f (.ref c') A outer s H C8.E0) body tb) (ht : tb (L2.start N vs) H Q) :
    codeAny (model P w) A (.call (.ref f) ⟨us, []⟩) (CR C8.CX0 outer P w H s Q C8.E0) s := by
  have lim : s.heap.NoLimit := e0.mod.nolimit.keeps fun b o e => (e0.bs b o e).1
  have hkind : ∀ y ∈ ps.zip us, scope.names.lookup y.1 = some .local ∨ (scope.names.lookup y.1 = some .cell ∧ ((cellsFrom (s.heap.objs.size + 1) scope.names []).lookup y.1).isSome = true) := fun ⟨n, v⟩ hy => by
    rcases S.par n (List.of_mem_zip hy).1 with q | q
    · exact .inl q
    · exact .inr ⟨q, PySem.W.cellsFrom_some _ _ _ (.inl q)⟩
  obtain ⟨⟨pm, ctv, of⟩, _, _⟩ := e0.hok f _ hf
  obtain ⟨⟨oc, xs, t, hoc, hdc, hvc⟩, _, _⟩ := e0.hok c' _ hc
  refine PySem.W.kla_callFunE hr.depth of rfl S.co S.gen rfl ⟨c', oc, xs, t, rfl, hoc, hdc, hvc⟩ ?_
  rw [hb]
  refine wpAny_pure (wpAny_newFunctionEnv_cells S.kind hkind fun env he s1 x => ?_)
  subst he
  refine ⟨lim.keeps x.toInCall.keep, PySem.W.kla_codeExpr ?_⟩
  have I : Inv (cxOf C8.CX0 P w K mg base N q scope f (.ref c') A outer s H C8.E0) [] (L2.start N vs) H s1 := inv_start S hr.hd e0 hl r x
  refine wpAny_mono ((hbody (hr.deeper _)).run [] s1 (L2.start N vs) H Q I ht) (fun v s' hs => ?_) fun e s' hs => hs
  obtain ⟨w', H', J, rv, q⟩ := hs
  exact ⟨w', H', J.os, J.bare, J.base, J.hok, rv, q⟩
def tLam1 (i : Nat) (N : List Str) (q : Str) (params : Arguments) (body : Expr) (scope : Scope) (t : TA) (tb : TE) : TE := fun σ H Q => ∃ f c', σ[i]? = some (some (.ref f)) ∧ H f = some (LamO f q params body scope c') ∧
  t σ H fun vs H1 => vs.length = 1 ∧ H1 f = some (LamO f q params body scope c') ∧ H1 c' = some (CodeO c' q) ∧ tb (L2.start N vs) H1 Q
/-- x(e), x a name that holds such a lambda -/
theorem pe_lam1 {X : Cx} {k i : Nat} {x a q : Str} {params : Arguments} {body : Expr} {scope : Scope} {N : List Str} {tb : TE} {t : TA} {e : Expr} {p pos : Pos} (S : FnScope N [a] scope) (hr : Room (k + 1) X.A)
    (hb : ∀ pm cv ctv u, bindArgs (PySem.W.kla_fn "<lambda>" q params body scope [] pm cv ctv) ⟨[u], []⟩ = pure [(a, u)])
    (hbody : ∀ (A : Around) (outer : List Env) (s : Shared) (H : Hp) (f c' : Addr), Room k (A.deeper (envOfC q scope s.heap.objs.size f (.ref c'))) → PE (cxOf C8.CX0 X.prog X.w X.K X.mg X.base N q scope f (.ref c') A outer s H C8.E0) body tb)
    (hN : X.N[i]? = some x) (hv : Vis X.env.scope x) (ha : PA X [e] t) (hdb : (x == ("__debug__" : Str)) = false := by decide) (hcd : (x == ("__classdict__" : Str)) = false := by decide)
    (he : starEach [e] X.env = (false, eval e X.env) :: starEach [] X.env := by rfl) :
    PE X (.Call (.Name x p) [e] [] pos) (tLam1 i N q params body scope t tb) := by
  refine ⟨fun pins s σ H Q I h => ?_⟩
  obtain ⟨f, c', hs, hf, ht⟩ := h
  refine wpAny_Call_Name_kw (thn ((pe_var (pos := p) hN hv hdb hcd).run pins s σ H (fun v H1 => v = .ref f ∧ H1 = H) I ⟨.ref f, hs, rfl, rfl⟩) fun u s1 ⟨v, H1, I1, r1, q1⟩ => ?_)
  obtain ⟨rfl, rfl⟩ := q1
  obtain rfl : u = Value.ref f := r1
  obtain ⟨⟨pm, ctv, of⟩, _, _⟩ := I1.hok f _ hf
  have FA : PySem.W.FnAt f s1.heap := ⟨_, _, _, _, of⟩
  refine PySem.W.callWith_F (pos := pos) (env := X.env) (e := e) (rest := []) (first := []) FA (thn (ha.run pos pins s1 σ _ _ I1 ht) fun us s2 ⟨vs, H2, I2, r, hl, hf2, hc2, hq⟩ => ?_) he (by rfl)
  obtain ⟨⟨pm2, ctv2, of2⟩, _, _⟩ := I2.hok f _ hf2
  refine ⟨⟨_, _, _, _, of2⟩, ?_⟩
  have hlen := r.length
  obtain ⟨y, rfl⟩ : ∃ y, us = [y] := by
    match us, hlen with
    | [y], _ => exact ⟨y, rfl⟩
    | [], z =>
      rw [hl] at z
      cases z
    | _ :: _ :: _, z =>
      rw [hl] at z
      simp at z
  refine wpAny_call (codeAny_mono (run_lam (ps := [a]) S hr I2.env0 hf2 hc2 (fun pm cv ctv => hb pm cv ctv y) r hl (fun hr' => hbody _ _ _ _ f c' hr') hq) fun r' s' hq' => ?_)
  cases r' with
  | error e => exact (show False from hq').elim
  | ok fl =>
    cases fl with
    | ret u => exact I2.after hq'
    | next => exact False.elim hq'
    | brk => exact False.elim hq'
    | cont => exact False.elim hq'
/-! ### told: try: return a() / except x1: return r1 / .. -/
def wTold (K : PySem.W.Frag) (Q : VK) : List (Value × Str) → Value → Hp → Prop
  | [], _, _ => False
  | (c, r) :: l, cls, H => ∃ b, PySem.W.exmOne K cls c = some b ∧ (b = true → Q (.str r) H) ∧ (b = false → wTold K Q l cls H)
def TTm (K : PySem.W.Frag) (l : List (Value × Str)) : (XK → Hp → VK → Prop) → Hp → VK → Prop := fun tl H Q => tl (fun cls _ H' => wTold K Q l cls H') H Q
abbrev retsOf (l : List (Value × Str)) : List (Value × (Addr → Value → Option Addr → TS)) := l.map fun q => (q.1, fun _ _ _ => tRet (tC (.str q.2)))
theorem many_of {K : PySem.W.Frag} {D : Ends} {cls : Value} {d : Option Addr} {σ : L2.St} {H : Hp} : ∀ {l : List (Value × Str)}, wTold K D.rt l cls H → wMany K (fun _ _ _ _ => False) D (retsOf l) cls d σ H
  | [], h => h
  | (c, r) :: l, ⟨b, e, h1, h2⟩ => ⟨b, e, fun hb a _ => h1 hb, fun hb => many_of (h2 hb)⟩
theorem told_givesM {X : Cx} {Ng : List Str} {x a q : Str} {sg : Scope} {g : Addr} {cdg : Value} {h0 : ExceptHandler} {hds : List ExceptHandler} {l : List (Value × Str)} {p1 p2 p3 p8 : Pos} (h0' : ∀ f : Addr, (L2.start Ng [V.ref f])[0]? = some (some (V.ref f)))
    (hh : ∀ s H, HdsOk (cxOf C8.CX0 X.prog X.w X.K X.mg X.base Ng x sg g cdg X.A X.stack s H C8.E0).nox (h0 :: hds) (retsOf l)) :
    GivesTo X Ng x sg g cdg [.Try [.Return (some (.Call (.Name a p1) [] [] p2)) p3] (h0 :: hds) [] [] p8] a q (TTm X.K l) := by
  intro f c' s H Q tl act hc h
  refine ⟨_, pss_one (ps_try_many (X := (cxOf C8.CX0 X.prog X.w X.K X.mg X.base Ng x sg g cdg X.A X.stack s H C8.E0).nox) (Wout := fun _ _ _ _ => False)
      (tb := fun W D σ H => ∃ Ech : XK, (∀ cls d σ' H', Ech cls d H' → W cls d σ' H') ∧ σ[0]? = some (some (.ref f)) ∧ H c' = some (CodeO c' q) ∧ tl Ech H D.rt)
      rfl rfl takes0 (fun W pn xe tk _ => ?_) (hh s H)), ?_⟩
  · refine ⟨fun pins s' σ H' D I h' => ?_⟩
    obtain ⟨Ech, hW, h1, h2, h3⟩ := h'
    have hp := act W pn xe Ech p1 p2 tk hW
    have hq := pss_one (ps_ret (pos := p3) hp)
    exact hq.run pins s' σ H' D I ⟨h1, h2, h3⟩
  · exact ⟨fun cls _ H' => wTold X.K Q l cls H', fun cls d σ' H' hw => many_of hw, h0' f, hc, h⟩
end LamX

set_option Elab.async false
set_option linter.all false
set_option maxRecDepth 100000
set_option maxHeartbeats 4000000
/-! ## own rules: enumerate of a tuple -/
namespace L2
open PySem PySem.Spec PyProof.Rows
open AutoSeq1 (wpAny_loadPart')
theorem meets_enumerate_newT (l : Addr) (items : Array Value) (n : Nat) (dct : Option Addr) (sl : Array (Option Value)) :
    Meets (Builtin.«enumerate.__new__» ⟨[.type "enumerate", .ref l], []⟩) (fun _ R s => s.heap.get? l = some { cls := .type "tuple", dict := dct, data := .seq items n, slots := sl } ∧
      R (.ok (.ret (.ref (s.heap.push { cls := .type "tuple_iterator", data := .fields #[.ref l, .int 0 0] }).objs.size)))
        { s with heap := (s.heap.push { cls := .type "tuple_iterator", data := .fields #[.ref l, .int 0 0] }).push { cls := .type "enumerate", data := .fields #[.none, .bool false, .ref s.heap.objs.size, rawInt 0, .none, .none] } }) :=
  .of_wp fun prog w A R s h => by
    obtain ⟨hp, g, d, tk, os⟩ := s; obtain ⟨hl, h⟩ := h
    have hsub := sub_enumerate
    have hL : Heap.IsTuple (Shared.heap ⟨hp, g, d, tk, os⟩) l items := ⟨_, hl, rfl, n, rfl⟩
    wp_walk using wpAny_loadPart' hl
    refine wpAny_stack_any fun st => wpAny_pure ?_
    split
    · rename_i c _ _ _ _ _
      cases (c == Value.type "enumerate")
      · wp_walk using wpAny_loadPart' hl, wpAny_pyIter_tuple hL
        exact ⟨_, rfl, h⟩
      · wp_walk using wpAny_loadPart' hl, wpAny_pyIter_tuple hL
        exact ⟨_, rfl, h⟩
    · wp_walk using wpAny_loadPart' hl, wpAny_pyIter_tuple hL
      exact ⟨_, rfl, h⟩
section
variable {prog : Program} {w : World} {A : Around} {E : Value → Shared → Prop} {s : Shared}
theorem call_enumerate_tuple {l : Addr} {items : Array Value} {Q : Value → Shared → Prop} (hL : s.heap.IsTuple l items)
    (h : ∀ h', IsEnum h' (s.heap.objs.size + 1) s.heap.objs.size 0 .none → h'.IsTupleIter s.heap.objs.size l 0 → h'.objs.size = s.heap.objs.size + 2 →
      (∀ b o, s.heap.get? b = some o → h'.get? b = some o) → Q (.ref (s.heap.objs.size + 1)) { s with heap := h' }) :
    wpAny (model prog w) A (call (.type "enumerate") [.ref l]) Q E s := by
  obtain ⟨⟨c, dct, dt, sl⟩, hl, hc, n, hd⟩ := hL
  replace hc : c = .type "tuple" := hc
  replace hd : dt = .seq items n := hd
  subst hc hd
  refine callType_new F.called_enumerate (by decide) (F.typeCall_enumerate_1 _) (F.newCall_enumerate_1 _) (fun obj => F.args_object_init_2 obj _) F.entry_enumerate_new
    (meets_enumerate_newT l items n dct sl) ⟨hl, ?_⟩
  have hz : (s.heap.push { cls := .type "tuple_iterator", data := .fields #[.ref l, .int 0 0] }).objs.size = s.heap.objs.size + 1 := Heap.size_push ..
  show _ ∧ _
  rw [hz]
  have he : IsEnum ((s.heap.push { cls := .type "tuple_iterator", data := .fields #[.ref l, .int 0 0] }).push
      { cls := .type "enumerate", data := .fields #[.none, .bool false, .ref s.heap.objs.size, rawInt 0, .none, .none] }) (s.heap.objs.size + 1) s.heap.objs.size 0 .none := by
    have := Heap.get?_push_size (s.heap.push { cls := .type "tuple_iterator", data := .fields #[.ref l, .int 0 0] })
      (o := { cls := .type "enumerate", data := .fields #[.none, .bool false, .ref s.heap.objs.size, rawInt 0, .none, .none] }) rfl
    rw [hz] at this; exact this
  refine ⟨⟨_, he, rfl⟩, h _ he ⟨_, Heap.get?_push_of_some _ (Heap.get?_push_size _ rfl), rfl, rfl⟩ (by rw [Heap.size_push, hz]) fun b o x => Heap.get?_push_of_some _ (Heap.get?_push_of_some _ x)⟩
end
/-- the tuple at a, each item in a new pair -/
def IteT (K : PySem.W.Frag) (a : Addr) : It :=
  ⟨fun i H => ∃ (xs : List V) (x : V), SqT K H a xs ∧ xs[i]? = some x, fun i H v H' => ∃ T x, v = .ref T ∧ H T = none ∧ H' = upd H T (.tup [.int (i : Nat), x]) ∧ ∀ xs, SqT K H a xs → xs[i]? = some x, fun i H => ∃ xs : List V, SqT K H a xs ∧ xs.length ≤ i⟩
theorem tup_apart {h : Heap} {a it : Addr} {i : Nat} {items : Array Value} (p : h.IsTuple a items) (q : h.IsTupleIter it a i) : a ≠ it := fun z => by
  obtain ⟨o, e1, c1, _⟩ := p
  obtain ⟨o2, e2, c2, _⟩ := q
  rw [z, e2] at e1
  cases e1
  rw [c2] at c1
  exact absurd (Value.type.inj c1) (by decide)
theorem next_enum_endT {prog : Program} {w : World} {A : Around} {E : Value → Shared → Prop} {s : Shared} {e it l : Addr} {i : Nat} {items : Array Value} {old : Value} {Q : Option Value → Shared → Prop} (hh : A.handled = none)
    (he : IsEnum s.heap e it i old) (hit : s.heap.IsTupleIter it l i) (hl : s.heap.IsTuple l items) (hx : items[i]? = none)
    (hQ : ∀ h', Heap.ExtBut it s.heap h' → Q none { s with heap := h' }) : wpAny (model prog w) A (pyNext (.ref e)) Q E s := by
  have hT : s.TypeIs (.ref e) "enumerate" := ⟨_, he, rfl⟩
  unfold pyNext
  refine wpAny_bind (wpAny_attempt (wpAny_callSpecial?_slot (name := Str.ofString "__next__") hT F.slot_enumerate_next
    (wpAny_call_entry F.slot_enumerate_next hT F.entry_enumerate_next ?_ (F.args_enumerate_next_1 _))))
  show wpAny _ _ (field (.ref e) 2 >>= _) _ _ _
  refine wpAny_bind (wpAny_field he rfl (x := .ref it) rfl ?_)
  refine wpAny_bind (wpAny_nextOf_tuple_end hh hit hl hx fun h' x he' hx' => ?_)
  obtain ⟨o, ho, hc⟩ := hx'
  refine wpAny_bind (wpAny_isInstance (T := "StopIteration") (b := true) ⟨o, ho, hc⟩ isSubtype_stop ?_)
  exact wpAny_pure (hQ _ he')
theorem turn_enumT {P : Program} {w : World} {K : PySem.W.Frag} {elts : List Expr} {kk : Nat} {tpos : Pos} (a e it : Addr) :
    Turn P w K (.Tuple elts kk tpos) (IteT K a) [e, it] e (fun i h => (∃ old, IsEnum h e it ((i : Nat) : Int) old) ∧ h.IsTupleIter it a i ∧ e ≠ it) where
  mem := by simp
  obj := fun i h st b hb => by
    obtain ⟨⟨old, he⟩, ⟨o, ho, hc, hd⟩, _⟩ := st
    have e' : b = e ∨ b = it := by simpa using hb
    rcases e' with z | z
    · rw [z]; exact ⟨_, he, fun v q => nomatch q⟩
    · rw [z]; exact ⟨o, ho, fun v q => by rw [hd] at q; cases q⟩
  keep := fun i h h' st k => let ⟨⟨old, he⟩, ⟨o, ho, r⟩, hne⟩ := st; ⟨⟨old, k e (by simp) _ he⟩, ⟨o, k it (by simp) o ho, r⟩, hne⟩
  item := by
    intro X hP hw hK hc i pins s σ H E I hf st hg
    subst hP hw hK
    obtain ⟨⟨old, he⟩, hit, hne⟩ := st
    obtain ⟨xs, x, hq, hx⟩ := hg
    obtain ⟨its, rv, p, hz⟩ := I.tuple hq
    obtain ⟨u, hu, ru⟩ := rv.get hx
    have hel : e < s.heap.objs.size := Heap.lt_size he
    have hil : it < s.heap.objs.size := by obtain ⟨_, q, _⟩ := hit; exact Heap.lt_size q
    have hlt : i < its.toArray.size := by
      rcases Nat.lt_or_ge i its.length with z | z
      · simpa using z
      · rw [List.getElem?_eq_none z] at hu
        cases hu
    have hai := tup_apart p hit
    have hae : e ≠ a := fun z => by
      obtain ⟨o, e1, c1, _⟩ := p
      have he1 : s.heap.get? e = some _ := he
      rw [← z, he1] at e1
      cases e1
      exact absurd (Value.type.inj c1) (by decide)
    have D := Draws.tuple (prog := X.prog) (w := X.w) (A := X.A.in1) (I.ok.hd hc) it a hai its.toArray
    have hef : e ∉ [it, a] := by
      simp only [List.mem_cons, List.not_mem_nil, or_false, not_or]
      exact ⟨hne, hae⟩
    refine wpAny_pyNext_enum_itemD D he (by exact ⟨hit, p⟩) hlt hne hef fun y h' tk hy ho hst' hT hsz hk => ?_
    have ey : y = u := by
      have e1 : its.toArray[i]? = some u := by simpa using hu
      rw [e1] at hy
      exact (Option.some.inj hy).symm
    subst ey
    refine ⟨_, rfl, wpAny_letOwnedTupleGo_enum (s := { s with heap := h', toks := tk + 1 }) ho fun h'' he' sb => ?_⟩
    have hT2 : h''.get? s.heap.objs.size = some { cls := .type "tuple", data := .seq #[.int i tk, y] } := (sb.2 _ (Nat.ne_of_gt hel)).trans hT
    have new : ObjOk X.prog X.w (upd H s.heap.objs.size (.tup [.int (i : Nat), x])) h'' s.heap.objs.size (.tup [.int (i : Nat), x]) :=
      ⟨by show 2 ≤ sizeLine; decide, [.int i tk, y], .cons ⟨_, rfl⟩ (.cons ru .nil), ⟨_, hT2, rfl, _, rfl⟩⟩
    have I1 : Inv X pins σ (upd H s.heap.objs.size (.tup [.int (i : Nat), x])) { s with heap := h'', toks := tk + 1 } :=
      I.turnedNew (ch := [e, it]) (fun b ob hb q => (sb.2 b (fun z => hb (by simp [z]))).trans (hk b ob (fun z => hb (by simp [z])) (fun z => hb (by simp [z])) q)) hf (Nat.le_refl _) new
    refine ⟨.ref s.heap.objs.size, _, I1, rfl, ⟨_, x, rfl, I.hok.fresh (Nat.le_refl _), rfl, fun ys hy => by rw [I.tuple_inj hy hq]; exact hx⟩, ⟨⟨y, ?_⟩, ?_, hne⟩, fun b hb => ?_⟩
    · have e1 : ((i + 1 : Nat) : Int) = (i : Int) + 1 := by omega
      rw [e1]; exact he'
    · obtain ⟨o, e1, c1, d1⟩ := hst'.1
      exact ⟨o, (sb.2 it (Ne.symm hne)).trans e1, c1, d1⟩
    · have hb' : b < s.heap.objs.size := by
        have e' : b = e ∨ b = it := by simpa using hb
        rcases e' with z | z
        · rw [z]; exact hel
        · rw [z]; exact hil
      rw [upd_ne (Nat.ne_of_lt hb')]
      exact (hf b hb).1
  done := by
    intro X hP hw hK hc i pins s σ H E I hf st hg
    subst hP hw hK
    obtain ⟨⟨old, he⟩, hit, hne⟩ := st
    obtain ⟨xs, hq, hx⟩ := hg
    obtain ⟨its, rv, p, hz⟩ := I.tuple hq
    obtain ⟨f0, f1, f2, f3, f4, f5⟩ := hf it (by simp)
    have hl := rv.length
    exact next_enum_endT (I.ok.hd hc) he hit p (by simp; omega) fun h' eb => ⟨rfl, I.turned (t' := s.toks) (fun b o hb q => eb b o hb q) f0 f1 f3 f4 f5⟩
  self := fun A i s Q E st h => let ⟨⟨_, he⟩, _⟩ := st; wpAny_pyIter_enum he h
def iEnumT (K : PySem.W.Frag) (ta : TA) : TI := fun σ H R => ta σ H fun vs H1 => ∃ a xs, vs = [.ref a] ∧ SqT K H1 a xs ∧ R (IteT K a) H1
theorem enumTK {X : Cx} (K : PySem.W.Frag) {e : Expr} {ta : TA} {p pos tpos : Pos} {elts : List Expr} {kk : Nat} (hg : Gl X "enumerate") (hm : X.mg "enumerate" = none) (ha : PA X [e] ta) (hs : starEach [e] X.env = [(false, eval e X.env)] := by rfl) (hK : X.K = K := by rfl) :
    PI X (.Tuple elts kk tpos) (.Call (.Name "enumerate" p) [e] [] pos) (iEnumT K ta) := by
  subst hK
  refine ⟨fun pins s σ H R I h => ?_⟩
  refine Call_ (ld_blt I hg hm boot_enumerate (PyProof.Rows.callWith_type1 (thn (ha.run pos pins s σ H _ I h) fun us s1 ⟨vs, H1, I1, r1, q1⟩ => ?_) hs rfl))
  obtain ⟨a, xs, ex, hq, q⟩ := q1
  subst ex
  cases r1 with
  | cons r rr =>
    cases rr
    cases r
    obtain ⟨its, rv, p', hz⟩ := I1.tuple hq
    refine call_enumerate_tuple p' fun h' he hit hsz hk => wpAny_pyIter_enum he ?_
    have I2 : Inv X pins σ H1 { s1 with heap := h' } := I1.kept (t' := s1.toks) hk
    refine ⟨s1.heap.objs.size + 1, [s1.heap.objs.size + 1, s1.heap.objs.size], _, _, H1, rfl, I2, turn_enumT a (s1.heap.objs.size + 1) s1.heap.objs.size, ⟨⟨.none, he⟩, hit, Nat.succ_ne_self _⟩, fun b hb => ?_, q⟩
    have e' : b = s1.heap.objs.size + 1 ∨ b = s1.heap.objs.size := by simpa using hb
    have hle : s1.heap.objs.size ≤ b := by
      rcases e' with z | z
      · rw [z]; exact Nat.le_add_right _ _
      · rw [z]; exact Nat.le_refl _
    exact I1.fpOk hle (I1.hok.fresh hle)
/-- a comprehension over enumerate of a tuple that stays -/
theorem lc_enumT {K : PySem.W.Frag} {a : Addr} {xs : List V} {g : TG} {tt : TT} {te : TE} {vs : List Nat} {σ : L2.St} {H1 : Hp} {D : Addr} {Qd : Hp → Prop} (Pv : Nat → Hp → Prop) (h0 : Pv 0 (upd H1 D (.lst []))) (hl : ∀ i H, i ≤ xs.length → Pv i H → SqT K H a xs)
    (hs : ∀ i x T H, xs[i]? = some x → Pv i H → H T = none → g (.ref T) (wipe σ vs) (upd H T (.tup [.int (i : Nat), x])) fun σ2 H2 => wipe σ2 vs = wipe σ vs ∧ tt σ2 H2 fun b H3 =>
      if b = true then te σ2 H3 fun y H4 => ∃ acc, H4 D = some (.lst acc) ∧ acc.length < sizeLine ∧ Pv (i + 1) (upd H4 D (.lst (acc ++ [y]))) else Pv (i + 1) H3) (hd : ∀ H, Pv xs.length H → Qd H) :
    ∃ W : Nat → Nat → Hp → Prop, (∃ m, W 0 m (upd H1 D (.lst []))) ∧ ∀ i m H, W i m H →
      ((IteT K a).stop i H ∧ Qd H) ∨ ((IteT K a).go i H ∧ ∃ Nx : Hp → Prop, (∀ H', Nx H' → ∃ m', m' < m ∧ W (i + 1) m' H') ∧ ∀ x H', (IteT K a).yld i H x H' → g x (wipe σ vs) H' fun σ2 H2 => wipe σ2 vs = wipe σ vs ∧ tt σ2 H2 fun b H3 =>
        if b = true then te σ2 H3 fun y H4 => ∃ acc, H4 D = some (.lst acc) ∧ acc.length < sizeLine ∧ Nx (upd H4 D (.lst (acc ++ [y]))) else Nx H3) := by
  refine ⟨fun i m H => m = xs.length - i ∧ i ≤ xs.length ∧ Pv i H, ⟨xs.length, by simp, Nat.zero_le _, h0⟩, ?_⟩
  rintro i m H ⟨rfl, hi, p⟩
  have q := hl i H hi p
  by_cases hlt : i < xs.length
  · refine .inr ⟨⟨xs, xs[i], q, by simp [hlt]⟩, Pv (i + 1), fun H' p' => ⟨xs.length - (i + 1), by omega, rfl, hlt, p'⟩, fun x H' y => ?_⟩
    obtain ⟨T, x', rfl, hT, rfl, f⟩ := y
    exact hs i x' T _ (f xs q) p hT
  · have e : i = xs.length := by omega
    subst e
    exact .inl ⟨⟨xs, q, Nat.le_refl _⟩, hd H p⟩
end L2

set_option Elab.async false
set_option linter.all false
set_option maxRecDepth 100000
set_option maxHeartbeats 4000000
/-! ## own rules, with the written part said -/
namespace L2
open PySem PySem.Spec PyProof.Rows
section
variable {X : Cx} (K : PySem.W.Frag)
theorem anyK (hc : X.calm = true := by rfl) (h : X.K = K := by rfl) : CallR X (.builtin "any") (rAny K) := by subst h; exact cr_any hc
theorem allK (hc : X.calm = true := by rfl) (h : X.K = K := by rfl) : CallR X (.builtin "all") (rAll K) := by subst h; exact cr_all hc
theorem isiK (h : X.K = K := by rfl) : CallR X (.builtin "isinstance") (rIsi K) := by subst h; exact call_isi
theorem catAK (h : X.K = K := by rfl) : OpR X (binaryOp .Add) (rCatA K) := by subst h; exact op_catA
theorem slAK (h : X.K = K := by rfl) : SlR X (rSlA K) := by subst h; exact sl_tupA
theorem sortedSK (h : X.K = K := by rfl) : CallR X (.builtin "sorted") (rSortedS K) := by subst h; exact cr_sortedS
theorem tupDK (hc : X.calm = true := by rfl) : CallR X (.type "tuple") rTupD := call_tuple_dK hc
/-- x in a dict or a row of flat things -/
def rInAny (K : PySem.W.Frag) : R2 := fun x y H Q => ∃ p b, y = .ref p ∧ ((∃ ov, DGet H p x ov ∧ b = ov.isSome) ∨ ∃ xs, (SqL K H p xs ∨ SqT K H p xs) ∧ flatV x = true ∧ xs.all flatV = true ∧ b = inV x xs) ∧ Q (.bl b) H
theorem inAny (hu : X.A.units + 1 < cLine) (h : X.K = K := by rfl) : OpR X (compareOp .In) (rInAny K) := by
  subst h
  intro pins s σ H x y v u Q I rx ry h
  obtain ⟨p, b, rfl, h, q⟩ := h
  rcases h with ⟨ov, g, rfl⟩ | ⟨xs, h1, h2, h3, rfl⟩
  · obtain rfl : u = Value.ref p := ry
    exact d_in hu I g rx fun s3 I3 => ⟨.bl ov.isSome, H, I3, rfl, q⟩
  · exact op_in_seq pins s σ H x _ v u Q I rx ry ⟨p, xs, rfl, h1, h2, h3, q⟩
/-- == of a tuple and a bare tuple -/
def rEqT0 (K : PySem.W.Frag) : R2 := fun x y H Q => ∃ a b xs, x = .ref a ∧ y = .ref b ∧ SqT K H a xs ∧ SqT K H b [] ∧ Q (.bl (decide (xs.length = 0))) H
theorem eqT0 (hu : X.A.units < cLine) (hK : X.K = K := by rfl) : OpR X (compareOp .Eq) (rEqT0 K) := by
  subst hK
  intro pins s σ H x y v u Q I rx ry h
  obtain ⟨a, b, xs, rfl, rfl, h1, h2, q⟩ := h
  obtain rfl : v = Value.ref a := rx
  obtain rfl : u = Value.ref b := ry
  obtain ⟨is, r1, l1, z1⟩ := I.tuple h1
  obtain ⟨js, r2, l2, z2⟩ := I.tuple h2
  have hj : js.length = 0 := r2.length.symm
  have hi := r1.length
  show wpAny _ _ (richCompare .Eq (.ref a) (.ref b)) _ _ _
  have e0 : decide (xs.length = 0) = ((List.range (min is.toArray.size js.toArray.size)).all (fun _ => true) && is.toArray.size == js.toArray.size) := by
    simp only [List.size_toArray, hj, hi]
    cases is <;> simp
  rw [e0] at q
  exact SeqAt.RcAt.tuples (e := fun _ => true) l1 l2 hu (fun j h1 h2 => absurd h2 (by simp; omega)) _ _ _ _ ⟨.bl _, H, I, rfl, q⟩
/-- x is not True, x a bool -/
def rNotTrue : R2 := fun x y H Q => ∃ k, x = .bl k ∧ y = .bl true ∧ Q (.bl (!k)) H
theorem opNotTrue : OpR X (compareOp .IsNot) rNotTrue := by
  intro pins s σ H x y v u Q I rx ry h
  obtain ⟨k, rfl, rfl, q⟩ := h
  obtain rfl : v = Value.bool k := rx
  obtain rfl : u = Value.bool true := ry
  refine PySem.wpAny_isNot_plain (by rfl) ⟨.bl (!k), H, I, ?_, q⟩
  cases k <;> rfl
end
end L2

set_option Elab.async false
set_option linter.all false
set_option maxRecDepth 100000
set_option maxHeartbeats 4000000
/-! ## own rules: a def whose code object is known -/
namespace L2
open PySem PySem.Spec PyProof.Rows
structure FunC (K : PySem.W.Frag) (x qual : Str) (st : Stmt) (f : Addr) (fd : FuncData) (c : Addr) : Prop where
  ex : ∃ (oc : Value) (od : Option Addr) (kV doc pm : Value) (an : Option Addr) (ct : Value) (osl : Array (Option Value)),
    fd = PySem.W.fnOf x qual (defArgs st) (defBody st) (defScope st) .none kV doc pm an (.ref c) ct ∧ K.lookup f = some ⟨oc, od, .func fd, osl⟩ ∧ PySem.W.codeIn K (.ref c) qual = true
theorem FunC.ok {P : Program} {w : World} {K : PySem.W.Frag} {mg : Str → Option Value} {base : Heap} {x qual : Str} {st : Stmt} {f c : Addr} {fd : FuncData} {N ps : List Str} {k : Nat} {sp : Sp} (F : FunC K x qual st f fd c) (S : FnScope N ps (defScope st)) (len : ∀ vs H Q E, sp vs H Q E → vs.length = ps.length)
    (hbody : ∀ (A : Around) (outer : List Env) (s : Shared) (H : Hp) (vs : List V) (Q : VK) (E : XK), Room k (A.deeper (envOfC qual (defScope st) s.heap.objs.size f (.ref c))) → sp vs H Q E →
      ∃ t, PSs (cxOf CX0 P w K mg base N qual (defScope st) f (.ref c) A outer s H E).nox (defBody st) t ∧ t { nx := fun _ H' => Q .non H', rt := Q } (start N vs) H) : FnOk P w K mg base CX0 (k + 1) f fd ps sp := by
  obtain ⟨oc, od, kV, doc, pm, an, ct, osl, rfl, lk, hcd⟩ := F.ex
  refine fn_of lk hcd S len fun A outer s H vs Q E hr hsp => ?_
  obtain ⟨t, h, q⟩ := hbody A outer s H vs Q E hr hsp
  exact ⟨t, h.nox, q⟩
theorem FunC.tab {K : PySem.W.Frag} {h : Heap} {x qual : Str} {st : Stmt} {f c Pt : Addr} {fd : FuncData} (F : FunC K x qual st f fd c) (hd : PySem.W.codeHdIn K c Pt = true) (OT : LamX.OwnTab K f h) : h.get? Pt = some { cls := .none, data := .fields #[] } := by
  obtain ⟨oc, od, kV, doc, pm, an, ct, osl, rfl, lk, hcd⟩ := F.ex
  unfold PySem.W.codeHdIn at hd
  split at hd
  · rename_i vs sl hk
    simp only [Bool.and_eq_true] at hd
    obtain ⟨⟨⟨⟨⟨e1, _⟩, _⟩, _⟩, _⟩, _⟩ := hd
    split at e1
    · rename_i P' h11
      have hP : P' = Pt := beq_iff_eq.mp e1
      subst hP
      exact OT c P' _ _ _ _ vs _ lk rfl rfl hk h11
    · cases e1
  · cases hd
section
variable {X : Cx} {e : Expr} {es : List Expr} {t : TA} {o : Expr} {to : TE} {apos cpos : Pos}
theorem extK (K : PySem.W.Frag) (ho : PE X o to) (ha : PA X (e :: es) t) (hbase : attributeBase o "extend" X.env (eval o X.env) = eval o X.env := by rfl)
    (hfew : ((backTo cpos (starEach (e :: es) X.env)).all (fun x => !x.1) && (backToKw cpos (keywordEach [] X.env)).all (fun x => x.1.isSome)
      && decide ((e :: es).length + ([] : List Keyword).length + (if ([] : List Keyword).isEmpty then 0 else 1) < 30)) = true := by rfl)
    (hline : (apos.endLine == cpos.line) = true := by rfl) (hs : starEach (e :: es) X.env = (false, eval e X.env) :: starEach es X.env := by rfl) (hplain : (backTo cpos (starEach es X.env)).any (·.1) = false := by rfl) (h : X.K = K := by rfl) :
    PE X (.Call (.Attribute o "extend" apos) (e :: es) [] cpos) (tBM K "list" (rExtT K) to t) := by
  subst h
  exact pe_bm PySem.F.plainAttrs_list PySem.F.slot_list_extend PySem.F.type_list_extend (mt_extendT X.K) ho ha hbase hfew hline hs hplain
end
end L2

set_option Elab.async false
set_option linter.all false
set_option maxRecDepth 100000
set_option maxHeartbeats 4000000
/-! ## own rules: e.f op= value with K said -/
namespace L2
open PySem PySem.Spec PyProof.Rows
section
variable {X : Cx} (K : PySem.W.Frag) {o e value : Expr} {f : Str} {pos pos' tpos : Pos} {ta tv : TE}
theorem fldaugK {op : Operator} {rd : V → V → Hp → VK → Prop} (ha : PE X o ta) (hv : PE X value tv) (hop : InOp X op rd) (hK : X.K = K := by rfl) : PS X (.AugAssign (.Attribute o f tpos) op value pos) (sFldAug K ta tv rd f) := by
  subst hK
  exact ps_fldaug ha hv hop
end
end L2

set_option Elab.async false
set_option linter.all false
set_option maxRecDepth 100000
set_option maxHeartbeats 4000000
/-! ## own rules: lists of one dict compared, rows of unlike kinds compared, a bare dict seen as one of rows -/
namespace PySem.SeqAt
open AutoSeq1 (wpAny_loadPart')
open MeetsSeq MeetsSeq2 MeetsSeq3 SeqRoads2
section
variable {P : Program} {W : World}
theorem unlike_end (p q : Addr) (xs ys : Array Value) (nx : xs[1]? = none) (ny : ys[1]? = none) (hz : xs.size = ys.size) (m m2 : Nat) (o o2 : Option Addr) (z z2 : Array (Option Value)) :
    MeetsIn P W (Builtin.«list.__eq__.loop» ⟨[.ref p, .ref q, rawInt 1, rawInt 3], []⟩)
      (fun _ F t => (t.heap.get? p = some { cls := .type "list", dict := o, data := .seq xs m, slots := z } ∧ t.heap.get? q = some { cls := .type "list", dict := o2, data := .seq ys m2, slots := z2 }) ∧
        F (.ok (.ret (.bool false))) t) := by
  rintro B F ⟨hp, g, d, tk, os⟩ ⟨⟨h1, h2⟩, f⟩
  wp_walk using wpAny_loadPart' h1, wpAny_loadPart' h2
  have nx' : xs[Int.toNat 1]? = none := nx
  have ny' : ys[Int.toNat 1]? = none := ny
  rw [nx', ny']
  wp_walk using wpAny_loadPart' h1, wpAny_loadPart' h2
  show F (.ok (.ret (.bool (xs.size != ys.size)))) _
  rw [hz]
  simpa using f
theorem unlike_loop (p q : Addr) (xs ys : Array Value) {x y : Value} (sx : xs[0]? = some x) (sy : ys[0]? = some y) (nx : xs[1]? = none) (ny : ys[1]? = none) (hz : xs.size = ys.size) (m m2 : Nat) (o o2 : Option Addr) (z z2 : Array (Option Value)) :
    MeetsIn P W (Builtin.«list.__eq__.loop» ⟨[.ref p, .ref q, rawInt 0, rawInt 3], []⟩)
      (fun B F t => (t.heap.get? p = some { cls := .type "list", dict := o, data := .seq xs m, slots := z } ∧ t.heap.get? q = some { cls := .type "list", dict := o2, data := .seq ys m2, slots := z2 }) ∧
        EqIn P W B.in1 t x y true ∧ F (.ok (.ret (.bool false))) t) := by
  rintro B F ⟨hp, g, d, tk, os⟩ ⟨⟨h1, h2⟩, k, f⟩
  wp_walk using wpAny_loadPart' h1, wpAny_loadPart' h2
  have sx' : xs[Int.toNat 0]? = some x := sx
  have sy' : ys[Int.toNat 0]? = some y := sy
  rw [sx', sy']
  refine wpAny_bind (k _ _ ?_)
  wp_walk
  refine ⟨plainId_quiet plain_eq_loop _, codeAny_builtin entry_eq_loop ?_⟩
  rw [Around.under_plainId plain_eq_loop _]
  exact unlike_end p q xs ys nx ny hz m m2 o o2 z z2 _ _ _ ⟨⟨h1, h2⟩, f⟩
theorem unlike_one (p q : Addr) (xs ys : Array Value) {x y : Value} (sx : xs[0]? = some x) (sy : ys[0]? = some y) (nx : xs[1]? = none) (ny : ys[1]? = none) (hz : xs.size = ys.size) (m m2 : Nat) (o o2 : Option Addr) (z z2 : Array (Option Value)) :
    MeetsIn P W (Builtin.«list.__ne__» ⟨[.ref p, .ref q], []⟩)
      (fun B F t => (t.heap.get? p = some { cls := .type "list", dict := o, data := .seq xs m, slots := z } ∧ t.heap.get? q = some { cls := .type "list", dict := o2, data := .seq ys m2, slots := z2 }) ∧
        EqIn P W B.in1 t x y true ∧ F (.ok (.ret (.bool false))) t) := by
  rintro B F ⟨hp, g, d, tk, os⟩ ⟨⟨h1, h2⟩, k, f⟩
  have sub := AutoSeq1.sub_list_list
  have nn : ¬ (xs.size != ys.size) = true := by simp [hz]
  wp_walk using wpAny_loadPart' h1, wpAny_loadPart' h2
  refine ⟨plainId_quiet plain_eq_loop _, codeAny_builtin entry_eq_loop ?_⟩
  rw [Around.under_plainId plain_eq_loop _]
  exact unlike_loop p q xs ys sx sy nx ny hz m m2 o o2 z z2 _ _ _ ⟨⟨h1, h2⟩, k, f⟩
theorem unlike_lists {B : Around} {t : Shared} {Fq : Value → Shared → Prop} {G : Value → Shared → Prop} {p q : Addr} {x y : Value} (h1 : t.heap.IsList p #[x]) (h2 : t.heap.IsList q #[y]) (room : B.units < cLine)
    (k : EqIn P W B.in1 t x y true) (f : Fq (.bool false) t) : wpAny (model P W) B (richCompare .NotEq (.ref p) (.ref q)) Fq G t := by
  obtain ⟨⟨c, o, u, z⟩, e1, e2, m, e3⟩ := id h1
  obtain ⟨⟨c2, o2, u2, z2⟩, g1, g2, m2, g3⟩ := id h2
  simp only at e2 e3 g2 g3
  subst e2 e3 g2 g3
  refine wpAny_richCompare_same_room (T := "list") (op := .NotEq) ⟨_, e1, rfl⟩ ⟨_, g1, rfl⟩ F.slot_list_ne ?_ room
  exact call_meetsIn F.slot_list_ne ⟨_, e1, rfl⟩ F.entry_list_ne (F.args_list_ne_2 _ _) (unlike_one p q #[x] #[y] rfl rfl rfl rfl rfl m m2 o o2 z z2) ⟨⟨e1, g1⟩, k, fun w => (nomatch w), f⟩
end
end PySem.SeqAt
namespace L2
open PySem PySem.Spec PyProof.Rows
section
variable {X : Cx} (K : PySem.W.Frag)
theorem seenT {pins : List (Addr × Obj)} {s : Shared} {σ : L2.St} {H : Hp} {d : Addr} (I : Inv X pins σ H s) (e : H d = some (.dK [])) : Inv X pins σ (upd H d (.dT [])) s := by
  obtain ⟨_, nm, vs, kv, o, es, ep, g, ex, dt, ky, pr, nd⟩ := I.hok d _ e
  cases kv
  have z : es.toList = [] := by
    revert pr
    generalize es.toList = l
    intro pr
    cases pr
    rfl
  exact I.write (x := d) (e := d) (h' := s.heap) (t' := s.toks) (by rw [e]; trivial) (.inl rfl) (fun _ _ _ h => h) ⟨o, g⟩ ⟨Nat.zero_le _, nm, [], .nil, o, es, ep, g, ex, dt, z, List.nodup_nil⟩
def tAsT (t : TE) : TE := fun σ H Q => t σ H fun v H1 => ∃ d, v = .ref d ∧ H1 d = some (.dK []) ∧ Q v (upd H1 d (.dT []))
theorem pe_asT {e : Expr} {t : TE} (h : PE X e t) : PE X e (tAsT t) := ⟨fun pins s σ H Q I q => by
  refine thn (h.run pins s σ H _ I q) fun u s1 ⟨v, H1, I1, r, d, _, e1, q1⟩ => ?_
  exact ⟨v, _, seenT I1 e1, r, q1⟩⟩
def rLtD (K : PySem.W.Frag) : R2 := fun x y H Q => ∃ d e, Dp K H x d ∧ Dp K H y e ∧ PySem.W.alike d e = true ∧ d ≠ .none ∧ d.depth ≤ 8 ∧ Q (.bl (PySem.W.dataLt d e)) H
def rLeD (K : PySem.W.Frag) : R2 := fun x y H Q => ∃ d e, Dp K H x d ∧ Dp K H y e ∧ PySem.W.alike d e = true ∧ d ≠ .none ∧ d.depth ≤ 8 ∧ Q (.bl (!PySem.W.dataLt e d)) H
theorem ltD (hu : X.A.units + 64 < cLine) (hK : X.K = K := by rfl) : OpR X (compareOp .Lt) (rLtD K) := by
  subst hK
  rintro pins s σ H x y v u Q I rx ry ⟨d, e, hd, he, al, nn, dp, q⟩
  obtain ⟨as, r1⟩ := Dp.reads I d x v hd rx
  obtain ⟨bs, r2⟩ := Dp.reads I e y u he ry
  exact PySem.W.lt_data r1 r2 al nn (by omega) ⟨.bl _, H, I, rfl, q⟩
theorem leD (hu : X.A.units + 64 < cLine) (hK : X.K = K := by rfl) : OpR X (compareOp .LtE) (rLeD K) := by
  subst hK
  rintro pins s σ H x y v u Q I rx ry ⟨d, e, hd, he, al, nn, dp, q⟩
  obtain ⟨as, r1⟩ := Dp.reads I d x v hd rx
  obtain ⟨bs, r2⟩ := Dp.reads I e y u he ry
  exact PySem.W.le_data r1 r2 al nn (by omega) ⟨.bl _, H, I, rfl, q⟩
/-- x < y, two numbers or two words -/
def rLtIS : R2 := fun x y H Q => (∃ i j, x = .int i ∧ y = .int j ∧ Q (.bl (decide (i < j))) H) ∨ ∃ i j, x = .str i ∧ y = .str j ∧ Q (.bl (decide (i.cps.toList < j.cps.toList))) H
theorem ltIS : OpR X (compareOp .Lt) rLtIS := by
  rintro pins s σ H x y v u Q I rx ry (h | h)
  · exact op_lt pins s σ H x y v u Q I rx ry h
  · exact op_lt_str pins s σ H x y v u Q I rx ry h
/-- two lists of at most one dict, alike: != says no -/
def rNeDicts (K : PySem.W.Frag) : R2 := fun x y H Q => ∃ a b, x = .ref a ∧ y = .ref b ∧ Q (.bl false) H ∧ ((H a = some (.lst []) ∧ H b = some (.lst [])) ∨
  ∃ c d ks ls, H a = some (.lst [.ref c]) ∧ H b = some (.lst [.ref d]) ∧ c ≠ d ∧ H c = some (.dK ks) ∧ H d = some (.dK ls) ∧ ks.length = ls.length ∧ ∀ p ∈ ks, valV ls p.1 = some p.2 ∧ flatB p.2 = true)
theorem neDicts (hu : X.A.units + 1 < cLine) : OpR X (compareOp .NotEq) (rNeDicts K) := by
  rintro pins s σ H x y v u Q I rx ry ⟨a, b, rfl, rfl, q, h⟩
  obtain rfl : v = Value.ref a := rx
  obtain rfl : u = Value.ref b := ry
  show wpAny _ _ (richCompare .NotEq (.ref a) (.ref b)) _ _ _
  rcases h with ⟨e1, e2⟩ | ⟨c, d, ks, ls, e1, e2, ncd, ec, ed, hl, hp⟩
  · obtain ⟨_, is, n1, v1, g1⟩ := I.hok a _ e1
    obtain ⟨_, js, n2, v2, g2⟩ := I.hok b _ e2
    cases v1
    cases v2
    exact SeqAt.RcNeAt.lists (e := fun _ => true) ⟨_, g1, rfl, _, rfl⟩ ⟨_, g2, rfl, _, rfl⟩ rfl (by omega) (fun j h1 _ => absurd h1 (Nat.not_lt_zero _)) _ _ _ _ ⟨.bl false, H, I, rfl, q⟩
  · obtain ⟨_, is, n1, v1, g1⟩ := I.hok a _ e1
    obtain ⟨_, js, n2, v2, g2⟩ := I.hok b _ e2
    cases v1 with
    | cons r1 t1 =>
      cases t1
      cases v2 with
      | cons r2 t2 =>
        cases t2
        cases r1
        cases r2
        obtain ⟨_, yc, vc, rc, dc⟩ := (show ObjOk X.prog X.w H s.heap c (.dK ks) from I.hok c _ ec)
        obtain ⟨_, yd, vd, rd, dd⟩ := (show ObjOk X.prog X.w H s.heap d (.dK ls) from I.hok d _ ed)
        have hlen : vc.length = vd.length := by rw [← rc.length, ← rd.length]; exact hl
        refine SeqAt.unlike_lists ⟨_, g1, rfl, _, rfl⟩ ⟨_, g2, rfl, _, rfl⟩ (by omega) (SeqAt.EqIn.of_refs ncd fun E' Q' z => ?_) ⟨.bl false, H, I, rfl, q⟩
        refine PySem.W.keq_eq (knd := mixKind X.prog X.w) (r := true) yc yd dc dd ?_ (fun _ => hits_all rd rc hp) ?_
        · show X.A.units + 1 < cLine
          exact hu
        · simpa [hlen] using z
variable {e : Expr} {t : TA}
theorem zipTK {e2 : Expr} {p tpos pos : Pos} {elts : List Expr} {kk : Nat} (hg : Gl X "zip") (hm : X.mg "zip" = none) (ha : PA X [e, e2] t)
    (hs : starEach [e, e2] X.env = (false, eval e X.env) :: starEach [e2] X.env := by rfl) (hpl : (backTo pos (starEach [e2] X.env)).any (·.1) = false := by rfl) (h : X.K = K := by rfl) :
    PI X (.Tuple elts kk tpos) (.Call (.Name "zip" p) [e, e2] [] pos) (RZ.iZipA K t) := by
  subst h
  exact RZ.pi_zipA hg hm ha hs hpl
def rListT : List V → Hp → VK → Prop := fun xs H Q => ∃ d kvs, xs = [V.ref d] ∧ H d = some (.dT kvs) ∧ ∀ p bs, H p = none → IsKeys H kvs bs → Q (.ref p) (upd H p (.lst (bs.map V.ref)))
theorem call_listT (hc : X.calm = true := by rfl) : CallR X (.type "list") rListT := by
  intro pins s σ H vs us Q I r h
  obtain ⟨d, kvs, e, ed, k⟩ := h
  exact call_list_dT hc pins s σ H vs us Q I r ⟨d, kvs, e, .inl ed, k⟩
variable {pos apos cpos : Pos} {to : TE} {es : List Expr}
theorem extLK {o : Expr} (ho : PE X o to) (ha : PA X (e :: es) t) (hbase : attributeBase o "extend" X.env (eval o X.env) = eval o X.env := by rfl)
    (hfew : ((backTo cpos (starEach (e :: es) X.env)).all (fun x => !x.1) && (backToKw cpos (keywordEach [] X.env)).all (fun x => x.1.isSome)
      && decide ((e :: es).length + ([] : List Keyword).length + (if ([] : List Keyword).isEmpty then 0 else 1) < 30)) = true := by rfl)
    (hline : (apos.endLine == cpos.line) = true := by rfl) (hs : starEach (e :: es) X.env = (false, eval e X.env) :: starEach es X.env := by rfl) (hplain : (backTo cpos (starEach es X.env)).any (·.1) = false := by rfl) (h : X.K = K := by rfl) :
    PE X (.Call (.Attribute o "extend" apos) (e :: es) [] cpos) (tBM K "list" rExtend to t) := by
  subst h
  exact pe_bm PySem.F.plainAttrs_list PySem.F.slot_list_extend PySem.F.type_list_extend mt_extend ho ha hbase hfew hline hs hplain
end
end L2

set_option Elab.async false
set_option linter.all false
set_option maxRecDepth 100000
set_option maxHeartbeats 4000000
/-! ## own rules: the least of a list of rows of four numbers; sorted of a row of numbers -/
namespace L2
open PySem PySem.Spec PyProof.Rows
section
variable {prog : Program} {w : World} {A : Around} {E : Value → Shared → Prop} {s : Shared}
theorem sorted_tup_ints {l : Addr} {vs : List Value} {ns : List Int} {Q : Value → Shared → Prop} (hl : IsTup s.heap l vs.toArray) (hI : IntsAre vs ns) (h64 : vs.length < 64)
    (h : ∀ (h1 h' : Heap) (out : Array Value) (ns' : List Int) (ep : Nat), (∀ b o', s.heap.get? b = some o' → h1.get? b = some o') → (∀ b o', h1.get? b = some o' → h'.get? b = some o') → h'.get? h1.objs.size = some (seqObj "list" out ep) → IntsAre out.toList ns' → ns'.Perm ns → ns'.Pairwise (· ≤ ·) → Q (.ref h1.objs.size) { s with heap := h' }) :
    wpAny (model prog w) A (call (.builtin "sorted") [.ref l]) Q E s := by
  obtain ⟨o, ho, hc, n, hd⟩ := hl
  refine Calls.call_function_entry kind_sorted plain_sorted entry_sorted (args_sorted1 _) ?_
  unfold Builtin.«sorted»
  refine wpAny_bind (m := checkCount "sorted" 1 1 _) (wpAny_pure ?_)
  refine wpAny_bind (wpAny_collect_seq l (.inr rfl) ho hc hd (fun h1 kp => ?_) (by rw [List.size_toArray, sizeLine_eq]; omega))
  rw [List.toList_toArray]
  refine wpAny_bind (wpAny_newList ?_)
  have hoL : (h1.push (seqObj "list" vs.toArray 0)).get? h1.objs.size = some (seqObj "list" vs.toArray 0) := Heap.get?_push_size _ rfl
  refine wpAny_bind (wpAny_holding (wpAny_call_entry slot_list_sort ⟨_, hoL, rfl⟩ entry_list_sort (list_sort_treeK intKind_oneLt hoL hI.keysOfInt (fun v₁ v₂ rest e => keyKind_ints (by rw [← e]; exact hI)) h64 fun st' hp hs => ⟨_, rfl, ?_⟩) (args_list_sort _)))
  obtain ⟨ns', a1, a2, a3⟩ := sorted_out hI hp (sortedTo_of_int hs)
  obtain ⟨ep, he⟩ := sortedHeap_at (vs := vs) (out := (arrOf st').map (·.2)) hoL
  refine wpAny_pure ⟨_, rfl, h h1 _ _ ns' ep kp (fun b o' e => ?_) he a1 a2 a3⟩
  have lt := Heap.lt_size e
  rw [sortedHeap_old (Nat.ne_of_lt lt) (by rw [size_push']; exact Nat.lt_succ_of_lt lt)]
  exact Heap.get?_push_of_some _ e
end
def rSortedTI (K : PySem.W.Frag) : List V → Hp → VK → Prop := fun vs H Q => ∃ (a : Addr) (xs : List Int), vs = [V.ref a] ∧ SqT K H a (xs.map V.int) ∧ xs.length < 64 ∧
  ∀ (ys : List Int) (p : Addr), ys.Perm xs → ys.Pairwise (· ≤ ·) → H p = none → Q (.ref p) (upd H p (.lst (ys.map V.int)))
theorem cr_sortedTI {X : Cx} (K : PySem.W.Frag) (hK : X.K = K := by rfl) : CallR X (.builtin "sorted") (rSortedTI K) := by
  subst hK
  intro pins s σ H vs us Q I r h
  obtain ⟨a, xs, rfl, hs, h64, q⟩ := h
  obtain ⟨its, rv, hl, _⟩ := I.tuple hs
  rw [Vals.ref1 r]
  have hlen0 := rv.length
  rw [List.length_map] at hlen0
  refine sorted_tup_ints hl rv.ints (by rw [← hlen0]; exact h64) fun h1 h' out ys ep kp kp2 he h1' h2 h3 => ?_
  have hlen : (ys.map V.int).length ≤ sizeLine := by rw [List.length_map, h2.length_eq]; exact small64 h64
  have I1 : Inv X pins σ H { s with heap := h1 } := I.kept (t' := s.toks) kp
  exact ⟨.ref _, upd H h1.objs.size (.lst (ys.map V.int)), I1.laid (t' := s.toks) kp2 (Nat.le_refl _) ⟨hlen, out.toList, ep, vals_of_ints h1', he⟩, rfl, q ys _ h2 h3 (I1.hok.fresh (Nat.le_refl _))⟩
/-- four numbers -/
structure N4 where
  (a b c d : Int)
  deriving DecidableEq
def N4.vs (x : N4) : List V := [.int x.a, .int x.b, .int x.c, .int x.d]
def N4.dat (x : N4) : PyData := .tuple [.int x.a, .int x.b, .int x.c, .int x.d]
def lt4 (x y : N4) : Bool := decide (x.a < y.a) || (decide (x.a = y.a) && (decide (x.b < y.b) || (decide (x.b = y.b) && (decide (x.c < y.c) || (decide (x.c = y.c) && decide (x.d < y.d))))))
def min4 (x : N4) (ys : List N4) : N4 := ys.foldl (fun a y => if lt4 y a = true then y else a) x
theorem dat_inj {x y : N4} (h : x.dat = y.dat) : x = y := by
  cases x
  cases y
  simp [N4.dat] at h
  simp [h]
theorem lx_ne (a b : Int) (r : Bool) : (decide (a < b) || (!decide (b < a) && r)) = (decide (a < b) || (decide (a = b) && r)) := by
  rcases Int.lt_trichotomy a b with h | h | h
  · rw [decide_eq_true h]
    rfl
  · subst h
    simp
  · have h1 : ¬ a < b := by omega
    have h2 : ¬ a = b := by omega
    simp [h, h1, h2]
theorem lx_same (r : Bool) : (decide ((1 : Int) < 1) || (!decide ((1 : Int) < 1) && r)) = r := by
  simp
theorem dat_lt (x y : N4) : PySem.W.dataLt x.dat y.dat = lt4 x y := by
  have e : ∀ (p q : Int) (l m : List (Int ⊕ List Nat)), PyProof.Rows.lexLt PyProof.Rows.itemOrd (.inl p :: l) (.inl q :: m) = (decide (p < q) || (!decide (q < p) && PyProof.Rows.lexLt PyProof.Rows.itemOrd l m)) := fun p q l m => PyProof.Rows.lex_cons (O := PyProof.Rows.itemOrd) _ _ _ _
  simp only [N4.dat, PySem.W.dataLt_tuple, PySem.W.keyToksAll, PySem.W.keyToks, List.cons_append, List.nil_append]
  rw [e, lx_same, e, e, lx_same, e, e, lx_same, e, e, lx_same, e, e]
  rw [lx_ne, lx_ne, lx_ne, lx_ne]
  have z : (decide ((0 : Int) < 0) || (!decide ((0 : Int) < 0) && PyProof.Rows.lexLt PyProof.Rows.itemOrd [] [])) = false := by
    simp [PyProof.Rows.lexLt]
  rw [z]
  unfold lt4
  simp
theorem min_dat (x : N4) : ∀ ys : List N4, PySem.W.minD x.dat (ys.map N4.dat) = (min4 x ys).dat := by
  intro ys
  unfold PySem.W.minD min4
  induction ys generalizing x with
  | nil => rfl
  | cons y ys ih =>
    rw [List.map_cons, List.foldl_cons, List.foldl_cons, dat_lt, ← ih]
    cases lt4 y x <;> rfl
def rMin4 (K : PySem.W.Frag) : List V → Hp → VK → Prop := fun vs H Q => ∃ (p : Addr) (as : List Addr) (x : N4) (xs : List N4), vs = [.ref p] ∧ SqL K H p (as.map V.ref) ∧ as.length = (x :: xs).length ∧ (∀ (i : Nat) (a : Addr) (y : N4), as[i]? = some a → (x :: xs)[i]? = some y → SqT K H a y.vs) ∧
  ∀ a, SqT K H a (min4 x xs).vs → Q (.ref a) H
theorem dp4_all {K : PySem.W.Frag} {H : Hp} : ∀ {as : List Addr} {ys : List N4}, as.length = ys.length → (∀ (i : Nat) (a : Addr) (y : N4), as[i]? = some a → ys[i]? = some y → SqT K H a y.vs) → DpAll K H (as.map V.ref) (ys.map N4.dat)
  | [], [], _, _ => .nil
  | a :: as, y :: ys, hl, h => .cons (.tup (h 0 a y rfl rfl) (.cons (.int _) (.cons (.int _) (.cons (.int _) (.cons (.int _) .nil))))) (dp4_all (Nat.succ.inj hl) fun i b z e1 e2 => h (i + 1) b z e1 e2)
  | [], _ :: _, hl, _ => nomatch hl
  | _ :: _, [], hl, _ => nomatch hl
theorem paired_at {α β : Type} {R : α → β → Prop} : ∀ {xs : List α} {ys : List β}, Paired R xs ys → ∀ {i : Nat} {x : α} {y : β}, xs[i]? = some x → ys[i]? = some y → R x y
  | _, _, .nil, _, _, _, h, _ => by simp at h
  | _, _, .cons r t, 0, _, _, h1, h2 => by
    cases h1
    cases h2
    exact r
  | _, _, .cons r t, i + 1, _, _, h1, h2 => paired_at t (i := i) h1 h2
theorem min4K {X : Cx} (K : PySem.W.Frag) (hu : X.A.units + 64 < cLine) (hc : X.calm = true := by rfl) (hK : X.K = K := by rfl) : CallR X (.builtin "min") (rMin4 K) := by
  subst hK
  intro pins s σ H vs us Q I r h
  obtain ⟨p, as, x, xs, rfl, hs, hlen, hall, q⟩ := h
  obtain ⟨its, rv, hl, _⟩ := I.list hs
  rw [Vals.ref1 r]
  obtain ⟨bs, hr⟩ := Dp.readsAll I ((x :: xs).map N4.dat) (as.map V.ref) its (dp4_all hlen hall) rv
  have hal : PySem.W.AlikeAll ((x :: xs).map N4.dat) := ⟨fun d hd e he => by
    obtain ⟨y, _, rfl⟩ := List.mem_map.mp hd
    obtain ⟨z, _, rfl⟩ := List.mem_map.mp he
    rfl, fun d hd => by
    obtain ⟨y, _, rfl⟩ := List.mem_map.mp hd
    exact fun z => nomatch z⟩
  have hdep : ∀ l : List N4, PyData.depthAll (l.map N4.dat) ≤ 8 := fun l => by
    induction l with
    | nil => simp [PyData.depthAll]
    | cons y l ih =>
      simp only [List.map_cons, PyData.depthAll, N4.dat, PyData.depth]
      omega
  have hd8 := hdep (x :: xs)
  refine PySem.W.min_list_data (I.ok.hd hc) hl.isList (by simpa using hr) hal (by simp only [List.map_cons] at hd8; omega) fun i v h' tk cs hv hrd hk => ?_
  rw [min_dat] at hrd
  -- the value is one of the items
  have hv' : its[i]? = some v := by simpa using hv
  have hil : i < as.length := by
    have := (List.getElem?_eq_some_iff.mp hv').1
    have e := rv.length
    rw [List.length_map] at e
    omega
  have hia : as[i]? = some as[i] := List.getElem?_eq_getElem hil
  have hrel : RelV (.ref as[i]) v := paired_at rv (by rw [List.getElem?_map, hia]; rfl) hv'
  obtain rfl : v = Value.ref as[i] := hrel
  have hix : i < (x :: xs).length := by rw [← hlen]; exact hil
  have hst := hall i as[i] (x :: xs)[i] hia (List.getElem?_eq_getElem hix)
  obtain ⟨cs2, hr2⟩ := Dp.reads I (x :: xs)[i].dat (.ref as[i]) (.ref as[i]) (.tup hst (.cons (.int _) (.cons (.int _) (.cons (.int _) (.cons (.int _) .nil))))) rfl
  have e := PySem.W.alike_unique (min4 x xs).dat (x :: xs)[i].dat _ _ _ rfl hrd (PySem.W.reads_keeps hk hr2)
  have e2 := dat_inj e
  exact ⟨.ref as[i], H, I.kept hk, rfl, q as[i] (by rw [e2]; exact hst)⟩
end L2

set_option Elab.async false
set_option maxRecDepth 100000
set_option maxHeartbeats 4000000
/-! ## own words over the hand layer, for every law: rules with the written part said, dice, many at once -/
namespace L2
open PySem PySem.Spec PyProof.Rows
theorem units65 {k : Nat} {A : Around} (r : Room k A) : A.units + 65 < cLine := by have := r.un; omega
section
variable {X : Cx} (K : PySem.W.Frag)
theorem ixL (h : X.K = K := by rfl) : IxR X (rIxL K) := by subst h; exact ix_list
theorem ixT (h : X.K = K := by rfl) : IxR X (rIxT K) := by subst h; exact ix_tup
theorem slL (h : X.K = K := by rfl) : SlR X (rSlL K) := by subst h; exact sl_list
theorem slT (h : X.K = K := by rfl) : SlR X (rSlT K) := by subst h; exact sl_tup
theorem eqD (hu : X.A.units + 64 < cLine) (h : X.K = K := by rfl) : OpR X (compareOp .Eq) (rEqD K) := by subst h; exact op_eqD hu
theorem neD (hu : X.A.units + 64 < cLine) (h : X.K = K := by rfl) : OpR X (compareOp .NotEq) (rNeD K) := by subst h; exact op_neD hu
theorem inD (hu : X.A.units + 65 < cLine) (h : X.K = K := by rfl) : OpR X (compareOp .In) (rInD K) := by subst h; exact op_inD hu
theorem notInD (hu : X.A.units + 65 < cLine) (h : X.K = K := by rfl) : OpR X (compareOp .NotIn) (rNotInD K) := by subst h; exact op_notInD hu
theorem inSeq (h : X.K = K := by rfl) : OpR X (compareOp .In) (rIn K false) := by subst h; exact op_in_seq
theorem notInSeq (h : X.K = K := by rfl) : OpR X (compareOp .NotIn) (rIn K true) := by subst h; exact op_notIn_seq
def rLenQ (K : PySem.W.Frag) : List V → Hp → VK → Prop := fun xs H Q => ∃ p ys, xs = [.ref p] ∧ (SqL K H p ys ∨ SqT K H p ys) ∧ Q (.int ys.length) H
def rListOf (K : PySem.W.Frag) : List V → Hp → VK → Prop := fun xs H Q => ∃ p ys, xs = [.ref p] ∧ (SqL K H p ys ∨ SqT K H p ys) ∧ ∀ l, H l = none → Q (.ref l) (upd H l (.lst ys))
def rTupleOf (K : PySem.W.Frag) : List V → Hp → VK → Prop := fun xs H Q => ∃ p ys, xs = [.ref p] ∧ ((SqL K H p ys ∧ ∀ l, H l = none → Q (.ref l) (upd H l (.tup ys))) ∨ (SqT K H p ys ∧ Q (.ref p) H))
theorem lenK (h : X.K = K := by rfl) : CallR X (.builtin "len") (rLenQ K) := by subst h; exact call_len_seq
theorem listOf (h : X.K = K := by rfl) : CallR X (.type "list") (rListOf K) := by subst h; exact call_list_of
theorem tupOf (h : X.K = K := by rfl) : CallR X (.type "tuple") (rTupleOf K) := by subst h; exact call_tuple_of
def rAbs : List V → Hp → VK → Prop := fun xs H Q => ∃ i, xs = [.int i] ∧ Q (.int (if i < 0 then -i else i)) H
theorem absK : CallR X (.builtin "abs") rAbs := call_abs
def rInt1 : List V → Hp → VK → Prop := fun xs H Q => (∃ i, xs = [.int i] ∧ Q (.int i) H) ∨ ∃ k, xs = [.bl k] ∧ Q (.int (if k then 1 else 0)) H
theorem int1K : CallR X (.type "int") rInt1 := call_int1
def rMin2 : List V → Hp → VK → Prop := fun xs H Q => ∃ i j, xs = [.int i, .int j] ∧ Q (.int (if j < i then j else i)) H
theorem min2K (hc : X.calm = true := by rfl) : CallR X (.builtin "min") rMin2 := call_min2 hc
variable {e : Expr} {es : List Expr} {f : Str} {pos apos cpos : Pos} {ta to : TE} {t : TA}
theorem fldK (he : PE X e ta) (hb : attributeBase e f X.env (eval e X.env) = eval e X.env) (h : X.K = K := by rfl) : PE X (.Attribute e f pos) (tFld K ta f) := by subst h; exact pe_fld he hb
theorem sfldK {v : Expr} {tv : TE} (he : PE X e ta) (hv : PE X v tv) (hsw : swapsWith v (some (.Attribute e f pos)) cpos.line X.env = pure false) (h : X.K = K := by rfl) : PS X (.Assign [.Attribute e f pos] v cpos) (sFld K ta tv f) := by
  subst h
  exact ps_fld he hv hsw
theorem tupK {k : Nat} {t : TGs} {n : Nat} (hc : X.calm = true) (h : PGs X es t)
    (hn : (assignEach es X.env).length = n := by rfl) (hst : (assignEach es X.env).findIdx? (·.1) = none := by rfl) (hK : X.K = K := by rfl) : PG X (.Tuple es k pos) (gTup K n t) := by
  subst hK
  exact pg_tup hc h hn hst
variable {tg : Expr}
theorem listK (hl : PE X e ta) (h : X.K = K := by rfl) : PI X tg e (iList K ta) := by subst h; exact pi_list hl
theorem tupIK (hl : PE X e ta) (h : X.K = K := by rfl) : PI X tg e (iTup K ta) := by subst h; exact pi_tup hl
theorem enumK {p tpos : Pos} {elts : List Expr} {kk : Nat} (hg : Gl X "enumerate") (hm : X.mg "enumerate" = none) (ha : PA X [e] t) (hs : starEach [e] X.env = [(false, eval e X.env)] := by rfl) (h : X.K = K := by rfl) :
    PI X (.Tuple elts kk tpos) (.Call (.Name "enumerate" p) [e] [] pos) (iEnum K t) := by
  subst h
  exact pi_enum hg hm ha hs
theorem zipK {e2 : Expr} {p tpos : Pos} {elts : List Expr} {kk : Nat} (hg : Gl X "zip") (hm : X.mg "zip" = none) (ha : PA X [e, e2] t)
    (hs : starEach [e, e2] X.env = (false, eval e X.env) :: starEach [e2] X.env := by rfl) (hpl : (backTo pos (starEach [e2] X.env)).any (·.1) = false := by rfl) (h : X.K = K := by rfl) :
    PI X (.Tuple elts kk tpos) (.Call (.Name "zip" p) [e, e2] [] pos) (iZip K t) := by
  subst h
  exact pi_zip hg hm ha hs hpl
theorem appK {o : Expr} (ho : PE X o to) (ha : PA X (e :: es) t) (hbase : attributeBase o "append" X.env (eval o X.env) = eval o X.env := by rfl)
    (hfew : ((backTo cpos (starEach (e :: es) X.env)).all (fun x => !x.1) && (backToKw cpos (keywordEach [] X.env)).all (fun x => x.1.isSome)
      && decide ((e :: es).length + ([] : List Keyword).length + (if ([] : List Keyword).isEmpty then 0 else 1) < 30)) = true := by rfl)
    (hline : (apos.endLine == cpos.line) = true := by rfl) (hs : starEach (e :: es) X.env = (false, eval e X.env) :: starEach es X.env := by rfl) (hplain : (backTo cpos (starEach es X.env)).any (·.1) = false := by rfl) (h : X.K = K := by rfl) :
    PE X (.Call (.Attribute o "append" apos) (e :: es) [] cpos) (tBM K "list" rAppend to t) := by
  subst h
  exact pe_bm PySem.F.plainAttrs_list PySem.F.slot_list_append PySem.F.type_list_append mt_append ho ha hbase hfew hline hs hplain
/-- == of a list and a bare list -/
def rEqL (K : PySem.W.Frag) : R2 := fun x y H Q => ∃ a b xs, x = .ref a ∧ y = .ref b ∧ SqL K H a xs ∧ SqL K H b [] ∧ Q (.bl (decide (xs.length = 0))) H
theorem eqL (hu : X.A.units < cLine) (hK : X.K = K := by rfl) : OpR X (compareOp .Eq) (rEqL K) := by
  subst hK
  intro pins s σ H x y v u Q I rx ry h
  obtain ⟨a, b, xs, rfl, rfl, h1, h2, q⟩ := h
  obtain rfl : v = Value.ref a := rx
  obtain rfl : u = Value.ref b := ry
  obtain ⟨is, r1, ⟨o1, n1, e1, c1, d1, t1⟩, z1⟩ := I.list h1
  obtain ⟨js, r2, ⟨o2, n2, e2, c2, d2, t2⟩, z2⟩ := I.list h2
  have l1 : s.heap.IsList a is.toArray := ⟨o1, e1, c1, n1, t1⟩
  have l2 : s.heap.IsList b js.toArray := ⟨o2, e2, c2, n2, t2⟩
  have hj : js.length = 0 := r2.length.symm
  have hi := r1.length
  show wpAny _ _ (richCompare .Eq (.ref a) (.ref b)) _ _ _
  by_cases hx : xs.length = 0
  · rw [decide_eq_true hx] at q
    have hz : is.toArray.size = js.toArray.size := by simp; omega
    refine SeqAt.RcAt.lists (e := fun _ => true) l1 l2 hz hu (fun j h1 _ => ?_) _ _ _ _ ⟨.bl true, H, I, ?_, q⟩
    · exact absurd h1 (by simp; omega)
    · show Value.bool _ = Value.bool true
      simp
  · rw [decide_eq_false hx] at q
    have hz : (is.toArray.size != js.toArray.size) = true := by simp; omega
    exact SeqAt.RcAt.lists_lengths l1 l2 hz hu _ _ _ _ ⟨.bl false, H, I, rfl, q⟩
end
end L2

namespace Toy
open PySem L2
def asgVal : Stmt → Expr
  | .Assign _ v _ => v
  | _ => .Constant .none 0 ⟨0, 0, 0, 0⟩
def lamArgs : Expr → Arguments
  | .Lambda a _ _ _ => a
  | _ => { posonlyargs := [], args := [], vararg := none, kwonlyargs := [], kw_defaults := [], kwarg := none, defaults := [] }
def lamBody : Expr → Expr
  | .Lambda _ b _ _ => b
  | e => e
def lamScope : Expr → Scope
  | .Lambda _ _ s _ => s
  | _ => { kind := .function, names := [], isGenerator := false, isCoroutine := false, more := [] }
def top (i : Nat) : PySem.Stmt := PySem.Challenge.pw_deducehall_k11_plans_of_a_body.main.body.getD i (.Pass ⟨0, 0, 0, 0⟩)
abbrev s_Term_init : PySem.Stmt := inClass (top 14) 0
abbrev N_Term_init : List Str := ["self", "name", "value"]
theorem sc_Term_init : FnScope N_Term_init ["self", "name", "value"] (defScope s_Term_init) := ⟨rfl, rfl, rfl, by decide +kernel, rfl, by decide +kernel, by decide +kernel⟩
abbrev s_Term_is_variable : PySem.Stmt := inClass (top 14) 1
abbrev N_Term_is_variable : List Str := ["self"]
theorem sc_Term_is_variable : FnScope N_Term_is_variable ["self"] (defScope s_Term_is_variable) := ⟨rfl, rfl, rfl, by decide +kernel, rfl, by decide +kernel, by decide +kernel⟩
abbrev s_Term_known : PySem.Stmt := inClass (top 14) 4
abbrev N_Term_known : List Str := ["self", "bound"]
theorem sc_Term_known : FnScope N_Term_known ["self", "bound"] (defScope s_Term_known) := ⟨rfl, rfl, rfl, by decide +kernel, rfl, by decide +kernel, by decide +kernel⟩
abbrev s_var : PySem.Stmt := top 15
abbrev N_var : List Str := ["name"]
theorem sc_var : FnScope N_var ["name"] (defScope s_var) := ⟨rfl, rfl, rfl, by decide +kernel, rfl, by decide +kernel, by decide +kernel⟩
abbrev s_val : PySem.Stmt := top 16
abbrev N_val : List Str := ["value"]
theorem sc_val : FnScope N_val ["value"] (defScope s_val) := ⟨rfl, rfl, rfl, by decide +kernel, rfl, by decide +kernel, by decide +kernel⟩
abbrev s_names_in : PySem.Stmt := top 17
abbrev N_names_in : List Str := ["terms", "names", "term"]
theorem sc_names_in : FnScope N_names_in ["terms"] (defScope s_names_in) := ⟨rfl, rfl, rfl, by decide +kernel, rfl, by decide +kernel, by decide +kernel⟩
abbrev s_Literal_init : PySem.Stmt := inClass (top 20) 0
abbrev N_Literal_init : List Str := ["self", "kind", "name", "terms"]
theorem sc_Literal_init : FnScope N_Literal_init ["self", "kind", "name", "terms"] (defScope s_Literal_init) := ⟨rfl, rfl, rfl, by decide +kernel, rfl, by decide +kernel, by decide +kernel⟩
abbrev s_Literal_names : PySem.Stmt := inClass (top 20) 1
abbrev N_Literal_names : List Str := ["self"]
theorem sc_Literal_names : FnScope N_Literal_names ["self"] (defScope s_Literal_names) := ⟨rfl, rfl, rfl, by decide +kernel, rfl, by decide +kernel, by decide +kernel⟩
abbrev s_Rule_init : PySem.Stmt := inClass (top 21) 0
abbrev N_Rule_init : List Str := ["self", "name", "terms", "body", "summed", "part"]
theorem sc_Rule_init : FnScope N_Rule_init ["self", "name", "terms", "body", "summed"] (defScope s_Rule_init) := ⟨rfl, rfl, rfl, by decide +kernel, rfl, by decide +kernel, by decide +kernel⟩
abbrev s_how_often : PySem.Stmt := top 22
abbrev N_how_often : List Str := ["rows", "often", "row", "name"]
theorem sc_how_often : FnScope N_how_often ["rows"] (defScope s_how_often) := ⟨rfl, rfl, rfl, by decide +kernel, rfl, by decide +kernel, by decide +kernel⟩
abbrev s_needs : PySem.Stmt := top 24
abbrev N_needs : List Str := ["rule", "number", "part", "name"]
theorem sc_needs : FnScope N_needs ["rule", "number"] (defScope s_needs) := ⟨rfl, rfl, rfl, by decide +kernel, rfl, by decide +kernel, by decide +kernel⟩
abbrev s_gives : PySem.Stmt := top 25
abbrev N_gives : List Str := ["rule", "number", "part"]
theorem sc_gives : FnScope N_gives ["rule", "number"] (defScope s_gives) := ⟨rfl, rfl, rfl, by decide +kernel, rfl, by decide +kernel, by decide +kernel⟩
abbrev s_shared : PySem.Stmt := top 26
abbrev N_shared : List Str := ["rule", "number", "name", "here"]
theorem sc_shared : FnScope N_shared ["rule", "number", "name"] (defScope s_shared) := ⟨rfl, rfl, rfl, by decide +kernel, rfl, by decide +kernel, by decide +kernel⟩
abbrev s_ready : PySem.Stmt := top 27
abbrev N_ready : List Str := ["rule", "number", "bound", "name"]
theorem sc_ready : FnScope N_ready ["rule", "number", "bound"] (defScope s_ready) := ⟨rfl, rfl, rfl, by decide +kernel, rfl, by decide +kernel, by decide +kernel⟩
abbrev s_Plan_init : PySem.Stmt := inClass (top 29) 0
abbrev N_Plan_init : List Str := ["self", "rule", "order", "given", "number"]
theorem sc_Plan_init : FnScope N_Plan_init ["self", "rule", "order", "given"] (defScope s_Plan_init) := ⟨rfl, rfl, rfl, by decide +kernel, rfl, by decide +kernel, by decide +kernel⟩
abbrev s_Plan_bound_at : PySem.Stmt := inClass (top 29) 1
abbrev N_Plan_bound_at : List Str := ["self", "step", "taken", "number"]
theorem sc_Plan_bound_at : FnScope N_Plan_bound_at ["self", "step"] (defScope s_Plan_bound_at) := ⟨rfl, rfl, rfl, by decide +kernel, rfl, by decide +kernel, by decide +kernel⟩
abbrev s_Plan_known_places : PySem.Stmt := inClass (top 29) 2
abbrev N_Plan_known_places : List Str := ["self", "step"]
theorem sc_Plan_known_places : FnScope N_Plan_known_places ["self", "step"] (defScope s_Plan_known_places) := ⟨rfl, rfl, rfl, by decide +kernel, rfl, by decide +kernel, by decide +kernel⟩
abbrev s_Plan_shown : PySem.Stmt := inClass (top 29) 3
abbrev N_Plan_shown : List Str := ["self", "step"]
theorem sc_Plan_shown : FnScope N_Plan_shown ["self"] (defScope s_Plan_shown) := ⟨rfl, rfl, rfl, by decide +kernel, rfl, by decide +kernel, by decide +kernel⟩
abbrev s_known_at : PySem.Stmt := top 30
abbrev N_known_at : List Str := ["rule", "number", "bound", "place", "term"]
theorem sc_known_at : FnScope N_known_at ["rule", "number", "bound"] (defScope s_known_at) := ⟨rfl, rfl, rfl, by decide +kernel, rfl, by decide +kernel, by decide +kernel⟩
abbrev s_weight : PySem.Stmt := top 31
abbrev N_weight : List Str := ["rule", "number", "bound", "sizes", "part", "known"]
theorem sc_weight : FnScope N_weight ["rule", "number", "bound", "sizes"] (defScope s_weight) := ⟨rfl, rfl, rfl, by decide +kernel, rfl, by decide +kernel, by decide +kernel⟩
abbrev s_bound_by : PySem.Stmt := top 32
abbrev N_bound_by : List Str := ["given", "taken", "bound", "names", "name"]
theorem sc_bound_by : FnScope N_bound_by ["given", "taken"] (defScope s_bound_by) := ⟨rfl, rfl, rfl, by decide +kernel, rfl, by decide +kernel, by decide +kernel⟩
abbrev s_plan : PySem.Stmt := top 33
abbrev N_plan : List Str := ["rule", "sizes", "first", "given", "order", "taken", "number", "found"]
theorem sc_plan : FnScope N_plan ["rule", "sizes", "first", "given"] (defScope s_plan) := ⟨rfl, rfl, rfl, by decide +kernel, rfl, by decide +kernel, by decide +kernel⟩
abbrev s_lightest : PySem.Stmt := top 34
abbrev N_lightest : List Str := ["rule", "order", "bound", "sizes", "left", "number"]
theorem sc_lightest : FnScope N_lightest ["rule", "order", "bound", "sizes"] (defScope s_lightest) := ⟨rfl, rfl, rfl, by decide +kernel, rfl, by decide +kernel, by decide +kernel⟩
abbrev s_next_parts : PySem.Stmt := top 35
abbrev N_next_parts : List Str := ["rule", "order", "bound", "number"]
theorem sc_next_parts : FnScope N_next_parts ["rule", "order", "bound"] (defScope s_next_parts) := ⟨rfl, rfl, rfl, by decide +kernel, rfl, by decide +kernel, by decide +kernel⟩
abbrev s_binds : PySem.Stmt := top 36
abbrev N_binds : List Str := ["rule", "number", "part"]
theorem sc_binds : FnScope N_binds ["rule", "number"] (defScope s_binds) := ⟨rfl, rfl, rfl, by decide +kernel, rfl, by decide +kernel, by decide +kernel⟩
abbrev s_bound_behind : PySem.Stmt := top 37
abbrev N_bound_behind : List Str := ["rule", "order", "given", "number"]
theorem sc_bound_behind : FnScope N_bound_behind ["rule", "order", "given"] (defScope s_bound_behind) := ⟨rfl, rfl, rfl, by decide +kernel, rfl, by decide +kernel, by decide +kernel⟩
abbrev s_is_plan : PySem.Stmt := top 38
abbrev N_is_plan : List Str := ["rule", "order", "given", "step", "number"]
theorem sc_is_plan : FnScope N_is_plan ["rule", "order", "given"] (defScope s_is_plan) := ⟨rfl, rfl, rfl, by decide +kernel, rfl, by decide +kernel, by decide +kernel⟩
abbrev s_all_plans : PySem.Stmt := top 39
abbrev N_all_plans : List Str := ["rule", "given", "orders", "_", "longer", "order", "number"]
theorem sc_all_plans : FnScope N_all_plans ["rule", "given"] (defScope s_all_plans) := ⟨rfl, rfl, rfl, by decide +kernel, rfl, by decide +kernel, by decide +kernel⟩
abbrev s_l_flat : PySem.Stmt := top 41
abbrev N_l_flat : List Str := ["_law_rows", "_law_found", "_law_row"]
theorem sc_l_flat : FnScope N_l_flat ["_law_rows"] (defScope s_l_flat) := ⟨rfl, rfl, rfl, by decide +kernel, rfl, by decide +kernel, by decide +kernel⟩
abbrev s_l_dice : PySem.Stmt := top 42
abbrev N_l_dice : List Str := ["_law_cell"]
theorem sc_l_dice : FnScope N_l_dice ["_law_cell"] (defScope s_l_dice) := ⟨rfl, rfl, rfl, by decide +kernel, rfl, by decide +kernel, by decide +kernel⟩
abbrev s_l_roll : PySem.Stmt := top 43
abbrev N_l_roll : List Str := ["_law_dice_here", "_law_many", "_law_found"]
theorem sc_l_roll : FnScope N_l_roll ["_law_dice_here", "_law_many"] (defScope s_l_roll) := ⟨rfl, rfl, rfl, by decide +kernel, rfl, by decide +kernel, by decide +kernel⟩
abbrev s_l_rounds : PySem.Stmt := top 44
abbrev N_l_rounds : List Str := ["_law_script", "_law_most", "_law_cells", "_law_cell"]
theorem sc_l_rounds : FnScope N_l_rounds ["_law_script", "_law_most"] (defScope s_l_rounds) := ⟨rfl, rfl, rfl, by decide +kernel, rfl, by decide +kernel, by decide +kernel⟩
abbrev s_l_told : PySem.Stmt := top 45
abbrev N_l_told : List Str := ["_law_what"]
theorem sc_l_told : FnScope N_l_told ["_law_what"] (defScope s_l_told) := ⟨rfl, rfl, rfl, by decide +kernel, rfl, by decide +kernel, by decide +kernel⟩
abbrev s_l_part : PySem.Stmt := top 46
abbrev N_l_part : List Str := ["_law_dice_here", "_law_kind", "_law_terms", "_law_k"]
theorem sc_l_part : FnScope N_l_part ["_law_dice_here"] (defScope s_l_part) := ⟨rfl, rfl, rfl, by decide +kernel, rfl, by decide +kernel, by decide +kernel⟩
abbrev s_l_names : PySem.Stmt := top 47
abbrev N_l_names : List Str := ["_law_terms", "_law_term"]
theorem sc_l_names : FnScope N_l_names ["_law_terms"] (defScope s_l_names) := ⟨rfl, rfl, rfl, by decide +kernel, rfl, by decide +kernel, by decide +kernel⟩
abbrev s_l_ready : PySem.Stmt := top 48
abbrev N_l_ready : List Str := ["_law_parts", "_law_j", "_law_bound", "_law_kind", "_law_name", "_law_terms", "_law_others", "_law_needs_now", "_law_k", "_law_term", "_law_one"]
theorem sc_l_ready : FnScope N_l_ready ["_law_parts", "_law_j", "_law_bound"] (defScope s_l_ready) := ⟨rfl, rfl, rfl, by decide +kernel, rfl, by decide +kernel, by decide +kernel⟩
abbrev s_l_gives : PySem.Stmt := top 49
abbrev N_l_gives : List Str := ["_law_part_here"]
theorem sc_l_gives : FnScope N_l_gives ["_law_part_here"] (defScope s_l_gives) := ⟨rfl, rfl, rfl, by decide +kernel, rfl, by decide +kernel, by decide +kernel⟩
abbrev s_l_weight : PySem.Stmt := top 50
abbrev N_l_weight : List Str := ["_law_parts", "_law_j", "_law_bound", "_law_sizes", "_law_kind", "_law_name", "_law_terms", "_law_known", "_law_term"]
theorem sc_l_weight : FnScope N_l_weight ["_law_parts", "_law_j", "_law_bound", "_law_sizes"] (defScope s_l_weight) := ⟨rfl, rfl, rfl, by decide +kernel, rfl, by decide +kernel, by decide +kernel⟩
abbrev s_l_planned : PySem.Stmt := top 51
abbrev N_l_planned : List Str := ["_law_parts", "_law_given", "_law_sizes", "_law_bound", "_law_order", "_law_good", "_law_j"]
theorem sc_l_planned : FnScope N_l_planned ["_law_parts", "_law_given", "_law_sizes"] (defScope s_l_planned) := ⟨rfl, rfl, rfl, by decide +kernel, rfl, by decide +kernel, by decide +kernel⟩
abbrev s_law : PySem.Stmt := top 52
abbrev N_law : List Str := ["_law_script", "_law_make", "_law_dice_here", "_law_parts", "_law_rule", "_law_given", "_law_sizes", "_law_due", "_law_told_now", "_law_orders", "_law_turn", "_law_fresh_now", "_law_order", "_law_bound", "_law_one", "_law_step", "_law_known", "_law_first", "_law_k", "_law_kind", "_law_name", "_law_terms", "_law_term", "_law_j"]
theorem sc_law : FnScope N_law ["_law_script"] (defScope s_law) := ⟨rfl, rfl, rfl, by decide +kernel, rfl, by decide +kernel, by decide +kernel⟩
abbrev le__law_make : Expr := asgVal ((defBody s_law).getD 0 (.Pass ⟨0, 0, 0, 0⟩))
abbrev la__law_make : Arguments := lamArgs le__law_make
abbrev lb__law_make : Expr := lamBody le__law_make
abbrev ls__law_make : Scope := lamScope le__law_make
theorem sc_lam__law_make : FnScope ["_law_term"] ["_law_term"] ls__law_make := ⟨rfl, rfl, rfl, by decide +kernel, rfl, by decide +kernel, by decide +kernel⟩
structure Ad where
  C_BadSign : Addr
  C_BadRule : Addr
  C_BadKind : Addr
  C_BadLayer : Addr
  C_NoSuch : Addr
  C_BadDeed : Addr
  C_BadGround : Addr
  C_BadStore : Addr
  C_Broken : Addr
  C_BadSize : Addr
  cL : Addr
  PL : Addr
  f_Term_init : Addr
  d_Term_init : FuncData
  f_Term_is_variable : Addr
  d_Term_is_variable : FuncData
  f_Term_known : Addr
  d_Term_known : FuncData
  f_var : Addr
  d_var : FuncData
  f_val : Addr
  d_val : FuncData
  f_names_in : Addr
  d_names_in : FuncData
  f_Literal_init : Addr
  d_Literal_init : FuncData
  f_Literal_names : Addr
  d_Literal_names : FuncData
  f_Rule_init : Addr
  d_Rule_init : FuncData
  f_how_often : Addr
  d_how_often : FuncData
  f_needs : Addr
  d_needs : FuncData
  f_gives : Addr
  d_gives : FuncData
  f_shared : Addr
  d_shared : FuncData
  f_ready : Addr
  d_ready : FuncData
  f_Plan_init : Addr
  d_Plan_init : FuncData
  f_Plan_bound_at : Addr
  d_Plan_bound_at : FuncData
  f_Plan_known_places : Addr
  d_Plan_known_places : FuncData
  f_Plan_shown : Addr
  d_Plan_shown : FuncData
  f_known_at : Addr
  d_known_at : FuncData
  f_weight : Addr
  d_weight : FuncData
  f_bound_by : Addr
  d_bound_by : FuncData
  f_plan : Addr
  d_plan : FuncData
  e_plan : Addr
  f_lightest : Addr
  d_lightest : FuncData
  f_next_parts : Addr
  d_next_parts : FuncData
  f_binds : Addr
  d_binds : FuncData
  f_bound_behind : Addr
  d_bound_behind : FuncData
  f_is_plan : Addr
  d_is_plan : FuncData
  e_is_plan : Addr
  f_all_plans : Addr
  d_all_plans : FuncData
  e_all_plans : Addr
  f_l_flat : Addr
  d_l_flat : FuncData
  f_l_dice : Addr
  d_l_dice : FuncData
  f_l_roll : Addr
  d_l_roll : FuncData
  f_l_rounds : Addr
  d_l_rounds : FuncData
  f_l_told : Addr
  d_l_told : FuncData
  f_l_part : Addr
  d_l_part : FuncData
  f_l_names : Addr
  d_l_names : FuncData
  f_l_ready : Addr
  d_l_ready : FuncData
  f_l_gives : Addr
  d_l_gives : FuncData
  f_l_weight : Addr
  d_l_weight : FuncData
  f_l_planned : Addr
  d_l_planned : FuncData
  f_law : Addr
  d_law : FuncData
  C_Term : Addr
  C_Literal : Addr
  C_Rule : Addr
  C_Plan : Addr
/-- what the top leaves -/
structure Txt (K : PySem.W.Frag) (mg : Str → Option Value) (A : Ad) : Prop where
  F_Term_init : FunD K "__init__" "Term.__init__" (defArgs s_Term_init) (defBody s_Term_init) (defScope s_Term_init) [.non] [] A.f_Term_init A.d_Term_init
  b_Term_init : Binds K A.d_Term_init ["self", "name", "value"] []
  bd_Term_init : ∃ ds, Vals [.non] ds ∧ Binds K A.d_Term_init ["self", "name", "value"] ds
  F_Term_is_variable : Fun K "is_variable" "Term.is_variable" s_Term_is_variable A.f_Term_is_variable A.d_Term_is_variable
  b_Term_is_variable : Binds K A.d_Term_is_variable ["self"] []
  e_Term_is_variable : Meth K A.C_Term "is_variable" A.f_Term_is_variable
  F_Term_known : Fun K "known" "Term.known" s_Term_known A.f_Term_known A.d_Term_known
  b_Term_known : Binds K A.d_Term_known ["self", "bound"] []
  e_Term_known : Meth K A.C_Term "known" A.f_Term_known
  F_var : Fun K "var" "var" s_var A.f_var A.d_var
  b_var : Binds K A.d_var ["name"] []
  m_var : mg "var" = some (.ref A.f_var)
  F_val : Fun K "val" "val" s_val A.f_val A.d_val
  b_val : Binds K A.d_val ["value"] []
  m_val : mg "val" = some (.ref A.f_val)
  F_names_in : Fun K "names_in" "names_in" s_names_in A.f_names_in A.d_names_in
  b_names_in : Binds K A.d_names_in ["terms"] []
  m_names_in : mg "names_in" = some (.ref A.f_names_in)
  F_Literal_init : Fun K "__init__" "Literal.__init__" s_Literal_init A.f_Literal_init A.d_Literal_init
  b_Literal_init : Binds K A.d_Literal_init ["self", "kind", "name", "terms"] []
  F_Literal_names : Fun K "names" "Literal.names" s_Literal_names A.f_Literal_names A.d_Literal_names
  b_Literal_names : Binds K A.d_Literal_names ["self"] []
  e_Literal_names : Meth K A.C_Literal "names" A.f_Literal_names
  F_Rule_init : FunD K "__init__" "Rule.__init__" (defArgs s_Rule_init) (defBody s_Rule_init) (defScope s_Rule_init) [.non] [] A.f_Rule_init A.d_Rule_init
  b_Rule_init : Binds K A.d_Rule_init ["self", "name", "terms", "body", "summed"] []
  bd_Rule_init : ∃ ds, Vals [.non] ds ∧ Binds K A.d_Rule_init ["self", "name", "terms", "body", "summed"] ds
  F_how_often : Fun K "how_often" "how_often" s_how_often A.f_how_often A.d_how_often
  b_how_often : Binds K A.d_how_often ["rows"] []
  m_how_often : mg "how_often" = some (.ref A.f_how_often)
  F_needs : Fun K "needs" "needs" s_needs A.f_needs A.d_needs
  b_needs : Binds K A.d_needs ["rule", "number"] []
  m_needs : mg "needs" = some (.ref A.f_needs)
  F_gives : Fun K "gives" "gives" s_gives A.f_gives A.d_gives
  b_gives : Binds K A.d_gives ["rule", "number"] []
  m_gives : mg "gives" = some (.ref A.f_gives)
  F_shared : Fun K "shared" "shared" s_shared A.f_shared A.d_shared
  b_shared : Binds K A.d_shared ["rule", "number", "name"] []
  m_shared : mg "shared" = some (.ref A.f_shared)
  F_ready : Fun K "ready" "ready" s_ready A.f_ready A.d_ready
  b_ready : Binds K A.d_ready ["rule", "number", "bound"] []
  m_ready : mg "ready" = some (.ref A.f_ready)
  F_Plan_init : Fun K "__init__" "Plan.__init__" s_Plan_init A.f_Plan_init A.d_Plan_init
  b_Plan_init : Binds K A.d_Plan_init ["self", "rule", "order", "given"] []
  F_Plan_bound_at : Fun K "bound_at" "Plan.bound_at" s_Plan_bound_at A.f_Plan_bound_at A.d_Plan_bound_at
  b_Plan_bound_at : Binds K A.d_Plan_bound_at ["self", "step"] []
  e_Plan_bound_at : Meth K A.C_Plan "bound_at" A.f_Plan_bound_at
  F_Plan_known_places : Fun K "known_places" "Plan.known_places" s_Plan_known_places A.f_Plan_known_places A.d_Plan_known_places
  b_Plan_known_places : Binds K A.d_Plan_known_places ["self", "step"] []
  e_Plan_known_places : Meth K A.C_Plan "known_places" A.f_Plan_known_places
  F_Plan_shown : Fun K "shown" "Plan.shown" s_Plan_shown A.f_Plan_shown A.d_Plan_shown
  b_Plan_shown : Binds K A.d_Plan_shown ["self"] []
  e_Plan_shown : Meth K A.C_Plan "shown" A.f_Plan_shown
  F_known_at : Fun K "known_at" "known_at" s_known_at A.f_known_at A.d_known_at
  b_known_at : Binds K A.d_known_at ["rule", "number", "bound"] []
  m_known_at : mg "known_at" = some (.ref A.f_known_at)
  F_weight : Fun K "weight" "weight" s_weight A.f_weight A.d_weight
  b_weight : Binds K A.d_weight ["rule", "number", "bound", "sizes"] []
  m_weight : mg "weight" = some (.ref A.f_weight)
  F_bound_by : Fun K "bound_by" "bound_by" s_bound_by A.f_bound_by A.d_bound_by
  b_bound_by : Binds K A.d_bound_by ["given", "taken"] []
  m_bound_by : mg "bound_by" = some (.ref A.f_bound_by)
  sq_plan : ∀ H, SqT K H A.e_plan []
  F_plan : FunD K "plan" "plan" (defArgs s_plan) (defBody s_plan) (defScope s_plan) [.non, (.ref A.e_plan)] [] A.f_plan A.d_plan
  b_plan : Binds K A.d_plan ["rule", "sizes", "first", "given"] []
  bd_plan : ∃ ds, Vals [.non, (.ref A.e_plan)] ds ∧ Binds K A.d_plan ["rule", "sizes", "first", "given"] ds
  m_plan : mg "plan" = some (.ref A.f_plan)
  F_lightest : Fun K "lightest" "lightest" s_lightest A.f_lightest A.d_lightest
  b_lightest : Binds K A.d_lightest ["rule", "order", "bound", "sizes"] []
  m_lightest : mg "lightest" = some (.ref A.f_lightest)
  F_next_parts : Fun K "next_parts" "next_parts" s_next_parts A.f_next_parts A.d_next_parts
  b_next_parts : Binds K A.d_next_parts ["rule", "order", "bound"] []
  m_next_parts : mg "next_parts" = some (.ref A.f_next_parts)
  F_binds : Fun K "binds" "binds" s_binds A.f_binds A.d_binds
  b_binds : Binds K A.d_binds ["rule", "number"] []
  m_binds : mg "binds" = some (.ref A.f_binds)
  F_bound_behind : Fun K "bound_behind" "bound_behind" s_bound_behind A.f_bound_behind A.d_bound_behind
  b_bound_behind : Binds K A.d_bound_behind ["rule", "order", "given"] []
  m_bound_behind : mg "bound_behind" = some (.ref A.f_bound_behind)
  sq_is_plan : ∀ H, SqT K H A.e_is_plan []
  F_is_plan : FunD K "is_plan" "is_plan" (defArgs s_is_plan) (defBody s_is_plan) (defScope s_is_plan) [(.ref A.e_is_plan)] [] A.f_is_plan A.d_is_plan
  b_is_plan : Binds K A.d_is_plan ["rule", "order", "given"] []
  bd_is_plan : ∃ ds, Vals [(.ref A.e_is_plan)] ds ∧ Binds K A.d_is_plan ["rule", "order", "given"] ds
  m_is_plan : mg "is_plan" = some (.ref A.f_is_plan)
  sq_all_plans : ∀ H, SqT K H A.e_all_plans []
  F_all_plans : FunD K "all_plans" "all_plans" (defArgs s_all_plans) (defBody s_all_plans) (defScope s_all_plans) [(.ref A.e_all_plans)] [] A.f_all_plans A.d_all_plans
  b_all_plans : Binds K A.d_all_plans ["rule", "given"] []
  bd_all_plans : ∃ ds, Vals [(.ref A.e_all_plans)] ds ∧ Binds K A.d_all_plans ["rule", "given"] ds
  m_all_plans : mg "all_plans" = some (.ref A.f_all_plans)
  F_l_flat : Fun K "_law_flat" "_law_flat" s_l_flat A.f_l_flat A.d_l_flat
  b_l_flat : Binds K A.d_l_flat ["_law_rows"] []
  m_l_flat : mg "_law_flat" = some (.ref A.f_l_flat)
  F_l_dice : Fun K "_law_dice" "_law_dice" s_l_dice A.f_l_dice A.d_l_dice
  b_l_dice : Binds K A.d_l_dice ["_law_cell"] []
  m_l_dice : mg "_law_dice" = some (.ref A.f_l_dice)
  F_l_roll : Fun K "_law_roll" "_law_roll" s_l_roll A.f_l_roll A.d_l_roll
  b_l_roll : Binds K A.d_l_roll ["_law_dice_here", "_law_many"] []
  m_l_roll : mg "_law_roll" = some (.ref A.f_l_roll)
  F_l_rounds : Fun K "_law_rounds" "_law_rounds" s_l_rounds A.f_l_rounds A.d_l_rounds
  b_l_rounds : Binds K A.d_l_rounds ["_law_script", "_law_most"] []
  m_l_rounds : mg "_law_rounds" = some (.ref A.f_l_rounds)
  F_l_told : Fun K "_law_told" "_law_told" s_l_told A.f_l_told A.d_l_told
  b_l_told : Binds K A.d_l_told ["_law_what"] []
  m_l_told : mg "_law_told" = some (.ref A.f_l_told)
  F_l_part : Fun K "_law_part" "_law_part" s_l_part A.f_l_part A.d_l_part
  b_l_part : Binds K A.d_l_part ["_law_dice_here"] []
  m_l_part : mg "_law_part" = some (.ref A.f_l_part)
  F_l_names : Fun K "_law_names" "_law_names" s_l_names A.f_l_names A.d_l_names
  b_l_names : Binds K A.d_l_names ["_law_terms"] []
  m_l_names : mg "_law_names" = some (.ref A.f_l_names)
  F_l_ready : Fun K "_law_ready" "_law_ready" s_l_ready A.f_l_ready A.d_l_ready
  b_l_ready : Binds K A.d_l_ready ["_law_parts", "_law_j", "_law_bound"] []
  m_l_ready : mg "_law_ready" = some (.ref A.f_l_ready)
  F_l_gives : Fun K "_law_gives" "_law_gives" s_l_gives A.f_l_gives A.d_l_gives
  b_l_gives : Binds K A.d_l_gives ["_law_part_here"] []
  m_l_gives : mg "_law_gives" = some (.ref A.f_l_gives)
  F_l_weight : Fun K "_law_weight" "_law_weight" s_l_weight A.f_l_weight A.d_l_weight
  b_l_weight : Binds K A.d_l_weight ["_law_parts", "_law_j", "_law_bound", "_law_sizes"] []
  m_l_weight : mg "_law_weight" = some (.ref A.f_l_weight)
  F_l_planned : Fun K "_law_planned" "_law_planned" s_l_planned A.f_l_planned A.d_l_planned
  b_l_planned : Binds K A.d_l_planned ["_law_parts", "_law_given", "_law_sizes"] []
  m_l_planned : mg "_law_planned" = some (.ref A.f_l_planned)
  F_law : Fun K "law" "law" s_law A.f_law A.d_law
  b_law : Binds K A.d_law ["_law_script"] []
  m_law : mg "law" = some (.ref A.f_law)
  m_Term : mg "Term" = some (.ref A.C_Term)
  cl_Term : Cls K A.C_Term
  M_Term : Mk K A.C_Term A.f_Term_init
  n_Term_name : NoAttr K A.C_Term "name"
  n_Term_value : NoAttr K A.C_Term "value"
  m_Literal : mg "Literal" = some (.ref A.C_Literal)
  cl_Literal : Cls K A.C_Literal
  M_Literal : Mk K A.C_Literal A.f_Literal_init
  n_Literal_kind : NoAttr K A.C_Literal "kind"
  n_Literal_name : NoAttr K A.C_Literal "name"
  n_Literal_terms : NoAttr K A.C_Literal "terms"
  n_Literal_own : NoAttr K A.C_Literal "own"
  m_Rule : mg "Rule" = some (.ref A.C_Rule)
  cl_Rule : Cls K A.C_Rule
  M_Rule : Mk K A.C_Rule A.f_Rule_init
  n_Rule_name : NoAttr K A.C_Rule "name"
  n_Rule_terms : NoAttr K A.C_Rule "terms"
  n_Rule_body : NoAttr K A.C_Rule "body"
  n_Rule_summed : NoAttr K A.C_Rule "summed"
  n_Rule_stands : NoAttr K A.C_Rule "stands"
  m_Plan : mg "Plan" = some (.ref A.C_Plan)
  cl_Plan : Cls K A.C_Plan
  M_Plan : Mk K A.C_Plan A.f_Plan_init
  n_Plan_rule : NoAttr K A.C_Plan "rule"
  n_Plan_order : NoAttr K A.C_Plan "order"
  n_Plan_given : NoAttr K A.C_Plan "given"
  n_Plan_told_first : NoAttr K A.C_Plan "told_first"
  q_BadSign : mg "BadSign" = some (.ref A.C_BadSign)
  q_BadRule : mg "BadRule" = some (.ref A.C_BadRule)
  q_BadKind : mg "BadKind" = some (.ref A.C_BadKind)
  q_BadLayer : mg "BadLayer" = some (.ref A.C_BadLayer)
  q_NoSuch : mg "NoSuch" = some (.ref A.C_NoSuch)
  q_BadDeed : mg "BadDeed" = some (.ref A.C_BadDeed)
  q_BadGround : mg "BadGround" = some (.ref A.C_BadGround)
  q_BadStore : mg "BadStore" = some (.ref A.C_BadStore)
  q_Broken : mg "Broken" = some (.ref A.C_Broken)
  q_BadSize : mg "BadSize" = some (.ref A.C_BadSize)
  x_BadRule : PySem.W.excIn K A.C_BadRule [.type "ValueError", .type "Exception", .type "BaseException", .type "object"] "ValueError.__new__" = true
  k_BadRule : PySem.W.keepIn K (.ref A.C_BadRule) = true
  sb_BadRule : PySem.W.subIn K (.ref A.C_BadRule) (.type "BaseException") = some true
  ty_BadRule : PySem.W.typeIn K (.ref A.C_BadRule) = some (.type "type")
  m_BadRule_BadSign : PySem.W.exmOne K (.ref A.C_BadRule) (.ref A.C_BadSign) = some false
  m_BadRule_BadRule : PySem.W.exmOne K (.ref A.C_BadRule) (.ref A.C_BadRule) = some true
  C_law : FunC K "law" "law" s_law A.f_law A.d_law A.cL
  H_law : PySem.W.codeHdIn K A.cL A.PL = true
  z_abs : mg "abs" = none
  z_all : mg "all" = none
  z_dict : mg "dict" = none
  z_enumerate : mg "enumerate" = none
  z_int : mg "int" = none
  z_isinstance : mg "isinstance" = none
  z_len : mg "len" = none
  z_list : mg "list" = none
  z_min : mg "min" = none
  z_range : mg "range" = none
  z_sorted : mg "sorted" = none
  z_str : mg "str" = none
  z_tuple : mg "tuple" = none

/-! ### objects: a Term has a name and a value -/
theorem nv_ : ¬ (("name" : Str) = "value") := by decide +kernel
theorem vn_ : ¬ (("value" : Str) = "name") := by decide +kernel
def tf (n : Str) (v : V) : List (Str × V) := putF "value" v (putF "name" (.str n) [])
theorem tf_name (n : Str) (v : V) : (tf n v).lookup ("name" : Str) = some (.str n) := by
  unfold tf
  rw [lookup_putF, if_neg nv_, lookup_putF, if_pos rfl]
theorem tf_value (n : Str) (v : V) : (tf n v).lookup ("value" : Str) = some v := by
  unfold tf
  rw [lookup_putF, if_pos rfl]
theorem tf_no (n : Str) (v : V) {m : Str} (h1 : ¬ m = "value") (h2 : ¬ m = "name") : (tf n v).lookup m = none := by
  unfold tf
  rw [lookup_putF, if_neg h1, lookup_putF, if_neg h2]
  all_goals rfl
/-- a Term stands at a -/
def TmAt (C : Addr) (H : Hp) (a : Addr) (n : Str) (v : V) : Prop := ∃ dx, H a = some (.ins C dx (tf n v))

theorem same_new {H : Hp} {p : Addr} {o : HO} (h : H p = none) : Same H (upd H p o) := fun b u e => by
  rw [upd_ne (ne_of_none e h)]
  exact e

def spInit (C : Addr) : Sp := fun vs H Q _ => ∃ (p dx : Addr) (n : Str) (v : V), vs = [.ref p, .str n, v] ∧ H p = some (.ins C dx []) ∧ ∀ H', TmAt C H' p n v → (∀ b o, H b = some o → b ≠ p → H' b = some o) → Q .non H'
def spIsVar (C : Addr) : Sp := fun vs H Q _ => ∃ (p : Addr) (n : Str) (v : V), vs = [.ref p] ∧ TmAt C H p n v ∧ Q (.bl (!decide (n = ""))) H
def spVar (C : Addr) : Sp := fun vs H Q _ => ∃ n : Str, vs = [.str n] ∧ ∀ x H', H x = none → TmAt C H' x n .non → Same H H' → Q (.ref x) H'
def spVal (C : Addr) : Sp := fun vs H Q _ => ∃ v : V, vs = [v] ∧ ∀ x H', H x = none → TmAt C H' x "" v → Same H H' → Q (.ref x) H'
section
variable {P : Program} {w : World} {K : PySem.W.Frag} {mg : Str → Option Value} {base : Heap} {A : Ad}
theorem ok_init (T : Txt K mg A) : FnOk P w K mg base CX0 1 A.f_Term_init A.d_Term_init ["self", "name", "value"] (spInit A.C_Term) := by
  refine T.F_Term_init.ok sc_Term_init (fun vs H Q E h => ?_) (fun cdv ar outer s H vs Q E hr h => ?_)
  · obtain ⟨p, dx, n, v, rfl, _⟩ := h
    rfl
  · obtain ⟨p, dx, n, v, rfl, hp, k⟩ := h
    refine ⟨_, (pss_cons (sfldK K (pv 0) (pv 1) rfl)
      (pss_one (sfldK K (pv 0) (pv 2) rfl))), ?_⟩
    refine ⟨_, rfl, _, rfl, p, _, dx, _, rfl, hp, T.cl_Term, T.n_Term_name, (by show 0 < 1000; decide), _, rfl, _, rfl, p, _, dx, _, rfl, upd_same, T.cl_Term, T.n_Term_value, (by show 1 < 1000; decide), ?_⟩
    exact k _ ⟨dx, upd_same⟩ fun b o e hb => by rw [upd_ne hb, upd_ne hb]; exact e
theorem ok_is_variable (T : Txt K mg A) : FnOk P w K mg base CX0 1 A.f_Term_is_variable A.d_Term_is_variable ["self"] (spIsVar A.C_Term) := by
  refine T.F_Term_is_variable.ok sc_Term_is_variable (fun vs H Q E h => ?_) (fun cdv ar outer s H vs Q E hr h => ?_)
  · obtain ⟨p, n, v, rfl, _⟩ := h
    rfl
  · obtain ⟨p, n, v, rfl, ⟨dx, hp⟩, k⟩ := h
    refine ⟨_, (pss_one (ps_ret (pe_cmpR op_ne (fldK K (pv 0) rfl) pe_str (nomark _)))), ?_⟩
    refine ⟨_, rfl, p, _, dx, _, _, rfl, hp, T.cl_Term, T.n_Term_name, tf_name _ _, rfl, ?_⟩
    have e : decide (V.str n = V.str "") = decide (n = ("" : Str)) := by simp
    show Q (V.bl (!decide (V.str n = V.str ""))) H
    rw [e]
    exact k
theorem no_isv (n : Str) (v : V) : (tf n v).lookup ("is_variable" : Str) = none := tf_no n v (by decide +kernel) (by decide +kernel)
theorem ok_var (T : Txt K mg A) : FnOk P w K mg base CX0 3 A.f_var A.d_var ["name"] (spVar A.C_Term) := by
  have G_Term_init : FnOk P w K mg base CX0 1 A.f_Term_init A.d_Term_init ["self", "name", "value"] (spInit A.C_Term) := ok_init T
  obtain ⟨ds, hv_Term_init, hb_Term_init⟩ := T.bd_Term_init
  refine T.F_var.ok sc_var (fun vs H Q E h => ?_) (fun cdv ar outer s H vs Q E hr h => ?_)
  · obtain ⟨n, rfl, _⟩ := h
    rfl
  · obtain ⟨n, rfl, k⟩ := h
    refine ⟨_, (pss_one (ps_ret (pe_make T.M_Term G_Term_init (hr.mono (by decide)) (by rfl) T.m_Term hb_Term_init hv_Term_init pass0 (pa_cons (pv 0) pa_nil)))), ?_⟩
    refine ⟨_, rfl, fun x dx nx ndx nex => ?_⟩
    refine ⟨x, dx, n, .non, rfl, upd_same, fun H' h1 h2 => ⟨rfl, k x H' nx h1 fun b o e => ?_⟩⟩
    exact h2 b o (by rw [upd_ne (ne_of_none e nx), upd_ne (ne_of_none e ndx)]; exact e) (ne_of_none e nx)
theorem ok_val (T : Txt K mg A) : FnOk P w K mg base CX0 3 A.f_val A.d_val ["value"] (spVal A.C_Term) := by
  have G_Term_init : FnOk P w K mg base CX0 1 A.f_Term_init A.d_Term_init ["self", "name", "value"] (spInit A.C_Term) := ok_init T
  refine T.F_val.ok sc_val (fun vs H Q E h => ?_) (fun cdv ar outer s H vs Q E hr h => ?_)
  · obtain ⟨v, rfl, _⟩ := h
    rfl
  · obtain ⟨v, rfl, k⟩ := h
    refine ⟨_, (pss_one (ps_ret (pe_make T.M_Term G_Term_init (hr.mono (by decide)) (by rfl) T.m_Term T.b_Term_init .nil pass0 (pa_cons pe_str (pa_cons (pv 0) pa_nil))))), ?_⟩
    refine ⟨_, rfl, fun x dx nx ndx nex => ?_⟩
    refine ⟨x, dx, "", v, rfl, upd_same, fun H' h1 h2 => ⟨rfl, k x H' nx h1 fun b o e => ?_⟩⟩
    exact h2 b o (by rw [upd_ne (ne_of_none e nx), upd_ne (ne_of_none e ndx)]; exact e) (ne_of_none e nx)
end
end Toy

set_option Elab.async false
set_option maxRecDepth 100000
set_option maxHeartbeats 4000000
namespace Toy
open PySem L2
theorem iteD {c : Prop} [Decidable c] {A B : Prop} (h1 : c → A) (h2 : ¬ c → B) : if decide c = true then A else B := by
  by_cases h : c
  · rw [decide_eq_true h]; exact iteT (h1 h)
  · rw [decide_eq_false h]; exact iteF (h2 h)
theorem iteND {c : Prop} [Decidable c] {A B : Prop} (h1 : ¬ c → A) (h2 : c → B) : if (!decide c) = true then A else B := by
  by_cases h : c
  · rw [decide_eq_true h]; exact iteF (h2 h)
  · rw [decide_eq_false h]; exact iteT (h1 h)
theorem iteB {c : Bool} {A B : Prop} (h1 : c = true → A) (h2 : c = false → B) : if c = true then A else B := by
  cases c
  · exact iteF (h2 rfl)
  · exact iteT (h1 rfl)
theorem ifs_of {c : TT} {t u : TS} {D : Ends} {σ : L2.St} {H : Hp} (b : Bool) (hc : ∀ Q : Bool → Hp → Prop, Q b H → c σ H Q) (h1 : b = true → t D σ H) (h2 : b = false → u D σ H) : tIfS c t u D σ H :=
  hc _ (iteB h1 h2)
theorem dec_int (i j : Int) : decide (V.int i = V.int j) = decide (i = j) := by simp
theorem dec_str (i j : Str) : decide (V.str i = V.str j) = decide (i = j) := by simp
theorem dec_bl (i j : Bool) : decide (V.bl i = V.bl j) = decide (i = j) := by simp
/-! ### dice -/
def DiceAt (H : Hp) (d : Addr) : Prop := ∃ x y z : Int, H d = some (.lst [.int x, .int y, .int z])
def spDice : Sp := fun vs H Q _ => ∃ c : Int, vs = [.int c] ∧ ∀ (p : Addr) (x y z : Int), H p = none → Q (.ref p) (upd H p (.lst [.int x, .int y, .int z]))
def spRoll : Sp := fun vs H Q _ => ∃ (d : Addr) (m : Int), vs = [.ref d, .int m] ∧ DiceAt H d ∧ 0 < m ∧ m < 1000 ∧ ∀ (k : Int) (H' : Hp), 0 ≤ k → k < m → DiceAt H' d → (∀ b, b ≠ d → H' b = H b) → Q (.int k) H'
def spRounds (K : PySem.W.Frag) : Sp := fun vs H Q _ => ∃ (a : Addr) (ns : List Int), vs = [.ref a, .int 1] ∧ SqL K H a (ns.map V.int) ∧
  ∀ (p d : Addr) (H' : Hp), Same H H' → H p = none → H d = none → d ≠ p → DiceAt H' d → H' p = some (.lst [.ref d]) → Q (.ref p) H'
section
variable {P : Program} {w : World} {K : PySem.W.Frag} {mg : Str → Option Value} {base : Heap} {A : Ad}
theorem ok_dice (T : Txt K mg A) : FnOk P w K mg base CX0 1 A.f_l_dice A.d_l_dice ["_law_cell"] spDice := by
  refine T.F_l_dice.ok sc_l_dice (fun vs H Q E h => ?_) (fun cdv ar outer s H vs Q E hr h => ?_)
  · obtain ⟨c, rfl, _⟩ := h
    rfl
  · obtain ⟨c, rfl, k⟩ := h
    refine ⟨_, (pss_cons (ps_if (pt_chain op_lt op_lt (pe_op op_sub pe_int pe_int) (pv 0) pe_int)
        (pss_one (ps_ret (pe_lst (pa_cons (pe_callB absK (by rfl) T.z_abs (by decide +kernel) (pa_cons (pv 0) pa_nil)) (pa_cons pe_int (pa_cons pe_int pa_nil))))))
        pss_nil)
      (pss_one (ps_ret (pe_lst (pa_cons (pv 0) (pa_cons (pe_op op_add pe_int (pe_op op_mod (pe_callTy int1K (by rfl) T.z_int (by decide +kernel) (pa_cons (pv 0) pa_nil)) pe_int)) (pa_cons (pe_callTy int1K (by rfl) T.z_int (by decide +kernel) (pa_cons (pe_cmpR op_ge (pv 0) (pe_op op_pow pe_int pe_int) (nomark _)) pa_nil)) pa_nil))))))), ?_⟩
    have back : tRet (tLst (tCons (tVar 0) (tCons (tOp (rI0 fun i j => V.int (i + j)) (tC (V.int 1)) (tOp (rI (fun x j => 0 < j) fun i j => V.int (i % j)) (tCB (fun xs H Q => (∃ i, xs = [V.int i] ∧ Q (V.int i) H) ∨ ∃ k, xs = [V.bl k] ∧ Q (V.int (if k = true then 1 else 0)) H) (tCons (tVar 0) tNil)) (tC (V.int 1009))))
        (tCons (tCB (fun xs H Q => (∃ i, xs = [V.int i] ∧ Q (V.int i) H) ∨ ∃ k, xs = [V.bl k] ∧ Q (V.int (if k = true then 1 else 0)) H) (tCons (tOp (rI0 fun i j => V.bl (decide (j ≤ i))) (tVar 0) (tOp (rI CPow fun i j => V.int (i ^ j.toNat)) (tC (V.int 10)) (tC (V.int 18)))) tNil)) tNil))))
        { nx := fun x H' => Q V.non H', rt := Q } (L2.start N_l_dice [V.int c]) H := by
      refine ⟨_, rfl, _, rfl, .inl ⟨_, rfl, _, _, rfl, rfl, (by show (0 : Int) < 1009; decide), _, _, rfl, rfl, _, rfl, _, _, rfl, rfl, (by exact ⟨by decide, by decide, by decide⟩), _, _, rfl, rfl, .inr ⟨_, rfl, (by show 3 ≤ sizeLine; decide), fun p hp => k _ _ _ _ hp⟩⟩⟩
    refine ⟨_, _, rfl, rfl, _, rfl, _, _, rfl, rfl, _, rfl, ?_⟩
    refine iteD (fun _ => ?_) (fun _ => ?_)
    · refine ⟨_, _, rfl, rfl, _, rfl, ?_⟩
      refine iteD (fun _ => ?_) (fun _ => back)
      exact ⟨_, rfl, _, rfl, (by show 3 ≤ sizeLine; decide), fun p hp => k _ _ _ _ hp⟩
    · exact ⟨_, rfl, iteF back⟩
theorem ok_roll (T : Txt K mg A) : FnOk P w K mg base CX0 1 A.f_l_roll A.d_l_roll ["_law_dice_here", "_law_many"] spRoll := by
  refine T.F_l_roll.ok sc_l_roll (fun vs H Q E h => ?_) (fun cdv ar outer s H vs Q E hr h => ?_)
  · obtain ⟨d, m, rfl, _⟩ := h
    rfl
  · obtain ⟨d, m, rfl, ⟨x, y, z, hd⟩, m0, m1, k⟩ := h
    refine ⟨_, (pss_cons (ps_if (PW.pt (pw_or (pt_cmpR op_eq (pe_ix (ixL K) (pv 0) pe_int (fun _ _ => rfl)) pe_int (nomark _)) (pw_or1 (PW.pt (pw_and (pt_cmpR op_eq (pe_ix (ixL K) (pv 0) pe_int (fun _ _ => rfl)) pe_int (nomark _)) (pw_and1 (pt_cmpR op_gt (pe_ix (ixL K) (pv 0) pe_int (fun _ _ => rfl)) pe_int (nomark _))))))))
        (pss_cons (ps_set (i := 2) sc_l_roll.nd rfl (Or.inl rfl) (pe_op op_mod (pe_callTy int1K (by rfl) T.z_int (by decide +kernel) (pa_cons (pe_ix (ixL K) (pv 0) pe_int (fun _ _ => rfl)) pa_nil)) (pv 1)))
        (pss_cons (ps_asg (pe_op op_fdiv (pe_ix (ixL K) (pv 0) pe_int (fun _ _ => rfl)) (pv 1)) (pg_sub (pv 0) pe_int set_list))
        (pss_one (ps_ret (pv 2)))))
        pss_nil)
      (pss_cons (ps_asg pe_int (pg_sub (pv 0) pe_int set_list))
      (pss_cons (ps_asg (pe_op op_mod (pe_callTy int1K (by rfl) T.z_int (by decide +kernel) (pa_cons (pe_op op_add (pe_op op_add (pe_op op_mul (pe_ix (ixL K) (pv 0) pe_int (fun _ _ => rfl)) pe_int) (pe_op op_mul (pe_ix (ixL K) (pv 0) pe_int (fun _ _ => rfl)) pe_int)) pe_int) pa_nil)) pe_int) (pg_sub (pv 0) pe_int set_list))
      (pss_cons (ps_asg (pe_op op_add (pe_ix (ixL K) (pv 0) pe_int (fun _ _ => rfl)) pe_int) (pg_sub (pv 0) pe_int set_list))
      (pss_one (ps_ret (pe_op op_mod (pe_callTy int1K (by rfl) T.z_int (by decide +kernel) (pa_cons (pe_op op_add (pe_op op_fdiv (pe_ix (ixL K) (pv 0) pe_int (fun _ _ => rfl)) pe_int) (pe_ix (ixL K) (pv 0) pe_int (fun _ _ => rfl))) pa_nil)) (pv 1)))))))), ?_⟩
    refine ifs_of (decide (z = 2) || (decide (z = 1) && decide (0 < x))) (fun Q' q => ?_) (fun hb => ?_) (fun hb => ?_)
    · refine ⟨_, rfl, _, _, _, _, rfl, rfl, SqL.of hd, rfl, rfl, _, rfl, ?_⟩
      rw [dec_int]
      refine iteD (fun h => ?_) (fun h => ?_)
      · rw [decide_eq_true h, Bool.true_or] at q
        exact q
      · rw [decide_eq_false h, Bool.false_or] at q
        refine ⟨_, rfl, _, _, _, _, rfl, rfl, SqL.of hd, rfl, rfl, _, rfl, ?_⟩
        rw [dec_int]
        refine iteD (fun h => ?_) (fun h => ?_)
        · rw [decide_eq_true h, Bool.true_and] at q
          exact ⟨_, rfl, _, _, _, _, rfl, rfl, SqL.of hd, rfl, _, _, rfl, rfl, _, rfl, q⟩
        · rw [decide_eq_false h, Bool.false_and] at q
          exact q
    · refine ⟨_, rfl, _, _, _, _, rfl, rfl, SqL.of hd, rfl, .inl ⟨_, rfl, _, rfl, _, _, rfl, rfl, m0, ?_⟩⟩
      refine ⟨_, rfl, _, _, _, _, rfl, rfl, SqL.of hd, rfl, _, rfl, _, _, rfl, rfl, ⟨m0, by omega⟩, ?_⟩
      refine ⟨_, rfl, _, _, _, _, rfl, rfl, hd, rfl, _, rfl, ?_⟩
      exact k _ _ (Int.emod_nonneg _ (by omega)) (Int.emod_lt_of_pos _ m0) ⟨_, _, _, upd_same⟩ fun b hb => upd_ne hb
    · refine ⟨_, rfl, _, _, _, _, rfl, rfl, hd, rfl, ?_⟩
      refine ⟨_, rfl, _, _, _, _, rfl, rfl, SqL.of upd_same, rfl, _, _, rfl, rfl, .inr (by decide), ?_⟩
      refine ⟨_, rfl, _, _, _, _, rfl, rfl, SqL.of upd_same, rfl, _, _, rfl, rfl, .inr (by decide), ?_⟩
      refine ⟨_, _, rfl, rfl, _, _, rfl, rfl, .inl ⟨_, rfl, _, _, rfl, rfl, (by show (0 : Int) < 2147483647; decide), ?_⟩⟩
      refine ⟨_, rfl, _, _, _, _, rfl, rfl, upd_same, rfl, ?_⟩
      refine ⟨_, rfl, _, _, _, _, rfl, rfl, SqL.of upd_same, rfl, _, _, rfl, rfl, ?_⟩
      refine ⟨_, rfl, _, _, _, _, rfl, rfl, upd_same, rfl, ?_⟩
      refine ⟨_, rfl, _, _, _, _, rfl, rfl, SqL.of upd_same, rfl, _, _, rfl, rfl, ⟨by decide, by decide⟩, ?_⟩
      refine ⟨_, rfl, _, _, _, _, rfl, rfl, SqL.of upd_same, rfl, _, _, rfl, rfl, .inl ⟨_, rfl, _, rfl, _, _, rfl, rfl, m0, ?_⟩⟩
      rw [upd_upd, upd_upd]
      exact k _ _ (Int.emod_nonneg _ (by omega)) (Int.emod_lt_of_pos _ m0) ⟨_, _, _, upd_same⟩ fun b hb => upd_ne hb
theorem ok_rounds (T : Txt K mg A) : FnOk P w K mg base CX0 2 A.f_l_rounds A.d_l_rounds ["_law_script", "_law_most"] (spRounds K) := by
  have G_l_dice : FnOk P w K mg base CX0 1 A.f_l_dice A.d_l_dice ["_law_cell"] spDice := ok_dice T
  refine T.F_l_rounds.ok sc_l_rounds (fun vs H Q E h => ?_) (fun cdv ar outer s H vs Q E hr h => ?_)
  · obtain ⟨a, ns, rfl, _⟩ := h
    rfl
  · obtain ⟨a, ns, rfl, hS, k⟩ := h
    refine ⟨_, (pss_cons (ps_set (i := 2) sc_l_rounds.nd rfl (Or.inl rfl) (pe_slice (slL K) (pv 0) po_none (po_some (pv 1))))
      (pss_cons (ps_if (pt_cmpR (eqD K hr.units) (pv 2) (pe_lst pa_nil) (nomark _))
        (pss_one (ps_set (i := 2) sc_l_rounds.nd rfl (Or.inl rfl) (pe_lst (pa_cons pe_int pa_nil))))
        pss_nil)
      (pss_one (ps_ret (pe_lc (own := [("_law_cell", 3)]) (by rfl) sc_l_rounds.nd (listK K (pv 2)) (blkOk_by (own := [("_law_cell", 3)]) (N := N_l_rounds) (sc := defScope s_l_rounds) (by decide +kernel)) (fun _ _ _ _ _ => (pg_name (i := 3) sc_l_rounds.nd rfl (Or.inl rfl))) (fun _ _ _ _ _ => pts_nil) (fun _ _ _ _ _ => (pe_call G_l_dice (hr.mono (by decide)) (by rfl) T.m_l_dice T.F_l_dice.kp T.b_l_dice .nil pass0 (pa_cons (pv 3) pa_nil)))))))), ?_⟩
    have fin : ∀ (c : Int) (l : Addr) (H1 : Hp), Same H H1 → H1 l = some (.lst [.int c]) → tRet (tLc (iList K (tVar 2)) (gName 3) tYes (tCall spDice [] E0 (tCons (tVar 3) tNil)) [3]) { nx := fun x H' => Q V.non H', rt := Q } [some (.ref a), some (.int 1), some (.ref l), none] H1 := by
      intro c l H1 e1 h1
      refine ⟨_, rfl, l, rfl, ⟨_, SqL.of h1⟩, fun D hD => ?_⟩
      have nlD : l ≠ D := ne_of_none h1 hD
      refine lc_list (K := K) (a := l) (xs := [.int c]) (fun i H' => Same H1 H' ∧ ((i = 0 ∧ H' D = some (.lst [])) ∨ (i = 1 ∧ ∃ d, DiceAt H' d ∧ H1 d = none ∧ d ≠ D ∧ H' D = some (.lst [.ref d]))))
        ⟨same_new hD, .inl ⟨rfl, upd_same⟩⟩ (fun i H' hi hP => SqL.of (hP.1 _ _ h1)) ?_ ?_
      · rintro i x H' hi ⟨s1, hP⟩
        rcases hP with ⟨rfl, hP⟩ | ⟨rfl, _⟩
        · cases hi
          refine ⟨rfl, _, rfl, c, rfl, fun p x y z hp => ?_⟩
          have npD : D ≠ p := ne_of_none hP hp
          refine ⟨[], by rw [upd_ne npD]; exact hP, by decide, ?_, .inr ⟨rfl, p, ⟨x, y, z, ?_⟩, s1.free hp, npD.symm, upd_same⟩⟩
          · intro b o e
            have hb := s1 _ _ e
            rw [upd_ne (ne_of_none e hD), upd_ne (ne_of_none hb hp)]
            exact hb
          · rw [upd_ne npD.symm, upd_same]
        · cases hi
      · rintro H' ⟨s1, hP⟩
        rcases hP with ⟨h0, _⟩ | ⟨_, d, h2, h3, h4, h5⟩
        · cases h0
        · exact k D d H' (e1.trans s1) (e1.free hD) (e1.free h3) h4 h2 h5
    refine ⟨_, rfl, _, rfl, _, rfl, _, _, rfl, hS, fun l hl => ?_⟩
    have hx : ∃ c : Int, cutV (ns.map V.int) none (some 1) = [] ∨ cutV (ns.map V.int) none (some 1) = [V.int c] := by
      cases ns with
      | nil => exact ⟨0, .inl rfl⟩
      | cons n r => exact ⟨n, .inr rfl⟩
    obtain ⟨c, hx⟩ := hx
    have e1 : Same H (upd H l (.lst (cutV (ns.map V.int) none (some 1)))) := same_new hl
    rcases hx with hx | hx
    · rw [hx] at e1 ⊢
      refine ⟨_, rfl, Nat.zero_le _, fun m hm => ?_⟩
      refine ⟨.list [], .list [], .lst (SqL.of (by rw [upd_ne (ne_of_none upd_same hm), upd_same])) .nil, .lst (SqL.of upd_same) .nil, rfl, rfl, _, rfl, ?_⟩
      refine iteT ⟨(by decide), fun q hq => ?_⟩
      exact fin 0 q _ ((e1.trans (same_new hm)).trans (same_new hq)) upd_same
    · rw [hx] at e1 ⊢
      refine ⟨_, rfl, Nat.zero_le _, fun m hm => ?_⟩
      refine ⟨.list [.int c], .list [], .lst (SqL.of (by rw [upd_ne (ne_of_none upd_same hm), upd_same])) (.cons (.int c) .nil), .lst (SqL.of upd_same) .nil, rfl, rfl, _, rfl, ?_⟩
      refine iteF ?_
      exact fin c l _ (e1.trans (same_new hm)) (by rw [upd_ne (ne_of_none upd_same hm), upd_same])
end
end Toy

set_option Elab.async false
set_option maxRecDepth 100000
set_option maxHeartbeats 4000000
/-! ## what the functions tell, said plainly -/
namespace U
open PySem
abbrev Tm := Sum Str Int
def isv : Tm → Option Str
  | .inl s => some s
  | .inr _ => none
def vars (ts : List Tm) : List Str := ts.filterMap isv
def addN (acc : List Str) (x : Str) : List Str := if x ∈ acc then acc else acc ++ [x]
def dd (xs : List Str) : List Str := xs.foldl addN []
def nms (ts : List Tm) : List Str := dd (vars ts)
structure Pt where
  kind : Str
  name : Str
  ts : List Tm
structure RR where
  name : Str
  ts : List Tm
  body : List Pt
  sm : Bool
def rows (r : RR) : List (List Str) := nms r.ts :: r.body.map fun q => nms q.ts
def cnt (l : List (List Str)) (x : Str) : Nat := (l.filter fun row => decide (x ∈ row)).length
def shd (r : RR) (q : Pt) (x : Str) : Bool := decide ((if x ∈ nms q.ts then 1 else 0) < cnt (rows r) x)
def nd (r : RR) (q : Pt) : List Str := if q.kind = "cmp" then nms q.ts else if q.kind = "let" then nms (q.ts.drop 1) else if q.kind = "neg" then (nms q.ts).filter (shd r q) else []
def gv (q : Pt) : List Str := if q.kind = "pos" then nms q.ts else if q.kind = "let" then nms (q.ts.take 1) else []
def rdy (r : RR) (b : List Str) (q : Pt) : Bool := (nd r q).all fun x => decide (x ∈ b)
def step (r : RR) (b : List Str) (q : Pt) : List Str := if rdy r b q = true then (gv q).foldl addN b else b
def pass (r : RR) (b : List Str) : List Str := r.body.foldl (step r) b
def itp (r : RR) : Nat → List Str
  | 0 => []
  | n + 1 => pass r (itp r n)
def lim (r : RR) : List Str := itp r (r.body.length + 1)
def wanted (r : RR) : List Str := (nms r.ts :: r.body.map (nd r)).flatten
def ls (r : RR) : List Str := ((wanted r).filter fun x => decide (x ∉ lim r)).foldl addN []
def tn : Tm → Str
  | .inl s => s
  | .inr _ => ""
def fst (q : Pt) : Str := tn (q.ts.getD 0 (.inr 0))
def pt (r : RR) (j : Nat) : Pt := r.body.getD j ⟨"", "", []⟩
def hv (r : RR) (j : Nat) : Bool := decide (fst (pt r j) ∈ nd r (pt r j)) || ((List.range r.body.length).filter fun k => decide (k ≠ j)).any fun k => decide (fst (pt r j) ∈ gv (pt r k))
def rt (r : RR) : Bool := (List.range r.body.length).any fun j => decide ((pt r j).kind = "let") && hv r j
def tlong : Tm → Bool
  | .inl _ => false
  | .inr i => !(decide (-999999999999999999 ≤ i) && decide (i ≤ 999999999999999999))
def allT (r : RR) : List Tm := r.ts ++ r.body.flatMap fun q => q.ts
def asked (r : RR) (k : Str) : List Str := dd ((r.body.filter fun q => decide (q.kind = k)).map fun q => q.name)
def smallS : Str := "abcdefghijklmnopqrstuvwxyz"
def innerS : Str := "abcdefghijklmnopqrstuvwxyzABCDEFGHIJKLMNOPQRSTUVWXYZ0123456789_"
def sml (z : Str) : Bool := match z.cps.toList with
  | [c] => decide (c ∈ smallS.cps.toList)
  | _ => false
def inn (z : Str) : Bool := match z.cps.toList with
  | [c] => decide (c ∈ innerS.cps.toList)
  | _ => false
def isN (z : Str) : Bool := sml (L2.cutS z none (some 1)) && (!decide (z = "not") && z.cps.toList.all fun c => inn ⟨#[c]⟩)
inductive Ch where
  | ok | rule | size
  deriving DecidableEq
def chk (r : RR) : Ch :=
  if ((r.name :: asked r "pos") ++ asked r "neg").all isN = false then .rule else if (allT r).any tlong = true then .size else if ls r ≠ [] then .rule else if rt r = true then .rule else if r.sm = true ∧ r.body = [] then .rule else .ok
def isF (r : RR) : Bool := decide (r.body.length = 0) && decide ((nms r.ts).length = 0)
/-! ### names put in -/
theorem addN_mem {acc : List Str} {x y : Str} : y ∈ addN acc x ↔ y ∈ acc ∨ y = x := by
  unfold addN
  split
  · rename_i h
    constructor
    · exact .inl
    · rintro (h1 | rfl)
      · exact h1
      · exact h
  · simp
theorem fold_mem {xs : List Str} : ∀ {acc : List Str} {y : Str}, y ∈ xs.foldl addN acc ↔ y ∈ acc ∨ y ∈ xs := by
  induction xs with
  | nil => intro acc y; simp
  | cons x xs ih =>
    intro acc y
    rw [List.foldl_cons, ih, addN_mem, List.mem_cons, or_assoc]
theorem addN_nodup {acc : List Str} {x : Str} (h : acc.Nodup) : (addN acc x).Nodup := by
  unfold addN
  split
  · exact h
  · rename_i hx
    exact List.nodup_append.mpr ⟨h, by simp, fun a ha b hb e => by
      rw [List.mem_singleton] at hb
      subst hb e
      exact hx ha⟩
theorem fold_nodup {xs : List Str} : ∀ {acc : List Str}, acc.Nodup → (xs.foldl addN acc).Nodup := by
  induction xs with
  | nil => intro acc h; exact h
  | cons x xs ih => intro acc h; exact ih (addN_nodup h)
theorem addN_len {acc : List Str} {x : Str} : (addN acc x).length ≤ acc.length + 1 := by
  unfold addN
  split
  · omega
  · simp
theorem fold_len {xs : List Str} : ∀ {acc : List Str}, (xs.foldl addN acc).length ≤ acc.length + xs.length := by
  induction xs with
  | nil => intro acc; exact Nat.le_refl _
  | cons x xs ih =>
    intro acc
    have h1 := ih (acc := addN acc x)
    have h2 := addN_len (acc := acc) (x := x)
    rw [List.foldl_cons, List.length_cons]
    omega
theorem dd_mem {xs : List Str} {y : Str} : y ∈ dd xs ↔ y ∈ xs := by
  unfold dd
  rw [fold_mem]
  simp
theorem dd_nodup (xs : List Str) : (dd xs).Nodup := fold_nodup List.nodup_nil
theorem dd_len (xs : List Str) : (dd xs).length ≤ xs.length := by
  have := fold_len (xs := xs) (acc := [])
  simpa [dd] using this
theorem vars_len (ts : List Tm) : (vars ts).length ≤ ts.length := List.length_filterMap_le _ _
theorem nms_len (ts : List Tm) : (nms ts).length ≤ ts.length := Nat.le_trans (dd_len _) (vars_len ts)
theorem nms_mem {ts : List Tm} {x : Str} : x ∈ nms ts ↔ .inl x ∈ ts := by
  unfold nms vars
  rw [dd_mem, List.mem_filterMap]
  constructor
  · rintro ⟨t, ht, e⟩
    cases t with
    | inl s => cases e; exact ht
    | inr i => cases e
  · intro h
    exact ⟨_, h, rfl⟩
/-- names put in stay ahead -/
theorem addN_pre (acc : List Str) (x : Str) : acc <+: addN acc x := by
  unfold addN
  split
  · exact List.prefix_refl _
  · exact List.prefix_append _ _
theorem fold_pre (xs : List Str) : ∀ acc : List Str, acc <+: xs.foldl addN acc := by
  induction xs with
  | nil => intro acc; exact List.prefix_refl _
  | cons x xs ih => intro acc; exact (addN_pre acc x).trans (ih _)
theorem step_pre (r : RR) (b : List Str) (q : Pt) : b <+: step r b q := by
  unfold step
  split
  · exact fold_pre _ _
  · exact List.prefix_refl _
theorem steps_pre (r : RR) (qs : List Pt) : ∀ b : List Str, b <+: qs.foldl (step r) b := by
  induction qs with
  | nil => intro b; exact List.prefix_refl _
  | cons q qs ih => intro b; exact (step_pre r b q).trans (ih _)
theorem pass_pre (r : RR) (b : List Str) : b <+: pass r b := steps_pre r _ b
theorem pre_eq {a b : List Str} (h : a <+: b) (hl : b.length ≤ a.length) : a = b := h.eq_of_length (Nat.le_antisymm h.length_le hl)
theorem step_nodup (r : RR) {b : List Str} (q : Pt) (h : b.Nodup) : (step r b q).Nodup := by
  unfold step
  split
  · exact fold_nodup h
  · exact h
theorem steps_nodup (r : RR) (qs : List Pt) : ∀ {b : List Str}, b.Nodup → (qs.foldl (step r) b).Nodup := by
  induction qs with
  | nil => intro b h; exact h
  | cons q qs ih => intro b h; exact ih (step_nodup r q h)
theorem itp_nodup (r : RR) : ∀ n, (itp r n).Nodup
  | 0 => List.nodup_nil
  | n + 1 => steps_nodup r _ (itp_nodup r n)
/-- how many parts have all their names in -/
def full (r : RR) (b : List Str) : Nat := (r.body.filter fun q => (gv q).all fun x => decide (x ∈ b)).length
theorem fold_self {xs b : List Str} (h : ∀ x ∈ xs, x ∈ b) : xs.foldl addN b = b := by
  induction xs with
  | nil => rfl
  | cons x xs ih =>
    have e : addN b x = b := if_pos (h x List.mem_cons_self)
    rw [List.foldl_cons, e]
    exact ih fun y hy => h y (List.mem_cons_of_mem _ hy)
/-- a part that brings something new has all its names in behind the pass -/
theorem grows (r : RR) : ∀ (qs : List Pt) (b : List Str), qs.foldl (step r) b ≠ b → ∃ q ∈ qs, (∃ x ∈ gv q, x ∉ b) ∧ ∀ x ∈ gv q, x ∈ qs.foldl (step r) b
  | [], b, h => absurd rfl h
  | q :: qs, b, h => by
    rw [List.foldl_cons] at h ⊢
    by_cases e : step r b q = b
    · rw [e] at h ⊢
      obtain ⟨q', h1, h2, h3⟩ := grows r qs b h
      exact ⟨q', List.mem_cons_of_mem _ h1, h2, h3⟩
    · refine ⟨q, List.mem_cons_self, ?_, fun x hx => ?_⟩
      · apply Classical.byContradiction
        intro hn
        apply e
        unfold step
        split
        · exact fold_self fun x hx => Classical.byContradiction fun hb => hn ⟨x, hx, hb⟩
        · rfl
      · have : x ∈ step r b q := by
          unfold step at e ⊢
          split
          · exact fold_mem.mpr (.inr hx)
          · rename_i hr
            rw [if_neg hr] at e
            exact absurd rfl e
        exact (steps_pre r qs _).subset this
theorem filter_lt {α : Type} {p q : α → Bool} : ∀ {l : List α}, (∀ x ∈ l, p x = true → q x = true) → (∃ x ∈ l, p x = false ∧ q x = true) → (l.filter p).length < (l.filter q).length
  | [], _, ⟨_, h, _⟩ => nomatch h
  | a :: l, hi, ⟨x, hx, h1, h2⟩ => by
    have le : ∀ {l : List α}, (∀ x ∈ l, p x = true → q x = true) → (l.filter p).length ≤ (l.filter q).length := by
      intro l
      induction l with
      | nil => intro _; exact Nat.le_refl _
      | cons b l ih =>
        intro h
        have ih := ih fun x hx => h x (List.mem_cons_of_mem _ hx)
        by_cases hb : p b = true
        · rw [List.filter_cons_of_pos hb, List.filter_cons_of_pos (h b List.mem_cons_self hb)]
          simpa using ih
        · rw [List.filter_cons_of_neg hb]
          by_cases hq : q b = true
          · rw [List.filter_cons_of_pos hq]
            exact Nat.le_succ_of_le ih
          · rw [List.filter_cons_of_neg hq]
            exact ih
    have hl : ∀ x ∈ l, p x = true → q x = true := fun x hx => hi x (List.mem_cons_of_mem _ hx)
    rcases List.mem_cons.mp hx with rfl | hx'
    · rw [List.filter_cons_of_neg (by rw [h1]; decide), List.filter_cons_of_pos h2]
      exact Nat.lt_succ_of_le (le hl)
    · have ih := filter_lt hl ⟨x, hx', h1, h2⟩
      by_cases ha : p a = true
      · rw [List.filter_cons_of_pos ha, List.filter_cons_of_pos (hi a List.mem_cons_self ha)]
        simpa using ih
      · rw [List.filter_cons_of_neg ha]
        by_cases hq : q a = true
        · rw [List.filter_cons_of_pos hq]
          exact Nat.lt_succ_of_lt ih
        · rw [List.filter_cons_of_neg hq]
          exact ih
theorem full_lt (r : RR) {b : List Str} (h : pass r b ≠ b) : full r b < full r (pass r b) := by
  obtain ⟨q, hq, ⟨x, hx, hn⟩, hall⟩ := grows r r.body b h
  refine filter_lt (fun q' _ e => ?_) ⟨q, hq, ?_, ?_⟩
  · rw [List.all_eq_true] at e ⊢
    intro y hy
    exact decide_eq_true ((pass_pre r b).subset (of_decide_eq_true (e y hy)))
  · rw [List.all_eq_false]
    exact ⟨x, hx, by simp [hn]⟩
  · rw [List.all_eq_true]
    exact fun y hy => decide_eq_true (hall y hy)
theorem full_le (r : RR) (b : List Str) : full r b ≤ r.body.length := List.length_filter_le _ _
theorem itp_or (r : RR) : ∀ n, n ≤ full r (itp r n) ∨ pass r (itp r n) = itp r n
  | 0 => .inl (Nat.zero_le _)
  | n + 1 => by
    rcases itp_or r n with h | h
    · by_cases e : pass r (itp r n) = itp r n
      · refine .inr ?_
        show pass r (pass r (itp r n)) = pass r (itp r n)
        rw [e, e]
      · have := full_lt r e
        exact .inl (by show n + 1 ≤ full r (pass r (itp r n)); omega)
    · refine .inr ?_
      show pass r (pass r (itp r n)) = pass r (itp r n)
      rw [h, h]
theorem lim_fix (r : RR) : pass r (lim r) = lim r := by
  rcases itp_or r (r.body.length + 1) with h | h
  · have := full_le r (itp r (r.body.length + 1))
    omega
  · exact h
/-- where a pass brings nothing, it stays -/
theorem fix_lim (r : RR) {n : Nat} (h : pass r (itp r n) = itp r n) : itp r n = lim r := by
  have up : ∀ k, itp r (n + k) = itp r n := fun k => by
    induction k with
    | zero => rfl
    | succ k ih =>
      show pass r (itp r (n + k)) = itp r n
      rw [ih, h]
  have up2 : ∀ k, itp r (r.body.length + 1 + k) = lim r := fun k => by
    induction k with
    | zero => rfl
    | succ k ih =>
      show pass r (itp r (r.body.length + 1 + k)) = lim r
      rw [ih]
      exact lim_fix r
  have e1 := up (r.body.length + 1)
  have e2 := up2 n
  rw [Nat.add_comm] at e2
  exact e1.symm.trans e2
theorem itp_stop (r : RR) : ∃ n, n ≤ r.body.length + 1 ∧ pass r (itp r n) = itp r n := ⟨r.body.length + 1, Nat.le_refl _, lim_fix r⟩
/-! ### how often -/
theorem cnt_cons (a : List Str) (l : List (List Str)) (x : Str) : cnt (a :: l) x = (if x ∈ a then 1 else 0) + cnt l x := by
  unfold cnt
  by_cases h : x ∈ a
  · rw [List.filter_cons_of_pos (by simpa using h), if_pos h, List.length_cons]
    omega
  · rw [List.filter_cons_of_neg (by simpa using h), if_neg h]
    omega
theorem cnt_app (a b : List (List Str)) (x : Str) : cnt (a ++ b) x = cnt a x + cnt b x := by
  unfold cnt
  rw [List.filter_append, List.length_append]
theorem cnt_pos (l : List (List Str)) (x : Str) : 0 < cnt l x ↔ ∃ a ∈ l, x ∈ a := by
  unfold cnt
  rw [List.length_pos_iff_exists_mem]
  constructor
  · rintro ⟨a, ha⟩
    rw [List.mem_filter] at ha
    exact ⟨a, ha.1, of_decide_eq_true ha.2⟩
  · rintro ⟨a, h1, h2⟩
    exact ⟨a, List.mem_filter.mpr ⟨h1, decide_eq_true h2⟩⟩
theorem shd_iff {r : RR} {j : Nat} {q : Pt} {x : Str} (hq : r.body[j]? = some q) (hx : x ∈ nms q.ts) : shd r q x = true ↔ (.inl x ∈ r.ts ∨ ∃ k q', k ≠ j ∧ r.body[k]? = some q' ∧ .inl x ∈ q'.ts) := by
  have hj : j < r.body.length := (List.getElem?_eq_some_iff.mp hq).1
  have hqe : r.body[j] = q := (List.getElem?_eq_some_iff.mp hq).2
  have e : r.body = r.body.take j ++ q :: r.body.drop (j + 1) := by
    rw [← hqe, List.getElem_cons_drop, List.take_append_drop]
  have ec : cnt (rows r) x = (if x ∈ nms r.ts then 1 else 0) + (cnt ((r.body.take j).map fun q => nms q.ts) x + (1 + cnt ((r.body.drop (j + 1)).map fun q => nms q.ts) x)) := by
    have e2 : rows r = nms r.ts :: ((r.body.take j).map (fun q => nms q.ts) ++ nms q.ts :: (r.body.drop (j + 1)).map fun q => nms q.ts) := by
      have e3 : (r.body.map fun q => nms q.ts) = (r.body.take j).map (fun q => nms q.ts) ++ nms q.ts :: (r.body.drop (j + 1)).map fun q => nms q.ts := by
        conv => lhs; rw [e]
        rw [List.map_append, List.map_cons]
      unfold rows
      rw [e3]
    rw [e2, cnt_cons, cnt_app, cnt_cons, if_pos hx]
  unfold shd
  rw [decide_eq_true_iff, if_pos hx, ec]
  have p1 := cnt_pos ((r.body.take j).map fun q => nms q.ts) x
  have p2 := cnt_pos ((r.body.drop (j + 1)).map fun q => nms q.ts) x
  constructor
  · intro h
    by_cases h0 : x ∈ nms r.ts
    · exact .inl (nms_mem.mp h0)
    · rw [if_neg h0] at h
      by_cases h1 : 0 < cnt ((r.body.take j).map fun q => nms q.ts) x
      · obtain ⟨a, ha, hxa⟩ := p1.mp h1
        obtain ⟨q', hq', rfl⟩ := List.mem_map.mp ha
        obtain ⟨k, hk, hke⟩ := List.getElem_of_mem hq'
        have hk' : k < j := by
          rw [List.length_take] at hk
          omega
        refine .inr ⟨k, q', by omega, ?_, nms_mem.mp hxa⟩
        rw [← hke, List.getElem_take]
        exact List.getElem?_eq_getElem _
      · obtain ⟨a, ha, hxa⟩ := p2.mp (by omega)
        obtain ⟨q', hq', rfl⟩ := List.mem_map.mp ha
        obtain ⟨k, hk, hke⟩ := List.getElem_of_mem hq'
        rw [List.length_drop] at hk
        refine .inr ⟨j + 1 + k, q', by omega, ?_, nms_mem.mp hxa⟩
        rw [← hke, List.getElem_drop]
        exact List.getElem?_eq_getElem _
  · rintro (h0 | ⟨k, q', hk, hq', hx'⟩)
    · rw [if_pos (nms_mem.mpr h0)]
      omega
    · have hkl : k < r.body.length := (List.getElem?_eq_some_iff.mp hq').1
      rcases Nat.lt_or_ge k j with z | z
      · have := p1.mpr ⟨nms q'.ts, List.mem_map.mpr ⟨q', List.mem_of_getElem? (i := k) (by rw [List.getElem?_take, if_pos z]; exact hq'), rfl⟩, nms_mem.mpr hx'⟩
        omega
      · have := p2.mpr ⟨nms q'.ts, List.mem_map.mpr ⟨q', List.mem_of_getElem? (i := k - (j + 1)) (by rw [List.getElem?_drop]; rw [show j + 1 + (k - (j + 1)) = k by omega]; exact hq'), rfl⟩, nms_mem.mpr hx'⟩
        omega
/-- first put in, then picked, is first picked, then put in -/
theorem pick_fold {p : Str → Bool} : ∀ (xs acc : List Str), (xs.foldl addN acc).filter p = (xs.filter p).foldl addN (acc.filter p)
  | [], acc => rfl
  | x :: xs, acc => by
    rw [List.foldl_cons, pick_fold xs (addN acc x)]
    by_cases hp : p x = true
    · rw [List.filter_cons_of_pos hp, List.foldl_cons]
      congr 1
      unfold addN
      by_cases hx : x ∈ acc
      · rw [if_pos hx, if_pos (List.mem_filter.mpr ⟨hx, hp⟩)]
      · rw [if_neg hx, if_neg (fun z => hx (List.mem_filter.mp z).1), List.filter_append, List.filter_cons_of_pos hp]
        rfl
    · rw [List.filter_cons_of_neg hp]
      congr 1
      unfold addN
      by_cases hx : x ∈ acc
      · rw [if_pos hx]
      · rw [if_neg hx, List.filter_append, List.filter_cons_of_neg hp]
        simp
end U

set_option Elab.async false
set_option maxRecDepth 100000
set_option maxHeartbeats 4000000
namespace Toy
open PySem L2
open U (Tm Pt RR)
theorem same_mut {H H' : Hp} {l : Addr} {o : HO} (s : Same H H') (h : H l = none) : Same H (upd H' l o) := fun b u e => by
  rw [upd_ne (ne_of_none e h)]
  exact s b u e
/-! ### many at once -/
def All2 {α : Type} (R : Addr → α → Prop) (as : List Addr) (ts : List α) : Prop := as.length = ts.length ∧ ∀ (i : Nat) (a : Addr) (t : α), as[i]? = some a → ts[i]? = some t → R a t
theorem All2.nil {α : Type} {R : Addr → α → Prop} : All2 R [] [] := ⟨rfl, fun i a t h => by simp at h⟩
theorem All2.imp {α : Type} {R S : Addr → α → Prop} {as : List Addr} {ts : List α} (h : All2 R as ts) (f : ∀ a t, R a t → S a t) : All2 S as ts := ⟨h.1, fun i a t e1 e2 => f a t (h.2 i a t e1 e2)⟩
theorem All2.snoc {α : Type} {R : Addr → α → Prop} {as : List Addr} {ts : List α} (h : All2 R as ts) {a : Addr} {t : α} (r : R a t) : All2 R (as ++ [a]) (ts ++ [t]) := by
  refine ⟨by rw [List.length_append, List.length_append, h.1]; rfl, fun i b u e1 e2 => ?_⟩
  by_cases hi : i < as.length
  · rw [List.getElem?_append_left hi] at e1
    rw [List.getElem?_append_left (by rw [← h.1]; exact hi)] at e2
    exact h.2 i b u e1 e2
  · have hi2 : i = as.length := by
      have := (List.getElem?_eq_some_iff.mp e1).1
      rw [List.length_append] at this
      have : i < as.length + 1 := this
      omega
    subst hi2
    rw [List.getElem?_append_right (Nat.le_refl _), Nat.sub_self] at e1
    rw [List.getElem?_append_right (by rw [← h.1]; exact Nat.le_refl _), ← h.1, Nat.sub_self] at e2
    cases e1
    cases e2
    exact r
theorem All2.cons {α : Type} {R : Addr → α → Prop} {as : List Addr} {ts : List α} {a : Addr} {t : α} (r : R a t) (h : All2 R as ts) : All2 R (a :: as) (t :: ts) := by
  refine ⟨congrArg Nat.succ h.1, fun i b u e1 e2 => ?_⟩
  cases i with
  | zero => cases e1; cases e2; exact r
  | succ i => exact h.2 i b u e1 e2
theorem All2.tail {α : Type} {R : Addr → α → Prop} {as : List Addr} {ts : List α} {a : Addr} {t : α} (h : All2 R (a :: as) (t :: ts)) : R a t ∧ All2 R as ts :=
  ⟨h.2 0 a t rfl rfl, Nat.succ.inj h.1, fun i b u e1 e2 => h.2 (i + 1) b u e1 e2⟩
theorem All2.take {α : Type} {R : Addr → α → Prop} {as : List Addr} {ts : List α} (h : All2 R as ts) (n : Nat) : All2 R (as.take n) (ts.take n) := by
  refine ⟨by rw [List.length_take, List.length_take, h.1], fun i b u e1 e2 => ?_⟩
  rw [List.getElem?_take] at e1 e2
  by_cases hi : i < n
  · rw [if_pos hi] at e1 e2
    exact h.2 i b u e1 e2
  · rw [if_neg hi] at e1
    cases e1
theorem All2.app {α : Type} {R : Addr → α → Prop} : ∀ {bs : List Addr} {us : List α} {as : List Addr} {ts : List α}, All2 R as ts → All2 R bs us → All2 R (as ++ bs) (ts ++ us)
  | [], [], _, _, h, _ => by rw [List.append_nil, List.append_nil]; exact h
  | b :: bs, u :: us, as, ts, h, g => by
    obtain ⟨r, g⟩ := g.tail
    have := All2.app (h.snoc r) g
    rw [List.append_assoc, List.append_assoc] at this
    exact this
  | [], _ :: _, _, _, _, g => nomatch g.1
  | _ :: _, [], _, _, _, g => nomatch g.1
theorem All2.at {α : Type} {R : Addr → α → Prop} {as : List Addr} {ts : List α} (h : All2 R as ts) {i : Nat} {x : V} (hx : (as.map V.ref)[i]? = some x) : ∃ a t, x = .ref a ∧ as[i]? = some a ∧ ts[i]? = some t ∧ R a t := by
  rw [List.getElem?_map] at hx
  cases e : as[i]? with
  | none => rw [e] at hx; cases hx
  | some a =>
    rw [e] at hx
    cases hx
    have hi : i < ts.length := by rw [← h.1]; exact (List.getElem?_eq_some_iff.mp e).1
    exact ⟨a, ts[i], rfl, rfl, List.getElem?_eq_getElem hi, h.2 i a _ e (List.getElem?_eq_getElem hi)⟩
theorem take_one {α : Type} {l : List α} {i : Nat} {x : α} (h : l[i]? = some x) : l.take (i + 1) = l.take i ++ [x] := by
  rw [List.take_add_one, h]
  rfl
theorem sz {n : Nat} (h : n ≤ 1000) : n < sizeLine := small1000 h
theorem sz' {n : Nat} (h : n ≤ 1000) : n ≤ sizeLine := Nat.le_of_lt (small1000 h)
/-- all but the dice stands -/
def SameX (d : Addr) (H H' : Hp) : Prop := ∀ b o, H b = some o → b ≠ d → H' b = some o
theorem Same.x {H H' : Hp} {d : Addr} (h : Same H H') : SameX d H H' := fun b o e _ => h b o e
theorem SameX.refl (d : Addr) (H : Hp) : SameX d H H := fun _ _ e _ => e
theorem SameX.trans {H H1 H2 : Hp} {d : Addr} (a : SameX d H H1) (b : SameX d H1 H2) : SameX d H H2 := fun c o e n => b c o (a c o e n) n
theorem SameX.free {H H' : Hp} {d a : Addr} (e : SameX d H H') (n : a ≠ d) (h : H' a = none) : H a = none := by
  cases q : H a with
  | none => rfl
  | some o => rw [e a o q n] at h; cases h
theorem DiceAt.up {H H' : Hp} {d : Addr} (h : DiceAt H d) (s : Same H H') : DiceAt H' d := by
  obtain ⟨x, y, z, e⟩ := h
  exact ⟨x, y, z, s _ _ e⟩
theorem DiceAt.up1 {H : Hp} {d p : Addr} {o : HO} (h : DiceAt H d) (n : d ≠ p) : DiceAt (upd H p o) d := by
  obtain ⟨x, y, z, e⟩ := h
  exact ⟨x, y, z, by rw [upd_ne n]; exact e⟩
theorem DiceAt.ne {H : Hp} {d p : Addr} (h : DiceAt H d) (hp : H p = none) : d ≠ p := by
  obtain ⟨x, y, z, e⟩ := h
  exact ne_of_none e hp
theorem DiceAt.ne_tup {H : Hp} {d p : Addr} {xs : List V} (h : DiceAt H d) (hp : H p = some (.tup xs)) : p ≠ d := by
  obtain ⟨x, y, z, e⟩ := h
  exact ne_of hp e (fun q => nomatch q)
theorem sx_of {H H' : Hp} {d : Addr} (f : ∀ b, b ≠ d → H' b = H b) : SameX d H H' := fun b o e n => (f b n).trans e

/-! ### comprehensions, said once -/
def VAll {α : Type} (S : V → α → Prop) (ys : List V) (ts : List α) : Prop := ys.length = ts.length ∧ ∀ (i : Nat) (y : V) (t : α), ys[i]? = some y → ts[i]? = some t → S y t
theorem VAll.nil {α : Type} {S : V → α → Prop} : VAll S [] [] := ⟨rfl, fun i a t h => by simp at h⟩
theorem VAll.imp {α : Type} {S S' : V → α → Prop} {as : List V} {ts : List α} (h : VAll S as ts) (f : ∀ a t, S a t → S' a t) : VAll S' as ts := ⟨h.1, fun i a t e1 e2 => f a t (h.2 i a t e1 e2)⟩
theorem VAll.snoc {α : Type} {R : V → α → Prop} {as : List V} {ts : List α} (h : VAll R as ts) {a : V} {t : α} (r : R a t) : VAll R (as ++ [a]) (ts ++ [t]) := by
  refine ⟨by rw [List.length_append, List.length_append, h.1]; rfl, fun i b u e1 e2 => ?_⟩
  by_cases hi : i < as.length
  · rw [List.getElem?_append_left hi] at e1
    rw [List.getElem?_append_left (by rw [← h.1]; exact hi)] at e2
    exact h.2 i b u e1 e2
  · have hi2 : i = as.length := by
      have := (List.getElem?_eq_some_iff.mp e1).1
      rw [List.length_append] at this
      have : i < as.length + 1 := this
      omega
    subst hi2
    rw [List.getElem?_append_right (Nat.le_refl _), Nat.sub_self] at e1
    rw [List.getElem?_append_right (by rw [← h.1]; exact Nat.le_refl _), ← h.1, Nat.sub_self] at e2
    cases e1
    cases e2
    exact r
theorem VAll.eq {α : Type} {f : α → V} : ∀ {ys : List V} {ts : List α}, VAll (fun y t => y = f t) ys ts → ys = ts.map f
  | [], [], _ => rfl
  | y :: ys, t :: ts, h => by
    have e := h.2 0 y t rfl rfl
    have := VAll.eq (f := f) (ys := ys) (ts := ts) ⟨Nat.succ.inj h.1, fun i b u e1 e2 => h.2 (i + 1) b u e1 e2⟩
    rw [e, this]
    rfl
  | [], _ :: _, h => nomatch h.1
  | _ :: _, [], h => nomatch h.1
theorem VAll.refs {α : Type} {R : Addr → α → Prop} : ∀ {ys : List V} {ts : List α}, VAll (fun y t => ∃ a, y = .ref a ∧ R a t) ys ts → ∃ as : List Addr, ys = as.map V.ref ∧ All2 R as ts
  | [], [], _ => ⟨[], rfl, .nil⟩
  | y :: ys, t :: ts, h => by
    obtain ⟨a, e, r⟩ := h.2 0 y t rfl rfl
    obtain ⟨as, e2, r2⟩ := VAll.refs (R := R) (ys := ys) (ts := ts) ⟨Nat.succ.inj h.1, fun i b u e1 e2 => h.2 (i + 1) b u e1 e2⟩
    exact ⟨a :: as, by rw [e, e2]; rfl, .cons r r2⟩
  | [], _ :: _, h => nomatch h.1
  | _ :: _, [], h => nomatch h.1
/-- what is true of the items stays true -/
structure Stab {α : Type} (D : Addr) (S : Hp → V → α → Prop) : Prop where
  up : ∀ {H H' : Hp} {y : V} {t : α}, S H y t → Same H H' → S H' y t
  wr : ∀ {H : Hp} {xs o : List V} {y : V} {t : α}, H D = some (.lst xs) → S H y t → S (upd H D (.lst o)) y t
/-- the comprehension's invariant: what it has made of the first i -/
def LcI {α : Type} (S : Hp → V → α → Prop) (p : α → Bool) (ts : List α) (H0 : Hp) (D : Addr) (i : Nat) (H : Hp) : Prop := Same H0 H ∧ ∃ ys, H D = some (.lst ys) ∧ VAll (S H) ys ((ts.take i).filter p)
section
variable {α : Type} {S : Hp → V → α → Prop} {p : α → Bool} {ts : List α} {H0 H H2 : Hp} {D : Addr} {i : Nat} {t : α} {y : V}
theorem LcI.start (hD : H0 D = none) : LcI S p ts H0 D 0 (upd H0 D (.lst [])) := ⟨same_new hD, [], upd_same, .nil⟩
theorem LcI.yes (st : Stab D S) (hD : H0 D = none) (hs : ts.length ≤ 999) (h : LcI S p ts H0 D i H) (ht : ts[i]? = some t) (hp : p t = true) (s : Same H H2) (hy : S H2 y t) :
    ∃ acc, H2 D = some (.lst acc) ∧ acc.length < sizeLine ∧ LcI S p ts H0 D (i + 1) (upd H2 D (.lst (acc ++ [y]))) := by
  obtain ⟨s1, ys, eD, hv⟩ := h
  have e2 := s _ _ eD
  refine ⟨ys, e2, ?_, same_mut (s1.trans s) hD, ys ++ [y], upd_same, ?_⟩
  · rw [hv.1]
    refine sz (Nat.le_trans (List.length_filter_le _ _) ?_)
    rw [List.length_take]
    omega
  · rw [take_one ht, List.filter_append, List.filter_cons_of_pos hp, List.filter_nil]
    have h2 : VAll (S H2) (ys ++ [y]) ((ts.take i).filter p ++ [t]) := (hv.imp fun a t h => st.up h s).snoc hy
    exact h2.imp fun a t h => st.wr e2 h
theorem LcI.no (st : Stab D S) (h : LcI S p ts H0 D i H) (ht : ts[i]? = some t) (hp : p t = false) (s : Same H H2) : LcI S p ts H0 D (i + 1) H2 := by
  obtain ⟨s1, ys, eD, hv⟩ := h
  refine ⟨s1.trans s, ys, s _ _ eD, ?_⟩
  rw [take_one ht, List.filter_append, List.filter_cons_of_neg (by rw [hp]; decide), List.filter_nil, List.append_nil]
  exact hv.imp fun a t h => st.up h s
theorem LcI.fin (h : LcI S p ts H0 D i H) (hi : ts.length ≤ i) : ∃ ys, Same H0 H ∧ H D = some (.lst ys) ∧ VAll (S H) ys (ts.filter p) := by
  obtain ⟨s1, ys, eD, hv⟩ := h
  rw [List.take_of_length_le hi] at hv
  exact ⟨ys, s1, eD, hv⟩
end
theorem filter_tt {α : Type} (l : List α) : l.filter (fun _ => true) = l := List.filter_eq_self.mpr fun _ _ => rfl
theorem stab_val {α : Type} {D : Addr} (S : V → α → Prop) : Stab D fun _ y t => S y t := ⟨fun h _ => h, fun _ h => h⟩
/-! ### dicts of words -/
theorem putK_bl (l : List Str) (x : Str) : putK (l.map fun y => ((Sum.inr y : Key), V.bl true)) (Sum.inr x) (V.bl true) = (U.addN l x).map fun y => ((Sum.inr y : Key), V.bl true) := by
  unfold putK U.addN
  by_cases h : x ∈ l
  · rw [if_pos (by rw [List.any_map, List.any_eq_true]; exact ⟨x, h, by simp⟩), if_pos h, List.map_map]
    apply List.map_congr_left
    intro y _
    simp only [Function.comp]
    split
    · rfl
    · rfl
  · rw [if_neg (by
      rw [List.any_map, List.any_eq_true]
      rintro ⟨y, hy, e⟩
      have e2 : (Sum.inr y : Key) = Sum.inr x := of_decide_eq_true e
      injection e2 with e2
      exact h (e2 ▸ hy)), if_neg h, List.map_append]
    rfl
theorem valV_bl (l : List Str) (x : Str) : valV (l.map fun y => ((Sum.inr y : Key), V.bl true)) (Sum.inr x) = if x ∈ l then some (.bl true) else none := by
  induction l with
  | nil => rfl
  | cons y l ih =>
    rw [List.map_cons]
    by_cases e : y = x
    · subst e
      rw [valV_pos rfl, if_pos List.mem_cons_self]
    · rw [valV_neg (by intro z; injection z with z; exact e z), ih]
      by_cases hx : x ∈ l
      · rw [if_pos hx, if_pos (List.mem_cons_of_mem _ hx)]
      · rw [if_neg hx, if_neg (by rw [List.mem_cons, not_or]; exact ⟨fun z => e z.symm, hx⟩)]
theorem keys_bl (l : List Str) : (l.map fun y => ((Sum.inr y : Key), V.bl true)).map (fun kv => kV kv.1) = l.map V.str := by
  rw [List.map_map]
  rfl
abbrev blD (l : List Str) : List (Key × V) := l.map fun y => ((Sum.inr y : Key), V.bl true)
end Toy

set_option Elab.async false
set_option maxRecDepth 100000
set_option maxHeartbeats 4000000
namespace Toy
open PySem L2
open U (Tm Pt RR tn nms vars addN dd)
/-! ### terms as objects -/
def tval : Tm → V
  | .inl _ => .non
  | .inr i => .int i
def okT : Tm → Bool
  | .inl s => !decide (s = "") && decide (s.length ≤ 1000) && PyData.strOk s
  | .inr _ => true
theorem okT_ne {s : Str} (h : okT (.inl s) = true) : s ≠ "" := by
  unfold okT at h
  simp only [Bool.and_eq_true, Bool.not_eq_true', decide_eq_false_iff_not] at h
  exact h.1.1
theorem okT_len {s : Str} (h : okT (.inl s) = true) : s.length ≤ 1000 := by
  unfold okT at h
  simp only [Bool.and_eq_true, decide_eq_true_eq] at h
  exact h.1.2
theorem okT_ok {s : Str} (h : okT (.inl s) = true) : PyData.strOk s = true := by
  unfold okT at h
  simp only [Bool.and_eq_true] at h
  exact h.2
abbrev TO (C : Addr) (H : Hp) (a : Addr) (t : Tm) : Prop := TmAt C H a (tn t) (tval t)
def TmsAt (C : Addr) (H : Hp) (p : Addr) (ts : List Tm) : Prop := ∃ as : List Addr, H p = some (.tup (as.map V.ref)) ∧ All2 (TO C H) as ts
def WfT (ts : List Tm) : Prop := ts.length ≤ 20 ∧ ∀ t ∈ ts, okT t = true
theorem TmAt.up {C : Addr} {H H' : Hp} {a : Addr} {n : Str} {v : V} (h : TmAt C H a n v) (s : Same H H') : TmAt C H' a n v := by
  obtain ⟨dx, e⟩ := h
  exact ⟨dx, s _ _ e⟩
theorem TmAt.wr {C : Addr} {H : Hp} {a l : Addr} {n : Str} {v : V} {o u : HO} (h : TmAt C H a n v) (hl : H l = some u) (hu : ∀ C dx fs, u ≠ .ins C dx fs) : TmAt C (upd H l o) a n v := by
  obtain ⟨dx, e⟩ := h
  exact ⟨dx, by rw [upd_ne (ne_of e hl (Ne.symm (hu _ _ _)))]; exact e⟩
theorem TmsAt.up {C : Addr} {H H' : Hp} {p : Addr} {ts : List Tm} (h : TmsAt C H p ts) (s : Same H H') : TmsAt C H' p ts := by
  obtain ⟨as, e, f⟩ := h
  exact ⟨as, s _ _ e, f.imp fun a t h => h.up s⟩
theorem TmsAt.wr {C : Addr} {H : Hp} {p l : Addr} {ts : List Tm} {o : HO} {xs : List V} (h : TmsAt C H p ts) (hl : H l = some (.lst xs)) : TmsAt C (upd H l o) p ts := by
  obtain ⟨as, e, f⟩ := h
  exact ⟨as, by rw [upd_ne (ne_of e hl (fun q => nomatch q))]; exact e, f.imp fun a t h => h.wr hl (fun _ _ _ q => nomatch q)⟩
theorem isVar_tn {t : Tm} (h : okT t = true) : (!decide (tn t = "")) = (match t with | .inl _ => true | .inr _ => false) := by
  cases t with
  | inl s =>
    show (!decide (s = "")) = true
    rw [decide_eq_false (okT_ne h)]
    rfl
  | inr i => rfl
theorem vars_snoc (ts : List Tm) (t : Tm) : vars (ts ++ [t]) = vars ts ++ (match t with | .inl s => [s] | .inr _ => []) := by
  unfold vars
  rw [List.filterMap_append]
  cases t <;> rfl
def spNamesIn (C : Addr) : Sp := fun vs H Q _ => ∃ (p : Addr) (ts : List Tm), vs = [.ref p] ∧ TmsAt C H p ts ∧ WfT ts ∧ ∀ q H', Same H H' → H' q = some (.tup ((nms ts).map V.str)) → Q (.ref q) H'
section
variable {P : Program} {w : World} {K : PySem.W.Frag} {mg : Str → Option Value} {base : Heap} {A : Ad}
theorem ok_names_in (T : Txt K mg A) : FnOk P w K mg base CX0 2 A.f_names_in A.d_names_in ["terms"] (spNamesIn A.C_Term) := by
  have G_Term_is_variable : FnOk P w K mg base CX0 1 A.f_Term_is_variable A.d_Term_is_variable ["self"] (spIsVar A.C_Term) := ok_is_variable T
  refine T.F_names_in.ok sc_names_in (fun vs H Q E h => ?_) (fun cdv ar outer s H vs Q E hr h => ?_)
  · obtain ⟨p, ts, rfl, _⟩ := h
    rfl
  · obtain ⟨p, ts, rfl, ⟨as, ep, fp⟩, ⟨h20, hok⟩, k⟩ := h
    have hu := hu_of hr
    refine ⟨_, (pss_cons (ps_set (i := 1) sc_names_in.nd rfl (Or.inl rfl) pe_dnewK)
      (pss_cons (ps_for PassesOwn.never rfl (tupIK K (pv 0)) (pg_name (i := 2) sc_names_in.nd rfl (Or.inl rfl))
        (pss_one (ps_if (pt_val (pe_meth0 (pv 2) T.cl_Term T.e_Term_is_variable G_Term_is_variable (hr.mono (by decide)) T.b_Term_is_variable .nil pass0))
          (pss_one (ps_dput hu (pv 1) (fldK K (pv 2) rfl) pe_bl rfl))
          pss_nil)))
      (pss_one (ps_ret (pe_callTy (tupDK) (by rfl) T.z_tuple (by decide +kernel) (pa_cons (pv 1) pa_nil)))))), ?_⟩
    refine fun d hd => ⟨_, rfl, p, rfl, ⟨_, SqT.of (by rw [upd_ne (ne_of_none ep hd)]; exact ep)⟩, ?_⟩
    refine for_tup (K := K) (a := p) (xs := as.map V.ref) (fun i σ H' => ∃ x, σ = [some (.ref p), some (.ref d), x] ∧ Same H H' ∧ H' d = some (.dK (blD ((vars (ts.take i)).foldl addN []))))
      ⟨none, rfl, same_new hd, upd_same⟩ (fun i σ H' _ ⟨x, _, s1, _⟩ => SqT.of (s1 _ _ ep)) ?_ ?_
    · rintro i v σ H' hv ⟨x, rfl, s1, eD⟩
      obtain ⟨a, t, rfl, ea, et, ha⟩ := fp.at hv
      have ha1 := TmAt.up ha s1
      obtain ⟨dx, g⟩ := id ha1
      have hot := hok t (List.mem_of_getElem? et)
      refine ⟨_, rfl, a, dx, _, rfl, g, no_isv _ _, a, _, _, rfl, ha1, _, rfl, ?_⟩
      rw [isVar_tn hot]
      cases t with
      | inl s =>
        refine iteT ⟨_, rfl, _, rfl, a, _, dx, _, _, rfl, g, T.cl_Term, T.n_Term_name, tf_name _ _, d, _, rfl, DPut.k (k := Sum.inr s) eD ?_, ?_⟩
        · rw [List.length_map]
          have h1 := U.fold_len (xs := vars (ts.take i)) (acc := [])
          have h2 := U.vars_len (ts.take i)
          rw [List.length_take] at h2
          exact sz (by simp at h1; omega)
        · refine ⟨_, rfl, same_mut s1 hd, ?_⟩
          rw [upd_same, putK_bl, take_one et, vars_snoc, List.foldl_append]
          rfl
      | inr n =>
        refine iteF ⟨_, rfl, s1, ?_⟩
        rw [take_one et, vars_snoc, List.append_nil]
        exact eD
    · rintro σ H' ⟨x, rfl, s1, eD⟩
      rw [List.length_map, fp.1, List.take_of_length_le (Nat.le_refl _)] at eD
      refine ⟨_, rfl, d, _, rfl, eD, fun q hq => ?_⟩
      rw [keys_bl]
      exact k q _ (s1.trans (same_new hq)) upd_same
end
end Toy

set_option Elab.async false
set_option maxRecDepth 100000
set_option maxHeartbeats 4000000
namespace Toy
open PySem L2
open U (Tm Pt RR tn nms vars addN dd rows cnt)
/-! ### parts and rules as objects -/
def lf (kind name : Str) (pt po : Addr) : List (Str × V) := putF "own" (.ref po) (putF "terms" (.ref pt) (putF "name" (.str name) (putF "kind" (.str kind) [])))
section
variable (kind name : Str) (pt po : Addr)
theorem lf_kind : (lf kind name pt po).lookup ("kind" : Str) = some (.str kind) := by
  unfold lf
  rw [lookup_putF, if_neg (by decide +kernel), lookup_putF, if_neg (by decide +kernel), lookup_putF, if_neg (by decide +kernel), lookup_putF, if_pos rfl]
theorem lf_name : (lf kind name pt po).lookup ("name" : Str) = some (.str name) := by
  unfold lf
  rw [lookup_putF, if_neg (by decide +kernel), lookup_putF, if_neg (by decide +kernel), lookup_putF, if_pos rfl]
theorem lf_terms : (lf kind name pt po).lookup ("terms" : Str) = some (.ref pt) := by
  unfold lf
  rw [lookup_putF, if_neg (by decide +kernel), lookup_putF, if_pos rfl]
theorem lf_own : (lf kind name pt po).lookup ("own" : Str) = some (.ref po) := by
  unfold lf
  rw [lookup_putF, if_pos rfl]
theorem lf_no {m : Str} (h1 : ¬ m = "own") (h2 : ¬ m = "terms") (h3 : ¬ m = "name") (h4 : ¬ m = "kind") : (lf kind name pt po).lookup m = none := by
  unfold lf
  rw [lookup_putF, if_neg h1, lookup_putF, if_neg h2, lookup_putF, if_neg h3, lookup_putF, if_neg h4]
  rfl
theorem lf_names : (lf kind name pt po).lookup ("names" : Str) = none := lf_no _ _ _ _ (by decide +kernel) (by decide +kernel) (by decide +kernel) (by decide +kernel)
theorem lf_shown : (lf kind name pt po).lookup ("shown" : Str) = none := lf_no _ _ _ _ (by decide +kernel) (by decide +kernel) (by decide +kernel) (by decide +kernel)
end
def rf (name : Str) (pt pb : Addr) (sv : V) (ps : Addr) : List (Str × V) := putF "stands" (.ref ps) (putF "summed" sv (putF "body" (.ref pb) (putF "terms" (.ref pt) (putF "name" (.str name) []))))
section
variable (name : Str) (pt pb : Addr) (sv : V) (ps : Addr)
theorem rf_stands : (rf name pt pb sv ps).lookup ("stands" : Str) = some (.ref ps) := by
  unfold rf
  rw [lookup_putF, if_pos rfl]
theorem rf_summed : (rf name pt pb sv ps).lookup ("summed" : Str) = some sv := by
  unfold rf
  rw [lookup_putF, if_neg (by decide +kernel), lookup_putF, if_pos rfl]
theorem rf_body : (rf name pt pb sv ps).lookup ("body" : Str) = some (.ref pb) := by
  unfold rf
  rw [lookup_putF, if_neg (by decide +kernel), lookup_putF, if_neg (by decide +kernel), lookup_putF, if_pos rfl]
theorem rf_terms : (rf name pt pb sv ps).lookup ("terms" : Str) = some (.ref pt) := by
  unfold rf
  rw [lookup_putF, if_neg (by decide +kernel), lookup_putF, if_neg (by decide +kernel), lookup_putF, if_neg (by decide +kernel), lookup_putF, if_pos rfl]
theorem rf_name : (rf name pt pb sv ps).lookup ("name" : Str) = some (.str name) := by
  unfold rf
  rw [lookup_putF, if_neg (by decide +kernel), lookup_putF, if_neg (by decide +kernel), lookup_putF, if_neg (by decide +kernel), lookup_putF, if_neg (by decide +kernel), lookup_putF, if_pos rfl]
theorem rf_no {m : Str} (h1 : ¬ m = "stands") (h2 : ¬ m = "summed") (h3 : ¬ m = "body") (h4 : ¬ m = "terms") (h5 : ¬ m = "name") : (rf name pt pb sv ps).lookup m = none := by
  unfold rf
  rw [lookup_putF, if_neg h1, lookup_putF, if_neg h2, lookup_putF, if_neg h3, lookup_putF, if_neg h4, lookup_putF, if_neg h5]
  rfl
theorem rf_asked : (rf name pt pb sv ps).lookup ("asked" : Str) = none := rf_no _ _ _ _ _ (by decide +kernel) (by decide +kernel) (by decide +kernel) (by decide +kernel) (by decide +kernel)
theorem rf_shown : (rf name pt pb sv ps).lookup ("shown" : Str) = none := rf_no _ _ _ _ _ (by decide +kernel) (by decide +kernel) (by decide +kernel) (by decide +kernel) (by decide +kernel)
end
def LitAt (A : Ad) (H : Hp) (a : Addr) (q : Pt) : Prop := ∃ dx pt po, H a = some (.ins A.C_Literal dx (lf q.kind q.name pt po)) ∧ TmsAt A.C_Term H pt q.ts ∧ H po = some (.tup ((nms q.ts).map V.str))
theorem LitAt.up {A : Ad} {H H' : Hp} {a : Addr} {q : Pt} (h : LitAt A H a q) (s : Same H H') : LitAt A H' a q := by
  obtain ⟨dx, pt, po, e, f, g⟩ := h
  exact ⟨dx, pt, po, s _ _ e, f.up s, s _ _ g⟩
theorem LitAt.wr {A : Ad} {H : Hp} {a l : Addr} {q : Pt} {xs : List V} {o : HO} (h : LitAt A H a q) (hl : H l = some (.lst xs)) : LitAt A (upd H l o) a q := by
  obtain ⟨dx, pt, po, e, f, g⟩ := h
  exact ⟨dx, pt, po, by rw [upd_ne (ne_of e hl (fun q => nomatch q))]; exact e, f.wr hl, by rw [upd_ne (ne_of g hl (fun q => nomatch q))]; exact g⟩
def CntAt (H : Hp) (d : Addr) (l : List (List Str)) : Prop := ∃ kvs : List (Key × V), H d = some (.dK kvs) ∧ ∀ x, valV kvs (Sum.inr x) = if cnt l x = 0 then none else some (.int (cnt l x))
def RuleAt (A : Ad) (H : Hp) (a : Addr) (r : RR) : Prop := ∃ (dx pt pb ps : Addr) (sv : V) (bs : List Addr), H a = some (.ins A.C_Rule dx (rf r.name pt pb sv ps)) ∧ TmsAt A.C_Term H pt r.ts ∧ H pb = some (.tup (bs.map V.ref)) ∧
  All2 (LitAt A H) bs r.body ∧ decide (sv = .non) = !r.sm ∧ CntAt H ps (rows r)
theorem RuleAt.up {A : Ad} {H H' : Hp} {a : Addr} {r : RR} (h : RuleAt A H a r) (s : Same H H') : RuleAt A H' a r := by
  obtain ⟨dx, pt, pb, ps, sv, bs, e, f, g, hb, hs, kvs, ek, hk⟩ := h
  exact ⟨dx, pt, pb, ps, sv, bs, s _ _ e, f.up s, s _ _ g, hb.imp fun a t h => h.up s, hs, kvs, s _ _ ek, hk⟩
theorem RuleAt.wr {A : Ad} {H : Hp} {a l : Addr} {r : RR} {xs : List V} {o : HO} (h : RuleAt A H a r) (hl : H l = some (.lst xs)) : RuleAt A (upd H l o) a r := by
  obtain ⟨dx, pt, pb, ps, sv, bs, e, f, g, hb, hs, kvs, ek, hk⟩ := h
  exact ⟨dx, pt, pb, ps, sv, bs, by rw [upd_ne (ne_of e hl (fun q => nomatch q))]; exact e, f.wr hl, by rw [upd_ne (ne_of g hl (fun q => nomatch q))]; exact g, hb.imp fun a t h => h.wr hl, hs, kvs,
    by rw [upd_ne (ne_of ek hl (fun q => nomatch q))]; exact ek, hk⟩
def WfB (body : List Pt) : Prop := body.length ≤ 20 ∧ ∀ q ∈ body, WfT q.ts ∧ q.name.length ≤ 900 ∧ PyData.strOk q.name = true ∧ PyData.strOk q.kind = true
structure Wf (r : RR) : Prop where
  ts : WfT r.ts
  body : WfB r.body
  name : r.name.length ≤ 900
  nok : PyData.strOk r.name = true
theorem tf_ne (n : Str) (v : V) : tf n v ≠ [] := fun e => by
  have := tf_name n v
  rw [e] at this
  cases this
theorem TmAt.ne_bare {C C' : Addr} {H : Hp} {a p dx : Addr} {n : Str} {v : V} (h : TmAt C H a n v) (hp : H p = some (.ins C' dx [])) : a ≠ p := by
  obtain ⟨d, e⟩ := h
  refine ne_of e hp fun q => ?_
  injection q with _ _ q
  exact tf_ne _ _ q
theorem LitAt.ne_bare {A : Ad} {C' : Addr} {H : Hp} {a p dx : Addr} {q : Pt} (h : LitAt A H a q) (hp : H p = some (.ins C' dx [])) : a ≠ p := by
  obtain ⟨d, pt, po, e, _⟩ := h
  refine ne_of e hp fun z => ?_
  injection z with _ _ z
  have := lf_kind q.kind q.name pt po
  rw [z] at this
  cases this
/-- all but p stands -/
theorem TmAt.upx {C : Addr} {H H' : Hp} {a p : Addr} {n : Str} {v : V} (h : TmAt C H a n v) (s : SameX p H H') (ha : a ≠ p) : TmAt C H' a n v := by
  obtain ⟨dx, e⟩ := h
  exact ⟨dx, s _ _ e ha⟩
theorem TmsAt.upx {C C' : Addr} {H H' : Hp} {a p dx : Addr} {ts : List Tm} (h : TmsAt C H a ts) (s : SameX p H H') (hp : H p = some (.ins C' dx [])) : TmsAt C H' a ts := by
  obtain ⟨as, e, f⟩ := h
  exact ⟨as, s _ _ e (ne_of e hp (fun q => nomatch q)), f.imp fun a t h => TmAt.upx h s (TmAt.ne_bare h hp)⟩
theorem LitAt.upx {A : Ad} {C' : Addr} {H H' : Hp} {a p dx : Addr} {q : Pt} (h : LitAt A H a q) (s : SameX p H H') (hp : H p = some (.ins C' dx [])) : LitAt A H' a q := by
  have ha := h.ne_bare hp
  obtain ⟨d, pt, po, e, f, g⟩ := h
  exact ⟨d, pt, po, s _ _ e ha, f.upx s hp, s _ _ g (ne_of g hp (fun q => nomatch q))⟩
abbrev LTms (C : Addr) (H : Hp) (p : Addr) (ts : List Tm) : Prop := ∃ as : List Addr, H p = some (.lst (as.map V.ref)) ∧ All2 (TO C H) as ts
def spLitInit (A : Ad) : Sp := fun vs H Q _ => ∃ (p dx tp : Addr) (kind name : Str) (ts : List Tm), vs = [.ref p, .str kind, .str name, .ref tp] ∧ H p = some (.ins A.C_Literal dx []) ∧ LTms A.C_Term H tp ts ∧ WfT ts ∧
  ∀ H', LitAt A H' p ⟨kind, name, ts⟩ → SameX p H H' → Q .non H'
def spLitNames (A : Ad) : Sp := fun vs H Q _ => ∃ (p : Addr) (q : Pt), vs = [.ref p] ∧ LitAt A H p q ∧ ∀ t, H t = some (.tup ((nms q.ts).map V.str)) → Q (.ref t) H
def spHow : Sp := fun vs H Q _ => ∃ (l : Addr) (bs : List Addr) (rs : List (List Str)), vs = [.ref l] ∧ H l = some (.lst (bs.map V.ref)) ∧ All2 (fun b row => H b = some (.tup (row.map V.str))) bs rs ∧ rs.length ≤ 30 ∧ (∀ row ∈ rs, row.Nodup ∧ row.length ≤ 20) ∧
  ∀ d H', Same H H' → CntAt H' d rs → Q (.ref d) H'
section
variable {P : Program} {w : World} {K : PySem.W.Frag} {mg : Str → Option Value} {base : Heap} {A : Ad}
theorem ok_lit_init (T : Txt K mg A) : FnOk P w K mg base CX0 3 A.f_Literal_init A.d_Literal_init ["self", "kind", "name", "terms"] (spLitInit A) := by
  have G_names_in : FnOk P w K mg base CX0 2 A.f_names_in A.d_names_in ["terms"] (spNamesIn A.C_Term) := ok_names_in T
  refine T.F_Literal_init.ok sc_Literal_init (fun vs H Q E h => ?_) (fun cdv ar outer s H vs Q E hr h => ?_)
  · obtain ⟨p, dx, tp, kind, name, ts, rfl, _⟩ := h
    rfl
  · obtain ⟨p, dx, tp, kind, name, ts, rfl, hp, ⟨as, et, ft⟩, hw, k⟩ := h
    refine ⟨_, (pss_cons (sfldK K (pv 0) (pv 1) rfl)
      (pss_cons (sfldK K (pv 0) (pv 2) rfl)
      (pss_cons (sfldK K (pv 0) (pe_callTy (tupOf K) (by rfl) T.z_tuple (by decide +kernel) (pa_cons (pv 3) pa_nil)) rfl)
      (pss_one (sfldK K (pv 0) (pe_call G_names_in (hr.mono (by decide)) (by rfl) T.m_names_in T.F_names_in.kp T.b_names_in .nil pass0 (pa_cons (fldK K (pv 0) rfl) pa_nil)) rfl))))), ?_⟩
    have ntp : tp ≠ p := ne_of et hp (fun q => nomatch q)
    refine ⟨_, rfl, _, rfl, p, _, dx, _, rfl, hp, T.cl_Literal, T.n_Literal_kind, (by show 0 < 1000; decide), ?_⟩
    refine ⟨_, rfl, _, rfl, p, _, dx, _, rfl, upd_same, T.cl_Literal, T.n_Literal_name, (by show 1 < 1000; decide), ?_⟩
    refine ⟨_, rfl, tp, _, rfl, .inl ⟨SqL.of (by rw [upd_ne ntp, upd_ne ntp]; exact et), fun pt hpt => ?_⟩⟩
    have npt : p ≠ pt := ne_of_none upd_same hpt
    refine ⟨_, rfl, p, _, dx, _, rfl, (by rw [upd_ne npt, upd_same]), T.cl_Literal, T.n_Literal_terms, (by show 2 < 1000; decide), ?_⟩
    have hptH : H pt = none := by
      rw [upd_ne npt.symm, upd_ne npt.symm] at hpt
      exact hpt
    have x1 : SameX p H (upd (upd (upd (upd H p (.ins A.C_Literal dx (putF "kind" (.str kind) []))) p (.ins A.C_Literal dx (putF "name" (.str name) (putF "kind" (.str kind) [])))) pt (.tup (as.map V.ref))) p (.ins A.C_Literal dx (putF "terms" (.ref pt) (putF "name" (.str name) (putF "kind" (.str kind) []))))) :=
      fun b o e nb => by rw [upd_ne nb, upd_ne (ne_of_none e hptH), upd_ne nb, upd_ne nb]; exact e
    refine ⟨_, rfl, p, _, dx, _, _, rfl, upd_same, T.cl_Literal, T.n_Literal_terms, (by rw [lookup_putF, if_pos rfl]), ?_⟩
    have tmA : TmsAt A.C_Term _ pt ts := ⟨as, by rw [upd_ne npt.symm, upd_same], ft.imp fun a t h => TmAt.upx h x1 (TmAt.ne_bare h hp)⟩
    refine ⟨pt, ts, rfl, tmA, hw, fun q H5 s5 eq5 => ?_⟩
    have h5 := s5 _ _ upd_same
    refine ⟨_, rfl, p, _, dx, _, rfl, h5, T.cl_Literal, T.n_Literal_own, (by show 3 < 1000; decide), ?_⟩
    have x2 : SameX p H (upd H5 p (.ins A.C_Literal dx (lf kind name pt q))) := fun b o e nb => by rw [upd_ne nb]; exact s5 _ _ (x1 _ _ e nb)
    refine k _ ⟨dx, pt, q, upd_same, ⟨as, ?_, ft.imp fun a t h => TmAt.upx h x2 (TmAt.ne_bare h hp)⟩, ?_⟩ x2
    · rw [upd_ne npt.symm]
      exact s5 _ _ (by rw [upd_ne npt.symm, upd_same])
    · rw [upd_ne (ne_of eq5 h5 (fun z => nomatch z))]
      exact eq5
theorem ok_lit_names (T : Txt K mg A) : FnOk P w K mg base CX0 1 A.f_Literal_names A.d_Literal_names ["self"] (spLitNames A) := by
  refine T.F_Literal_names.ok sc_Literal_names (fun vs H Q E h => ?_) (fun cdv ar outer s H vs Q E hr h => ?_)
  · obtain ⟨p, q, rfl, _⟩ := h
    rfl
  · obtain ⟨p, q, rfl, ⟨dx, pt, po, e, f, g⟩, k⟩ := h
    refine ⟨_, (pss_one (ps_ret (fldK K (pv 0) rfl))), ?_⟩
    exact ⟨_, rfl, p, _, dx, _, _, rfl, e, T.cl_Literal, T.n_Literal_own, lf_own _ _ _ _, k po g⟩
theorem cnt_row {l : List (List Str)} {i : Nat} {row : List Str} (h : l[i]? = some row) (x : Str) : cnt (l.take (i + 1)) x = cnt (l.take i) x + if x ∈ row then 1 else 0 := by
  rw [take_one h, U.cnt_app, U.cnt_cons]
  rfl
theorem putK_len {κ : Type} [DecidableEq κ] (kvs : List (κ × V)) (k : κ) (v : V) : (putK kvs k v).length ≤ kvs.length + 1 := by
  unfold putK
  split
  · rw [List.length_map]
    omega
  · rw [List.length_append]
    exact Nat.le_refl _
theorem ok_how (T : Txt K mg A) : FnOk P w K mg base CX0 1 A.f_how_often A.d_how_often ["rows"] spHow := by
  refine T.F_how_often.ok sc_how_often (fun vs H Q E h => ?_) (fun cdv ar outer s H vs Q E hr h => ?_)
  · obtain ⟨l, bs, rs, rfl, _⟩ := h
    rfl
  · obtain ⟨l, bs, rs, rfl, el, fl, h30, hrow, k⟩ := h
    have hu := hu_of hr
    refine ⟨_, (pss_cons (ps_set (i := 1) sc_how_often.nd rfl (Or.inl rfl) pe_dnewK)
      (pss_cons (ps_for PassesOwn.never rfl (listK K (pv 0)) (pg_name (i := 2) sc_how_often.nd rfl (Or.inl rfl))
        (pss_one (ps_for PassesOwn.never rfl (tupIK K (pv 2)) (pg_name (i := 3) sc_how_often.nd rfl (Or.inl rfl))
          (pss_one (ps_dput hu (pv 1) (pv 3) (pe_op op_add (pe_dget2 hu (pv 1) (pv 3) pe_int ⟨rfl, rfl, rfl, rfl⟩) pe_int) rfl)))))
      (pss_one (ps_ret (pv 1))))), ?_⟩
    refine fun d hd => ⟨_, rfl, l, rfl, ⟨_, SqL.of (by rw [upd_ne (ne_of_none el hd)]; exact el)⟩, ?_⟩
    refine for_list (K := K) (a := l) (xs := bs.map V.ref) (fun i σ H' => ∃ x y kvs, σ = [some (.ref l), some (.ref d), x, y] ∧ Same H H' ∧ H' d = some (.dK kvs) ∧ kvs.length ≤ 20 * i ∧ ∀ z, valV kvs (Sum.inr z) = if cnt (rs.take i) z = 0 then none else some (.int (cnt (rs.take i) z)))
      ⟨none, none, [], rfl, same_new hd, upd_same, Nat.zero_le _, fun z => rfl⟩ (fun i σ H' _ ⟨x, y, kvs, _, s1, _⟩ => SqL.of (s1 _ _ el)) ?_ ?_
    · rintro i v σ H' hv ⟨x, y, kvs, rfl, s1, eD, hl, hval⟩
      obtain ⟨b, row, rfl, eb, erow, hb⟩ := fl.at hv
      have hb1 := s1 _ _ hb
      obtain ⟨hnd, h20⟩ := hrow row (List.mem_of_getElem? erow)
      have hi : i < rs.length := (List.getElem?_eq_some_iff.mp erow).1
      refine ⟨_, rfl, b, rfl, ⟨_, SqT.of hb1⟩, ?_⟩
      refine for_tup (K := K) (a := b) (xs := row.map V.str) (fun j σ H2 => ∃ y kvs, σ = [some (.ref l), some (.ref d), some (.ref b), y] ∧ Same H H2 ∧ H2 b = some (.tup (row.map V.str)) ∧ H2 d = some (.dK kvs) ∧ kvs.length ≤ 20 * i + j ∧ ∀ z, valV kvs (Sum.inr z) = if cnt (rs.take i) z + (if z ∈ row.take j then 1 else 0) = 0 then none else some (.int ((cnt (rs.take i) z + (if z ∈ row.take j then 1 else 0) : Nat) : Int)))
        ⟨y, kvs, rfl, s1, hb1, eD, by omega, fun z => by simpa using hval z⟩ (fun j σ H2 _ ⟨y, kvs, _, _, h, _⟩ => SqT.of h) ?_ ?_
      · rintro j v σ H2 hv ⟨y, kvs, rfl, s2, hb2, eD2, hl2, hval2⟩
        rw [List.getElem?_map] at hv
        obtain ⟨z, hz, rfl⟩ := Option.map_eq_some_iff.mp hv
        have hjl : j < row.length := (List.getElem?_eq_some_iff.mp hz).1
        have hzn : z ∉ row.take j := fun hm => by
          obtain ⟨i', hi', e'⟩ := List.getElem_of_mem hm
          rw [List.length_take] at hi'
          rw [List.getElem_take] at e'
          have hj := (List.getElem?_eq_some_iff.mp hz).2
          exact List.pairwise_iff_getElem.mp hnd i' j (by omega) hjl (by omega) (e'.trans hj.symm)
        have ec : (valV kvs (Sum.inr z)).getD (V.int 0) = V.int ((cnt (rs.take i) z : Nat) : Int) := by
          rw [hval2 z, if_neg hzn, Nat.add_zero]
          by_cases h0 : cnt (rs.take i) z = 0
          · rw [if_pos h0, h0]
            rfl
          · rw [if_neg h0]
            rfl
        refine ⟨_, rfl, d, rfl, .inl ⟨_, .inl eD2⟩, _, rfl, _, DGet.k (k := Sum.inr z) eD2, _, _, ec, rfl, ?_⟩
        refine ⟨_, rfl, _, rfl, d, _, rfl, DPut.k (k := Sum.inr z) eD2 (sz (by omega)), ?_⟩
        have nbd : b ≠ d := ne_of hb2 eD2 (fun q => nomatch q)
        refine ⟨_, _, rfl, same_mut s2 hd, by rw [upd_ne nbd]; exact hb2, upd_same, ?_, fun y => ?_⟩
        · exact Nat.le_trans (putK_len _ _ _) (by omega)
        · rw [valV_put]
          have em : (y ∈ row.take (j + 1)) ↔ (y ∈ row.take j ∨ y = z) := by
            rw [take_one hz, List.mem_append, List.mem_singleton]
          by_cases e : y = z
          · subst e
            rw [if_pos rfl, if_pos (em.mpr (.inr rfl)), if_neg (by omega)]
            congr 1
          · rw [if_neg (fun q => e (by injection q)), hval2 y]
            by_cases hm : y ∈ row.take j
            · rw [if_pos hm, if_pos (em.mpr (.inl hm))]
            · rw [if_neg hm, if_neg (fun q => (em.mp q).elim hm e)]
      · rintro σ H2 ⟨y, kvs, rfl, s2, hb2, eD2, hl2, hval2⟩
        rw [List.length_map] at hl2 hval2
        refine ⟨_, _, kvs, rfl, s2, eD2, by omega, fun z => ?_⟩
        rw [hval2 z, cnt_row erow, List.take_of_length_le (Nat.le_refl _)]
    · rintro σ H' ⟨x, y, kvs, rfl, s1, eD, hl, hval⟩
      rw [List.length_map, fl.1, List.take_of_length_le (Nat.le_refl _)] at hval
      exact ⟨_, rfl, k d H' s1 ⟨kvs, eD, hval⟩⟩
end
end Toy

set_option Elab.async false
set_option maxRecDepth 100000
set_option maxHeartbeats 4000000
namespace Toy
open PySem L2
open U (Tm Pt RR tn nms vars addN dd rows cnt)
theorem red (R : VK → Prop) (Qk : VK) {v : V} {H : Hp} (f : ∀ Qv : VK, Qv v H → R Qv) (q : Qk v H) : R Qk := f Qk q
theorem flat_str (l : List Str) : (l.map V.str).all flatV = true := by
  rw [List.all_map, List.all_eq_true]
  exact fun _ _ => rfl
theorem inV_str (x : Str) (l : List Str) : inV (.str x) (l.map V.str) = decide (x ∈ l) := by
  unfold inV
  rw [List.any_map]
  by_cases h : x ∈ l
  · rw [decide_eq_true h, List.any_eq_true]
    exact ⟨x, h, by simp [eqV]⟩
  · rw [decide_eq_false h, List.any_eq_false]
    intro y hy
    simp only [Function.comp, eqV, beq_iff_eq]
    intro e
    exact h (e ▸ hy)
def spRuleInit (A : Ad) : Sp := fun vs H Q _ => ∃ (p dx tp bp : Addr) (name : Str) (sv : V) (sm : Bool) (ts : List Tm) (body : List Pt) (bs : List Addr), vs = [.ref p, .str name, .ref tp, .ref bp, sv] ∧ H p = some (.ins A.C_Rule dx []) ∧ LTms A.C_Term H tp ts ∧ H bp = some (.lst (bs.map V.ref)) ∧
  All2 (LitAt A H) bs body ∧ WfT ts ∧ WfB body ∧ ((sv = .non ∧ sm = false) ∨ ∃ sp xs, sv = .ref sp ∧ H sp = some (.tup xs) ∧ sm = true) ∧ ∀ H', RuleAt A H' p ⟨name, ts, body, sm⟩ → SameX p H H' → Q .non H'
section
variable {P : Program} {w : World} {K : PySem.W.Frag} {mg : Str → Option Value} {base : Heap} {A : Ad}
theorem wfT_nms {ts : List Tm} (h : WfT ts) : (nms ts).Nodup ∧ (nms ts).length ≤ 20 := ⟨U.dd_nodup _, Nat.le_trans (U.nms_len ts) h.1⟩
theorem ok_rule_init (T : Txt K mg A) : FnOk P w K mg base CX0 3 A.f_Rule_init A.d_Rule_init ["self", "name", "terms", "body", "summed"] (spRuleInit A) := by
  have G_names_in : FnOk P w K mg base CX0 2 A.f_names_in A.d_names_in ["terms"] (spNamesIn A.C_Term) := ok_names_in T
  have G_how_often : FnOk P w K mg base CX0 1 A.f_how_often A.d_how_often ["rows"] spHow := ok_how T
  have G_Literal_names : FnOk P w K mg base CX0 1 A.f_Literal_names A.d_Literal_names ["self"] (spLitNames A) := ok_lit_names T
  refine T.F_Rule_init.ok sc_Rule_init (fun vs H Q E h => ?_) (fun cdv ar outer s H vs Q E hr h => ?_)
  · obtain ⟨p, dx, tp, bp, name, sv, sm, ts, body, bs, rfl, _⟩ := h
    rfl
  · obtain ⟨p, dx, tp, bp, name, sv, sm, ts, body, bs, rfl, hp, ⟨as, et, ft⟩, eb, fb, hw, hwb, hsv, k⟩ := h
    refine ⟨_, (pss_cons (sfldK K (pv 0) (pv 1) rfl)
      (pss_cons (sfldK K (pv 0) (pe_callTy (tupOf K) (by rfl) T.z_tuple (by decide +kernel) (pa_cons (pv 2) pa_nil)) rfl)
      (pss_cons (sfldK K (pv 0) (pe_callTy (tupOf K) (by rfl) T.z_tuple (by decide +kernel) (pa_cons (pv 3) pa_nil)) rfl)
      (pss_cons (sfldK K (pv 0) (pe_ifExp (pt_cmpR op_isN (pv 4) pe_non (nomark _)) pe_non (pe_callTy (tupOf K) (by rfl) T.z_tuple (by decide +kernel) (pa_cons (pv 4) pa_nil))) rfl)
      (pss_one (sfldK K (pv 0) (pe_call G_how_often (hr.mono (by decide)) (by rfl) T.m_how_often T.F_how_often.kp T.b_how_often .nil pass0 (pa_cons (pe_op op_cat (pe_lst (pa_cons (pe_call G_names_in (hr.mono (by decide)) (by rfl) T.m_names_in T.F_names_in.kp T.b_names_in .nil pass0 (pa_cons (fldK K (pv 0) rfl) pa_nil)) pa_nil)) (pe_lc (own := [("part", 5)]) (by rfl) sc_Rule_init.nd (tupIK K (fldK K (pv 0) rfl)) (blkOk_by (own := [("part", 5)]) (N := N_Rule_init) (sc := defScope s_Rule_init) (by decide +kernel)) (fun _ _ _ _ _ => (pg_name (i := 5) sc_Rule_init.nd rfl (Or.inl rfl))) (fun _ _ _ _ _ => pts_nil) (fun _ _ _ _ _ => (pe_meth0 (pv 5) T.cl_Literal T.e_Literal_names G_Literal_names (hr.mono (by decide)) T.b_Literal_names .nil pass0)))) pa_nil)) rfl)))))), ?_⟩
    have ntp : tp ≠ p := ne_of et hp (fun q => nomatch q)
    have nbp : bp ≠ p := ne_of eb hp (fun q => nomatch q)
    refine ⟨_, rfl, _, rfl, p, _, dx, _, rfl, hp, T.cl_Rule, T.n_Rule_name, (by show 0 < 1000; decide), ?_⟩
    refine ⟨_, rfl, tp, _, rfl, .inl ⟨SqL.of (by rw [upd_ne ntp]; exact et), fun pt hpt => ?_⟩⟩
    have npt : p ≠ pt := ne_of_none upd_same hpt
    have hptH : H pt = none := by
      rw [upd_ne npt.symm] at hpt
      exact hpt
    refine ⟨_, rfl, p, _, dx, _, rfl, (by rw [upd_ne npt, upd_same]), T.cl_Rule, T.n_Rule_terms, (by show 1 < 1000; decide), ?_⟩
    have x1 : SameX p H (upd (upd (upd H p (.ins A.C_Rule dx (putF "name" (.str name) []))) pt (.tup (as.map V.ref))) p (.ins A.C_Rule dx (putF "terms" (.ref pt) (putF "name" (.str name) [])))) :=
      fun b o e nb => by rw [upd_ne nb, upd_ne (ne_of_none e hptH), upd_ne nb]; exact e
    refine ⟨_, rfl, bp, _, rfl, .inl ⟨SqL.of (x1 _ _ eb nbp), fun pb hpb => ?_⟩⟩
    have npb : p ≠ pb := ne_of_none upd_same hpb
    have nptb : pt ≠ pb := ne_of_none (by rw [upd_ne npt.symm, upd_same]) hpb
    refine ⟨_, rfl, p, _, dx, _, rfl, (by rw [upd_ne npb, upd_same]), T.cl_Rule, T.n_Rule_body, (by show 2 < 1000; decide), ?_⟩
    refine ⟨_, rfl, rfl, _, rfl, ?_⟩
    generalize hH3 : upd (upd (upd (upd (upd H p (.ins A.C_Rule dx (putF "name" (.str name) []))) pt (.tup (as.map V.ref))) p (.ins A.C_Rule dx (putF "terms" (.ref pt) (putF "name" (.str name) [])))) pb (.tup (bs.map V.ref))) p _ = H3
    have x3 : SameX p H H3 := fun b o e nb => by
      rw [← hH3, upd_ne nb, upd_ne (ne_of_none (x1 _ _ e nb) hpb)]
      exact x1 _ _ e nb
    have h3p : H3 p = some (.ins A.C_Rule dx (putF "body" (.ref pb) (putF "terms" (.ref pt) (putF "name" (.str name) [])))) := by rw [← hH3, upd_same]
    have h3t : H3 pt = some (.tup (as.map V.ref)) := by rw [← hH3, upd_ne npt.symm, upd_ne nptb, upd_ne npt.symm, upd_same]
    have h3b : H3 pb = some (.tup (bs.map V.ref)) := by rw [← hH3, upd_ne npb.symm, upd_same]
    rcases hsv with ⟨e1, e2⟩ | ⟨sp, xs, e1, es, e2⟩
    all_goals
      subst e1
      first
        | refine iteT ?_
        | refine iteF ⟨_, rfl, sp, _, rfl, .inr ⟨SqT.of (x3 _ _ es (ne_of es hp (fun q => nomatch q))), ?_⟩⟩
      refine ⟨_, rfl, p, _, dx, _, rfl, h3p, T.cl_Rule, T.n_Rule_summed, (by show 3 < 1000; decide), ?_⟩
      generalize hH4 : upd H3 p _ = H4
      have x4 : SameX p H H4 := fun b o e nb => by rw [← hH4, upd_ne nb]; exact x3 _ _ e nb
      obtain ⟨sv', h4p, hsv'⟩ : ∃ sv', H4 p = some (.ins A.C_Rule dx (putF "summed" sv' (putF "body" (.ref pb) (putF "terms" (.ref pt) (putF "name" (.str name) []))))) ∧ decide (sv' = .non) = !sm := ⟨_, by rw [← hH4, upd_same], by rw [e2]; rfl⟩
      have h4t : H4 pt = some (.tup (as.map V.ref)) := by rw [← hH4, upd_ne npt.symm]; exact h3t
      have h4b : H4 pb = some (.tup (bs.map V.ref)) := by rw [← hH4, upd_ne npb.symm]; exact h3b
      have tm4 : TmsAt A.C_Term H4 pt ts := ⟨as, h4t, ft.imp fun a t h => TmAt.upx h x4 (TmAt.ne_bare h hp)⟩
      refine ⟨_, rfl, p, _, dx, _, _, rfl, h4p, T.cl_Rule, T.n_Rule_terms, (by rw [lookup_putF, if_neg (by decide +kernel), lookup_putF, if_neg (by decide +kernel), lookup_putF, if_pos rfl]), pt, ts, rfl, tm4, hw, fun n1 H5 s5 e5 => ?_⟩
      refine ⟨(by show 1 ≤ sizeLine; decide), fun l hl => ?_⟩
      have s6 : Same H4 (upd H5 l (.lst [.ref n1])) := s5.trans (same_new hl)
      refine ⟨_, rfl, p, _, dx, _, _, rfl, s6 _ _ h4p, T.cl_Rule, T.n_Rule_body, (by rw [lookup_putF, if_neg (by decide +kernel), lookup_putF, if_pos rfl]), pb, rfl, ⟨_, SqT.of (s6 _ _ h4b)⟩, fun D hD => ?_⟩
      have st : Stab D fun H y (row : List Str) => ∃ a, y = .ref a ∧ H a = some (.tup (row.map V.str)) := ⟨fun ⟨a, e, h⟩ s => ⟨a, e, s _ _ h⟩, fun hl ⟨a, e, h⟩ => ⟨a, e, by rw [upd_ne (ne_of h hl (fun q => nomatch q))]; exact h⟩⟩
      have fb4 : All2 (LitAt A H4) bs body := fb.imp fun a t h => LitAt.upx h x4 hp
      refine lc_tup (K := K) (a := pb) (xs := bs.map V.ref) (LcI (fun H y (row : List Str) => ∃ a, y = .ref a ∧ H a = some (.tup (row.map V.str))) (fun _ => true) (body.map fun q => nms q.ts) (upd H5 l (.lst [.ref n1])) D) (LcI.start hD) (fun i H' _ h => SqT.of (h.1 _ _ (s6 _ _ h4b))) ?_ ?_
      · rintro i x H' hx h
        obtain ⟨b, q, rfl, eb', eq', hb⟩ := fb4.at hx
        have hb1 := (hb.up s6).up h.1
        obtain ⟨dxb, ptb, pob, gb, _, _⟩ := id hb1
        refine ⟨rfl, _, rfl, b, dxb, _, rfl, gb, lf_names _ _ _ _, b, q, rfl, hb1, fun t ht => ?_⟩
        exact h.yes st hD (by rw [List.length_map]; have := hwb.1; omega) (by rw [List.getElem?_map, eq']; rfl) rfl (fun _ _ e => e) ⟨t, rfl, ht⟩
      · intro H' h
        obtain ⟨ys, s7, eD, hv⟩ := h.fin (by rw [List.length_map, List.length_map, fb.1]; exact Nat.le_refl _)
        obtain ⟨cs, rfl, hc⟩ := hv.refs
        rw [filter_tt] at hc
        have el7 := s7 _ _ (show upd H5 l (.lst [.ref n1]) l = _ from upd_same)
        refine ⟨l, D, _, _, rfl, rfl, el7, eD, ?_, fun m hm => ?_⟩
        · rw [List.length_map, hc.1, List.length_map]
          have := hwb.1
          exact sz' (by show 1 + _ ≤ 1000; omega)
        · have s8 := s7.trans (same_new hm (o := .lst ([V.ref n1] ++ cs.map V.ref)))
          have all : All2 (fun b row => upd H' m (.lst ([V.ref n1] ++ cs.map V.ref)) b = some (.tup (row.map V.str))) (n1 :: cs) (rows ⟨name, ts, body, sm⟩) :=
            .cons (s8 _ _ (same_new hl _ _ e5)) (hc.imp fun a t h => same_new hm _ _ h)
          refine ⟨m, n1 :: cs, _, rfl, upd_same, all, ?_, ?_, fun d H9 s9 hcnt => ?_⟩
          · rw [← all.1, List.length_cons, hc.1, List.length_map]
            have := hwb.1
            omega
          · intro row hrow
            rcases List.mem_cons.mp hrow with rfl | hrow
            · exact wfT_nms hw
            · obtain ⟨q, hq, rfl⟩ := List.mem_map.mp hrow
              exact wfT_nms (hwb.2 q hq).1
          · have s10 : Same H4 H9 := s6.trans (s8.trans s9)
            have h9p := s10 _ _ h4p
            refine ⟨_, rfl, p, _, dx, _, rfl, h9p, T.cl_Rule, T.n_Rule_stands, (by show 4 < 1000; decide), ?_⟩
            obtain ⟨kvs, ekv, hkv⟩ := hcnt
            have x10 : SameX p H (upd H9 p (.ins A.C_Rule dx (rf name pt pb sv' d))) := fun b o e nb => by rw [upd_ne nb]; exact s10 _ _ (x4 _ _ e nb)
            refine k _ ⟨dx, pt, pb, d, sv', bs, upd_same, ⟨as, ?_, ft.imp fun a t h => TmAt.upx h x10 (TmAt.ne_bare h hp)⟩, ?_, fb.imp fun a t h => LitAt.upx h x10 hp, ?_, kvs, ?_, hkv⟩ x10
            · rw [upd_ne npt.symm]
              exact s10 _ _ h4t
            · rw [upd_ne npb.symm]
              exact s10 _ _ h4b
            · exact hsv'
            · rw [upd_ne (ne_of ekv h9p (fun q => nomatch q))]
              exact ekv
end
end Toy

set_option Elab.async false
set_option maxRecDepth 100000
set_option maxHeartbeats 4000000
namespace Toy
open PySem L2
open U (Tm Pt RR tn nms vars addN dd rows cnt)
theorem cut_take (xs : List V) (n : Nat) : cutV xs none (some (n : Int)) = xs.take n := by
  unfold cutV
  rw [HT.sIx_none, HT.sIx_nat, List.drop_zero, Nat.sub_zero]
  by_cases h : n ≤ xs.length
  · rw [Nat.min_eq_left h]
  · rw [Nat.min_eq_right (by omega), List.take_of_length_le (Nat.le_refl _), List.take_of_length_le (by omega)]
theorem cut_drop (xs : List V) (n : Nat) : cutV xs (some (n : Int)) none = xs.drop n := by
  unfold cutV
  rw [HT.sIx_none, HT.sIx_nat]
  by_cases h : n ≤ xs.length
  · rw [Nat.min_eq_left h, List.take_of_length_le (by rw [List.length_drop]; exact Nat.le_refl _)]
  · rw [Nat.min_eq_right (by omega), List.drop_of_length_le (Nat.le_refl _), List.drop_of_length_le (by omega)]
    exact List.take_nil
theorem All2.drop {α : Type} {R : Addr → α → Prop} {as : List Addr} {ts : List α} (h : All2 R as ts) (n : Nat) : All2 R (as.drop n) (ts.drop n) := by
  refine ⟨by rw [List.length_drop, List.length_drop, h.1], fun i b u e1 e2 => ?_⟩
  rw [List.getElem?_drop] at e1 e2
  exact h.2 _ b u e1 e2
theorem WfT.take {ts : List Tm} (h : WfT ts) (n : Nat) : WfT (ts.take n) := ⟨by have := h.1; rw [List.length_take]; omega, fun t ht => h.2 t (List.mem_of_mem_take ht)⟩
theorem WfT.drop {ts : List Tm} (h : WfT ts) (n : Nat) : WfT (ts.drop n) := ⟨by have := h.1; rw [List.length_drop]; omega, fun t ht => h.2 t (List.mem_of_mem_drop ht)⟩
def BoundAt (H : Hp) (b : Addr) (xs : List Str) : Prop := (∃ kvs : List (Key × V), H b = some (.dK kvs) ∧ ∀ x, (valV kvs (Sum.inr x)).isSome = decide (x ∈ xs)) ∨ H b = some (.lst (xs.map V.str)) ∨ H b = some (.tup (xs.map V.str))
theorem BoundAt.up {H H' : Hp} {b : Addr} {xs : List Str} (h : BoundAt H b xs) (s : Same H H') : BoundAt H' b xs := by
  rcases h with ⟨kvs, e, f⟩ | e | e
  · exact .inl ⟨kvs, s _ _ e, f⟩
  · exact .inr (.inl (s _ _ e))
  · exact .inr (.inr (s _ _ e))
theorem bound_bl {H : Hp} {d : Addr} {l : List Str} (h : H d = some (.dK (blD l))) : BoundAt H d l := .inl ⟨_, h, fun x => by
  rw [valV_bl]
  by_cases hx : x ∈ l
  · rw [if_pos hx, decide_eq_true hx]
    rfl
  · rw [if_neg hx, decide_eq_false hx]
    rfl⟩
def spShared (A : Ad) : Sp := fun vs H Q _ => ∃ (a : Addr) (j : Nat) (x : Str) (r : RR) (q : Pt), vs = [.ref a, .int j, .str x] ∧ RuleAt A H a r ∧ r.body[j]? = some q ∧ Q (.bl (U.shd r q x)) H
def spNeeds (A : Ad) : Sp := fun vs H Q _ => ∃ (a : Addr) (j : Nat) (r : RR) (q : Pt), vs = [.ref a, .int j] ∧ RuleAt A H a r ∧ Wf r ∧ r.body[j]? = some q ∧ ∀ t H', Same H H' → H' t = some (.tup ((U.nd r q).map V.str)) → Q (.ref t) H'
def spGives (A : Ad) : Sp := fun vs H Q _ => ∃ (a : Addr) (j : Nat) (r : RR) (q : Pt), vs = [.ref a, .int j] ∧ RuleAt A H a r ∧ Wf r ∧ r.body[j]? = some q ∧ ∀ t H', Same H H' → H' t = some (.tup ((U.gv q).map V.str)) → Q (.ref t) H'
def spReady (A : Ad) : Sp := fun vs H Q _ => ∃ (a b : Addr) (j : Nat) (r : RR) (q : Pt) (xs : List Str), vs = [.ref a, .int j, .ref b] ∧ RuleAt A H a r ∧ Wf r ∧ r.body[j]? = some q ∧ BoundAt H b xs ∧ ∀ H', Same H H' → Q (.bl (U.rdy r xs q)) H'
theorem nd_len {r : RR} {q : Pt} (h : WfT q.ts) : (U.nd r q).length ≤ 20 := by
  have h1 := (wfT_nms h).2
  unfold U.nd
  split
  · exact h1
  · split
    · exact (wfT_nms (h.drop 1)).2
    · split
      · exact Nat.le_trans (List.length_filter_le _ _) h1
      · exact Nat.zero_le _
theorem gv_len {q : Pt} (h : WfT q.ts) : (U.gv q).length ≤ 20 := by
  unfold U.gv
  split
  · exact (wfT_nms h).2
  · split
    · exact (wfT_nms (h.take 1)).2
    · exact Nat.zero_le _
section
variable {P : Program} {w : World} {K : PySem.W.Frag} {mg : Str → Option Value} {base : Heap} {A : Ad}
theorem ok_shared (T : Txt K mg A) : FnOk P w K mg base CX0 2 A.f_shared A.d_shared ["rule", "number", "name"] (spShared A) := by
  have G_Literal_names : FnOk P w K mg base CX0 1 A.f_Literal_names A.d_Literal_names ["self"] (spLitNames A) := ok_lit_names T
  refine T.F_shared.ok sc_shared (fun vs H Q E h => ?_) (fun cdv ar outer s H vs Q E hr h => ?_)
  · obtain ⟨a, j, x, r, q, rfl, _⟩ := h
    rfl
  · obtain ⟨a, j, x, r, q, rfl, ⟨dx, pt, pb, ps, sv, bs, e, f, g, hb, hs, kvs, ekv, hkv⟩, hq, k⟩ := h
    have hu := hu_of hr
    refine ⟨_, (pss_cons (ps_set (i := 3) sc_shared.nd rfl (Or.inl rfl) (pe_ifExp (pt_cmpR (inSeq K) (pv 2) (pe_meth0 (pe_ix (ixT K) (fldK K (pv 0) rfl) (pv 1) (fun _ _ => rfl)) T.cl_Literal T.e_Literal_names G_Literal_names (hr.mono (by decide)) T.b_Literal_names .nil pass0) (by rfl)) pe_int pe_int))
      (pss_one (ps_ret (pe_cmpR op_gt (pe_dget2 hu (fldK K (pv 0) rfl) (pv 2) pe_int ⟨rfl, rfl, rfl, rfl⟩) (pv 3) (nomark _))))), ?_⟩
    have hj : j < bs.length := by rw [hb.1]; exact (List.getElem?_eq_some_iff.mp hq).1
    have hbj : bs[j]? = some bs[j] := List.getElem?_eq_getElem hj
    have hl := hb.2 j _ q hbj hq
    obtain ⟨dxb, ptb, pob, gb, _, _⟩ := id hl
    refine ⟨_, rfl, _, rfl, a, _, dx, _, _, rfl, e, T.cl_Rule, T.n_Rule_body, rf_body _ _ _ _ _, _, rfl, pb, _, _, _, rfl, rfl, SqT.of g, atI_nat (by rw [List.getElem?_map, hbj]; rfl), bs[j], dxb, _, rfl, gb, lf_names _ _ _ _, bs[j], q, rfl, hl, fun t ht => ?_⟩
    refine ⟨t, _, rfl, .inr (SqT.of ht), rfl, flat_str _, _, rfl, ?_⟩
    rw [if_neg (by decide), inV_str]
    have ec : (valV kvs (Sum.inr x)).getD (V.int 0) = V.int ((cnt (rows r) x : Nat) : Int) := by
      rw [hkv x]
      by_cases h0 : cnt (rows r) x = 0
      · rw [if_pos h0, h0]
        rfl
      · rw [if_neg h0]
        rfl
    refine iteD (fun hx => ?_) (fun hx => ?_)
    · refine ⟨_, rfl, a, _, dx, _, _, rfl, e, T.cl_Rule, T.n_Rule_stands, rf_stands _ _ _ _ _, ps, rfl, .inl ⟨_, .inl ekv⟩, _, rfl, _, DGet.k (k := Sum.inr x) ekv, _, rfl, _, _, ec, rfl, ?_⟩
      have e1 : decide ((1 : Int) < ((cnt (rows r) x : Nat) : Int)) = U.shd r q x := by
        unfold U.shd
        rw [if_pos hx]
        exact decide_eq_decide.mpr (by omega)
      rw [← e1] at k
      exact k
    · refine ⟨_, rfl, a, _, dx, _, _, rfl, e, T.cl_Rule, T.n_Rule_stands, rf_stands _ _ _ _ _, ps, rfl, .inl ⟨_, .inl ekv⟩, _, rfl, _, DGet.k (k := Sum.inr x) ekv, _, rfl, _, _, ec, rfl, ?_⟩
      have e1 : decide ((0 : Int) < ((cnt (rows r) x : Nat) : Int)) = U.shd r q x := by
        unfold U.shd
        rw [if_neg hx]
        exact decide_eq_decide.mpr (by omega)
      rw [← e1] at k
      exact k
theorem ok_needs (T : Txt K mg A) : FnOk P w K mg base CX0 3 A.f_needs A.d_needs ["rule", "number"] (spNeeds A) := by
  have G_Literal_names : FnOk P w K mg base CX0 1 A.f_Literal_names A.d_Literal_names ["self"] (spLitNames A) := ok_lit_names T
  have G_names_in : FnOk P w K mg base CX0 2 A.f_names_in A.d_names_in ["terms"] (spNamesIn A.C_Term) := ok_names_in T
  have G_shared : FnOk P w K mg base CX0 2 A.f_shared A.d_shared ["rule", "number", "name"] (spShared A) := ok_shared T
  refine T.F_needs.ok sc_needs (fun vs H Q E h => ?_) (fun cdv ar outer s H vs Q E hr h => ?_)
  · obtain ⟨a, j, r, q, rfl, _⟩ := h
    rfl
  · obtain ⟨a, j, r, q, rfl, hR, hw, hq, k⟩ := h
    obtain ⟨dx, pt, pb, ps, sv, bs, e, f, g, hb, hs, hc⟩ := id hR
    refine ⟨_, (pss_cons (ps_set (i := 2) sc_needs.nd rfl (Or.inl rfl) (pe_ix (ixT K) (fldK K (pv 0) rfl) (pv 1) (fun _ _ => rfl)))
      (pss_cons (ps_if (pt_cmpR op_eq (fldK K (pv 2) rfl) pe_str (nomark _))
        (pss_one (ps_ret (pe_meth0 (pv 2) T.cl_Literal T.e_Literal_names G_Literal_names (hr.mono (by decide)) T.b_Literal_names .nil pass0)))
        pss_nil)
      (pss_cons (ps_if (pt_cmpR op_eq (fldK K (pv 2) rfl) pe_str (nomark _))
        (pss_one (ps_ret (pe_call G_names_in (hr.mono (by decide)) (by rfl) T.m_names_in T.F_names_in.kp T.b_names_in .nil pass0 (pa_cons (pe_slice (slAK K) (fldK K (pv 2) rfl) (po_some pe_int) po_none) pa_nil))))
        pss_nil)
      (pss_cons (ps_if (pt_cmpR op_eq (fldK K (pv 2) rfl) pe_str (nomark _))
        (pss_one (ps_ret (pe_callTy (tupOf K) (by rfl) T.z_tuple (by decide +kernel) (pa_cons (pe_lc (own := [("name", 3)]) (by rfl) sc_needs.nd (tupIK K (pe_meth0 (pv 2) T.cl_Literal T.e_Literal_names G_Literal_names (hr.mono (by decide)) T.b_Literal_names .nil pass0)) (blkOk_by (own := [("name", 3)]) (N := N_needs) (sc := defScope s_needs) (by decide +kernel)) (fun _ _ _ _ _ => (pg_name (i := 3) sc_needs.nd rfl (Or.inl rfl))) (fun _ _ _ _ _ => (pts_one (pt_val (pe_call G_shared (hr.mono (by decide)) (by rfl) T.m_shared T.F_shared.kp T.b_shared .nil pass0 (pa_cons (pv 0) (pa_cons (pv 1) (pa_cons (pv 3) pa_nil))))))) (fun _ _ _ _ _ => (pv 3))) pa_nil))))
        pss_nil)
      (pss_one (ps_ret (pe_tup pa_nil))))))), ?_⟩
    have hj : j < bs.length := by rw [hb.1]; exact (List.getElem?_eq_some_iff.mp hq).1
    have hbj : bs[j]? = some bs[j] := List.getElem?_eq_getElem hj
    have hl := hb.2 j _ q hbj hq
    have hwq := (hw.body.2 q (List.mem_of_getElem? hq)).1
    obtain ⟨dxb, ptb, pob, gb, ⟨as, eas, fas⟩, _⟩ := id hl
    refine ⟨_, rfl, a, _, dx, _, _, rfl, e, T.cl_Rule, T.n_Rule_body, rf_body _ _ _ _ _, _, rfl, pb, _, _, _, rfl, rfl, SqT.of g, atI_nat (by rw [List.getElem?_map, hbj]; rfl), ?_⟩
    refine ⟨_, rfl, bs[j], _, dxb, _, _, rfl, gb, T.cl_Literal, T.n_Literal_kind, lf_kind _ _ _ _, rfl, _, rfl, ?_⟩
    rw [dec_str]
    refine iteD (fun h1 => ?_) (fun h1 => ?_)
    · have ek : U.nd r q = nms q.ts := if_pos h1
      rw [ek] at k
      exact ⟨_, rfl, bs[j], dxb, _, rfl, gb, lf_names _ _ _ _, bs[j], q, rfl, hl, fun t ht => k t H (fun _ _ e => e) ht⟩
    · refine ⟨_, rfl, bs[j], _, dxb, _, _, rfl, gb, T.cl_Literal, T.n_Literal_kind, lf_kind _ _ _ _, rfl, _, rfl, ?_⟩
      rw [dec_str]
      refine iteD (fun h2 => ?_) (fun h2 => ?_)
      · have ek : U.nd r q = nms (q.ts.drop 1) := by
          unfold U.nd
          rw [if_neg h1, if_pos h2]
        rw [ek] at k
        refine ⟨_, rfl, bs[j], _, dxb, _, _, rfl, gb, T.cl_Literal, T.n_Literal_terms, lf_terms _ _ _ _, _, rfl, ptb, _, rfl, SqT.of eas, fun hwh => ?_, fun _ p hp => ?_⟩
        · have h0 : as.length = 0 := by
            have := hwh.1
            rw [show ((1 : Int)) = ((1 : Nat) : Int) from rfl, HT.sIx_nat, List.length_map] at this
            omega
          have : q.ts = [] := List.eq_nil_of_length_eq_zero (by rw [← fas.1]; exact h0)
          refine ⟨ptb, q.ts.drop 1, rfl, ⟨as, eas, ?_⟩, hwq.drop 1, fun t H' s et => k t H' s et⟩
          rw [this] at fas ⊢
          exact fas
        · refine ⟨p, q.ts.drop 1, rfl, ⟨as.drop 1, ?_, (fas.drop 1).imp fun a t h => TmAt.up h (same_new hp)⟩, hwq.drop 1, fun t H' s et => k t H' ((same_new hp).trans s) et⟩
          rw [upd_same, show ((1 : Int)) = ((1 : Nat) : Int) from rfl, cut_drop, List.map_drop]
      · refine ⟨_, rfl, bs[j], _, dxb, _, _, rfl, gb, T.cl_Literal, T.n_Literal_kind, lf_kind _ _ _ _, rfl, _, rfl, ?_⟩
        rw [dec_str]
        refine iteD (fun h3 => ?_) (fun h3 => ?_)
        · have ek : U.nd r q = (nms q.ts).filter (U.shd r q) := by
            unfold U.nd
            rw [if_neg h1, if_neg h2, if_pos h3]
          rw [ek] at k
          refine ⟨_, rfl, bs[j], dxb, _, rfl, gb, lf_names _ _ _ _, bs[j], q, rfl, hl, fun t ht => ⟨t, rfl, ⟨_, SqT.of ht⟩, fun D hD => ?_⟩⟩
          refine lc_tup (K := K) (a := t) (xs := (nms q.ts).map V.str) (LcI (fun H y (x : Str) => y = .str x) (U.shd r q) (nms q.ts) H D) (LcI.start hD) (fun i H' _ h => SqT.of (h.1 _ _ ht)) ?_ ?_
          · rintro i x H' hx h
            rw [List.getElem?_map] at hx
            obtain ⟨z, hz, rfl⟩ := Option.map_eq_some_iff.mp hx
            refine ⟨rfl, _, rfl, _, rfl, _, rfl, a, j, z, r, q, rfl, hR.up h.1, hq, _, rfl, ?_⟩
            refine iteB (fun hp => ?_) (fun hp => ?_)
            · exact ⟨_, rfl, h.yes (stab_val _) hD (by have := (wfT_nms hwq).2; omega) hz hp (fun _ _ e => e) rfl⟩
            · exact h.no (stab_val _) hz hp (fun _ _ e => e)
          · intro H' h
            obtain ⟨ys, s1, eD, hv⟩ := h.fin (by rw [List.length_map]; exact Nat.le_refl _)
            have ey := VAll.eq (f := V.str) hv
            subst ey
            exact ⟨D, _, rfl, .inl ⟨SqL.of eD, fun u hu => k u _ (s1.trans (same_new hu)) upd_same⟩⟩
        · have ek : U.nd r q = [] := by
            unfold U.nd
            rw [if_neg h1, if_neg h2, if_neg h3]
          rw [ek] at k
          exact ⟨Nat.zero_le _, fun u hu => k u _ (same_new hu) upd_same⟩
theorem ok_gives (T : Txt K mg A) : FnOk P w K mg base CX0 3 A.f_gives A.d_gives ["rule", "number"] (spGives A) := by
  have G_Literal_names : FnOk P w K mg base CX0 1 A.f_Literal_names A.d_Literal_names ["self"] (spLitNames A) := ok_lit_names T
  have G_names_in : FnOk P w K mg base CX0 2 A.f_names_in A.d_names_in ["terms"] (spNamesIn A.C_Term) := ok_names_in T
  refine T.F_gives.ok sc_gives (fun vs H Q E h => ?_) (fun cdv ar outer s H vs Q E hr h => ?_)
  · obtain ⟨a, j, r, q, rfl, _⟩ := h
    rfl
  · obtain ⟨a, j, r, q, rfl, hR, hw, hq, k⟩ := h
    obtain ⟨dx, pt, pb, ps, sv, bs, e, f, g, hb, hs, hc⟩ := id hR
    refine ⟨_, (pss_cons (ps_set (i := 2) sc_gives.nd rfl (Or.inl rfl) (pe_ix (ixT K) (fldK K (pv 0) rfl) (pv 1) (fun _ _ => rfl)))
      (pss_cons (ps_if (pt_cmpR op_eq (fldK K (pv 2) rfl) pe_str (nomark _))
        (pss_one (ps_ret (pe_meth0 (pv 2) T.cl_Literal T.e_Literal_names G_Literal_names (hr.mono (by decide)) T.b_Literal_names .nil pass0)))
        pss_nil)
      (pss_one (ps_ret (pe_ifExp (pt_cmpR op_eq (fldK K (pv 2) rfl) pe_str (nomark _)) (pe_call G_names_in (hr.mono (by decide)) (by rfl) T.m_names_in T.F_names_in.kp T.b_names_in .nil pass0 (pa_cons (pe_slice (slAK K) (fldK K (pv 2) rfl) po_none (po_some pe_int)) pa_nil)) (pe_tup pa_nil)))))), ?_⟩
    have hj : j < bs.length := by rw [hb.1]; exact (List.getElem?_eq_some_iff.mp hq).1
    have hbj : bs[j]? = some bs[j] := List.getElem?_eq_getElem hj
    have hl := hb.2 j _ q hbj hq
    have hwq := (hw.body.2 q (List.mem_of_getElem? hq)).1
    obtain ⟨dxb, ptb, pob, gb, ⟨as, eas, fas⟩, _⟩ := id hl
    refine ⟨_, rfl, a, _, dx, _, _, rfl, e, T.cl_Rule, T.n_Rule_body, rf_body _ _ _ _ _, _, rfl, pb, _, _, _, rfl, rfl, SqT.of g, atI_nat (by rw [List.getElem?_map, hbj]; rfl), ?_⟩
    refine ⟨_, rfl, bs[j], _, dxb, _, _, rfl, gb, T.cl_Literal, T.n_Literal_kind, lf_kind _ _ _ _, rfl, _, rfl, ?_⟩
    rw [dec_str]
    refine iteD (fun h1 => ?_) (fun h1 => ?_)
    · have ek : U.gv q = nms q.ts := if_pos h1
      rw [ek] at k
      exact ⟨_, rfl, bs[j], dxb, _, rfl, gb, lf_names _ _ _ _, bs[j], q, rfl, hl, fun t ht => k t H (fun _ _ e => e) ht⟩
    · refine ⟨_, rfl, bs[j], _, dxb, _, _, rfl, gb, T.cl_Literal, T.n_Literal_kind, lf_kind _ _ _ _, rfl, _, rfl, ?_⟩
      rw [dec_str]
      refine iteD (fun h2 => ?_) (fun h2 => ?_)
      · have ek : U.gv q = nms (q.ts.take 1) := by
          unfold U.gv
          rw [if_neg h1, if_pos h2]
        rw [ek] at k
        refine ⟨_, rfl, bs[j], _, dxb, _, _, rfl, gb, T.cl_Literal, T.n_Literal_terms, lf_terms _ _ _ _, _, rfl, ptb, _, rfl, SqT.of eas, fun hwh => ?_, fun _ p hp => ?_⟩
        · have h0 : as.length ≤ 1 := by
            have := hwh.2
            rw [show ((1 : Int)) = ((1 : Nat) : Int) from rfl, HT.sIx_nat, List.length_map] at this
            omega
          have : q.ts.take 1 = q.ts := List.take_of_length_le (by rw [← fas.1]; exact h0)
          refine ⟨ptb, q.ts.take 1, rfl, ⟨as, eas, ?_⟩, hwq.take 1, fun t H' s et => k t H' s et⟩
          rw [this]
          exact fas
        · refine ⟨p, q.ts.take 1, rfl, ⟨as.take 1, ?_, (fas.take 1).imp fun a t h => TmAt.up h (same_new hp)⟩, hwq.take 1, fun t H' s et => k t H' ((same_new hp).trans s) et⟩
          rw [upd_same, show ((1 : Int)) = ((1 : Nat) : Int) from rfl, cut_take, List.map_take]
      · have ek : U.gv q = [] := by
          unfold U.gv
          rw [if_neg h1, if_neg h2]
        rw [ek] at k
        exact ⟨Nat.zero_le _, fun u hu => k u _ (same_new hu) upd_same⟩
theorem ok_ready (T : Txt K mg A) : FnOk P w K mg base CX0 4 A.f_ready A.d_ready ["rule", "number", "bound"] (spReady A) := by
  have G_needs : FnOk P w K mg base CX0 3 A.f_needs A.d_needs ["rule", "number"] (spNeeds A) := ok_needs T
  refine T.F_ready.ok sc_ready (fun vs H Q E h => ?_) (fun cdv ar outer s H vs Q E hr h => ?_)
  · obtain ⟨a, b, j, r, q, xs, rfl, _⟩ := h
    rfl
  · obtain ⟨a, b, j, r, q, xs, rfl, hR, hw, hq, hB, k⟩ := h
    have hu := hu_of hr
    refine ⟨_, (pss_one (ps_ret (pe_callB (allK K) (by rfl) T.z_all (by decide +kernel) (pa_cons (pe_lc (own := [("name", 3)]) (by rfl) sc_ready.nd (tupIK K (pe_call G_needs (hr.mono (by decide)) (by rfl) T.m_needs T.F_needs.kp T.b_needs .nil pass0 (pa_cons (pv 0) (pa_cons (pv 1) pa_nil)))) (blkOk_by (own := [("name", 3)]) (N := N_ready) (sc := defScope s_ready) (by decide +kernel)) (fun _ _ _ _ _ => (pg_name (i := 3) sc_ready.nd rfl (Or.inl rfl))) (fun _ _ _ _ _ => pts_nil) (fun _ _ _ _ _ => (pe_cmpR (inAny K hu) (pv 3) (pv 2) (by rfl)))) pa_nil)))), ?_⟩
    refine ⟨_, rfl, _, rfl, a, j, r, q, rfl, hR, hw, hq, fun t H1 s1 et => ⟨t, rfl, ⟨_, SqT.of et⟩, fun D hD => ?_⟩⟩
    refine lc_tup (K := K) (a := t) (xs := (U.nd r q).map V.str) (LcI (fun H y (x : Str) => y = .bl (decide (x ∈ xs))) (fun _ => true) (U.nd r q) H1 D) (LcI.start hD) (fun i H' _ h => SqT.of (h.1 _ _ et)) ?_ ?_
    · rintro i x H' hx h
      rw [List.getElem?_map] at hx
      obtain ⟨z, hz, rfl⟩ := Option.map_eq_some_iff.mp hx
      refine ⟨rfl, _, rfl, _, rfl, b, decide (z ∈ xs), rfl, ?_, ?_⟩
      · rcases (hB.up s1).up h.1 with ⟨kvs, e, f⟩ | e | e
        · exact .inl ⟨_, DGet.k (k := Sum.inr z) e, (f z).symm⟩
        · exact .inr ⟨_, .inl (SqL.of e), rfl, flat_str _, (inV_str _ _).symm⟩
        · exact .inr ⟨_, .inr (SqT.of e), rfl, flat_str _, (inV_str _ _).symm⟩
      · exact h.yes (stab_val _) hD (by have := nd_len (r := r) (hw.body.2 q (List.mem_of_getElem? hq)).1; omega) hz rfl (fun _ _ e => e) rfl
    · intro H' h
      obtain ⟨ys, s2, eD, hv⟩ := h.fin (by rw [List.length_map]; exact Nat.le_refl _)
      rw [filter_tt] at hv
      have ey := VAll.eq (f := fun x : Str => V.bl (decide (x ∈ xs))) hv
      subst ey
      refine ⟨D, (U.nd r q).map fun x => decide (x ∈ xs), rfl, SqL.of (by rw [eD, List.map_map]; rfl), ?_⟩
      have e0 : (((U.nd r q).map fun x => decide (x ∈ xs)).all id) = U.rdy r xs q := by
        rw [List.all_map]
        rfl
      rw [e0]
      exact k H' (s1.trans s2)
end
end Toy

set_option Elab.async false
set_option maxRecDepth 100000
set_option maxHeartbeats 4000000
/-! ### plans, said plainly -/
namespace U
open PySem L2
def ptd (r : RR) (j : Nat) : Pt := r.body.getD j ⟨"", "", []⟩
def kn (b : List Str) : Tm → Bool
  | .inl s => decide (s ∈ b)
  | .inr _ => true
def kat (b : List Str) (ts : List Tm) : List Nat := (List.range ts.length).filter fun i => kn b (ts.getD i (.inr 0))
def wtP (r : RR) (b : List Str) (sz : Str → Int) (j : Nat) : N4 :=
  if (ptd r j).kind = "pos" then if (kat b (ptd r j).ts).length = (ptd r j).ts.length then ⟨1, 0, 0, j⟩ else ⟨2, -((kat b (ptd r j).ts).length : Int), sz (ptd r j).name, j⟩ else ⟨0, 0, 0, j⟩
def wtL (r : RR) (b : List Str) (sz : Str → Int) (j : Nat) : N4 :=
  if (ptd r j).kind = "pos" then if (kat b (ptd r j).ts).length = (ptd r j).ts.length then ⟨0, 0, 1, j⟩ else ⟨1, 0 - ((kat b (ptd r j).ts).length : Int), sz (ptd r j).name, j⟩ else ⟨0, 0, 0, j⟩
theorem wt_same (r : RR) (b : List Str) (sz : Str → Int) (i j : Nat) : lt4 (wtP r b sz i) (wtP r b sz j) = lt4 (wtL r b sz i) (wtL r b sz j) := by
  unfold wtP wtL
  rw [Bool.eq_iff_iff]
  split <;> split <;> (try split) <;> (try split) <;> simp [lt4] <;> omega
theorem wtP_d (r : RR) (b : List Str) (sz : Str → Int) (j : Nat) : (wtP r b sz j).d = j := by
  unfold wtP
  split <;> (try split) <;> rfl
theorem wtL_d (r : RR) (b : List Str) (sz : Str → Int) (j : Nat) : (wtL r b sz j).d = j := by
  unfold wtL
  split <;> (try split) <;> rfl
/-- the least by a weight -/
def bst (f : Nat → N4) (j : Nat) (js : List Nat) : Nat := js.foldl (fun a k => if lt4 (f k) (f a) = true then k else a) j
theorem min_bst (f : Nat → N4) : ∀ (js : List Nat) (j : Nat), min4 (f j) (js.map f) = f (bst f j js)
  | [], j => rfl
  | k :: js, j => by
    show min4 (if lt4 (f k) (f j) = true then f k else f j) (js.map f) = f (bst f (if lt4 (f k) (f j) = true then k else j) js)
    by_cases h : lt4 (f k) (f j) = true
    · rw [if_pos h, if_pos h]
      exact min_bst f js k
    · rw [if_neg h, if_neg h]
      exact min_bst f js j
theorem bst_same {f g : Nat → N4} (h : ∀ i j, lt4 (f i) (f j) = lt4 (g i) (g j)) : ∀ (js : List Nat) (j : Nat), bst f j js = bst g j js
  | [], j => rfl
  | k :: js, j => by
    show bst f (if lt4 (f k) (f j) = true then k else j) js = bst g (if lt4 (g k) (g j) = true then k else j) js
    rw [h]
    exact bst_same h js _
theorem bst_mem (f : Nat → N4) : ∀ (js : List Nat) (j : Nat), bst f j js ∈ j :: js
  | [], j => List.mem_cons_self
  | k :: js, j => by
    show bst f (if lt4 (f k) (f j) = true then k else j) js ∈ _
    have ih := bst_mem f js (if lt4 (f k) (f j) = true then k else j)
    rcases List.mem_cons.mp ih with e | e
    · rw [e]
      split
      · exact List.mem_cons_of_mem _ List.mem_cons_self
      · exact List.mem_cons_self
    · exact List.mem_cons_of_mem _ (List.mem_cons_of_mem _ e)
/-- what is bound behind parts taken -/
def bnd (r : RR) (given : List Str) (o : List Nat) : List Str := given ++ (o.map fun j => gv (ptd r j)).flatten
def nexts (r : RR) (o : List Nat) (b : List Str) : List Nat := (List.range r.body.length).filter fun j => decide (j ∉ o) && rdy r b (ptd r j)
def lightN (r : RR) (given : List Str) (sz : Str → Int) (o : List Nat) : Option Nat := match nexts r o (bnd r given o) with
  | [] => none
  | j :: js => some (bst (wtP r (bnd r given o) sz) j js)
def plN (r : RR) (given : List Str) (sz : Str → Int) : Nat → List Nat → Option (List Nat)
  | 0, o => some o
  | n + 1, o => match lightN r given sz o with
    | none => none
    | some j => plN r given sz n (o ++ [j])
theorem rdy_congr {r : RR} {b b' : List Str} {q : Pt} (h : ∀ x, x ∈ b ↔ x ∈ b') : rdy r b q = rdy r b' q := by
  unfold rdy
  congr 1
  funext x
  rw [decide_eq_decide]
  exact h x
theorem kn_congr {b b' : List Str} (h : ∀ x, x ∈ b ↔ x ∈ b') (t : Tm) : kn b t = kn b' t := by
  cases t with
  | inl s => exact decide_eq_decide.mpr (h s)
  | inr i => rfl
theorem kat_congr {b b' : List Str} (h : ∀ x, x ∈ b ↔ x ∈ b') (ts : List Tm) : kat b ts = kat b' ts := by
  unfold kat
  congr 1
  funext i
  exact kn_congr h _
theorem wtP_congr {r : RR} {b b' : List Str} (h : ∀ x, x ∈ b ↔ x ∈ b') (sz : Str → Int) (j : Nat) : wtP r b sz j = wtP r b' sz j := by
  unfold wtP
  rw [kat_congr h]
theorem nexts_congr {r : RR} {b b' : List Str} (h : ∀ x, x ∈ b ↔ x ∈ b') (o : List Nat) : nexts r o b = nexts r o b' := by
  unfold nexts
  congr 1
  funext j
  rw [rdy_congr h]
theorem bnd_snoc (r : RR) (given : List Str) (o : List Nat) (j : Nat) : bnd r given (o ++ [j]) = bnd r given o ++ gv (ptd r j) := by
  unfold bnd
  rw [List.map_append, List.flatten_append, List.append_assoc]
  simp
theorem light_mem {r : RR} {given : List Str} {sz : Str → Int} {o : List Nat} {j : Nat} (h : lightN r given sz o = some j) : j < r.body.length ∧ j ∉ o ∧ rdy r (bnd r given o) (ptd r j) = true := by
  unfold lightN at h
  split at h
  · cases h
  · next k ks e =>
    cases h
    have hm := bst_mem (wtP r (bnd r given o) sz) ks k
    rw [← e] at hm
    unfold nexts at hm
    obtain ⟨h1, h2⟩ := List.mem_filter.mp hm
    simp only [Bool.and_eq_true, decide_eq_true_eq] at h2
    exact ⟨List.mem_range.mp h1, h2.1, h2.2⟩
/-- an order in which each part is ready when it is taken -/
def Good (r : RR) (given : List Str) (o : List Nat) : Prop := o.Nodup ∧ (∀ j ∈ o, j < r.body.length) ∧ ∀ (i : Nat) (j : Nat), o[i]? = some j → rdy r (bnd r given (o.take i)) (ptd r j) = true
theorem Good.nil (r : RR) (given : List Str) : Good r given [] := ⟨List.nodup_nil, (fun j h => absurd h (List.not_mem_nil)), (fun i j h => by simp at h)⟩
theorem Good.snoc {r : RR} {given : List Str} {o : List Nat} {j : Nat} (h : Good r given o) (h1 : j < r.body.length) (h2 : j ∉ o) (h3 : rdy r (bnd r given o) (ptd r j) = true) : Good r given (o ++ [j]) := by
  refine ⟨?_, fun k hk => ?_, fun i k hk => ?_⟩
  · rw [List.nodup_append]
    refine ⟨h.1, by simp, fun a ha b hb e => ?_⟩
    rw [List.mem_singleton.mp hb] at e
    rw [e] at ha
    exact h2 ha
  · rcases List.mem_append.mp hk with hk | hk
    · exact h.2.1 k hk
    · rw [List.mem_singleton.mp hk]
      exact h1
  · by_cases hi : i < o.length
    · rw [List.getElem?_append_left hi] at hk
      rw [List.take_append_of_le_length (Nat.le_of_lt hi)]
      exact h.2.2 i k hk
    · have e : i = o.length := by
        have := (List.getElem?_eq_some_iff.mp hk).1
        rw [List.length_append] at this
        simp at this
        omega
      subst e
      rw [List.getElem?_append_right (Nat.le_refl _), Nat.sub_self] at hk
      cases hk
      rw [List.take_append_of_le_length (Nat.le_refl _), List.take_length]
      exact h3
theorem plN_good {r : RR} {given : List Str} {sz : Str → Int} : ∀ (n : Nat) {o o' : List Nat}, Good r given o → plN r given sz n o = some o' → Good r given o' ∧ o'.length = o.length + n ∧ ∃ t, o' = o ++ t
  | 0, o, o', h, e => by
    cases e
    exact ⟨h, rfl, [], by simp⟩
  | n + 1, o, o', h, e => by
    unfold plN at e
    cases hl : lightN r given sz o with
    | none => rw [hl] at e; cases e
    | some j =>
      rw [hl] at e
      obtain ⟨h1, h2, h3⟩ := light_mem hl
      obtain ⟨g, l, t, et⟩ := plN_good n (h.snoc h1 h2 h3) e
      refine ⟨g, ?_, [j] ++ t, ?_⟩
      · rw [l, List.length_append]
        simp
        omega
      · rw [et, List.append_assoc]
theorem rdy_mono {r : RR} {b b' : List Str} {q : Pt} (h : ∀ x ∈ b, x ∈ b') (hr : rdy r b q = true) : rdy r b' q = true := by
  unfold rdy at hr ⊢
  rw [List.all_eq_true] at hr ⊢
  intro x hx
  exact decide_eq_true (h x (of_decide_eq_true (hr x hx)))
theorem bnd_sub {r : RR} {given : List Str} {o o' : List Nat} (h : ∀ j ∈ o, j ∈ o') : ∀ x ∈ bnd r given o, x ∈ bnd r given o' := fun x hx => by
  unfold bnd at hx ⊢
  rcases List.mem_append.mp hx with hx | hx
  · exact List.mem_append_left _ hx
  · obtain ⟨l, hl, hxl⟩ := List.mem_flatten.mp hx
    obtain ⟨j, hj, rfl⟩ := List.mem_map.mp hl
    exact List.mem_append_right _ (List.mem_flatten.mpr ⟨_, List.mem_map.mpr ⟨j, h j hj, rfl⟩, hxl⟩)
/-- while a whole plan is known and parts are left, one may come next -/
theorem light_some {r : RR} {given : List Str} {sz : Str → Int} {d : List Nat} (hd : Good r given d) (hall : ∀ j, j < r.body.length → j ∈ d) {o : List Nat} (hl : ∃ j, j < r.body.length ∧ j ∉ o) : ∃ j, lightN r given sz o = some j := by
  -- the first part of the known plan that isn't taken
  have first : ∀ (l : List Nat) (i : Nat), d.drop i = l → (∀ k < i, ∀ j, d[k]? = some j → j ∈ o) → (∃ j ∈ l, j ∉ o) → ∃ (i' : Nat) (j : Nat), d[i']? = some j ∧ j ∉ o ∧ ∀ k < i', ∀ j, d[k]? = some j → j ∈ o := by
    intro l
    induction l with
    | nil => exact fun i _ _ h => nomatch h.choose_spec.1
    | cons a l ih =>
      intro i e hk hj
      have ea : d[i]? = some a := by
        have := congrArg (fun l => l[0]?) e
        simpa using this
      by_cases ha : a ∈ o
      · refine ih (i + 1) ?_ ?_ ?_
        · have := congrArg List.tail e
          simpa [List.tail_drop] using this
        · intro k hk' j hj'
          by_cases hki : k = i
          · subst hki
            rw [ea] at hj'
            cases hj'
            exact ha
          · exact hk k (by omega) j hj'
        · obtain ⟨j, h1, h2⟩ := hj
          rcases List.mem_cons.mp h1 with rfl | h1
          · exact absurd ha h2
          · exact ⟨j, h1, h2⟩
      · exact ⟨i, a, ea, ha, hk⟩
  obtain ⟨j0, h0, h0'⟩ := hl
  obtain ⟨i, j, hij, hjo, hbef⟩ := first d 0 (by simp) (fun k hk => absurd hk (Nat.not_lt_zero _)) ⟨j0, hall j0 h0, h0'⟩
  have hmem := List.mem_of_getElem? hij
  have hlt := hd.2.1 j hmem
  have hr : rdy r (bnd r given o) (ptd r j) = true := rdy_mono (bnd_sub fun k hk => by
    obtain ⟨n, hn, e⟩ := List.mem_iff_getElem.mp hk
    rw [List.length_take] at hn
    rw [List.getElem_take] at e
    exact hbef n (by omega) k (by rw [← e]; exact List.getElem?_eq_getElem _)) (hd.2.2 i j hij)
  have hin : j ∈ nexts r o (bnd r given o) := by
    unfold nexts
    refine List.mem_filter.mpr ⟨List.mem_range.mpr hlt, ?_⟩
    simp [hjo, hr]
  unfold lightN
  split
  · next e => rw [e] at hin; cases hin
  · exact ⟨_, rfl⟩
end U

set_option Elab.async false
set_option maxRecDepth 100000
set_option maxHeartbeats 4000000
namespace Toy
open PySem L2
open U (Tm Pt RR tn nms vars addN dd rows cnt kn kat wtP ptd nexts)
abbrev nv (n : Nat) : V := .int n
theorem no_known (n : Str) (v : V) : (tf n v).lookup ("known" : Str) = none := tf_no n v (by decide +kernel) (by decide +kernel)
theorem BoundAt.inA {K : PySem.W.Frag} {H : Hp} {b : Addr} {xs : List Str} (h : BoundAt H b xs) (x : Str) {Q : VK} (q : Q (.bl (decide (x ∈ xs))) H) : rInAny K (.str x) (.ref b) H Q := by
  refine ⟨b, decide (x ∈ xs), rfl, ?_, q⟩
  rcases h with ⟨kvs, e, f⟩ | e | e
  · exact .inl ⟨_, DGet.k (k := Sum.inr x) e, (f x).symm⟩
  · exact .inr ⟨_, .inl (SqL.of e), rfl, flat_str _, (inV_str _ _).symm⟩
  · exact .inr ⟨_, .inr (SqT.of e), rfl, flat_str _, (inV_str _ _).symm⟩
def SzAt (H : Hp) (z : Addr) (sz : Str → Int) : Prop := ∃ kvs : List (Key × V), H z = some (.dK kvs) ∧ ∀ x, (valV kvs (Sum.inr x)).getD (.int 0) = .int (sz x)
theorem SzAt.up {H H' : Hp} {z : Addr} {sz : Str → Int} (h : SzAt H z sz) (s : Same H H') : SzAt H' z sz := by
  obtain ⟨kvs, e, f⟩ := h
  exact ⟨kvs, s _ _ e, f⟩
def OrdAt (H : Hp) (o : Addr) (ord : List Nat) : Prop := H o = some (.lst (ord.map nv)) ∨ H o = some (.tup (ord.map nv))
theorem OrdAt.up {H H' : Hp} {o : Addr} {ord : List Nat} (h : OrdAt H o ord) (s : Same H H') : OrdAt H' o ord := by
  rcases h with e | e
  · exact .inl (s _ _ e)
  · exact .inr (s _ _ e)
theorem flat_nv (l : List Nat) : (l.map nv).all flatV = true := by
  rw [List.all_map, List.all_eq_true]
  exact fun _ _ => rfl
theorem inV_nv (x : Nat) (l : List Nat) : inV (nv x) (l.map nv) = decide (x ∈ l) := by
  unfold inV
  rw [List.any_map]
  by_cases h : x ∈ l
  · rw [decide_eq_true h, List.any_eq_true]
    exact ⟨x, h, by simp [eqV, nv]⟩
  · rw [decide_eq_false h, List.any_eq_false]
    intro y hy
    simp only [Function.comp, eqV, beq_iff_eq, nv]
    intro e
    have e' : (y : Int) = x := by simpa using e
    have e2 : x = y := by omega
    exact h (e2 ▸ hy)
def spKnown (C : Addr) : Sp := fun vs H Q _ => ∃ (a b : Addr) (t : Tm) (xs : List Str), vs = [.ref a, .ref b] ∧ TO C H a t ∧ okT t = true ∧ BoundAt H b xs ∧ Q (.bl (kn xs t)) H
def spKnownAt (A : Ad) : Sp := fun vs H Q _ => ∃ (a b : Addr) (j : Nat) (r : RR) (q : Pt) (xs : List Str), vs = [.ref a, .int j, .ref b] ∧ RuleAt A H a r ∧ Wf r ∧ r.body[j]? = some q ∧ BoundAt H b xs ∧ ∀ t H', Same H H' → H' t = some (.tup ((kat xs q.ts).map nv)) → Q (.ref t) H'
def spWeight (A : Ad) : Sp := fun vs H Q _ => ∃ (a b z : Addr) (j : Nat) (r : RR) (q : Pt) (xs : List Str) (sz : Str → Int), vs = [.ref a, .int j, .ref b, .ref z] ∧ RuleAt A H a r ∧ Wf r ∧ r.body[j]? = some q ∧ BoundAt H b xs ∧ SzAt H z sz ∧ ∀ t H', Same H H' → H' t = some (.tup (wtP r xs sz j).vs) → Q (.ref t) H'
def spBoundBy : Sp := fun vs H Q _ => ∃ (g l : Addr) (given : List Str) (bs : List Addr) (rs : List (List Str)), vs = [.ref g, .ref l] ∧ H g = some (.tup (given.map V.str)) ∧ H l = some (.lst (bs.map V.ref)) ∧ All2 (fun b row => H b = some (.tup (row.map V.str))) bs rs ∧ rs.length ≤ 20 ∧ given.length ≤ 20 ∧ (∀ row ∈ rs, row.length ≤ 20) ∧
  ∀ d H', Same H H' → H' d = some (.dK (blD ((given ++ rs.flatten).foldl addN []))) → Q (.ref d) H'
def spNext (A : Ad) : Sp := fun vs H Q _ => ∃ (a o b : Addr) (r : RR) (ord : List Nat) (xs : List Str), vs = [.ref a, .ref o, .ref b] ∧ RuleAt A H a r ∧ Wf r ∧ OrdAt H o ord ∧ BoundAt H b xs ∧ ∀ l H', Same H H' → H l = none → H' l = some (.lst ((nexts r ord xs).map nv)) → Q (.ref l) H'
section
variable {P : Program} {w : World} {K : PySem.W.Frag} {mg : Str → Option Value} {base : Heap} {A : Ad}
theorem ok_known (T : Txt K mg A) : FnOk P w K mg base CX0 2 A.f_Term_known A.d_Term_known ["self", "bound"] (spKnown A.C_Term) := by
  have G_Term_is_variable : FnOk P w K mg base CX0 1 A.f_Term_is_variable A.d_Term_is_variable ["self"] (spIsVar A.C_Term) := ok_is_variable T
  refine T.F_Term_known.ok sc_Term_known (fun vs H Q E h => ?_) (fun cdv ar outer s H vs Q E hr h => ?_)
  · obtain ⟨a, b, t, xs, rfl, _⟩ := h
    rfl
  · obtain ⟨a, b, t, xs, rfl, ha, hok, hb, q⟩ := h
    have hu := hu_of hr
    obtain ⟨dx, g⟩ := id ha
    refine ⟨_, (pss_one (ps_ret (pe_or (pe_not (pe_meth0 (pv 0) T.cl_Term T.e_Term_is_variable G_Term_is_variable (hr.mono (by decide)) T.b_Term_is_variable .nil pass0)) (pe_one (pe_cmpR (inAny K hu) (fldK K (pv 0) rfl) (pv 1) (by rfl)))))), ?_⟩
    refine ⟨_, rfl, a, dx, _, rfl, g, no_isv _ _, a, _, _, rfl, ha, _, rfl, ?_⟩
    rw [isVar_tn hok]
    cases t with
    | inl s => exact ⟨_, rfl, iteF ⟨_, rfl, a, _, dx, _, _, rfl, g, T.cl_Term, T.n_Term_name, tf_name _ _, _, rfl, hb.inA s q⟩⟩
    | inr i => exact ⟨_, rfl, iteT q⟩
theorem ok_known_at (T : Txt K mg A) : FnOk P w K mg base CX0 3 A.f_known_at A.d_known_at ["rule", "number", "bound"] (spKnownAt A) := by
  have G_Term_known : FnOk P w K mg base CX0 2 A.f_Term_known A.d_Term_known ["self", "bound"] (spKnown A.C_Term) := ok_known T
  refine T.F_known_at.ok sc_known_at (fun vs H Q E h => ?_) (fun cdv ar outer s H vs Q E hr h => ?_)
  · obtain ⟨a, b, j, r, q, xs, rfl, _⟩ := h
    rfl
  · obtain ⟨a, b, j, r, q, xs, rfl, hR, hw, hq, hB, k⟩ := h
    obtain ⟨dx, pt, pb, ps, sv, bs, e, f, g, hb, hs, hc⟩ := id hR
    have hj : j < bs.length := by rw [hb.1]; exact (List.getElem?_eq_some_iff.mp hq).1
    have hbj : bs[j]? = some bs[j] := List.getElem?_eq_getElem hj
    have hl := hb.2 j _ q hbj hq
    have hwq := (hw.body.2 q (List.mem_of_getElem? hq)).1
    obtain ⟨dxb, ptb, pob, gb, ⟨as, eas, fas⟩, _⟩ := id hl
    refine ⟨_, (pss_one (ps_ret (pe_callTy (tupOf K) (by rfl) T.z_tuple (by decide +kernel) (pa_cons (pe_lc (own := [("place", 3), ("term", 4)]) (by rfl) sc_known_at.nd (enumTK K (by rfl) T.z_enumerate (pa_cons (fldK K (pe_ix (ixT K) (fldK K (pv 0) rfl) (pv 1) (fun _ _ => rfl)) rfl) pa_nil)) (blkOk_by (own := [("place", 3), ("term", 4)]) (N := N_known_at) (sc := defScope s_known_at) (by decide +kernel)) (fun _ _ _ _ _ => (tupK K (n := 2) rfl (pgs_cons (pg_name (i := 3) sc_known_at.nd rfl (Or.inl rfl)) (pgs_cons (pg_name (i := 4) sc_known_at.nd rfl (Or.inl rfl)) pgs_nil)))) (fun _ _ _ _ _ => (pts_one (pt_val (pe_meth (pv 4) T.cl_Term T.e_Term_known G_Term_known (hr.mono (by decide)) T.b_Term_known .nil pass0 (pa_cons (pv 2) pa_nil))))) (fun _ _ _ _ _ => (pv 3))) pa_nil)))), ?_⟩
    refine ⟨_, rfl, a, _, dx, _, _, rfl, e, T.cl_Rule, T.n_Rule_body, rf_body _ _ _ _ _, _, rfl, pb, _, _, _, rfl, rfl, SqT.of g, atI_nat (by rw [List.getElem?_map, hbj]; rfl), bs[j], _, dxb, _, _, rfl, gb, T.cl_Literal, T.n_Literal_terms, lf_terms _ _ _ _, ptb, _, rfl, SqT.of eas, fun D hD => ?_⟩
    refine lc_enumT (K := K) (a := ptb) (xs := as.map V.ref) (LcI (fun _ y (i : Nat) => y = nv i) (fun i => kn xs (q.ts.getD i (.inr 0))) (List.range q.ts.length) H D) (LcI.start hD) (fun i H' _ h => SqT.of (h.1 _ _ eas)) ?_ ?_
    · rintro i x T0 H' hx h hT0
      obtain ⟨t1, t, rfl, ea, et, ha⟩ := fas.at hx
      have s2 : Same H (upd H' T0 (.tup [.int (i : Nat), .ref t1])) := h.1.trans (same_new hT0)
      have ha1 := TmAt.up ha s2
      obtain ⟨dt, gt⟩ := id ha1
      have hi : i < q.ts.length := (List.getElem?_eq_some_iff.mp et).1
      have hri : (List.range q.ts.length)[i]? = some i := by rw [List.getElem?_range hi]
      have egd : q.ts.getD i (.inr 0) = t := by rw [List.getD_eq_getElem?_getD, et]; rfl
      refine ⟨T0, _, rfl, SqT.of upd_same, rfl, _, _, rfl, _, _, rfl, rfl, rfl, ?_⟩
      refine ⟨_, rfl, t1, dt, _, rfl, gt, no_known _ _, _, rfl, t1, b, t, xs, rfl, ha1, hwq.2 t (List.mem_of_getElem? et), hB.up s2, _, rfl, ?_⟩
      cases ek : kn xs t with
      | true =>
        refine iteT ⟨_, rfl, ?_⟩
        exact h.yes (stab_val _) hD (by rw [List.length_range]; have := hwq.1; omega) hri (by rw [egd]; exact ek) (same_new hT0) rfl
      | false => exact iteF (h.no (stab_val _) hri (by rw [egd]; exact ek) (same_new hT0))
    · intro H' h
      obtain ⟨ys, s1, eD, hv⟩ := h.fin (by rw [List.length_range, List.length_map, fas.1]; exact Nat.le_refl _)
      have ey := VAll.eq (f := nv) hv
      subst ey
      exact ⟨D, _, rfl, .inl ⟨SqL.of eD, fun r1 hr1 => k r1 _ (s1.trans (same_new hr1)) upd_same⟩⟩
theorem kat_len (xs : List Str) (ts : List Tm) : (kat xs ts).length ≤ ts.length := by
  unfold U.kat
  exact Nat.le_trans (List.length_filter_le _ _) (by rw [List.length_range]; exact Nat.le_refl _)
theorem ptd_at {r : RR} {j : Nat} {q : Pt} (h : r.body[j]? = some q) : ptd r j = q := by
  unfold U.ptd
  rw [List.getD_eq_getElem?_getD, h]
  rfl
theorem ok_weight (T : Txt K mg A) : FnOk P w K mg base CX0 4 A.f_weight A.d_weight ["rule", "number", "bound", "sizes"] (spWeight A) := by
  have G_known_at : FnOk P w K mg base CX0 3 A.f_known_at A.d_known_at ["rule", "number", "bound"] (spKnownAt A) := ok_known_at T
  refine T.F_weight.ok sc_weight (fun vs H Q E h => ?_) (fun cdv ar outer s H vs Q E hr h => ?_)
  · obtain ⟨a, b, z, j, r, q, xs, sz, rfl, _⟩ := h
    rfl
  · obtain ⟨a, b, z, j, r, q, xs, sz, rfl, hR, hw, hq, hB, hZ, k⟩ := h
    have hu := hu_of hr
    obtain ⟨dx, pt, pb, ps, sv, bs, e, f, g, hb, hs, hc⟩ := id hR
    have hj : j < bs.length := by rw [hb.1]; exact (List.getElem?_eq_some_iff.mp hq).1
    have hbj : bs[j]? = some bs[j] := List.getElem?_eq_getElem hj
    have hl := hb.2 j _ q hbj hq
    have hwq := (hw.body.2 q (List.mem_of_getElem? hq)).1
    obtain ⟨dxb, ptb, pob, gb, ⟨as, eas, fas⟩, _⟩ := id hl
    refine ⟨_, (pss_cons (ps_set (i := 4) sc_weight.nd rfl (Or.inl rfl) (pe_ix (ixT K) (fldK K (pv 0) rfl) (pv 1) (fun _ _ => rfl)))
      (pss_cons (ps_if (pt_cmpR op_ne (fldK K (pv 4) rfl) pe_str (nomark _))
        (pss_one (ps_ret (pe_tup (pa_cons pe_int (pa_cons pe_int (pa_cons pe_int (pa_cons (pv 1) pa_nil)))))))
        pss_nil)
      (pss_cons (ps_set (i := 5) sc_weight.nd rfl (Or.inl rfl) (pe_callB (lenK K) (by rfl) T.z_len (by decide +kernel) (pa_cons (pe_call G_known_at (hr.mono (by decide)) (by rfl) T.m_known_at T.F_known_at.kp T.b_known_at .nil pass0 (pa_cons (pv 0) (pa_cons (pv 1) (pa_cons (pv 2) pa_nil)))) pa_nil)))
      (pss_cons (ps_if (pt_cmpR op_eq (pv 5) (pe_callB (lenK K) (by rfl) T.z_len (by decide +kernel) (pa_cons (fldK K (pv 4) rfl) pa_nil)) (nomark _))
        (pss_one (ps_ret (pe_tup (pa_cons pe_int (pa_cons pe_int (pa_cons pe_int (pa_cons (pv 1) pa_nil)))))))
        pss_nil)
      (pss_one (ps_ret (pe_tup (pa_cons pe_int (pa_cons (pe_un un_neg (pv 5)) (pa_cons (pe_dget2 hu (pv 3) (fldK K (pv 4) rfl) pe_int ⟨rfl, rfl, rfl, rfl⟩) (pa_cons (pv 1) pa_nil))))))))))), ?_⟩
    refine ⟨_, rfl, a, _, dx, _, _, rfl, e, T.cl_Rule, T.n_Rule_body, rf_body _ _ _ _ _, _, rfl, pb, _, _, _, rfl, rfl, SqT.of g, atI_nat (by rw [List.getElem?_map, hbj]; rfl), ?_⟩
    refine ⟨_, rfl, bs[j], _, dxb, _, _, rfl, gb, T.cl_Literal, T.n_Literal_kind, lf_kind _ _ _ _, rfl, _, rfl, ?_⟩
    rw [dec_str]
    unfold U.wtP at k
    rw [ptd_at hq] at k
    refine iteND (fun h1 => ?_) (fun h1 => ?_)
    · rw [if_neg h1] at k
      exact ⟨_, rfl, (by show 4 ≤ sizeLine; decide), fun t ht => k t _ (same_new ht) upd_same⟩
    · rw [if_pos h1] at k
      refine ⟨_, rfl, _, rfl, _, rfl, a, b, j, r, q, xs, rfl, hR, hw, hq, hB, fun t H1 s1 et => ?_⟩
      refine ⟨t, _, rfl, .inr (SqT.of et), ?_⟩
      refine ⟨_, rfl, _, rfl, bs[j], _, dxb, _, _, rfl, s1 _ _ gb, T.cl_Literal, T.n_Literal_terms, lf_terms _ _ _ _, ptb, _, rfl, .inr (SqT.of (s1 _ _ eas)), rfl, _, rfl, ?_⟩
      rw [dec_int, List.length_map, List.length_map, fas.1]
      refine iteD (fun h2 => ?_) (fun h2 => ?_)
      · rw [if_pos (by omega)] at k
        exact ⟨_, rfl, (by show 4 ≤ sizeLine; decide), fun t ht => k t _ (s1.trans (same_new ht)) upd_same⟩
      · rw [if_neg (by omega)] at k
        obtain ⟨kvs, ez, hz⟩ := hZ.up s1
        refine ⟨_, rfl, _, rfl, _, rfl, z, rfl, .inl ⟨_, .inl ez⟩, _, rfl, bs[j], _, dxb, _, _, rfl, s1 _ _ gb, T.cl_Literal, T.n_Literal_name, lf_name _ _ _ _, _, DGet.k (k := Sum.inr q.name) ez, ?_⟩
        rw [hz]
        exact ⟨_, rfl, (by show 4 ≤ sizeLine; decide), fun t ht => k t _ (s1.trans (same_new ht)) upd_same⟩
end
end Toy

set_option Elab.async false
set_option maxRecDepth 100000
set_option maxHeartbeats 4000000
namespace Toy
open PySem L2
open U (Tm Pt RR tn nms vars addN dd rows cnt kn kat wtP ptd nexts)
theorem OrdAt.sq {K : PySem.W.Frag} {H : Hp} {o : Addr} {ord : List Nat} (h : OrdAt H o ord) : SqL K H o (ord.map nv) ∨ SqT K H o (ord.map nv) := by
  rcases h with e | e
  · exact .inl (SqL.of e)
  · exact .inr (SqT.of e)
def spBehind (A : Ad) : Sp := fun vs H Q _ => ∃ (a o g : Addr) (r : RR) (ord : List Nat) (given : List Str), vs = [.ref a, .ref o, .ref g] ∧ RuleAt A H a r ∧ Wf r ∧ H o = some (.tup (ord.map nv)) ∧ ord.length ≤ 20 ∧ (∀ j ∈ ord, j < r.body.length) ∧ H g = some (.tup (given.map V.str)) ∧ given.length ≤ 20 ∧
  ∀ d H', Same H H' → BoundAt H' d (U.bnd r given ord) → Q (.ref d) H'
def spBinds (A : Ad) : Sp := fun vs H Q _ => ∃ (a : Addr) (j : Nat) (r : RR) (q : Pt), vs = [.ref a, .int j] ∧ RuleAt A H a r ∧ Wf r ∧ r.body[j]? = some q ∧ q.kind = "pos" ∧ ∀ t H', Same H H' → H' t = some (.tup ((U.gv q).map V.str)) → Q (.ref t) H'
theorem fold_addN_mem (l : List Str) (x : Str) : x ∈ l.foldl addN [] ↔ x ∈ l := U.dd_mem
section
variable {P : Program} {w : World} {K : PySem.W.Frag} {mg : Str → Option Value} {base : Heap} {A : Ad}
theorem ok_bound_by (T : Txt K mg A) : FnOk P w K mg base CX0 1 A.f_bound_by A.d_bound_by ["given", "taken"] spBoundBy := by
  refine T.F_bound_by.ok sc_bound_by (fun vs H Q E h => ?_) (fun cdv ar outer s H vs Q E hr h => ?_)
  · obtain ⟨g, l, given, bs, rs, rfl, _⟩ := h
    rfl
  · obtain ⟨g, l, given, bs, rs, rfl, eg, el, fl, h20, hg20, hrow, k⟩ := h
    have hu := hu_of hr
    refine ⟨_, (pss_cons (ps_set (i := 2) sc_bound_by.nd rfl (Or.inl rfl) pe_dnewK)
      (pss_cons (ps_for PassesOwn.never rfl (listK K (pe_op op_cat (pe_lst (pa_cons (pv 0) pa_nil)) (pv 1))) (pg_name (i := 3) sc_bound_by.nd rfl (Or.inl rfl))
        (pss_one (ps_for PassesOwn.never rfl (tupIK K (pv 3)) (pg_name (i := 4) sc_bound_by.nd rfl (Or.inl rfl))
          (pss_one (ps_dput hu (pv 2) (pv 4) pe_bl rfl)))))
      (pss_one (ps_ret (pv 2))))), ?_⟩
    refine fun d hd => ?_
    have s0 := same_new hd (o := .dK [])
    refine ⟨_, rfl, (by show 1 ≤ sizeLine; decide), fun m hm => ?_⟩
    have s1 := s0.trans (same_new hm (o := .lst [.ref g]))
    refine ⟨_, rfl, m, l, _, _, rfl, rfl, upd_same, s1 _ _ el, (by rw [List.length_map, fl.1]; exact sz' (by show 1 + rs.length ≤ 1000; omega)), fun z hz => ?_⟩
    have s2 := s1.trans (same_new hz (o := .lst ([.ref g] ++ bs.map V.ref)))
    have edz : upd (upd (upd H d (.dK [])) m (.lst [.ref g])) z (.lst ([.ref g] ++ bs.map V.ref)) d = some (.dK []) := same_new hz _ _ (same_new hm _ _ upd_same)
    have hall : All2 (fun b row => H b = some (.tup (row.map V.str))) (g :: bs) (given :: rs) := .cons eg fl
    refine ⟨z, rfl, ⟨_, SqL.of upd_same⟩, ?_⟩
    refine for_list (K := K) (a := z) (xs := (g :: bs).map V.ref) (fun i σ H' => ∃ x y, σ = [some (.ref g), some (.ref l), some (.ref d), x, y] ∧ Same H H' ∧ H' z = some (.lst ((g :: bs).map V.ref)) ∧ H' d = some (.dK (blD (((given :: rs).take i).flatten.foldl addN []))))
      ⟨none, none, rfl, s2, upd_same, edz⟩ (fun i σ H' _ ⟨x, y, _, _, ez, _⟩ => SqL.of ez) ?_ ?_
    · rintro i v σ H1 hv ⟨x, y, rfl, t1, ez, eD⟩
      obtain ⟨b, row, rfl, eb, erow, hb⟩ := hall.at hv
      have hb1 := t1 _ _ hb
      have hi : i < (given :: rs).length := (List.getElem?_eq_some_iff.mp erow).1
      have hrl : ∀ row' ∈ given :: rs, row'.length ≤ 20 := fun row' h' => by
        rcases List.mem_cons.mp h' with rfl | h'
        · exact hg20
        · exact hrow _ h'
      have hflat : ∀ n, (((given :: rs).take n).flatten).length ≤ 20 * n := fun n => by
        have : ∀ (l : List (List Str)), (∀ x ∈ l, x.length ≤ 20) → l.flatten.length ≤ 20 * l.length := fun l => by
          induction l with
          | nil => exact fun _ => Nat.zero_le _
          | cons x l ih =>
            intro h
            rw [List.flatten_cons, List.length_append, List.length_cons]
            have h1 := h x List.mem_cons_self
            have h2 := ih fun y hy => h y (List.mem_cons_of_mem _ hy)
            omega
        refine Nat.le_trans (this _ fun x hx => hrl x (List.mem_of_mem_take hx)) ?_
        rw [List.length_take]
        have := Nat.min_le_left n (given :: rs).length
        exact Nat.mul_le_mul_left _ this
      refine ⟨_, rfl, b, rfl, ⟨_, SqT.of hb1⟩, ?_⟩
      refine for_tup (K := K) (a := b) (xs := row.map V.str) (fun j σ H2 => ∃ y, σ = [some (.ref g), some (.ref l), some (.ref d), some (.ref b), y] ∧ Same H H2 ∧ H2 b = some (.tup (row.map V.str)) ∧ H2 z = some (.lst ((g :: bs).map V.ref)) ∧ H2 d = some (.dK (blD ((((given :: rs).take i).flatten ++ row.take j).foldl addN []))))
        ⟨y, rfl, t1, hb1, ez, by simpa using eD⟩ (fun j σ H2 _ ⟨y, _, _, h, _⟩ => SqT.of h) ?_ ?_
      · rintro j v σ H2 hv ⟨y, rfl, t2, hb2, ez2, eD2⟩
        rw [List.getElem?_map] at hv
        obtain ⟨nm, hnm, rfl⟩ := Option.map_eq_some_iff.mp hv
        have hjl : j < row.length := (List.getElem?_eq_some_iff.mp hnm).1
        have hr20 := hrl row (List.mem_of_getElem? erow)
        refine ⟨_, rfl, _, rfl, d, _, rfl, DPut.k (k := Sum.inr nm) eD2 ?_, ?_⟩
        · rw [List.length_map]
          have h1 := U.fold_len (xs := ((given :: rs).take i).flatten ++ row.take j) (acc := [])
          rw [List.length_append, List.length_take] at h1
          have h2 := hflat i
          have h3 : i ≤ 21 := by rw [List.length_cons] at hi; omega
          have h0 : ([] : List Str).length = 0 := rfl
          rw [h0] at h1
          have h4 := Nat.min_le_left j row.length
          exact sz (by omega)
        · have nbd : b ≠ d := ne_of hb2 eD2 (fun q => nomatch q)
          have nzd : z ≠ d := ne_of ez2 eD2 (fun q => nomatch q)
          refine ⟨_, rfl, same_mut t2 hd, by rw [upd_ne nbd]; exact hb2, by rw [upd_ne nzd]; exact ez2, ?_⟩
          rw [upd_same, putK_bl, take_one hnm, ← List.append_assoc, List.foldl_append (l := _ ++ _)]
          rfl
      · rintro σ H2 ⟨y, rfl, t2, hb2, ez2, eD2⟩
        rw [List.length_map, List.take_of_length_le (Nat.le_refl _)] at eD2
        refine ⟨_, _, rfl, t2, ez2, ?_⟩
        rw [take_one erow, List.flatten_append]
        simpa using eD2
    · rintro σ H1 ⟨x, y, rfl, t1, ez, eD⟩
      rw [List.length_map, hall.1, List.take_of_length_le (Nat.le_refl _)] at eD
      exact ⟨_, rfl, k d H1 t1 (by simpa using eD)⟩
theorem ok_next (T : Txt K mg A) : FnOk P w K mg base CX0 5 A.f_next_parts A.d_next_parts ["rule", "order", "bound"] (spNext A) := by
  have G_ready : FnOk P w K mg base CX0 4 A.f_ready A.d_ready ["rule", "number", "bound"] (spReady A) := ok_ready T
  refine T.F_next_parts.ok sc_next_parts (fun vs H Q E h => ?_) (fun cdv ar outer s H vs Q E hr h => ?_)
  · obtain ⟨a, o, b, r, ord, xs, rfl, _⟩ := h
    rfl
  · obtain ⟨a, o, b, r, ord, xs, rfl, hR, hw, hO, hB, k⟩ := h
    obtain ⟨dx, pt, pb, ps, sv, bs, e, f, g, hb, hs, hc⟩ := id hR
    refine ⟨_, (pss_one (ps_ret (pe_lc (own := [("number", 3)]) (by rfl) sc_next_parts.nd (pi_range1 (by rfl) T.z_range (pa_cons (pe_callB (lenK K) (by rfl) T.z_len (by decide +kernel) (pa_cons (fldK K (pv 0) rfl) pa_nil)) pa_nil)) (blkOk_by (own := [("number", 3)]) (N := N_next_parts) (sc := defScope s_next_parts) (by decide +kernel)) (fun _ _ _ _ _ => (pg_name (i := 3) sc_next_parts.nd rfl (Or.inl rfl))) (fun _ _ _ _ _ => (pts_one (PW.pt (pw_and (pt_cmpR (notInSeq K) (pv 3) (pv 1) (by rfl)) (pw_and1 (pt_val (pe_call G_ready (hr.mono (by decide)) (by rfl) T.m_ready T.F_ready.kp T.b_ready .nil pass0 (pa_cons (pv 0) (pa_cons (pv 3) (pa_cons (pv 2) pa_nil)))))))))) (fun _ _ _ _ _ => (pv 3))))), ?_⟩
    have h20 := hw.body.1
    refine ⟨_, rfl, a, _, dx, _, _, rfl, e, T.cl_Rule, T.n_Rule_body, rf_body _ _ _ _ _, pb, _, rfl, .inr (SqT.of g), _, rfl, (by omega), (by rw [List.length_map, hb.1]; omega), fun D hD => ?_⟩
    have en : (((bs.map V.ref).length : Nat) : Int).toNat = r.body.length := by rw [Int.toNat_natCast, List.length_map, hb.1]
    rw [en]
    refine lc_range (n := r.body.length) (LcI (fun _ y (i : Nat) => y = nv i) (fun j => decide (j ∉ ord) && U.rdy r xs (ptd r j)) (List.range r.body.length) H D) (LcI.start hD) ?_ ?_
    · rintro i H1 hi h
      have hri : (List.range r.body.length)[i]? = some i := by rw [List.getElem?_range hi]
      have hq : r.body[i]? = some (ptd r i) := by
        unfold U.ptd
        rw [List.getD_eq_getElem?_getD, List.getElem?_eq_getElem hi]
        rfl
      have ei : (0 : Int) + (i : Nat) = ((i : Nat) : Int) := by omega
      rw [ei]
      refine ⟨rfl, _, rfl, _, rfl, o, ord.map nv, rfl, (hO.up h.1).sq, rfl, flat_nv _, _, rfl, ?_⟩
      have e1 : inV (.int ((i : Nat) : Int)) (ord.map nv) = decide (i ∈ ord) := inV_nv i ord
      rw [e1]
      by_cases hm : i ∈ ord
      · rw [decide_eq_true hm]
        refine iteF (iteF (h.no (stab_val _) hri ?_ (fun _ _ e => e)))
        simp [hm]
      · rw [decide_eq_false hm]
        refine iteT ⟨_, rfl, _, rfl, _, rfl, a, b, i, r, _, xs, rfl, hR.up h.1, hw, hq, hB.up h.1, fun H2 s2 => ⟨_, rfl, ?_⟩⟩
        cases er : U.rdy r xs (ptd r i) with
        | true => exact iteT ⟨_, rfl, h.yes (stab_val _) hD (by rw [List.length_range]; omega) hri (by simp [hm, er]) s2 rfl⟩
        | false => exact iteF (h.no (stab_val _) hri (by simp [er]) s2)
    · intro H1 h
      obtain ⟨ys, s1, eD, hv⟩ := h.fin (by rw [List.length_range]; exact Nat.le_refl _)
      have ey := VAll.eq (f := nv) hv
      subst ey
      exact k D H1 s1 hD eD
theorem gv_len' {q : Pt} (h : WfT q.ts) : (U.gv q).length ≤ 20 := gv_len h
/-- what the parts of an order give -/
theorem gives_list {r : RR} (hw : Wf r) {ord : List Nat} (hlt : ∀ j ∈ ord, j < r.body.length) : ∀ row ∈ ord.map (fun j => U.gv (ptd r j)), row.length ≤ 20 := fun row hrow => by
  obtain ⟨j, hj, rfl⟩ := List.mem_map.mp hrow
  have h := hlt j hj
  have e : ptd r j = r.body[j] := by
    unfold U.ptd
    rw [List.getD_eq_getElem?_getD, List.getElem?_eq_getElem h]
    rfl
  rw [e]
  exact gv_len (hw.body.2 _ (List.getElem_mem h)).1
theorem ptd_get {r : RR} {j : Nat} (h : j < r.body.length) : r.body[j]? = some (ptd r j) := by
  unfold U.ptd
  rw [List.getD_eq_getElem?_getD, List.getElem?_eq_getElem h]
  rfl
theorem bound_fold {H : Hp} {d : Addr} {r : RR} {given : List Str} {ord : List Nat} (h : H d = some (.dK (blD ((given ++ (ord.map fun j => U.gv (ptd r j)).flatten).foldl addN [])))) : BoundAt H d (U.bnd r given ord) := .inl ⟨_, h, fun x => by
  rw [valV_bl]
  have e := fold_addN_mem (given ++ (ord.map fun j => U.gv (ptd r j)).flatten) x
  by_cases hx : x ∈ (given ++ (ord.map fun j => U.gv (ptd r j)).flatten).foldl addN []
  · rw [if_pos hx]
    exact (decide_eq_true (e.mp hx)).symm
  · rw [if_neg hx]
    exact (decide_eq_false fun z => hx (e.mpr z)).symm⟩
theorem ok_behind (T : Txt K mg A) : FnOk P w K mg base CX0 4 A.f_bound_behind A.d_bound_behind ["rule", "order", "given"] (spBehind A) := by
  have G_gives : FnOk P w K mg base CX0 3 A.f_gives A.d_gives ["rule", "number"] (spGives A) := ok_gives T
  have G_bound_by : FnOk P w K mg base CX0 1 A.f_bound_by A.d_bound_by ["given", "taken"] spBoundBy := ok_bound_by T
  refine T.F_bound_behind.ok sc_bound_behind (fun vs H Q E h => ?_) (fun cdv ar outer s H vs Q E hr h => ?_)
  · obtain ⟨a, o, g, r, ord, given, rfl, _⟩ := h
    rfl
  · obtain ⟨a, o, g, r, ord, given, rfl, hR, hw, eo, hl20, hlt, eg, hg20, k⟩ := h
    refine ⟨_, (pss_one (ps_ret (pe_call G_bound_by (hr.mono (by decide)) (by rfl) T.m_bound_by T.F_bound_by.kp T.b_bound_by .nil pass0 (pa_cons (pv 2) (pa_cons (pe_lc (own := [("number", 3)]) (by rfl) sc_bound_behind.nd (tupIK K (pv 1)) (blkOk_by (own := [("number", 3)]) (N := N_bound_behind) (sc := defScope s_bound_behind) (by decide +kernel)) (fun _ _ _ _ _ => (pg_name (i := 3) sc_bound_behind.nd rfl (Or.inl rfl))) (fun _ _ _ _ _ => pts_nil) (fun _ _ _ _ _ => (pe_call G_gives (hr.mono (by decide)) (by rfl) T.m_gives T.F_gives.kp T.b_gives .nil pass0 (pa_cons (pv 0) (pa_cons (pv 3) pa_nil))))) pa_nil))))), ?_⟩
    refine ⟨_, rfl, _, rfl, o, rfl, ⟨_, SqT.of eo⟩, fun D hD => ?_⟩
    have st : Stab D fun H y (row : List Str) => ∃ a, y = .ref a ∧ H a = some (.tup (row.map V.str)) := ⟨fun ⟨a, e, h⟩ s => ⟨a, e, s _ _ h⟩, fun hl ⟨a, e, h⟩ => ⟨a, e, by rw [upd_ne (ne_of h hl (fun q => nomatch q))]; exact h⟩⟩
    refine lc_tup (K := K) (a := o) (xs := ord.map nv) (LcI (fun H y (row : List Str) => ∃ a, y = .ref a ∧ H a = some (.tup (row.map V.str))) (fun _ => true) (ord.map fun j => U.gv (ptd r j)) H D) (LcI.start hD) (fun i H' _ h => SqT.of (h.1 _ _ eo)) ?_ ?_
    · rintro i x H' hx h
      rw [List.getElem?_map] at hx
      obtain ⟨j, hj, rfl⟩ := Option.map_eq_some_iff.mp hx
      have hjl := hlt j (List.mem_of_getElem? hj)
      refine ⟨rfl, _, rfl, _, rfl, a, j, r, _, rfl, hR.up h.1, hw, ptd_get hjl, fun t H2 s2 et => ?_⟩
      exact h.yes st hD (by rw [List.length_map]; omega) (by rw [List.getElem?_map, hj]; rfl) rfl s2 ⟨t, rfl, et⟩
    · intro H' h
      obtain ⟨ys, s1, eD, hv⟩ := h.fin (by rw [List.length_map, List.length_map]; exact Nat.le_refl _)
      obtain ⟨cs, rfl, hc⟩ := hv.refs
      rw [filter_tt] at hc
      exact ⟨g, D, given, cs, _, rfl, s1 _ _ eg, eD, hc, by rw [List.length_map]; exact hl20, hg20, gives_list hw hlt, fun d H2 s2 ed => k d H2 (s1.trans s2) (bound_fold ed)⟩
theorem ok_binds (T : Txt K mg A) : FnOk P w K mg base CX0 4 A.f_binds A.d_binds ["rule", "number"] (spBinds A) := by
  have G_gives : FnOk P w K mg base CX0 3 A.f_gives A.d_gives ["rule", "number"] (spGives A) := ok_gives T
  have G_Literal_names : FnOk P w K mg base CX0 1 A.f_Literal_names A.d_Literal_names ["self"] (spLitNames A) := ok_lit_names T
  refine T.F_binds.ok sc_binds (fun vs H Q E h => ?_) (fun cdv ar outer s H vs Q E hr h => ?_)
  · obtain ⟨a, j, r, q, rfl, _⟩ := h
    rfl
  · obtain ⟨a, j, r, q, rfl, hR, hw, hq, hpos, k⟩ := h
    obtain ⟨dx, pt, pb, ps, sv, bs, e, f, g, hb, hs, hc⟩ := id hR
    have hj : j < bs.length := by rw [hb.1]; exact (List.getElem?_eq_some_iff.mp hq).1
    have hbj : bs[j]? = some bs[j] := List.getElem?_eq_getElem hj
    have hl := hb.2 j _ q hbj hq
    obtain ⟨dxb, ptb, pob, gb, _, _⟩ := id hl
    refine ⟨_, (pss_cons (ps_set (i := 2) sc_binds.nd rfl (Or.inl rfl) (pe_ix (ixT K) (fldK K (pv 0) rfl) (pv 1) (fun _ _ => rfl)))
      (pss_one (ps_ret (pe_ifExp (pt_cmpR op_eq (fldK K (pv 2) rfl) pe_str (nomark _)) (pe_meth0 (pv 2) T.cl_Literal T.e_Literal_names G_Literal_names (hr.mono (by decide)) T.b_Literal_names .nil pass0) (pe_call G_gives (hr.mono (by decide)) (by rfl) T.m_gives T.F_gives.kp T.b_gives .nil pass0 (pa_cons (pv 0) (pa_cons (pv 1) pa_nil))))))), ?_⟩
    refine ⟨_, rfl, a, _, dx, _, _, rfl, e, T.cl_Rule, T.n_Rule_body, rf_body _ _ _ _ _, _, rfl, pb, _, _, _, rfl, rfl, SqT.of g, atI_nat (by rw [List.getElem?_map, hbj]; rfl), ?_⟩
    refine ⟨_, rfl, bs[j], _, dxb, _, _, rfl, gb, T.cl_Literal, T.n_Literal_kind, lf_kind _ _ _ _, rfl, _, rfl, ?_⟩
    rw [dec_str, decide_eq_false (by rw [hpos]; decide +kernel)]
    exact iteF ⟨_, rfl, _, rfl, a, j, r, q, rfl, hR, hw, hq, k⟩
end
end Toy

set_option Elab.async false
set_option maxRecDepth 100000
set_option maxHeartbeats 4000000
namespace Toy
open PySem L2
open U (Tm Pt RR tn nms vars addN dd rows cnt kn kat wtP ptd nexts)
/-! ### plans as objects -/
def plf (ru o g : Addr) (tf : V) : List (Str × V) := putF "told_first" tf (putF "given" (.ref g) (putF "order" (.ref o) (putF "rule" (.ref ru) [])))
section
variable (ru o g : Addr) (tf : V)
theorem plf_tf : (plf ru o g tf).lookup ("told_first" : Str) = some tf := by
  unfold plf
  rw [lookup_putF, if_pos rfl]
theorem plf_given : (plf ru o g tf).lookup ("given" : Str) = some (.ref g) := by
  unfold plf
  rw [lookup_putF, if_neg (by decide +kernel), lookup_putF, if_pos rfl]
theorem plf_order : (plf ru o g tf).lookup ("order" : Str) = some (.ref o) := by
  unfold plf
  rw [lookup_putF, if_neg (by decide +kernel), lookup_putF, if_neg (by decide +kernel), lookup_putF, if_pos rfl]
theorem plf_rule : (plf ru o g tf).lookup ("rule" : Str) = some (.ref ru) := by
  unfold plf
  rw [lookup_putF, if_neg (by decide +kernel), lookup_putF, if_neg (by decide +kernel), lookup_putF, if_neg (by decide +kernel), lookup_putF, if_pos rfl]
theorem plf_no {m : Str} (h1 : ¬ m = "told_first") (h2 : ¬ m = "given") (h3 : ¬ m = "order") (h4 : ¬ m = "rule") : (plf ru o g tf).lookup m = none := by
  unfold plf
  rw [lookup_putF, if_neg h1, lookup_putF, if_neg h2, lookup_putF, if_neg h3, lookup_putF, if_neg h4]
  rfl
end
def PlanAt (A : Ad) (H : Hp) (p ru : Addr) (ord : List Nat) (given : List Str) (tf : Bool) : Prop := ∃ dx o g, H p = some (.ins A.C_Plan dx (plf ru o g (.bl tf))) ∧ H o = some (.tup (ord.map nv)) ∧ H g = some (.tup (given.map V.str))
theorem PlanAt.up {A : Ad} {H H' : Hp} {p ru : Addr} {ord : List Nat} {given : List Str} {tf : Bool} (h : PlanAt A H p ru ord given tf) (s : Same H H') : PlanAt A H' p ru ord given tf := by
  obtain ⟨dx, o, g, e, f, k⟩ := h
  exact ⟨dx, o, g, s _ _ e, s _ _ f, s _ _ k⟩
theorem rf_ne (name : Str) (pt pb : Addr) (sv : V) (ps : Addr) : rf name pt pb sv ps ≠ [] := fun e => by
  have := rf_name name pt pb sv ps
  rw [e] at this
  cases this
theorem RuleAt.ne_bare {A : Ad} {C' : Addr} {H : Hp} {a p dx : Addr} {r : RR} (h : RuleAt A H a r) (hp : H p = some (.ins C' dx [])) : a ≠ p := by
  obtain ⟨d, pt, pb, ps, sv, bs, e, _⟩ := h
  refine ne_of e hp fun z => ?_
  injection z with _ _ z
  exact rf_ne _ _ _ _ _ z
theorem RuleAt.upx {A : Ad} {C' : Addr} {H H' : Hp} {a p dx : Addr} {r : RR} (h : RuleAt A H a r) (s : SameX p H H') (hp : H p = some (.ins C' dx [])) : RuleAt A H' a r := by
  have ha := h.ne_bare hp
  obtain ⟨d, pt, pb, ps, sv, bs, e, f, g, hb, hs, kvs, ek, hk⟩ := h
  exact ⟨d, pt, pb, ps, sv, bs, s _ _ e ha, TmsAt.upx f s hp, s _ _ g (ne_of g hp (fun q => nomatch q)), hb.imp fun a t h => LitAt.upx h s hp, hs, kvs, s _ _ ek (ne_of ek hp (fun q => nomatch q)), hk⟩
def spPlanInit (A : Ad) : Sp := fun vs H Q _ => ∃ (p dx ru o g : Addr) (r : RR) (ord : List Nat) (given : List Str), vs = [.ref p, .ref ru, .ref o, .ref g] ∧ H p = some (.ins A.C_Plan dx []) ∧ RuleAt A H ru r ∧ Wf r ∧ H o = some (.lst (ord.map nv)) ∧ (∀ j ∈ ord, j < r.body.length) ∧ H g = some (.tup (given.map V.str)) ∧
  ∀ H' o' tf, H' p = some (.ins A.C_Plan dx (plf ru o' g (.bl tf))) → H' o' = some (.tup (ord.map nv)) → o' ≠ p → SameX p H H' → Q .non H'
def spLight (A : Ad) : Sp := fun vs H Q E => ∃ (a o b z : Addr) (r : RR) (ord : List Nat) (xs : List Str) (sz : Str → Int), vs = [.ref a, .ref o, .ref b, .ref z] ∧ RuleAt A H a r ∧ Wf r ∧ OrdAt H o ord ∧ BoundAt H b xs ∧ SzAt H z sz ∧
  (nexts r ord xs = [] → ∀ H', Same H H' → E (.ref A.C_BadRule) none H') ∧ ∀ j js, nexts r ord xs = j :: js → ∀ H', Same H H' → Q (.int ((U.bst (wtP r xs sz) j js : Nat) : Int)) H'
theorem len2 {p z : Str} {a b : Nat} (hp : p.length ≤ a) (hz : z.length ≤ b) (h : a + b ≤ 5000) : (p ++ z).length ≤ sizeLine := by
  have e : (p ++ z).length = p.length + z.length := by
    show (⟨p.cps ++ z.cps⟩ : Str).cps.size = _
    exact Array.size_append
  have h5 : (5000 : Nat) ≤ sizeLine := by decide
  omega
section
variable {P : Program} {w : World} {K : PySem.W.Frag} {mg : Str → Option Value} {base : Heap} {A : Ad}
theorem ok_lightest (T : Txt K mg A) : FnOk P w K mg base (L2.CX P w) 6 A.f_lightest A.d_lightest ["rule", "order", "bound", "sizes"] (spLight A) := by
  have G_next_parts : FnOk P w K mg base CX0 5 A.f_next_parts A.d_next_parts ["rule", "order", "bound"] (spNext A) := ok_next T
  have G_weight : FnOk P w K mg base CX0 4 A.f_weight A.d_weight ["rule", "number", "bound", "sizes"] (spWeight A) := ok_weight T
  refine T.F_lightest.okX sc_lightest (fun vs H Q E h => ?_) (fun cdv ar outer s H vs Q E hr h => ?_)
  · obtain ⟨a, o, b, z, r, ord, xs, sz, rfl, _⟩ := h
    rfl
  · obtain ⟨a, o, b, z, r, ord, xs, sz, rfl, hR, hw, hO, hB, hZ, k1, k2⟩ := h
    obtain ⟨dx, pt, pb, ps, sv, bs, e, f, g, hb, hs, hc⟩ := id hR
    refine ⟨_, (pss_cons (ps_set (i := 4) sc_lightest.nd rfl (Or.inl rfl) (pe_call G_next_parts (hr.mono (by decide)) (by rfl) T.m_next_parts T.F_next_parts.kp T.b_next_parts .nil pass0 (pa_cons (pv 0) (pa_cons (pv 1) (pa_cons (pv 2) pa_nil)))))
      (pss_cons (ps_if (pt_cmpR (eqL K hr.units0) (pv 4) (pe_lst pa_nil) (nomark _))
        (pss_one (ps_raise rfl (takes_of rfl rfl rfl rfl) (SkE.pmk_own1 PySem.F.excBase_ValueError T.x_BadRule T.q_BadRule T.k_BadRule (raises_own T.sb_BadRule T.ty_BadRule) rfl (pe_joined (PJ.cons pe_str (PJ.cons (pe_fmt (fldK K (pv 0) rfl)) PJ.nil))))))
        pss_nil)
      (pss_one (ps_ret (pe_ix (ixT K) (pe_callB (min4K K hr.units) (by rfl) T.z_min (by decide +kernel) (pa_cons (pe_lc (own := [("number", 5)]) (by rfl) sc_lightest.nd (listK K (pv 4)) (blkOk_by (own := [("number", 5)]) (N := N_lightest) (sc := defScope s_lightest) (by decide +kernel)) (fun _ _ _ _ _ => (pg_name (i := 5) sc_lightest.nd rfl (Or.inl rfl))) (fun _ _ _ _ _ => pts_nil) (fun _ _ _ _ _ => (pe_call G_weight (hr.mono (by decide)) (by rfl) T.m_weight T.F_weight.kp T.b_weight .nil pass0 (pa_cons (pv 0) (pa_cons (pv 5) (pa_cons (pv 2) (pa_cons (pv 3) pa_nil))))))) pa_nil)) (pe_un un_neg pe_int) (fun _ _ => rfl)))))), ?_⟩
    refine ⟨_, rfl, _, rfl, _, rfl, a, o, b, r, ord, xs, rfl, hR, hw, hO, hB, fun l H1 s1 _ el => ?_⟩
    refine ⟨_, rfl, Nat.zero_le _, fun m hm => ?_⟩
    have s2 := s1.trans (same_new hm (o := .lst []))
    have el2 := same_new hm (o := .lst []) _ _ el
    refine ⟨l, m, _, rfl, rfl, SqL.of el2, SqL.of upd_same, _, rfl, ?_⟩
    have hsub : ∀ j ∈ nexts r ord xs, j < r.body.length := fun j hj => List.mem_range.mp (List.mem_filter.mp hj).1
    have hlen : (nexts r ord xs).length ≤ 20 := Nat.le_trans (List.length_filter_le _ _) (by rw [List.length_range]; exact hw.body.1)
    cases en : nexts r ord xs with
    | nil =>
      refine iteT ⟨_, rfl, (by decide +kernel), _, rfl, a, _, dx, _, _, rfl, s2 _ _ e, T.cl_Rule, T.n_Rule_name, rf_name _ _ _ _ _, .inl ⟨_, rfl, ?_, _, rfl, ?_, k1 en _ s2⟩⟩
      · exact sz' (by have := hw.name; omega)
      · exact len2 (a := 100) (b := 900) (by decide +kernel) hw.name (by decide)
    | cons j js =>
      refine iteF ⟨_, rfl, l, rfl, ⟨_, SqL.of el2⟩, fun D hD => ?_⟩
      have st : Stab D fun H y (i : Nat) => ∃ t, y = .ref t ∧ H t = some (.tup (wtP r xs sz i).vs) := ⟨fun ⟨a, e, h⟩ s => ⟨a, e, s _ _ h⟩, fun hl ⟨a, e, h⟩ => ⟨a, e, by rw [upd_ne (ne_of h hl (fun q => nomatch q))]; exact h⟩⟩
      rw [en] at el2 hsub hlen
      refine lc_list (K := K) (a := l) (xs := (j :: js).map nv) (LcI (fun H y (i : Nat) => ∃ t, y = .ref t ∧ H t = some (.tup (wtP r xs sz i).vs)) (fun _ => true) (j :: js) _ D) (LcI.start hD) (fun i H' _ h => SqL.of (h.1 _ _ el2)) ?_ ?_
      · rintro i x H' hx h
        rw [List.getElem?_map] at hx
        obtain ⟨n, hn, rfl⟩ := Option.map_eq_some_iff.mp hx
        have hnl := hsub n (List.mem_of_getElem? hn)
        have s3 := s2.trans h.1
        refine ⟨rfl, _, rfl, _, rfl, _, rfl, _, rfl, a, b, z, n, r, _, xs, sz, rfl, hR.up s3, hw, ptd_get hnl, hB.up s3, hZ.up s3, fun t H4 s4 et => ?_⟩
        exact h.yes st hD (by omega) hn rfl s4 ⟨t, rfl, et⟩
      · intro H' h
        obtain ⟨ys, s3, eD, hv⟩ := h.fin (by rw [List.length_map]; exact Nat.le_refl _)
        obtain ⟨cs, rfl, hcs⟩ := hv.refs
        rw [filter_tt] at hcs
        refine ⟨D, cs, wtP r xs sz j, js.map (wtP r xs sz), rfl, SqL.of eD, ?_, fun i c y h1 h2 => ?_, fun c hc4 => ?_⟩
        · rw [hcs.1, List.length_cons, List.length_cons, List.length_map]
        · have h2' : ((j :: js).map (wtP r xs sz))[i]? = some y := h2
          rw [List.getElem?_map] at h2'
          obtain ⟨n, hn, rfl⟩ := Option.map_eq_some_iff.mp h2'
          exact SqT.of (hcs.2 i c n h1 hn)
        · rw [U.min_bst] at hc4
          refine ⟨_, rfl, c, _, _, _, rfl, rfl, hc4, (rfl : atI (N4.vs _) (-1) = some _), ?_⟩
          have ed : (.int (wtP r xs sz (U.bst (wtP r xs sz) j js)).d : V) = .int ((U.bst (wtP r xs sz) j js : Nat) : Int) := by rw [U.wtP_d]
          show Q (.int (wtP r xs sz (U.bst (wtP r xs sz) j js)).d) H'
          rw [ed]
          exact k2 j js en H' (s2.trans s3)
end
end Toy

set_option Elab.async false
set_option maxRecDepth 100000
set_option maxHeartbeats 4000000
namespace Toy
open PySem L2
open U (Tm Pt RR tn nms vars addN dd rows cnt kn kat wtP ptd nexts)
section
variable {P : Program} {w : World} {K : PySem.W.Frag} {mg : Str → Option Value} {base : Heap} {A : Ad}
/-- [ready(rule, number, given) for number in (a tuple of parts)] -/
theorem ready_comp {te : TE} {p ru g dx : Addr} {v2 v3 v4 : Option V} {H : Hp} {fs : List (Str × V)} {r : RR} {ord : List Nat} {given : List Str} {Q : List V → Hp → Prop} (hp : H p = some (.ins A.C_Plan dx fs)) (cl : Cls K A.C_Plan) (na : NoAttr K A.C_Plan "given") (hf : fs.lookup ("given" : Str) = some (.ref g))
    (hR : RuleAt A H ru r) (hw : Wf r) (hg : H g = some (.tup (given.map V.str))) (hlt : ∀ j ∈ ord, j < r.body.length) (hlen : ord.length ≤ 900)
    (hsrc : ∀ R : VK, (∀ t H4, Same H H4 → H4 t = some (.tup (ord.map nv)) → R (.ref t) H4) → te [some (.ref p), some (.ref ru), v2, v3, v4] H R)
    (k : ∀ D (bs : List Bool) H', Same H H' → H' D = some (.lst (bs.map V.bl)) → Q [.ref D] H') :
    tCons (tLc (iTup K te) (gName 4) tYes (tCall (spReady A) [] E0 (tCons (tVar 1) (tCons (tVar 4) (tCons (tFld K (tVar 0) "given") tNil)))) [4]) tNil [some (.ref p), some (.ref ru), v2, v3, v4] H Q := by
  refine hsrc _ fun t H4 s4 et => ⟨t, rfl, ⟨_, SqT.of et⟩, fun D hD => ?_⟩
  refine lc_tup (K := K) (a := t) (xs := ord.map nv) (LcI (fun _ y (j : Nat) => ∃ b, y = .bl b) (fun _ => true) ord H4 D) (LcI.start hD) (fun i H' _ h => SqT.of (h.1 _ _ et)) ?_ ?_
  · rintro i x H' hx h
    rw [List.getElem?_map] at hx
    obtain ⟨j, hj, rfl⟩ := Option.map_eq_some_iff.mp hx
    have hjl := hlt j (List.mem_of_getElem? hj)
    have s5 := s4.trans h.1
    refine ⟨rfl, _, rfl, _, rfl, _, rfl, p, _, dx, _, _, rfl, s5 _ _ hp, cl, na, hf, ru, g, j, r, _, given, rfl, hR.up s5, hw, ptd_get hjl, .inr (.inr (s5 _ _ hg)), fun H6 s6 => ?_⟩
    exact h.yes ⟨fun h _ => h, fun _ h => h⟩ hD (by omega) hj rfl s6 ⟨_, rfl⟩
  · intro H' h
    obtain ⟨ys, s5, eD, hv⟩ := h.fin (by rw [List.length_map]; exact Nat.le_refl _)
    obtain ⟨bs, rfl⟩ : ∃ bs : List Bool, ys = bs.map V.bl := by
      rw [filter_tt] at hv
      clear eD h
      revert hv
      generalize ord = l
      intro hv
      induction ys generalizing l with
      | nil => exact ⟨[], rfl⟩
      | cons y ys ih =>
        cases l with
        | nil => exact nomatch hv.1
        | cons j l =>
          obtain ⟨b, rfl⟩ := hv.2 0 y j rfl rfl
          obtain ⟨bs, rfl⟩ := ih l ⟨Nat.succ.inj hv.1, fun i y t h1 h2 => hv.2 (i + 1) y t h1 h2⟩
          exact ⟨b :: bs, rfl⟩
    exact k D bs H' (s4.trans s5) eD
/-- a tuple's first n items, by a slice -/
theorem slice_to {K : PySem.W.Frag} {H : Hp} {o : Addr} {xs : List V} {n : Nat} {R : VK} (eo : H o = some (.tup xs)) (k : ∀ t H4, Same H H4 → H4 t = some (.tup (xs.take n)) → R (.ref t) H4) : rSlA K (.ref o) none (some (n : Int)) H R := by
  refine ⟨o, xs, rfl, SqT.of eo, fun hwh => ?_, fun _ q hq => ?_⟩
  · refine k o H (fun _ _ e => e) ?_
    have h0 := hwh.2
    rw [HT.sIx_nat] at h0
    rw [List.take_of_length_le (by omega)]
    exact eo
  · refine k q _ (same_new hq) ?_
    rw [upd_same, cut_take]
theorem ok_plan_init (T : Txt K mg A) : FnOk P w K mg base CX0 5 A.f_Plan_init A.d_Plan_init ["self", "rule", "order", "given"] (spPlanInit A) := by
  have G_ready : FnOk P w K mg base CX0 4 A.f_ready A.d_ready ["rule", "number", "bound"] (spReady A) := ok_ready T
  refine T.F_Plan_init.ok sc_Plan_init (fun vs H Q E h => ?_) (fun cdv ar outer s H vs Q E hr h => ?_)
  · obtain ⟨p, dx, ru, o, g, r, ord, given, rfl, _⟩ := h
    rfl
  · obtain ⟨p, dx, ru, o, g, r, ord, given, rfl, hp, hR, hw, eo, hlt, eg, k⟩ := h
    refine ⟨_, (pss_cons (sfldK K (pv 0) (pv 1) rfl)
      (pss_cons (sfldK K (pv 0) (pe_callTy (tupOf K) (by rfl) T.z_tuple (by decide +kernel) (pa_cons (pv 2) pa_nil)) rfl)
      (pss_cons (sfldK K (pv 0) (pe_callTy (tupOf K) (by rfl) T.z_tuple (by decide +kernel) (pa_cons (pv 3) pa_nil)) rfl)
      (pss_one (sfldK K (pv 0) (pe_not (pe_callB (allK K) (by rfl) T.z_all (by decide +kernel) (pa_cons (pe_lc (own := [("number", 4)]) (by rfl) sc_Plan_init.nd (tupIK K (pe_slice (slAK K) (fldK K (pv 0) rfl) po_none (po_some pe_int))) (blkOk_by (own := [("number", 4)]) (N := N_Plan_init) (sc := defScope s_Plan_init) (by decide +kernel)) (fun _ _ _ _ _ => (pg_name (i := 4) sc_Plan_init.nd rfl (Or.inl rfl))) (fun _ _ _ _ _ => pts_nil) (fun _ _ _ _ _ => (pe_call G_ready (hr.mono (by decide)) (by rfl) T.m_ready T.F_ready.kp T.b_ready .nil pass0 (pa_cons (pv 1) (pa_cons (pv 4) (pa_cons (fldK K (pv 0) rfl) pa_nil)))))) pa_nil))) rfl))))), ?_⟩
    have nop : o ≠ p := ne_of eo hp (fun q => nomatch q)
    have ngp : g ≠ p := ne_of eg hp (fun q => nomatch q)
    refine ⟨_, rfl, _, rfl, p, _, dx, _, rfl, hp, T.cl_Plan, T.n_Plan_rule, (by show 0 < 1000; decide), ?_⟩
    refine ⟨_, rfl, o, _, rfl, .inl ⟨SqL.of (by rw [upd_ne nop]; exact eo), fun o' ho' => ?_⟩⟩
    have npo : p ≠ o' := ne_of_none upd_same ho'
    have ho'H : H o' = none := by
      rw [upd_ne npo.symm] at ho'
      exact ho'
    refine ⟨_, rfl, p, _, dx, _, rfl, (by rw [upd_ne npo, upd_same]), T.cl_Plan, T.n_Plan_order, (by show 1 < 1000; decide), ?_⟩
    have x1 : SameX p H (upd (upd (upd H p (.ins A.C_Plan dx (putF "rule" (.ref ru) []))) o' (.tup (ord.map nv))) p (.ins A.C_Plan dx (putF "order" (.ref o') (putF "rule" (.ref ru) [])))) :=
      fun b u e nb => by rw [upd_ne nb, upd_ne (ne_of_none e ho'H), upd_ne nb]; exact e
    refine ⟨_, rfl, g, _, rfl, .inr ⟨SqT.of (x1 _ _ eg ngp), ?_⟩⟩
    refine ⟨_, rfl, p, _, dx, _, rfl, upd_same, T.cl_Plan, T.n_Plan_given, (by show 2 < 1000; decide), ?_⟩
    rw [upd_upd]
    generalize hH3 : upd (upd (upd H p _) o' _) p _ = H3
    have x3 : SameX p H H3 := fun b u e nb => by
      rw [← hH3, upd_ne nb, upd_ne (ne_of_none e ho'H), upd_ne nb]
      exact e
    have h3p : H3 p = some (.ins A.C_Plan dx (putF "given" (.ref g) (putF "order" (.ref o') (putF "rule" (.ref ru) [])))) := by rw [← hH3, upd_same]
    have h3o : H3 o' = some (.tup (ord.map nv)) := by rw [← hH3, upd_ne npo.symm, upd_same]
    have h20 := hw.body.1
    dsimp only [sFld, tNotV, tCB]
    refine ready_comp (A := A) (dx := dx) (ord := ord.take 1) (given := given) (r := r) h3p T.cl_Plan T.n_Plan_given (by rw [lookup_putF, if_pos rfl]) (hR.upx x3 hp) hw (x3 _ _ eg ngp) (fun j hj => hlt j (List.mem_of_mem_take hj)) (by rw [List.length_take]; omega) (fun R hR' => ?_) (fun D bs H4 s4 eD => ?_)
    · refine ⟨_, rfl, p, _, dx, _, _, rfl, h3p, T.cl_Plan, T.n_Plan_order, (by rw [lookup_putF, if_neg (by decide +kernel), lookup_putF, if_pos rfl]), _, rfl, ?_⟩
      refine slice_to (n := 1) h3o fun t H4 s4 et => hR' t H4 s4 ?_
      rw [et, List.map_take]
    · refine ⟨D, bs, rfl, SqL.of eD, _, rfl, _, rfl, p, _, dx, _, rfl, s4 _ _ h3p, T.cl_Plan, T.n_Plan_told_first, (by show 3 < 1000; decide), ?_⟩
      have npo' : o' ≠ p := npo.symm
      exact k _ o' _ upd_same (by rw [upd_ne npo']; exact s4 _ _ h3o) npo' fun b u e nb => by rw [upd_ne nb]; exact s4 _ _ (x3 _ _ e nb)
end
end Toy

set_option Elab.async false
set_option maxRecDepth 100000
set_option maxHeartbeats 4000000
namespace Toy
open PySem L2
open U (Tm Pt RR tn nms vars addN dd rows cnt kn kat wtP ptd nexts)
def firstV : Option Nat → V
  | none => .non
  | some f => nv f
def spPlan (A : Ad) : Sp := fun vs H Q E => ∃ (ru z g : Addr) (r : RR) (sz : Str → Int) (given : List Str) (fo : Option Nat), vs = [.ref ru, .ref z, firstV fo, .ref g] ∧ RuleAt A H ru r ∧ Wf r ∧ SzAt H z sz ∧ H g = some (.tup (given.map V.str)) ∧ given.length ≤ 20 ∧ (∀ f, fo = some f → f < r.body.length ∧ (ptd r f).kind = "pos") ∧
  (U.plN r given sz (r.body.length - fo.toList.length) fo.toList = none → ∀ H', Same H H' → E (.ref A.C_BadRule) none H') ∧
  ∀ ord, U.plN r given sz (r.body.length - fo.toList.length) fo.toList = some ord → ∀ p H', Same H H' → H p = none → PlanAt A H' p ru ord given fo.isSome → Q (.ref p) H'
def PlW (H : Hp) (ru z g o tk : Addr) (r : RR) (sz : Str → Int) (given : List Str) (fo : Option Nat) (m : Nat) (σ : St) (H3 : Hp) : Prop := ∃ x ord cs, σ = [some (.ref ru), some (.ref z), some (firstV fo), some (.ref g), some (.ref o), some (.ref tk), x, none] ∧ Same H H3 ∧ H3 o = some (.lst (ord.map nv)) ∧ H3 tk = some (.lst (cs.map V.ref)) ∧ All2 (fun b row => H3 b = some (.tup (row.map V.str))) cs (ord.map fun j => U.gv (ptd r j)) ∧ ord.length + m = r.body.length ∧ (∀ j ∈ ord, j < r.body.length) ∧ U.plN r given sz m ord = U.plN r given sz (r.body.length - fo.toList.length) fo.toList
theorem pos_gv {q : Pt} (h : q.kind = "pos") : U.gv q = nms q.ts := if_pos h
section
variable {P : Program} {w : World} {K : PySem.W.Frag} {mg : Str → Option Value} {base : Heap} {A : Ad}
theorem ok_plan (T : Txt K mg A) : FnOk P w K mg base (L2.CX P w) 7 A.f_plan A.d_plan ["rule", "sizes", "first", "given"] (spPlan A) := by
  have G_binds : FnOk P w K mg base CX0 4 A.f_binds A.d_binds ["rule", "number"] (spBinds A) := ok_binds T
  have G_gives : FnOk P w K mg base CX0 3 A.f_gives A.d_gives ["rule", "number"] (spGives A) := ok_gives T
  have G_bound_by : FnOk P w K mg base CX0 1 A.f_bound_by A.d_bound_by ["given", "taken"] spBoundBy := ok_bound_by T
  have G_lightest : FnOk P w K mg base (L2.CX P w) 6 A.f_lightest A.d_lightest ["rule", "order", "bound", "sizes"] (spLight A) := ok_lightest T
  have G_Plan_init : FnOk P w K mg base CX0 5 A.f_Plan_init A.d_Plan_init ["self", "rule", "order", "given"] (spPlanInit A) := ok_plan_init T
  refine T.F_plan.ok sc_plan (fun vs H Q E h => ?_) (fun cdv ar outer s H vs Q E hr h => ?_)
  · obtain ⟨ru, z, g, r, sz, given, fo, rfl, _⟩ := h
    rfl
  · obtain ⟨ru, z, g, r, sz, given, fo, rfl, hR, hw, hZ, eg, hg20, hfo, kE, kQ⟩ := h
    obtain ⟨dx, pt, pb, ps, sv, bs, e, f, gb, hb, hs, hc⟩ := id hR
    have h20 := hw.body.1
    have hfl : fo.toList.length ≤ 1 := by cases fo <;> simp
    have hflt : ∀ j ∈ fo.toList, j < r.body.length := fun j hj => by
      cases fo with
      | none => cases hj
      | some f => rw [List.mem_singleton.mp hj]; exact (hfo f rfl).1
    have hfle : fo.toList.length ≤ r.body.length := by
      cases fo with
      | none => exact Nat.zero_le _
      | some f => have := (hfo f rfl).1; show 1 ≤ _; omega
    refine ⟨_, (C8.pss_cut (ps_set (i := 4) sc_plan.nd rfl (Or.inl rfl) (pe_ifExp (pt_cmpR op_isN (pv 2) pe_non (nomark _)) (pe_lst pa_nil) (pe_lst (pa_cons (pv 2) pa_nil))))
      (C8.pss_cut (ps_setLc (i := 5) (own := [("number", 6)]) (by rfl) sc_plan.nd rfl rfl (sw_true rfl rfl rfl (by decide +kernel)) (listK K (pv 4)) (blkOk_by (own := [("number", 6)]) (N := N_plan) (sc := defScope s_plan) (by decide +kernel)) (fun _ _ _ _ _ => (pg_name (i := 6) sc_plan.nd rfl (Or.inl rfl))) (fun _ _ _ _ _ => pts_nil) (fun _ _ _ _ _ => (pe_call G_binds (hr.mono (by decide)) (by rfl) T.m_binds T.F_binds.kp T.b_binds .nil pass0 (pa_cons (pv 0) (pa_cons (pv 6) pa_nil)))))
      (C8.pss_cut (ps_while (passes_of rfl) (pt_cmpR op_lt (pe_callB (lenK K) (by rfl) T.z_len (by decide +kernel) (pa_cons (pv 4) pa_nil)) (pe_callB (lenK K) (by rfl) T.z_len (by decide +kernel) (pa_cons (fldK K (pv 0) rfl) pa_nil)) (nomark _))
        (C8.pss_cut (ps_set (i := 6) sc_plan.nd rfl (Or.inl rfl) (pe_call G_lightest (hr.mono (by decide)) (by rfl) T.m_lightest T.F_lightest.kp T.b_lightest .nil (passes_call (takes_of rfl rfl rfl rfl) (fun _ _ _ _ h => h)) (pa_cons (pv 0) (pa_cons (pv 4) (pa_cons (pe_call G_bound_by (hr.mono (by decide)) (by rfl) T.m_bound_by T.F_bound_by.kp T.b_bound_by .nil pass0 (pa_cons (pv 3) (pa_cons (pv 5) pa_nil))) (pa_cons (pv 1) pa_nil))))))
        (C8.pss_cut (ps_expr (appK K (pv 4) (pa_cons (pv 6) pa_nil)))
        (pss_one (ps_expr (appK K (pv 5) (pa_cons (pe_call G_gives (hr.mono (by decide)) (by rfl) T.m_gives T.F_gives.kp T.b_gives .nil pass0 (pa_cons (pv 0) (pa_cons (pv 6) pa_nil))) pa_nil)))))))
      (C8.pss_cut (ps_set (i := 7) sc_plan.nd rfl (Or.inl rfl) (pe_make T.M_Plan G_Plan_init (hr.mono (by decide)) (by rfl) T.m_Plan T.b_Plan_init .nil pass0 (pa_cons (pv 0) (pa_cons (pv 4) (pa_cons (pv 3) pa_nil)))))
      (C8.pss_cut (sfldK K (pv 7) (pe_cmpR op_notN (pv 2) pe_non (nomark _)) rfl)
      (pss_one (ps_ret (pv 7)))))))), ?_⟩
    refine ⟨fun σ H1 => ∃ o, σ = [some (.ref ru), some (.ref z), some (firstV fo), some (.ref g), some (.ref o), none, none, none] ∧ Same H H1 ∧ H o = none ∧ H1 o = some (.lst (fo.toList.map nv)), ?_, ?_⟩
    · cases fo with
      | none => exact ⟨_, rfl, rfl, _, rfl, iteT ⟨Nat.zero_le _, fun m hm => ⟨m, rfl, same_new hm, hm, upd_same⟩⟩⟩
      | some f => exact ⟨_, rfl, rfl, _, rfl, iteF ⟨_, rfl, (by show 1 ≤ sizeLine; decide), fun m hm => ⟨m, rfl, same_new hm, hm, upd_same⟩⟩⟩
    rintro σ H1 ⟨o, rfl, s1, hoN, eo⟩
    refine ⟨fun σ H2 => ∃ tk cs, σ = [some (.ref ru), some (.ref z), some (firstV fo), some (.ref g), some (.ref o), some (.ref tk), none, none] ∧ Same H H2 ∧ H tk = none ∧ H2 o = some (.lst (fo.toList.map nv)) ∧ H2 tk = some (.lst (cs.map V.ref)) ∧ o ≠ tk ∧ All2 (fun b row => H2 b = some (.tup (row.map V.str))) cs (fo.toList.map fun j => U.gv (ptd r j)), ?_, ?_⟩
    · refine ⟨_, rfl, o, rfl, ⟨_, SqL.of eo⟩, fun D hD => ?_⟩
      have st : Stab D fun H y (row : List Str) => ∃ a, y = .ref a ∧ H a = some (.tup (row.map V.str)) := ⟨fun ⟨a, e, h⟩ s => ⟨a, e, s _ _ h⟩, fun hl ⟨a, e, h⟩ => ⟨a, e, by rw [upd_ne (ne_of h hl (fun q => nomatch q))]; exact h⟩⟩
      refine lc_list (K := K) (a := o) (xs := fo.toList.map nv) (LcI (fun H y (row : List Str) => ∃ a, y = .ref a ∧ H a = some (.tup (row.map V.str))) (fun _ => true) (fo.toList.map fun j => U.gv (ptd r j)) H1 D) (LcI.start hD) (fun i H' _ h => SqL.of (h.1 _ _ eo)) ?_ ?_
      · rintro i x H' hx h
        rw [List.getElem?_map] at hx
        obtain ⟨j, hj, rfl⟩ := Option.map_eq_some_iff.mp hx
        have hjm := List.mem_of_getElem? hj
        have hjl := hflt j hjm
        have hk : (ptd r j).kind = "pos" := by
          cases fo with
          | none => cases hjm
          | some f => rw [List.mem_singleton.mp hjm]; exact (hfo f rfl).2
        have s3 := s1.trans h.1
        refine ⟨rfl, _, rfl, _, rfl, ru, j, r, _, rfl, hR.up s3, hw, ptd_get hjl, hk, fun t H2 s2 et => ?_⟩
        exact h.yes st hD (by rw [List.length_map]; omega) (by rw [List.getElem?_map, hj]; rfl) rfl s2 ⟨t, rfl, et⟩
      · intro H' h
        obtain ⟨ys, s2, eD, hv⟩ := h.fin (by rw [List.length_map, List.length_map]; exact Nat.le_refl _)
        obtain ⟨cs, rfl, hcs⟩ := hv.refs
        rw [filter_tt] at hcs
        exact ⟨D, cs, rfl, s1.trans s2, s1.free hD, s2 _ _ eo, eD, ne_of_none eo hD, hcs⟩
    rintro σ H2 ⟨tk, cs, rfl, s2, htN, eo2, et2, not, hcs2⟩
    refine ⟨fun σ H3 => ∃ x ord, σ = [some (.ref ru), some (.ref z), some (firstV fo), some (.ref g), some (.ref o), some (.ref tk), x, none] ∧ Same H H3 ∧ H3 o = some (.lst (ord.map nv)) ∧ U.plN r given sz (r.body.length - fo.toList.length) fo.toList = some ord ∧ (∀ j ∈ ord, j < r.body.length), ?_, ?_⟩
    · refine ⟨PlW H ru z g o tk r sz given fo, ⟨_, none, fo.toList, cs, rfl, s2, eo2, et2, hcs2, (by omega), hflt, rfl⟩, ?_⟩
      rintro m σ H3 ⟨x, ord, cs3, rfl, s3, eo3, et3, hcs3, hm, hlt, hpl⟩
      refine ⟨_, rfl, o, _, rfl, .inl (SqL.of eo3), _, rfl, ru, _, dx, _, _, rfl, s3 _ _ e, T.cl_Rule, T.n_Rule_body, rf_body _ _ _ _ _, pb, _, rfl, .inr (SqT.of (s3 _ _ gb)), ?_⟩
      have ebl : (bs.map V.ref).length = r.body.length := by rw [List.length_map, hb.1]
      have eol : (ord.map nv).length = ord.length := List.length_map _
      rw [ebl, eol]
      refine ⟨_, _, rfl, rfl, _, rfl, ?_⟩
      refine iteD (fun h1 => ?c1) (fun h1 => ?c2)
      case c2 =>
        have h2 : m = 0 := by omega
        subst h2
        exact ⟨x, ord, rfl, s3, eo3, hpl.symm, hlt⟩
      case c1 =>
        obtain ⟨m, rfl⟩ : ∃ m', m = m' + 1 := ⟨m - 1, by omega⟩
        refine ⟨fun σ' H' => ∃ m', m' < m + 1 ∧ PlW H ru z g o tk r sz given fo m' σ' H', fun _ _ h => h, ?_⟩
        refine ⟨fun σ H4 => ∃ j, σ = [some (.ref ru), some (.ref z), some (firstV fo), some (.ref g), some (.ref o), some (.ref tk), some (nv j), none] ∧ Same H3 H4 ∧ U.lightN r given sz ord = some j, ?_, ?_⟩
        · refine ⟨_, rfl, _, rfl, _, rfl, _, rfl, g, tk, given, cs3, _, rfl, s3 _ _ eg, et3, hcs3, (by rw [List.length_map]; omega), hg20, gives_list hw hlt, fun d H4 s4 ed => ?_⟩
          have s4' := s3.trans s4
          refine ⟨_, rfl, ru, o, d, z, r, ord, U.bnd r given ord, sz, rfl, hR.up s4', hw, .inl (s4 _ _ eo3), bound_fold ed, hZ.up s4', fun hn H5 s5 => ?_, fun j js hj H5 s5 => ?_⟩
          · refine kE ?_ H5 (s4'.trans s5)
            rw [← hpl]
            unfold U.plN U.lightN
            rw [hn]
          · exact ⟨_, rfl, s4.trans s5, by unfold U.lightN; rw [hj]⟩
        rintro σ H4 ⟨j, rfl, s4, hj⟩
        obtain ⟨hj1, hj2, hj3⟩ := U.light_mem hj
        have eo4 := s4 _ _ eo3
        have et4 := s4 _ _ et3
        have s34 := s3.trans s4
        refine ⟨fun σ H5 => σ = [some (.ref ru), some (.ref z), some (firstV fo), some (.ref g), some (.ref o), some (.ref tk), some (nv j), none] ∧ H5 = upd H4 o (.lst ((ord ++ [j]).map nv)), ?_, ?_⟩
        · refine ⟨_, rfl, .inl ⟨rfl, _, SqL.of eo4⟩, _, rfl, o, _, _, rfl, rfl, eo4, ?_, rfl, ?_⟩
          · rw [List.length_map]
            have h5 : (5000 : Nat) ≤ sizeLine := by decide
            omega
          · rw [List.map_append]
            rfl
        rintro σ H5 ⟨rfl, rfl⟩
        have s5 : Same H (upd H4 o (.lst ((ord ++ [j]).map nv))) := same_mut s34 hoN
        have et5 : upd H4 o (.lst ((ord ++ [j]).map nv)) tk = some (.lst (cs3.map V.ref)) := by rw [upd_ne not.symm]; exact et4
        refine ⟨_, rfl, (.inl ⟨rfl, _, SqL.of et5⟩), _, rfl, _, rfl, ru, j, r, _, rfl, hR.up s5, hw, ptd_get hj1, fun t H6 s6 et => ?_⟩
        have et6 := s6 _ _ et5
        refine ⟨tk, _, _, rfl, rfl, et6, ?_, ?_⟩
        · rw [List.length_map, hcs3.1, List.length_map]
          have h5 : (5000 : Nat) ≤ sizeLine := by decide
          omega
        refine ⟨m, by omega, _, ord ++ [j], cs3 ++ [t], rfl, same_mut (s5.trans s6) htN, ?_, ?_, ?_, ?_, ?_, ?_⟩
        · rw [upd_ne not]
          exact s6 _ _ upd_same
        · rw [upd_same, List.map_append]
          rfl
        · rw [List.map_append]
          refine All2.snoc ?_ ?_
          · refine hcs3.imp fun b row hb3 => ?_
            have nb : b ≠ o := ne_of (s4 _ _ hb3) eo4 (fun q => nomatch q)
            have h6 := s6 b _ (by rw [upd_ne nb]; exact s4 _ _ hb3)
            rw [upd_ne (ne_of h6 et6 (fun q => nomatch q))]
            exact h6
          · rw [upd_ne (ne_of et et6 (fun q => nomatch q))]
            exact et
        · rw [List.length_append]
          simp
          omega
        · intro k hk
          rcases List.mem_append.mp hk with hk | hk
          · exact hlt k hk
          · rw [List.mem_singleton.mp hk]
            exact hj1
        · rw [← hpl]
          conv => rhs; unfold U.plN
          rw [hj]
    rintro σ H3 ⟨x, ord, rfl, s3, eo3, hpl, hlt⟩
    refine ⟨fun σ H4 => ∃ p dp o' tf, σ = [some (.ref ru), some (.ref z), some (firstV fo), some (.ref g), some (.ref o), some (.ref tk), x, some (.ref p)] ∧ Same H H4 ∧ H p = none ∧ H4 p = some (.ins A.C_Plan dp (plf ru o' g (.bl tf))) ∧ H4 o' = some (.tup (ord.map nv)) ∧ o' ≠ p, ?_, ?_⟩
    · refine ⟨_, rfl, _, rfl, _, rfl, fun p dp hp hdp ndp => ?_⟩
      have s4 : Same H (upd (upd H3 dp (.own p)) p (.ins A.C_Plan dp [])) := (s3.trans (same_new hdp)).trans (same_new (by rw [upd_ne ndp.symm]; exact hp))
      refine ⟨p, dp, ru, o, g, r, ord, given, rfl, upd_same, hR.up s4, hw, ?_, hlt, s4 _ _ eg, fun H' o' tf h1 h2 h3 h4 => ⟨rfl, p, dp, o', tf, rfl, ?_, s3.free hp, h1, h2, h3⟩⟩
      · have n1 : o ≠ p := ne_of_none eo3 hp
        have n2 : o ≠ dp := ne_of_none eo3 hdp
        rw [upd_ne n1, upd_ne n2]
        exact eo3
      · intro b u eb
        exact h4 _ _ (s4 _ _ eb) (ne_of_none eb (s3.free hp))
    rintro σ H4 ⟨p, dp, o', tf, rfl, s4, hpN, ep, eo', no'⟩
    refine ⟨fun σ H5 => σ = [some (.ref ru), some (.ref z), some (firstV fo), some (.ref g), some (.ref o), some (.ref tk), x, some (.ref p)] ∧ Same H H5 ∧ PlanAt A H5 p ru ord given fo.isSome, ?_, ?_⟩
    · have efo : (!decide (firstV fo = V.non)) = fo.isSome := by cases fo <;> rfl
      dsimp only [sFld]
      refine ⟨_, rfl, rfl, _, rfl, p, _, dp, _, rfl, ep, T.cl_Plan, T.n_Plan_told_first, (by show 4 < 1000; decide), rfl, same_mut s4 hpN, dp, o', g, ?_, ?_, ?_⟩
      · rw [upd_same, efo]
        rfl
      · rw [upd_ne no']
        exact eo'
      · rw [upd_ne (ne_of_none eg hpN)]
        exact s4 _ _ eg
    rintro σ H5 ⟨rfl, s5, hP⟩
    exact ⟨_, rfl, kQ ord hpl p H5 s5 hpN hP⟩
end
end Toy

set_option Elab.async false
set_option maxRecDepth 100000
set_option maxHeartbeats 4000000
namespace Toy
open PySem L2
open U (Tm Pt RR tn nms vars addN dd rows cnt kn kat wtP ptd nexts)
def PlanOk (A : Ad) (H : Hp) (p ru : Addr) (r : RR) (ord : List Nat) (given : List Str) : Prop := PlanAt A H p ru ord given false ∧ RuleAt A H ru r ∧ Wf r ∧ ord.length ≤ 20 ∧ (∀ j ∈ ord, j < r.body.length) ∧ given.length ≤ 20
theorem PlanOk.up {A : Ad} {H H' : Hp} {p ru : Addr} {r : RR} {ord : List Nat} {given : List Str} (h : PlanOk A H p ru r ord given) (s : Same H H') : PlanOk A H' p ru r ord given := ⟨h.1.up s, h.2.1.up s, h.2.2⟩
def spBoundAt (A : Ad) : Sp := fun vs H Q _ => ∃ (p ru : Addr) (n : Nat) (r : RR) (ord : List Nat) (given : List Str), vs = [.ref p, .int n] ∧ PlanOk A H p ru r ord given ∧ ∀ t H', Same H H' → H' t = some (.tup (((U.bnd r given (ord.take n)).foldl addN []).map V.str)) → Q (.ref t) H'
def spKnownPl (A : Ad) : Sp := fun vs H Q _ => ∃ (p ru : Addr) (n j : Nat) (r : RR) (ord : List Nat) (given : List Str), vs = [.ref p, .int n] ∧ PlanOk A H p ru r ord given ∧ ord[n]? = some j ∧ ∀ t H', Same H H' → H' t = some (.tup ((kat (U.bnd r given (ord.take n)) (ptd r j).ts).map nv)) → Q (.ref t) H'
def spPlShown (A : Ad) : Sp := fun vs H Q _ => ∃ (p ru : Addr) (r : RR) (ord : List Nat) (given : List Str), vs = [.ref p] ∧ PlanOk A H p ru r ord given ∧ ∀ t o S cs H', Same H H' → H' t = some (.tup [.ref o, .ref S]) → H' o = some (.tup (ord.map nv)) → H' S = some (.tup (cs.map V.ref)) → All2 (fun c n => H' c = some (.tup ((kat (U.bnd r given (ord.take n)) (ptd r (ord.getD n 0)).ts).map nv))) cs (List.range ord.length) → Q (.ref t) H'
section
variable {P : Program} {w : World} {K : PySem.W.Frag} {mg : Str → Option Value} {base : Heap} {A : Ad}
theorem ok_bound_at (T : Txt K mg A) : FnOk P w K mg base CX0 5 A.f_Plan_bound_at A.d_Plan_bound_at ["self", "step"] (spBoundAt A) := by
  have G_gives : FnOk P w K mg base CX0 3 A.f_gives A.d_gives ["rule", "number"] (spGives A) := ok_gives T
  have G_bound_by : FnOk P w K mg base CX0 1 A.f_bound_by A.d_bound_by ["given", "taken"] spBoundBy := ok_bound_by T
  refine T.F_Plan_bound_at.ok sc_Plan_bound_at (fun vs H Q E h => ?_) (fun cdv ar outer s H vs Q E hr h => ?_)
  · obtain ⟨p, ru, n, r, ord, given, rfl, _⟩ := h
    rfl
  · obtain ⟨p, ru, n, r, ord, given, rfl, ⟨hP, hR, hw, hl20, hlt, hg20⟩, k⟩ := h
    obtain ⟨dp, o, g, ep, eo, eg⟩ := id hP
    refine ⟨_, (pss_cons (ps_setLc (i := 2) (own := [("number", 3)]) (by rfl) sc_Plan_bound_at.nd rfl rfl (sw_true rfl rfl rfl (by decide +kernel)) (tupIK K (pe_slice (slAK K) (fldK K (pv 0) rfl) po_none (po_some (pv 1)))) (blkOk_by (own := [("number", 3)]) (N := N_Plan_bound_at) (sc := defScope s_Plan_bound_at) (by decide +kernel)) (fun _ _ _ _ _ => (pg_name (i := 3) sc_Plan_bound_at.nd rfl (Or.inl rfl))) (fun _ _ _ _ _ => pts_nil) (fun _ _ _ _ _ => (pe_call G_gives (hr.mono (by decide)) (by rfl) T.m_gives T.F_gives.kp T.b_gives .nil pass0 (pa_cons (fldK K (pv 0) rfl) (pa_cons (pv 3) pa_nil)))))
      (pss_cons (ps_if (PW.pt (pw_and (pt_val (fldK K (pv 0) rfl)) (pw_and1 (pt_cmpR (neD K hr.units) (pv 2) (pe_lst pa_nil) (nomark _)))))
        (pss_one ps_never)
        pss_nil)
      (pss_one (ps_ret (pe_callTy tupDK (by rfl) T.z_tuple (by decide +kernel) (pa_cons (pe_call G_bound_by (hr.mono (by decide)) (by rfl) T.m_bound_by T.F_bound_by.kp T.b_bound_by .nil pass0 (pa_cons (fldK K (pv 0) rfl) (pa_cons (pv 2) pa_nil))) pa_nil)))))), ?_⟩
    have st : ∀ D, Stab D fun H y (row : List Str) => ∃ a, y = .ref a ∧ H a = some (.tup (row.map V.str)) := fun D => ⟨fun ⟨a, e, h⟩ s => ⟨a, e, s _ _ h⟩, fun hl ⟨a, e, h⟩ => ⟨a, e, by rw [upd_ne (ne_of h hl (fun q => nomatch q))]; exact h⟩⟩
    refine ⟨_, rfl, p, _, dp, _, _, rfl, ep, T.cl_Plan, T.n_Plan_order, plf_order _ _ _ _, _, rfl, _, rfl, ?_⟩
    refine slice_to (n := n) eo fun t H1 s1 et => ⟨t, rfl, ⟨_, SqT.of et⟩, fun D hD => ?_⟩
    have hsub : ∀ j ∈ ord.take n, j < r.body.length := fun j hj => hlt j (List.mem_of_mem_take hj)
    have hlen : (ord.take n).length ≤ 20 := by rw [List.length_take]; omega
    rw [← List.map_take] at et
    refine lc_tup (K := K) (a := t) (xs := (ord.take n).map nv) (LcI (fun H y (row : List Str) => ∃ a, y = .ref a ∧ H a = some (.tup (row.map V.str))) (fun _ => true) ((ord.take n).map fun j => U.gv (ptd r j)) H1 D) (LcI.start hD) (fun i H' _ h => SqT.of (h.1 _ _ et)) ?_ ?_
    · rintro i x H' hx h
      rw [List.getElem?_map] at hx
      obtain ⟨j, hj, rfl⟩ := Option.map_eq_some_iff.mp hx
      have hjl := hsub j (List.mem_of_getElem? hj)
      have s2 := s1.trans h.1
      refine ⟨rfl, _, rfl, p, _, dp, _, _, rfl, s2 _ _ ep, T.cl_Plan, T.n_Plan_rule, plf_rule _ _ _ _, _, rfl, ru, j, r, _, rfl, hR.up s2, hw, ptd_get hjl, fun t2 H2 s3 et2 => ?_⟩
      exact h.yes (st D) hD (by rw [List.length_map]; omega) (by rw [List.getElem?_map, hj]; rfl) rfl s3 ⟨t2, rfl, et2⟩
    · intro H2 h
      obtain ⟨ys, s2, eD, hv⟩ := h.fin (by rw [List.length_map, List.length_map]; exact Nat.le_refl _)
      obtain ⟨cs, rfl, hc⟩ := hv.refs
      rw [filter_tt] at hc
      have s12 := s1.trans s2
      refine ⟨_, rfl, p, _, dp, _, _, rfl, s12 _ _ ep, T.cl_Plan, T.n_Plan_told_first, plf_tf _ _ _ _, _, rfl, iteF (iteF ?_)⟩
      refine ⟨_, rfl, p, _, dp, _, _, rfl, s12 _ _ ep, T.cl_Plan, T.n_Plan_given, plf_given _ _ _ _, _, rfl, g, D, given, cs, _, rfl, s12 _ _ eg, eD, hc, by rw [List.length_map]; exact hlen, hg20, gives_list hw hsub, fun d H3 s3 ed => ⟨d, _, rfl, ed, fun q hq => k q _ ((s12.trans s3).trans (same_new hq)) ?_⟩⟩
      rw [upd_same, keys_bl]
      rfl
theorem ok_known_pl (T : Txt K mg A) : FnOk P w K mg base CX0 6 A.f_Plan_known_places A.d_Plan_known_places ["self", "step"] (spKnownPl A) := by
  have G_known_at : FnOk P w K mg base CX0 3 A.f_known_at A.d_known_at ["rule", "number", "bound"] (spKnownAt A) := ok_known_at T
  have G_Plan_bound_at : FnOk P w K mg base CX0 5 A.f_Plan_bound_at A.d_Plan_bound_at ["self", "step"] (spBoundAt A) := ok_bound_at T
  refine T.F_Plan_known_places.ok sc_Plan_known_places (fun vs H Q E h => ?_) (fun cdv ar outer s H vs Q E hr h => ?_)
  · obtain ⟨p, ru, n, j, r, ord, given, rfl, _⟩ := h
    rfl
  · obtain ⟨p, ru, n, j, r, ord, given, rfl, hPO, hj, k⟩ := h
    obtain ⟨hP, hR, hw, hl20, hlt, hg20⟩ := id hPO
    obtain ⟨dp, o, g, ep, eo, eg⟩ := id hP
    refine ⟨_, (pss_one (ps_ret (pe_call G_known_at (hr.mono (by decide)) (by rfl) T.m_known_at T.F_known_at.kp T.b_known_at .nil pass0 (pa_cons (fldK K (pv 0) rfl) (pa_cons (pe_ix (ixT K) (fldK K (pv 0) rfl) (pv 1) (fun _ _ => rfl)) (pa_cons (pe_meth (pv 0) T.cl_Plan T.e_Plan_bound_at G_Plan_bound_at (hr.mono (by decide)) T.b_Plan_bound_at .nil pass0 (pa_cons (pv 1) pa_nil)) pa_nil)))))), ?_⟩
    refine ⟨_, rfl, p, _, dp, _, _, rfl, ep, T.cl_Plan, T.n_Plan_rule, plf_rule _ _ _ _, _, rfl, p, _, dp, _, _, rfl, ep, T.cl_Plan, T.n_Plan_order, plf_order _ _ _ _, _, rfl, o, _, _, _, rfl, rfl, SqT.of eo, atI_nat (by rw [List.getElem?_map, hj]; rfl), ?_⟩
    refine ⟨_, rfl, p, dp, _, rfl, ep, plf_no _ _ _ _ (by decide +kernel) (by decide +kernel) (by decide +kernel) (by decide +kernel), _, rfl, p, ru, n, r, ord, given, rfl, hPO, fun t H1 s1 et => ?_⟩
    refine ⟨ru, t, j, r, _, _, rfl, hR.up s1, hw, ptd_get (hlt j (List.mem_of_getElem? hj)), .inr (.inr et), fun t2 H2 s2 et2 => k t2 H2 (s1.trans s2) ?_⟩
    rw [et2, U.kat_congr (fold_addN_mem _)]
theorem ok_pl_shown (T : Txt K mg A) : FnOk P w K mg base CX0 7 A.f_Plan_shown A.d_Plan_shown ["self"] (spPlShown A) := by
  have G_Plan_known_places : FnOk P w K mg base CX0 6 A.f_Plan_known_places A.d_Plan_known_places ["self", "step"] (spKnownPl A) := ok_known_pl T
  refine T.F_Plan_shown.ok sc_Plan_shown (fun vs H Q E h => ?_) (fun cdv ar outer s H vs Q E hr h => ?_)
  · obtain ⟨p, ru, r, ord, given, rfl, _⟩ := h
    rfl
  · obtain ⟨p, ru, r, ord, given, rfl, hPO, k⟩ := h
    obtain ⟨hP, hR, hw, hl20, hlt, hg20⟩ := id hPO
    obtain ⟨dp, o, g, ep, eo, eg⟩ := id hP
    refine ⟨_, (pss_one (ps_ret (pe_tup (pa_cons (fldK K (pv 0) rfl) (pa_cons (pe_callTy (tupOf K) (by rfl) T.z_tuple (by decide +kernel) (pa_cons (pe_lc (own := [("step", 1)]) (by rfl) sc_Plan_shown.nd (pi_range1 (by rfl) T.z_range (pa_cons (pe_callB (lenK K) (by rfl) T.z_len (by decide +kernel) (pa_cons (fldK K (pv 0) rfl) pa_nil)) pa_nil)) (blkOk_by (own := [("step", 1)]) (N := N_Plan_shown) (sc := defScope s_Plan_shown) (by decide +kernel)) (fun _ _ _ _ _ => (pg_name (i := 1) sc_Plan_shown.nd rfl (Or.inl rfl))) (fun _ _ _ _ _ => pts_nil) (fun _ _ _ _ _ => (pe_meth (pv 0) T.cl_Plan T.e_Plan_known_places G_Plan_known_places (hr.mono (by decide)) T.b_Plan_known_places .nil pass0 (pa_cons (pv 1) pa_nil)))) pa_nil)) pa_nil))))), ?_⟩
    refine ⟨_, rfl, p, _, dp, _, _, rfl, ep, T.cl_Plan, T.n_Plan_order, plf_order _ _ _ _, _, rfl, p, _, dp, _, _, rfl, ep, T.cl_Plan, T.n_Plan_order, plf_order _ _ _ _, o, _, rfl, .inr (SqT.of eo), _, rfl, (by omega), (by rw [List.length_map]; omega), fun D hD => ?_⟩
    have en : (((ord.map nv).length : Nat) : Int).toNat = ord.length := by rw [Int.toNat_natCast, List.length_map]
    rw [en]
    have st : Stab D fun H y (n : Nat) => ∃ a, y = .ref a ∧ H a = some (.tup ((kat (U.bnd r given (ord.take n)) (ptd r (ord.getD n 0)).ts).map nv)) := ⟨fun ⟨a, e, h⟩ s => ⟨a, e, s _ _ h⟩, fun hl ⟨a, e, h⟩ => ⟨a, e, by rw [upd_ne (ne_of h hl (fun q => nomatch q))]; exact h⟩⟩
    refine lc_range (n := ord.length) (LcI (fun H y (n : Nat) => ∃ a, y = .ref a ∧ H a = some (.tup ((kat (U.bnd r given (ord.take n)) (ptd r (ord.getD n 0)).ts).map nv))) (fun _ => true) (List.range ord.length) H D) (LcI.start hD) ?_ ?_
    · rintro i H1 hi h
      have hri : (List.range ord.length)[i]? = some i := by rw [List.getElem?_range hi]
      have ei : (0 : Int) + (i : Nat) = ((i : Nat) : Int) := by omega
      rw [ei]
      refine ⟨rfl, _, rfl, p, dp, _, rfl, h.1 _ _ ep, plf_no _ _ _ _ (by decide +kernel) (by decide +kernel) (by decide +kernel) (by decide +kernel), _, rfl, p, ru, i, ord.getD i 0, r, ord, given, rfl, hPO.up h.1, (by rw [List.getD_eq_getElem?_getD, List.getElem?_eq_getElem hi]; rfl), fun t H2 s2 et => ?_⟩
      exact h.yes st hD (by rw [List.length_range]; omega) hri rfl s2 ⟨t, rfl, et⟩
    · intro H1 h
      obtain ⟨ys, s1, eD, hv⟩ := h.fin (by rw [List.length_range]; exact Nat.le_refl _)
      obtain ⟨cs, rfl, hc⟩ := hv.refs
      rw [filter_tt] at hc
      refine ⟨D, _, rfl, .inl ⟨SqL.of eD, fun S hS => ⟨(by show 2 ≤ sizeLine; decide), fun t ht => ?_⟩⟩⟩
      have s2 := s1.trans (same_new hS (o := .tup (cs.map V.ref)))
      refine k t o S cs _ (s2.trans (same_new ht)) upd_same (same_new ht _ _ (s2 _ _ eo)) (same_new ht _ _ upd_same) (hc.imp fun c n h => same_new ht _ _ (same_new hS _ _ h))
end
end Toy

set_option Elab.async false
set_option maxRecDepth 100000
set_option maxHeartbeats 4000000
/-! ### rows of numbers in order -/
namespace U
theorem asc_len : ∀ (l : List Int) (a b : Int), l.Pairwise (· < ·) → (∀ x ∈ l, a ≤ x ∧ x < b) → a ≤ b → (l.length : Int) ≤ b - a
  | [], a, b, _, _, h => by simp; omega
  | x :: l, a, b, hp, hx, _ => by
    have h1 := hx x List.mem_cons_self
    have h2 := List.pairwise_cons.mp hp
    have ih := asc_len l (x + 1) b h2.2 (fun y hy => ⟨by have := h2.1 y hy; omega, (hx y (List.mem_cons_of_mem _ hy)).2⟩) (by omega)
    simp only [List.length_cons]
    omega
theorem asc_eq : ∀ (l : List Int) (a : Int), l.Pairwise (· < ·) → (∀ x ∈ l, a ≤ x ∧ x < a + l.length) → l = (List.range l.length).map fun i => a + ((i : Nat) : Int)
  | [], a, _, _ => rfl
  | x :: l, a, hp, hx => by
    have h1 := hx x List.mem_cons_self
    have h2 := List.pairwise_cons.mp hp
    have hl : ((x :: l).length : Int) = (l.length : Int) + 1 := by simp
    rw [hl] at h1
    have hb := asc_len l (x + 1) (a + ((l.length : Int) + 1)) h2.2 (fun y hy => ⟨by have := h2.1 y hy; omega, by have := (hx y (List.mem_cons_of_mem _ hy)).2; rw [hl] at this; exact this⟩) (by omega)
    have ex : x = a := by omega
    have ih := asc_eq l (a + 1) h2.2 (fun y hy => ⟨by have := h2.1 y hy; omega, by have := (hx y (List.mem_cons_of_mem _ hy)).2; rw [hl] at this; omega⟩)
    rw [List.length_cons, List.range_succ_eq_map, List.map_cons, List.map_map, ex]
    congr 1
    · simp
    · conv => lhs; rw [ih]
      apply List.map_congr_left
      intro i _
      simp only [Function.comp]
      omega
/-- each part once, put in order -/
theorem sort_all {ord : List Nat} {n : Nat} (h1 : ord.Nodup) (h2 : ∀ j ∈ ord, j < n) (h3 : ord.length = n) {ys : List Int} (hp : ys.Perm (ord.map fun j => ((j : Nat) : Int))) (hs : ys.Pairwise (· ≤ ·)) : ys = (List.range n).map fun i => ((i : Nat) : Int) := by
  have hlen : ys.length = n := by rw [hp.length_eq, List.length_map, h3]
  have hnd : ys.Nodup := by
    rw [hp.nodup_iff]
    exact List.Pairwise.map (fun j => ((j : Nat) : Int)) (fun a b hab e => hab (by omega)) h1
  have hlt : ys.Pairwise (· < ·) := (hs.and hnd).imp fun ⟨h, h'⟩ => by
    have h'' : ¬ _ = _ := h'
    omega
  have e := asc_eq ys 0 hlt fun x hx => by
    obtain ⟨j, hj, rfl⟩ := List.mem_map.mp (hp.mem_iff.mp hx)
    have := h2 j hj
    rw [hlen]
    omega
  rw [e, hlen]
  apply List.map_congr_left
  intro i _
  omega
end U
namespace Toy
open PySem L2
open U (Tm Pt RR tn nms vars addN dd rows cnt kn kat wtP ptd nexts)
theorem dp_ints {K : PySem.W.Frag} {H : Hp} : ∀ (l : List Int), DpAll K H (l.map V.int) (l.map PyData.int)
  | [] => .nil
  | i :: l => .cons (.int i) (dp_ints l)
theorem lay_map {α : Type} {f : α → PyData} : ∀ {l : List α}, (∀ x ∈ l, (f x).canLay0 = true) → PyData.canLayAll0 (l.map f) = true
  | [], _ => rfl
  | x :: l, h => by
    show (PyData.canLay0 (f x) && PyData.canLayAll0 (l.map f)) = true
    rw [h x List.mem_cons_self, lay_map fun y hy => h y (List.mem_cons_of_mem _ hy)]
    rfl
theorem depth_map {α : Type} {f : α → PyData} {n : Nat} : ∀ {l : List α}, (∀ x ∈ l, (f x).depth ≤ n) → PyData.depthAll (l.map f) ≤ n
  | [], _ => by simp [PyData.depthAll]
  | x :: l, h => by
    rw [List.map_cons, PyData.depthAll]
    exact Nat.max_le.mpr ⟨h x List.mem_cons_self, depth_map fun y hy => h y (List.mem_cons_of_mem _ hy)⟩
theorem shp_list {α : Type} {f : α → PyData} {l : List α} (h : ∀ x ∈ l, (f x).canLay0 = true ∧ (f x).depth ≤ 9) : SeqAt.shaped (.list (l.map f)) = true := by
  have h1 : PyData.canLayAll0 (l.map f) = true := lay_map fun x hx => (h x hx).1
  have h2 := depth_map (f := f) (n := 9) (l := l) fun x hx => (h x hx).2
  show (PyData.canLay0 (.list (l.map f)) && decide (PyData.depth (.list (l.map f)) ≤ 64)) = true
  rw [Bool.and_eq_true]
  exact ⟨by simp only [PyData.canLay0]; exact h1, decide_eq_true (by simp only [PyData.depth]; omega)⟩
theorem shp_tup {α : Type} {f : α → PyData} {l : List α} (h : ∀ x ∈ l, (f x).canLay0 = true ∧ (f x).depth ≤ 9) : SeqAt.shaped (.tuple (l.map f)) = true := by
  have h1 : PyData.canLayAll0 (l.map f) = true := lay_map fun x hx => (h x hx).1
  have h2 := depth_map (f := f) (n := 9) (l := l) fun x hx => (h x hx).2
  show (PyData.canLay0 (.tuple (l.map f)) && decide (PyData.depth (.tuple (l.map f)) ≤ 64)) = true
  rw [Bool.and_eq_true]
  exact ⟨by simp only [PyData.canLay0]; exact h1, decide_eq_true (by simp only [PyData.depth]; omega)⟩
theorem int_lay (i : Int) : (PyData.int i).canLay0 = true ∧ (PyData.int i).depth ≤ 9 := ⟨rfl, by simp [PyData.depth]⟩
/-- what equals what, for data made of things -/
theorem eqvAll_map {α : Type} [DecidableEq α] {f : α → PyData} (h : ∀ x y, PyData.eqv (f x) (f y) = decide (x = y)) : ∀ xs ys : List α, PyData.eqvAll (xs.map f) (ys.map f) = decide (xs = ys)
  | [], [] => rfl
  | [], _ :: _ => rfl
  | _ :: _, [] => rfl
  | x :: xs, y :: ys => by
    simp only [List.map_cons, PyData.eqvAll, eqvAll_map h xs ys, h]
    by_cases h1 : x = y <;> by_cases h2 : xs = ys <;> simp [h1, h2]
theorem eqv_lst {α : Type} [DecidableEq α] {f : α → PyData} (h : ∀ x y, PyData.eqv (f x) (f y) = decide (x = y)) (xs ys : List α) : PyData.eqv (.list (xs.map f)) (.list (ys.map f)) = decide (xs = ys) := by
  simp only [PyData.eqv]
  exact eqvAll_map h xs ys
theorem eqv_tup {α : Type} [DecidableEq α] {f : α → PyData} (h : ∀ x y, PyData.eqv (f x) (f y) = decide (x = y)) (xs ys : List α) : PyData.eqv (.tuple (xs.map f)) (.tuple (ys.map f)) = decide (xs = ys) := by
  simp only [PyData.eqv]
  exact eqvAll_map h xs ys
theorem eqv_int (x y : Int) : PyData.eqv (.int x) (.int y) = decide (x = y) := by
  rw [Bool.eq_iff_iff]
  simp [PyData.eqv]
theorem rg_ints (n : Nat) : rgV 0 ((n : Nat) : Int) = ((List.range n).map fun i => ((i : Nat) : Int)).map V.int := by
  unfold rgV
  rw [List.map_map]
  have e : (((n : Nat) : Int) - 0).toNat = n := by omega
  rw [e]
  apply List.map_congr_left
  intro i _
  simp
theorem nv_ints (l : List Nat) : l.map nv = (l.map fun j => ((j : Nat) : Int)).map V.int := by
  rw [List.map_map]
  rfl
theorem for_enumT {K : PySem.W.Frag} {a : Addr} {xs : List V} {g : TG} {tb : TS} {D : Ends} {σ : L2.St} {H : Hp} (Pv : Nat → L2.St → Hp → Prop) (h0 : Pv 0 σ H) (hl : ∀ i σ H, i ≤ xs.length → Pv i σ H → SqT K H a xs)
    (hs : ∀ i x T σ H, xs[i]? = some x → Pv i σ H → H T = none → g (.ref T) σ (upd H T (.tup [.int (i : Nat), x])) fun σ2 H2 => tb { D with nx := Pv (i + 1), ct := Pv (i + 1), bk := D.nx } σ2 H2) (hd : ∀ σ H, Pv xs.length σ H → D.nx σ H) :
    ∃ W : Nat → Nat → L2.St → Hp → Prop, (∃ m, W 0 m σ H) ∧ ∀ i m σ H, W i m σ H →
      ((IteT K a).stop i H ∧ D.nx σ H) ∨ ((IteT K a).go i H ∧ ∃ N : L2.St → Hp → Prop, (∀ σ' H', N σ' H' → ∃ m', m' < m ∧ W (i + 1) m' σ' H') ∧ ∀ x H', (IteT K a).yld i H x H' → g x σ H' fun σ2 H2 => tb { D with nx := N, ct := N, bk := D.nx } σ2 H2) := by
  refine ⟨fun i m σ H => m = xs.length - i ∧ i ≤ xs.length ∧ Pv i σ H, ⟨xs.length, by simp, Nat.zero_le _, h0⟩, ?_⟩
  rintro i m σ H ⟨rfl, hi, p⟩
  have q := hl i σ H hi p
  by_cases hlt : i < xs.length
  · refine .inr ⟨⟨xs, xs[i], q, by simp [hlt]⟩, Pv (i + 1), fun σ' H' p' => ⟨xs.length - (i + 1), by omega, rfl, hlt, p'⟩, fun x H' y => ?_⟩
    obtain ⟨T, x', rfl, hT, rfl, f⟩ := y
    exact hs i x' T σ _ (f xs q) p hT
  · have e : i = xs.length := by omega
    subst e
    exact .inl ⟨⟨xs, q, Nat.le_refl _⟩, hd σ H p⟩
def spIsPlan (A : Ad) : Sp := fun vs H Q _ => ∃ (ru o g : Addr) (r : RR) (ord : List Nat) (given : List Str), vs = [.ref ru, .ref o, .ref g] ∧ RuleAt A H ru r ∧ Wf r ∧ H o = some (.tup (ord.map nv)) ∧ H g = some (.tup (given.map V.str)) ∧ given.length ≤ 20 ∧ ord.length ≤ 30 ∧
  ((U.Good r given ord ∧ ord.length = r.body.length ∧ ∀ H', Same H H' → Q (.bl true) H') ∨ (ord.length ≠ r.body.length ∧ ∀ H', Same H H' → Q (.bl false) H'))
section
variable {P : Program} {w : World} {K : PySem.W.Frag} {mg : Str → Option Value} {base : Heap} {A : Ad}
theorem ok_is_plan (T : Txt K mg A) : FnOk P w K mg base CX0 5 A.f_is_plan A.d_is_plan ["rule", "order", "given"] (spIsPlan A) := by
  have G_ready : FnOk P w K mg base CX0 4 A.f_ready A.d_ready ["rule", "number", "bound"] (spReady A) := ok_ready T
  have G_bound_behind : FnOk P w K mg base CX0 4 A.f_bound_behind A.d_bound_behind ["rule", "order", "given"] (spBehind A) := ok_behind T
  refine T.F_is_plan.ok sc_is_plan (fun vs H Q E h => ?_) (fun cdv ar outer s H vs Q E hr h => ?_)
  · obtain ⟨ru, o, g, r, ord, given, rfl, _⟩ := h
    rfl
  · obtain ⟨ru, o, g, r, ord, given, rfl, hR, hw, eo, eg, hg20, hl30, hk⟩ := h
    obtain ⟨dx, pt, pb, ps, sv, bs, e, f, gb, hb, hs, hc⟩ := id hR
    have h20 := hw.body.1
    refine ⟨_, (pss_cons (ps_if (pt_cmpR (neD K hr.units) (pe_callB (cr_sortedTI K) (by rfl) T.z_sorted (by decide +kernel) (pa_cons (pv 1) pa_nil)) (pe_listRg (by rfl) (by rfl) T.z_list (prg_1 (by rfl) T.z_range (pe_callB (lenK K) (by rfl) T.z_len (by decide +kernel) (pa_cons (fldK K (pv 0) rfl) pa_nil)))) (nomark _))
        (pss_one (ps_ret pe_bl))
        pss_nil)
      (pss_cons (ps_for (passes_of rfl) rfl (enumTK K (by rfl) T.z_enumerate (pa_cons (pv 1) pa_nil)) (tupK K (n := 2) rfl (pgs_cons (pg_name (i := 3) sc_is_plan.nd rfl (Or.inl rfl)) (pgs_cons (pg_name (i := 4) sc_is_plan.nd rfl (Or.inl rfl)) pgs_nil)))
        (pss_one (ps_if (pt_not (pt_val (pe_call G_ready (hr.mono (by decide)) (by rfl) T.m_ready T.F_ready.kp T.b_ready .nil pass0 (pa_cons (pv 0) (pa_cons (pv 4) (pa_cons (pe_call G_bound_behind (hr.mono (by decide)) (by rfl) T.m_bound_behind T.F_bound_behind.kp T.b_bound_behind .nil pass0 (pa_cons (pv 0) (pa_cons (pe_slice (slAK K) (pv 1) po_none (po_some (pv 3))) (pa_cons (pv 2) pa_nil)))) pa_nil))))))
          (pss_one (ps_ret pe_bl))
          pss_nil)))
      (pss_one (ps_ret pe_bl)))), ?_⟩
    refine ⟨_, rfl, o, ord.map fun j => ((j : Nat) : Int), rfl, SqT.of (by rw [eo, nv_ints]), (by rw [List.length_map]; omega), fun ys m hperm hsort hm => ?_⟩
    have s1 : Same H (upd H m (.lst (ys.map V.int))) := same_new hm
    refine ⟨_, rfl, ru, _, dx, _, _, rfl, s1 _ _ e, T.cl_Rule, T.n_Rule_body, rf_body _ _ _ _ _, pb, _, rfl, .inr (SqT.of (s1 _ _ gb)), _, rfl, ?_⟩
    have ebl : (bs.map V.ref).length = r.body.length := by rw [List.length_map, hb.1]
    rw [ebl]
    refine ⟨RgOk.of_le (by omega) (by omega) (by omega) (by omega), fun l hl => ?_⟩
    have s2 := s1.trans (same_new hl (o := .lst (rgV 0 ((r.body.length : Nat) : Int))))
    refine ⟨.list (ys.map PyData.int), .list (((List.range r.body.length).map fun i => ((i : Nat) : Int)).map PyData.int), .lst (SqL.of (same_new hl _ _ upd_same)) (dp_ints _), .lst (SqL.of (by rw [upd_same, rg_ints])) (dp_ints _), shp_list (fun x _ => int_lay x), shp_list (fun x _ => int_lay x), _, rfl, ?_⟩
    rw [eqv_lst eqv_int]
    rcases hk with ⟨hG, hfull, k⟩ | ⟨hno, k⟩
    · rw [decide_eq_true (U.sort_all hG.1 hG.2.1 hfull hperm hsort)]
      refine iteF ?_
      generalize upd (upd H m _) l _ = H2 at s2 ⊢
      have eo2 := s2 _ _ eo
      refine ⟨_, rfl, o, _, rfl, SqT.of eo2, ?_⟩
      refine for_enumT (K := K) (a := o) (xs := ord.map nv) (fun i σ H3 => ∃ x y, σ = [some (.ref ru), some (.ref o), some (.ref g), x, y] ∧ Same H H3) ⟨none, none, rfl, s2⟩ (fun i σ H3 _ ⟨_, _, _, s3⟩ => SqT.of (s3 _ _ eo)) ?_ ?_
      · rintro i v T0 σ H3 hv ⟨x, y, rfl, s3⟩ hT0
        rw [List.getElem?_map] at hv
        obtain ⟨j, hj, rfl⟩ := Option.map_eq_some_iff.mp hv
        have s4 : Same H (upd H3 T0 (.tup [.int (i : Nat), nv j])) := s3.trans (same_new hT0)
        have hjl := hG.2.1 j (List.mem_of_getElem? hj)
        refine ⟨T0, _, rfl, SqT.of upd_same, rfl, _, _, rfl, _, _, rfl, rfl, ?_⟩
        refine ⟨_, rfl, _, rfl, _, rfl, _, rfl, ?_⟩
        refine ⟨_, rfl, _, rfl, ?_⟩
        refine slice_to (n := i) (s4 _ _ eo) fun t H5 s5 et => ?_
        have s45 := s4.trans s5
        rw [← List.map_take] at et
        refine ⟨_, rfl, ru, t, g, r, ord.take i, given, rfl, hR.up s45, hw, et, (by rw [List.length_take]; omega), (fun j hj => hG.2.1 j (List.mem_of_mem_take hj)), s45 _ _ eg, hg20, fun d H6 s6 hB => ?_⟩
        refine ⟨ru, d, j, r, _, _, rfl, hR.up (s45.trans s6), hw, ptd_get hjl, hB, fun H7 s7 => ⟨_, rfl, ?_⟩⟩
        rw [hG.2.2 i j hj]
        exact iteF ⟨_, _, rfl, (s45.trans s6).trans s7⟩
      · rintro σ H3 ⟨x, y, rfl, s3⟩
        exact k H3 s3
    · rw [decide_eq_false (fun z => hno (by have := congrArg List.length z; rw [hperm.length_eq, List.length_map, List.length_map, List.length_range] at this; exact this))]
      exact iteT (k _ s2)
end
end Toy

set_option Elab.async false
set_option maxRecDepth 100000
set_option maxHeartbeats 4000000
/-! ### all orders that are plans -/
namespace U
open PySem L2
def longer (r : RR) (given : List Str) (o : List Nat) : List (List Nat) := (nexts r o (bnd r given o)).map fun j => o ++ [j]
def allP (r : RR) (given : List Str) : Nat → List (List Nat)
  | 0 => [[]]
  | n + 1 => ((allP r given n).map (longer r given)).flatten
theorem nexts_len (r : RR) (o : List Nat) (b : List Str) : (nexts r o b).length ≤ r.body.length := by
  unfold nexts
  refine Nat.le_trans (List.length_filter_le _ _) ?_
  rw [List.length_range]
  exact Nat.le_refl _
theorem flat_len {α : Type} {m : Nat} : ∀ (l : List (List α)), (∀ x ∈ l, x.length ≤ m) → l.flatten.length ≤ l.length * m
  | [], _ => Nat.zero_le _
  | x :: l, h => by
    rw [List.flatten_cons, List.length_append, List.length_cons, Nat.succ_mul]
    have h1 := h x List.mem_cons_self
    have h2 := flat_len l fun y hy => h y (List.mem_cons_of_mem _ hy)
    omega
theorem allP_len (r : RR) (given : List Str) : ∀ n, (allP r given n).length ≤ r.body.length ^ n
  | 0 => Nat.le_refl _
  | n + 1 => by
    refine Nat.le_trans (flat_len (m := r.body.length) _ ?_) ?_
    · intro x hx
      obtain ⟨o, _, rfl⟩ := List.mem_map.mp hx
      unfold longer
      rw [List.length_map]
      exact nexts_len _ _ _
    · rw [List.length_map, Nat.pow_succ]
      exact Nat.mul_le_mul_right _ (allP_len r given n)
theorem allP_mem (r : RR) (given : List Str) : ∀ n o, o ∈ allP r given n → o.length = n ∧ ∀ j ∈ o, j < r.body.length
  | 0, o, h => by
    rw [List.mem_singleton.mp h]
    exact ⟨rfl, fun j h => nomatch h⟩
  | n + 1, o, h => by
    obtain ⟨l, hl, ho⟩ := List.mem_flatten.mp h
    obtain ⟨o', ho', rfl⟩ := List.mem_map.mp hl
    obtain ⟨j, hj, rfl⟩ := List.mem_map.mp ho
    obtain ⟨h1, h2⟩ := allP_mem r given n o' ho'
    refine ⟨by rw [List.length_append, h1]; rfl, fun k hk => ?_⟩
    rcases List.mem_append.mp hk with hk | hk
    · exact h2 k hk
    · rw [List.mem_singleton.mp hk]
      exact List.mem_range.mp (List.mem_filter.mp hj).1
end U
namespace Toy
open PySem L2
open U (Tm Pt RR tn nms vars addN dd rows cnt kn kat wtP ptd nexts)
def OrdsAt (H : Hp) (cs : List Addr) (os : List (List Nat)) : Prop := All2 (fun c (o : List Nat) => H c = some (.tup (o.map nv))) cs os
def spAllP (A : Ad) : Sp := fun vs H Q _ => ∃ (ru g : Addr) (r : RR) (given : List Str), vs = [.ref ru, .ref g] ∧ RuleAt A H ru r ∧ Wf r ∧ H g = some (.tup (given.map V.str)) ∧ given.length ≤ 20 ∧ r.body.length ≤ 4 ∧
  ∀ t cs H', Same H H' → H' t = some (.tup (cs.map V.ref)) → OrdsAt H' cs (U.allP r given r.body.length) → Q (.ref t) H'
section
variable {P : Program} {w : World} {K : PySem.W.Frag} {mg : Str → Option Value} {base : Heap} {A : Ad}
theorem ok_all_plans (T : Txt K mg A) : FnOk P w K mg base CX0 6 A.f_all_plans A.d_all_plans ["rule", "given"] (spAllP A) := by
  have G_next_parts : FnOk P w K mg base CX0 5 A.f_next_parts A.d_next_parts ["rule", "order", "bound"] (spNext A) := ok_next T
  have G_bound_behind : FnOk P w K mg base CX0 4 A.f_bound_behind A.d_bound_behind ["rule", "order", "given"] (spBehind A) := ok_behind T
  refine T.F_all_plans.ok sc_all_plans (fun vs H Q E h => ?_) (fun cdv ar outer s H vs Q E hr h => ?_)
  · obtain ⟨ru, g, r, given, rfl, _⟩ := h
    rfl
  · obtain ⟨ru, g, r, given, rfl, hR, hw, eg, hg20, h4, k⟩ := h
    obtain ⟨dx, pt, pb, ps, sv, bs, e, f, gb, hb, hs, hc⟩ := id hR
    refine ⟨_, (C8.pss_cut (ps_set (i := 2) sc_all_plans.nd rfl (Or.inl rfl) (pe_lst (pa_cons (pe_tup pa_nil) pa_nil)))
      (C8.pss_cut (ps_for (passes_of rfl) rfl (tupIK K (fldK K (pv 0) rfl)) (pg_name (i := 3) sc_all_plans.nd rfl (Or.inl rfl))
        (C8.pss_cut (ps_set (i := 4) sc_all_plans.nd rfl (Or.inl rfl) (pe_lst pa_nil))
        (C8.pss_cut (ps_for (passes_of rfl) rfl (listK K (pv 2)) (pg_name (i := 5) sc_all_plans.nd rfl (Or.inl rfl))
          (pss_one (ps_for (passes_of rfl) rfl (listK K (pe_call G_next_parts (hr.mono (by decide)) (by rfl) T.m_next_parts T.F_next_parts.kp T.b_next_parts .nil pass0 (pa_cons (pv 0) (pa_cons (pv 5) (pa_cons (pe_call G_bound_behind (hr.mono (by decide)) (by rfl) T.m_bound_behind T.F_bound_behind.kp T.b_bound_behind .nil pass0 (pa_cons (pv 0) (pa_cons (pv 5) (pa_cons (pv 1) pa_nil)))) pa_nil))))) (pg_name (i := 6) sc_all_plans.nd rfl (Or.inl rfl))
            (pss_one (ps_expr (appK K (pv 4) (pa_cons (pe_op (catAK K) (pv 5) (pe_tup (pa_cons (pv 6) pa_nil))) pa_nil)))))))
        (pss_one (ps_set (i := 2) sc_all_plans.nd rfl (Or.inl rfl) (pv 4))))))
      (pss_one (ps_ret (pe_callTy (tupOf K) (by rfl) T.z_tuple (by decide +kernel) (pa_cons (pv 2) pa_nil)))))), ?_⟩
    have hO0 : ∀ {H1 H2 : Hp} {cs : List Addr} {os : List (List Nat)}, OrdsAt H1 cs os → Same H1 H2 → OrdsAt H2 cs os := fun h s => h.imp fun c o hc => s _ _ hc
    refine ⟨fun σ H1 => ∃ L c, σ = [some (.ref ru), some (.ref g), some (.ref L), none, none, none, none] ∧ Same H H1 ∧ H1 L = some (.lst [.ref c]) ∧ H1 c = some (.tup []), ?_, ?_⟩
    · exact ⟨Nat.zero_le _, fun c hc => ⟨(by show 1 ≤ sizeLine; decide), fun L hL => ⟨L, c, rfl, (same_new hc).trans (same_new hL), upd_same, same_new hL _ _ upd_same⟩⟩⟩
    rintro σ H1 ⟨L, c, rfl, s1, eL, ec⟩
    refine ⟨fun σ H2 => ∃ L cs x y z u, σ = [some (.ref ru), some (.ref g), some (.ref L), x, y, z, u] ∧ Same H H2 ∧ H2 L = some (.lst (cs.map V.ref)) ∧ OrdsAt H2 cs (U.allP r given r.body.length), ?_, ?_⟩
    · refine ⟨_, rfl, ru, _, dx, _, _, rfl, s1 _ _ e, T.cl_Rule, T.n_Rule_body, rf_body _ _ _ _ _, pb, rfl, ⟨_, SqT.of (s1 _ _ gb)⟩, ?_⟩
      refine for_tup (K := K) (a := pb) (xs := bs.map V.ref) (fun i σ H2 => ∃ L cs x y z u, σ = [some (.ref ru), some (.ref g), some (.ref L), x, y, z, u] ∧ Same H H2 ∧ H2 L = some (.lst (cs.map V.ref)) ∧ OrdsAt H2 cs (U.allP r given i)) ⟨L, [c], none, none, none, none, rfl, s1, eL, .cons ec .nil⟩ (fun i σ H2 _ ⟨_, _, _, _, _, _, _, s2, _⟩ => SqT.of (s2 _ _ gb)) ?_ ?_
      · rintro i v σ H2 hv ⟨Lq, cs, x, y, z, u, rfl, s2, eL2, hO⟩
        have hi : i < r.body.length := by
          have := (List.getElem?_eq_some_iff.mp hv).1
          rw [List.length_map, hb.1] at this
          exact this
        have hA : (U.allP r given i).length ≤ 64 := Nat.le_trans (U.allP_len r given i) (Nat.le_trans (Nat.pow_le_pow_left h4 i) (Nat.pow_le_pow_right (n := 4) (by decide) (by omega : i ≤ 3)))
        refine ⟨fun σ H3 => ∃ m, σ = [some (.ref ru), some (.ref g), some (.ref Lq), some v, some (.ref m), z, u] ∧ Same H2 H3 ∧ H2 m = none ∧ H3 m = some (.lst []), ?_, ?_⟩
        · exact ⟨Nat.zero_le _, fun m hm => ⟨m, rfl, same_new hm, hm, upd_same⟩⟩
        rintro σ H3 ⟨m, rfl, s3, hmN, em⟩
        refine ⟨fun σ H4 => ∃ z u cs2, σ = [some (.ref ru), some (.ref g), some (.ref Lq), some v, some (.ref m), z, u] ∧ Same H2 H4 ∧ H4 m = some (.lst (cs2.map V.ref)) ∧ OrdsAt H4 cs2 (U.allP r given (i + 1)), ?_, ?_⟩
        · refine ⟨_, rfl, Lq, rfl, ⟨_, SqL.of (s3 _ _ eL2)⟩, ?_⟩
          refine for_list (K := K) (a := Lq) (xs := cs.map V.ref) (fun j σ H4 => ∃ z u cs2, σ = [some (.ref ru), some (.ref g), some (.ref Lq), some v, some (.ref m), z, u] ∧ Same H2 H4 ∧ H4 m = some (.lst (cs2.map V.ref)) ∧ OrdsAt H4 cs2 (((U.allP r given i).take j).map (U.longer r given)).flatten) ⟨z, u, [], rfl, s3, em, .nil⟩ (fun j σ H4 _ ⟨_, _, _, _, s4, _⟩ => SqL.of (s4 _ _ eL2)) ?_ ?_
          · rintro j v2 σ H4 hv2 ⟨z, u, cs2, rfl, s4, em4, hO4⟩
            obtain ⟨b, o, rfl, eb, eo, hbo⟩ := All2.at hO hv2
            have hbo4 := s4 _ _ hbo
            have s24 := s2.trans s4
            obtain ⟨hol, holt⟩ := U.allP_mem r given i o (List.mem_of_getElem? eo)
            refine ⟨_, rfl, _, rfl, _, rfl, _, rfl, _, rfl, ru, b, g, r, o, given, rfl, hR.up s24, hw, hbo4, (by omega), holt, s24 _ _ eg, hg20, fun d H5 s5 hB => ?_⟩
            refine ⟨ru, b, d, r, o, _, rfl, hR.up (s24.trans s5), hw, .inr (s5 _ _ hbo4), hB, fun l H6 s6 hlN el => ?_⟩
            have nlm : l ≠ m := (ne_of_none (s5 _ _ em4) hlN).symm
            have s26 := s4.trans (s5.trans s6)
            have hfl : ((((U.allP r given i).take j).map (U.longer r given)).flatten).length ≤ 64 * 20 := by
              refine Nat.le_trans (U.flat_len (m := 20) _ ?_) ?_
              · intro x hx
                obtain ⟨o', _, rfl⟩ := List.mem_map.mp hx
                unfold U.longer
                rw [List.length_map]
                exact Nat.le_trans (U.nexts_len _ _ _) hw.body.1
              · rw [List.length_map, List.length_take]
                exact Nat.mul_le_mul_right _ (Nat.le_trans (Nat.min_le_right _ _) hA)
            refine ⟨l, rfl, ⟨_, SqL.of el⟩, ?_⟩
            refine for_list (K := K) (a := l) (xs := (nexts r o (U.bnd r given o)).map nv) (fun q σ H7 => ∃ u cs3, σ = [some (.ref ru), some (.ref g), some (.ref Lq), some v, some (.ref m), some (.ref b), u] ∧ Same H2 H7 ∧ H7 l = some (.lst ((nexts r o (U.bnd r given o)).map nv)) ∧ H7 m = some (.lst (cs3.map V.ref)) ∧ OrdsAt H7 cs3 ((((U.allP r given i).take j).map (U.longer r given)).flatten ++ ((nexts r o (U.bnd r given o)).take q).map fun k => o ++ [k])) ⟨u, cs2, rfl, s26, el, s6 _ _ (s5 _ _ em4), by
              rw [List.take_zero, List.map_nil, List.append_nil]
              exact hO0 hO4 (s5.trans s6)⟩ (fun q σ H7 _ ⟨_, _, _, _, el7, _⟩ => SqL.of el7) ?_ ?_
            · rintro q v3 σ H7 hv3 ⟨u, cs3, rfl, s7, el7, em7, hO7⟩
              rw [List.getElem?_map] at hv3
              obtain ⟨kk, hkk, rfl⟩ := Option.map_eq_some_iff.mp hv3
              have hq20 : q < 20 := Nat.lt_of_lt_of_le (List.getElem?_eq_some_iff.mp hkk).1 (Nat.le_trans (U.nexts_len _ _ _) hw.body.1)
              have hlen3 : cs3.length ≤ 64 * 20 + 20 := by
                rw [hO7.1, List.length_append, List.length_map, List.length_take]
                have := Nat.min_le_left q (nexts r o (U.bnd r given o)).length
                omega
              have hb7 := s7 _ _ hbo
              have fin : ∀ p H8, Same H7 H8 → H8 p = some (.tup ((o ++ [kk]).map nv)) → ∃ l' xs y, V.ref m = V.ref l' ∧ [V.ref p] = [y] ∧ H8 l' = some (.lst xs) ∧ xs.length < sizeLine ∧ ∃ u cs3, ([some (.ref ru), some (.ref g), some (.ref Lq), some v, some (.ref m), some (.ref b), some (nv kk)] : L2.St) = [some (.ref ru), some (.ref g), some (.ref Lq), some v, some (.ref m), some (.ref b), u] ∧ Same H2 (upd H8 l' (.lst (xs ++ [y]))) ∧ (upd H8 l' (.lst (xs ++ [y]))) l = some (.lst ((nexts r o (U.bnd r given o)).map nv)) ∧ (upd H8 l' (.lst (xs ++ [y]))) m = some (.lst (cs3.map V.ref)) ∧ OrdsAt (upd H8 l' (.lst (xs ++ [y]))) cs3 ((((U.allP r given i).take j).map (U.longer r given)).flatten ++ ((nexts r o (U.bnd r given o)).take (q + 1)).map fun k => o ++ [k]) := by
                intro p H8 s8 ep
                have em8 := s8 _ _ em7
                refine ⟨m, _, _, rfl, rfl, em8, ?_, _, cs3 ++ [p], rfl, same_mut (s7.trans s8) hmN, ?_, ?_, ?_⟩
                · rw [List.length_map]
                  have h5 : (5000 : Nat) ≤ sizeLine := by decide
                  omega
                · rw [upd_ne nlm]
                  exact s8 _ _ el7
                · rw [upd_same, List.map_append]
                  rfl
                · rw [take_one hkk, List.map_append, ← List.append_assoc]
                  refine All2.snoc ?_ ?_
                  · refine hO7.imp fun c o' hc => ?_
                    have h6 := s8 _ _ hc
                    rw [upd_ne (ne_of h6 em8 (fun q => nomatch q))]
                    exact h6
                  · rw [upd_ne (ne_of ep em8 (fun q => nomatch q))]
                    exact ep
              refine ⟨_, rfl, .inl ⟨rfl, _, SqL.of em7⟩, _, rfl, _, rfl, (by show 1 ≤ sizeLine; decide), fun t ht => ?_⟩
              refine ⟨b, t, _, _, rfl, rfl, SqT.of (same_new ht _ _ hb7), SqT.of upd_same, ?_, fun hx => ?_, (fun _ hy => nomatch hy), fun _ _ p hp => ?_⟩
              · rw [List.length_map]
                show o.length + 1 ≤ sizeLine
                have h5 : (5000 : Nat) ≤ sizeLine := by decide
                omega
              · have ho : o = [] := List.map_eq_nil_iff.mp hx
                exact fin t _ (same_new ht) (by rw [upd_same, ho]; rfl)
              · exact fin p _ ((same_new ht).trans (same_new hp)) (by rw [upd_same, List.map_append]; rfl)
            · rintro σ H7 ⟨u, cs3, rfl, s7, _, em7, hO7⟩
              refine ⟨_, _, cs3, rfl, s7, em7, ?_⟩
              rw [take_one eo, List.map_append, List.flatten_append]
              rw [List.length_map, List.take_of_length_le (Nat.le_refl _)] at hO7
              rw [List.map_singleton, List.flatten_singleton]
              exact hO7
          · rintro σ H4 ⟨z, u, cs2, rfl, s4, em4, hO4⟩
            refine ⟨z, u, cs2, rfl, s4, em4, ?_⟩
            rw [List.length_map, hO.1, List.take_of_length_le (Nat.le_refl _)] at hO4
            exact hO4
        rintro σ H4 ⟨z, u, cs2, rfl, s4, em4, hO4⟩
        exact ⟨_, rfl, m, cs2, _, _, _, _, rfl, s2.trans s4, em4, hO4⟩
      · rintro σ H2 ⟨L, cs, x, y, z, u, rfl, s2, eL, hO⟩
        rw [List.length_map, hb.1] at hO
        exact ⟨L, cs, x, y, z, u, rfl, s2, eL, hO⟩
    rintro σ H2 ⟨L, cs, x, y, z, u, rfl, s2, eL, hO⟩
    exact ⟨_, rfl, L, _, rfl, .inl ⟨SqL.of eL, fun t ht => k t cs _ (s2.trans (same_new ht)) upd_same (hO0 hO (same_new ht))⟩⟩
end
end Toy

set_option Elab.async false
set_option maxRecDepth 100000
set_option maxHeartbeats 4000000
namespace Toy
open PySem L2
open U (Tm Pt RR tn nms vars addN dd rows cnt kn kat wtP wtL ptd nexts)
/-! ### the law's own side -/
def tvv : Tm → V
  | .inl s => .str s
  | .inr i => .int i
def LPt (H : Hp) (a : Addr) (q : Pt) : Prop := ∃ tl, H a = some (.tup [.str q.kind, .str q.name, .ref tl]) ∧ H tl = some (.lst (q.ts.map tvv))
theorem LPt.up {H H' : Hp} {a : Addr} {q : Pt} (h : LPt H a q) (s : Same H H') : LPt H' a q := by
  obtain ⟨tl, e, f⟩ := h
  exact ⟨tl, s _ _ e, s _ _ f⟩
def LPs (H : Hp) (p : Addr) (qs : List Pt) : Prop := ∃ as : List Addr, H p = some (.lst (as.map V.ref)) ∧ All2 (LPt H) as qs
theorem LPs.up {H H' : Hp} {p : Addr} {qs : List Pt} (h : LPs H p qs) (s : Same H H') : LPs H' p qs := by
  obtain ⟨as, e, f⟩ := h
  exact ⟨as, s _ _ e, f.imp fun a t h => h.up s⟩
theorem mem_vars {ts : List Tm} {x : Str} : x ∈ vars ts ↔ (Sum.inl x : Tm) ∈ ts := by
  rw [← U.nms_mem]
  exact U.dd_mem.symm
theorem flat_tv (ts : List Tm) : (ts.map tvv).all flatV = true := by
  rw [List.all_map, List.all_eq_true]
  intro t _
  cases t <;> rfl
theorem inV_tv (x : Str) (ts : List Tm) : inV (.str x) (ts.map tvv) = decide (x ∈ vars ts) := by
  unfold inV
  rw [List.any_map]
  by_cases h : x ∈ vars ts
  · rw [decide_eq_true h, List.any_eq_true]
    exact ⟨_, mem_vars.mp h, by simp [eqV, tvv]⟩
  · rw [decide_eq_false h, List.any_eq_false]
    intro y hy
    cases y with
    | inl s =>
      simp only [Function.comp, tvv, eqV, beq_iff_eq]
      intro e
      exact h (mem_vars.mpr (e ▸ hy))
    | inr i => simp [Function.comp, tvv, eqV]
def spFlat : Sp := fun vs H Q _ => ∃ (p : Addr) (bs : List Addr) (ls : List (List V)), vs = [.ref p] ∧ H p = some (.lst (bs.map V.ref)) ∧ All2 (fun b l => H b = some (.lst l)) bs ls ∧ ls.flatten.length ≤ 900 ∧ ∀ q H', Same H H' → H' q = some (.lst ls.flatten) → Q (.ref q) H'
def spLNm : Sp := fun vs H Q _ => ∃ (p : Addr) (ts : List Tm), vs = [.ref p] ∧ H p = some (.lst (ts.map tvv)) ∧ ts.length ≤ 50 ∧ ∀ q H', Same H H' → H' q = some (.lst ((vars ts).map V.str)) → Q (.ref q) H'
/-- the drawn rule -/
abbrev mkR (head : List Tm) (qs : List Pt) : RR := ⟨"h", head, qs, false⟩
def LetS (qs : List Pt) : Prop := ∀ q ∈ qs, q.kind = "let" → ∃ s tr, q.ts = .inl s :: tr
def KindS (qs : List Pt) : Prop := ∀ q ∈ qs, q.kind = "pos" ∨ q.kind = "neg" ∨ q.kind = "cmp" ∨ q.kind = "let"
structure Drawn (head : List Tm) (qs : List Pt) : Prop where
  wf : Wf (mkR head qs)
  lets : LetS qs
  kinds : KindS qs
theorem flat_le {α β : Type} {f : α → List β} {m : Nat} : ∀ {l : List α}, (∀ x ∈ l, (f x).length ≤ m) → (l.flatMap f).length ≤ m * l.length
  | [], _ => Nat.le_refl _
  | x :: l, h => by
    rw [List.flatMap_cons, List.length_append, List.length_cons, Nat.mul_succ]
    have h1 := h x List.mem_cons_self
    have h2 := flat_le (f := f) (m := m) (l := l) fun y hy => h y (List.mem_cons_of_mem _ hy)
    omega
theorem pt_at {r : RR} {j : Nat} {q : Pt} (h : r.body[j]? = some q) : U.pt r j = q := by
  unfold U.pt
  rw [List.getD_eq_getElem?_getD, h]
  rfl
theorem gv_let {q : Pt} {s : Str} {tr : List Tm} (hk : q.kind = "let") (ht : q.ts = .inl s :: tr) : U.gv q = [s] := by
  unfold U.gv
  rw [if_neg (by rw [hk]; decide +kernel), if_pos hk, ht]
  rfl
theorem Drawn.ts {head : List Tm} {qs : List Pt} (h : Drawn head qs) {j : Nat} {q : Pt} (hq : qs[j]? = some q) : WfT q.ts := (h.wf.body.2 q (List.mem_of_getElem? hq)).1
theorem map_flat (head : List Tm) (ls : List (List Tm)) : head.map tvv ++ (ls.map fun l => l.map tvv).flatten = (head ++ ls.flatten).map tvv := by
  rw [List.map_append, List.map_flatten]
theorem flat_len {ls : List (List Tm)} {m : Nat} (h : ∀ l ∈ ls, l.length ≤ m) : ls.flatten.length ≤ m * ls.length := by
  have := flat_le (f := fun l : List Tm => l) (m := m) (l := ls) h
  rw [List.flatMap_id'] at this
  exact this
def gL (q : Pt) : List Str := if q.kind = "pos" then vars q.ts else if q.kind = "let" then vars (q.ts.take 1) else []
def spLGives : Sp := fun vs H Q _ => ∃ (a : Addr) (q : Pt), vs = [.ref a] ∧ LPt H a q ∧ q.ts.length ≤ 20 ∧ (q.kind = "let" → ∃ s tr, q.ts = .inl s :: tr) ∧ ∀ l H', Same H H' → H' l = some (.lst ((gL q).map V.str)) → Q (.ref l) H'
def spLReady : Sp := fun vs H Q _ => ∃ (ps b : Addr) (j : Nat) (qs : List Pt) (q : Pt) (xs : List Str), vs = [.ref ps, .int j, .ref b] ∧ LPs H ps qs ∧ Drawn [] qs ∧ qs[j]? = some q ∧ H b = some (.lst (xs.map V.str)) ∧ ∀ H', Same H H' → Q (.bl (U.rdy (mkR [] qs) xs q)) H'
def spLWeight : Sp := fun vs H Q _ => ∃ (ps b z : Addr) (j : Nat) (qs : List Pt) (q : Pt) (xs : List Str) (kvs : List (Key × V)) (sz : Str → Int), vs = [.ref ps, .int j, .ref b, .ref z] ∧ LPs H ps qs ∧ Drawn [] qs ∧ qs[j]? = some q ∧ H b = some (.lst (xs.map V.str)) ∧ H z = some (.dK kvs) ∧ (q.kind = "pos" → valV kvs (Sum.inr q.name) = some (.int (sz q.name))) ∧ ∀ t H', Same H H' → H' t = some (.tup (wtL (mkR [] qs) xs sz j).vs) → Q (.ref t) H'
section
variable {P : Program} {w : World} {K : PySem.W.Frag} {mg : Str → Option Value} {base : Heap} {A : Ad}
theorem ok_flat (T : Txt K mg A) : FnOk P w K mg base CX0 1 A.f_l_flat A.d_l_flat ["_law_rows"] spFlat := by
  refine T.F_l_flat.ok sc_l_flat (fun vs H Q E h => ?_) (fun cdv ar outer s H vs Q E hr h => ?_)
  · obtain ⟨p, bs, ls, rfl, _⟩ := h
    rfl
  · obtain ⟨p, bs, ls, rfl, ep, fp, hz, k⟩ := h
    refine ⟨_, (pss_cons (ps_set (i := 1) sc_l_flat.nd rfl (Or.inl rfl) (pe_lst pa_nil))
      (pss_cons (ps_for PassesOwn.never rfl (listK K (pv 0)) (pg_name (i := 2) sc_l_flat.nd rfl (Or.inl rfl))
        (pss_one (ps_set (i := 1) sc_l_flat.nd rfl (Or.inl rfl) (pe_op op_cat (pv 1) (pv 2)))))
      (pss_one (ps_ret (pv 1))))), ?_⟩
    refine ⟨Nat.zero_le _, fun l0 hl0 => ⟨_, rfl, p, rfl, ⟨_, SqL.of (same_new hl0 _ _ ep)⟩, ?_⟩⟩
    refine for_list (K := K) (a := p) (xs := bs.map V.ref) (fun i σ H' => ∃ l x, σ = [some (.ref p), some (.ref l), x] ∧ Same H H' ∧ H' l = some (.lst (ls.take i).flatten))
      ⟨l0, none, rfl, same_new hl0, upd_same⟩ (fun i σ H' _ ⟨l, x, _, s, _⟩ => SqL.of (s _ _ ep)) ?_ ?_
    · rintro i v σ H' hv ⟨l, x, rfl, s1, el⟩
      obtain ⟨b, row, rfl, eb, er, hb⟩ := fp.at hv
      have hle : (ls.take i).flatten.length + row.length ≤ ls.flatten.length := by
        have e1 : (ls.take (i + 1)).flatten.length ≤ ls.flatten.length := by
          conv => rhs; rw [← List.take_append_drop (i + 1) ls, List.flatten_append, List.length_append]
          omega
        rw [take_one er, List.flatten_append, List.length_append, List.flatten_singleton] at e1
        exact e1
      refine ⟨_, rfl, _, rfl, l, b, _, _, rfl, rfl, el, s1 _ _ hb, sz' (by omega), fun m hm => ⟨m, _, rfl, s1.trans (same_new hm), ?_⟩⟩
      rw [upd_same, take_one er, List.flatten_append, List.flatten_singleton]
    · rintro σ H' ⟨l, x, rfl, s1, el⟩
      rw [List.length_map, fp.1, List.take_of_length_le (Nat.le_refl _)] at el
      exact ⟨_, rfl, k l H' s1 el⟩
theorem nd_law {head : List Tm} {qs : List Pt} {j : Nat} {q : Pt} (hk : q.kind = "pos" ∨ q.kind = "neg" ∨ q.kind = "cmp" ∨ q.kind = "let") (hq : qs[j]? = some q) (h1 : ¬ q.kind = "pos") (h2 : ¬ q.kind = "let") :
    U.nd (mkR head qs) q = (nms q.ts).filter fun x => decide (q.kind = "cmp") || decide (x ∈ vars (head ++ (((List.range qs.length).filter fun k => decide (k ≠ j)).map fun k => (U.pt (mkR head qs) k).ts).flatten)) := by
  unfold U.nd
  by_cases h3 : q.kind = "cmp"
  · rw [if_pos h3, decide_eq_true h3]
    simp only [Bool.true_or]
    exact (filter_tt _).symm
  · have h4 : q.kind = "neg" := by
      rcases hk with z | z | z | z
      · exact absurd z h1
      · exact z
      · exact absurd z h3
      · exact absurd z h2
    rw [if_neg h3, if_neg h2, if_pos h4, decide_eq_false h3]
    apply List.filter_congr
    intro x hx
    rw [Bool.false_or]
    have := U.shd_iff (r := mkR head qs) (j := j) (q := q) hq hx
    rw [Bool.eq_iff_iff, this, decide_eq_true_iff, mem_vars, List.mem_append]
    apply or_congr Iff.rfl
    constructor
    · rintro ⟨k, q', hk, hq', hx'⟩
      have hkl : k < qs.length := (List.getElem?_eq_some_iff.mp hq').1
      refine List.mem_flatten.mpr ⟨_, List.mem_map.mpr ⟨k, List.mem_filter.mpr ⟨List.mem_range.mpr hkl, by simpa using hk⟩, rfl⟩, ?_⟩
      rw [pt_at hq']
      exact hx'
    · intro h
      obtain ⟨row, hr, hxr⟩ := List.mem_flatten.mp h
      obtain ⟨k, hk, rfl⟩ := List.mem_map.mp hr
      obtain ⟨hk1, hk2⟩ := List.mem_filter.mp hk
      have hkl : k < qs.length := List.mem_range.mp hk1
      have hq' : qs[k]? = some qs[k] := List.getElem?_eq_getElem hkl
      refine ⟨k, qs[k], by simpa using hk2, hq', ?_⟩
      rw [pt_at (r := mkR head qs) hq'] at hxr
      exact hxr
def isn : Tm → Bool
  | .inl _ => true
  | .inr _ => false
theorem vars_filter : ∀ ts : List Tm, (ts.filter isn).map tvv = (vars ts).map V.str
  | [] => rfl
  | .inl s :: ts => by
    show V.str s :: (ts.filter isn).map tvv = V.str s :: (vars ts).map V.str
    rw [vars_filter ts]
  | .inr i :: ts => vars_filter ts
abbrev oth (qs : List Pt) (j : Nat) : List Tm := (((List.range qs.length).filter fun k => decide (k ≠ j)).map fun k => (U.pt (mkR [] qs) k).ts).flatten
def askd (q : Pt) : List Str := vars (if q.kind = "let" then q.ts.drop 1 else q.ts)
theorem rdy_law {qs : List Pt} {j : Nat} {q : Pt} (hD : Drawn [] qs) (hq : qs[j]? = some q) (h1 : ¬ q.kind = "pos") (xs : List Str) :
    decide (((askd q).filter fun x => decide (x ∉ xs) && (!decide (q.kind = "neg") || decide (x ∈ vars (oth qs j)))).length = 0) = U.rdy (mkR [] qs) xs q := by
  unfold U.rdy
  rw [Bool.eq_iff_iff, decide_eq_true_iff, List.all_eq_true, List.length_eq_zero_iff, List.filter_eq_nil_iff]
  by_cases h2 : q.kind = "let"
  · have ek : U.nd (mkR [] qs) q = nms (q.ts.drop 1) := by
      unfold U.nd
      rw [if_neg (by rw [h2]; decide +kernel), if_pos h2]
    have en : ¬ q.kind = "neg" := by rw [h2]; decide +kernel
    rw [ek]
    unfold askd
    rw [if_pos h2]
    constructor
    · intro h x hx
      have := h x (mem_vars.mpr (U.nms_mem.mp hx))
      simpa [en] using this
    · intro h x hx
      have := h x (U.nms_mem.mpr (mem_vars.mp hx))
      simpa [en] using this
  · rw [nd_law (head := []) (hD.kinds q (List.mem_of_getElem? hq)) hq h1 h2]
    unfold askd
    rw [if_neg h2]
    constructor
    · intro h x hx
      obtain ⟨hx1, hx2⟩ := List.mem_filter.mp hx
      have := h x (mem_vars.mpr (U.nms_mem.mp hx1))
      rcases Bool.or_eq_true_iff.mp hx2 with z | z
      · have z' := of_decide_eq_true z
        have en : ¬ q.kind = "neg" := by rw [z']; decide +kernel
        simpa [en] using this
      · have z' := of_decide_eq_true z
        rw [List.nil_append] at z'
        have z2 : x ∈ vars (oth qs j) := z'
        simpa [z2] using this
    · intro h x hx
      have hx1 := U.nms_mem.mpr (mem_vars.mp hx)
      by_cases hn : q.kind = "neg"
      · by_cases ho : x ∈ vars (oth qs j)
        · have := h x (List.mem_filter.mpr ⟨hx1, by rw [List.nil_append, Bool.or_eq_true]; exact .inr (decide_eq_true ho)⟩)
          simpa [hn, ho] using this
        · simp [hn, ho]
      · have hc : q.kind = "cmp" := by
          rcases hD.kinds q (List.mem_of_getElem? hq) with z | z | z | z
          · exact absurd z h1
          · exact absurd z hn
          · exact z
          · exact absurd z h2
        have := h x (List.mem_filter.mpr ⟨hx1, by rw [decide_eq_true hc]; rfl⟩)
        simpa [hn] using this
theorem kat_count (b : List Str) : ∀ ts : List Tm, (kat b ts).length = (ts.filter (kn b)).length := by
  intro ts
  unfold U.kat
  have : ts.filter (kn b) = ((List.range ts.length).filter fun i => kn b (ts.getD i (.inr 0))).map fun i => ts.getD i (.inr 0) := by
    have e : ts = (List.range ts.length).map fun i => ts.getD i (.inr 0) := by
      apply List.ext_getElem?
      intro i
      rw [List.getElem?_map]
      by_cases h : i < ts.length
      · rw [List.getElem?_range h, List.getElem?_eq_getElem h]
        simp [List.getD_eq_getElem?_getD, h]
      · rw [List.getElem?_eq_none (by omega), List.getElem?_eq_none (by rw [List.length_range]; omega)]
        rfl
    conv => lhs; rw [e]
    rw [List.filter_map]
    rfl
  rw [this, List.length_map]
theorem ok_lnm (T : Txt K mg A) : FnOk P w K mg base CX0 1 A.f_l_names A.d_l_names ["_law_terms"] spLNm := by
  refine T.F_l_names.ok sc_l_names (fun vs H Q E h => ?_) (fun cdv ar outer s H vs Q E hr h => ?_)
  · obtain ⟨p, ts, rfl, _⟩ := h
    rfl
  · obtain ⟨p, ts, rfl, ep, hz, k⟩ := h
    refine ⟨_, (pss_one (ps_ret (pe_lc (own := [("_law_term", 1)]) (by rfl) sc_l_names.nd (listK K (pv 0)) (blkOk_by (own := [("_law_term", 1)]) (N := N_l_names) (sc := defScope s_l_names) (by decide +kernel)) (fun _ _ _ _ _ => (pg_name (i := 1) sc_l_names.nd rfl (Or.inl rfl))) (fun _ _ _ _ _ => (pts_one (pt_val (pe_callB (isiK K) (by rfl) T.z_isinstance (by decide +kernel) (pa_cons (pv 1) (pa_cons (pe_bltn (v := .ty "str") (by rfl) T.z_str (by decide +kernel) rfl) pa_nil)))))) (fun _ _ _ _ _ => (pv 1))))), ?_⟩
    refine ⟨_, rfl, p, rfl, ⟨_, SqL.of ep⟩, fun D hD => ?_⟩
    refine lc_list (K := K) (a := p) (xs := ts.map tvv) (LcI (fun _ y (t : Tm) => y = tvv t) isn ts H D) (LcI.start hD) (fun i H' _ h => SqL.of (h.1 _ _ ep)) ?_ ?_
    · intro i x H' hx h
      rw [List.getElem?_map] at hx
      obtain ⟨t, ht, rfl⟩ := Option.map_eq_some_iff.mp hx
      cases t with
      | inl s =>
        refine ⟨rfl, _, rfl, _, _, _, _, _, rfl, .ty _, .base (.str s), kit_ty (by decide +kernel), _, rfl, iteT ?_⟩
        exact ⟨_, rfl, h.yes (stab_val _) hD (by omega) ht rfl (fun _ _ e => e) rfl⟩
      | inr n =>
        refine ⟨rfl, _, rfl, _, _, _, _, _, rfl, .ty _, .base (.int n), kit_ty (by decide +kernel), _, rfl, iteF ?_⟩
        exact h.no (stab_val _) ht rfl (fun _ _ e => e)
    · intro H' h
      obtain ⟨ys, s1, eD, hv⟩ := h.fin (by rw [List.length_map]; exact Nat.le_refl _)
      have ey := VAll.eq (f := tvv) hv
      subst ey
      rw [vars_filter] at eD
      exact k D H' s1 eD
theorem ok_lgives (T : Txt K mg A) : FnOk P w K mg base CX0 2 A.f_l_gives A.d_l_gives ["_law_part_here"] spLGives := by
  have G_l_names : FnOk P w K mg base CX0 1 A.f_l_names A.d_l_names ["_law_terms"] spLNm := ok_lnm T
  refine T.F_l_gives.ok sc_l_gives (fun vs H Q E h => ?_) (fun cdv ar outer s H vs Q E hr h => ?_)
  · obtain ⟨a, q, rfl, _⟩ := h
    rfl
  · obtain ⟨a, q, rfl, hP, hl, hlet, k⟩ := h
    refine ⟨_, (pss_one (ps_ret (pe_ifExp (pt_cmpR op_eq (pe_ix (ixT K) (pv 0) pe_int (fun _ _ => rfl)) pe_str (nomark _)) (pe_call G_l_names (hr.mono (by decide)) (by rfl) T.m_l_names T.F_l_names.kp T.b_l_names .nil pass0 (pa_cons (pe_ix (ixT K) (pv 0) pe_int (fun _ _ => rfl)) pa_nil)) (pe_ifExp (pt_cmpR op_eq (pe_ix (ixT K) (pv 0) pe_int (fun _ _ => rfl)) pe_str (nomark _)) (pe_slice (slL K) (pe_ix (ixT K) (pv 0) pe_int (fun _ _ => rfl)) po_none (po_some pe_int)) (pe_lst pa_nil))))), ?_⟩
    obtain ⟨tl, ea, et⟩ := hP
    refine ⟨_, rfl, a, _, _, _, rfl, rfl, SqT.of ea, atI_nat (j := 0) rfl, rfl, _, rfl, ?_⟩
    rw [dec_str]
    unfold gL at k
    refine iteD (fun h1 => ?_) (fun h1 => ?_)
    · rw [if_pos h1] at k
      exact ⟨_, rfl, a, _, _, _, rfl, rfl, SqT.of ea, atI_nat (j := 2) rfl, tl, q.ts, rfl, et, (by omega), k⟩
    · rw [if_neg h1] at k
      refine ⟨_, rfl, a, _, _, _, rfl, rfl, SqT.of ea, atI_nat (j := 0) rfl, rfl, _, rfl, ?_⟩
      rw [dec_str]
      refine iteD (fun h2 => ?_) (fun h2 => ?_)
      · rw [if_pos h2] at k
        obtain ⟨s0, tr, hst⟩ := hlet h2
        refine ⟨_, rfl, a, _, _, _, rfl, rfl, SqT.of ea, atI_nat (j := 2) rfl, _, rfl, tl, _, rfl, SqL.of et, fun m hm => k m _ (same_new hm) ?_⟩
        rw [upd_same, show ((1 : Int)) = ((1 : Nat) : Int) from rfl, cut_take, hst]
        rfl
      · rw [if_neg h2] at k
        exact ⟨Nat.zero_le _, fun m hm => k m _ (same_new hm) upd_same⟩
theorem ok_lready (T : Txt K mg A) : FnOk P w K mg base CX0 2 A.f_l_ready A.d_l_ready ["_law_parts", "_law_j", "_law_bound"] spLReady := by
  have G_l_names : FnOk P w K mg base CX0 1 A.f_l_names A.d_l_names ["_law_terms"] spLNm := ok_lnm T
  have G_l_flat : FnOk P w K mg base CX0 1 A.f_l_flat A.d_l_flat ["_law_rows"] spFlat := ok_flat T
  refine T.F_l_ready.ok sc_l_ready (fun vs H Q E h => ?_) (fun cdv ar outer s H vs Q E hr h => ?_)
  · obtain ⟨ps, b, j, qs, q, xs, rfl, _⟩ := h
    rfl
  · obtain ⟨ps, b, j, qs, q, xs, rfl, ⟨as, ep, fp⟩, hD0, hq, eb, k⟩ := h
    refine ⟨_, (C8.pss_cut (ps_asg (pe_ix (ixL K) (pv 0) (pv 1) (fun _ _ => rfl)) (tupK K (n := 3) rfl (pgs_cons (pg_name (i := 3) sc_l_ready.nd rfl (Or.inr rfl)) (pgs_cons (pg_name (i := 4) sc_l_ready.nd rfl (Or.inl rfl)) (pgs_cons (pg_name (i := 5) sc_l_ready.nd rfl (Or.inl rfl)) pgs_nil)))))
      (C8.pss_cut (ps_if (pt_cmpR op_eq (pv 3) pe_str (nomark _))
        (pss_one (ps_ret pe_bl))
        pss_nil)
      (C8.pss_cut (ps_set (i := 6) sc_l_ready.nd rfl (Or.inr rfl) (pe_call G_l_flat (hr.mono (by decide)) (by rfl) T.m_l_flat T.F_l_flat.kp T.b_l_flat .nil pass0 (pa_cons (pe_lc (own := [("_law_k", 8)]) (by rfl) sc_l_ready.nd (pi_range1 (by rfl) T.z_range (pa_cons (pe_callB (lenK K) (by rfl) T.z_len (by decide +kernel) (pa_cons (pv 0) pa_nil)) pa_nil)) (blkOk_by (own := [("_law_k", 8)]) (N := N_l_ready) (sc := defScope s_l_ready) (by decide +kernel)) (fun _ _ _ _ _ => (pg_name (i := 8) sc_l_ready.nd rfl (Or.inl rfl))) (fun _ _ _ _ _ => (pts_one (pt_cmpR op_ne (pv 8) (pv 1) (nomark _)))) (fun _ _ _ _ _ => (pe_lc (own := [("_law_term", 9)]) (by rfl) sc_l_ready.nd (listK K (pe_ix (ixT K) (pe_ix (ixL K) (pv 0) (pv 8) (fun _ _ => rfl)) pe_int (fun _ _ => rfl))) (blkOk_by (own := [("_law_term", 9)]) (N := N_l_ready) (by rfl)) (fun _ _ _ _ _ => (pg_name (i := 9) sc_l_ready.nd rfl (Or.inl rfl))) (fun _ _ _ _ _ => pts_nil) (fun _ _ _ _ _ => (pv 9))))) pa_nil)))
      (C8.pss_cut (ps_set (i := 7) sc_l_ready.nd rfl (Or.inl rfl) (pe_call G_l_names (hr.mono (by decide)) (by rfl) T.m_l_names T.F_l_names.kp T.b_l_names .nil pass0 (pa_cons (pe_ifExp (pt_cmpR op_eq (pv 3) pe_str (nomark _)) (pe_slice (slL K) (pv 5) (po_some pe_int) po_none) (pv 5)) pa_nil)))
      (pss_one (ps_ret (pe_cmpR (eqL K hr.units0) (pe_lc (own := [("_law_one", 10)]) (by rfl) sc_l_ready.nd (listK K (pv 7)) (blkOk_by (own := [("_law_one", 10)]) (N := N_l_ready) (sc := defScope s_l_ready) (by decide +kernel)) (fun _ _ _ _ _ => (pg_name (i := 10) sc_l_ready.nd rfl (Or.inl rfl))) (fun _ _ _ _ _ => (pts_one (PW.pt (pw_and (pt_cmpR (notInSeq K) (pv 10) (pv 2) (by rfl)) (pw_and1 (PW.pt (pw_or (pt_cmpR op_ne (pv 3) pe_str (nomark _)) (pw_or1 (pt_cmpR (inSeq K) (pv 10) (pv 6) (by rfl)))))))))) (fun _ _ _ _ _ => (pv 10))) (pe_lst pa_nil) (nomark _)))))))), ?_⟩
    have h20 : qs.length ≤ 20 := hD0.wf.body.1
    have hts := hD0.ts hq
    have hj : j < as.length := by rw [fp.1]; exact (List.getElem?_eq_some_iff.mp hq).1
    have hbj : as[j]? = some as[j] := List.getElem?_eq_getElem hj
    obtain ⟨tl, ea, et⟩ := fp.2 j _ q hbj hq
    refine ⟨fun σ H1 => H1 = H ∧ σ = [some (.ref ps), some (.int j), some (.ref b), some (.str q.kind), some (.str q.name), some (.ref tl), none, none, none, none, none], ?_, ?_⟩
    · exact ⟨_, rfl, _, rfl, ps, _, _, _, rfl, rfl, SqL.of ep, atI_nat (by rw [List.getElem?_map, hbj]; rfl), as[j], _, rfl, SqT.of ea, rfl, _, _, rfl, _, _, rfl, _, _, rfl, rfl, rfl, rfl⟩
    rintro σ H1 ⟨e1, rfl⟩
    rw [e1]
    clear e1 H1
    refine ⟨fun σ H1 => H1 = H ∧ ¬ q.kind = "pos" ∧ σ = [some (.ref ps), some (.int j), some (.ref b), some (.str q.kind), some (.str q.name), some (.ref tl), none, none, none, none, none], ?_, ?_⟩
    · refine ⟨_, rfl, rfl, _, rfl, ?_⟩
      rw [dec_str]
      refine iteD (fun h1 => ?_) (fun h1 => ⟨rfl, h1, rfl⟩)
      have ek : U.rdy (mkR [] qs) xs q = true := by
        unfold U.rdy U.nd
        rw [if_neg (by rw [h1]; decide +kernel), if_neg (by rw [h1]; decide +kernel), if_neg (by rw [h1]; decide +kernel)]
        rfl
      rw [ek] at k
      exact k _ (fun _ _ e => e)
    rintro σ H1 ⟨e1, h1, rfl⟩
    rw [e1]
    clear e1 H1
    have s0 : Same H H := fun _ _ e => e
    refine ⟨fun σ H1 => ∃ u, Same H H1 ∧ H1 u = some (.lst ((oth qs j).map tvv)) ∧ σ = [some (.ref ps), some (.int j), some (.ref b), some (.str q.kind), some (.str q.name), some (.ref tl), some (.ref u), none, none, none, none], ?_, ?_⟩
    · refine ⟨_, rfl, ps, _, rfl, .inl (SqL.of ep), _, rfl, (by omega), (by rw [List.length_map, fp.1]; omega), fun D hD => ?_⟩
      have en : (((as.map V.ref).length : Nat) : Int).toNat = qs.length := by rw [Int.toNat_natCast, List.length_map, fp.1]
      rw [en]
      have st : Stab D fun H y (k : Nat) => ∃ b, y = .ref b ∧ H b = some (.lst ((U.pt (mkR [] qs) k).ts.map tvv)) ∧ b ≠ D := ⟨fun ⟨b, e, h, n⟩ s => ⟨b, e, s _ _ h, n⟩, fun hl ⟨b, e, h, n⟩ => ⟨b, e, by rw [upd_ne n]; exact h, n⟩⟩
      refine lc_range (n := qs.length) (LcI (fun H y (k : Nat) => ∃ b, y = .ref b ∧ H b = some (.lst ((U.pt (mkR [] qs) k).ts.map tvv)) ∧ b ≠ D) (fun k => decide (k ≠ j)) (List.range qs.length) H D) (LcI.start hD) ?_ ?_
      · rintro i H5 hi h
        have ei : (0 : Int) + (i : Nat) = ((i : Nat) : Int) := by omega
        rw [ei]
        have hia : i < as.length := by rw [fp.1]; exact hi
        have hbi : as[i]? = some as[i] := List.getElem?_eq_getElem hia
        have hq' : qs[i]? = some qs[i] := List.getElem?_eq_getElem hi
        obtain ⟨tl', ea', et'⟩ := fp.2 i _ _ hbi hq'
        have eri : (List.range qs.length)[i]? = some i := List.getElem?_range hi
        refine ⟨rfl, _, rfl, _, rfl, rfl, _, rfl, ?_⟩
        rw [dec_int]
        have eD6 := h.2.choose_spec.1
        refine iteND (fun hn => ?_) (fun he => ?_)
        · refine ⟨_, rfl, _, rfl, ps, _, _, _, rfl, rfl, SqL.of (h.1 _ _ ep), atI_nat (by rw [List.getElem?_map, hbi]; rfl), as[i], _, _, _, rfl, rfl, SqT.of (h.1 _ _ ea'), atI_nat (j := 2) rfl, tl', rfl, ⟨_, SqL.of (h.1 _ _ et')⟩, fun D2 hD2 => ?_⟩
          refine lc_list (K := K) (a := tl') (xs := qs[i].ts.map tvv) (LcI (fun _ y (t : Tm) => y = tvv t) (fun _ => true) qs[i].ts _ D2) (LcI.start hD2) (fun i H' _ h' => SqL.of (h'.1 _ _ (h.1 _ _ et'))) ?_ ?_
          · intro i2 y H7 hy h7
            rw [List.getElem?_map] at hy
            obtain ⟨t, ht, rfl⟩ := Option.map_eq_some_iff.mp hy
            exact ⟨rfl, _, rfl, h7.yes (stab_val _) hD2 (by have := (hD0.ts hq').1; omega) ht rfl (fun _ _ e => e) rfl⟩
          · intro H7 h7
            obtain ⟨ys, s7, eD2, hv⟩ := h7.fin (by rw [List.length_map]; exact Nat.le_refl _)
            rw [filter_tt] at hv
            have ey := VAll.eq (f := tvv) hv
            subst ey
            refine h.yes st hD (by rw [List.length_range]; omega) eri (by simpa using fun z : i = j => hn (by rw [z])) s7 ⟨D2, rfl, ?_, (ne_of_none eD6 hD2).symm⟩
            rw [pt_at (r := mkR [] qs) hq']
            exact eD2
        · exact h.no st eri (by simpa using (by omega : i = j)) (fun _ _ e => e)
      · intro H5 h
        obtain ⟨ys, s5, eD5, hv⟩ := h.fin (by rw [List.length_range]; exact Nat.le_refl _)
        obtain ⟨cs, rfl, hcs⟩ := VAll.refs (R := fun b k => H5 b = some (.lst ((U.pt (mkR [] qs) k).ts.map tvv))) (hv.imp fun y k ⟨b, e, h, _⟩ => ⟨b, e, h⟩)
        have hl : ∀ l ∈ (((List.range qs.length).filter fun k => decide (k ≠ j)).map fun k => (U.pt (mkR [] qs) k).ts), l.length ≤ 20 := fun l hl => by
          obtain ⟨k, hk, rfl⟩ := List.mem_map.mp hl
          have hkl : k < qs.length := List.mem_range.mp (List.mem_filter.mp hk).1
          have hqk : qs[k]? = some qs[k] := List.getElem?_eq_getElem hkl
          rw [pt_at (r := mkR [] qs) hqk]
          exact (hD0.ts hqk).1
        have hll := flat_len hl
        have hlr : ((List.range qs.length).filter fun k => decide (k ≠ j)).length ≤ 20 := Nat.le_trans (List.length_filter_le _ _) (by rw [List.length_range]; exact h20)
        rw [List.length_map] at hll
        refine ⟨D, cs, ((((List.range qs.length).filter fun k => decide (k ≠ j)).map fun k => (U.pt (mkR [] qs) k).ts)).map fun l => l.map tvv, rfl, eD5, ⟨by rw [List.length_map, List.length_map]; exact hcs.1, fun i b l h1 h2 => ?_⟩, ?_, fun u H6 s6 eu => ?_⟩
        · rw [List.getElem?_map, List.getElem?_map] at h2
          obtain ⟨l1, h3, rfl⟩ := Option.map_eq_some_iff.mp h2
          obtain ⟨k, h4, rfl⟩ := Option.map_eq_some_iff.mp h3
          exact hcs.2 i b k h1 h4
        · rw [← List.map_flatten, List.length_map]
          omega
        · exact ⟨u, s5.trans s6, by rw [eu, ← List.map_flatten], rfl⟩
    rintro σ H1 ⟨u, s1, eu, rfl⟩
    refine ⟨fun σ H2 => ∃ l, Same H1 H2 ∧ H2 l = some (.lst ((askd q).map V.str)) ∧ σ = [some (.ref ps), some (.int j), some (.ref b), some (.str q.kind), some (.str q.name), some (.ref tl), some (.ref u), some (.ref l), none, none, none], ?_, ?_⟩
    · refine ⟨_, rfl, rfl, _, rfl, ?_⟩
      rw [dec_str]
      have h50 := hts.1
      refine iteD (fun h2 => ?_) (fun h2 => ?_)
      · refine ⟨_, rfl, _, rfl, tl, _, rfl, SqL.of (s1 _ _ et), fun m hm => ⟨m, q.ts.drop 1, rfl, ?_, ?_, fun l H' s e => ⟨l, (same_new hm).trans s, ?_, rfl⟩⟩⟩
        · rw [upd_same, show ((1 : Int)) = ((1 : Nat) : Int) from rfl, cut_drop, List.map_drop]
        · rw [List.length_drop]
          omega
        · rw [e]
          unfold askd
          rw [if_pos h2]
      · refine ⟨_, rfl, tl, q.ts, rfl, s1 _ _ et, (by omega), fun l H' s e => ⟨l, s, ?_, rfl⟩⟩
        rw [e]
        unfold askd
        rw [if_neg h2]
    rintro σ H2 ⟨l, s2, el, rfl⟩
    have hal : (askd q).length ≤ 20 := by
      have h1 := U.vars_len (if q.kind = "let" then q.ts.drop 1 else q.ts)
      have h2 := hts.1
      have h3 : (if q.kind = "let" then q.ts.drop 1 else q.ts).length ≤ q.ts.length := by
        split
        · rw [List.length_drop]; omega
        · exact Nat.le_refl _
      exact Nat.le_trans h1 (Nat.le_trans h3 h2)
    have s12 := s1.trans s2
    refine ⟨_, rfl, l, rfl, ⟨_, SqL.of el⟩, fun D hD => ?_⟩
    refine lc_list (K := K) (a := l) (xs := (askd q).map V.str) (LcI (fun _ y (x : Str) => y = .str x) (fun x => decide (x ∉ xs) && (!decide (q.kind = "neg") || decide (x ∈ vars (oth qs j)))) (askd q) H2 D) (LcI.start hD) (fun i H' _ h => SqL.of (h.1 _ _ el)) ?_ ?_
    · intro i2 y H5 hy h5
      rw [List.getElem?_map] at hy
      obtain ⟨z, hz, rfl⟩ := Option.map_eq_some_iff.mp hy
      refine ⟨rfl, V.str z, rfl, _, rfl, b, _, rfl, .inl (SqL.of (h5.1 _ _ (s12 _ _ eb))), rfl, flat_str _, _, rfl, ?_⟩
      rw [if_pos rfl, inV_str]
      refine iteND (fun hn => ?_) (fun hn => ?_)
      · refine ⟨_, rfl, rfl, _, rfl, ?_⟩
        rw [dec_str]
        refine iteND (fun hk => ?_) (fun hk => ?_)
        · exact iteT ⟨_, rfl, h5.yes (stab_val _) hD (by omega) hz (by simp [hn, hk]) (fun _ _ e => e) rfl⟩
        · refine ⟨V.str z, rfl, _, rfl, u, _, rfl, .inl (SqL.of (h5.1 _ _ (s2 _ _ eu))), rfl, flat_tv _, _, rfl, ?_⟩
          rw [if_neg (by decide), inV_tv]
          refine iteD (fun hm => ?_) (fun hm => ?_)
          · exact ⟨_, rfl, h5.yes (stab_val _) hD (by omega) hz (by simp [hn, hm]) (fun _ _ e => e) rfl⟩
          · exact h5.no (stab_val _) hz (by simp [hn, hk, hm]) (fun _ _ e => e)
      · exact iteF (h5.no (stab_val _) hz (by simp [hn]) (fun _ _ e => e))
    · intro H5 h5
      obtain ⟨ys, s5, eD5, hv⟩ := h5.fin (by rw [List.length_map]; exact Nat.le_refl _)
      have ey := VAll.eq (f := V.str) hv
      subst ey
      refine ⟨Nat.zero_le _, fun m hm => ⟨D, m, _, rfl, rfl, SqL.of (same_new hm _ _ eD5), SqL.of upd_same, ?_⟩⟩
      rw [List.length_map, rdy_law hD0 hq h1]
      exact k _ ((s12.trans s5).trans (same_new hm))
theorem ok_lweight (T : Txt K mg A) : FnOk P w K mg base CX0 1 A.f_l_weight A.d_l_weight ["_law_parts", "_law_j", "_law_bound", "_law_sizes"] spLWeight := by
  refine T.F_l_weight.ok sc_l_weight (fun vs H Q E h => ?_) (fun cdv ar outer s H vs Q E hr h => ?_)
  · obtain ⟨ps, b, z, j, qs, q, xs, kvs, sz, rfl, _⟩ := h
    rfl
  · obtain ⟨ps, b, z, j, qs, q, xs, kvs, sz, rfl, ⟨as, ep, fp⟩, hD0, hq, eb, ez, hz, k⟩ := h
    have hu := hu_of hr
    refine ⟨_, (pss_cons (ps_asg (pe_ix (ixL K) (pv 0) (pv 1) (fun _ _ => rfl)) (tupK K (n := 3) rfl (pgs_cons (pg_name (i := 4) sc_l_weight.nd rfl (Or.inl rfl)) (pgs_cons (pg_name (i := 5) sc_l_weight.nd rfl (Or.inl rfl)) (pgs_cons (pg_name (i := 6) sc_l_weight.nd rfl (Or.inl rfl)) pgs_nil)))))
      (pss_cons (ps_if (pt_cmpR op_ne (pv 4) pe_str (nomark _))
        (pss_one (ps_ret (pe_tup (pa_cons pe_int (pa_cons pe_int (pa_cons pe_int (pa_cons (pv 1) pa_nil)))))))
        pss_nil)
      (pss_cons (ps_set (i := 7) sc_l_weight.nd rfl (Or.inl rfl) (pe_callB (lenK K) (by rfl) T.z_len (by decide +kernel) (pa_cons (pe_lc (own := [("_law_term", 8)]) (by rfl) sc_l_weight.nd (listK K (pv 6)) (blkOk_by (own := [("_law_term", 8)]) (N := N_l_weight) (sc := defScope s_l_weight) (by decide +kernel)) (fun _ _ _ _ _ => (pg_name (i := 8) sc_l_weight.nd rfl (Or.inl rfl))) (fun _ _ _ _ _ => (pts_one (PW.pt (pw_or (pt_not (pt_val (pe_callB (isiK K) (by rfl) T.z_isinstance (by decide +kernel) (pa_cons (pv 8) (pa_cons (pe_bltn (v := .ty "str") (by rfl) T.z_str (by decide +kernel) rfl) pa_nil))))) (pw_or1 (pt_cmpR (inSeq K) (pv 8) (pv 2) (by rfl))))))) (fun _ _ _ _ _ => (pv 8))) pa_nil)))
      (pss_one (ps_ret (pe_ifExp (pt_cmpR op_eq (pv 7) (pe_callB (lenK K) (by rfl) T.z_len (by decide +kernel) (pa_cons (pv 6) pa_nil)) (nomark _)) (pe_tup (pa_cons pe_int (pa_cons pe_int (pa_cons pe_int (pa_cons (pv 1) pa_nil))))) (pe_tup (pa_cons pe_int (pa_cons (pe_op op_sub pe_int (pv 7)) (pa_cons (pe_dget hu (pv 3) (pv 5) (fun _ _ => rfl)) (pa_cons (pv 1) pa_nil))))))))))), ?_⟩
    have hts := hD0.ts hq
    have hj : j < as.length := by rw [fp.1]; exact (List.getElem?_eq_some_iff.mp hq).1
    have hbj : as[j]? = some as[j] := List.getElem?_eq_getElem hj
    obtain ⟨tl, ea, et⟩ := fp.2 j _ q hbj hq
    have hpq : ptd (mkR [] qs) j = q := ptd_at hq
    unfold U.wtL at k
    rw [hpq] at k
    refine ⟨_, rfl, _, rfl, ps, _, _, _, rfl, rfl, SqL.of ep, atI_nat (by rw [List.getElem?_map, hbj]; rfl), as[j], _, rfl, SqT.of ea, rfl, _, _, rfl, _, _, rfl, _, _, rfl, rfl, ?_⟩
    refine ⟨_, rfl, rfl, _, rfl, ?_⟩
    rw [dec_str]
    refine iteND (fun h1 => ?_) (fun h1 => ?_)
    · rw [if_neg h1] at k
      exact ⟨_, rfl, (by show 4 ≤ sizeLine; decide), fun t ht => k t _ (same_new ht) upd_same⟩
    · rw [if_pos h1] at k
      refine ⟨_, rfl, tl, rfl, ⟨_, SqL.of et⟩, fun D hD => ?_⟩
      refine lc_list (K := K) (a := tl) (xs := q.ts.map tvv) (LcI (fun _ y (t : Tm) => y = tvv t) (kn xs) q.ts H D) (LcI.start hD) (fun i H' _ h => SqL.of (h.1 _ _ et)) ?_ ?_
      · intro i x H' hx h
        rw [List.getElem?_map] at hx
        obtain ⟨t, ht, rfl⟩ := Option.map_eq_some_iff.mp hx
        have := hts.1
        cases t with
        | inl s =>
          refine ⟨rfl, _, rfl, _, _, _, _, true, rfl, .ty _, .base (.str s), kit_ty (by decide +kernel), _, rfl, ?_⟩
          refine iteF ⟨V.str s, rfl, _, rfl, b, _, rfl, .inl (SqL.of (h.1 _ _ eb)), rfl, flat_str _, _, rfl, ?_⟩
          rw [if_neg (by decide), inV_str]
          refine iteD (fun hm => ?_) (fun hm => ?_)
          · exact ⟨_, rfl, h.yes (stab_val _) hD (by omega) ht (decide_eq_true hm) (fun _ _ e => e) rfl⟩
          · exact h.no (stab_val _) ht (decide_eq_false hm) (fun _ _ e => e)
        | inr n =>
          refine ⟨rfl, _, rfl, _, _, _, _, false, rfl, .ty _, .base (.int n), kit_ty (by decide +kernel), _, rfl, ?_⟩
          exact iteT ⟨_, rfl, h.yes (stab_val _) hD (by omega) ht rfl (fun _ _ e => e) rfl⟩
      · intro H1 h
        obtain ⟨ys, s1, eD, hv⟩ := h.fin (by rw [List.length_map]; exact Nat.le_refl _)
        have ey := VAll.eq (f := tvv) hv
        subst ey
        refine ⟨D, _, rfl, .inl (SqL.of eD), ?_⟩
        refine ⟨_, rfl, _, rfl, tl, _, rfl, .inl (SqL.of (s1 _ _ et)), rfl, _, rfl, ?_⟩
        rw [dec_int, List.length_map, List.length_map, ← kat_count]
        refine iteD (fun h2 => ?_) (fun h2 => ?_)
        · rw [if_pos (by omega)] at k
          exact ⟨_, rfl, (by show 4 ≤ sizeLine; decide), fun t ht => k t _ (s1.trans (same_new ht)) upd_same⟩
        · rw [if_neg (by omega)] at k
          have hd : DGet H1 z (.str q.name) (some (.int (sz q.name))) := by
            have := DGet.k (k := Sum.inr q.name) (s1 _ _ ez)
            rw [hz h1] at this
            exact this
          exact ⟨_, rfl, _, _, rfl, rfl, _, rfl, _, rfl, z, _, rfl, hd, _, rfl, (by show 4 ≤ sizeLine; decide), fun t ht => k t _ (s1.trans (same_new ht)) upd_same⟩
end
end Toy

set_option Elab.async false
set_option maxRecDepth 100000
set_option maxHeartbeats 4000000
namespace Toy
open PySem L2
open U (Tm Pt RR tn nms vars addN dd rows cnt kn kat wtP wtL ptd nexts)
def bL (qs : List Pt) (given : List Str) (o : List Nat) : List Str := given ++ (o.map fun j => gL (ptd (mkR [] qs) j)).flatten
theorem gL_mem (q : Pt) (x : Str) : x ∈ gL q ↔ x ∈ U.gv q := by
  unfold gL U.gv
  split
  · exact U.dd_mem.symm
  · split
    · exact U.dd_mem.symm
    · exact Iff.rfl
theorem bL_mem (qs : List Pt) (given : List Str) (o : List Nat) (x : Str) : x ∈ bL qs given o ↔ x ∈ U.bnd (mkR [] qs) given o := by
  unfold bL U.bnd
  rw [List.mem_append, List.mem_append, List.mem_flatten, List.mem_flatten]
  apply or_congr Iff.rfl
  constructor
  · rintro ⟨l, hl, hx⟩
    obtain ⟨j, hj, rfl⟩ := List.mem_map.mp hl
    exact ⟨_, List.mem_map.mpr ⟨j, hj, rfl⟩, (gL_mem _ _).mp hx⟩
  · rintro ⟨l, hl, hx⟩
    obtain ⟨j, hj, rfl⟩ := List.mem_map.mp hl
    exact ⟨_, List.mem_map.mpr ⟨j, hj, rfl⟩, (gL_mem _ _).mpr hx⟩
def spPlanned : Sp := fun vs H Q _ => ∃ (ps g z : Addr) (qs : List Pt) (given : List Str) (kvs : List (Key × V)) (sz : Str → Int), vs = [.ref ps, .ref g, .ref z] ∧ LPs H ps qs ∧ Drawn [] qs ∧ H g = some (.tup (given.map V.str)) ∧ given.length ≤ 20 ∧ H z = some (.dK kvs) ∧ (∀ q ∈ qs, q.kind = "pos" → valV kvs (Sum.inr q.name) = some (.int (sz q.name))) ∧
  (U.plN (mkR [] qs) given sz qs.length [] = none → ∀ H', Same H H' → Q .non H') ∧ ∀ ord, U.plN (mkR [] qs) given sz qs.length [] = some ord → ∀ l H', Same H H' → H' l = some (.lst (ord.map nv)) → Q (.ref l) H'
def PlV (H : Hp) (ps g z : Addr) (qs : List Pt) (sz : Str → Int) (given : List Str) (m : Nat) (σ : L2.St) (H3 : Hp) : Prop := ∃ b o x y ord, σ = [some (.ref ps), some (.ref g), some (.ref z), some (.ref b), some (.ref o), x, y] ∧ Same H H3 ∧ H o = none ∧ H3 o = some (.lst (ord.map nv)) ∧ H3 b = some (.lst ((bL qs given ord).map V.str)) ∧ b ≠ o ∧ ord.length + m = qs.length ∧ (∀ j ∈ ord, j < qs.length) ∧ U.plN (mkR [] qs) given sz m ord = U.plN (mkR [] qs) given sz qs.length []
theorem gL_len {q : Pt} (h : WfT q.ts) : (gL q).length ≤ 20 := by
  unfold gL
  have h1 := h.1
  split
  · exact Nat.le_trans (U.vars_len _) h1
  · split
    · refine Nat.le_trans (U.vars_len _) ?_
      rw [List.length_take]
      omega
    · exact Nat.zero_le _
theorem bL_len {qs : List Pt} (hD : Drawn [] qs) {given : List Str} (hg : given.length ≤ 20) {o : List Nat} (ho : o.length ≤ 20) (hlt : ∀ j ∈ o, j < qs.length) : (bL qs given o).length ≤ 420 := by
  unfold bL
  rw [List.length_append]
  have h1 := U.flat_len (m := 20) (o.map fun j => gL (ptd (mkR [] qs) j)) fun l hl => by
    obtain ⟨j, hj, rfl⟩ := List.mem_map.mp hl
    have hjq := hlt j hj
    have hq : (mkR [] qs).body[j]? = some qs[j] := List.getElem?_eq_getElem hjq
    rw [ptd_at hq]
    exact gL_len (hD.ts (List.getElem?_eq_getElem hjq))
  rw [List.length_map] at h1
  have h2 : o.length * 20 ≤ 20 * 20 := Nat.mul_le_mul_right _ ho
  omega
theorem bL_snoc (qs : List Pt) (given : List Str) (o : List Nat) (j : Nat) : bL qs given (o ++ [j]) = bL qs given o ++ gL (ptd (mkR [] qs) j) := by
  unfold bL
  rw [List.map_append, List.flatten_append, List.append_assoc]
  simp
theorem light_law {qs : List Pt} {given : List Str} {sz : Str → Int} {o : List Nat} : U.lightN (mkR [] qs) given sz o = match nexts (mkR [] qs) o (bL qs given o) with
    | [] => none
    | j :: js => some (U.bst (wtL (mkR [] qs) (bL qs given o) sz) j js) := by
  unfold U.lightN
  rw [U.nexts_congr (fun x => bL_mem qs given o x)]
  cases nexts (mkR [] qs) o (U.bnd (mkR [] qs) given o) with
  | nil => rfl
  | cons j js =>
    show some _ = some _
    congr 1
    rw [← U.bst_same (U.wt_same (mkR [] qs) (bL qs given o) sz) js j]
    congr 1
    funext i
    rw [U.wtP_congr (fun x => (bL_mem qs given o x).symm)]
section
variable {P : Program} {w : World} {K : PySem.W.Frag} {mg : Str → Option Value} {base : Heap} {A : Ad}
theorem ok_lplanned (T : Txt K mg A) : FnOk P w K mg base CX0 3 A.f_l_planned A.d_l_planned ["_law_parts", "_law_given", "_law_sizes"] spPlanned := by
  have G_l_ready : FnOk P w K mg base CX0 2 A.f_l_ready A.d_l_ready ["_law_parts", "_law_j", "_law_bound"] spLReady := ok_lready T
  have G_l_weight : FnOk P w K mg base CX0 1 A.f_l_weight A.d_l_weight ["_law_parts", "_law_j", "_law_bound", "_law_sizes"] spLWeight := ok_lweight T
  have G_l_gives : FnOk P w K mg base CX0 2 A.f_l_gives A.d_l_gives ["_law_part_here"] spLGives := ok_lgives T
  refine T.F_l_planned.ok sc_l_planned (fun vs H Q E h => ?_) (fun cdv ar outer s H vs Q E hr h => ?_)
  · obtain ⟨ps, g, z, qs, given, kvs, sz, rfl, _⟩ := h
    rfl
  · obtain ⟨ps, g, z, qs, given, kvs, sz, rfl, hps, hD0, eg, hg20, ez, hz, kN, kS⟩ := h
    obtain ⟨as, ep, fp⟩ := id hps
    have h20 : qs.length ≤ 20 := hD0.wf.body.1
    refine ⟨_, (C8.pss_cut (ps_asg (pe_tup (pa_cons (pe_callTy (listOf K) (by rfl) T.z_list (by decide +kernel) (pa_cons (pv 1) pa_nil)) (pa_cons (pe_lst pa_nil) pa_nil))) (tupK K (n := 2) rfl (pgs_cons (pg_name (i := 3) sc_l_planned.nd rfl (Or.inr rfl)) (pgs_cons (pg_name (i := 4) sc_l_planned.nd rfl (Or.inr rfl)) pgs_nil))))
      (C8.pss_cut (ps_while PassesOwn.never (pt_cmpR op_lt (pe_callB (lenK K) (by rfl) T.z_len (by decide +kernel) (pa_cons (pv 4) pa_nil)) (pe_callB (lenK K) (by rfl) T.z_len (by decide +kernel) (pa_cons (pv 0) pa_nil)) (nomark _))
        (C8.pss_cut (ps_setLc (i := 5) (own := [("_law_j", 6)]) (by rfl) sc_l_planned.nd rfl rfl (sw_true rfl rfl rfl (by decide +kernel)) (pi_range1 (by rfl) T.z_range (pa_cons (pe_callB (lenK K) (by rfl) T.z_len (by decide +kernel) (pa_cons (pv 0) pa_nil)) pa_nil)) (blkOk_by (own := [("_law_j", 6)]) (N := N_l_planned) (sc := defScope s_l_planned) (by decide +kernel)) (fun _ _ _ _ _ => (pg_name (i := 6) sc_l_planned.nd rfl (Or.inl rfl))) (fun _ _ _ _ _ => (pts_one (PW.pt (pw_and (pt_cmpR (notInSeq K) (pv 6) (pv 4) (by rfl)) (pw_and1 (pt_val (pe_call G_l_ready (hr.mono (by decide)) (by rfl) T.m_l_ready T.F_l_ready.kp T.b_l_ready .nil pass0 (pa_cons (pv 0) (pa_cons (pv 6) (pa_cons (pv 3) pa_nil)))))))))) (fun _ _ _ _ _ => (pe_call G_l_weight (hr.mono (by decide)) (by rfl) T.m_l_weight T.F_l_weight.kp T.b_l_weight .nil pass0 (pa_cons (pv 0) (pa_cons (pv 6) (pa_cons (pv 3) (pa_cons (pv 2) pa_nil)))))))
        (C8.pss_cut (ps_if (pt_cmpR (eqL K hr.units0) (pv 5) (pe_lst pa_nil) (nomark _))
          (pss_one (ps_ret pe_non))
          pss_nil)
        (C8.pss_cut (ps_expr (appK K (pv 4) (pa_cons (pe_ix (ixT K) (pe_callB (min4K K hr.units) (by rfl) T.z_min (by decide +kernel) (pa_cons (pv 5) pa_nil)) pe_int (fun _ _ => rfl)) pa_nil)))
        (pss_one (ps_set (i := 3) sc_l_planned.nd rfl (Or.inr rfl) (pe_op op_cat (pv 3) (pe_call G_l_gives (hr.mono (by decide)) (by rfl) T.m_l_gives T.F_l_gives.kp T.b_l_gives .nil pass0 (pa_cons (pe_ix (ixL K) (pv 0) (pe_ix (ixL K) (pv 4) (pe_un un_neg pe_int) (fun _ _ => rfl)) (fun _ _ => rfl)) pa_nil)))))))))
      (pss_one (ps_ret (pv 4))))), ?_⟩
    have hqs : ∀ j, j < qs.length → qs[j]? = some (ptd (mkR [] qs) j) := fun j hj => by
      have hq : (mkR [] qs).body[j]? = some qs[j] := List.getElem?_eq_getElem hj
      rw [ptd_at hq]
      exact List.getElem?_eq_getElem hj
    refine ⟨PlV H ps g z qs sz given qs.length, ?_, ?_⟩
    · refine ⟨_, rfl, g, _, rfl, .inr (SqT.of eg), fun b hb => ⟨Nat.zero_le _, fun o ho => ⟨(by show 2 ≤ sizeLine; decide), fun t ht => ?_⟩⟩⟩
      have sb := same_new (o := .lst (given.map V.str)) hb
      have so := same_new (o := .lst []) ho
      have st := same_new (o := .tup [.ref b, .ref o]) ht
      have nbo : b ≠ o := ne_of_none upd_same ho
      refine ⟨t, _, rfl, SqT.of upd_same, rfl, _, _, rfl, _, _, rfl, rfl, b, o, none, none, [], rfl, (sb.trans so).trans st, ?_, st _ _ upd_same, ?_, nbo, by simp, (fun j hj => nomatch hj), rfl⟩
      · rw [upd_ne nbo.symm] at ho
        exact ho
      · have : bL qs given [] = given := by unfold bL; simp
        rw [this]
        exact st _ _ (so _ _ upd_same)
    rintro σ H1 hPl
    refine ⟨PlV H ps g z qs sz given 0, ?_, ?_⟩
    · refine ⟨PlV H ps g z qs sz given, ⟨_, hPl⟩, ?_⟩
      rintro m σ H3 ⟨b, o, x, y, ord, rfl, s3, hoN, eo3, eb3, nbo, hm, hlt, hpl⟩
      refine ⟨_, rfl, o, _, rfl, .inl (SqL.of eo3), _, rfl, ps, _, rfl, .inl (SqL.of (s3 _ _ ep)), ?_⟩
      have ebl : (as.map V.ref).length = qs.length := by rw [List.length_map, fp.1]
      have eol : (ord.map nv).length = ord.length := List.length_map _
      rw [ebl, eol]
      refine ⟨_, _, rfl, rfl, _, rfl, ?_⟩
      refine iteD (fun h1 => ?c1) (fun h1 => ?c2)
      case c2 =>
        have h2 : m = 0 := by omega
        subst h2
        exact ⟨b, o, x, y, ord, rfl, s3, hoN, eo3, eb3, nbo, hm, hlt, hpl⟩
      case c1 =>
        obtain ⟨m, rfl⟩ : ∃ m', m = m' + 1 := ⟨m - 1, by omega⟩
        refine ⟨fun σ' H' => ∃ m', m' < m + 1 ∧ PlV H ps g z qs sz given m' σ' H', fun _ _ h => h, ?_⟩
        have hnl : (nexts (mkR [] qs) ord (bL qs given ord)).length ≤ 20 := Nat.le_trans (U.nexts_len _ _ _) h20
        refine ⟨fun σ H4 => ∃ D cs y, σ = [some (.ref ps), some (.ref g), some (.ref z), some (.ref b), some (.ref o), some (.ref D), y] ∧ Same H3 H4 ∧ H4 D = some (.lst (cs.map V.ref)) ∧ All2 (fun c j => H4 c = some (.tup (wtL (mkR [] qs) (bL qs given ord) sz j).vs)) cs (nexts (mkR [] qs) ord (bL qs given ord)), ?_, ?_⟩
        · refine ⟨_, rfl, ps, _, rfl, .inl (SqL.of (s3 _ _ ep)), _, rfl, (by omega), (by rw [ebl]; omega), fun D hD => ?_⟩
          have en : (((as.map V.ref).length : Nat) : Int).toNat = qs.length := by rw [Int.toNat_natCast, ebl]
          rw [en]
          have st : Stab D fun H y (i : Nat) => ∃ t, y = .ref t ∧ H t = some (.tup (wtL (mkR [] qs) (bL qs given ord) sz i).vs) := ⟨fun ⟨a, e, h⟩ s => ⟨a, e, s _ _ h⟩, fun hl ⟨a, e, h⟩ => ⟨a, e, by rw [upd_ne (ne_of h hl (fun q => nomatch q))]; exact h⟩⟩
          refine lc_range (n := qs.length) (LcI (fun H y (i : Nat) => ∃ t, y = .ref t ∧ H t = some (.tup (wtL (mkR [] qs) (bL qs given ord) sz i).vs)) (fun j => decide (j ∉ ord) && U.rdy (mkR [] qs) (bL qs given ord) (ptd (mkR [] qs) j)) (List.range qs.length) H3 D) (LcI.start hD) ?_ ?_
          · rintro i H5 hi h
            have ei : (0 : Int) + (i : Nat) = ((i : Nat) : Int) := by omega
            rw [ei]
            have eri : (List.range qs.length)[i]? = some i := List.getElem?_range hi
            refine ⟨rfl, _, rfl, _, rfl, o, ord.map nv, rfl, .inl (SqL.of (h.1 _ _ eo3)), rfl, flat_nv _, _, rfl, ?_⟩
            have e1 : inV (.int ((i : Nat) : Int)) (ord.map nv) = decide (i ∈ ord) := inV_nv i ord
            rw [if_pos rfl, e1]
            by_cases hm : i ∈ ord
            · rw [decide_eq_true hm]
              refine iteF (iteF (h.no st eri ?_ (fun _ _ e => e)))
              simp [hm]
            · rw [decide_eq_false hm]
              refine iteT ⟨_, rfl, _, rfl, _, rfl, ps, b, i, qs, _, bL qs given ord, rfl, hps.up (s3.trans h.1), hD0, hqs i hi, h.1 _ _ eb3, fun H6 s6 => ⟨_, rfl, ?_⟩⟩
              have s06 := s3.trans (h.1.trans s6)
              cases er : U.rdy (mkR [] qs) (bL qs given ord) (ptd (mkR [] qs) i) with
              | true =>
                refine iteT ⟨_, rfl, _, rfl, _, rfl, _, rfl, ps, b, z, i, qs, _, bL qs given ord, kvs, sz, rfl, hps.up s06, hD0, hqs i hi, s6 _ _ (h.1 _ _ eb3), s06 _ _ ez, hz _ (List.mem_of_getElem? (hqs i hi)), fun t H7 s7 et => ?_⟩
                exact h.yes st hD (by rw [List.length_range]; omega) eri (by simp [hm, er]) (s6.trans s7) ⟨t, rfl, et⟩
              | false => exact iteF (h.no st eri (by simp [er]) s6)
          · intro H5 h
            obtain ⟨ys, s5, eD, hv⟩ := h.fin (by rw [List.length_range]; exact Nat.le_refl _)
            obtain ⟨cs, rfl, hcs⟩ := hv.refs
            exact ⟨D, cs, _, rfl, s5, eD, hcs⟩
        rintro σ H4 ⟨D, cs, y, rfl, s4, eD, hcs⟩
        have s34 := s3.trans s4
        have hll := light_law (qs := qs) (given := given) (sz := sz) (o := ord)
        refine ⟨fun σ H5 => Same H4 H5 ∧ σ = [some (.ref ps), some (.ref g), some (.ref z), some (.ref b), some (.ref o), some (.ref D), y] ∧ nexts (mkR [] qs) ord (bL qs given ord) ≠ [], ?_, ?_⟩
        · refine ⟨_, rfl, Nat.zero_le _, fun m hm => ⟨D, m, _, rfl, rfl, SqL.of (same_new hm _ _ eD), SqL.of upd_same, _, rfl, ?_⟩⟩
          rw [List.length_map, hcs.1]
          refine iteD (fun h5 => ?_) (fun h5 => ⟨same_new hm, rfl, fun z => h5 (by rw [z]; rfl)⟩)
          refine kN ?_ _ (s34.trans (same_new hm))
          rw [← hpl]
          unfold U.plN
          rw [hll, List.length_eq_zero_iff.mp h5]
        rintro σ H5 ⟨s5, rfl, hne⟩
        obtain ⟨j, hj, hjn⟩ : ∃ j, U.lightN (mkR [] qs) given sz ord = some j ∧ ∃ j0 js, nexts (mkR [] qs) ord (bL qs given ord) = j0 :: js ∧ j = U.bst (wtL (mkR [] qs) (bL qs given ord) sz) j0 js := by
          cases e : nexts (mkR [] qs) ord (bL qs given ord) with
          | nil => exact absurd e hne
          | cons j0 js =>
            rw [e] at hll
            exact ⟨_, hll, j0, js, rfl, rfl⟩
        obtain ⟨j0, js, en, ej⟩ := hjn
        obtain ⟨hj1, hj2, hj3⟩ := U.light_mem hj
        rw [en] at hcs
        have eo5 := s5 _ _ (s4 _ _ eo3)
        have s35 := s34.trans s5
        refine ⟨fun σ H6 => H6 = upd H5 o (.lst ((ord ++ [j]).map nv)) ∧ σ = [some (.ref ps), some (.ref g), some (.ref z), some (.ref b), some (.ref o), some (.ref D), y], ?_, ?_⟩
        · refine ⟨_, rfl, .inl ⟨rfl, _, SqL.of eo5⟩, _, rfl, D, cs, wtL (mkR [] qs) (bL qs given ord) sz j0, js.map (wtL (mkR [] qs) (bL qs given ord) sz), rfl, SqL.of (s5 _ _ eD), ?_, fun i c y h1 h2 => ?_, fun c hc4 => ?_⟩
          · rw [hcs.1, List.length_cons, List.length_cons, List.length_map]
          · have h2' : ((j0 :: js).map (wtL (mkR [] qs) (bL qs given ord) sz))[i]? = some y := h2
            rw [List.getElem?_map] at h2'
            obtain ⟨n, hn, rfl⟩ := Option.map_eq_some_iff.mp h2'
            exact SqT.of (s5 _ _ (hcs.2 i c n h1 hn))
          · rw [U.min_bst, ← ej] at hc4
            refine ⟨c, _, _, _, rfl, rfl, hc4, (rfl : atI (N4.vs _) 3 = some _), o, _, _, rfl, rfl, eo5, ?_, ?_, rfl⟩
            · rw [eol]
              have h5 : (5000 : Nat) ≤ sizeLine := by decide
              omega
            · rw [U.wtL_d, List.map_append]
              rfl
        rintro σ H6 ⟨e6, rfl⟩
        have s6 : Same H H6 := by rw [e6]; exact same_mut s35 hoN
        have eo6 : H6 o = some (.lst ((ord ++ [j]).map nv)) := by rw [e6, upd_same]
        have eb6 : H6 b = some (.lst ((bL qs given ord).map V.str)) := by rw [e6, upd_ne nbo]; exact s5 _ _ (s4 _ _ eb3)
        have hja : j < as.length := by rw [fp.1]; exact hj1
        have hLP := fp.2 j _ _ (List.getElem?_eq_getElem hja) (hqs j hj1)
        have hbl := bL_len hD0 hg20 (o := ord) (by omega) hlt
        have hgl := gL_len (hD0.ts (hqs j hj1))
        refine ⟨_, rfl, _, rfl, _, rfl, _, rfl, o, _, _, _, rfl, rfl, SqL.of eo6, (by rw [List.map_append]; exact L2.atI_last _ _), ps, _, _, _, rfl, rfl, SqL.of (s6 _ _ ep), atI_nat (by rw [List.getElem?_map, List.getElem?_eq_getElem hja]; rfl), as[j], _, rfl, hLP.up s6, (hD0.ts (hqs j hj1)).1, hD0.lets _ (List.mem_of_getElem? (hqs j hj1)), fun l H7 s7 el => ?_⟩
        refine ⟨b, l, _, _, rfl, rfl, s7 _ _ eb6, el, ?_, fun m' hm' => ⟨m, by omega, m', o, _, _, ord ++ [j], rfl, (s6.trans s7).trans (same_new hm'), hoN, same_new hm' _ _ (s7 _ _ eo6), ?_, (ne_of_none (s7 _ _ eo6) hm').symm, ?_, ?_, ?_⟩⟩
        · rw [List.length_map, List.length_map]
          exact sz' (by omega)
        · rw [upd_same, bL_snoc, List.map_append]
        · rw [List.length_append]
          simp
          omega
        · intro k hk
          rcases List.mem_append.mp hk with hk | hk
          · exact hlt k hk
          · rw [List.mem_singleton.mp hk]
            exact hj1
        · rw [← hpl]
          conv => rhs; unfold U.plN
          rw [hj]
    rintro σ H2 ⟨b, o, x, y, ord, rfl, s2, hoN, eo2, _, _, hm, hlt, hpl⟩
    exact ⟨_, rfl, kS ord hpl.symm o H2 s2 eo2⟩
end
end Toy

set_option Elab.async false
set_option maxRecDepth 100000
set_option maxHeartbeats 4000000
namespace Toy
open PySem L2
open U (Tm Pt RR tn nms vars addN dd rows cnt kn kat wtP wtL ptd nexts)
/-! ### what is drawn -/
def gT : Tm → Prop
  | .inl s => s = "N" ∨ s = "X" ∨ s = "Y" ∨ s = "Z"
  | .inr i => 0 ≤ i ∧ i ≤ 7
theorem gT_ok {t : Tm} (h : gT t) : okT t = true := by
  cases t with
  | inl s =>
    rcases h with rfl | rfl | rfl | rfl <;> decide +kernel
  | inr i => rfl
structure GoodP (q : Pt) : Prop where
  kind : q.kind = "pos" ∨ q.kind = "neg" ∨ q.kind = "cmp" ∨ q.kind = "let"
  lets : q.kind = "let" → ∃ s tr, q.ts = .inl s :: tr
  ts : q.ts.length ≤ 3 ∧ ∀ t ∈ q.ts, gT t
  name : q.name = "p" ∨ q.name = "q" ∨ q.name = "+" ∨ q.name = "<"
  nm : q.kind = "pos" ∨ q.kind = "neg" → q.name = "p" ∨ q.name = "q"
/-- a part as drawn, apart from the dice -/
def LPtX (d : Addr) (H : Hp) (a : Addr) (q : Pt) : Prop := ∃ tl, H a = some (.tup [.str q.kind, .str q.name, .ref tl]) ∧ H tl = some (.lst (q.ts.map tvv)) ∧ tl ≠ d
theorem sign3 {j : Int} (h0 : 0 ≤ j) (h1 : j < 3) : ∃ (s : Str) (c : Nat), gT (.inl s) ∧ atI (("XYZ" : Str).cps.toList) j = some c ∧ (.str s : V) = .str ⟨#[c]⟩ := by
  have : j = 0 ∨ j = 1 ∨ j = 2 := by omega
  rcases this with rfl | rfl | rfl
  · exact ⟨"X", 88, .inr (.inl rfl), by decide +kernel, by decide +kernel⟩
  · exact ⟨"Y", 89, .inr (.inr (.inl rfl)), by decide +kernel, by decide +kernel⟩
  · exact ⟨"Z", 90, .inr (.inr (.inr rfl)), by decide +kernel, by decide +kernel⟩
theorem sign2 {j : Int} (h0 : 0 ≤ j) (h1 : j < 2) : ∃ (s : Str) (c : Nat), (s = "p" ∨ s = "q") ∧ atI (("pq" : Str).cps.toList) j = some c ∧ (.str s : V) = .str ⟨#[c]⟩ := by
  have : j = 0 ∨ j = 1 := by omega
  rcases this with rfl | rfl
  · exact ⟨"p", 112, .inl rfl, by decide +kernel, by decide +kernel⟩
  · exact ⟨"q", 113, .inr rfl, by decide +kernel, by decide +kernel⟩
theorem kind5 {j : Int} (h0 : 0 ≤ j) (h1 : j < 5) : ∃ s : Str, (s = "pos" ∨ s = "neg" ∨ s = "cmp" ∨ s = "let") ∧ atI ([.str "pos", .str "pos", .str "neg", .str "cmp", .str "let"] : List V) j = some (.str s) := by
  have : j = 0 ∨ j = 1 ∨ j = 2 ∨ j = 3 ∨ j = 4 := by omega
  rcases this with rfl | rfl | rfl | rfl | rfl
  · exact ⟨"pos", .inl rfl, rfl⟩
  · exact ⟨"pos", .inl rfl, rfl⟩
  · exact ⟨"neg", .inr (.inl rfl), rfl⟩
  · exact ⟨"cmp", .inr (.inr (.inl rfl)), rfl⟩
  · exact ⟨"let", .inr (.inr (.inr rfl)), rfl⟩
def spPart : Sp := fun vs H Q _ => ∃ d : Addr, vs = [.ref d] ∧ DiceAt H d ∧ ∀ a q tl H', GoodP q → SameX d H H' → DiceAt H' d → H tl = none → tl ≠ d → H' a = some (.tup [.str q.kind, .str q.name, .ref tl]) → H' tl = some (.lst (q.ts.map tvv)) → Q (.ref a) H'
/-- what a comprehension over the dice has made -/
def LcD (d : Addr) (H0 : Hp) (D : Addr) (i : Nat) (H : Hp) : Prop := SameX d H0 H ∧ DiceAt H d ∧ ∃ ts : List Tm, H D = some (.lst (ts.map tvv)) ∧ ts.length = i ∧ ∀ t ∈ ts, gT t
theorem LcD.start {d D : Addr} {H0 : Hp} (hD : H0 D = none) (hd : DiceAt H0 d) : LcD d H0 D 0 (upd H0 D (.lst [])) := ⟨Same.x (same_new hD), hd.up1 (hd.ne hD), [], upd_same, rfl, fun _ h => nomatch h⟩
theorem LcD.yes {d D : Addr} {H0 H H2 : Hp} {i : Nat} {t : Tm} (hD : H0 D = none) (h : LcD d H0 D i H) (hi : i ≤ 900) (s : SameX d H H2) (hd : DiceAt H2 d) (nd : D ≠ d) (ht : gT t) :
    ∃ acc, H2 D = some (.lst acc) ∧ acc.length < sizeLine ∧ LcD d H0 D (i + 1) (upd H2 D (.lst (acc ++ [tvv t]))) := by
  obtain ⟨s1, _, ts, eD, hl, hg⟩ := h
  have e2 := s _ _ eD nd
  refine ⟨ts.map tvv, e2, by rw [List.length_map, hl]; exact sz (by omega), fun b o e nb => ?_, hd.up1 nd.symm, ts ++ [t], ?_, by rw [List.length_append, hl]; rfl, fun u hu => ?_⟩
  · rw [upd_ne (ne_of_none e hD)]
    exact s _ _ (s1 _ _ e nb) nb
  · rw [upd_same, List.map_append]
    rfl
  · rcases List.mem_append.mp hu with z | z
    · exact hg u z
    · rw [List.mem_singleton] at z
      rw [z]
      exact ht
section
variable {P : Program} {w : World} {K : PySem.W.Frag} {mg : Str → Option Value} {base : Heap} {A : Ad}
theorem ok_lpart (T : Txt K mg A) : FnOk P w K mg base CX0 2 A.f_l_part A.d_l_part ["_law_dice_here"] spPart := by
  have G_l_roll : FnOk P w K mg base CX0 1 A.f_l_roll A.d_l_roll ["_law_dice_here", "_law_many"] spRoll := ok_roll T
  refine T.F_l_part.ok sc_l_part (fun vs H Q E h => ?_) (fun cdv ar outer s H vs Q E hr h => ?_)
  · obtain ⟨d, rfl, _⟩ := h
    rfl
  · obtain ⟨d, rfl, hd, k⟩ := h
    refine ⟨_, (pss_cons (ps_set (i := 1) sc_l_part.nd rfl (Or.inl rfl) (pe_ix (ixL K) (pe_lst (pa_cons pe_str (pa_cons pe_str (pa_cons pe_str (pa_cons pe_str (pa_cons pe_str pa_nil)))))) (pe_call G_l_roll (hr.mono (by decide)) (by rfl) T.m_l_roll T.F_l_roll.kp T.b_l_roll .nil pass0 (pa_cons (pv 0) (pa_cons pe_int pa_nil))) (fun _ _ => rfl)))
      (pss_cons (ps_setLc (i := 2) (own := [("_law_k", 3)]) (by rfl) sc_l_part.nd rfl rfl (sw_true rfl rfl rfl (by decide +kernel)) (pi_range1 (by rfl) T.z_range (pa_cons pe_int pa_nil)) (blkOk_by (own := [("_law_k", 3)]) (N := N_l_part) (sc := defScope s_l_part) (by decide +kernel)) (fun _ _ _ _ _ => (pg_name (i := 3) sc_l_part.nd rfl (Or.inl rfl))) (fun _ _ _ _ _ => pts_nil) (fun _ _ _ _ _ => (pe_ifExp (pt_cmpR op_gt (pe_call G_l_roll (hr.mono (by decide)) (by rfl) T.m_l_roll T.F_l_roll.kp T.b_l_roll .nil pass0 (pa_cons (pv 0) (pa_cons pe_int pa_nil))) pe_int (nomark _)) (pe_ix ix_str pe_str (pe_call G_l_roll (hr.mono (by decide)) (by rfl) T.m_l_roll T.F_l_roll.kp T.b_l_roll .nil pass0 (pa_cons (pv 0) (pa_cons pe_int pa_nil))) (fun _ _ => rfl)) (pe_call G_l_roll (hr.mono (by decide)) (by rfl) T.m_l_roll T.F_l_roll.kp T.b_l_roll .nil pass0 (pa_cons (pv 0) (pa_cons pe_int pa_nil))))))
      (pss_cons (ps_if (pt_cmpR op_eq (pv 1) pe_str (nomark _))
        (pss_one (ps_ret (pe_tup (pa_cons (pv 1) (pa_cons pe_str (pa_cons (pe_op op_cat (pe_lst (pa_cons pe_str pa_nil)) (pe_slice (slL K) (pv 2) (po_some pe_int) po_none)) pa_nil))))))
        pss_nil)
      (pss_one (ps_ret (pe_tup (pa_cons (pv 1) (pa_cons (pe_ifExp (pt_cmpR op_eq (pv 1) pe_str (nomark _)) pe_str (pe_ix ix_str pe_str (pe_call G_l_roll (hr.mono (by decide)) (by rfl) T.m_l_roll T.F_l_roll.kp T.b_l_roll .nil pass0 (pa_cons (pv 0) (pa_cons pe_int pa_nil))) (fun _ _ => rfl))) (pa_cons (pe_slice (slL K) (pv 2) po_none (po_some pe_int)) pa_nil))))))))), ?_⟩
    refine ⟨(by show 5 ≤ sizeLine; decide), fun l0 hl0 => ?_⟩
    have hd0 : DiceAt (upd H l0 (.lst [.str "pos", .str "pos", .str "neg", .str "cmp", .str "let"])) d := hd.up1 (hd.ne hl0)
    have nl0 : l0 ≠ d := (hd.ne hl0).symm
    refine ⟨_, rfl, d, 5, rfl, hd0, by decide, by decide, fun kk H1 k0 k1 d1 f1 => ?_⟩
    obtain ⟨kd, hkd, hat⟩ := kind5 k0 k1
    refine ⟨l0, _, _, _, rfl, rfl, SqL.of (by rw [f1 l0 nl0, upd_same]), hat, ?_⟩
    have x1 : SameX d H H1 := (Same.x (same_new hl0)).trans (sx_of f1)
    refine ⟨3, rfl, by decide, by decide, fun D hD => ?_⟩
    have ndD : D ≠ d := (d1.ne hD).symm
    refine lc_range (n := 3) (LcD d H1 D) (LcD.start hD d1) ?_ ?_
    · intro i H2 hi h
      obtain ⟨x2, d2, _⟩ := id h
      refine ⟨rfl, _, rfl, d, 5, rfl, d2, by decide, by decide, fun n H3 n0 n1 d3 f3 => ⟨_, _, rfl, rfl, _, rfl, ?_⟩⟩
      refine iteD (fun _ => ?_) (fun _ => ?_)
      · refine ⟨_, rfl, d, 3, rfl, d3, by decide, by decide, fun j H4 j0 j1 d4 f4 => ?_⟩
        obtain ⟨s0, c, hs, hat2, es⟩ := sign3 j0 j1
        refine ⟨_, _, _, rfl, rfl, (by decide +kernel), hat2, ?_⟩
        rw [← es]
        exact LcD.yes (t := .inl s0) hD h (by omega) ((sx_of f3).trans (sx_of f4)) d4 ndD hs
      · refine ⟨_, rfl, d, 3, rfl, d3, by decide, by decide, fun j H4 j0 j1 d4 f4 => ?_⟩
        exact LcD.yes (t := .inr j) hD h (by omega) ((sx_of f3).trans (sx_of f4)) d4 ndD ⟨j0, by omega⟩
    · rintro H2 ⟨x2, d2, ts, eD, hlen, hg⟩
      have x02 := x1.trans x2
      refine ⟨_, rfl, rfl, _, rfl, ?_⟩
      rw [dec_str]
      refine iteD (fun hk => ?_) (fun hk => ?_)
      · have hs : gT (.inl "N") := .inl rfl
        refine ⟨_, rfl, (by show 1 ≤ sizeLine; decide), fun l hl => ?_⟩
        have eD5 := same_new (o := .lst [V.str "N"]) hl _ _ eD
        have d5 := d2.up1 (o := .lst [V.str "N"]) (d2.ne hl)
        have el5 : upd H2 l (.lst [V.str "N"]) l = some (.lst [V.str "N"]) := upd_same
        have x5 : SameX d H (upd H2 l (.lst [V.str "N"])) := x02.trans (Same.x (same_new hl))
        generalize upd H2 l (.lst [V.str "N"]) = H5 at eD5 d5 el5 x5 ⊢
        refine ⟨_, rfl, _, rfl, D, _, rfl, SqL.of eD5, fun m hm => ?_⟩
        refine ⟨l, m, _, _, rfl, rfl, same_new hm _ _ el5, upd_same, ?_, fun q hq => ⟨(by show 3 ≤ sizeLine; decide), fun p hp => ?_⟩⟩
        · rw [show ((1 : Int)) = ((1 : Nat) : Int) from rfl, cut_drop, List.length_drop, List.length_map, hlen]
          show 1 + 2 ≤ sizeLine
          decide
        · have s6 := ((same_new (o := .lst (cutV (ts.map tvv) (some 1) none)) hm).trans (same_new (o := .lst ([V.str "N"] ++ cutV (ts.map tvv) (some 1) none)) hq)).trans (same_new (o := .tup [.str kd, .str "+", .ref q]) hp)
          have nq : d ≠ q := (d5.up (same_new (o := .lst (cutV (ts.map tvv) (some 1) none)) hm)).ne hq
          have hqH : H q = none := (x5.trans (Same.x (same_new (o := .lst (cutV (ts.map tvv) (some 1) none)) hm))).free nq.symm hq
          refine k p ⟨kd, "+", .inl "N" :: ts.drop 1⟩ q _ ⟨hkd, fun _ => ⟨"N", _, rfl⟩, ⟨?_, ?_⟩, .inr (.inr (.inl rfl)), fun z => ?_⟩ (x5.trans (Same.x s6)) (d5.up s6) hqH nq.symm upd_same ?_
          · show (ts.drop 1).length + 1 ≤ 3
            rw [List.length_drop, hlen]
            decide
          · intro t ht
            rcases List.mem_cons.mp ht with rfl | ht
            · exact hs
            · exact hg t (List.mem_of_mem_drop ht)
          · have z : kd = "pos" ∨ kd = "neg" := z
            rw [hk] at z
            exfalso
            revert z
            decide +kernel
          · rw [upd_ne (ne_of_none upd_same hp), upd_same, show ((1 : Int)) = ((1 : Nat) : Int) from rfl, cut_drop, List.map_cons, List.map_drop]
            rfl
      · refine ⟨_, rfl, _, rfl, rfl, _, rfl, ?_⟩
        rw [dec_str]
        have last : ∀ (nm : Str) (H4 : Hp), SameX d H H4 → DiceAt H4 d → H4 D = some (.lst (ts.map tvv)) → (nm = "p" ∨ nm = "q" ∨ nm = "+" ∨ nm = "<") → (kd = "pos" ∨ kd = "neg" → nm = "p" ∨ nm = "q") → ∀ m, H4 m = none → ∀ p, upd H4 m (.lst (cutV (ts.map tvv) none (some 2))) p = none →
            Q (.ref p) (upd (upd H4 m (.lst (cutV (ts.map tvv) none (some 2)))) p (.tup [.str kd, .str nm, .ref m])) := fun nm H4 x4 d4 eD4 hnm hnm2 m hm p hp => by
          have s6 := (same_new (o := .lst (cutV (ts.map tvv) none (some 2))) hm).trans (same_new (o := .tup [.str kd, .str nm, .ref m]) hp)
          refine k p ⟨kd, nm, ts.take 2⟩ m _ ⟨hkd, fun z => absurd z hk, ⟨?_, fun t ht => hg t (List.mem_of_mem_take ht)⟩, hnm, hnm2⟩ (x4.trans (Same.x s6)) (d4.up s6) (x4.free (d4.ne hm).symm hm) (d4.ne hm).symm upd_same ?_
          · show (ts.take 2).length ≤ 3
            rw [List.length_take]
            omega
          · rw [upd_ne (ne_of_none upd_same hp), upd_same, show ((2 : Int)) = ((2 : Nat) : Int) from rfl, cut_take, List.map_take]
        refine iteD (fun hk2 => ?_) (fun hk2 => ?_)
        · refine ⟨_, rfl, _, rfl, D, _, rfl, SqL.of eD, fun m hm => ⟨(by show 3 ≤ sizeLine; decide), fun p hp => ?_⟩⟩
          exact last "<" H2 x02 d2 eD (.inr (.inr (.inr rfl))) (fun z => by
            rw [hk2] at z
            exfalso
            revert z
            decide +kernel) m hm p hp
        · refine ⟨_, rfl, d, 2, rfl, d2, by decide, by decide, fun j H4 j0 j1 d4 f4 => ?_⟩
          obtain ⟨s0, c, hs, hat2, es⟩ := sign2 j0 j1
          refine ⟨_, _, _, rfl, rfl, (by decide +kernel), hat2, ?_⟩
          rw [← es]
          have eD4 : H4 D = some (.lst (ts.map tvv)) := by rw [f4 D ndD]; exact eD
          refine ⟨_, rfl, _, rfl, D, _, rfl, SqL.of eD4, fun m hm => ⟨(by show 3 ≤ sizeLine; decide), fun p hp => ?_⟩⟩
          exact last s0 H4 (x02.trans (sx_of f4)) d4 eD4 (hs.elim .inl (fun z => .inr (.inl z))) (fun _ => hs) m hm p hp
end
end Toy

set_option Elab.async false
set_option maxRecDepth 100000
set_option maxHeartbeats 4000000
namespace Toy
open PySem L2
open U (Tm Pt RR tn nms vars addN dd rows cnt kn kat wtP wtL ptd nexts)
/-- the name that the law's lambdas bear -/
abbrev qL : Str := ("law" : Str) ++ ".<locals>." ++ "<lambda>"
/-- what told answers to each refusal -/
def tlA (A : Ad) : List (Value × Str) := [(.ref A.C_BadSign, "sign"), (.ref A.C_BadRule, "rule"), (.ref A.C_BadKind, "kind"), (.ref A.C_BadLayer, "layer"), (.ref A.C_NoSuch, "no such"), (.ref A.C_BadDeed, "deed"), (.ref A.C_BadGround, "ground"), (.ref A.C_BadStore, "store"), (.ref A.C_Broken, "broken"), (.ref A.C_BadSize, "size")]
section
variable {P : Program} {w : World} {K : PySem.W.Frag} {mg : Str → Option Value} {base : Heap} {A : Ad}
theorem told_rule (T : Txt K mg A) {Q : VK} {H : Hp} (q : Q (.str "rule") H) : LamX.wTold K Q (tlA A) (.ref A.C_BadRule) H :=
  ⟨_, T.m_BadRule_BadSign, fun h => (Bool.noConfusion h : False).elim, fun _ => ⟨_, T.m_BadRule_BadRule, fun _ => q, fun h => (Bool.noConfusion h : False).elim⟩⟩
theorem pe_told (T : Txt K mg A) {X : Cx} (hK : X.K = K) (hmg : X.mg = mg) (TB : LamX.TabB X.base X.mg A.cL A.PL) (hcode : X.env.code = .ref A.cL) (hq : X.env.qual ++ "<lambda>" = qL) (hg : Gl X "_law_told") {k : Nat} (hr : Room (k + 2) X.A) {params : Arguments} {body : Expr} {scope : Scope} {lpos p pos : Pos} {t : XK → TE}
    (L : LamX.LamS X.env.scope scope) (hdef : defaultsOf params X.env = ([], [])) (hbind : ∀ (q : Str) (cl : List (Str × Addr)) (pm cv ctv : Value), bindArgs (PySem.W.kla_fn "<lambda>" q params body scope cl pm cv ctv) ⟨[], []⟩ = pure [])
    (hbody : ∀ (A' : Around) (outer : List Env) (s : Shared) (H : Hp) (E : XK) (f c' : Addr), Room k (A'.deeper (LamX.lamEnv X scope s.heap.objs.size f c')) → PE (LamX.lamCx X A' outer s H E scope f c') body (t E)) :
    PE X (.Call (.Name "_law_told" p) [.Lambda params body scope lpos] [] pos) (LamX.tLam [(A.PL, qL)] (LamX.TTm K (tlA A)) t) := by
  subst hK hmg
  obtain ⟨oc, od, kV, doc, pm, an, cdv, ct, osl, hfd, lk, hcd⟩ := T.F_l_told.ex
  have hb := T.b_l_told
  rw [hfd] at hb lk
  refine LamX.pe_lamcall (x := "_law_told") (a := "_law_what") (Ng := N_l_told) (sg := defScope s_l_told) hg T.m_l_told T.F_l_told.kp lk hcd hb sc_l_told rfl (Or.inl rfl) ?_ TB hcode (by rw [hq]; exact List.mem_cons_self) (fun p hp _ => by rw [List.mem_singleton.mp hp, hq]) hr L hdef hbind hbody
  exact LamX.told_givesM (fun f => rfl) fun s H =>
    .cons ⟨rfl, by decide, .inl T.q_BadSign⟩ (fun _ _ _ _ _ _ _ => pss_one (ps_ret pe_str)) (.cons ⟨rfl, by decide, .inl T.q_BadRule⟩ (fun _ _ _ _ _ _ _ => pss_one (ps_ret pe_str))
    (.cons ⟨rfl, by decide, .inl T.q_BadKind⟩ (fun _ _ _ _ _ _ _ => pss_one (ps_ret pe_str)) (.cons ⟨rfl, by decide, .inl T.q_BadLayer⟩ (fun _ _ _ _ _ _ _ => pss_one (ps_ret pe_str))
    (.cons ⟨rfl, by decide, .inl T.q_NoSuch⟩ (fun _ _ _ _ _ _ _ => pss_one (ps_ret pe_str)) (.cons ⟨rfl, by decide, .inl T.q_BadDeed⟩ (fun _ _ _ _ _ _ _ => pss_one (ps_ret pe_str))
    (.cons ⟨rfl, by decide, .inl T.q_BadGround⟩ (fun _ _ _ _ _ _ _ => pss_one (ps_ret pe_str)) (.cons ⟨rfl, by decide, .inl T.q_BadStore⟩ (fun _ _ _ _ _ _ _ => pss_one (ps_ret pe_str))
    (.cons ⟨rfl, by decide, .inl T.q_Broken⟩ (fun _ _ _ _ _ _ _ => pss_one (ps_ret pe_str)) (.cons ⟨rfl, by decide, .inl T.q_BadSize⟩ (fun _ _ _ _ _ _ _ => pss_one (ps_ret pe_str)) .nil)))))))))
end
end Toy

set_option Elab.async false
set_option maxRecDepth 100000
set_option maxHeartbeats 4000000
namespace Toy
open PySem L2 LamX
open U (Tm Pt RR tn nms vars addN dd rows cnt kn kat wtP wtL ptd nexts)
/-! ### sorted words of four -/
def ix4 (s : Str) : Nat := if s = "N" then 0 else if s = "X" then 1 else if s = "Y" then 2 else 3
def is4 (s : Str) : Prop := s = "N" ∨ s = "X" ∨ s = "Y" ∨ s = "Z"
theorem ix4_inj {s t : Str} (hs : is4 s) (ht : is4 t) (h : ix4 s = ix4 t) : s = t := by
  rcases hs with rfl | rfl | rfl | rfl <;> rcases ht with rfl | rfl | rfl | rfl <;> first | rfl | (exfalso; revert h; decide +kernel)
theorem rise4 : ∀ (l : List Str) (p : Str), is4 p → (∀ x ∈ l, is4 x) → PyProof.Rows.risingS p l = true → ((p :: l).map ix4).Pairwise (· ≤ ·)
  | [], p, _, _, _ => by simp
  | x :: l, p, hp, hl, h => by
    have h : (!PySem.Spec.ltCps x.cps.toList p.cps.toList && PyProof.Rows.risingS x l) = true := h
    rw [Bool.and_eq_true] at h
    have hx := hl x List.mem_cons_self
    have ih := rise4 l x hx (fun y hy => hl y (List.mem_cons_of_mem _ hy)) h.2
    have hle : ix4 p ≤ ix4 x := by
      have h1 := h.1
      rcases hp with rfl | rfl | rfl | rfl <;> rcases hx with rfl | rfl | rfl | rfl <;> first | (decide +kernel) | (exfalso; revert h1; decide +kernel)
    rw [List.map_cons, List.pairwise_cons]
    refine ⟨fun y hy => ?_, ih⟩
    rw [List.map_cons] at hy
    rcases List.mem_cons.mp hy with rfl | hy
    · exact hle
    · rw [List.map_cons, List.pairwise_cons] at ih
      exact Nat.le_trans hle (ih.1 y hy)
theorem sort4 {l : List Str} (hl : ∀ x ∈ l, is4 x) (h : PyProof.Rows.sortedS l = true) : (l.map ix4).Pairwise (· ≤ ·) := by
  cases l with
  | nil => simp
  | cons x l => exact rise4 l x (hl x List.mem_cons_self) (fun y hy => hl y (List.mem_cons_of_mem _ hy)) h
theorem map_inj4 : ∀ {l m : List Str}, (∀ x ∈ l, is4 x) → (∀ x ∈ m, is4 x) → l.map ix4 = m.map ix4 → l = m
  | [], [], _, _, _ => rfl
  | x :: l, y :: m, hl, hm, h => by
    rw [List.map_cons, List.map_cons] at h
    injection h with h1 h2
    rw [ix4_inj (hl x List.mem_cons_self) (hm y List.mem_cons_self) h1, map_inj4 (fun z hz => hl z (List.mem_cons_of_mem _ hz)) (fun z hz => hm z (List.mem_cons_of_mem _ hz)) h2]
  | [], _ :: _, _, _, h => nomatch h
  | _ :: _, [], _, _, h => nomatch h
theorem sorted_same {l ys zs : List Str} (hl : ∀ x ∈ l, is4 x) (p1 : ys.Perm l) (p2 : zs.Perm l) (s1 : PyProof.Rows.sortedS ys = true) (s2 : PyProof.Rows.sortedS zs = true) : ys = zs := by
  have h1 : ∀ x ∈ ys, is4 x := fun x hx => hl x (p1.mem_iff.mp hx)
  have h2 : ∀ x ∈ zs, is4 x := fun x hx => hl x (p2.mem_iff.mp hx)
  exact map_inj4 h1 h2 (((p1.trans p2.symm).map ix4).eq_of_pairwise (fun a b _ _ => Nat.le_antisymm) (sort4 h1 s1) (sort4 h2 s2))
/-! ### what stays when a table grows -/
theorem TmAt.n {C : Addr} {H H' : Hp} {a : Addr} {n : Str} {v : V} (h : TmAt C H a n v) (s : ExtN H H') : TmAt C H' a n v := by
  obtain ⟨dx, e⟩ := h
  exact ⟨dx, s _ _ e (fun _ q => nomatch q)⟩
theorem TmsAt.n {C : Addr} {H H' : Hp} {p : Addr} {ts : List Tm} (h : TmsAt C H p ts) (s : ExtN H H') : TmsAt C H' p ts := by
  obtain ⟨as, e, f⟩ := h
  exact ⟨as, s _ _ e (fun _ q => nomatch q), f.imp fun a t h => TmAt.n h s⟩
theorem LitAt.n {A : Ad} {H H' : Hp} {a : Addr} {q : Pt} (h : LitAt A H a q) (s : ExtN H H') : LitAt A H' a q := by
  obtain ⟨dx, pt, po, e, f, g⟩ := h
  exact ⟨dx, pt, po, s _ _ e (fun _ q => nomatch q), f.n s, s _ _ g (fun _ q => nomatch q)⟩
theorem RuleAt.n {A : Ad} {H H' : Hp} {a : Addr} {r : RR} (h : RuleAt A H a r) (s : ExtN H H') : RuleAt A H' a r := by
  obtain ⟨dx, pt, pb, ps, sv, bs, e, f, g, hb, hs, kvs, ek, hk⟩ := h
  exact ⟨dx, pt, pb, ps, sv, bs, s _ _ e (fun _ q => nomatch q), f.n s, s _ _ g (fun _ q => nomatch q), hb.imp fun a t h => h.n s, hs, kvs, s _ _ ek (fun _ q => nomatch q), hk⟩
theorem LPs.n {H H' : Hp} {p : Addr} {qs : List Pt} (h : LPs H p qs) (s : ExtN H H') : LPs H' p qs := by
  obtain ⟨as, e, f⟩ := h
  exact ⟨as, s _ _ e (fun _ q => nomatch q), f.imp fun a t ⟨tl, e, f⟩ => ⟨tl, s _ _ e (fun _ q => nomatch q), s _ _ f (fun _ q => nomatch q)⟩⟩
theorem sqL_n {K : PySem.W.Frag} {H H' : Hp} {a : Addr} {xs : List V} (h : SqL K H a xs) (s : ExtN H H') : SqL K H' a xs := by
  rcases h with (e | ⟨o, e⟩) | h
  · exact .inl (.inl (s _ _ e (fun _ q => nomatch q)))
  · exact .inl (.inr ⟨o, s _ _ e (fun _ q => nomatch q)⟩)
  · exact .inr h
theorem made {H H' : Hp} {x dx : Addr} {C : Addr} (nx : H x = none) (ndx : H dx = none) (s : SameX x (upd (upd H dx (.own x)) x (.ins C dx [])) H') : Same H H' := fun b o e =>
  s b o (by rw [upd_ne (ne_of_none e nx), upd_ne (ne_of_none e ndx)]; exact e) (ne_of_none e nx)
theorem made0 {H : Hp} {x dx : Addr} {C : Addr} (nx : H x = none) (ndx : H dx = none) : Same H (upd (upd H dx (.own x)) x (.ins C dx [])) := fun b o e => by
  rw [upd_ne (ne_of_none e nx), upd_ne (ne_of_none e ndx)]
  exact e
/-- the drawn parts make a rule that may be made -/
theorem gT_wf {ts : List Tm} (hl : ts.length ≤ 20) (h : ∀ t ∈ ts, gT t) : WfT ts := ⟨hl, fun t ht => gT_ok (h t ht)⟩
theorem good_b {q : Pt} (h : GoodP q) : WfT q.ts ∧ q.name.length ≤ 900 ∧ PyData.strOk q.name = true ∧ PyData.strOk q.kind = true := by
  refine ⟨gT_wf (by have := h.ts.1; omega) h.ts.2, ?_, ?_, ?_⟩
  · rcases h.name with e | e | e | e <;> rw [e] <;> decide +kernel
  · rcases h.name with e | e | e | e <;> rw [e] <;> decide +kernel
  · rcases h.kind with e | e | e | e <;> rw [e] <;> decide +kernel
theorem drawn_of {head : List Tm} {qs : List Pt} (hh : head.length ≤ 20) (hg : ∀ t ∈ head, gT t) (hq : qs.length ≤ 20) (hqg : ∀ q ∈ qs, GoodP q) : Drawn head qs :=
  ⟨⟨gT_wf hh hg, ⟨hq, fun q h => good_b (hqg q h)⟩, (by show ("h" : Str).length ≤ 900; decide +kernel), (by show PyData.strOk "h" = true; decide +kernel)⟩, fun q h hk => (hqg q h).lets hk, fun q h => (hqg q h).kind⟩
theorem strs_list {l : List Str} (h : ∀ x ∈ l, PyData.strOk x = true) : SeqAt.shaped (.list (l.map PyData.str)) = true := shp_list fun x hx => ⟨h x hx, by simp [PyData.depth]⟩
theorem eqv_str (x y : Str) : PyData.eqv (.str x) (.str y) = decide (x = y) := by
  rw [Bool.eq_iff_iff]
  simp [PyData.eqv]
theorem dp_strs {K : PySem.W.Frag} {H : Hp} : ∀ (l : List Str), DpAll K H (l.map V.str) (l.map PyData.str)
  | [] => .nil
  | i :: l => .cons (.str i) (dp_strs l)
theorem is4_ok {s : Str} (h : is4 s) : PyData.strOk s = true := by
  rcases h with rfl | rfl | rfl | rfl <;> decide +kernel
end Toy

set_option Elab.async false
set_option maxRecDepth 100000
set_option maxHeartbeats 4000000
namespace Toy
open PySem L2 LamX
open U (Tm Pt RR tn nms vars addN dd rows cnt kn kat wtP wtL ptd nexts)
theorem law_q {qs : List Pt} {j : Nat} (hj : j < qs.length) : qs[j]? = some (ptd (mkR [] qs) j) := by
  have hq : (mkR [] qs).body[j]? = some qs[j] := List.getElem?_eq_getElem hj
  rw [ptd_at hq]
  exact List.getElem?_eq_getElem hj
section
variable {K : PySem.W.Frag} {A : Ad} {qs : List Pt} {given : List Str} {ps g : Addr} {H : Hp} {Q : VK}
variable {s0 s1 s2 s3 s4 s5 s6 s7 s8 s9 s10 s11 s12 s13 s14 s15 s16 s17 s18 s19 s20 s21 s22 s23 : Option V}
theorem st_gl (D : Addr) : Stab D fun H y (j : Nat) => ∃ c, y = .ref c ∧ H c = some (.lst ((gL (ptd (mkR [] qs) j)).map V.str)) ∧ c ≠ D := ⟨fun ⟨b, e, h, n⟩ s => ⟨b, e, s _ _ h, n⟩, fun hl ⟨b, e, h, n⟩ => ⟨b, e, by rw [upd_ne n]; exact h, n⟩⟩
theorem bound_v1 {o : List Nat} {b : Addr} (hps : LPs H ps qs) (hD0 : Drawn [] qs) (eg : H g = some (.tup (given.map V.str))) (hg20 : given.length ≤ 20) (eb : H b = some (.tup (o.map nv))) (ho : o.length ≤ 20) (hlt : ∀ j ∈ o, j < qs.length)
    (k : ∀ m H', Same H H' → H' m = some (.lst ((bL qs given o).map V.str)) → Q (.ref m) H') :
    tOp rCat (tCB (rListOf K) (tCons (tVar 5) tNil)) (tCall spFlat [] E0 (tCons (tLc (iTup K (tVar 12)) (gName 23) tYes (tLc (iList K (tCall spLGives [] E0 (tCons (tOp (rIxL K) (tVar 3) (tVar 23)) tNil))) (gName 14) tYes (tVar 14) [14]) [23]) tNil)) [s0, s1, s2, some (.ref ps), s4, some (.ref g), s6, s7, s8, s9, s10, s11, some (.ref b), s13, s14, s15, s16, s17, s18, s19, s20, s21, s22, s23] H Q := by
  obtain ⟨as, ep, fp⟩ := id hps
  have st := fun D => st_gl (qs := qs) D
  refine ⟨_, rfl, g, _, rfl, .inr (SqT.of eg), fun b0 hb0 => ?_⟩
  have s0 : Same H (upd H b0 (.lst (given.map V.str))) := same_new hb0
  have eb0 : upd H b0 (.lst (given.map V.str)) b0 = some (.lst (given.map V.str)) := upd_same
  generalize upd H b0 (.lst (given.map V.str)) = H0 at s0 eb0 ⊢
  refine ⟨_, rfl, b, rfl, ⟨_, SqT.of (s0 _ _ eb)⟩, fun D hD => ?_⟩
  refine lc_tup (K := K) (a := b) (xs := o.map nv) (LcI (fun H y (j : Nat) => ∃ c, y = .ref c ∧ H c = some (.lst ((gL (ptd (mkR [] qs) j)).map V.str)) ∧ c ≠ D) (fun _ => true) o H0 D) (LcI.start hD) (fun i H' _ h => SqT.of (h.1 _ _ (s0 _ _ eb))) ?_ ?_
  · rintro i x H1 hx h
    rw [List.getElem?_map] at hx
    obtain ⟨j, hj, rfl⟩ := Option.map_eq_some_iff.mp hx
    have hjl : j < qs.length := hlt j (List.mem_of_getElem? hj)
    have hja : j < as.length := by rw [fp.1]; exact hjl
    have hq := law_q hjl
    have s2 := s0.trans h.1
    have hLP := fp.2 j _ _ (List.getElem?_eq_getElem hja) hq
    have eD1 := h.2.choose_spec.1
    refine ⟨rfl, _, rfl, _, rfl, ps, _, _, _, rfl, rfl, SqL.of (s2 _ _ ep), atI_nat (by rw [List.getElem?_map, List.getElem?_eq_getElem hja]; rfl), as[j], _, rfl, hLP.up s2, (hD0.ts hq).1, hD0.lets _ (List.mem_of_getElem? hq), fun l H2 s3 el => ⟨l, rfl, ⟨_, SqL.of el⟩, fun D2 hD2 => ?_⟩⟩
    refine lc_list (K := K) (a := l) (xs := (gL (ptd (mkR [] qs) j)).map V.str) (LcI (fun _ y (x : Str) => y = .str x) (fun _ => true) (gL (ptd (mkR [] qs) j)) H2 D2) (LcI.start hD2) (fun i H' _ h' => SqL.of (h'.1 _ _ el)) ?_ ?_
    · intro i2 y H7 hy h7
      rw [List.getElem?_map] at hy
      obtain ⟨t, ht, rfl⟩ := Option.map_eq_some_iff.mp hy
      exact ⟨rfl, _, rfl, h7.yes (stab_val _) hD2 (by have := gL_len (hD0.ts hq); omega) ht rfl (fun _ _ e => e) rfl⟩
    · intro H7 h7
      obtain ⟨ys, s7, eD2, hv⟩ := h7.fin (by rw [List.length_map]; exact Nat.le_refl _)
      rw [filter_tt] at hv
      have ey := VAll.eq (f := V.str) hv
      subst ey
      exact h.yes (st D) hD (by omega) hj rfl (s3.trans s7) ⟨D2, rfl, eD2, (ne_of_none (s3 _ _ eD1) hD2).symm⟩
  · intro H5 h
    obtain ⟨ys, s5, eD5, hv⟩ := h.fin (by rw [List.length_map]; exact Nat.le_refl _)
    obtain ⟨cs, rfl, hcs⟩ := VAll.refs (R := fun b j => H5 b = some (.lst ((gL (ptd (mkR [] qs) j)).map V.str))) (hv.imp fun y k ⟨b, e, h, _⟩ => ⟨b, e, h⟩)
    rw [filter_tt] at hcs
    have hbl := bL_len hD0 hg20 ho hlt
    unfold bL at hbl
    rw [List.length_append] at hbl
    have e0 : (o.map fun j => (gL (ptd (mkR [] qs) j)).map V.str).flatten = ((o.map fun j => gL (ptd (mkR [] qs) j)).flatten).map V.str := by
      rw [List.map_flatten, List.map_map]
      rfl
    refine ⟨D, cs, o.map fun j => (gL (ptd (mkR [] qs) j)).map V.str, rfl, eD5, ⟨by rw [List.length_map]; exact hcs.1, fun i b l h1 h2 => ?_⟩, ?_, fun u H6 s6 eu => ?_⟩
    · rw [List.getElem?_map] at h2
      obtain ⟨j, hj, rfl⟩ := Option.map_eq_some_iff.mp h2
      exact hcs.2 i b j h1 hj
    · rw [e0, List.length_map]
      omega
    · have s06 := s0.trans (s5.trans s6)
      refine ⟨b0, u, _, _, rfl, rfl, s6 _ _ (s5 _ _ eb0), eu, ?_, fun m hm => k m _ (s06.trans (same_new hm)) ?_⟩
      · rw [e0, List.length_map, List.length_map]
        exact sz' (by omega)
      · rw [upd_same, e0]
        unfold bL
        rw [List.map_append]
theorem bound_v2 {ord : List Nat} {n : Nat} {l : Addr} (hps : LPs H ps qs) (hD0 : Drawn [] qs) (eg : H g = some (.tup (given.map V.str))) (hg20 : given.length ≤ 20) (el0 : H l = some (.lst (ord.map nv))) (ho0 : ord.length ≤ 20) (hlt0 : ∀ j ∈ ord, j < qs.length)
    (k : ∀ m H', Same H H' → H' m = some (.lst ((bL qs given (ord.take n)).map V.str)) → Q (.ref m) H') :
    tOp rCat (tCB (rListOf K) (tCons (tVar 5) tNil)) (tCall spFlat [] E0 (tCons (tLc (iList K (tSl (rSlL K) (tVar 7) tNoPart (tPart (tVar 15)))) (gName 23) tYes (tLc (iList K (tCall spLGives [] E0 (tCons (tOp (rIxL K) (tVar 3) (tVar 23)) tNil))) (gName 20) tYes (tVar 20) [20]) [23]) tNil)) [s0, s1, s2, some (.ref ps), s4, some (.ref g), s6, some (.ref l), s8, s9, s10, s11, s12, s13, s14, some (.int n), s16, s17, s18, s19, s20, s21, s22, s23] H Q := by
  obtain ⟨as, ep, fp⟩ := id hps
  have st := fun D => st_gl (qs := qs) D
  have ho : (ord.take n).length ≤ 20 := by rw [List.length_take]; omega
  have hlt : ∀ j ∈ ord.take n, j < qs.length := fun j hj => hlt0 j (List.mem_of_mem_take hj)
  refine ⟨_, rfl, g, _, rfl, .inr (SqT.of eg), fun b0 hb0 => ?_⟩
  have s0' : Same H (upd H b0 (.lst (given.map V.str))) := same_new hb0
  have eb0 : upd H b0 (.lst (given.map V.str)) b0 = some (.lst (given.map V.str)) := upd_same
  generalize upd H b0 (.lst (given.map V.str)) = H0' at s0' eb0 ⊢
  refine ⟨_, rfl, _, rfl, _, rfl, l, _, rfl, SqL.of (s0' _ _ el0), fun b hb => ?_⟩
  rw [cut_take, ← List.map_take]
  have s01 : Same H0' (upd H0' b (.lst ((ord.take n).map nv))) := same_new hb
  have s0 := s0'.trans s01
  have eb : upd H0' b (.lst ((ord.take n).map nv)) b = some (.lst ((ord.take n).map nv)) := upd_same
  have eb0' := s01 _ _ eb0
  generalize upd H0' b (.lst ((ord.take n).map nv)) = H0 at s0 s01 eb eb0' ⊢
  refine ⟨b, rfl, ⟨_, SqL.of eb⟩, fun D hD => ?_⟩
  refine lc_list (K := K) (a := b) (xs := (ord.take n).map nv) (LcI (fun H y (j : Nat) => ∃ c, y = .ref c ∧ H c = some (.lst ((gL (ptd (mkR [] qs) j)).map V.str)) ∧ c ≠ D) (fun _ => true) (ord.take n) H0 D) (LcI.start hD) (fun i H' _ h => SqL.of (h.1 _ _ eb)) ?_ ?_
  · rintro i x H1 hx h
    rw [List.getElem?_map] at hx
    obtain ⟨j, hj, rfl⟩ := Option.map_eq_some_iff.mp hx
    have hjl : j < qs.length := hlt j (List.mem_of_getElem? hj)
    have hja : j < as.length := by rw [fp.1]; exact hjl
    have hq := law_q hjl
    have s2 := s0.trans h.1
    have hLP := fp.2 j _ _ (List.getElem?_eq_getElem hja) hq
    have eD1 := h.2.choose_spec.1
    refine ⟨rfl, _, rfl, _, rfl, ps, _, _, _, rfl, rfl, SqL.of (s2 _ _ ep), atI_nat (by rw [List.getElem?_map, List.getElem?_eq_getElem hja]; rfl), as[j], _, rfl, hLP.up s2, (hD0.ts hq).1, hD0.lets _ (List.mem_of_getElem? hq), fun l H2 s3 el => ⟨l, rfl, ⟨_, SqL.of el⟩, fun D2 hD2 => ?_⟩⟩
    refine lc_list (K := K) (a := l) (xs := (gL (ptd (mkR [] qs) j)).map V.str) (LcI (fun _ y (x : Str) => y = .str x) (fun _ => true) (gL (ptd (mkR [] qs) j)) H2 D2) (LcI.start hD2) (fun i H' _ h' => SqL.of (h'.1 _ _ el)) ?_ ?_
    · intro i2 y H7 hy h7
      rw [List.getElem?_map] at hy
      obtain ⟨t, ht, rfl⟩ := Option.map_eq_some_iff.mp hy
      exact ⟨rfl, _, rfl, h7.yes (stab_val _) hD2 (by have := gL_len (hD0.ts hq); omega) ht rfl (fun _ _ e => e) rfl⟩
    · intro H7 h7
      obtain ⟨ys, s7, eD2, hv⟩ := h7.fin (by rw [List.length_map]; exact Nat.le_refl _)
      rw [filter_tt] at hv
      have ey := VAll.eq (f := V.str) hv
      subst ey
      exact h.yes (st D) hD (by omega) hj rfl (s3.trans s7) ⟨D2, rfl, eD2, (ne_of_none (s3 _ _ eD1) hD2).symm⟩
  · intro H5 h
    obtain ⟨ys, s5, eD5, hv⟩ := h.fin (by rw [List.length_map]; exact Nat.le_refl _)
    obtain ⟨cs, rfl, hcs⟩ := VAll.refs (R := fun b j => H5 b = some (.lst ((gL (ptd (mkR [] qs) j)).map V.str))) (hv.imp fun y k ⟨b, e, h, _⟩ => ⟨b, e, h⟩)
    rw [filter_tt] at hcs
    have hbl := bL_len hD0 hg20 ho hlt
    unfold bL at hbl
    rw [List.length_append] at hbl
    have e0 : ((ord.take n).map fun j => (gL (ptd (mkR [] qs) j)).map V.str).flatten = (((ord.take n).map fun j => gL (ptd (mkR [] qs) j)).flatten).map V.str := by
      rw [List.map_flatten, List.map_map]
      rfl
    refine ⟨D, cs, (ord.take n).map fun j => (gL (ptd (mkR [] qs) j)).map V.str, rfl, eD5, ⟨by rw [List.length_map]; exact hcs.1, fun i b l h1 h2 => ?_⟩, ?_, fun u H6 s6 eu => ?_⟩
    · rw [List.getElem?_map] at h2
      obtain ⟨j, hj, rfl⟩ := Option.map_eq_some_iff.mp h2
      exact hcs.2 i b j h1 hj
    · rw [e0, List.length_map]
      omega
    · have s06 := s0.trans (s5.trans s6)
      refine ⟨b0, u, _, _, rfl, rfl, s6 _ _ (s5 _ _ eb0'), eu, ?_, fun m hm => k m _ (s06.trans (same_new hm)) ?_⟩
      · rw [e0, List.length_map, List.length_map]
        exact sz' (by omega)
      · rw [upd_same, e0]
        unfold bL
        rw [List.map_append]
theorem ready_v {o : List Nat} {b bd : Addr} (hps : LPs H ps qs) (hD0 : Drawn [] qs) (eb : H b = some (.tup (o.map nv))) (ho : o.length ≤ 20) (ebd : H bd = some (.lst ((bL qs given o).map V.str)))
    (k : ∀ D cs H', Same H H' → H' D = some (.lst (cs.map V.ref)) → OrdsAt H' cs (U.longer (mkR [] qs) given o) → Q (.ref D) H') :
    tLc (iRng1 (tCons (tCB (rLenQ K) (tCons (tVar 3) tNil)) tNil)) (gName 23) (tAnd (tTest (tOp (rIn K true) (tVar 23) (tVar 12))) (tB (tCall spLReady [] E0 (tCons (tVar 3) (tCons (tVar 23) (tCons (tVar 13) tNil)))))) (tOp (rCatA K) (tVar 12) (tTup (tCons (tVar 23) tNil))) [23] [s0, s1, s2, some (.ref ps), s4, s5, s6, s7, s8, s9, s10, s11, some (.ref b), some (.ref bd), s14, s15, s16, s17, s18, s19, s20, s21, s22, s23] H Q := by
  obtain ⟨as, ep, fp⟩ := id hps
  have h20 : qs.length ≤ 20 := hD0.wf.body.1
  refine ⟨_, rfl, ps, _, rfl, .inl (SqL.of ep), _, rfl, (by omega), (by rw [List.length_map, fp.1]; omega), fun D hD => ?_⟩
  have en : (((as.map V.ref).length : Nat) : Int).toNat = qs.length := by rw [Int.toNat_natCast, List.length_map, fp.1]
  rw [en]
  have st : Stab D fun H y (j : Nat) => ∃ c, y = .ref c ∧ H c = some (.tup ((o ++ [j]).map nv)) := ⟨fun ⟨a, e, h⟩ s => ⟨a, e, s _ _ h⟩, fun hl ⟨a, e, h⟩ => ⟨a, e, by rw [upd_ne (ne_of h hl (fun q => nomatch q))]; exact h⟩⟩
  refine lc_range (n := qs.length) (LcI (fun H y (j : Nat) => ∃ c, y = .ref c ∧ H c = some (.tup ((o ++ [j]).map nv))) (fun j => decide (j ∉ o) && U.rdy (mkR [] qs) (bL qs given o) (ptd (mkR [] qs) j)) (List.range qs.length) H D) (LcI.start hD) ?_ ?_
  · rintro i H5 hi h
    have ei : (0 : Int) + (i : Nat) = ((i : Nat) : Int) := by omega
    rw [ei]
    have eri : (List.range qs.length)[i]? = some i := List.getElem?_range hi
    refine ⟨rfl, _, rfl, _, rfl, b, o.map nv, rfl, .inr (SqT.of (h.1 _ _ eb)), rfl, flat_nv _, _, rfl, ?_⟩
    have e1 : inV (.int ((i : Nat) : Int)) (o.map nv) = decide (i ∈ o) := inV_nv i o
    rw [if_pos rfl, e1]
    by_cases hm : i ∈ o
    · rw [decide_eq_true hm]
      refine iteF (iteF (h.no st eri ?_ (fun _ _ e => e)))
      simp [hm]
    · rw [decide_eq_false hm]
      refine iteT ⟨_, rfl, _, rfl, _, rfl, ps, bd, i, qs, _, bL qs given o, rfl, hps.up h.1, hD0, law_q hi, h.1 _ _ ebd, fun H6 s6 => ⟨_, rfl, ?_⟩⟩
      have eb6 := s6 _ _ (h.1 _ _ eb)
      cases er : U.rdy (mkR [] qs) (bL qs given o) (ptd (mkR [] qs) i) with
      | true =>
        refine iteT ⟨_, rfl, _, rfl, (by show 1 ≤ sizeLine; decide), fun t ht => ?_⟩
        have hl9 : (List.range qs.length).length ≤ 999 := by rw [List.length_range]; omega
        refine ⟨b, t, _, _, rfl, rfl, SqT.of (same_new ht _ _ eb6), SqT.of upd_same, ?_, fun hx => ?_, (fun _ hy => nomatch hy), fun _ _ p hp => ?_⟩
        · rw [List.length_map]
          show o.length + 1 ≤ sizeLine
          have h5 : (5000 : Nat) ≤ sizeLine := by decide
          omega
        · have ho : o = [] := List.map_eq_nil_iff.mp hx
          exact h.yes st hD hl9 eri (by simp [hm, er]) (s6.trans (same_new ht)) ⟨t, rfl, by rw [upd_same, ho]; rfl⟩
        · exact h.yes st hD hl9 eri (by simp [hm, er]) (s6.trans ((same_new ht).trans (same_new hp))) ⟨p, rfl, by rw [upd_same, List.map_append]; rfl⟩
      | false => exact iteF (h.no st eri (by simp [er]) s6)
  · intro H5 h
    obtain ⟨ys, s5, eD, hv⟩ := h.fin (by rw [List.length_range]; exact Nat.le_refl _)
    obtain ⟨cs, rfl, hcs⟩ := hv.refs
    refine k D cs H5 s5 eD ?_
    have en : U.nexts (mkR [] qs) o (U.bnd (mkR [] qs) given o) = (List.range qs.length).filter fun j => decide (j ∉ o) && U.rdy (mkR [] qs) (bL qs given o) (ptd (mkR [] qs) j) := (U.nexts_congr (fun x => bL_mem qs given o x) o).symm
    unfold U.longer
    rw [en]
    refine ⟨by rw [List.length_map]; exact hcs.1, fun i c o' h1 h2 => ?_⟩
    rw [List.getElem?_map] at h2
    obtain ⟨j, hj, rfl⟩ := Option.map_eq_some_iff.mp h2
    exact hcs.2 i c j h1 hj
end
theorem dp_all {K : PySem.W.Frag} {H : Hp} {α : Type} {S : Addr → α → Prop} {f : α → PyData} (hf : ∀ a t, S a t → Dp K H (.ref a) (f t)) : ∀ {bs : List Addr} {ts : List α}, All2 S bs ts → DpAll K H (bs.map V.ref) (ts.map f)
  | [], [], _ => .nil
  | b :: bs, t :: ts, h => by
    obtain ⟨r, h⟩ := h.tail
    exact .cons (hf _ _ r) (dp_all hf h)
  | [], _ :: _, g => nomatch g.1
  | _ :: _, [], g => nomatch g.1
def dI (j : Nat) : PyData := .int ((j : Nat) : Int)
def dO (o : List Nat) : PyData := .tuple (o.map dI)
theorem eqv_dI (x y : Nat) : PyData.eqv (dI x) (dI y) = decide (x = y) := by
  unfold dI
  rw [eqv_int, decide_eq_decide]
  omega
theorem eqv_dO (x y : List Nat) : PyData.eqv (dO x) (dO y) = decide (x = y) := eqv_tup eqv_dI x y
theorem dI_lay (j : Nat) : (dI j).canLay0 = true ∧ (dI j).depth ≤ 1 := ⟨rfl, by simp [dI, PyData.depth]⟩
theorem dp_nv {K : PySem.W.Frag} {H : Hp} : ∀ (l : List Nat), DpAll K H (l.map nv) (l.map dI)
  | [] => .nil
  | i :: l => .cons (.int _) (dp_nv l)
theorem dO_lay (o : List Nat) : (dO o).canLay0 = true ∧ (dO o).depth ≤ 9 := by
  constructor
  · show PyData.canLayAll0 (o.map dI) = true
    exact lay_map fun x _ => (dI_lay x).1
  · have := depth_map (f := dI) (n := 1) (l := o) fun x _ => (dI_lay x).2
    simp only [dO, PyData.depth]
    omega
theorem dp_O {K : PySem.W.Frag} {H : Hp} {c : Addr} {o : List Nat} (h : H c = some (.tup (o.map nv))) : Dp K H (.ref c) (dO o) := .tup (SqT.of h) (dp_nv o)
/-- sorted of the same names in any order -/
theorem OrdsAt.up {H H' : Hp} {cs : List Addr} {os : List (List Nat)} (h : OrdsAt H cs os) (s : Same H H') : OrdsAt H' cs os := h.imp fun _ _ e => s _ _ e
end Toy

set_option Elab.async false
set_option maxRecDepth 100000
set_option maxHeartbeats 4000000
namespace U
open PySem L2
theorem nodup_leG {α : Type} [DecidableEq α] : ∀ {l m : List α}, l.Nodup → (∀ x ∈ l, x ∈ m) → l.length ≤ m.length
  | [], _, _, _ => Nat.zero_le _
  | x :: l, m, h, hs => by
    have hx := hs x List.mem_cons_self
    have hn := List.nodup_cons.mp h
    have h2 := nodup_leG (l := l) (m := m.erase x) hn.2 fun y hy => (List.mem_erase_of_ne (fun e : y = x => hn.1 (by rw [← e]; exact hy))).mpr (hs y (List.mem_cons_of_mem _ hy))
    rw [List.length_erase_of_mem hx] at h2
    have h3 := List.length_pos_of_mem hx
    rw [List.length_cons]
    omega
theorem plN_ex {r : RR} {given : List Str} {sz : Str → Int} {d : List Nat} (hd : Good r given d) (hall : ∀ j, j < r.body.length → j ∈ d) : ∀ (n : Nat) (o : List Nat), o.Nodup → (∀ j ∈ o, j < r.body.length) → o.length + n = r.body.length → ∃ o', plN r given sz n o = some o'
  | 0, o, _, _, _ => ⟨o, rfl⟩
  | n + 1, o, h1, h2, h3 => by
    have hj : ∃ j, j < r.body.length ∧ j ∉ o := by
      apply Classical.byContradiction
      intro hc
      have h4 : ∀ x ∈ List.range r.body.length, x ∈ o := fun x hx => by
        apply Classical.byContradiction
        intro hx2
        exact hc ⟨x, List.mem_range.mp hx, hx2⟩
      have h5 := nodup_leG List.nodup_range h4
      rw [List.length_range] at h5
      omega
    obtain ⟨j, hl⟩ := light_some (sz := sz) hd hall hj
    obtain ⟨m1, m2, _⟩ := light_mem hl
    obtain ⟨o', ho'⟩ := plN_ex hd hall n (o ++ [j]) (by
      rw [List.nodup_append]
      refine ⟨h1, by simp, fun a ha b hb e => ?_⟩
      rw [List.mem_singleton.mp hb] at e
      rw [e] at ha
      exact m2 ha) (fun k hk => by
      rcases List.mem_append.mp hk with hk | hk
      · exact h2 k hk
      · rw [List.mem_singleton.mp hk]
        exact m1) (by rw [List.length_append]; simp; omega)
    refine ⟨o', ?_⟩
    unfold plN
    rw [hl]
    exact ho'
/-- all parts stand in a whole order -/
theorem Good.all {r : RR} {given : List Str} {o : List Nat} (h : Good r given o) (hl : o.length = r.body.length) : ∀ j, j < r.body.length → j ∈ o := fun j hj => by
  apply Classical.byContradiction
  intro hc
  have h4 : ∀ x ∈ j :: o, x ∈ List.range r.body.length := fun x hx => by
    rcases List.mem_cons.mp hx with rfl | hx
    · exact List.mem_range.mpr hj
    · exact List.mem_range.mpr (h.2.1 x hx)
  have h5 := nodup_leG (List.nodup_cons.mpr ⟨hc, h.1⟩) h4
  rw [List.length_range, List.length_cons] at h5
  omega
theorem rdy_pos {r : RR} {b : List Str} {q : Pt} (h : q.kind = "pos") : rdy r b q = true := by
  unfold rdy nd
  rw [if_neg (by rw [h]; decide +kernel), if_neg (by rw [h]; decide +kernel), if_neg (by rw [h]; decide +kernel)]
  rfl
/-- a part told to come first -/
theorem first_plan {r : RR} {given : List Str} {sz : Str → Int} {d : List Nat} (hd : Good r given d) (hl : d.length = r.body.length) {f : Nat} (hf : f < r.body.length) (hp : (ptd r f).kind = "pos") :
    ∃ t, plN r given sz (r.body.length - 1) [f] = some (f :: t) ∧ Good r given (f :: t) ∧ (f :: t).length = r.body.length := by
  have g0 : Good r given [f] := (Good.nil r given).snoc hf (List.not_mem_nil) (rdy_pos hp)
  obtain ⟨o', h⟩ := plN_ex (sz := sz) hd (hd.all hl) (r.body.length - 1) [f] g0.1 g0.2.1 (by simp; omega)
  obtain ⟨g, l, t, e⟩ := plN_good _ g0 h
  refine ⟨t, by rw [h, e]; rfl, by rw [e] at g; exact g, ?_⟩
  rw [e] at l
  have l' : ([f] ++ t).length = [f].length + (r.body.length - 1) := l
  show ([f] ++ t).length = _
  rw [l']
  simp
  omega
end U
namespace Toy
open PySem L2 LamX
open U (Tm Pt RR tn nms vars addN dd rows cnt kn kat wtP wtL ptd nexts)
/-- a comprehension over enumerate of a list that stays -/
theorem lc_enum {K : PySem.W.Frag} {a : Addr} {xs : List V} {g : TG} {tt : TT} {te : TE} {vs : List Nat} {σ : L2.St} {H1 : Hp} {D : Addr} {Qd : Hp → Prop} (Pv : Nat → Hp → Prop) (h0 : Pv 0 (upd H1 D (.lst []))) (hl : ∀ i H, i ≤ xs.length → Pv i H → SqL K H a xs)
    (hs : ∀ i x T H, xs[i]? = some x → Pv i H → H T = none → g (.ref T) (wipe σ vs) (upd H T (.tup [.int (i : Nat), x])) fun σ2 H2 => wipe σ2 vs = wipe σ vs ∧ tt σ2 H2 fun b H3 =>
      if b = true then te σ2 H3 fun y H4 => ∃ acc, H4 D = some (.lst acc) ∧ acc.length < sizeLine ∧ Pv (i + 1) (upd H4 D (.lst (acc ++ [y]))) else Pv (i + 1) H3) (hd : ∀ H, Pv xs.length H → Qd H) :
    ∃ W : Nat → Nat → Hp → Prop, (∃ m, W 0 m (upd H1 D (.lst []))) ∧ ∀ i m H, W i m H →
      ((Ite K a).stop i H ∧ Qd H) ∨ ((Ite K a).go i H ∧ ∃ Nx : Hp → Prop, (∀ H', Nx H' → ∃ m', m' < m ∧ W (i + 1) m' H') ∧ ∀ x H', (Ite K a).yld i H x H' → g x (wipe σ vs) H' fun σ2 H2 => wipe σ2 vs = wipe σ vs ∧ tt σ2 H2 fun b H3 =>
        if b = true then te σ2 H3 fun y H4 => ∃ acc, H4 D = some (.lst acc) ∧ acc.length < sizeLine ∧ Nx (upd H4 D (.lst (acc ++ [y]))) else Nx H3) := by
  refine ⟨fun i m H => m = xs.length - i ∧ i ≤ xs.length ∧ Pv i H, ⟨xs.length, by simp, Nat.zero_le _, h0⟩, ?_⟩
  rintro i m H ⟨rfl, hi, p⟩
  have q := hl i H hi p
  by_cases hlt : i < xs.length
  · refine .inr ⟨⟨xs, xs[i], q, by simp [hlt]⟩, Pv (i + 1), fun H' p' => ⟨xs.length - (i + 1), by omega, rfl, hlt, p'⟩, fun x H' y => ?_⟩
    obtain ⟨T, x', rfl, hT, rfl, f⟩ := y
    exact hs i x' T _ (f xs q) p hT
  · have e : i = xs.length := by omega
    subst e
    exact .inl ⟨⟨xs, q, Nat.le_refl _⟩, hd H p⟩

def prI (y : Str) : Key × V := (Sum.inr y, .int 1)
theorem putK_i (l : List Str) (x : Str) : putK (l.map prI) (Sum.inr x) (V.int 1) = (U.addN l x).map prI := by
  unfold putK U.addN
  by_cases h : x ∈ l
  · rw [if_pos (by rw [List.any_map, List.any_eq_true]; exact ⟨x, h, by simp [prI]⟩), if_pos h, List.map_map]
    apply List.map_congr_left
    intro y _
    simp only [Function.comp]
    split
    · rfl
    · rfl
  · rw [if_neg (by
      rw [List.any_map, List.any_eq_true]
      rintro ⟨y, hy, e⟩
      have e2 : (Sum.inr y : Key) = Sum.inr x := of_decide_eq_true e
      injection e2 with e2
      exact h (e2 ▸ hy)), if_neg h, List.map_append]
    rfl
theorem merge_i : ∀ (xs acc : List Str), mergeK (acc.map prI) (xs.map prI) = (xs.foldl addN acc).map prI
  | [], _ => rfl
  | x :: xs, acc => by
    show mergeK (putK (acc.map prI) (Sum.inr x) (V.int 1)) (xs.map prI) = _
    rw [putK_i]
    exact merge_i xs (addN acc x)
theorem paired_pr {K : PySem.W.Frag} {H : Hp} : ∀ {cs : List Addr} {l : List Str}, All2 (fun c x => H c = some (.tup [.str x, .int 1])) cs l → Paired (fun p (kv : Key × V) => SqT K H p [kV kv.1, kv.2]) cs (l.map prI)
  | [], [], _ => .nil
  | c :: cs, x :: l, h => by
    obtain ⟨r, h⟩ := h.tail
    exact .cons (SqT.of r) (paired_pr h)
  | [], _ :: _, g => nomatch g.1
  | _ :: _, [], g => nomatch g.1
theorem gT_is4 {x : Str} (h : gT (.inl x)) : is4 x := h
theorem gv4 {q : Pt} (h : GoodP q) : ∀ x ∈ U.gv q, is4 x := fun x hx => by
  unfold U.gv at hx
  split at hx
  · exact gT_is4 (h.ts.2 _ (U.nms_mem.mp hx))
  · split at hx
    · exact gT_is4 (h.ts.2 _ (List.mem_of_mem_take (U.nms_mem.mp hx)))
    · cases hx
theorem bnd4 {qs : List Pt} {given : List Str} {o : List Nat} (hg : ∀ q ∈ qs, GoodP q) (hgiv : ∀ x ∈ given, is4 x) (hlt : ∀ j ∈ o, j < qs.length) : ∀ x ∈ U.bnd (mkR [] qs) given o, is4 x := fun x hx => by
  unfold U.bnd at hx
  rcases List.mem_append.mp hx with hx | hx
  · exact hgiv x hx
  · obtain ⟨l, hl, hxl⟩ := List.mem_flatten.mp hx
    obtain ⟨j, hj, rfl⟩ := List.mem_map.mp hl
    exact gv4 (hg _ (List.mem_of_getElem? (law_q (hlt j hj)))) x hxl
theorem len4 {l : List Str} (h : l.Nodup) (h4 : ∀ x ∈ l, is4 x) : l.length ≤ 4 :=
  U.nodup_leG (m := (["N", "X", "Y", "Z"] : List Str)) h fun x hx => by
    rcases h4 x hx with rfl | rfl | rfl | rfl <;> simp
def DueAt (pl : Option (List Nat)) (v : V) (H : Hp) : Prop := (pl = none ∧ v = .non) ∨ ∃ ord l, pl = some ord ∧ v = .ref l ∧ H l = some (.lst (ord.map nv))
theorem DueAt.up {pl : Option (List Nat)} {v : V} {H H' : Hp} (h : DueAt pl v H) (s : Same H H') : DueAt pl v H' := by
  rcases h with h | ⟨ord, l, h1, h2, h3⟩
  · exact .inl h
  · exact .inr ⟨ord, l, h1, h2, s _ _ h3⟩
theorem allP4 {qs : List Pt} {given : List Str} (h4 : qs.length ≤ 4) {i : Nat} (hi : i < qs.length) : (U.allP (mkR [] qs) given i).length ≤ 64 :=
  Nat.le_trans (U.allP_len (mkR [] qs) given i) (Nat.le_trans (Nat.pow_le_pow_left h4 i) (Nat.pow_le_pow_right (n := 4) (by decide) (by omega : i ≤ 3)))
theorem longer4 {qs : List Pt} {given : List Str} (h4 : qs.length ≤ 4) (o : List Nat) : (U.longer (mkR [] qs) given o).length ≤ 4 := by
  unfold U.longer
  rw [List.length_map]
  exact Nat.le_trans (U.nexts_len _ _ _) h4
end Toy

set_option Elab.async false
set_option maxRecDepth 100000
set_option maxHeartbeats 8000000
namespace Toy
open PySem L2 LamX
open U (Tm Pt RR tn nms vars addN dd rows cnt kn kat wtP wtL ptd nexts)
theorem TabS.upx {H H' : Hp} {P d : Addr} {q : Str} (t : TabS H P q) (s : SameX d H H') (hd : DiceAt H d) : TabS H' P q := by
  obtain ⟨ps, h1, h2, h3⟩ := t
  obtain ⟨x, y, z, e⟩ := hd
  refine ⟨ps, s _ _ h1 (ne_of h1 e (fun q => nomatch q)), h2, fun pos cv hc => ?_⟩
  obtain ⟨c, e1, e2⟩ := h3 pos cv hc
  exact ⟨c, e1, s _ _ e2 (ne_of e2 e (fun q => by unfold CodeO at q; cases q))⟩
theorem one_sz : 1 ≤ sizeLine := by decide
theorem two_sz : 2 ≤ sizeLine := by decide
theorem three_sz : 3 ≤ sizeLine := by decide
theorem TmsAt.l {C : Addr} {H : Hp} {p : Addr} {ts : List Tm} (h : LTms C H p ts) {H' : Hp} (s : Same H H') : LTms C H' p ts := by
  obtain ⟨as, e, f⟩ := h
  exact ⟨as, s _ _ e, f.imp fun a t h => TmAt.up h s⟩
theorem ltm1 {C : Addr} {H : Hp} {l a : Addr} {t : Tm} (e : H l = some (.lst [.ref a])) (h : TO C H a t) : LTms C H l [t] := ⟨[a], e, .cons h .nil⟩
theorem ltm0 {C : Addr} {H : Hp} {l : Addr} (e : H l = some (.lst [])) : LTms C H l [] := ⟨[], e, .nil⟩
/-- the lambda of the law stands -/
structure Lm (H : Hp) (f c' : Addr) : Prop where
  f : H f = some (LamO f qL la__law_make lb__law_make ls__law_make c')
  c : H c' = some (CodeO c' qL)
theorem Lm.upx {H H' : Hp} {f c' d : Addr} (h : Lm H f c') (s : SameX d H H') (hd : DiceAt H d) : Lm H' f c' := by
  obtain ⟨x, y, z, e⟩ := hd
  exact ⟨s _ _ h.f (ne_of h.f e (fun q => by unfold LamO at q; cases q)), s _ _ h.c (ne_of h.c e (fun q => by unfold CodeO at q; cases q))⟩
theorem Lm.up {H H' : Hp} {f c' : Addr} (h : Lm H f c') (s : Same H H') : Lm H' f c' := ⟨s _ _ h.f, s _ _ h.c⟩
def LPtD (d D : Addr) (H : Hp) (a : Addr) (q : Pt) : Prop := ∃ tl, H a = some (.tup [.str q.kind, .str q.name, .ref tl]) ∧ H tl = some (.lst (q.ts.map tvv)) ∧ tl ≠ d ∧ tl ≠ D
theorem LPtD.wr {d D : Addr} {H : Hp} {a : Addr} {q : Pt} {xs : List V} {o : HO} (h : LPtD d D H a q) (hl : H D = some (.lst xs)) : LPtD d D (upd H D o) a q := by
  obtain ⟨tl, e, f, g, n⟩ := h
  exact ⟨tl, by rw [upd_ne (ne_of e hl (fun q => nomatch q))]; exact e, by rw [upd_ne n]; exact f, g, n⟩
theorem LPtD.upx {d D : Addr} {H H' : Hp} {a : Addr} {q : Pt} (h : LPtD d D H a q) (s : SameX d H H') (hd : DiceAt H d) : LPtD d D H' a q := by
  obtain ⟨tl, e, f, g, n⟩ := h
  exact ⟨tl, s _ _ e (hd.ne_tup e), s _ _ f g, g, n⟩
theorem TmAt.dx {C : Addr} {H H' : Hp} {a d : Addr} {n : Str} {v : V} (h : TmAt C H a n v) (s : SameX d H H') (hd : DiceAt H d) : TmAt C H' a n v := by
  obtain ⟨dx, e⟩ := h
  obtain ⟨x, y, z, el⟩ := hd
  exact ⟨dx, s _ _ e (ne_of e el (fun q => nomatch q))⟩
theorem TmsAt.dx {C : Addr} {H H' : Hp} {p d : Addr} {ts : List Tm} (h : TmsAt C H p ts) (s : SameX d H H') (hd : DiceAt H d) : TmsAt C H' p ts := by
  obtain ⟨as, e, f⟩ := h
  exact ⟨as, s _ _ e (hd.ne_tup e), f.imp fun a t h => TmAt.dx h s hd⟩
theorem LitAt.dx {A : Ad} {H H' : Hp} {a d : Addr} {q : Pt} (h : LitAt A H a q) (s : SameX d H H') (hd : DiceAt H d) : LitAt A H' a q := by
  obtain ⟨dx, pt, po, e, f, g⟩ := h
  obtain ⟨x, y, z, el⟩ := id hd
  exact ⟨dx, pt, po, s _ _ e (ne_of e el (fun q => nomatch q)), f.dx s hd, s _ _ g (hd.ne_tup g)⟩
theorem RuleAt.dx {A : Ad} {H H' : Hp} {a d : Addr} {r : RR} (h : RuleAt A H a r) (s : SameX d H H') (hd : DiceAt H d) : RuleAt A H' a r := by
  obtain ⟨dx, pt, pb, ps, sv, bs, e, f, g, hb, hs, kvs, ek, hk⟩ := h
  obtain ⟨x, y, z, el⟩ := id hd
  exact ⟨dx, pt, pb, ps, sv, bs, s _ _ e (ne_of e el (fun q => nomatch q)), f.dx s hd, s _ _ g (hd.ne_tup g), hb.imp fun a t h => h.dx s hd, hs, kvs, s _ _ ek (ne_of ek el (fun q => nomatch q)), hk⟩
theorem LPtX.dx {H H' : Hp} {a d : Addr} {q : Pt} (h : LPtX d H a q) (s : SameX d H H') (hd : DiceAt H d) : LPtX d H' a q := by
  obtain ⟨tl, e, f, n⟩ := h
  exact ⟨tl, s _ _ e (hd.ne_tup e), s _ _ f n, n⟩
/-- what stands while the dice are thrown -/
structure SitD (A : Ad) (H : Hp) (p d ps ru : Addr) (qs : List Pt) : Prop where
  l : H p = some (.lst [.ref d])
  ps : ∃ as : List Addr, H ps = some (.lst (as.map V.ref)) ∧ All2 (LPtX d H) as qs
  ru : RuleAt A H ru (mkR [] qs)
  tb : Tabs [(A.PL, qL)] H
  di : DiceAt H d
theorem SitD.dx {A : Ad} {H H' : Hp} {p d ps ru : Addr} {qs : List Pt} (h : SitD A H p d ps ru qs) (s : SameX d H H') (di : DiceAt H' d) (np : p ≠ d) (nps : ps ≠ d) : SitD A H' p d ps ru qs :=
  ⟨s _ _ h.l np, let ⟨as, e, f⟩ := h.ps; ⟨as, s _ _ e nps, f.imp fun a q h' => LPtX.dx h' s h.di⟩, h.ru.dx s h.di, fun q hq => TabS.upx (h.tb q hq) s h.di, di⟩
structure SitK (A : Ad) (H : Hp) (p d ps ru g z : Addr) (qs : List Pt) (given : List Str) (kvs : List (Key × V)) : Prop where
  l : H p = some (.lst [.ref d])
  ps : LPs H ps qs
  ru : RuleAt A H ru (mkR [] qs)
  g : H g = some (.tup (given.map V.str))
  z : H z = some (.dK kvs)
  tb : Tabs [(A.PL, qL)] H
theorem SitK.up {A : Ad} {H H' : Hp} {p d ps ru g z : Addr} {qs : List Pt} {given : List Str} {kvs : List (Key × V)} (h : SitK A H p d ps ru g z qs given kvs) (s : Same H H') : SitK A H' p d ps ru g z qs given kvs := ⟨s _ _ h.l, h.ps.up s, h.ru.up s, s _ _ h.g, s _ _ h.z, h.tb.ext s⟩
theorem SitK.n {A : Ad} {H H' : Hp} {p d ps ru g z : Addr} {qs : List Pt} {given : List Str} {kvs : List (Key × V)} (h : SitK A H p d ps ru g z qs given kvs) (s : ExtN H H') (t : Tabs [(A.PL, qL)] H') : SitK A H' p d ps ru g z qs given kvs :=
  ⟨s _ _ h.l (fun _ q => nomatch q), h.ps.n s, h.ru.n s, s _ _ h.g (fun _ q => nomatch q), s _ _ h.z (fun _ q => nomatch q), t⟩
theorem lc_str {x : Str} {g : TG} {tt : TT} {te : TE} {vs : List Nat} {σ : L2.St} {H1 : Hp} {D : Addr} {Qd : Hp → Prop} (Pv : Nat → Hp → Prop) (h0 : Pv 0 (upd H1 D (.lst [])))
    (hs : ∀ i c H, x.cps[i]? = some c → Pv i H → g (.str ⟨#[c]⟩) (wipe σ vs) H fun σ2 H2 => wipe σ2 vs = wipe σ vs ∧ tt σ2 H2 fun b H3 =>
      if b = true then te σ2 H3 fun y H4 => ∃ acc, H4 D = some (.lst acc) ∧ acc.length < sizeLine ∧ Pv (i + 1) (upd H4 D (.lst (acc ++ [y]))) else Pv (i + 1) H3) (hd : ∀ H, Pv x.cps.size H → Qd H) :
    ∃ W : Nat → Nat → Hp → Prop, (∃ m, W 0 m (upd H1 D (.lst []))) ∧ ∀ i m H, W i m H →
      ((Its x).stop i H ∧ Qd H) ∨ ((Its x).go i H ∧ ∃ Nx : Hp → Prop, (∀ H', Nx H' → ∃ m', m' < m ∧ W (i + 1) m' H') ∧ ∀ x' H', (Its x).yld i H x' H' → g x' (wipe σ vs) H' fun σ2 H2 => wipe σ2 vs = wipe σ vs ∧ tt σ2 H2 fun b H3 =>
        if b = true then te σ2 H3 fun y H4 => ∃ acc, H4 D = some (.lst acc) ∧ acc.length < sizeLine ∧ Nx (upd H4 D (.lst (acc ++ [y]))) else Nx H3) := by
  refine ⟨fun i m H => m = x.cps.size - i ∧ i ≤ x.cps.size ∧ Pv i H, ⟨x.cps.size, by simp, Nat.zero_le _, h0⟩, ?_⟩
  rintro i m H ⟨rfl, hi, p⟩
  by_cases hlt : i < x.cps.size
  · refine .inr ⟨hlt, Pv (i + 1), fun H' p' => ⟨x.cps.size - (i + 1), by omega, rfl, hlt, p'⟩, fun x' H' y => ?_⟩
    obtain ⟨rfl, c, hc, rfl⟩ := y
    exact hs i c _ hc p
  · have e : i = x.cps.size := by omega
    subst e
    exact .inl ⟨Nat.le_refl _, hd H p⟩
theorem letter {i c : Nat} (h : ("XYZ" : Str).cps[i]? = some c) : ∃ s : Str, is4 s ∧ (.str ⟨#[c]⟩ : V) = .str s := by
  have hi : i < ("XYZ" : Str).cps.size := (Array.getElem?_eq_some_iff.mp h).1
  have hs : ("XYZ" : Str).cps.size = 3 := by decide +kernel
  have : i = 0 ∨ i = 1 ∨ i = 2 := by omega
  rcases this with rfl | rfl | rfl
  · have e : ("XYZ" : Str).cps[0]? = some 88 := by decide +kernel
    rw [e] at h
    cases h
    exact ⟨"X", .inr (.inl rfl), by decide +kernel⟩
  · have e : ("XYZ" : Str).cps[1]? = some 89 := by decide +kernel
    rw [e] at h
    cases h
    exact ⟨"Y", .inr (.inr (.inl rfl)), by decide +kernel⟩
  · have e : ("XYZ" : Str).cps[2]? = some 90 := by decide +kernel
    rw [e] at h
    cases h
    exact ⟨"Z", .inr (.inr (.inr rfl)), by decide +kernel⟩
theorem sz_tab (n1 n2 : Int) : mergeK [] [((Sum.inr ("p" : Str) : Key), V.int n1), (Sum.inr ("q" : Str), V.int n2)] = [((Sum.inr ("p" : Str) : Key), V.int n1), (Sum.inr ("q" : Str), V.int n2)] := by
  have h : ¬ (("p" : Str) = "q") := by decide +kernel
  simp [mergeK, putK, h]
def szF (n1 n2 : Int) (x : Str) : Int := if x = "p" then n1 else if x = "q" then n2 else 0
theorem sz_val (n1 n2 : Int) (x : Str) : (valV [((Sum.inr ("p" : Str) : Key), V.int n1), (Sum.inr ("q" : Str), V.int n2)] (Sum.inr x)).getD (.int 0) = .int (szF n1 n2 x) := by
  unfold valV szF
  by_cases h1 : x = "p"
  · subst h1
    simp
  · have h1' : ¬ ("p" : Str) = x := fun z => h1 z.symm
    by_cases h2 : x = "q"
    · subst h2
      simp [h1', h1]
    · have h2' : ¬ ("q" : Str) = x := fun z => h2 z.symm
      simp [h1', h1, h2', h2]
theorem sz_pos (n1 n2 : Int) {x : Str} (h : x = "p" ∨ x = "q") : valV [((Sum.inr ("p" : Str) : Key), V.int n1), (Sum.inr ("q" : Str), V.int n2)] (Sum.inr x) = some (.int (szF n1 n2 x)) := by
  have h3 : ¬ (("p" : Str) = "q") := by decide +kernel
  have h4 : ¬ (("q" : Str) = "p") := by decide +kernel
  unfold valV szF
  rcases h with rfl | rfl
  · simp
  · simp [h3, h4]
def spLaw (K : PySem.W.Frag) (A : Ad) : Sp := fun vs H Q _ => ∃ (a : Addr) (ns : List Int), vs = [.ref a] ∧ SqL K H a (ns.map V.int) ∧ ns.length ≤ 63 ∧ H A.PL = some (.tbl #[]) ∧ ∀ H', Q (.bl true) H'
section
variable {P : Program} {w : World} {K : PySem.W.Frag} {mg : Str → Option Value} {base : Heap} {A : Ad}
theorem ok_law (T : Txt K mg A) (TB : LamX.TabB base mg A.cL A.PL) : FnOk P w K mg base CX0 10 A.f_law A.d_law ["_law_script"] (spLaw K A) := by
  have G_Term_init := ok_init (P := P) (w := w) (base := base) T
  have G_var : FnOk P w K mg base CX0 3 A.f_var A.d_var ["name"] (spVar A.C_Term) := ok_var T
  have G_val : FnOk P w K mg base CX0 3 A.f_val A.d_val ["value"] (spVal A.C_Term) := ok_val T
  have G_l_rounds : FnOk P w K mg base CX0 2 A.f_l_rounds A.d_l_rounds ["_law_script", "_law_most"] (spRounds K) := ok_rounds T
  have G_l_roll : FnOk P w K mg base CX0 1 A.f_l_roll A.d_l_roll ["_law_dice_here", "_law_many"] spRoll := ok_roll T
  have G_l_part : FnOk P w K mg base CX0 2 A.f_l_part A.d_l_part ["_law_dice_here"] spPart := ok_lpart T
  have G_l_flat : FnOk P w K mg base CX0 1 A.f_l_flat A.d_l_flat ["_law_rows"] spFlat := ok_flat T
  have G_l_gives : FnOk P w K mg base CX0 2 A.f_l_gives A.d_l_gives ["_law_part_here"] spLGives := ok_lgives T
  have G_l_ready : FnOk P w K mg base CX0 2 A.f_l_ready A.d_l_ready ["_law_parts", "_law_j", "_law_bound"] spLReady := ok_lready T
  have G_l_planned : FnOk P w K mg base CX0 3 A.f_l_planned A.d_l_planned ["_law_parts", "_law_given", "_law_sizes"] spPlanned := ok_lplanned T
  have G_Literal_init : FnOk P w K mg base CX0 3 A.f_Literal_init A.d_Literal_init ["self", "kind", "name", "terms"] (spLitInit A) := ok_lit_init T
  have G_Rule_init : FnOk P w K mg base CX0 3 A.f_Rule_init A.d_Rule_init ["self", "name", "terms", "body", "summed"] (spRuleInit A) := ok_rule_init T
  have G_plan : FnOk P w K mg base (L2.CX P w) 7 A.f_plan A.d_plan ["rule", "sizes", "first", "given"] (spPlan A) := ok_plan T
  have G_is_plan : FnOk P w K mg base CX0 5 A.f_is_plan A.d_is_plan ["rule", "order", "given"] (spIsPlan A) := ok_is_plan T
  have G_all_plans : FnOk P w K mg base CX0 6 A.f_all_plans A.d_all_plans ["rule", "given"] (spAllP A) := ok_all_plans T
  have G_Plan_bound_at : FnOk P w K mg base CX0 5 A.f_Plan_bound_at A.d_Plan_bound_at ["self", "step"] (spBoundAt A) := ok_bound_at T
  have G_Plan_known_places : FnOk P w K mg base CX0 6 A.f_Plan_known_places A.d_Plan_known_places ["self", "step"] (spKnownPl A) := ok_known_pl T
  have G_Plan_shown : FnOk P w K mg base CX0 7 A.f_Plan_shown A.d_Plan_shown ["self"] (spPlShown A) := ok_pl_shown T
  obtain ⟨ds, hv_Rule_init, hb_Rule_init⟩ := T.bd_Rule_init
  refine T.C_law.ok sc_law (fun vs H Q E h => ?_) (fun ar outer s H vs Q E hr h => ?_)
  · obtain ⟨a, ns, rfl, _⟩ := h
    rfl
  · obtain ⟨a, ns, rfl, hS, hl, hP, k⟩ := h
    refine ⟨_, (C8.pss_cut (ps_set (i := 1) sc_law.nd rfl (Or.inr rfl) (LamX.pe_lamdef (T := [(A.PL, qL)]) (params := la__law_make) (body := lb__law_make) (scope := ls__law_make) TB (by rfl) (by exact List.mem_cons_self) (fun p hp _ => by rw [List.mem_singleton.mp hp]; rfl) (by rfl) (by decide +kernel)))
      (C8.pss_cut (ps_for PassesOwn.never rfl (listK K (pe_call G_l_rounds (hr.mono (by decide)) (by rfl) T.m_l_rounds T.F_l_rounds.kp T.b_l_rounds .nil pass0 (pa_cons (pv 0) (pa_cons pe_int pa_nil)))) (pg_name (i := 2) sc_law.nd rfl (Or.inr rfl))
        (C8.pss_cut (ps_set (i := 3) sc_law.nd rfl (Or.inr rfl) (pe_lc (own := [("_law_k", 18)]) (by rfl) sc_law.nd (pi_range1 (by rfl) T.z_range (pa_cons (pe_call G_l_roll (hr.mono (by decide)) (by rfl) T.m_l_roll T.F_l_roll.kp T.b_l_roll .nil pass0 (pa_cons (pv 2) (pa_cons pe_int pa_nil))) pa_nil)) (blkOk_by (own := [("_law_k", 18)]) (N := N_law) (sc := defScope s_law) (by decide +kernel)) (fun _ _ _ _ _ => (pg_name (i := 18) sc_law.nd rfl (Or.inl rfl))) (fun _ _ _ _ _ => pts_nil) (fun _ _ _ _ _ => (pe_call G_l_part (hr.mono (by decide)) (by rfl) T.m_l_part T.F_l_part.kp T.b_l_part .nil pass0 (pa_cons (pv 2) pa_nil)))))
        (C8.pss_cut (ps_set (i := 4) sc_law.nd rfl (Or.inr rfl) (pe_make T.M_Rule G_Rule_init (hr.mono (by decide)) (by rfl) T.m_Rule hb_Rule_init hv_Rule_init pass0 (pa_cons pe_str (pa_cons (pe_lst pa_nil) (pa_cons (pe_lc (own := [("_law_kind", 19), ("_law_name", 20), ("_law_terms", 21)]) (by rfl) sc_law.nd (listK K (pv 3)) (blkOk_by (own := [("_law_kind", 19), ("_law_name", 20), ("_law_terms", 21)]) (N := N_law) (sc := defScope s_law) (by decide +kernel)) (fun _ _ _ _ _ => (tupK K (n := 3) rfl (pgs_cons (pg_name (i := 19) sc_law.nd rfl (Or.inl rfl)) (pgs_cons (pg_name (i := 20) sc_law.nd rfl (Or.inl rfl)) (pgs_cons (pg_name (i := 21) sc_law.nd rfl (Or.inl rfl)) pgs_nil))))) (fun _ _ _ _ _ => pts_nil) (fun _ _ _ _ _ => (pe_make T.M_Literal G_Literal_init (hr.mono (by decide)) (by rfl) T.m_Literal T.b_Literal_init .nil pass0 (pa_cons (pv 19) (pa_cons (pv 20) (pa_cons (pe_lc (own := [("_law_term", 22)]) (by rfl) sc_law.nd (listK K (pv 21)) (blkOk_by (own := [("_law_term", 22)]) (N := N_law) (by rfl)) (fun _ _ _ _ _ => (pg_name (i := 22) sc_law.nd rfl (Or.inl rfl))) (fun _ _ _ _ _ => pts_nil) (fun _ _ _ _ _ => (LamX.pe_lam1 (k := 3) (i := 1) (q := qL) (params := la__law_make) (body := lb__law_make) (scope := ls__law_make) (N := ["_law_term"]) sc_lam__law_make (hr.mono (by decide)) (fun _ _ _ _ => (by rfl)) (fun A' outer s H f c' hr => (pe_ifExp (pt_val (pe_callB (isiK K) (by rfl) T.z_isinstance (by decide +kernel) (pa_cons (pv 0) (pa_cons (pe_bltn (v := .ty "str") (by rfl) T.z_str (by decide +kernel) rfl) pa_nil)))) (pe_call G_var (hr.mono (by decide)) (by rfl) T.m_var T.F_var.kp T.b_var .nil pass0 (pa_cons (pv 0) pa_nil)) (pe_call G_val (hr.mono (by decide)) (by rfl) T.m_val T.F_val.kp T.b_val .nil pass0 (pa_cons (pv 0) pa_nil)))) (by rfl) (by first | exact Or.inl rfl | exact Or.inr (Or.inl rfl) | exact Or.inr (Or.inr rfl)) (pa_cons (pv 22) pa_nil)))) pa_nil)))))) pa_nil)))))
        (C8.pss_cut (ps_set (i := 5) sc_law.nd rfl (Or.inr rfl) (pe_callTy (tupOf K) (by rfl) T.z_tuple (by decide +kernel) (pa_cons (pe_lc (own := [("_law_name", 20)]) (by rfl) sc_law.nd (pi_str pe_str) (blkOk_by (own := [("_law_name", 20)]) (N := N_law) (sc := defScope s_law) (by decide +kernel)) (fun _ _ _ _ _ => (pg_name (i := 20) sc_law.nd rfl (Or.inl rfl))) (fun _ _ _ _ _ => (pts_one (pt_cmpR op_eq (pe_call G_l_roll (hr.mono (by decide)) (by rfl) T.m_l_roll T.F_l_roll.kp T.b_l_roll .nil pass0 (pa_cons (pv 2) (pa_cons pe_int pa_nil))) pe_int (nomark _)))) (fun _ _ _ _ _ => (pv 20))) pa_nil)))
        (C8.pss_cut (ps_set (i := 6) sc_law.nd rfl (Or.inr rfl) (pe_disp (pps_cons pe_str (pe_call G_l_roll (hr.mono (by decide)) (by rfl) T.m_l_roll T.F_l_roll.kp T.b_l_roll .nil pass0 (pa_cons (pv 2) (pa_cons pe_int pa_nil))) (pps_cons pe_str (pe_call G_l_roll (hr.mono (by decide)) (by rfl) T.m_l_roll T.F_l_roll.kp T.b_l_roll .nil pass0 (pa_cons (pv 2) (pa_cons pe_int pa_nil))) pps_nil)) (by rfl) (by rfl) (fun z => by cases z) (by decide)))
        (C8.pss_cut (ps_set (i := 7) sc_law.nd rfl (Or.inl rfl) (pe_call G_l_planned (hr.mono (by decide)) (by rfl) T.m_l_planned T.F_l_planned.kp T.b_l_planned .nil pass0 (pa_cons (pv 3) (pa_cons (pv 5) (pa_cons (pv 6) pa_nil)))))
        (C8.pss_cut (ps_set (i := 8) sc_law.nd rfl (Or.inl rfl) (pe_told T (by rfl) (by rfl) TB (by rfl) (by rfl) (by rfl) (k := 7) (hr.mono (by decide)) (LamX.lamS_by (by rfl)) (by rfl) (fun _ _ _ _ _ => (by rfl)) (fun A' outer s H E f c' hr => (fldK K (pe_call G_plan (hr.mono (by decide)) (by rfl) T.m_plan T.F_plan.kp T.b_plan .nil (passes_call (takes_of rfl rfl rfl rfl) (fun _ _ _ _ h => h)) (pa_cons (pv 4) (pa_cons (pv 6) (pa_cons pe_non (pa_cons (pv 5) pa_nil))))) rfl))))
        (C8.pss_cut (ps_if (pt_cmpR (neD K hr.units) (pv 8) (pe_ifExp (pt_cmpR op_isN (pv 7) pe_non (nomark _)) pe_str (pe_callTy (tupOf K) (by rfl) T.z_tuple (by decide +kernel) (pa_cons (pv 7) pa_nil))) (nomark _))
          (pss_one (ps_ret pe_bl))
          pss_nil)
        (C8.pss_cut (ps_set (i := 9) sc_law.nd rfl (Or.inl rfl) (pe_lst (pa_cons (pe_tup pa_nil) pa_nil)))
        (C8.pss_cut (ps_for PassesOwn.never rfl (pi_range1 (by rfl) T.z_range (pa_cons (pe_callB (lenK K) (by rfl) T.z_len (by decide +kernel) (pa_cons (pv 3) pa_nil)) pa_nil)) (pg_name (i := 10) sc_law.nd rfl (Or.inl rfl))
          (C8.pss_cut (ps_set (i := 11) sc_law.nd rfl (Or.inl rfl) (pe_lst pa_nil))
          (C8.pss_cut (ps_for PassesOwn.never rfl (listK K (pv 9)) (pg_name (i := 12) sc_law.nd rfl (Or.inr rfl))
            (C8.pss_cut (ps_set (i := 13) sc_law.nd rfl (Or.inr rfl) (pe_op op_cat (pe_callTy (listOf K) (by rfl) T.z_list (by decide +kernel) (pa_cons (pv 5) pa_nil)) (pe_call G_l_flat (hr.mono (by decide)) (by rfl) T.m_l_flat T.F_l_flat.kp T.b_l_flat .nil pass0 (pa_cons (pe_lc (own := [("_law_j", 23)]) (by rfl) sc_law.nd (tupIK K (pv 12)) (blkOk_by (own := [("_law_j", 23)]) (N := N_law) (sc := defScope s_law) (by decide +kernel)) (fun _ _ _ _ _ => (pg_name (i := 23) sc_law.nd rfl (Or.inl rfl))) (fun _ _ _ _ _ => pts_nil) (fun _ _ _ _ _ => (pe_lc (own := [("_law_one", 14)]) (by rfl) sc_law.nd (listK K (pe_call G_l_gives (hr.mono (by decide)) (by rfl) T.m_l_gives T.F_l_gives.kp T.b_l_gives .nil pass0 (pa_cons (pe_ix (ixL K) (pv 3) (pv 23) (fun _ _ => rfl)) pa_nil))) (blkOk_by (own := [("_law_one", 14)]) (N := N_law) (by rfl)) (fun _ _ _ _ _ => (pg_name (i := 14) sc_law.nd rfl (Or.inl rfl))) (fun _ _ _ _ _ => pts_nil) (fun _ _ _ _ _ => (pv 14))))) pa_nil))))
            (pss_one (ps_set (i := 11) sc_law.nd rfl (Or.inl rfl) (pe_op op_cat (pv 11) (pe_lc (own := [("_law_j", 23)]) (by rfl) sc_law.nd (pi_range1 (by rfl) T.z_range (pa_cons (pe_callB (lenK K) (by rfl) T.z_len (by decide +kernel) (pa_cons (pv 3) pa_nil)) pa_nil)) (blkOk_by (own := [("_law_j", 23)]) (N := N_law) (sc := defScope s_law) (by decide +kernel)) (fun _ _ _ _ _ => (pg_name (i := 23) sc_law.nd rfl (Or.inl rfl))) (fun _ _ _ _ _ => (pts_one (PW.pt (pw_and (pt_cmpR (notInSeq K) (pv 23) (pv 12) (by rfl)) (pw_and1 (pt_val (pe_call G_l_ready (hr.mono (by decide)) (by rfl) T.m_l_ready T.F_l_ready.kp T.b_l_ready .nil pass0 (pa_cons (pv 3) (pa_cons (pv 23) (pa_cons (pv 13) pa_nil)))))))))) (fun _ _ _ _ _ => (pe_op (catAK K) (pv 12) (pe_tup (pa_cons (pv 23) pa_nil))))))))))
          (pss_one (ps_set (i := 9) sc_law.nd rfl (Or.inl rfl) (pv 11))))))
        (C8.pss_cut (ps_if (pt_cmpR (neD K hr.units) (pe_call G_all_plans (hr.mono (by decide)) (by rfl) T.m_all_plans T.F_all_plans.kp T.b_all_plans .nil pass0 (pa_cons (pv 4) (pa_cons (pv 5) pa_nil))) (pe_callTy (tupOf K) (by rfl) T.z_tuple (by decide +kernel) (pa_cons (pv 9) pa_nil)) (nomark _))
          (pss_one (ps_ret pe_bl))
          pss_nil)
        (pss_one (ps_if (pt_cmpR op_notN (pv 7) pe_non (nomark _))
          (C8.pss_cut (ps_set (i := 14) sc_law.nd rfl (Or.inl rfl) (pe_call G_plan (hr.mono (by decide)) (by rfl) T.m_plan T.F_plan.kp T.b_plan .nil passL (pa_cons (pv 4) (pa_cons (pv 6) (pa_cons pe_non (pa_cons (pv 5) pa_nil))))))
          (C8.pss_cut (ps_if (PW.pt (pw_or (pt_not (pt_val (pe_call G_is_plan (hr.mono (by decide)) (by rfl) T.m_is_plan T.F_is_plan.kp T.b_is_plan .nil pass0 (pa_cons (pv 4) (pa_cons (fldK K (pv 14) rfl) (pa_cons (pv 5) pa_nil)))))) (pw_or1 (pt_val (pe_call G_is_plan (hr.mono (by decide)) (by rfl) T.m_is_plan T.F_is_plan.kp T.b_is_plan .nil pass0 (pa_cons (pv 4) (pa_cons (pe_op (catAK K) (fldK K (pv 14) rfl) (pe_tup (pa_cons pe_int pa_nil))) (pa_cons (pv 5) pa_nil))))))))
            (pss_one (ps_ret pe_bl))
            pss_nil)
          (C8.pss_cut (ps_for PassesOwn.never rfl (pi_range1 (by rfl) T.z_range (pa_cons (pe_callB (lenK K) (by rfl) T.z_len (by decide +kernel) (pa_cons (pv 3) pa_nil)) pa_nil)) (pg_name (i := 15) sc_law.nd rfl (Or.inl rfl))
            (C8.pss_cut (ps_set (i := 13) sc_law.nd rfl (Or.inr rfl) (pe_op op_cat (pe_callTy (listOf K) (by rfl) T.z_list (by decide +kernel) (pa_cons (pv 5) pa_nil)) (pe_call G_l_flat (hr.mono (by decide)) (by rfl) T.m_l_flat T.F_l_flat.kp T.b_l_flat .nil pass0 (pa_cons (pe_lc (own := [("_law_j", 23)]) (by rfl) sc_law.nd (listK K (pe_slice (slL K) (pv 7) po_none (po_some (pv 15)))) (blkOk_by (own := [("_law_j", 23)]) (N := N_law) (sc := defScope s_law) (by decide +kernel)) (fun _ _ _ _ _ => (pg_name (i := 23) sc_law.nd rfl (Or.inl rfl))) (fun _ _ _ _ _ => pts_nil) (fun _ _ _ _ _ => (pe_lc (own := [("_law_name", 20)]) (by rfl) sc_law.nd (listK K (pe_call G_l_gives (hr.mono (by decide)) (by rfl) T.m_l_gives T.F_l_gives.kp T.b_l_gives .nil pass0 (pa_cons (pe_ix (ixL K) (pv 3) (pv 23) (fun _ _ => rfl)) pa_nil))) (blkOk_by (own := [("_law_name", 20)]) (N := N_law) (by rfl)) (fun _ _ _ _ _ => (pg_name (i := 20) sc_law.nd rfl (Or.inl rfl))) (fun _ _ _ _ _ => pts_nil) (fun _ _ _ _ _ => (pv 20))))) pa_nil))))
            (C8.pss_cut (ps_if (pt_cmpR (neD K hr.units) (pe_callB (cr_sortedT K) (by rfl) T.z_sorted (by decide +kernel) (pa_cons (pe_meth (pv 14) T.cl_Plan T.e_Plan_bound_at G_Plan_bound_at (hr.mono (by decide)) T.b_Plan_bound_at .nil pass0 (pa_cons (pv 15) pa_nil)) pa_nil)) (pe_callB (call_sortedD rfl) (by rfl) T.z_sorted (by decide +kernel) (pa_cons (pe_callTy (call_dictP rfl) (by rfl) T.z_dict (by decide +kernel) (pa_cons (pe_lc (own := [("_law_name", 20)]) (by rfl) sc_law.nd (listK K (pv 13)) (blkOk_by (own := [("_law_name", 20)]) (N := N_law) (sc := defScope s_law) (by decide +kernel)) (fun _ _ _ _ _ => (pg_name (i := 20) sc_law.nd rfl (Or.inl rfl))) (fun _ _ _ _ _ => pts_nil) (fun _ _ _ _ _ => (pe_tup (pa_cons (pv 20) (pa_cons pe_int pa_nil))))) pa_nil)) pa_nil)) (nomark _))
              (pss_one (ps_ret pe_bl))
              pss_nil)
            (C8.pss_cut (ps_setLc (i := 16) (own := [("_law_k", 18), ("_law_term", 22)]) (by rfl) sc_law.nd rfl rfl (sw_true rfl rfl rfl (by decide +kernel)) (enumK K (by rfl) T.z_enumerate (pa_cons (pe_ix (ixT K) (pe_ix (ixL K) (pv 3) (pe_ix (ixL K) (pv 7) (pv 15) (fun _ _ => rfl)) (fun _ _ => rfl)) pe_int (fun _ _ => rfl)) pa_nil)) (blkOk_by (own := [("_law_k", 18), ("_law_term", 22)]) (N := N_law) (sc := defScope s_law) (by decide +kernel)) (fun _ _ _ _ _ => (tupK K (n := 2) rfl (pgs_cons (pg_name (i := 18) sc_law.nd rfl (Or.inl rfl)) (pgs_cons (pg_name (i := 22) sc_law.nd rfl (Or.inl rfl)) pgs_nil)))) (fun _ _ _ _ _ => (pts_one (PW.pt (pw_or (pt_not (pt_val (pe_callB (isiK K) (by rfl) T.z_isinstance (by decide +kernel) (pa_cons (pv 22) (pa_cons (pe_bltn (v := .ty "str") (by rfl) T.z_str (by decide +kernel) rfl) pa_nil))))) (pw_or1 (pt_cmpR (inSeq K) (pv 22) (pv 13) (by rfl))))))) (fun _ _ _ _ _ => (pv 18)))
            (pss_one (ps_if (PW.pt (pw_or (pt_cmpR (neD K hr.units) (pe_meth (pv 14) T.cl_Plan T.e_Plan_known_places G_Plan_known_places (hr.mono (by decide)) T.b_Plan_known_places .nil pass0 (pa_cons (pv 15) pa_nil)) (pe_callTy (tupOf K) (by rfl) T.z_tuple (by decide +kernel) (pa_cons (pv 16) pa_nil)) (nomark _)) (pw_or1 (pt_cmpR (neD K hr.units) (pe_ix (ixT K) (pe_ix (ixT K) (pe_meth0 (pv 14) T.cl_Plan T.e_Plan_shown G_Plan_shown (hr.mono (by decide)) T.b_Plan_shown .nil pass0) pe_int (fun _ _ => rfl)) (pv 15) (fun _ _ => rfl)) (pe_callTy (tupOf K) (by rfl) T.z_tuple (by decide +kernel) (pa_cons (pv 16) pa_nil)) (nomark _)))))
              (pss_one (ps_ret pe_bl))
              pss_nil))))))
          (pss_one (ps_for PassesOwn.never rfl (pi_range1 (by rfl) T.z_range (pa_cons (pe_callB (lenK K) (by rfl) T.z_len (by decide +kernel) (pa_cons (pv 3) pa_nil)) pa_nil)) (pg_name (i := 17) sc_law.nd rfl (Or.inr rfl))
            (pss_one (ps_if (pt_cmpR op_eq (pe_ix (ixT K) (pe_ix (ixL K) (pv 3) (pv 17) (fun _ _ => rfl)) pe_int (fun _ _ => rfl)) pe_str (nomark _))
              (C8.pss_cut (ps_set (i := 12) sc_law.nd rfl (Or.inr rfl) (pe_told T (by rfl) (by rfl) TB (by rfl) (by rfl) (by rfl) (k := 7) (hr.mono (by decide)) (LamX.lamS_by (by rfl)) (by rfl) (fun _ _ _ _ _ => (by rfl)) (fun A' outer s H E f c' hr => (fldK K (pe_call G_plan (hr.mono (by decide)) (by rfl) T.m_plan T.F_plan.kp T.b_plan .nil (passes_call (takes_of rfl rfl rfl rfl) (fun _ _ _ _ h => h)) (pa_cons (pv 4) (pa_cons (pv 6) (pa_cons (pv 17) (pa_cons (pv 5) pa_nil))))) rfl))))
              (pss_one (ps_if (PW.pt (pw_or (pt_cmpR (eqD K hr.units) (pv 12) pe_str (nomark _)) (pw_or (pt_cmpR op_ne (pe_ix (ixT K) (pv 12) pe_int (fun _ _ => rfl)) (pv 17) (nomark _)) (pw_or1 (pt_cmpR (neD K hr.units) (pe_callB (cr_sortedTI K) (by rfl) T.z_sorted (by decide +kernel) (pa_cons (pv 12) pa_nil)) (pe_listRg (by rfl) (by rfl) T.z_list (prg_1 (by rfl) T.z_range (pe_callB (lenK K) (by rfl) T.z_len (by decide +kernel) (pa_cons (pv 3) pa_nil)))) (nomark _))))))
                (pss_one (ps_ret pe_bl))
                pss_nil)))
              pss_nil)))))))
          pss_nil)))))))))))))
      (pss_one (ps_ret pe_bl)))), ?_⟩
    refine ⟨fun σ H' => ∃ f c', σ = [some (.ref a), some (.ref f), none, none, none, none, none, none, none, none, none, none, none, none, none, none, none, none, none, none, none, none, none, none] ∧ SqL K H' a (ns.map V.int) ∧ Lm H' f c' ∧ Tabs [(A.PL, qL)] H', ?_, ?_⟩
    · refine ⟨fun p hp => ?_, fun f c' H1 ext tb hc hf => ?_⟩
      · cases List.mem_singleton.mp hp
        exact TabS.nil hP
      · have s1 : Same H1 (upd H1 f (LamO f qL la__law_make lb__law_make ls__law_make c')) := same_new hf
        exact ⟨f, c', rfl, sqL_n (sqL_n hS ext) (ExtN.of s1), ⟨upd_same, s1 _ _ hc⟩, tb.ext s1⟩
    rintro σ H0 ⟨f, c', rfl, hS0, hL0, tb0⟩
    refine ⟨fun σ H' => (∃ v1 v2 v3 v4 v5 v6 v7 v8 v9 v10 v11 v12 v13 v14 v15 v16 v17 v18 v19 v20 v21 v22 v23, σ = [some (.ref a), v1, v2, v3, v4, v5, v6, v7, v8, v9, v10, v11, v12, v13, v14, v15, v16, v17, v18, v19, v20, v21, v22, v23]) ∧ Tabs [(A.PL, qL)] H', ?_, ?_⟩
    · -- the loop
      refine ⟨_, rfl, a, ns, rfl, hS0, fun p d H1 s1 hp0 hd0 ndp hdice el => ⟨p, rfl, ⟨_, SqL.of el⟩, ?_⟩⟩
      refine for_list (K := K) (a := p) (xs := [.ref d]) (fun i σ H' => H' p = some (.lst [.ref d]) ∧ Tabs [(A.PL, qL)] H' ∧ (∃ v1 v2 v3 v4 v5 v6 v7 v8 v9 v10 v11 v12 v13 v14 v15 v16 v17 v18 v19 v20 v21 v22 v23, σ = [some (.ref a), v1, v2, v3, v4, v5, v6, v7, v8, v9, v10, v11, v12, v13, v14, v15, v16, v17, v18, v19, v20, v21, v22, v23]) ∧ (i = 0 → σ = [some (.ref a), some (.ref f), none, none, none, none, none, none, none, none, none, none, none, none, none, none, none, none, none, none, none, none, none, none] ∧ DiceAt H' d ∧ Lm H' f c'))
        ⟨el, tb0.ext s1, ⟨_, _, _, _, _, _, _, _, _, _, _, _, _, _, _, _, _, _, _, _, _, _, _, rfl⟩, fun _ => ⟨rfl, hdice, hL0.up s1⟩⟩ (fun i σ H' _ h => SqL.of h.1) ?_ ?_
      · rintro i v σ H2 hv ⟨el2, tb2, _, h0⟩
        have hi : i = 0 := by
          have : i < 1 := (List.getElem?_eq_some_iff.mp hv).1
          omega
        subst hi
        cases hv
        obtain ⟨rfl, hd2, hL2⟩ := h0 rfl
        -- parts
        refine ⟨fun σ H' => ∃ (ps : Addr) (as : List Addr) (qs : List Pt), σ = [some (.ref a), some (.ref f), some (.ref d), some (.ref ps), none, none, none, none, none, none, none, none, none, none, none, none, none, none, none, none, none, none, none, none] ∧ H' p = some (.lst [.ref d]) ∧ Tabs [(A.PL, qL)] H' ∧ DiceAt H' d ∧ Lm H' f c' ∧ ps ≠ d ∧ H' ps = some (.lst (as.map V.ref)) ∧ All2 (LPtX d H') as qs ∧ qs.length ≤ 4 ∧ ∀ q ∈ qs, GoodP q, ?_, ?_⟩
        · refine ⟨_, rfl, d, 5, rfl, hd2, by decide, by decide, fun n H3 n0 n1 d3 f3 => ⟨_, rfl, by omega, by omega, fun D hD => ?_⟩⟩
          have x3 : SameX d H2 H3 := sx_of f3
          have ndD : D ≠ d := (d3.ne hD).symm
          refine lc_range (n := n.toNat) (fun i H' => i ≤ n.toNat ∧ SameX d H3 H' ∧ DiceAt H' d ∧ ∃ (as : List Addr) (qs : List Pt), H' D = some (.lst (as.map V.ref)) ∧ All2 (LPtD d D H') as qs ∧ qs.length = i ∧ ∀ q ∈ qs, GoodP q)
            ⟨Nat.zero_le _, Same.x (same_new hD), d3.up1 ndD.symm, [], [], upd_same, .nil, rfl, fun _ h => nomatch h⟩ ?_ ?_
          · rintro i H4 hi ⟨_, x4, d4, as, qs, eD, hall, hlen, hg⟩
            refine ⟨rfl, _, rfl, d, rfl, d4, fun b q tl H5 gq x5 d5 ntl ntd eb etl => ?_⟩
            have eD5 := x5 _ _ eD ndD
            have ntD : tl ≠ D := (ne_of_none eD ntl).symm
            have hnew : LPtD d D H5 b q := ⟨tl, eb, etl, ntd, ntD⟩
            refine ⟨as.map V.ref, eD5, by rw [List.length_map, hall.1]; exact sz (by omega), by omega, fun b' o' e' nb' => ?_, d5.up1 ndD.symm, as ++ [b], qs ++ [q], by rw [upd_same, List.map_append]; rfl, ?_, by rw [List.length_append, hlen]; rfl, fun q' hq' => ?_⟩
            · rw [upd_ne (ne_of_none e' hD)]
              exact x5 _ _ (x4 _ _ e' nb') nb'
            · exact (All2.snoc (hall.imp fun a t h => LPtD.upx h x5 d4) hnew).imp fun a t h => LPtD.wr h eD5
            · rcases List.mem_append.mp hq' with z | z
              · exact hg q' z
              · rw [List.mem_singleton] at z
                rw [z]
                exact gq
          · rintro H4 ⟨_, x4, d4, as, qs, eD, hall, hlen, hg⟩
            have x24 := x3.trans x4
            have npd : p ≠ d := ndp.symm
            have tb3 : Tabs [(A.PL, qL)] H4 := fun q hq => TabS.upx (tb2 q hq) x24 hd2
            exact ⟨D, as, qs, rfl, x24 _ _ el2 npd, tb3, d4, hL2.upx x24 hd2, ndD, eD, hall.imp fun a t ⟨tl, e, f, g, _⟩ => ⟨tl, e, f, g⟩, by omega, hg⟩
        rintro σ H3 ⟨ps, as, qs, rfl, el3, tb3, hd3, hL3, npd, eps, hall3, hq4, hgood⟩
        have hDr : Drawn [] qs := drawn_of (Nat.zero_le _) (fun _ h => nomatch h) (by omega) hgood
        have hwf := hDr.wf
        have npp : p ≠ d := ndp.symm
        -- the rule
        refine ⟨fun σ H' => ∃ ru : Addr, σ = [some (.ref a), some (.ref f), some (.ref d), some (.ref ps), some (.ref ru), none, none, none, none, none, none, none, none, none, none, none, none, none, none, none, none, none, none, none] ∧ SitD A H' p d ps ru qs, ?_, ?_⟩
        · refine ⟨Nat.zero_le _, fun D1 hD1 => ?_⟩
          have st1 : ∀ D, Stab D fun H y (t : Tm) => ∃ x, y = .ref x ∧ TO A.C_Term H x t := fun D => ⟨fun ⟨x, e, h⟩ s => ⟨x, e, TmAt.up h s⟩, fun hl ⟨x, e, h⟩ => ⟨x, e, TmAt.wr h hl (fun _ _ _ q => nomatch q)⟩⟩
          have s5 : Same H3 (upd H3 D1 (.lst [])) := same_new hD1
          have eD1 : upd H3 D1 (.lst []) D1 = some (.lst []) := upd_same
          generalize upd H3 D1 (.lst []) = H5 at s5 eD1 ⊢
          refine ⟨_, rfl, ps, rfl, ⟨_, SqL.of (s5 _ _ eps)⟩, fun D2 hD2 => ?_⟩
          have st2 : Stab D2 fun H y (q : Pt) => ∃ x, y = .ref x ∧ LitAt A H x q := ⟨fun ⟨x, e, h⟩ s => ⟨x, e, h.up s⟩, fun hl ⟨x, e, h⟩ => ⟨x, e, h.wr hl⟩⟩
          refine lc_list (K := K) (a := ps) (xs := as.map V.ref) (LcI (fun H y (q : Pt) => ∃ x, y = .ref x ∧ LitAt A H x q) (fun _ => true) qs H5 D2) (LcI.start hD2) (fun i H' _ h => SqL.of (h.1 _ _ (s5 _ _ eps))) ?_ ?_
          · intro i y H6 hy h6
            obtain ⟨b, q, rfl, eb, eq, tl, ea, et, _⟩ := hall3.at hy
            have s46 := s5.trans h6.1
            have hwq := hDr.ts eq
            refine ⟨b, _, rfl, SqT.of (s46 _ _ ea), rfl, _, _, rfl, _, _, rfl, _, _, rfl, rfl, rfl, ?_⟩
            refine ⟨_, rfl, _, rfl, _, rfl, tl, rfl, ⟨_, SqL.of (s46 _ _ et)⟩, fun D3 hD3 => ?_⟩
            refine lc_list (K := K) (a := tl) (xs := q.ts.map tvv) (LcI (fun H y (t : Tm) => ∃ x, y = .ref x ∧ TO A.C_Term H x t) (fun _ => true) q.ts H6 D3) (LcI.start hD3) (fun i H' _ h => SqL.of (h.1 _ _ (s46 _ _ et))) ?_ ?_
            · intro i2 y H7 hy h7
              rw [List.getElem?_map] at hy
              obtain ⟨t, ht, rfl⟩ := Option.map_eq_some_iff.mp hy
              have hL7 := (hL3.up s46).up h7.1
              have hl7 : q.ts.length ≤ 999 := by have := hwq.1; omega
              refine ⟨rfl, f, c', rfl, hL7.f, _, rfl, rfl, hL7.f, hL7.c, ?_⟩
              cases t with
              | inl z => exact ⟨_, rfl, _, _, _, _, _, rfl, .ty _, .base (.str z), kit_ty (by decide +kernel), _, rfl, iteT ⟨_, rfl, z, rfl, fun x H8 nx hx s8 => h7.yes (st1 D3) hD3 hl7 ht rfl s8 ⟨x, rfl, hx⟩⟩⟩
              | inr z => exact ⟨_, rfl, _, _, _, _, _, rfl, .ty _, .base (.int z), kit_ty (by decide +kernel), _, rfl, iteF ⟨_, rfl, _, rfl, fun x H8 nx hx s8 => h7.yes (st1 D3) hD3 hl7 ht rfl s8 ⟨x, rfl, hx⟩⟩⟩
            · intro H7 h7
              obtain ⟨ys, s7, eD3, hv⟩ := h7.fin (by rw [List.length_map]; exact Nat.le_refl _)
              obtain ⟨ts2, rfl, hts2⟩ := hv.refs
              rw [filter_tt] at hts2
              refine fun x dx nx ndx nex => ?_
              have s8 := made0 (C := A.C_Literal) nx ndx
              refine ⟨x, dx, D3, q.kind, q.name, q.ts, rfl, upd_same, ⟨ts2, s8 _ _ eD3, hts2.imp fun a t h => TmAt.up h s8⟩, hwq, fun H9 hlit sx => ⟨rfl, ?_⟩⟩
              exact h6.yes st2 hD2 (by omega) eq rfl (s7.trans (made nx ndx sx)) ⟨x, rfl, hlit⟩
          · intro H6 h6
            obtain ⟨ys, s6, eD2, hv⟩ := h6.fin (by rw [List.length_map, hall3.1]; exact Nat.le_refl _)
            obtain ⟨cs, rfl, hcs⟩ := hv.refs
            rw [filter_tt] at hcs
            refine fun x dx nx ndx nex => ?_
            have s8 := made0 (C := A.C_Rule) nx ndx
            have s68 := s6.trans s8
            refine ⟨x, dx, D1, D2, "h", .non, false, [], qs, cs, rfl, upd_same, ⟨[], s68 _ _ eD1, .nil⟩, s8 _ _ eD2, hcs.imp fun a t h => h.up s8, hwf.ts, hwf.body, .inl ⟨rfl, rfl⟩, fun H9 hrule sx => ⟨rfl, x, rfl, ?_⟩⟩
            have s9 : Same H3 H9 := (s5.trans s6).trans (made nx ndx sx)
            exact ⟨s9 _ _ el3, ⟨as, s9 _ _ eps, hall3.imp fun a q h => LPtX.dx h (Same.x s9) hd3⟩, hrule, tb3.ext s9, hd3.up s9⟩
        rintro σ H5 ⟨ru, rfl, S5⟩
        -- given
        refine ⟨fun σ H' => ∃ (g : Addr) (given : List Str), σ = [some (.ref a), some (.ref f), some (.ref d), some (.ref ps), some (.ref ru), some (.ref g), none, none, none, none, none, none, none, none, none, none, none, none, none, none, none, none, none, none] ∧ SitD A H' p d ps ru qs ∧ H' g = some (.tup (given.map V.str)) ∧ given.length ≤ 3 ∧ ∀ x ∈ given, is4 x, ?_, ?_⟩
        · refine ⟨_, rfl, fun D hD => ?_⟩
          have ndD : D ≠ d := (S5.di.ne hD).symm
          refine lc_str (fun i H' => SameX d H5 H' ∧ DiceAt H' d ∧ ∃ gs : List Str, H' D = some (.lst (gs.map V.str)) ∧ gs.length ≤ i ∧ ∀ x ∈ gs, is4 x) ⟨Same.x (same_new hD), S5.di.up1 ndD.symm, [], upd_same, Nat.zero_le _, fun _ h => nomatch h⟩ ?_ ?_
          · rintro i c H6 hc ⟨x6, d6, gs, eD, hl6, hg6⟩
            have hi3 : i < 3 := by
              have h1 := (Array.getElem?_eq_some_iff.mp hc).1
              have hs : ("XYZ" : Str).cps.size = 3 := by decide +kernel
              omega
            obtain ⟨s0, hs0, es⟩ := letter hc
            refine ⟨rfl, _, rfl, d, 3, rfl, d6, by decide, by decide, fun n H7 n0 n1 d7 f7 => ⟨rfl, _, rfl, ?_⟩⟩
            have x7 : SameX d H5 H7 := x6.trans (sx_of f7)
            have eD7 : H7 D = some (.lst (gs.map V.str)) := by rw [f7 D ndD]; exact eD
            refine iteB (fun _ => ?_) (fun _ => ?_)
            · refine ⟨_, rfl, _, eD7, by rw [List.length_map]; exact sz (by omega), fun b' o' e' nb' => ?_, d7.up1 ndD.symm, gs ++ [s0], ?_, by rw [List.length_append]; simp; omega, fun x hx => ?_⟩
              · rw [upd_ne (ne_of_none e' hD)]
                exact x7 _ _ e' nb'
              · rw [upd_same, es, List.map_append]
                rfl
              · rcases List.mem_append.mp hx with hx | hx
                · exact hg6 x hx
                · rw [List.mem_singleton.mp hx]
                  exact hs0
            · exact ⟨x7, d7, gs, eD7, by omega, hg6⟩
          · rintro H6 ⟨x6, d6, gs, eD, hl6, hg6⟩
            have hs : ("XYZ" : Str).cps.size = 3 := by decide +kernel
            rw [hs] at hl6
            refine ⟨D, _, rfl, .inl ⟨SqL.of eD, fun g hg => ⟨g, gs, rfl, S5.dx (x6.trans (Same.x (same_new hg))) (d6.up (same_new hg)) npp npd, upd_same, hl6, hg6⟩⟩⟩
        rintro σ H6 ⟨g, given, rfl, S6, eg6, hg3, hgiv⟩
        -- sizes
        refine ⟨fun σ H' => ∃ (z : Addr) (n1 n2 : Int), σ = [some (.ref a), some (.ref f), some (.ref d), some (.ref ps), some (.ref ru), some (.ref g), some (.ref z), none, none, none, none, none, none, none, none, none, none, none, none, none, none, none, none, none] ∧ SitK A H' p d ps ru g z qs given [((Sum.inr ("p" : Str) : Key), V.int n1), (Sum.inr ("q" : Str), V.int n2)], ?_, ?_⟩
        · intro z hz
          have ndz : z ≠ d := (S6.di.ne hz).symm
          have d7 := S6.di.up1 (o := .dK []) ndz.symm
          refine ⟨_, rfl, d, 4, rfl, d7, by decide, by decide, fun n1 H7 a0 a1 d8 f8 => ⟨_, rfl, d, 4, rfl, d8, by decide, by decide, fun n2 H8 b0 b1 d9 f9 => ⟨?_, [((Sum.inr ("p" : Str) : Key), V.int n1), (Sum.inr ("q" : Str), V.int n2)], rfl, (by show 2 ≤ 15; decide), ?_⟩⟩⟩
          · rw [f9 z ndz, f8 z ndz, upd_same]
          · rw [sz_tab]
            have x9 : SameX d H6 (upd H8 z (.dK [((Sum.inr ("p" : Str) : Key), V.int n1), (Sum.inr ("q" : Str), V.int n2)])) := fun b o e nb => by
              rw [upd_ne (ne_of_none e hz), f9 b nb, f8 b nb, upd_ne (ne_of_none e hz)]
              exact e
            have S9 := S6.dx x9 (d9.up1 ndz.symm) npp npd
            obtain ⟨as9, e9, f9'⟩ := S9.ps
            exact ⟨z, n1, n2, rfl, S9.l, ⟨as9, e9, f9'.imp fun a q ⟨tl, h1, h2, _⟩ => ⟨tl, h1, h2⟩⟩, S9.ru, x9 _ _ eg6 (S6.di.ne_tup eg6), upd_same, S9.tb⟩
        rintro σ H7 ⟨z, n1, n2, rfl, S7⟩
        generalize hkv : [((Sum.inr ("p" : Str) : Key), V.int n1), (Sum.inr ("q" : Str), V.int n2)] = kvs at S7
        have hg20 : given.length ≤ 20 := by omega
        have hszP : ∀ q ∈ qs, q.kind = "pos" → valV kvs (Sum.inr q.name) = some (.int (szF n1 n2 q.name)) := fun q hq hk => by
          rw [← hkv]
          exact sz_pos n1 n2 ((hgood q hq).nm (.inl hk))
        have hZ : ∀ {H}, SitK A H p d ps ru g z qs given kvs → SzAt H z (szF n1 n2) := fun S => ⟨kvs, S.z, fun x => by rw [← hkv]; exact sz_val n1 n2 x⟩
        generalize szF n1 n2 = sz at hszP hZ
        generalize hpl : U.plN (mkR [] qs) given sz qs.length [] = pl
        -- due
        refine ⟨fun σ H' => ∃ v : V, σ = [some (.ref a), some (.ref f), some (.ref d), some (.ref ps), some (.ref ru), some (.ref g), some (.ref z), some v, none, none, none, none, none, none, none, none, none, none, none, none, none, none, none, none] ∧ SitK A H' p d ps ru g z qs given kvs ∧ ((pl = none ∧ v = .non) ∨ ∃ ord l, pl = some ord ∧ v = .ref l ∧ H' l = some (.lst (ord.map nv))), ?_, ?_⟩
        · exact ⟨_, rfl, _, rfl, _, rfl, ps, g, z, qs, given, kvs, sz, rfl, S7.ps, hDr, S7.g, hg20, S7.z, hszP, fun hN H' s => ⟨_, rfl, S7.up s, .inl ⟨hpl.symm.trans hN, rfl⟩⟩, fun ord hS l H' s e => ⟨_, rfl, S7.up s, .inr ⟨ord, l, hpl.symm.trans hS, rfl, e⟩⟩⟩
        rintro σ H8 ⟨v, rfl, S8, hdue⟩
        -- told
        refine ⟨fun σ H' => ∃ t : V, σ = [some (.ref a), some (.ref f), some (.ref d), some (.ref ps), some (.ref ru), some (.ref g), some (.ref z), some v, some t, none, none, none, none, none, none, none, none, none, none, none, none, none, none, none] ∧ SitK A H' p d ps ru g z qs given kvs ∧ ((pl = none ∧ v = .non ∧ t = .str "rule") ∨ ∃ ord l o, pl = some ord ∧ v = .ref l ∧ H' l = some (.lst (ord.map nv)) ∧ t = .ref o ∧ H' o = some (.tup (ord.map nv))), ?_, ?_⟩
        · refine ⟨S8.tb, fun H9 ext tb9 => ?_⟩
          have S9 := S8.n ext tb9
          refine ⟨_, rfl, _, rfl, _, rfl, ru, z, g, mkR [] qs, sz, given, none, rfl, S9.ru, hwf, hZ S9, S9.g, hg20, (fun f h => nomatch h), fun hN H10 s10 => told_rule T ?_, fun ord hS pa H10 s10 hpa hP => ?_⟩
          · rcases hdue with ⟨h1, rfl⟩ | ⟨ord, l, h1, rfl, el⟩
            · exact ⟨_, rfl, S9.up s10, .inl ⟨h1, rfl, rfl⟩⟩
            · rw [h1] at hpl
              exact absurd (hpl.symm.trans hN) (fun z => nomatch z)
          · rcases hdue with ⟨h1, rfl⟩ | ⟨ord', l, h1, rfl, el⟩
            · rw [h1] at hpl
              exact absurd (hpl.symm.trans hS) (fun z => nomatch z)
            · have eo : ord' = ord := by
                rw [h1] at hpl
                exact (Option.some.inj (hS.symm.trans hpl)).symm
              subst eo
              obtain ⟨dp, o, gg, ep, eo, eg⟩ := hP
              exact ⟨pa, _, dp, _, _, rfl, ep, T.cl_Plan, T.n_Plan_order, plf_order _ _ _ _, _, rfl, S9.up s10, .inr ⟨ord', l, o, h1, rfl, s10 _ _ (ext _ _ el (fun _ q => nomatch q)), rfl, eo⟩⟩
        rintro σ H9 ⟨t, rfl, S9, htold⟩
        -- compare
        have hpl2 : ∀ ord, pl = some ord → U.Good (mkR [] qs) given ord ∧ ord.length = qs.length := fun ord h => by
          rw [h] at hpl
          obtain ⟨h1, h2, _⟩ := U.plN_good _ (U.Good.nil _ _) hpl
          exact ⟨h1, by rw [h2]; exact Nat.zero_add _⟩
        refine ⟨fun σ H' => σ = [some (.ref a), some (.ref f), some (.ref d), some (.ref ps), some (.ref ru), some (.ref g), some (.ref z), some v, some t, none, none, none, none, none, none, none, none, none, none, none, none, none, none, none] ∧ SitK A H' p d ps ru g z qs given kvs ∧ DueAt pl v H', ?_, ?_⟩
        · rcases htold with ⟨h1, rfl, rfl⟩ | ⟨ord, l, o, h1, rfl, el, rfl, eo⟩
          · exact ⟨_, rfl, _, rfl, rfl, _, rfl, iteT ⟨.str "rule", .str "rule", .str _, .str _, by decide +kernel, by decide +kernel, _, rfl, iteF ⟨rfl, S9, .inl ⟨h1, rfl⟩⟩⟩⟩
          · refine ⟨_, rfl, _, rfl, rfl, _, rfl, iteF ⟨_, rfl, l, _, rfl, .inl ⟨SqL.of el, fun u hu => ?_⟩⟩⟩
            refine ⟨dO ord, dO ord, dp_O (same_new hu _ _ eo), dp_O upd_same, shp_tup (fun x _ => ⟨(dI_lay x).1, Nat.le_trans (dI_lay x).2 (by decide)⟩), shp_tup (fun x _ => ⟨(dI_lay x).1, Nat.le_trans (dI_lay x).2 (by decide)⟩), _, rfl, ?_⟩
            rw [eqv_dO, decide_eq_true rfl]
            exact iteF ⟨rfl, S9.up (same_new hu), .inr ⟨ord, l, h1, rfl, same_new hu _ _ el⟩⟩
        rintro σ H10 ⟨rfl, S10, hdue⟩
        -- orders
        refine ⟨fun σ H' => ∃ L c, σ = [some (.ref a), some (.ref f), some (.ref d), some (.ref ps), some (.ref ru), some (.ref g), some (.ref z), some v, some t, some (.ref L), none, none, none, none, none, none, none, none, none, none, none, none, none, none] ∧ SitK A H' p d ps ru g z qs given kvs ∧ DueAt pl v H' ∧ H' L = some (.lst [.ref c]) ∧ H' c = some (.tup []), ?_, ?_⟩
        · exact ⟨Nat.zero_le _, fun c hc => ⟨one_sz, fun L hL => ⟨L, c, rfl, S10.up ((same_new hc).trans (same_new hL)), hdue.up ((same_new hc).trans (same_new hL)), upd_same, same_new hL _ _ upd_same⟩⟩⟩
        rintro σ H11 ⟨L, c, rfl, S11, hdue, eL, ec⟩
        refine ⟨fun σ H' => ∃ L cs x10 x11 x12 x13, σ = [some (.ref a), some (.ref f), some (.ref d), some (.ref ps), some (.ref ru), some (.ref g), some (.ref z), some v, some t, some (.ref L), x10, x11, x12, x13, none, none, none, none, none, none, none, none, none, none] ∧ SitK A H' p d ps ru g z qs given kvs ∧ DueAt pl v H' ∧ H' L = some (.lst (cs.map V.ref)) ∧ OrdsAt H' cs (U.allP (mkR [] qs) given qs.length), ?_, ?_⟩
        · obtain ⟨as, eps', fps⟩ := id S11.ps
          refine ⟨_, rfl, ps, _, rfl, .inl (SqL.of eps'), _, rfl, (by omega), (by rw [List.length_map, fps.1]; omega), ?_⟩
          have en : (((as.map V.ref).length : Nat) : Int).toNat = qs.length := by rw [Int.toNat_natCast, List.length_map, fps.1]
          rw [en]
          refine for_range (n := qs.length) (fun i σ H' => ∃ L cs x10 x11 x12 x13, σ = [some (.ref a), some (.ref f), some (.ref d), some (.ref ps), some (.ref ru), some (.ref g), some (.ref z), some v, some t, some (.ref L), x10, x11, x12, x13, none, none, none, none, none, none, none, none, none, none] ∧ SitK A H' p d ps ru g z qs given kvs ∧ DueAt pl v H' ∧ H' L = some (.lst (cs.map V.ref)) ∧ OrdsAt H' cs (U.allP (mkR [] qs) given i)) ⟨L, [c], none, none, none, none, rfl, S11, hdue, eL, .cons ec .nil⟩ ?_ ?_
          · rintro i σ H12 hi ⟨L, cs, x10, x11, x12, x13, rfl, S12, hdue12, eL, hO⟩
            have hA := allP4 (given := given) hq4 hi
            refine ⟨fun σ H' => ∃ m x10, σ = [some (.ref a), some (.ref f), some (.ref d), some (.ref ps), some (.ref ru), some (.ref g), some (.ref z), some v, some t, some (.ref L), x10, some (.ref m), x12, x13, none, none, none, none, none, none, none, none, none, none] ∧ Same H12 H' ∧ H' m = some (.lst []), ?_, ?_⟩
            · exact ⟨Nat.zero_le _, fun m hm => ⟨m, _, rfl, same_new hm, upd_same⟩⟩
            rintro σ H13 ⟨m, x10, rfl, s13, em⟩
            refine ⟨fun σ H' => ∃ m cs2 x12 x13, σ = [some (.ref a), some (.ref f), some (.ref d), some (.ref ps), some (.ref ru), some (.ref g), some (.ref z), some v, some t, some (.ref L), x10, some (.ref m), x12, x13, none, none, none, none, none, none, none, none, none, none] ∧ Same H12 H' ∧ H' m = some (.lst (cs2.map V.ref)) ∧ OrdsAt H' cs2 (U.allP (mkR [] qs) given (i + 1)), ?_, ?_⟩
            · refine ⟨_, rfl, L, rfl, ⟨_, SqL.of (s13 _ _ eL)⟩, ?_⟩
              refine for_list (K := K) (a := L) (xs := cs.map V.ref) (fun j σ H' => ∃ m cs2 x12 x13, σ = [some (.ref a), some (.ref f), some (.ref d), some (.ref ps), some (.ref ru), some (.ref g), some (.ref z), some v, some t, some (.ref L), x10, some (.ref m), x12, x13, none, none, none, none, none, none, none, none, none, none] ∧ Same H12 H' ∧ H' m = some (.lst (cs2.map V.ref)) ∧ OrdsAt H' cs2 (((U.allP (mkR [] qs) given i).take j).map (U.longer (mkR [] qs) given)).flatten) ⟨m, [], x12, x13, rfl, s13, em, .nil⟩ (fun j σ H' _ ⟨_, _, _, _, _, s, _⟩ => SqL.of (s _ _ eL)) ?_ ?_
              · rintro j v2 σ H14 hv2 ⟨m, cs2, x12, x13, rfl, s14, em, hO2⟩
                obtain ⟨b, o, rfl, eb, eo, hbo⟩ := All2.at hO hv2
                have hbo4 := s14 _ _ hbo
                obtain ⟨hol, holt⟩ := U.allP_mem (mkR [] qs) given i o (List.mem_of_getElem? eo)
                have S14 := S12.up s14
                refine ⟨fun σ H' => ∃ bd, σ = [some (.ref a), some (.ref f), some (.ref d), some (.ref ps), some (.ref ru), some (.ref g), some (.ref z), some v, some t, some (.ref L), x10, some (.ref m), some (.ref b), some (.ref bd), none, none, none, none, none, none, none, none, none, none] ∧ Same H14 H' ∧ H' bd = some (.lst ((bL qs given o).map V.str)), ?_, ?_⟩
                · exact bound_v1 S14.ps hDr S14.g hg20 hbo4 (by omega) holt fun bd H' s e => ⟨bd, rfl, s, e⟩
                rintro σ H15 ⟨bd, rfl, s15, ebd⟩
                have S15 := S14.up s15
                refine ⟨_, rfl, ready_v S15.ps hDr (s15 _ _ hbo4) (by omega) ebd fun D cs3 H16 s16 eD hO3 => ?_⟩
                have h1 : cs2.length ≤ 64 * 4 := by
                  rw [hO2.1]
                  refine Nat.le_trans (U.flat_len (m := 4) _ ?_) ?_
                  · intro x hx
                    obtain ⟨o', _, rfl⟩ := List.mem_map.mp hx
                    exact longer4 hq4 o'
                  · rw [List.length_map, List.length_take]
                    exact Nat.mul_le_mul_right _ (Nat.le_trans (Nat.min_le_right _ _) hA)
                have h2 : cs3.length ≤ 4 := by rw [hO3.1]; exact longer4 hq4 o
                refine ⟨m, D, _, _, rfl, rfl, s16 _ _ (s15 _ _ em), eD, ?_, fun m' hm' => ⟨m', cs2 ++ cs3, _, _, rfl, (s14.trans (s15.trans s16)).trans (same_new hm'), ?_, ?_⟩⟩
                · rw [List.length_map, List.length_map]
                  exact sz' (by omega)
                · rw [upd_same, List.map_append]
                · rw [take_one eo, List.map_append, List.flatten_append, List.map_singleton, List.flatten_singleton]
                  exact All2.app (OrdsAt.up hO2 ((s15.trans s16).trans (same_new hm'))) (OrdsAt.up hO3 (same_new hm'))
              · rintro σ H14 ⟨m, cs2, x12, x13, rfl, s14, em, hO2⟩
                refine ⟨m, cs2, x12, x13, rfl, s14, em, ?_⟩
                rw [List.length_map, hO.1, List.take_of_length_le (Nat.le_refl _)] at hO2
                exact hO2
            rintro σ H14 ⟨m, cs2, x12, x13, rfl, s14, em, hO2⟩
            exact ⟨_, rfl, m, cs2, _, _, _, _, rfl, S12.up s14, hdue12.up s14, em, hO2⟩
          · rintro σ H12 h
            exact h
        rintro σ H12 ⟨L, cs, x10, x11, x12, x13, rfl, S12, hdue12, eL, hO⟩
        refine ⟨fun σ H' => σ = [some (.ref a), some (.ref f), some (.ref d), some (.ref ps), some (.ref ru), some (.ref g), some (.ref z), some v, some t, some (.ref L), x10, x11, x12, x13, none, none, none, none, none, none, none, none, none, none] ∧ SitK A H' p d ps ru g z qs given kvs ∧ DueAt pl v H', ?_, ?_⟩
        · refine ⟨_, rfl, _, rfl, ru, g, mkR [] qs, given, rfl, S12.ru, hwf, S12.g, hg20, hq4, fun t1 cs1 H13 s13 et1 hO1 => ⟨_, rfl, L, _, rfl, .inl ⟨SqL.of (s13 _ _ eL), fun t2 ht2 => ?_⟩⟩⟩
          have s14 := s13.trans (same_new ht2 (o := .tup (cs.map V.ref)))
          refine ⟨.tuple ((U.allP (mkR [] qs) given qs.length).map dO), .tuple ((U.allP (mkR [] qs) given qs.length).map dO), .tup (SqT.of (same_new ht2 _ _ et1)) (dp_all (fun c o h => dp_O h) (OrdsAt.up hO1 (same_new ht2))), .tup (SqT.of upd_same) (dp_all (fun c o h => dp_O h) (OrdsAt.up hO s14)), shp_tup (fun o _ => dO_lay o), shp_tup (fun o _ => dO_lay o), _, rfl, ?_⟩
          rw [eqv_tup eqv_dO, decide_eq_true rfl]
          exact iteF ⟨rfl, S12.up s14, hdue12.up s14⟩
        rintro σ H13 ⟨rfl, S13, hdue13⟩
        refine ⟨_, rfl, rfl, _, rfl, ?_⟩
        rcases hdue13 with ⟨h1, rfl⟩ | ⟨ord, l, h1, rfl, el⟩
        · exact iteF ⟨S13.l, S13.tb, ⟨_, _, _, _, _, _, _, _, _, _, _, _, _, _, _, _, _, _, _, _, _, _, _, rfl⟩, fun z => nomatch z⟩
        refine iteT ?_
        obtain ⟨hGood, hfull⟩ := hpl2 ord h1
        have hplo : U.plN (mkR [] qs) given sz qs.length [] = some ord := hpl.trans h1
        have hord20 : ord.length ≤ 20 := by omega
        -- one
        refine ⟨fun σ H' => ∃ pa, σ = [some (.ref a), some (.ref f), some (.ref d), some (.ref ps), some (.ref ru), some (.ref g), some (.ref z), some (.ref l), some t, some (.ref L), x10, x11, x12, x13, some (.ref pa), none, none, none, none, none, none, none, none, none] ∧ SitK A H' p d ps ru g z qs given kvs ∧ H' l = some (.lst (ord.map nv)) ∧ PlanAt A H' pa ru ord given false, ?_, ?_⟩
        · refine ⟨_, rfl, _, rfl, _, rfl, ru, z, g, mkR [] qs, sz, given, none, rfl, S13.ru, hwf, hZ S13, S13.g, hg20, (fun f h => nomatch h), fun hN => ?_, fun ord' hS pa H' s hpa hP => ⟨pa, rfl, S13.up s, s _ _ el, ?_⟩⟩
          · exact absurd (hplo.symm.trans hN) (fun z => nomatch z)
          · have eo : ord = ord' := Option.some.inj (hplo.symm.trans hS)
            subst eo
            exact hP
        rintro σ H14 ⟨pa, rfl, S14, el14, hP14⟩
        refine ⟨fun σ H' => σ = [some (.ref a), some (.ref f), some (.ref d), some (.ref ps), some (.ref ru), some (.ref g), some (.ref z), some (.ref l), some t, some (.ref L), x10, x11, x12, x13, some (.ref pa), none, none, none, none, none, none, none, none, none] ∧ SitK A H' p d ps ru g z qs given kvs ∧ H' l = some (.lst (ord.map nv)) ∧ PlanAt A H' pa ru ord given false, ?_, ?_⟩
        · obtain ⟨dp, o, gg, ep, eo, egg⟩ := id hP14
          refine ⟨_, rfl, _, rfl, pa, _, dp, _, _, rfl, ep, T.cl_Plan, T.n_Plan_order, plf_order _ _ _ _, _, rfl, ru, o, g, mkR [] qs, ord, given, rfl, S14.ru, hwf, eo, S14.g, hg20, (by omega), .inl ⟨hGood, hfull, fun H15 s15 => ⟨_, rfl, ?_⟩⟩⟩
          have eo15 := s15 _ _ eo
          have hlen30 : (ord ++ [0]).length ≤ 30 := by rw [List.length_append]; simp; omega
          have hne : (ord ++ [0]).length ≠ (mkR [] qs).body.length := by
            rw [List.length_append]
            show ord.length + 1 ≠ qs.length
            omega
          refine iteF ⟨_, rfl, _, rfl, pa, _, dp, _, _, rfl, s15 _ _ ep, T.cl_Plan, T.n_Plan_order, plf_order _ _ _ _, one_sz, fun t2 ht2 => ?_⟩
          refine ⟨o, t2, _, _, rfl, rfl, SqT.of (same_new ht2 _ _ eo15), SqT.of upd_same, ?_, fun hx => ?_, (fun _ hy => nomatch hy), fun _ _ p2 hp2 => ?_⟩
          · rw [List.length_map]
            show ord.length + 1 ≤ sizeLine
            have h5 : (5000 : Nat) ≤ sizeLine := by decide
            omega
          · have ho : ord = [] := List.map_eq_nil_iff.mp hx
            have s16 := same_new (o := .tup [V.int 0]) ht2
            have e2 : upd H15 t2 (.tup [V.int 0]) t2 = some (.tup ((ord ++ [0]).map nv)) := by rw [upd_same, ho]; rfl
            exact ⟨_, rfl, ru, t2, g, mkR [] qs, ord ++ [0], given, rfl, S14.ru.up (s15.trans s16), hwf, e2, (s15.trans s16) _ _ S14.g, hg20, hlen30, .inr ⟨hne, fun H' s' => ⟨_, rfl, iteF ⟨rfl, S14.up ((s15.trans s16).trans s'), ((s15.trans s16).trans s') _ _ el14, hP14.up ((s15.trans s16).trans s')⟩⟩⟩⟩
          · have s16 := (same_new (o := .tup [V.int 0]) ht2).trans (same_new (o := .tup (ord.map nv ++ [V.int 0])) hp2)
            have e2 : upd (upd H15 t2 (.tup [V.int 0])) p2 (.tup (ord.map nv ++ [V.int 0])) p2 = some (.tup ((ord ++ [0]).map nv)) := by rw [upd_same, List.map_append]; rfl
            exact ⟨_, rfl, ru, p2, g, mkR [] qs, ord ++ [0], given, rfl, S14.ru.up (s15.trans s16), hwf, e2, (s15.trans s16) _ _ S14.g, hg20, hlen30, .inr ⟨hne, fun H' s' => ⟨_, rfl, iteF ⟨rfl, S14.up ((s15.trans s16).trans s'), ((s15.trans s16).trans s') _ _ el14, hP14.up ((s15.trans s16).trans s')⟩⟩⟩⟩
        rintro σ H15 ⟨rfl, S15, el15, hP15⟩
        obtain ⟨as15, eps15, fps15⟩ := id S15.ps
        have en15 : (((as15.map V.ref).length : Nat) : Int).toNat = qs.length := by rw [Int.toNat_natCast, List.length_map, fps15.1]
        refine ⟨fun σ H' => ∃ x13 x15 x16, σ = [some (.ref a), some (.ref f), some (.ref d), some (.ref ps), some (.ref ru), some (.ref g), some (.ref z), some (.ref l), some t, some (.ref L), x10, x11, x12, x13, some (.ref pa), x15, x16, none, none, none, none, none, none, none] ∧ SitK A H' p d ps ru g z qs given kvs ∧ H' l = some (.lst (ord.map nv)) ∧ PlanAt A H' pa ru ord given false, ?_, ?_⟩
        · refine ⟨_, rfl, ps, _, rfl, .inl (SqL.of eps15), _, rfl, (by omega), (by rw [List.length_map, fps15.1]; omega), ?_⟩
          rw [en15]
          refine for_range (n := qs.length) (fun i σ H' => ∃ x13 x15 x16, σ = [some (.ref a), some (.ref f), some (.ref d), some (.ref ps), some (.ref ru), some (.ref g), some (.ref z), some (.ref l), some t, some (.ref L), x10, x11, x12, x13, some (.ref pa), x15, x16, none, none, none, none, none, none, none] ∧ SitK A H' p d ps ru g z qs given kvs ∧ H' l = some (.lst (ord.map nv)) ∧ PlanAt A H' pa ru ord given false) ⟨x13, none, none, rfl, S15, el15, hP15⟩ ?_ ?_
          · rintro i σ H16 hi ⟨x13, x15, x16, rfl, S16, el16, hP16⟩
            have ei : (0 : Int) + (i : Nat) = ((i : Nat) : Int) := by omega
            rw [ei]
            have hPO : ∀ {H'}, SitK A H' p d ps ru g z qs given kvs → PlanAt A H' pa ru ord given false → PlanOk A H' pa ru (mkR [] qs) ord given := fun S hP => ⟨hP, S.ru, hwf, hord20, hGood.2.1, hg20⟩
            have hio : i < ord.length := by omega
            have hoi : ord[i]? = some ord[i] := List.getElem?_eq_getElem hio
            have hjl : ord[i] < qs.length := hGood.2.1 _ (List.getElem_mem hio)
            -- bound
            refine ⟨fun σ H' => ∃ bd, σ = [some (.ref a), some (.ref f), some (.ref d), some (.ref ps), some (.ref ru), some (.ref g), some (.ref z), some (.ref l), some t, some (.ref L), x10, x11, x12, some (.ref bd), some (.ref pa), some (.int ((i : Nat) : Int)), x16, none, none, none, none, none, none, none] ∧ Same H16 H' ∧ H' bd = some (.lst ((bL qs given (ord.take i)).map V.str)), ?_, ?_⟩
            · exact bound_v2 S16.ps hDr S16.g hg20 el16 hord20 hGood.2.1 fun bd H' s e => ⟨bd, rfl, s, e⟩
            rintro σ H17 ⟨bd, rfl, s17, ebd⟩
            have hltT : ∀ j ∈ ord.take i, j < qs.length := fun j hj => hGood.2.1 j (List.mem_of_mem_take hj)
            have hb4 := bnd4 hgood hgiv hltT
            have hbl := bL_len hDr hg20 (o := ord.take i) (by rw [List.length_take]; omega) hltT
            -- sorted
            refine ⟨fun σ H' => σ = [some (.ref a), some (.ref f), some (.ref d), some (.ref ps), some (.ref ru), some (.ref g), some (.ref z), some (.ref l), some t, some (.ref L), x10, x11, x12, some (.ref bd), some (.ref pa), some (.int ((i : Nat) : Int)), x16, none, none, none, none, none, none, none] ∧ Same H17 H', ?_, ?_⟩
            · have S17 := S16.up s17
              have hP17 := hP16.up s17
              obtain ⟨dp, o, gg, ep, eo, egg⟩ := id hP17
              refine ⟨_, rfl, pa, dp, _, rfl, ep, plf_no _ _ _ _ (by decide +kernel) (by decide +kernel) (by decide +kernel) (by decide +kernel), _, rfl, pa, ru, i, mkR [] qs, ord, given, rfl, hPO S17 hP17, fun t1 H18 s18 et1 => ?_⟩
              have nd1 : ((U.bnd (mkR [] qs) given (ord.take i)).foldl addN []).Nodup := U.dd_nodup _
              have m1 : ∀ x, x ∈ (U.bnd (mkR [] qs) given (ord.take i)).foldl addN [] ↔ x ∈ U.bnd (mkR [] qs) given (ord.take i) := fold_addN_mem _
              have k4 : ∀ x ∈ (U.bnd (mkR [] qs) given (ord.take i)).foldl addN [], is4 x := fun x hx => hb4 x ((m1 x).mp hx)
              have nd2 : ((bL qs given (ord.take i)).foldl addN []).Nodup := U.dd_nodup _
              have m2 : ∀ x, x ∈ (bL qs given (ord.take i)).foldl addN [] ↔ x ∈ U.bnd (mkR [] qs) given (ord.take i) := fun x => (fold_addN_mem _ x).trans (bL_mem qs given _ x)
              have kk4 : ∀ x ∈ (bL qs given (ord.take i)).foldl addN [], is4 x := fun x hx => hb4 x ((m2 x).mp hx)
              refine ⟨t1, _, rfl, SqT.of et1, Nat.lt_of_le_of_lt (len4 nd1 k4) (by decide), fun ys p1 perm1 srt1 hp1 => ?_⟩
              have s19 := s18.trans (same_new (o := .lst (ys.map V.str)) hp1)
              have eys : upd H18 p1 (.lst (ys.map V.str)) p1 = some (.lst (ys.map V.str)) := upd_same
              generalize upd H18 p1 (.lst (ys.map V.str)) = H19 at s19 eys ⊢
              refine ⟨_, rfl, bd, rfl, ⟨_, SqL.of (s19 _ _ ebd)⟩, fun D hD => ?_⟩
              have st : Stab D fun H y (x : Str) => ∃ c, y = .ref c ∧ H c = some (.tup [.str x, .int 1]) := ⟨fun ⟨a, e, h⟩ s => ⟨a, e, s _ _ h⟩, fun hl ⟨a, e, h⟩ => ⟨a, e, by rw [upd_ne (ne_of h hl (fun q => nomatch q))]; exact h⟩⟩
              refine lc_list (K := K) (a := bd) (xs := (bL qs given (ord.take i)).map V.str) (LcI (fun H y (x : Str) => ∃ c, y = .ref c ∧ H c = some (.tup [.str x, .int 1])) (fun _ => true) (bL qs given (ord.take i)) H19 D) (LcI.start hD) (fun i H' _ h => SqL.of (h.1 _ _ (s19 _ _ ebd))) ?_ ?_
              · intro i2 y H20 hy h20
                rw [List.getElem?_map] at hy
                obtain ⟨x, hx, rfl⟩ := Option.map_eq_some_iff.mp hy
                exact ⟨rfl, _, rfl, two_sz, fun c hc => h20.yes st hD (by omega) hx rfl (same_new hc) ⟨c, rfl, upd_same⟩⟩
              · intro H20 h20
                obtain ⟨ys2, s20, eD, hv⟩ := h20.fin (by rw [List.length_map]; exact Nat.le_refl _)
                obtain ⟨cs, rfl, hcs⟩ := hv.refs
                rw [filter_tt] at hcs
                refine ⟨D, cs, (bL qs given (ord.take i)).map prI, rfl, SqL.of eD, paired_pr hcs, fun dd hdd => ?_⟩
                have emg : mergeK [] ((bL qs given (ord.take i)).map prI) = ((bL qs given (ord.take i)).foldl addN []).map prI := merge_i _ []
                rw [emg]
                refine ⟨dd, _, (bL qs given (ord.take i)).foldl addN [], rfl, .inl upd_same, by rw [List.map_map]; rfl, Nat.lt_of_le_of_lt (len4 nd2 kk4) (by decide), fun zs p2 perm2 srt2 hp2 => ?_⟩
                have perm21 : zs.Perm ((U.bnd (mkR [] qs) given (ord.take i)).foldl addN []) := perm2.trans ((List.perm_ext_iff_of_nodup nd2 nd1).mpr fun x => (m2 x).trans (m1 x).symm)
                have ezs := sorted_same k4 perm1 perm21 srt1 srt2
                subst ezs
                have hyo : ∀ x ∈ ys, PyData.strOk x = true := fun x hx => is4_ok (k4 x (perm1.mem_iff.mp hx))
                have s21 := s20.trans ((same_new (o := .dK (((bL qs given (ord.take i)).foldl addN []).map prI)) hdd).trans (same_new (o := .lst (ys.map V.str)) hp2))
                refine ⟨.list (ys.map PyData.str), .list (ys.map PyData.str), .lst (SqL.of (s21 _ _ eys)) (dp_strs ys), .lst (SqL.of upd_same) (dp_strs ys), strs_list hyo, strs_list hyo, _, rfl, ?_⟩
                rw [eqv_lst eqv_str, decide_eq_true rfl]
                exact iteF ⟨rfl, s19.trans s21⟩
            rintro σ H18 ⟨rfl, s18⟩
            have s168 := s17.trans s18
            have S18 := S16.up s168
            have hP18 := hP16.up s168
            have ebd18 := s18 _ _ ebd
            obtain ⟨as18, ep18, fp18⟩ := id S18.ps
            have hja : ord[i] < as18.length := by rw [fp18.1]; exact hjl
            have hq := law_q hjl
            obtain ⟨tl, ea, et⟩ := fp18.2 _ _ _ (List.getElem?_eq_getElem hja) hq
            have hts := hDr.ts hq
            -- known
            refine ⟨fun σ H' => ∃ kn', σ = [some (.ref a), some (.ref f), some (.ref d), some (.ref ps), some (.ref ru), some (.ref g), some (.ref z), some (.ref l), some t, some (.ref L), x10, x11, x12, some (.ref bd), some (.ref pa), some (.int ((i : Nat) : Int)), some (.ref kn'), none, none, none, none, none, none, none] ∧ Same H18 H' ∧ H' kn' = some (.lst ((kat (bL qs given (ord.take i)) (ptd (mkR [] qs) ord[i]).ts).map nv)), ?_, ?_⟩
            · refine ⟨_, rfl, _, rfl, _, rfl, l, _, _, _, rfl, rfl, SqL.of (s168 _ _ el16), atI_nat (by rw [List.getElem?_map, hoi]; rfl), ps, _, _, _, rfl, rfl, SqL.of ep18, atI_nat (by rw [List.getElem?_map, List.getElem?_eq_getElem hja]; rfl), as18[ord[i]], _, _, _, rfl, rfl, SqT.of ea, atI_nat (j := 2) rfl, tl, _, rfl, SqL.of et, fun D hD => ?_⟩
              refine lc_enum (K := K) (a := tl) (xs := (ptd (mkR [] qs) ord[i]).ts.map tvv) (LcI (fun _ y (k : Nat) => y = nv k) (fun k => kn (bL qs given (ord.take i)) ((ptd (mkR [] qs) ord[i]).ts.getD k (.inr 0))) (List.range (ptd (mkR [] qs) ord[i]).ts.length) H18 D) (LcI.start hD) (fun i H' _ h => SqL.of (h.1 _ _ et)) ?_ ?_
              · intro k2 x t1 H19 hx h ht1
                rw [List.getElem?_map] at hx
                obtain ⟨tm, htm, rfl⟩ := Option.map_eq_some_iff.mp hx
                have hk : k2 < (ptd (mkR [] qs) ord[i]).ts.length := (List.getElem?_eq_some_iff.mp htm).1
                have eri : (List.range (ptd (mkR [] qs) ord[i]).ts.length)[k2]? = some k2 := List.getElem?_range hk
                have egd : (ptd (mkR [] qs) ord[i]).ts.getD k2 (.inr 0) = tm := by rw [List.getD_eq_getElem?_getD, htm]; rfl
                have hl9 : (List.range (ptd (mkR [] qs) ord[i]).ts.length).length ≤ 999 := by rw [List.length_range]; have := hts.1; omega
                refine ⟨t1, _, rfl, SqT.of upd_same, rfl, _, _, rfl, _, _, rfl, rfl, rfl, ?_⟩
                cases tm with
                | inl s0 =>
                  refine ⟨_, rfl, _, _, _, _, true, rfl, .ty _, .base (.str s0), kit_ty (by decide +kernel), _, rfl, ?_⟩
                  refine iteF ⟨V.str s0, rfl, _, rfl, bd, _, rfl, .inl (SqL.of (same_new ht1 _ _ (h.1 _ _ ebd18))), rfl, flat_str _, _, rfl, ?_⟩
                  rw [if_neg (by decide), inV_str]
                  refine iteD (fun hm => ?_) (fun hm => ?_)
                  · exact ⟨_, rfl, h.yes (stab_val _) hD hl9 eri (by rw [egd]; exact decide_eq_true hm) (same_new ht1) rfl⟩
                  · exact h.no (stab_val _) eri (by rw [egd]; exact decide_eq_false hm) (same_new ht1)
                | inr n0 =>
                  refine ⟨_, rfl, _, _, _, _, false, rfl, .ty _, .base (.int n0), kit_ty (by decide +kernel), _, rfl, ?_⟩
                  exact iteT ⟨_, rfl, h.yes (stab_val _) hD hl9 eri (by rw [egd]; rfl) (same_new ht1) rfl⟩
              · intro H19 h
                obtain ⟨ys, s19, eD, hv⟩ := h.fin (by rw [List.length_map, List.length_range]; exact Nat.le_refl _)
                have ey := VAll.eq (f := nv) hv
                subst ey
                exact ⟨D, rfl, s19, eD⟩
            rintro σ H19 ⟨kn', rfl, s19, ekn⟩
            have S19 := S18.up s19
            have hP19 := hP18.up s19
            rw [U.kat_congr (fun x => bL_mem qs given (ord.take i) x)] at ekn
            obtain ⟨dp, o, gg, ep, eo, egg⟩ := id hP19
            refine ⟨_, rfl, pa, dp, _, rfl, ep, plf_no _ _ _ _ (by decide +kernel) (by decide +kernel) (by decide +kernel) (by decide +kernel), _, rfl, pa, ru, i, ord[i], mkR [] qs, ord, given, rfl, hPO S19 hP19, hoi, fun t1 H20 s20 et1 => ⟨_, rfl, kn', _, rfl, .inl ⟨SqL.of (s20 _ _ ekn), fun t2 ht2 => ?_⟩⟩⟩
            refine ⟨dO (kat (U.bnd (mkR [] qs) given (ord.take i)) (ptd (mkR [] qs) ord[i]).ts), dO (kat (U.bnd (mkR [] qs) given (ord.take i)) (ptd (mkR [] qs) ord[i]).ts), dp_O (same_new ht2 _ _ et1), dp_O upd_same, shp_tup (fun x _ => ⟨(dI_lay x).1, Nat.le_trans (dI_lay x).2 (by decide)⟩), shp_tup (fun x _ => ⟨(dI_lay x).1, Nat.le_trans (dI_lay x).2 (by decide)⟩), _, rfl, ?_⟩
            rw [eqv_dO, decide_eq_true rfl]
            have s21 := s20.trans (same_new (o := .tup ((kat (U.bnd (mkR [] qs) given (ord.take i)) (ptd (mkR [] qs) ord[i]).ts).map nv)) ht2)
            generalize upd H20 t2 _ = H21 at s21 ⊢
            refine iteF ⟨_, rfl, pa, dp, _, rfl, s21 _ _ ep, plf_no _ _ _ _ (by decide +kernel) (by decide +kernel) (by decide +kernel) (by decide +kernel), pa, ru, mkR [] qs, ord, given, rfl, hPO (S19.up s21) (hP19.up s21), fun t3 o3 Sh cs3 H22 s22 e3 eo3 eSh hcs3 => ?_⟩
            have hi3 : i < cs3.length := by rw [hcs3.1, List.length_range]; exact hio
            have hc3 : H22 cs3[i] = some (.tup ((kat (U.bnd (mkR [] qs) given (ord.take i)) (ptd (mkR [] qs) (ord.getD i 0)).ts).map nv)) := hcs3.2 i cs3[i] i (List.getElem?_eq_getElem hi3) (List.getElem?_range hio)
            have egd : ord.getD i 0 = ord[i] := by rw [List.getD_eq_getElem?_getD, hoi]; rfl
            rw [egd] at hc3
            have s1922 := s21.trans s22
            refine ⟨t3, _, _, _, rfl, rfl, SqT.of e3, (rfl : atI _ 1 = some _), _, rfl, Sh, _, _, _, rfl, rfl, SqT.of eSh, atI_nat (by rw [List.getElem?_map, List.getElem?_eq_getElem hi3]; rfl), _, rfl, kn', _, rfl, .inl ⟨SqL.of (s1922 _ _ ekn), fun t4 ht4 => ?_⟩⟩
            refine ⟨dO (kat (U.bnd (mkR [] qs) given (ord.take i)) (ptd (mkR [] qs) ord[i]).ts), dO (kat (U.bnd (mkR [] qs) given (ord.take i)) (ptd (mkR [] qs) ord[i]).ts), dp_O (same_new ht4 _ _ hc3), dp_O upd_same, shp_tup (fun x _ => ⟨(dI_lay x).1, Nat.le_trans (dI_lay x).2 (by decide)⟩), shp_tup (fun x _ => ⟨(dI_lay x).1, Nat.le_trans (dI_lay x).2 (by decide)⟩), _, rfl, ?_⟩
            rw [eqv_dO, decide_eq_true rfl]
            have s23 := s1922.trans (same_new (o := .tup ((kat (U.bnd (mkR [] qs) given (ord.take i)) (ptd (mkR [] qs) ord[i]).ts).map nv)) ht4)
            exact iteF ⟨_, _, _, rfl, S19.up s23, s23 _ _ (s19 _ _ (s168 _ _ el16)), hP19.up s23⟩
          · rintro σ H16 h
            exact h
        rintro σ H16 ⟨x13, x15, x16, rfl, S16, el16, hP16⟩
        obtain ⟨as16, eps16, fps16⟩ := id S16.ps
        refine ⟨_, rfl, ps, _, rfl, .inl (SqL.of eps16), _, rfl, (by omega), (by rw [List.length_map, fps16.1]; omega), ?_⟩
        have en16 : (((as16.map V.ref).length : Nat) : Int).toNat = qs.length := by rw [Int.toNat_natCast, List.length_map, fps16.1]
        rw [en16]
        refine for_range (n := qs.length) (fun i σ H' => ∃ x12 x17, σ = [some (.ref a), some (.ref f), some (.ref d), some (.ref ps), some (.ref ru), some (.ref g), some (.ref z), some (.ref l), some t, some (.ref L), x10, x11, x12, x13, some (.ref pa), x15, x16, x17, none, none, none, none, none, none] ∧ SitK A H' p d ps ru g z qs given kvs) ⟨x12, none, rfl, S16⟩ ?_ ?_
        · rintro i σ H17 hi ⟨x12, x17, rfl, S17⟩
          have ei : (0 : Int) + (i : Nat) = ((i : Nat) : Int) := by omega
          rw [ei]
          obtain ⟨as17, ep17, fp17⟩ := id S17.ps
          have hia : i < as17.length := by rw [fp17.1]; exact hi
          obtain ⟨tl, ea, et⟩ := fp17.2 i _ _ (List.getElem?_eq_getElem hia) (law_q hi)
          refine ⟨_, rfl, _, rfl, ps, _, _, _, rfl, rfl, SqL.of ep17, atI_nat (by rw [List.getElem?_map, List.getElem?_eq_getElem hia]; rfl), as17[i], _, _, _, rfl, rfl, SqT.of ea, atI_nat (j := 0) rfl, rfl, _, rfl, ?_⟩
          rw [dec_str]
          refine iteD (fun hk => ?_) (fun hk => ⟨_, _, rfl, S17⟩)
          obtain ⟨tt, hpf, hGf, hlf⟩ := U.first_plan (sz := sz) hGood hfull hi hk
          refine ⟨fun σ H' => ∃ o, σ = [some (.ref a), some (.ref f), some (.ref d), some (.ref ps), some (.ref ru), some (.ref g), some (.ref z), some (.ref l), some t, some (.ref L), x10, x11, some (.ref o), x13, some (.ref pa), x15, x16, some (.int ((i : Nat) : Int)), none, none, none, none, none, none] ∧ SitK A H' p d ps ru g z qs given kvs ∧ H' o = some (.tup ((i :: tt).map nv)), ?_, ?_⟩
          · refine ⟨S17.tb, fun H18 ext tb18 => ?_⟩
            have S18 := S17.n ext tb18
            refine ⟨_, rfl, _, rfl, _, rfl, _, rfl, ru, z, g, mkR [] qs, sz, given, some i, rfl, S18.ru, hwf, hZ S18, S18.g, hg20, (fun f h => by cases h; exact ⟨hi, hk⟩), fun hN => ?_, fun ord' hS pa2 H19 s19 hpa hP => ?_⟩
            · exact absurd (hpf.symm.trans hN) (fun z => nomatch z)
            · have eo' : i :: tt = ord' := Option.some.inj (hpf.symm.trans hS)
              subst eo'
              obtain ⟨dp, o, gg, ep, eo, egg⟩ := hP
              exact ⟨pa2, _, dp, _, _, rfl, ep, T.cl_Plan, T.n_Plan_order, plf_order _ _ _ _, o, rfl, S18.up s19, eo⟩
          rintro σ H18 ⟨o, rfl, S18, eo⟩
          have hev : PyData.eqv (dO (i :: tt)) (.str "rule") = false := by simp [dO, PyData.eqv]
          refine ⟨_, rfl, dO (i :: tt), .str "rule", dp_O eo, .str _, shp_tup (fun x _ => ⟨(dI_lay x).1, Nat.le_trans (dI_lay x).2 (by decide)⟩), by decide +kernel, _, rfl, ?_⟩
          rw [hev]
          refine iteF ⟨_, rfl, o, _, _, _, rfl, rfl, SqT.of eo, (atI_nat (j := 0) (xs := (i :: tt).map nv) (v := nv i) rfl), _, rfl, rfl, _, rfl, ?_⟩
          refine iteND (fun hn => absurd rfl hn) (fun _ => ?_)
          obtain ⟨as18, ep18, fp18⟩ := id S18.ps
          have hl4 : (i :: tt).length ≤ 4 := by rw [hlf]; exact hq4
          refine ⟨_, rfl, o, (i :: tt).map fun j => ((j : Nat) : Int), rfl, SqT.of (by rw [eo, nv_ints]), (by rw [List.length_map]; omega), fun ys m hperm hsort hm => ?_⟩
          have s19 : Same H18 (upd H18 m (.lst (ys.map V.int))) := same_new hm
          refine ⟨_, rfl, ps, _, rfl, .inl (SqL.of (s19 _ _ ep18)), _, rfl, ?_⟩
          have ebl : (as18.map V.ref).length = qs.length := by rw [List.length_map, fp18.1]
          rw [ebl]
          refine ⟨RgOk.of_le (by omega) (by omega) (by omega) (by omega), fun l2 hl2 => ?_⟩
          have s20 := s19.trans (same_new hl2 (o := .lst (rgV 0 ((qs.length : Nat) : Int))))
          refine ⟨.list (ys.map PyData.int), .list (((List.range qs.length).map fun i => ((i : Nat) : Int)).map PyData.int), .lst (SqL.of (same_new hl2 _ _ upd_same)) (dp_ints _), .lst (SqL.of (by rw [upd_same, rg_ints])) (dp_ints _), shp_list (fun x _ => int_lay x), shp_list (fun x _ => int_lay x), _, rfl, ?_⟩
          rw [eqv_lst eqv_int, decide_eq_true (U.sort_all hGf.1 hGf.2.1 hlf hperm hsort)]
          exact iteF ⟨_, _, rfl, S18.up s20⟩
        · rintro σ H17 ⟨x12, x17, rfl, S17⟩
          exact ⟨S17.l, S17.tb, ⟨_, _, _, _, _, _, _, _, _, _, _, _, _, _, _, _, _, _, _, _, _, _, _, rfl⟩, fun z => nomatch z⟩
      · rintro σ H' ⟨_, tb, hσ, _⟩
        exact ⟨hσ, tb⟩
    rintro σ H' ⟨⟨_, _, _, _, _, _, _, _, _, _, _, _, _, _, _, _, _, _, _, _, _, _, _, rfl⟩, tb⟩
    exact k _
end
end Toy

set_option Elab.async false
set_option maxRecDepth 100000
set_option maxHeartbeats 4000000
namespace Toy
open PySem L2
/-! ### the end
-/
theorem all_mk {l : PySem.W.OpenLaw} {w : World} {K : PySem.W.Frag} {h : Heap} {mg : Str → Option Value} {fa : Addr} (X : K.In h) (G : h.Ns mainGlobals mg) (hfa : mg "law" = some (.ref fa)) (OT : LamX.OwnTab K fa h)
    {C_Term : Addr}
    {C_Literal : Addr}
    {C_Rule : Addr}
    {C_Plan : Addr}
    {f_Term_init : Addr} {oc_Term_init kV_Term_init dc_Term_init pm_Term_init cd_Term_init ct_Term_init dV_Term_init : Value} {od_Term_init an_Term_init : Option Addr} {sl_Term_init : Array (Option Value)}
    {f_Term_is_variable : Addr} {oc_Term_is_variable kV_Term_is_variable dc_Term_is_variable pm_Term_is_variable cd_Term_is_variable ct_Term_is_variable : Value} {od_Term_is_variable an_Term_is_variable : Option Addr} {sl_Term_is_variable : Array (Option Value)}
    {f_Term_known : Addr} {oc_Term_known kV_Term_known dc_Term_known pm_Term_known cd_Term_known ct_Term_known : Value} {od_Term_known an_Term_known : Option Addr} {sl_Term_known : Array (Option Value)}
    {f_var : Addr} {oc_var kV_var dc_var pm_var cd_var ct_var : Value} {od_var an_var : Option Addr} {sl_var : Array (Option Value)}
    {f_val : Addr} {oc_val kV_val dc_val pm_val cd_val ct_val : Value} {od_val an_val : Option Addr} {sl_val : Array (Option Value)}
    {f_names_in : Addr} {oc_names_in kV_names_in dc_names_in pm_names_in cd_names_in ct_names_in : Value} {od_names_in an_names_in : Option Addr} {sl_names_in : Array (Option Value)}
    {f_Literal_init : Addr} {oc_Literal_init kV_Literal_init dc_Literal_init pm_Literal_init cd_Literal_init ct_Literal_init : Value} {od_Literal_init an_Literal_init : Option Addr} {sl_Literal_init : Array (Option Value)}
    {f_Literal_names : Addr} {oc_Literal_names kV_Literal_names dc_Literal_names pm_Literal_names cd_Literal_names ct_Literal_names : Value} {od_Literal_names an_Literal_names : Option Addr} {sl_Literal_names : Array (Option Value)}
    {f_Rule_init : Addr} {oc_Rule_init kV_Rule_init dc_Rule_init pm_Rule_init cd_Rule_init ct_Rule_init dV_Rule_init : Value} {od_Rule_init an_Rule_init : Option Addr} {sl_Rule_init : Array (Option Value)}
    {f_how_often : Addr} {oc_how_often kV_how_often dc_how_often pm_how_often cd_how_often ct_how_often : Value} {od_how_often an_how_often : Option Addr} {sl_how_often : Array (Option Value)}
    {f_needs : Addr} {oc_needs kV_needs dc_needs pm_needs cd_needs ct_needs : Value} {od_needs an_needs : Option Addr} {sl_needs : Array (Option Value)}
    {f_gives : Addr} {oc_gives kV_gives dc_gives pm_gives cd_gives ct_gives : Value} {od_gives an_gives : Option Addr} {sl_gives : Array (Option Value)}
    {f_shared : Addr} {oc_shared kV_shared dc_shared pm_shared cd_shared ct_shared : Value} {od_shared an_shared : Option Addr} {sl_shared : Array (Option Value)}
    {f_ready : Addr} {oc_ready kV_ready dc_ready pm_ready cd_ready ct_ready : Value} {od_ready an_ready : Option Addr} {sl_ready : Array (Option Value)}
    {f_Plan_init : Addr} {oc_Plan_init kV_Plan_init dc_Plan_init pm_Plan_init cd_Plan_init ct_Plan_init : Value} {od_Plan_init an_Plan_init : Option Addr} {sl_Plan_init : Array (Option Value)}
    {f_Plan_bound_at : Addr} {oc_Plan_bound_at kV_Plan_bound_at dc_Plan_bound_at pm_Plan_bound_at cd_Plan_bound_at ct_Plan_bound_at : Value} {od_Plan_bound_at an_Plan_bound_at : Option Addr} {sl_Plan_bound_at : Array (Option Value)}
    {f_Plan_known_places : Addr} {oc_Plan_known_places kV_Plan_known_places dc_Plan_known_places pm_Plan_known_places cd_Plan_known_places ct_Plan_known_places : Value} {od_Plan_known_places an_Plan_known_places : Option Addr} {sl_Plan_known_places : Array (Option Value)}
    {f_Plan_shown : Addr} {oc_Plan_shown kV_Plan_shown dc_Plan_shown pm_Plan_shown cd_Plan_shown ct_Plan_shown : Value} {od_Plan_shown an_Plan_shown : Option Addr} {sl_Plan_shown : Array (Option Value)}
    {f_known_at : Addr} {oc_known_at kV_known_at dc_known_at pm_known_at cd_known_at ct_known_at : Value} {od_known_at an_known_at : Option Addr} {sl_known_at : Array (Option Value)}
    {f_weight : Addr} {oc_weight kV_weight dc_weight pm_weight cd_weight ct_weight : Value} {od_weight an_weight : Option Addr} {sl_weight : Array (Option Value)}
    {f_bound_by : Addr} {oc_bound_by kV_bound_by dc_bound_by pm_bound_by cd_bound_by ct_bound_by : Value} {od_bound_by an_bound_by : Option Addr} {sl_bound_by : Array (Option Value)}
    {f_plan : Addr} {oc_plan kV_plan dc_plan pm_plan cd_plan ct_plan dV_plan : Value} {od_plan an_plan : Option Addr} {sl_plan : Array (Option Value)}
    {e_plan : Addr} {eo_plan : Option Addr} {en_plan : Nat} {es_plan : Array (Option Value)}
    {f_lightest : Addr} {oc_lightest kV_lightest dc_lightest pm_lightest cd_lightest ct_lightest : Value} {od_lightest an_lightest : Option Addr} {sl_lightest : Array (Option Value)}
    {f_next_parts : Addr} {oc_next_parts kV_next_parts dc_next_parts pm_next_parts cd_next_parts ct_next_parts : Value} {od_next_parts an_next_parts : Option Addr} {sl_next_parts : Array (Option Value)}
    {f_binds : Addr} {oc_binds kV_binds dc_binds pm_binds cd_binds ct_binds : Value} {od_binds an_binds : Option Addr} {sl_binds : Array (Option Value)}
    {f_bound_behind : Addr} {oc_bound_behind kV_bound_behind dc_bound_behind pm_bound_behind cd_bound_behind ct_bound_behind : Value} {od_bound_behind an_bound_behind : Option Addr} {sl_bound_behind : Array (Option Value)}
    {f_is_plan : Addr} {oc_is_plan kV_is_plan dc_is_plan pm_is_plan cd_is_plan ct_is_plan dV_is_plan : Value} {od_is_plan an_is_plan : Option Addr} {sl_is_plan : Array (Option Value)}
    {e_is_plan : Addr} {eo_is_plan : Option Addr} {en_is_plan : Nat} {es_is_plan : Array (Option Value)}
    {f_all_plans : Addr} {oc_all_plans kV_all_plans dc_all_plans pm_all_plans cd_all_plans ct_all_plans dV_all_plans : Value} {od_all_plans an_all_plans : Option Addr} {sl_all_plans : Array (Option Value)}
    {e_all_plans : Addr} {eo_all_plans : Option Addr} {en_all_plans : Nat} {es_all_plans : Array (Option Value)}
    {f_l_flat : Addr} {oc_l_flat kV_l_flat dc_l_flat pm_l_flat cd_l_flat ct_l_flat : Value} {od_l_flat an_l_flat : Option Addr} {sl_l_flat : Array (Option Value)}
    {f_l_dice : Addr} {oc_l_dice kV_l_dice dc_l_dice pm_l_dice cd_l_dice ct_l_dice : Value} {od_l_dice an_l_dice : Option Addr} {sl_l_dice : Array (Option Value)}
    {f_l_roll : Addr} {oc_l_roll kV_l_roll dc_l_roll pm_l_roll cd_l_roll ct_l_roll : Value} {od_l_roll an_l_roll : Option Addr} {sl_l_roll : Array (Option Value)}
    {f_l_rounds : Addr} {oc_l_rounds kV_l_rounds dc_l_rounds pm_l_rounds cd_l_rounds ct_l_rounds : Value} {od_l_rounds an_l_rounds : Option Addr} {sl_l_rounds : Array (Option Value)}
    {f_l_told : Addr} {oc_l_told kV_l_told dc_l_told pm_l_told cd_l_told ct_l_told : Value} {od_l_told an_l_told : Option Addr} {sl_l_told : Array (Option Value)}
    {f_l_part : Addr} {oc_l_part kV_l_part dc_l_part pm_l_part cd_l_part ct_l_part : Value} {od_l_part an_l_part : Option Addr} {sl_l_part : Array (Option Value)}
    {f_l_names : Addr} {oc_l_names kV_l_names dc_l_names pm_l_names cd_l_names ct_l_names : Value} {od_l_names an_l_names : Option Addr} {sl_l_names : Array (Option Value)}
    {f_l_ready : Addr} {oc_l_ready kV_l_ready dc_l_ready pm_l_ready cd_l_ready ct_l_ready : Value} {od_l_ready an_l_ready : Option Addr} {sl_l_ready : Array (Option Value)}
    {f_l_gives : Addr} {oc_l_gives kV_l_gives dc_l_gives pm_l_gives cd_l_gives ct_l_gives : Value} {od_l_gives an_l_gives : Option Addr} {sl_l_gives : Array (Option Value)}
    {f_l_weight : Addr} {oc_l_weight kV_l_weight dc_l_weight pm_l_weight cd_l_weight ct_l_weight : Value} {od_l_weight an_l_weight : Option Addr} {sl_l_weight : Array (Option Value)}
    {f_l_planned : Addr} {oc_l_planned kV_l_planned dc_l_planned pm_l_planned cd_l_planned ct_l_planned : Value} {od_l_planned an_l_planned : Option Addr} {sl_l_planned : Array (Option Value)}
    {f_law : Addr} {oc_law kV_law dc_law pm_law ct_law : Value} {od_law an_law : Option Addr} {sl_law : Array (Option Value)}
    {C_BadSign : Addr}
    {C_BadRule : Addr}
    {C_BadKind : Addr}
    {C_BadLayer : Addr}
    {C_NoSuch : Addr}
    {C_BadDeed : Addr}
    {C_BadGround : Addr}
    {C_BadStore : Addr}
    {C_Broken : Addr}
    {C_BadSize : Addr}
    {c_L P_L : Addr}
    (aC_Term : PySem.W.nsIn K mainGlobals "Term" = some (some (.ref C_Term)))
    (pg_Term : PySem.W.plainGet K C_Term Str.empty = true)
    (hd_Term : PySem.W.hasDictIn K C_Term = true)
    (po_Term : PySem.W.plainOver K C_Term = true)
    (sa_Term : PySem.W.findIn K (.ref C_Term) "__setattr__" = some (some (.builtin "object.__setattr__")))
    (mk_Term : PySem.W.makesIn K C_Term = true)
    (kc_Term : PySem.W.keepIn K (.ref C_Term) = true)
    (n_Term_name : PySem.W.findIn K (.ref C_Term) "name" = some none)
    (n_Term_value : PySem.W.findIn K (.ref C_Term) "value" = some none)
    (aC_Literal : PySem.W.nsIn K mainGlobals "Literal" = some (some (.ref C_Literal)))
    (pg_Literal : PySem.W.plainGet K C_Literal Str.empty = true)
    (hd_Literal : PySem.W.hasDictIn K C_Literal = true)
    (po_Literal : PySem.W.plainOver K C_Literal = true)
    (sa_Literal : PySem.W.findIn K (.ref C_Literal) "__setattr__" = some (some (.builtin "object.__setattr__")))
    (mk_Literal : PySem.W.makesIn K C_Literal = true)
    (kc_Literal : PySem.W.keepIn K (.ref C_Literal) = true)
    (n_Literal_kind : PySem.W.findIn K (.ref C_Literal) "kind" = some none)
    (n_Literal_name : PySem.W.findIn K (.ref C_Literal) "name" = some none)
    (n_Literal_terms : PySem.W.findIn K (.ref C_Literal) "terms" = some none)
    (n_Literal_own : PySem.W.findIn K (.ref C_Literal) "own" = some none)
    (aC_Rule : PySem.W.nsIn K mainGlobals "Rule" = some (some (.ref C_Rule)))
    (pg_Rule : PySem.W.plainGet K C_Rule Str.empty = true)
    (hd_Rule : PySem.W.hasDictIn K C_Rule = true)
    (po_Rule : PySem.W.plainOver K C_Rule = true)
    (sa_Rule : PySem.W.findIn K (.ref C_Rule) "__setattr__" = some (some (.builtin "object.__setattr__")))
    (mk_Rule : PySem.W.makesIn K C_Rule = true)
    (kc_Rule : PySem.W.keepIn K (.ref C_Rule) = true)
    (n_Rule_name : PySem.W.findIn K (.ref C_Rule) "name" = some none)
    (n_Rule_terms : PySem.W.findIn K (.ref C_Rule) "terms" = some none)
    (n_Rule_body : PySem.W.findIn K (.ref C_Rule) "body" = some none)
    (n_Rule_summed : PySem.W.findIn K (.ref C_Rule) "summed" = some none)
    (n_Rule_stands : PySem.W.findIn K (.ref C_Rule) "stands" = some none)
    (aC_Plan : PySem.W.nsIn K mainGlobals "Plan" = some (some (.ref C_Plan)))
    (pg_Plan : PySem.W.plainGet K C_Plan Str.empty = true)
    (hd_Plan : PySem.W.hasDictIn K C_Plan = true)
    (po_Plan : PySem.W.plainOver K C_Plan = true)
    (sa_Plan : PySem.W.findIn K (.ref C_Plan) "__setattr__" = some (some (.builtin "object.__setattr__")))
    (mk_Plan : PySem.W.makesIn K C_Plan = true)
    (kc_Plan : PySem.W.keepIn K (.ref C_Plan) = true)
    (n_Plan_rule : PySem.W.findIn K (.ref C_Plan) "rule" = some none)
    (n_Plan_order : PySem.W.findIn K (.ref C_Plan) "order" = some none)
    (n_Plan_given : PySem.W.findIn K (.ref C_Plan) "given" = some none)
    (n_Plan_told_first : PySem.W.findIn K (.ref C_Plan) "told_first" = some none)
    (a_Term_init : PySem.W.findIn K (.ref C_Term) "__init__" = some (some (.ref f_Term_init)))
    (i_Term_init : PySem.W.isFn K (.ref f_Term_init) = true)
    (l_Term_init : K.lookup f_Term_init = some ⟨oc_Term_init, od_Term_init, .func (PySem.W.fnOf "__init__" "Term.__init__" (defArgs s_Term_init) (defBody s_Term_init) (defScope s_Term_init) dV_Term_init kV_Term_init dc_Term_init pm_Term_init an_Term_init cd_Term_init ct_Term_init), sl_Term_init⟩)
    (v_Term_init : DflV K dV_Term_init [.non])
    (c_Term_init : PySem.W.codeIn K cd_Term_init "Term.__init__" = true)
    (k_Term_init : PySem.W.keepIn K (.ref f_Term_init) = true)
    (a_Term_is_variable : PySem.W.findIn K (.ref C_Term) "is_variable" = some (some (.ref f_Term_is_variable)))
    (i_Term_is_variable : PySem.W.isFn K (.ref f_Term_is_variable) = true)
    (l_Term_is_variable : K.lookup f_Term_is_variable = some ⟨oc_Term_is_variable, od_Term_is_variable, .func (PySem.W.fnOf "is_variable" "Term.is_variable" (defArgs s_Term_is_variable) (defBody s_Term_is_variable) (defScope s_Term_is_variable) .none kV_Term_is_variable dc_Term_is_variable pm_Term_is_variable an_Term_is_variable cd_Term_is_variable ct_Term_is_variable), sl_Term_is_variable⟩)
    (c_Term_is_variable : PySem.W.codeIn K cd_Term_is_variable "Term.is_variable" = true)
    (k_Term_is_variable : PySem.W.keepIn K (.ref f_Term_is_variable) = true)
    (a_Term_known : PySem.W.findIn K (.ref C_Term) "known" = some (some (.ref f_Term_known)))
    (i_Term_known : PySem.W.isFn K (.ref f_Term_known) = true)
    (l_Term_known : K.lookup f_Term_known = some ⟨oc_Term_known, od_Term_known, .func (PySem.W.fnOf "known" "Term.known" (defArgs s_Term_known) (defBody s_Term_known) (defScope s_Term_known) .none kV_Term_known dc_Term_known pm_Term_known an_Term_known cd_Term_known ct_Term_known), sl_Term_known⟩)
    (c_Term_known : PySem.W.codeIn K cd_Term_known "Term.known" = true)
    (k_Term_known : PySem.W.keepIn K (.ref f_Term_known) = true)
    (a_var : PySem.W.nsIn K mainGlobals "var" = some (some (.ref f_var)))
    (l_var : K.lookup f_var = some ⟨oc_var, od_var, .func (PySem.W.fnOf "var" "var" (defArgs s_var) (defBody s_var) (defScope s_var) .none kV_var dc_var pm_var an_var cd_var ct_var), sl_var⟩)
    (c_var : PySem.W.codeIn K cd_var "var" = true)
    (k_var : PySem.W.keepIn K (.ref f_var) = true)
    (a_val : PySem.W.nsIn K mainGlobals "val" = some (some (.ref f_val)))
    (l_val : K.lookup f_val = some ⟨oc_val, od_val, .func (PySem.W.fnOf "val" "val" (defArgs s_val) (defBody s_val) (defScope s_val) .none kV_val dc_val pm_val an_val cd_val ct_val), sl_val⟩)
    (c_val : PySem.W.codeIn K cd_val "val" = true)
    (k_val : PySem.W.keepIn K (.ref f_val) = true)
    (a_names_in : PySem.W.nsIn K mainGlobals "names_in" = some (some (.ref f_names_in)))
    (l_names_in : K.lookup f_names_in = some ⟨oc_names_in, od_names_in, .func (PySem.W.fnOf "names_in" "names_in" (defArgs s_names_in) (defBody s_names_in) (defScope s_names_in) .none kV_names_in dc_names_in pm_names_in an_names_in cd_names_in ct_names_in), sl_names_in⟩)
    (c_names_in : PySem.W.codeIn K cd_names_in "names_in" = true)
    (k_names_in : PySem.W.keepIn K (.ref f_names_in) = true)
    (a_Literal_init : PySem.W.findIn K (.ref C_Literal) "__init__" = some (some (.ref f_Literal_init)))
    (i_Literal_init : PySem.W.isFn K (.ref f_Literal_init) = true)
    (l_Literal_init : K.lookup f_Literal_init = some ⟨oc_Literal_init, od_Literal_init, .func (PySem.W.fnOf "__init__" "Literal.__init__" (defArgs s_Literal_init) (defBody s_Literal_init) (defScope s_Literal_init) .none kV_Literal_init dc_Literal_init pm_Literal_init an_Literal_init cd_Literal_init ct_Literal_init), sl_Literal_init⟩)
    (c_Literal_init : PySem.W.codeIn K cd_Literal_init "Literal.__init__" = true)
    (k_Literal_init : PySem.W.keepIn K (.ref f_Literal_init) = true)
    (a_Literal_names : PySem.W.findIn K (.ref C_Literal) "names" = some (some (.ref f_Literal_names)))
    (i_Literal_names : PySem.W.isFn K (.ref f_Literal_names) = true)
    (l_Literal_names : K.lookup f_Literal_names = some ⟨oc_Literal_names, od_Literal_names, .func (PySem.W.fnOf "names" "Literal.names" (defArgs s_Literal_names) (defBody s_Literal_names) (defScope s_Literal_names) .none kV_Literal_names dc_Literal_names pm_Literal_names an_Literal_names cd_Literal_names ct_Literal_names), sl_Literal_names⟩)
    (c_Literal_names : PySem.W.codeIn K cd_Literal_names "Literal.names" = true)
    (k_Literal_names : PySem.W.keepIn K (.ref f_Literal_names) = true)
    (a_Rule_init : PySem.W.findIn K (.ref C_Rule) "__init__" = some (some (.ref f_Rule_init)))
    (i_Rule_init : PySem.W.isFn K (.ref f_Rule_init) = true)
    (l_Rule_init : K.lookup f_Rule_init = some ⟨oc_Rule_init, od_Rule_init, .func (PySem.W.fnOf "__init__" "Rule.__init__" (defArgs s_Rule_init) (defBody s_Rule_init) (defScope s_Rule_init) dV_Rule_init kV_Rule_init dc_Rule_init pm_Rule_init an_Rule_init cd_Rule_init ct_Rule_init), sl_Rule_init⟩)
    (v_Rule_init : DflV K dV_Rule_init [.non])
    (c_Rule_init : PySem.W.codeIn K cd_Rule_init "Rule.__init__" = true)
    (k_Rule_init : PySem.W.keepIn K (.ref f_Rule_init) = true)
    (a_how_often : PySem.W.nsIn K mainGlobals "how_often" = some (some (.ref f_how_often)))
    (l_how_often : K.lookup f_how_often = some ⟨oc_how_often, od_how_often, .func (PySem.W.fnOf "how_often" "how_often" (defArgs s_how_often) (defBody s_how_often) (defScope s_how_often) .none kV_how_often dc_how_often pm_how_often an_how_often cd_how_often ct_how_often), sl_how_often⟩)
    (c_how_often : PySem.W.codeIn K cd_how_often "how_often" = true)
    (k_how_often : PySem.W.keepIn K (.ref f_how_often) = true)
    (a_needs : PySem.W.nsIn K mainGlobals "needs" = some (some (.ref f_needs)))
    (l_needs : K.lookup f_needs = some ⟨oc_needs, od_needs, .func (PySem.W.fnOf "needs" "needs" (defArgs s_needs) (defBody s_needs) (defScope s_needs) .none kV_needs dc_needs pm_needs an_needs cd_needs ct_needs), sl_needs⟩)
    (c_needs : PySem.W.codeIn K cd_needs "needs" = true)
    (k_needs : PySem.W.keepIn K (.ref f_needs) = true)
    (a_gives : PySem.W.nsIn K mainGlobals "gives" = some (some (.ref f_gives)))
    (l_gives : K.lookup f_gives = some ⟨oc_gives, od_gives, .func (PySem.W.fnOf "gives" "gives" (defArgs s_gives) (defBody s_gives) (defScope s_gives) .none kV_gives dc_gives pm_gives an_gives cd_gives ct_gives), sl_gives⟩)
    (c_gives : PySem.W.codeIn K cd_gives "gives" = true)
    (k_gives : PySem.W.keepIn K (.ref f_gives) = true)
    (a_shared : PySem.W.nsIn K mainGlobals "shared" = some (some (.ref f_shared)))
    (l_shared : K.lookup f_shared = some ⟨oc_shared, od_shared, .func (PySem.W.fnOf "shared" "shared" (defArgs s_shared) (defBody s_shared) (defScope s_shared) .none kV_shared dc_shared pm_shared an_shared cd_shared ct_shared), sl_shared⟩)
    (c_shared : PySem.W.codeIn K cd_shared "shared" = true)
    (k_shared : PySem.W.keepIn K (.ref f_shared) = true)
    (a_ready : PySem.W.nsIn K mainGlobals "ready" = some (some (.ref f_ready)))
    (l_ready : K.lookup f_ready = some ⟨oc_ready, od_ready, .func (PySem.W.fnOf "ready" "ready" (defArgs s_ready) (defBody s_ready) (defScope s_ready) .none kV_ready dc_ready pm_ready an_ready cd_ready ct_ready), sl_ready⟩)
    (c_ready : PySem.W.codeIn K cd_ready "ready" = true)
    (k_ready : PySem.W.keepIn K (.ref f_ready) = true)
    (a_Plan_init : PySem.W.findIn K (.ref C_Plan) "__init__" = some (some (.ref f_Plan_init)))
    (i_Plan_init : PySem.W.isFn K (.ref f_Plan_init) = true)
    (l_Plan_init : K.lookup f_Plan_init = some ⟨oc_Plan_init, od_Plan_init, .func (PySem.W.fnOf "__init__" "Plan.__init__" (defArgs s_Plan_init) (defBody s_Plan_init) (defScope s_Plan_init) .none kV_Plan_init dc_Plan_init pm_Plan_init an_Plan_init cd_Plan_init ct_Plan_init), sl_Plan_init⟩)
    (c_Plan_init : PySem.W.codeIn K cd_Plan_init "Plan.__init__" = true)
    (k_Plan_init : PySem.W.keepIn K (.ref f_Plan_init) = true)
    (a_Plan_bound_at : PySem.W.findIn K (.ref C_Plan) "bound_at" = some (some (.ref f_Plan_bound_at)))
    (i_Plan_bound_at : PySem.W.isFn K (.ref f_Plan_bound_at) = true)
    (l_Plan_bound_at : K.lookup f_Plan_bound_at = some ⟨oc_Plan_bound_at, od_Plan_bound_at, .func (PySem.W.fnOf "bound_at" "Plan.bound_at" (defArgs s_Plan_bound_at) (defBody s_Plan_bound_at) (defScope s_Plan_bound_at) .none kV_Plan_bound_at dc_Plan_bound_at pm_Plan_bound_at an_Plan_bound_at cd_Plan_bound_at ct_Plan_bound_at), sl_Plan_bound_at⟩)
    (c_Plan_bound_at : PySem.W.codeIn K cd_Plan_bound_at "Plan.bound_at" = true)
    (k_Plan_bound_at : PySem.W.keepIn K (.ref f_Plan_bound_at) = true)
    (a_Plan_known_places : PySem.W.findIn K (.ref C_Plan) "known_places" = some (some (.ref f_Plan_known_places)))
    (i_Plan_known_places : PySem.W.isFn K (.ref f_Plan_known_places) = true)
    (l_Plan_known_places : K.lookup f_Plan_known_places = some ⟨oc_Plan_known_places, od_Plan_known_places, .func (PySem.W.fnOf "known_places" "Plan.known_places" (defArgs s_Plan_known_places) (defBody s_Plan_known_places) (defScope s_Plan_known_places) .none kV_Plan_known_places dc_Plan_known_places pm_Plan_known_places an_Plan_known_places cd_Plan_known_places ct_Plan_known_places), sl_Plan_known_places⟩)
    (c_Plan_known_places : PySem.W.codeIn K cd_Plan_known_places "Plan.known_places" = true)
    (k_Plan_known_places : PySem.W.keepIn K (.ref f_Plan_known_places) = true)
    (a_Plan_shown : PySem.W.findIn K (.ref C_Plan) "shown" = some (some (.ref f_Plan_shown)))
    (i_Plan_shown : PySem.W.isFn K (.ref f_Plan_shown) = true)
    (l_Plan_shown : K.lookup f_Plan_shown = some ⟨oc_Plan_shown, od_Plan_shown, .func (PySem.W.fnOf "shown" "Plan.shown" (defArgs s_Plan_shown) (defBody s_Plan_shown) (defScope s_Plan_shown) .none kV_Plan_shown dc_Plan_shown pm_Plan_shown an_Plan_shown cd_Plan_shown ct_Plan_shown), sl_Plan_shown⟩)
    (c_Plan_shown : PySem.W.codeIn K cd_Plan_shown "Plan.shown" = true)
    (k_Plan_shown : PySem.W.keepIn K (.ref f_Plan_shown) = true)
    (a_known_at : PySem.W.nsIn K mainGlobals "known_at" = some (some (.ref f_known_at)))
    (l_known_at : K.lookup f_known_at = some ⟨oc_known_at, od_known_at, .func (PySem.W.fnOf "known_at" "known_at" (defArgs s_known_at) (defBody s_known_at) (defScope s_known_at) .none kV_known_at dc_known_at pm_known_at an_known_at cd_known_at ct_known_at), sl_known_at⟩)
    (c_known_at : PySem.W.codeIn K cd_known_at "known_at" = true)
    (k_known_at : PySem.W.keepIn K (.ref f_known_at) = true)
    (a_weight : PySem.W.nsIn K mainGlobals "weight" = some (some (.ref f_weight)))
    (l_weight : K.lookup f_weight = some ⟨oc_weight, od_weight, .func (PySem.W.fnOf "weight" "weight" (defArgs s_weight) (defBody s_weight) (defScope s_weight) .none kV_weight dc_weight pm_weight an_weight cd_weight ct_weight), sl_weight⟩)
    (c_weight : PySem.W.codeIn K cd_weight "weight" = true)
    (k_weight : PySem.W.keepIn K (.ref f_weight) = true)
    (a_bound_by : PySem.W.nsIn K mainGlobals "bound_by" = some (some (.ref f_bound_by)))
    (l_bound_by : K.lookup f_bound_by = some ⟨oc_bound_by, od_bound_by, .func (PySem.W.fnOf "bound_by" "bound_by" (defArgs s_bound_by) (defBody s_bound_by) (defScope s_bound_by) .none kV_bound_by dc_bound_by pm_bound_by an_bound_by cd_bound_by ct_bound_by), sl_bound_by⟩)
    (c_bound_by : PySem.W.codeIn K cd_bound_by "bound_by" = true)
    (k_bound_by : PySem.W.keepIn K (.ref f_bound_by) = true)
    (a_plan : PySem.W.nsIn K mainGlobals "plan" = some (some (.ref f_plan)))
    (l_plan : K.lookup f_plan = some ⟨oc_plan, od_plan, .func (PySem.W.fnOf "plan" "plan" (defArgs s_plan) (defBody s_plan) (defScope s_plan) dV_plan kV_plan dc_plan pm_plan an_plan cd_plan ct_plan), sl_plan⟩)
    (v_plan : DflV K dV_plan [.non, (.ref e_plan)])
    (le_plan : K.lookup e_plan = some ⟨.type "tuple", eo_plan, .seq #[] en_plan, es_plan⟩)
    (c_plan : PySem.W.codeIn K cd_plan "plan" = true)
    (k_plan : PySem.W.keepIn K (.ref f_plan) = true)
    (a_lightest : PySem.W.nsIn K mainGlobals "lightest" = some (some (.ref f_lightest)))
    (l_lightest : K.lookup f_lightest = some ⟨oc_lightest, od_lightest, .func (PySem.W.fnOf "lightest" "lightest" (defArgs s_lightest) (defBody s_lightest) (defScope s_lightest) .none kV_lightest dc_lightest pm_lightest an_lightest cd_lightest ct_lightest), sl_lightest⟩)
    (c_lightest : PySem.W.codeIn K cd_lightest "lightest" = true)
    (k_lightest : PySem.W.keepIn K (.ref f_lightest) = true)
    (a_next_parts : PySem.W.nsIn K mainGlobals "next_parts" = some (some (.ref f_next_parts)))
    (l_next_parts : K.lookup f_next_parts = some ⟨oc_next_parts, od_next_parts, .func (PySem.W.fnOf "next_parts" "next_parts" (defArgs s_next_parts) (defBody s_next_parts) (defScope s_next_parts) .none kV_next_parts dc_next_parts pm_next_parts an_next_parts cd_next_parts ct_next_parts), sl_next_parts⟩)
    (c_next_parts : PySem.W.codeIn K cd_next_parts "next_parts" = true)
    (k_next_parts : PySem.W.keepIn K (.ref f_next_parts) = true)
    (a_binds : PySem.W.nsIn K mainGlobals "binds" = some (some (.ref f_binds)))
    (l_binds : K.lookup f_binds = some ⟨oc_binds, od_binds, .func (PySem.W.fnOf "binds" "binds" (defArgs s_binds) (defBody s_binds) (defScope s_binds) .none kV_binds dc_binds pm_binds an_binds cd_binds ct_binds), sl_binds⟩)
    (c_binds : PySem.W.codeIn K cd_binds "binds" = true)
    (k_binds : PySem.W.keepIn K (.ref f_binds) = true)
    (a_bound_behind : PySem.W.nsIn K mainGlobals "bound_behind" = some (some (.ref f_bound_behind)))
    (l_bound_behind : K.lookup f_bound_behind = some ⟨oc_bound_behind, od_bound_behind, .func (PySem.W.fnOf "bound_behind" "bound_behind" (defArgs s_bound_behind) (defBody s_bound_behind) (defScope s_bound_behind) .none kV_bound_behind dc_bound_behind pm_bound_behind an_bound_behind cd_bound_behind ct_bound_behind), sl_bound_behind⟩)
    (c_bound_behind : PySem.W.codeIn K cd_bound_behind "bound_behind" = true)
    (k_bound_behind : PySem.W.keepIn K (.ref f_bound_behind) = true)
    (a_is_plan : PySem.W.nsIn K mainGlobals "is_plan" = some (some (.ref f_is_plan)))
    (l_is_plan : K.lookup f_is_plan = some ⟨oc_is_plan, od_is_plan, .func (PySem.W.fnOf "is_plan" "is_plan" (defArgs s_is_plan) (defBody s_is_plan) (defScope s_is_plan) dV_is_plan kV_is_plan dc_is_plan pm_is_plan an_is_plan cd_is_plan ct_is_plan), sl_is_plan⟩)
    (v_is_plan : DflV K dV_is_plan [(.ref e_is_plan)])
    (le_is_plan : K.lookup e_is_plan = some ⟨.type "tuple", eo_is_plan, .seq #[] en_is_plan, es_is_plan⟩)
    (c_is_plan : PySem.W.codeIn K cd_is_plan "is_plan" = true)
    (k_is_plan : PySem.W.keepIn K (.ref f_is_plan) = true)
    (a_all_plans : PySem.W.nsIn K mainGlobals "all_plans" = some (some (.ref f_all_plans)))
    (l_all_plans : K.lookup f_all_plans = some ⟨oc_all_plans, od_all_plans, .func (PySem.W.fnOf "all_plans" "all_plans" (defArgs s_all_plans) (defBody s_all_plans) (defScope s_all_plans) dV_all_plans kV_all_plans dc_all_plans pm_all_plans an_all_plans cd_all_plans ct_all_plans), sl_all_plans⟩)
    (v_all_plans : DflV K dV_all_plans [(.ref e_all_plans)])
    (le_all_plans : K.lookup e_all_plans = some ⟨.type "tuple", eo_all_plans, .seq #[] en_all_plans, es_all_plans⟩)
    (c_all_plans : PySem.W.codeIn K cd_all_plans "all_plans" = true)
    (k_all_plans : PySem.W.keepIn K (.ref f_all_plans) = true)
    (a_l_flat : PySem.W.nsIn K mainGlobals "_law_flat" = some (some (.ref f_l_flat)))
    (l_l_flat : K.lookup f_l_flat = some ⟨oc_l_flat, od_l_flat, .func (PySem.W.fnOf "_law_flat" "_law_flat" (defArgs s_l_flat) (defBody s_l_flat) (defScope s_l_flat) .none kV_l_flat dc_l_flat pm_l_flat an_l_flat cd_l_flat ct_l_flat), sl_l_flat⟩)
    (c_l_flat : PySem.W.codeIn K cd_l_flat "_law_flat" = true)
    (k_l_flat : PySem.W.keepIn K (.ref f_l_flat) = true)
    (a_l_dice : PySem.W.nsIn K mainGlobals "_law_dice" = some (some (.ref f_l_dice)))
    (l_l_dice : K.lookup f_l_dice = some ⟨oc_l_dice, od_l_dice, .func (PySem.W.fnOf "_law_dice" "_law_dice" (defArgs s_l_dice) (defBody s_l_dice) (defScope s_l_dice) .none kV_l_dice dc_l_dice pm_l_dice an_l_dice cd_l_dice ct_l_dice), sl_l_dice⟩)
    (c_l_dice : PySem.W.codeIn K cd_l_dice "_law_dice" = true)
    (k_l_dice : PySem.W.keepIn K (.ref f_l_dice) = true)
    (a_l_roll : PySem.W.nsIn K mainGlobals "_law_roll" = some (some (.ref f_l_roll)))
    (l_l_roll : K.lookup f_l_roll = some ⟨oc_l_roll, od_l_roll, .func (PySem.W.fnOf "_law_roll" "_law_roll" (defArgs s_l_roll) (defBody s_l_roll) (defScope s_l_roll) .none kV_l_roll dc_l_roll pm_l_roll an_l_roll cd_l_roll ct_l_roll), sl_l_roll⟩)
    (c_l_roll : PySem.W.codeIn K cd_l_roll "_law_roll" = true)
    (k_l_roll : PySem.W.keepIn K (.ref f_l_roll) = true)
    (a_l_rounds : PySem.W.nsIn K mainGlobals "_law_rounds" = some (some (.ref f_l_rounds)))
    (l_l_rounds : K.lookup f_l_rounds = some ⟨oc_l_rounds, od_l_rounds, .func (PySem.W.fnOf "_law_rounds" "_law_rounds" (defArgs s_l_rounds) (defBody s_l_rounds) (defScope s_l_rounds) .none kV_l_rounds dc_l_rounds pm_l_rounds an_l_rounds cd_l_rounds ct_l_rounds), sl_l_rounds⟩)
    (c_l_rounds : PySem.W.codeIn K cd_l_rounds "_law_rounds" = true)
    (k_l_rounds : PySem.W.keepIn K (.ref f_l_rounds) = true)
    (a_l_told : PySem.W.nsIn K mainGlobals "_law_told" = some (some (.ref f_l_told)))
    (l_l_told : K.lookup f_l_told = some ⟨oc_l_told, od_l_told, .func (PySem.W.fnOf "_law_told" "_law_told" (defArgs s_l_told) (defBody s_l_told) (defScope s_l_told) .none kV_l_told dc_l_told pm_l_told an_l_told cd_l_told ct_l_told), sl_l_told⟩)
    (c_l_told : PySem.W.codeIn K cd_l_told "_law_told" = true)
    (k_l_told : PySem.W.keepIn K (.ref f_l_told) = true)
    (a_l_part : PySem.W.nsIn K mainGlobals "_law_part" = some (some (.ref f_l_part)))
    (l_l_part : K.lookup f_l_part = some ⟨oc_l_part, od_l_part, .func (PySem.W.fnOf "_law_part" "_law_part" (defArgs s_l_part) (defBody s_l_part) (defScope s_l_part) .none kV_l_part dc_l_part pm_l_part an_l_part cd_l_part ct_l_part), sl_l_part⟩)
    (c_l_part : PySem.W.codeIn K cd_l_part "_law_part" = true)
    (k_l_part : PySem.W.keepIn K (.ref f_l_part) = true)
    (a_l_names : PySem.W.nsIn K mainGlobals "_law_names" = some (some (.ref f_l_names)))
    (l_l_names : K.lookup f_l_names = some ⟨oc_l_names, od_l_names, .func (PySem.W.fnOf "_law_names" "_law_names" (defArgs s_l_names) (defBody s_l_names) (defScope s_l_names) .none kV_l_names dc_l_names pm_l_names an_l_names cd_l_names ct_l_names), sl_l_names⟩)
    (c_l_names : PySem.W.codeIn K cd_l_names "_law_names" = true)
    (k_l_names : PySem.W.keepIn K (.ref f_l_names) = true)
    (a_l_ready : PySem.W.nsIn K mainGlobals "_law_ready" = some (some (.ref f_l_ready)))
    (l_l_ready : K.lookup f_l_ready = some ⟨oc_l_ready, od_l_ready, .func (PySem.W.fnOf "_law_ready" "_law_ready" (defArgs s_l_ready) (defBody s_l_ready) (defScope s_l_ready) .none kV_l_ready dc_l_ready pm_l_ready an_l_ready cd_l_ready ct_l_ready), sl_l_ready⟩)
    (c_l_ready : PySem.W.codeIn K cd_l_ready "_law_ready" = true)
    (k_l_ready : PySem.W.keepIn K (.ref f_l_ready) = true)
    (a_l_gives : PySem.W.nsIn K mainGlobals "_law_gives" = some (some (.ref f_l_gives)))
    (l_l_gives : K.lookup f_l_gives = some ⟨oc_l_gives, od_l_gives, .func (PySem.W.fnOf "_law_gives" "_law_gives" (defArgs s_l_gives) (defBody s_l_gives) (defScope s_l_gives) .none kV_l_gives dc_l_gives pm_l_gives an_l_gives cd_l_gives ct_l_gives), sl_l_gives⟩)
    (c_l_gives : PySem.W.codeIn K cd_l_gives "_law_gives" = true)
    (k_l_gives : PySem.W.keepIn K (.ref f_l_gives) = true)
    (a_l_weight : PySem.W.nsIn K mainGlobals "_law_weight" = some (some (.ref f_l_weight)))
    (l_l_weight : K.lookup f_l_weight = some ⟨oc_l_weight, od_l_weight, .func (PySem.W.fnOf "_law_weight" "_law_weight" (defArgs s_l_weight) (defBody s_l_weight) (defScope s_l_weight) .none kV_l_weight dc_l_weight pm_l_weight an_l_weight cd_l_weight ct_l_weight), sl_l_weight⟩)
    (c_l_weight : PySem.W.codeIn K cd_l_weight "_law_weight" = true)
    (k_l_weight : PySem.W.keepIn K (.ref f_l_weight) = true)
    (a_l_planned : PySem.W.nsIn K mainGlobals "_law_planned" = some (some (.ref f_l_planned)))
    (l_l_planned : K.lookup f_l_planned = some ⟨oc_l_planned, od_l_planned, .func (PySem.W.fnOf "_law_planned" "_law_planned" (defArgs s_l_planned) (defBody s_l_planned) (defScope s_l_planned) .none kV_l_planned dc_l_planned pm_l_planned an_l_planned cd_l_planned ct_l_planned), sl_l_planned⟩)
    (c_l_planned : PySem.W.codeIn K cd_l_planned "_law_planned" = true)
    (k_l_planned : PySem.W.keepIn K (.ref f_l_planned) = true)
    (a_law : PySem.W.nsIn K mainGlobals "law" = some (some (.ref f_law)))
    (l_law : K.lookup f_law = some ⟨oc_law, od_law, .func (PySem.W.fnOf "law" "law" (defArgs s_law) (defBody s_law) (defScope s_law) .none kV_law dc_law pm_law an_law (.ref c_L) ct_law), sl_law⟩)
    (c_law : PySem.W.codeIn K (.ref c_L) "law" = true)
    (k_law : PySem.W.keepIn K (.ref f_law) = true)
    (z_abs : PySem.W.nsIn K mainGlobals "abs" = some none)
    (z_all : PySem.W.nsIn K mainGlobals "all" = some none)
    (z_dict : PySem.W.nsIn K mainGlobals "dict" = some none)
    (z_enumerate : PySem.W.nsIn K mainGlobals "enumerate" = some none)
    (z_int : PySem.W.nsIn K mainGlobals "int" = some none)
    (z_isinstance : PySem.W.nsIn K mainGlobals "isinstance" = some none)
    (z_len : PySem.W.nsIn K mainGlobals "len" = some none)
    (z_list : PySem.W.nsIn K mainGlobals "list" = some none)
    (z_min : PySem.W.nsIn K mainGlobals "min" = some none)
    (z_range : PySem.W.nsIn K mainGlobals "range" = some none)
    (z_sorted : PySem.W.nsIn K mainGlobals "sorted" = some none)
    (z_str : PySem.W.nsIn K mainGlobals "str" = some none)
    (z_tuple : PySem.W.nsIn K mainGlobals "tuple" = some none)
    (q_BadSign : PySem.W.nsIn K mainGlobals "BadSign" = some (some (.ref C_BadSign)))
    (q_BadRule : PySem.W.nsIn K mainGlobals "BadRule" = some (some (.ref C_BadRule)))
    (q_BadKind : PySem.W.nsIn K mainGlobals "BadKind" = some (some (.ref C_BadKind)))
    (q_BadLayer : PySem.W.nsIn K mainGlobals "BadLayer" = some (some (.ref C_BadLayer)))
    (q_NoSuch : PySem.W.nsIn K mainGlobals "NoSuch" = some (some (.ref C_NoSuch)))
    (q_BadDeed : PySem.W.nsIn K mainGlobals "BadDeed" = some (some (.ref C_BadDeed)))
    (q_BadGround : PySem.W.nsIn K mainGlobals "BadGround" = some (some (.ref C_BadGround)))
    (q_BadStore : PySem.W.nsIn K mainGlobals "BadStore" = some (some (.ref C_BadStore)))
    (q_Broken : PySem.W.nsIn K mainGlobals "Broken" = some (some (.ref C_Broken)))
    (q_BadSize : PySem.W.nsIn K mainGlobals "BadSize" = some (some (.ref C_BadSize)))
    (x_BadRule : PySem.W.excIn K C_BadRule [.type "ValueError", .type "Exception", .type "BaseException", .type "object"] "ValueError.__new__" = true)
    (k_BadRule : PySem.W.keepIn K (.ref C_BadRule) = true)
    (sb_BadRule : PySem.W.subIn K (.ref C_BadRule) (.type "BaseException") = some true)
    (ty_BadRule : PySem.W.typeIn K (.ref C_BadRule) = some (.type "type"))
    (m_BadRule_BadSign : PySem.W.exmOne K (.ref C_BadRule) (.ref C_BadSign) = some false)
    (m_BadRule_BadRule : PySem.W.exmOne K (.ref C_BadRule) (.ref C_BadRule) = some true)
    (h_law : PySem.W.codeHdIn K c_L P_L = true)
    (n_law : K.lookup P_L = none) :
    LamX.LawAtS l w K CX0 10 63 "_law_script" mg fa h := by
  have ef : f_law = fa := by
    have e := hfa.symm.trans (PySem.W.mg_of X G a_law)
    injection e with e
    injection e with e
    exact e.symm
  subst ef
  let A : Ad := ⟨C_BadSign, C_BadRule, C_BadKind, C_BadLayer, C_NoSuch, C_BadDeed, C_BadGround, C_BadStore, C_Broken, C_BadSize, c_L, P_L, f_Term_init, (PySem.W.fnOf "__init__" "Term.__init__" (defArgs s_Term_init) (defBody s_Term_init) (defScope s_Term_init) dV_Term_init kV_Term_init dc_Term_init pm_Term_init an_Term_init cd_Term_init ct_Term_init), f_Term_is_variable, (PySem.W.fnOf "is_variable" "Term.is_variable" (defArgs s_Term_is_variable) (defBody s_Term_is_variable) (defScope s_Term_is_variable) .none kV_Term_is_variable dc_Term_is_variable pm_Term_is_variable an_Term_is_variable cd_Term_is_variable ct_Term_is_variable), f_Term_known, (PySem.W.fnOf "known" "Term.known" (defArgs s_Term_known) (defBody s_Term_known) (defScope s_Term_known) .none kV_Term_known dc_Term_known pm_Term_known an_Term_known cd_Term_known ct_Term_known), f_var, (PySem.W.fnOf "var" "var" (defArgs s_var) (defBody s_var) (defScope s_var) .none kV_var dc_var pm_var an_var cd_var ct_var), f_val, (PySem.W.fnOf "val" "val" (defArgs s_val) (defBody s_val) (defScope s_val) .none kV_val dc_val pm_val an_val cd_val ct_val), f_names_in, (PySem.W.fnOf "names_in" "names_in" (defArgs s_names_in) (defBody s_names_in) (defScope s_names_in) .none kV_names_in dc_names_in pm_names_in an_names_in cd_names_in ct_names_in), f_Literal_init, (PySem.W.fnOf "__init__" "Literal.__init__" (defArgs s_Literal_init) (defBody s_Literal_init) (defScope s_Literal_init) .none kV_Literal_init dc_Literal_init pm_Literal_init an_Literal_init cd_Literal_init ct_Literal_init), f_Literal_names, (PySem.W.fnOf "names" "Literal.names" (defArgs s_Literal_names) (defBody s_Literal_names) (defScope s_Literal_names) .none kV_Literal_names dc_Literal_names pm_Literal_names an_Literal_names cd_Literal_names ct_Literal_names), f_Rule_init, (PySem.W.fnOf "__init__" "Rule.__init__" (defArgs s_Rule_init) (defBody s_Rule_init) (defScope s_Rule_init) dV_Rule_init kV_Rule_init dc_Rule_init pm_Rule_init an_Rule_init cd_Rule_init ct_Rule_init), f_how_often, (PySem.W.fnOf "how_often" "how_often" (defArgs s_how_often) (defBody s_how_often) (defScope s_how_often) .none kV_how_often dc_how_often pm_how_often an_how_often cd_how_often ct_how_often), f_needs, (PySem.W.fnOf "needs" "needs" (defArgs s_needs) (defBody s_needs) (defScope s_needs) .none kV_needs dc_needs pm_needs an_needs cd_needs ct_needs), f_gives, (PySem.W.fnOf "gives" "gives" (defArgs s_gives) (defBody s_gives) (defScope s_gives) .none kV_gives dc_gives pm_gives an_gives cd_gives ct_gives), f_shared, (PySem.W.fnOf "shared" "shared" (defArgs s_shared) (defBody s_shared) (defScope s_shared) .none kV_shared dc_shared pm_shared an_shared cd_shared ct_shared), f_ready, (PySem.W.fnOf "ready" "ready" (defArgs s_ready) (defBody s_ready) (defScope s_ready) .none kV_ready dc_ready pm_ready an_ready cd_ready ct_ready), f_Plan_init, (PySem.W.fnOf "__init__" "Plan.__init__" (defArgs s_Plan_init) (defBody s_Plan_init) (defScope s_Plan_init) .none kV_Plan_init dc_Plan_init pm_Plan_init an_Plan_init cd_Plan_init ct_Plan_init), f_Plan_bound_at, (PySem.W.fnOf "bound_at" "Plan.bound_at" (defArgs s_Plan_bound_at) (defBody s_Plan_bound_at) (defScope s_Plan_bound_at) .none kV_Plan_bound_at dc_Plan_bound_at pm_Plan_bound_at an_Plan_bound_at cd_Plan_bound_at ct_Plan_bound_at), f_Plan_known_places, (PySem.W.fnOf "known_places" "Plan.known_places" (defArgs s_Plan_known_places) (defBody s_Plan_known_places) (defScope s_Plan_known_places) .none kV_Plan_known_places dc_Plan_known_places pm_Plan_known_places an_Plan_known_places cd_Plan_known_places ct_Plan_known_places), f_Plan_shown, (PySem.W.fnOf "shown" "Plan.shown" (defArgs s_Plan_shown) (defBody s_Plan_shown) (defScope s_Plan_shown) .none kV_Plan_shown dc_Plan_shown pm_Plan_shown an_Plan_shown cd_Plan_shown ct_Plan_shown), f_known_at, (PySem.W.fnOf "known_at" "known_at" (defArgs s_known_at) (defBody s_known_at) (defScope s_known_at) .none kV_known_at dc_known_at pm_known_at an_known_at cd_known_at ct_known_at), f_weight, (PySem.W.fnOf "weight" "weight" (defArgs s_weight) (defBody s_weight) (defScope s_weight) .none kV_weight dc_weight pm_weight an_weight cd_weight ct_weight), f_bound_by, (PySem.W.fnOf "bound_by" "bound_by" (defArgs s_bound_by) (defBody s_bound_by) (defScope s_bound_by) .none kV_bound_by dc_bound_by pm_bound_by an_bound_by cd_bound_by ct_bound_by), f_plan, (PySem.W.fnOf "plan" "plan" (defArgs s_plan) (defBody s_plan) (defScope s_plan) dV_plan kV_plan dc_plan pm_plan an_plan cd_plan ct_plan), e_plan, f_lightest, (PySem.W.fnOf "lightest" "lightest" (defArgs s_lightest) (defBody s_lightest) (defScope s_lightest) .none kV_lightest dc_lightest pm_lightest an_lightest cd_lightest ct_lightest), f_next_parts, (PySem.W.fnOf "next_parts" "next_parts" (defArgs s_next_parts) (defBody s_next_parts) (defScope s_next_parts) .none kV_next_parts dc_next_parts pm_next_parts an_next_parts cd_next_parts ct_next_parts), f_binds, (PySem.W.fnOf "binds" "binds" (defArgs s_binds) (defBody s_binds) (defScope s_binds) .none kV_binds dc_binds pm_binds an_binds cd_binds ct_binds), f_bound_behind, (PySem.W.fnOf "bound_behind" "bound_behind" (defArgs s_bound_behind) (defBody s_bound_behind) (defScope s_bound_behind) .none kV_bound_behind dc_bound_behind pm_bound_behind an_bound_behind cd_bound_behind ct_bound_behind), f_is_plan, (PySem.W.fnOf "is_plan" "is_plan" (defArgs s_is_plan) (defBody s_is_plan) (defScope s_is_plan) dV_is_plan kV_is_plan dc_is_plan pm_is_plan an_is_plan cd_is_plan ct_is_plan), e_is_plan, f_all_plans, (PySem.W.fnOf "all_plans" "all_plans" (defArgs s_all_plans) (defBody s_all_plans) (defScope s_all_plans) dV_all_plans kV_all_plans dc_all_plans pm_all_plans an_all_plans cd_all_plans ct_all_plans), e_all_plans, f_l_flat, (PySem.W.fnOf "_law_flat" "_law_flat" (defArgs s_l_flat) (defBody s_l_flat) (defScope s_l_flat) .none kV_l_flat dc_l_flat pm_l_flat an_l_flat cd_l_flat ct_l_flat), f_l_dice, (PySem.W.fnOf "_law_dice" "_law_dice" (defArgs s_l_dice) (defBody s_l_dice) (defScope s_l_dice) .none kV_l_dice dc_l_dice pm_l_dice an_l_dice cd_l_dice ct_l_dice), f_l_roll, (PySem.W.fnOf "_law_roll" "_law_roll" (defArgs s_l_roll) (defBody s_l_roll) (defScope s_l_roll) .none kV_l_roll dc_l_roll pm_l_roll an_l_roll cd_l_roll ct_l_roll), f_l_rounds, (PySem.W.fnOf "_law_rounds" "_law_rounds" (defArgs s_l_rounds) (defBody s_l_rounds) (defScope s_l_rounds) .none kV_l_rounds dc_l_rounds pm_l_rounds an_l_rounds cd_l_rounds ct_l_rounds), f_l_told, (PySem.W.fnOf "_law_told" "_law_told" (defArgs s_l_told) (defBody s_l_told) (defScope s_l_told) .none kV_l_told dc_l_told pm_l_told an_l_told cd_l_told ct_l_told), f_l_part, (PySem.W.fnOf "_law_part" "_law_part" (defArgs s_l_part) (defBody s_l_part) (defScope s_l_part) .none kV_l_part dc_l_part pm_l_part an_l_part cd_l_part ct_l_part), f_l_names, (PySem.W.fnOf "_law_names" "_law_names" (defArgs s_l_names) (defBody s_l_names) (defScope s_l_names) .none kV_l_names dc_l_names pm_l_names an_l_names cd_l_names ct_l_names), f_l_ready, (PySem.W.fnOf "_law_ready" "_law_ready" (defArgs s_l_ready) (defBody s_l_ready) (defScope s_l_ready) .none kV_l_ready dc_l_ready pm_l_ready an_l_ready cd_l_ready ct_l_ready), f_l_gives, (PySem.W.fnOf "_law_gives" "_law_gives" (defArgs s_l_gives) (defBody s_l_gives) (defScope s_l_gives) .none kV_l_gives dc_l_gives pm_l_gives an_l_gives cd_l_gives ct_l_gives), f_l_weight, (PySem.W.fnOf "_law_weight" "_law_weight" (defArgs s_l_weight) (defBody s_l_weight) (defScope s_l_weight) .none kV_l_weight dc_l_weight pm_l_weight an_l_weight cd_l_weight ct_l_weight), f_l_planned, (PySem.W.fnOf "_law_planned" "_law_planned" (defArgs s_l_planned) (defBody s_l_planned) (defScope s_l_planned) .none kV_l_planned dc_l_planned pm_l_planned an_l_planned cd_l_planned ct_l_planned), f_law, (PySem.W.fnOf "law" "law" (defArgs s_law) (defBody s_law) (defScope s_law) .none kV_law dc_law pm_law an_law (.ref c_L) ct_law), C_Term, C_Literal, C_Rule, C_Plan⟩
  have F_Term_init : FunD K "__init__" "Term.__init__" (defArgs s_Term_init) (defBody s_Term_init) (defScope s_Term_init) [.non] [] A.f_Term_init A.d_Term_init := ⟨⟨_, _, _, _, _, _, _, _, _, _, rfl, l_Term_init, c_Term_init, v_Term_init, .inl rfl⟩, k_Term_init⟩
  have b_Term_init : Binds K A.d_Term_init ["self", "name", "value"] [] := by
    obtain ⟨ds, hv, hb⟩ := F_Term_init.binds1 (ps := ["self", "name", "value"]) 3 1 (List.cons_ne_nil _ _) rfl fun _ _ _ _ _ _ _ us its hl hi => match us, its, hl, hi with | [_, _, _], [_], _, _ => ⟨_, rfl, rfl⟩
    cases hv
    exact hb
  have bd_Term_init := F_Term_init.binds1 (ps := ["self", "name", "value"]) 2 0 (List.cons_ne_nil _ _) rfl fun _ _ _ _ _ _ _ us its hl hi => match us, its, hl, hi with | [_, _], [_], _, _ => ⟨_, rfl, rfl⟩
  have F_Term_is_variable := fun_mk (st := s_Term_is_variable) l_Term_is_variable c_Term_is_variable k_Term_is_variable
  have b_Term_is_variable := F_Term_is_variable.binds (ps := ["self"]) fun _ _ _ _ _ _ us hl => match us, hl with | [_], _ => rfl
  have F_Term_known := fun_mk (st := s_Term_known) l_Term_known c_Term_known k_Term_known
  have b_Term_known := F_Term_known.binds (ps := ["self", "bound"]) fun _ _ _ _ _ _ us hl => match us, hl with | [_, _], _ => rfl
  have F_var := fun_mk (st := s_var) l_var c_var k_var
  have b_var := F_var.binds (ps := ["name"]) fun _ _ _ _ _ _ us hl => match us, hl with | [_], _ => rfl
  have F_val := fun_mk (st := s_val) l_val c_val k_val
  have b_val := F_val.binds (ps := ["value"]) fun _ _ _ _ _ _ us hl => match us, hl with | [_], _ => rfl
  have F_names_in := fun_mk (st := s_names_in) l_names_in c_names_in k_names_in
  have b_names_in := F_names_in.binds (ps := ["terms"]) fun _ _ _ _ _ _ us hl => match us, hl with | [_], _ => rfl
  have F_Literal_init := fun_mk (st := s_Literal_init) l_Literal_init c_Literal_init k_Literal_init
  have b_Literal_init := F_Literal_init.binds (ps := ["self", "kind", "name", "terms"]) fun _ _ _ _ _ _ us hl => match us, hl with | [_, _, _, _], _ => rfl
  have F_Literal_names := fun_mk (st := s_Literal_names) l_Literal_names c_Literal_names k_Literal_names
  have b_Literal_names := F_Literal_names.binds (ps := ["self"]) fun _ _ _ _ _ _ us hl => match us, hl with | [_], _ => rfl
  have F_Rule_init : FunD K "__init__" "Rule.__init__" (defArgs s_Rule_init) (defBody s_Rule_init) (defScope s_Rule_init) [.non] [] A.f_Rule_init A.d_Rule_init := ⟨⟨_, _, _, _, _, _, _, _, _, _, rfl, l_Rule_init, c_Rule_init, v_Rule_init, .inl rfl⟩, k_Rule_init⟩
  have b_Rule_init : Binds K A.d_Rule_init ["self", "name", "terms", "body", "summed"] [] := by
    obtain ⟨ds, hv, hb⟩ := F_Rule_init.binds1 (ps := ["self", "name", "terms", "body", "summed"]) 5 1 (List.cons_ne_nil _ _) rfl fun _ _ _ _ _ _ _ us its hl hi => match us, its, hl, hi with | [_, _, _, _, _], [_], _, _ => ⟨_, rfl, rfl⟩
    cases hv
    exact hb
  have bd_Rule_init := F_Rule_init.binds1 (ps := ["self", "name", "terms", "body", "summed"]) 4 0 (List.cons_ne_nil _ _) rfl fun _ _ _ _ _ _ _ us its hl hi => match us, its, hl, hi with | [_, _, _, _], [_], _, _ => ⟨_, rfl, rfl⟩
  have F_how_often := fun_mk (st := s_how_often) l_how_often c_how_often k_how_often
  have b_how_often := F_how_often.binds (ps := ["rows"]) fun _ _ _ _ _ _ us hl => match us, hl with | [_], _ => rfl
  have F_needs := fun_mk (st := s_needs) l_needs c_needs k_needs
  have b_needs := F_needs.binds (ps := ["rule", "number"]) fun _ _ _ _ _ _ us hl => match us, hl with | [_, _], _ => rfl
  have F_gives := fun_mk (st := s_gives) l_gives c_gives k_gives
  have b_gives := F_gives.binds (ps := ["rule", "number"]) fun _ _ _ _ _ _ us hl => match us, hl with | [_, _], _ => rfl
  have F_shared := fun_mk (st := s_shared) l_shared c_shared k_shared
  have b_shared := F_shared.binds (ps := ["rule", "number", "name"]) fun _ _ _ _ _ _ us hl => match us, hl with | [_, _, _], _ => rfl
  have F_ready := fun_mk (st := s_ready) l_ready c_ready k_ready
  have b_ready := F_ready.binds (ps := ["rule", "number", "bound"]) fun _ _ _ _ _ _ us hl => match us, hl with | [_, _, _], _ => rfl
  have F_Plan_init := fun_mk (st := s_Plan_init) l_Plan_init c_Plan_init k_Plan_init
  have b_Plan_init := F_Plan_init.binds (ps := ["self", "rule", "order", "given"]) fun _ _ _ _ _ _ us hl => match us, hl with | [_, _, _, _], _ => rfl
  have F_Plan_bound_at := fun_mk (st := s_Plan_bound_at) l_Plan_bound_at c_Plan_bound_at k_Plan_bound_at
  have b_Plan_bound_at := F_Plan_bound_at.binds (ps := ["self", "step"]) fun _ _ _ _ _ _ us hl => match us, hl with | [_, _], _ => rfl
  have F_Plan_known_places := fun_mk (st := s_Plan_known_places) l_Plan_known_places c_Plan_known_places k_Plan_known_places
  have b_Plan_known_places := F_Plan_known_places.binds (ps := ["self", "step"]) fun _ _ _ _ _ _ us hl => match us, hl with | [_, _], _ => rfl
  have F_Plan_shown := fun_mk (st := s_Plan_shown) l_Plan_shown c_Plan_shown k_Plan_shown
  have b_Plan_shown := F_Plan_shown.binds (ps := ["self"]) fun _ _ _ _ _ _ us hl => match us, hl with | [_], _ => rfl
  have F_known_at := fun_mk (st := s_known_at) l_known_at c_known_at k_known_at
  have b_known_at := F_known_at.binds (ps := ["rule", "number", "bound"]) fun _ _ _ _ _ _ us hl => match us, hl with | [_, _, _], _ => rfl
  have F_weight := fun_mk (st := s_weight) l_weight c_weight k_weight
  have b_weight := F_weight.binds (ps := ["rule", "number", "bound", "sizes"]) fun _ _ _ _ _ _ us hl => match us, hl with | [_, _, _, _], _ => rfl
  have F_bound_by := fun_mk (st := s_bound_by) l_bound_by c_bound_by k_bound_by
  have b_bound_by := F_bound_by.binds (ps := ["given", "taken"]) fun _ _ _ _ _ _ us hl => match us, hl with | [_, _], _ => rfl
  have F_plan : FunD K "plan" "plan" (defArgs s_plan) (defBody s_plan) (defScope s_plan) [.non, (.ref A.e_plan)] [] A.f_plan A.d_plan := ⟨⟨_, _, _, _, _, _, _, _, _, _, rfl, l_plan, c_plan, v_plan, .inl rfl⟩, k_plan⟩
  have b_plan : Binds K A.d_plan ["rule", "sizes", "first", "given"] [] := by
    obtain ⟨ds, hv, hb⟩ := F_plan.binds1 (ps := ["rule", "sizes", "first", "given"]) 4 2 (List.cons_ne_nil _ _) rfl fun _ _ _ _ _ _ _ us its hl hi => match us, its, hl, hi with | [_, _, _, _], [_, _], _, _ => ⟨_, rfl, rfl⟩
    cases hv
    exact hb
  have bd_plan := F_plan.binds1 (ps := ["rule", "sizes", "first", "given"]) 2 0 (List.cons_ne_nil _ _) rfl fun _ _ _ _ _ _ _ us its hl hi => match us, its, hl, hi with | [_, _], [_, _], _, _ => ⟨_, rfl, rfl⟩
  have F_lightest := fun_mk (st := s_lightest) l_lightest c_lightest k_lightest
  have b_lightest := F_lightest.binds (ps := ["rule", "order", "bound", "sizes"]) fun _ _ _ _ _ _ us hl => match us, hl with | [_, _, _, _], _ => rfl
  have F_next_parts := fun_mk (st := s_next_parts) l_next_parts c_next_parts k_next_parts
  have b_next_parts := F_next_parts.binds (ps := ["rule", "order", "bound"]) fun _ _ _ _ _ _ us hl => match us, hl with | [_, _, _], _ => rfl
  have F_binds := fun_mk (st := s_binds) l_binds c_binds k_binds
  have b_binds := F_binds.binds (ps := ["rule", "number"]) fun _ _ _ _ _ _ us hl => match us, hl with | [_, _], _ => rfl
  have F_bound_behind := fun_mk (st := s_bound_behind) l_bound_behind c_bound_behind k_bound_behind
  have b_bound_behind := F_bound_behind.binds (ps := ["rule", "order", "given"]) fun _ _ _ _ _ _ us hl => match us, hl with | [_, _, _], _ => rfl
  have F_is_plan : FunD K "is_plan" "is_plan" (defArgs s_is_plan) (defBody s_is_plan) (defScope s_is_plan) [(.ref A.e_is_plan)] [] A.f_is_plan A.d_is_plan := ⟨⟨_, _, _, _, _, _, _, _, _, _, rfl, l_is_plan, c_is_plan, v_is_plan, .inl rfl⟩, k_is_plan⟩
  have b_is_plan : Binds K A.d_is_plan ["rule", "order", "given"] [] := by
    obtain ⟨ds, hv, hb⟩ := F_is_plan.binds1 (ps := ["rule", "order", "given"]) 3 1 (List.cons_ne_nil _ _) rfl fun _ _ _ _ _ _ _ us its hl hi => match us, its, hl, hi with | [_, _, _], [_], _, _ => ⟨_, rfl, rfl⟩
    cases hv
    exact hb
  have bd_is_plan := F_is_plan.binds1 (ps := ["rule", "order", "given"]) 2 0 (List.cons_ne_nil _ _) rfl fun _ _ _ _ _ _ _ us its hl hi => match us, its, hl, hi with | [_, _], [_], _, _ => ⟨_, rfl, rfl⟩
  have F_all_plans : FunD K "all_plans" "all_plans" (defArgs s_all_plans) (defBody s_all_plans) (defScope s_all_plans) [(.ref A.e_all_plans)] [] A.f_all_plans A.d_all_plans := ⟨⟨_, _, _, _, _, _, _, _, _, _, rfl, l_all_plans, c_all_plans, v_all_plans, .inl rfl⟩, k_all_plans⟩
  have b_all_plans : Binds K A.d_all_plans ["rule", "given"] [] := by
    obtain ⟨ds, hv, hb⟩ := F_all_plans.binds1 (ps := ["rule", "given"]) 2 1 (List.cons_ne_nil _ _) rfl fun _ _ _ _ _ _ _ us its hl hi => match us, its, hl, hi with | [_, _], [_], _, _ => ⟨_, rfl, rfl⟩
    cases hv
    exact hb
  have bd_all_plans := F_all_plans.binds1 (ps := ["rule", "given"]) 1 0 (List.cons_ne_nil _ _) rfl fun _ _ _ _ _ _ _ us its hl hi => match us, its, hl, hi with | [_], [_], _, _ => ⟨_, rfl, rfl⟩
  have F_l_flat := fun_mk (st := s_l_flat) l_l_flat c_l_flat k_l_flat
  have b_l_flat := F_l_flat.binds (ps := ["_law_rows"]) fun _ _ _ _ _ _ us hl => match us, hl with | [_], _ => rfl
  have F_l_dice := fun_mk (st := s_l_dice) l_l_dice c_l_dice k_l_dice
  have b_l_dice := F_l_dice.binds (ps := ["_law_cell"]) fun _ _ _ _ _ _ us hl => match us, hl with | [_], _ => rfl
  have F_l_roll := fun_mk (st := s_l_roll) l_l_roll c_l_roll k_l_roll
  have b_l_roll := F_l_roll.binds (ps := ["_law_dice_here", "_law_many"]) fun _ _ _ _ _ _ us hl => match us, hl with | [_, _], _ => rfl
  have F_l_rounds := fun_mk (st := s_l_rounds) l_l_rounds c_l_rounds k_l_rounds
  have b_l_rounds := F_l_rounds.binds (ps := ["_law_script", "_law_most"]) fun _ _ _ _ _ _ us hl => match us, hl with | [_, _], _ => rfl
  have F_l_told := fun_mk (st := s_l_told) l_l_told c_l_told k_l_told
  have b_l_told := F_l_told.binds (ps := ["_law_what"]) fun _ _ _ _ _ _ us hl => match us, hl with | [_], _ => rfl
  have F_l_part := fun_mk (st := s_l_part) l_l_part c_l_part k_l_part
  have b_l_part := F_l_part.binds (ps := ["_law_dice_here"]) fun _ _ _ _ _ _ us hl => match us, hl with | [_], _ => rfl
  have F_l_names := fun_mk (st := s_l_names) l_l_names c_l_names k_l_names
  have b_l_names := F_l_names.binds (ps := ["_law_terms"]) fun _ _ _ _ _ _ us hl => match us, hl with | [_], _ => rfl
  have F_l_ready := fun_mk (st := s_l_ready) l_l_ready c_l_ready k_l_ready
  have b_l_ready := F_l_ready.binds (ps := ["_law_parts", "_law_j", "_law_bound"]) fun _ _ _ _ _ _ us hl => match us, hl with | [_, _, _], _ => rfl
  have F_l_gives := fun_mk (st := s_l_gives) l_l_gives c_l_gives k_l_gives
  have b_l_gives := F_l_gives.binds (ps := ["_law_part_here"]) fun _ _ _ _ _ _ us hl => match us, hl with | [_], _ => rfl
  have F_l_weight := fun_mk (st := s_l_weight) l_l_weight c_l_weight k_l_weight
  have b_l_weight := F_l_weight.binds (ps := ["_law_parts", "_law_j", "_law_bound", "_law_sizes"]) fun _ _ _ _ _ _ us hl => match us, hl with | [_, _, _, _], _ => rfl
  have F_l_planned := fun_mk (st := s_l_planned) l_l_planned c_l_planned k_l_planned
  have b_l_planned := F_l_planned.binds (ps := ["_law_parts", "_law_given", "_law_sizes"]) fun _ _ _ _ _ _ us hl => match us, hl with | [_, _, _], _ => rfl
  have F_law := fun_mk (st := s_law) l_law c_law k_law
  have b_law := F_law.binds (ps := ["_law_script"]) fun _ _ _ _ _ _ us hl => match us, hl with | [_], _ => rfl
  have T : Txt K mg A := {
    F_Term_init := F_Term_init,
    b_Term_init := b_Term_init,
    bd_Term_init := bd_Term_init,
    F_Term_is_variable := F_Term_is_variable,
    b_Term_is_variable := b_Term_is_variable,
    e_Term_is_variable := ⟨a_Term_is_variable, i_Term_is_variable, k_Term_is_variable⟩,
    F_Term_known := F_Term_known,
    b_Term_known := b_Term_known,
    e_Term_known := ⟨a_Term_known, i_Term_known, k_Term_known⟩,
    F_var := F_var,
    b_var := b_var,
    m_var := PySem.W.mg_of X G a_var,
    F_val := F_val,
    b_val := b_val,
    m_val := PySem.W.mg_of X G a_val,
    F_names_in := F_names_in,
    b_names_in := b_names_in,
    m_names_in := PySem.W.mg_of X G a_names_in,
    F_Literal_init := F_Literal_init,
    b_Literal_init := b_Literal_init,
    F_Literal_names := F_Literal_names,
    b_Literal_names := b_Literal_names,
    e_Literal_names := ⟨a_Literal_names, i_Literal_names, k_Literal_names⟩,
    F_Rule_init := F_Rule_init,
    b_Rule_init := b_Rule_init,
    bd_Rule_init := bd_Rule_init,
    F_how_often := F_how_often,
    b_how_often := b_how_often,
    m_how_often := PySem.W.mg_of X G a_how_often,
    F_needs := F_needs,
    b_needs := b_needs,
    m_needs := PySem.W.mg_of X G a_needs,
    F_gives := F_gives,
    b_gives := b_gives,
    m_gives := PySem.W.mg_of X G a_gives,
    F_shared := F_shared,
    b_shared := b_shared,
    m_shared := PySem.W.mg_of X G a_shared,
    F_ready := F_ready,
    b_ready := b_ready,
    m_ready := PySem.W.mg_of X G a_ready,
    F_Plan_init := F_Plan_init,
    b_Plan_init := b_Plan_init,
    F_Plan_bound_at := F_Plan_bound_at,
    b_Plan_bound_at := b_Plan_bound_at,
    e_Plan_bound_at := ⟨a_Plan_bound_at, i_Plan_bound_at, k_Plan_bound_at⟩,
    F_Plan_known_places := F_Plan_known_places,
    b_Plan_known_places := b_Plan_known_places,
    e_Plan_known_places := ⟨a_Plan_known_places, i_Plan_known_places, k_Plan_known_places⟩,
    F_Plan_shown := F_Plan_shown,
    b_Plan_shown := b_Plan_shown,
    e_Plan_shown := ⟨a_Plan_shown, i_Plan_shown, k_Plan_shown⟩,
    F_known_at := F_known_at,
    b_known_at := b_known_at,
    m_known_at := PySem.W.mg_of X G a_known_at,
    F_weight := F_weight,
    b_weight := b_weight,
    m_weight := PySem.W.mg_of X G a_weight,
    F_bound_by := F_bound_by,
    b_bound_by := b_bound_by,
    m_bound_by := PySem.W.mg_of X G a_bound_by,
    F_plan := F_plan,
    b_plan := b_plan,
    sq_plan := fun H => .inr ⟨_, _, _, le_plan, rfl, rfl, Nat.zero_le _, .nil⟩,
    bd_plan := bd_plan,
    m_plan := PySem.W.mg_of X G a_plan,
    F_lightest := F_lightest,
    b_lightest := b_lightest,
    m_lightest := PySem.W.mg_of X G a_lightest,
    F_next_parts := F_next_parts,
    b_next_parts := b_next_parts,
    m_next_parts := PySem.W.mg_of X G a_next_parts,
    F_binds := F_binds,
    b_binds := b_binds,
    m_binds := PySem.W.mg_of X G a_binds,
    F_bound_behind := F_bound_behind,
    b_bound_behind := b_bound_behind,
    m_bound_behind := PySem.W.mg_of X G a_bound_behind,
    F_is_plan := F_is_plan,
    b_is_plan := b_is_plan,
    sq_is_plan := fun H => .inr ⟨_, _, _, le_is_plan, rfl, rfl, Nat.zero_le _, .nil⟩,
    bd_is_plan := bd_is_plan,
    m_is_plan := PySem.W.mg_of X G a_is_plan,
    F_all_plans := F_all_plans,
    b_all_plans := b_all_plans,
    sq_all_plans := fun H => .inr ⟨_, _, _, le_all_plans, rfl, rfl, Nat.zero_le _, .nil⟩,
    bd_all_plans := bd_all_plans,
    m_all_plans := PySem.W.mg_of X G a_all_plans,
    F_l_flat := F_l_flat,
    b_l_flat := b_l_flat,
    m_l_flat := PySem.W.mg_of X G a_l_flat,
    F_l_dice := F_l_dice,
    b_l_dice := b_l_dice,
    m_l_dice := PySem.W.mg_of X G a_l_dice,
    F_l_roll := F_l_roll,
    b_l_roll := b_l_roll,
    m_l_roll := PySem.W.mg_of X G a_l_roll,
    F_l_rounds := F_l_rounds,
    b_l_rounds := b_l_rounds,
    m_l_rounds := PySem.W.mg_of X G a_l_rounds,
    F_l_told := F_l_told,
    b_l_told := b_l_told,
    m_l_told := PySem.W.mg_of X G a_l_told,
    F_l_part := F_l_part,
    b_l_part := b_l_part,
    m_l_part := PySem.W.mg_of X G a_l_part,
    F_l_names := F_l_names,
    b_l_names := b_l_names,
    m_l_names := PySem.W.mg_of X G a_l_names,
    F_l_ready := F_l_ready,
    b_l_ready := b_l_ready,
    m_l_ready := PySem.W.mg_of X G a_l_ready,
    F_l_gives := F_l_gives,
    b_l_gives := b_l_gives,
    m_l_gives := PySem.W.mg_of X G a_l_gives,
    F_l_weight := F_l_weight,
    b_l_weight := b_l_weight,
    m_l_weight := PySem.W.mg_of X G a_l_weight,
    F_l_planned := F_l_planned,
    b_l_planned := b_l_planned,
    m_l_planned := PySem.W.mg_of X G a_l_planned,
    F_law := F_law,
    b_law := b_law,
    m_law := PySem.W.mg_of X G a_law,
    m_Term := PySem.W.mg_of X G aC_Term,
    cl_Term := ⟨pg_Term, hd_Term, po_Term, sa_Term⟩,
    M_Term := ⟨mk_Term, a_Term_init, i_Term_init, kc_Term⟩,
    n_Term_name := n_Term_name,
    n_Term_value := n_Term_value,
    m_Literal := PySem.W.mg_of X G aC_Literal,
    cl_Literal := ⟨pg_Literal, hd_Literal, po_Literal, sa_Literal⟩,
    M_Literal := ⟨mk_Literal, a_Literal_init, i_Literal_init, kc_Literal⟩,
    n_Literal_kind := n_Literal_kind,
    n_Literal_name := n_Literal_name,
    n_Literal_terms := n_Literal_terms,
    n_Literal_own := n_Literal_own,
    m_Rule := PySem.W.mg_of X G aC_Rule,
    cl_Rule := ⟨pg_Rule, hd_Rule, po_Rule, sa_Rule⟩,
    M_Rule := ⟨mk_Rule, a_Rule_init, i_Rule_init, kc_Rule⟩,
    n_Rule_name := n_Rule_name,
    n_Rule_terms := n_Rule_terms,
    n_Rule_body := n_Rule_body,
    n_Rule_summed := n_Rule_summed,
    n_Rule_stands := n_Rule_stands,
    m_Plan := PySem.W.mg_of X G aC_Plan,
    cl_Plan := ⟨pg_Plan, hd_Plan, po_Plan, sa_Plan⟩,
    M_Plan := ⟨mk_Plan, a_Plan_init, i_Plan_init, kc_Plan⟩,
    n_Plan_rule := n_Plan_rule,
    n_Plan_order := n_Plan_order,
    n_Plan_given := n_Plan_given,
    n_Plan_told_first := n_Plan_told_first,
    q_BadSign := PySem.W.mg_of X G q_BadSign,
    q_BadRule := PySem.W.mg_of X G q_BadRule,
    q_BadKind := PySem.W.mg_of X G q_BadKind,
    q_BadLayer := PySem.W.mg_of X G q_BadLayer,
    q_NoSuch := PySem.W.mg_of X G q_NoSuch,
    q_BadDeed := PySem.W.mg_of X G q_BadDeed,
    q_BadGround := PySem.W.mg_of X G q_BadGround,
    q_BadStore := PySem.W.mg_of X G q_BadStore,
    q_Broken := PySem.W.mg_of X G q_Broken,
    q_BadSize := PySem.W.mg_of X G q_BadSize,
    x_BadRule := x_BadRule,
    k_BadRule := k_BadRule,
    sb_BadRule := sb_BadRule,
    ty_BadRule := ty_BadRule,
    m_BadRule_BadSign := m_BadRule_BadSign,
    m_BadRule_BadRule := m_BadRule_BadRule,
    C_law := ⟨⟨_, _, _, _, _, _, _, _, rfl, l_law, c_law⟩⟩,
    H_law := h_law,
    z_abs := PySem.W.mg_none_of X G z_abs,
    z_all := PySem.W.mg_none_of X G z_all,
    z_dict := PySem.W.mg_none_of X G z_dict,
    z_enumerate := PySem.W.mg_none_of X G z_enumerate,
    z_int := PySem.W.mg_none_of X G z_int,
    z_isinstance := PySem.W.mg_none_of X G z_isinstance,
    z_len := PySem.W.mg_none_of X G z_len,
    z_list := PySem.W.mg_none_of X G z_list,
    z_min := PySem.W.mg_none_of X G z_min,
    z_range := PySem.W.mg_none_of X G z_range,
    z_sorted := PySem.W.mg_none_of X G z_sorted,
    z_str := PySem.W.mg_none_of X G z_str,
    z_tuple := PySem.W.mg_none_of X G z_tuple }
  refine ⟨A.d_law, [(c_L, P_L)], spLaw K A, fun p hp => ?_, fun p hp => ?_, fun p hp => ?_, fun s v => .of_eq rfl, fun H a ns hl _ hT hS => ⟨a, ns, rfl, hS, hl, hT _ List.mem_cons_self, fun _ => rfl⟩, fun base _ _ TB => ok_law T (TB _ List.mem_cons_self)⟩
  · cases List.mem_singleton.mp hp
    exact FunC.tab (T.C_law) h_law OT
  · cases List.mem_singleton.mp hp
    exact n_law
  · cases List.mem_singleton.mp hp
    exact PySem.W.codeHd_of_K X h_law
end Toy

open PySem PySem.W PyProof.Rows in
set_option maxRecDepth 100000 in
set_option maxHeartbeats 0 in
theorem PySem.Challenge.cw_deducehall_k11_plans_of_a_body_holds : PySem.Challenge.rw_deducehall_k11_plans_of_a_body.Holds := by
  w_on; o_law; k_head; (case hw => w_witness2)
  k_fill
  refine LamX.walk_ofOwn (l := PySem.Challenge.rw_deducehall_k11_plans_of_a_body) (n := 63) (k := 10) (x := "_law_script") (CX := fun _ => L2.CX0) rfl (by decide) rfl ⟨rfl, by decide, by decide⟩ rfl (fun w h Y => (by first | exact PySem.W.km_in_of Y | exact PySem.W.kIn_of Y)) ?F fun _ _ _ _ _ z => z
  case F =>
    intro w mg fa h Y KX G hmg OT
    refine' Toy.all_mk (P_L := 539) KX G hmg OT ?aC_Term ?pg_Term ?hd_Term ?po_Term ?sa_Term ?mk_Term ?kc_Term ?n_Term_name ?n_Term_value ?aC_Literal ?pg_Literal ?hd_Literal ?po_Literal ?sa_Literal ?mk_Literal ?kc_Literal ?n_Literal_kind ?n_Literal_name ?n_Literal_terms ?n_Literal_own ?aC_Rule ?pg_Rule ?hd_Rule ?po_Rule ?sa_Rule ?mk_Rule ?kc_Rule ?n_Rule_name ?n_Rule_terms ?n_Rule_body ?n_Rule_summed ?n_Rule_stands ?aC_Plan ?pg_Plan ?hd_Plan ?po_Plan ?sa_Plan ?mk_Plan ?kc_Plan ?n_Plan_rule ?n_Plan_order ?n_Plan_given ?n_Plan_told_first ?a_Term_init ?i_Term_init ?l_Term_init ?v_Term_init ?c_Term_init ?k_Term_init ?a_Term_is_variable ?i_Term_is_variable ?l_Term_is_variable ?c_Term_is_variable ?k_Term_is_variable ?a_Term_known ?i_Term_known ?l_Term_known ?c_Term_known ?k_Term_known ?a_var ?l_var ?c_var ?k_var ?a_val ?l_val ?c_val ?k_val ?a_names_in ?l_names_in ?c_names_in ?k_names_in ?a_Literal_init ?i_Literal_init ?l_Literal_init ?c_Literal_init ?k_Literal_init ?a_Literal_names ?i_Literal_names ?l_Literal_names ?c_Literal_names ?k_Literal_names ?a_Rule_init ?i_Rule_init ?l_Rule_init ?v_Rule_init ?c_Rule_init ?k_Rule_init ?a_how_often ?l_how_often ?c_how_often ?k_how_often ?a_needs ?l_needs ?c_needs ?k_needs ?a_gives ?l_gives ?c_gives ?k_gives ?a_shared ?l_shared ?c_shared ?k_shared ?a_ready ?l_ready ?c_ready ?k_ready ?a_Plan_init ?i_Plan_init ?l_Plan_init ?c_Plan_init ?k_Plan_init ?a_Plan_bound_at ?i_Plan_bound_at ?l_Plan_bound_at ?c_Plan_bound_at ?k_Plan_bound_at ?a_Plan_known_places ?i_Plan_known_places ?l_Plan_known_places ?c_Plan_known_places ?k_Plan_known_places ?a_Plan_shown ?i_Plan_shown ?l_Plan_shown ?c_Plan_shown ?k_Plan_shown ?a_known_at ?l_known_at ?c_known_at ?k_known_at ?a_weight ?l_weight ?c_weight ?k_weight ?a_bound_by ?l_bound_by ?c_bound_by ?k_bound_by ?a_plan ?l_plan ?v_plan ?le_plan ?c_plan ?k_plan ?a_lightest ?l_lightest ?c_lightest ?k_lightest ?a_next_parts ?l_next_parts ?c_next_parts ?k_next_parts ?a_binds ?l_binds ?c_binds ?k_binds ?a_bound_behind ?l_bound_behind ?c_bound_behind ?k_bound_behind ?a_is_plan ?l_is_plan ?v_is_plan ?le_is_plan ?c_is_plan ?k_is_plan ?a_all_plans ?l_all_plans ?v_all_plans ?le_all_plans ?c_all_plans ?k_all_plans ?a_l_flat ?l_l_flat ?c_l_flat ?k_l_flat ?a_l_dice ?l_l_dice ?c_l_dice ?k_l_dice ?a_l_roll ?l_l_roll ?c_l_roll ?k_l_roll ?a_l_rounds ?l_l_rounds ?c_l_rounds ?k_l_rounds ?a_l_told ?l_l_told ?c_l_told ?k_l_told ?a_l_part ?l_l_part ?c_l_part ?k_l_part ?a_l_names ?l_l_names ?c_l_names ?k_l_names ?a_l_ready ?l_l_ready ?c_l_ready ?k_l_ready ?a_l_gives ?l_l_gives ?c_l_gives ?k_l_gives ?a_l_weight ?l_l_weight ?c_l_weight ?k_l_weight ?a_l_planned ?l_l_planned ?c_l_planned ?k_l_planned ?a_law ?l_law ?c_law ?k_law ?z_abs ?z_all ?z_dict ?z_enumerate ?z_int ?z_isinstance ?z_len ?z_list ?z_min ?z_range ?z_sorted ?z_str ?z_tuple ?q_BadSign ?q_BadRule ?q_BadKind ?q_BadLayer ?q_NoSuch ?q_BadDeed ?q_BadGround ?q_BadStore ?q_Broken ?q_BadSize ?x_BadRule ?k_BadRule ?sb_BadRule ?ty_BadRule ?m_BadRule_BadSign ?m_BadRule_BadRule ?h_law ?n_law
    (case aC_Term => k_is)
    (case pg_Term => k_is)
    (case hd_Term => k_is)
    (case po_Term => k_is)
    (case sa_Term => k_is)
    (case mk_Term => k_is)
    (case kc_Term => k_is)
    (case n_Term_name => k_is)
    (case n_Term_value => k_is)
    (case aC_Literal => k_is)
    (case pg_Literal => k_is)
    (case hd_Literal => k_is)
    (case po_Literal => k_is)
    (case sa_Literal => k_is)
    (case mk_Literal => k_is)
    (case kc_Literal => k_is)
    (case n_Literal_kind => k_is)
    (case n_Literal_name => k_is)
    (case n_Literal_terms => k_is)
    (case n_Literal_own => k_is)
    (case aC_Rule => k_is)
    (case pg_Rule => k_is)
    (case hd_Rule => k_is)
    (case po_Rule => k_is)
    (case sa_Rule => k_is)
    (case mk_Rule => k_is)
    (case kc_Rule => k_is)
    (case n_Rule_name => k_is)
    (case n_Rule_terms => k_is)
    (case n_Rule_body => k_is)
    (case n_Rule_summed => k_is)
    (case n_Rule_stands => k_is)
    (case aC_Plan => k_is)
    (case pg_Plan => k_is)
    (case hd_Plan => k_is)
    (case po_Plan => k_is)
    (case sa_Plan => k_is)
    (case mk_Plan => k_is)
    (case kc_Plan => k_is)
    (case n_Plan_rule => k_is)
    (case n_Plan_order => k_is)
    (case n_Plan_given => k_is)
    (case n_Plan_told_first => k_is)
    (case a_Term_init => k_is)
    (case i_Term_init => k_is)
    (case l_Term_init => k_is)
    (case v_Term_init => exact .inr ⟨List.cons_ne_nil _ _, _, _, _, _, rfl, (by k_is), rfl, (.cons rfl .nil)⟩)
    (case c_Term_init => k_is)
    (case k_Term_init => k_is)
    (case a_Term_is_variable => k_is)
    (case i_Term_is_variable => k_is)
    (case l_Term_is_variable => k_is)
    (case c_Term_is_variable => k_is)
    (case k_Term_is_variable => k_is)
    (case a_Term_known => k_is)
    (case i_Term_known => k_is)
    (case l_Term_known => k_is)
    (case c_Term_known => k_is)
    (case k_Term_known => k_is)
    (case a_var => k_is)
    (case l_var => k_is)
    (case c_var => k_is)
    (case k_var => k_is)
    (case a_val => k_is)
    (case l_val => k_is)
    (case c_val => k_is)
    (case k_val => k_is)
    (case a_names_in => k_is)
    (case l_names_in => k_is)
    (case c_names_in => k_is)
    (case k_names_in => k_is)
    (case a_Literal_init => k_is)
    (case i_Literal_init => k_is)
    (case l_Literal_init => k_is)
    (case c_Literal_init => k_is)
    (case k_Literal_init => k_is)
    (case a_Literal_names => k_is)
    (case i_Literal_names => k_is)
    (case l_Literal_names => k_is)
    (case c_Literal_names => k_is)
    (case k_Literal_names => k_is)
    (case a_Rule_init => k_is)
    (case i_Rule_init => k_is)
    (case l_Rule_init => k_is)
    (case v_Rule_init => exact .inr ⟨List.cons_ne_nil _ _, _, _, _, _, rfl, (by k_is), rfl, (.cons rfl .nil)⟩)
    (case c_Rule_init => k_is)
    (case k_Rule_init => k_is)
    (case a_how_often => k_is)
    (case l_how_often => k_is)
    (case c_how_often => k_is)
    (case k_how_often => k_is)
    (case a_needs => k_is)
    (case l_needs => k_is)
    (case c_needs => k_is)
    (case k_needs => k_is)
    (case a_gives => k_is)
    (case l_gives => k_is)
    (case c_gives => k_is)
    (case k_gives => k_is)
    (case a_shared => k_is)
    (case l_shared => k_is)
    (case c_shared => k_is)
    (case k_shared => k_is)
    (case a_ready => k_is)
    (case l_ready => k_is)
    (case c_ready => k_is)
    (case k_ready => k_is)
    (case a_Plan_init => k_is)
    (case i_Plan_init => k_is)
    (case l_Plan_init => k_is)
    (case c_Plan_init => k_is)
    (case k_Plan_init => k_is)
    (case a_Plan_bound_at => k_is)
    (case i_Plan_bound_at => k_is)
    (case l_Plan_bound_at => k_is)
    (case c_Plan_bound_at => k_is)
    (case k_Plan_bound_at => k_is)
    (case a_Plan_known_places => k_is)
    (case i_Plan_known_places => k_is)
    (case l_Plan_known_places => k_is)
    (case c_Plan_known_places => k_is)
    (case k_Plan_known_places => k_is)
    (case a_Plan_shown => k_is)
    (case i_Plan_shown => k_is)
    (case l_Plan_shown => k_is)
    (case c_Plan_shown => k_is)
    (case k_Plan_shown => k_is)
    (case a_known_at => k_is)
    (case l_known_at => k_is)
    (case c_known_at => k_is)
    (case k_known_at => k_is)
    (case a_weight => k_is)
    (case l_weight => k_is)
    (case c_weight => k_is)
    (case k_weight => k_is)
    (case a_bound_by => k_is)
    (case l_bound_by => k_is)
    (case c_bound_by => k_is)
    (case k_bound_by => k_is)
    (case a_plan => k_is)
    (case l_plan => k_is)
    (case v_plan => exact .inr ⟨List.cons_ne_nil _ _, _, _, _, _, rfl, (by k_is), rfl, (.cons rfl (.cons rfl .nil))⟩)
    (case le_plan => k_is)
    (case c_plan => k_is)
    (case k_plan => k_is)
    (case a_lightest => k_is)
    (case l_lightest => k_is)
    (case c_lightest => k_is)
    (case k_lightest => k_is)
    (case a_next_parts => k_is)
    (case l_next_parts => k_is)
    (case c_next_parts => k_is)
    (case k_next_parts => k_is)
    (case a_binds => k_is)
    (case l_binds => k_is)
    (case c_binds => k_is)
    (case k_binds => k_is)
    (case a_bound_behind => k_is)
    (case l_bound_behind => k_is)
    (case c_bound_behind => k_is)
    (case k_bound_behind => k_is)
    (case a_is_plan => k_is)
    (case l_is_plan => k_is)
    (case v_is_plan => exact .inr ⟨List.cons_ne_nil _ _, _, _, _, _, rfl, (by k_is), rfl, (.cons rfl .nil)⟩)
    (case le_is_plan => k_is)
    (case c_is_plan => k_is)
    (case k_is_plan => k_is)
    (case a_all_plans => k_is)
    (case l_all_plans => k_is)
    (case v_all_plans => exact .inr ⟨List.cons_ne_nil _ _, _, _, _, _, rfl, (by k_is), rfl, (.cons rfl .nil)⟩)
    (case le_all_plans => k_is)
    (case c_all_plans => k_is)
    (case k_all_plans => k_is)
    (case a_l_flat => k_is)
    (case l_l_flat => k_is)
    (case c_l_flat => k_is)
    (case k_l_flat => k_is)
    (case a_l_dice => k_is)
    (case l_l_dice => k_is)
    (case c_l_dice => k_is)
    (case k_l_dice => k_is)
    (case a_l_roll => k_is)
    (case l_l_roll => k_is)
    (case c_l_roll => k_is)
    (case k_l_roll => k_is)
    (case a_l_rounds => k_is)
    (case l_l_rounds => k_is)
    (case c_l_rounds => k_is)
    (case k_l_rounds => k_is)
    (case a_l_told => k_is)
    (case l_l_told => k_is)
    (case c_l_told => k_is)
    (case k_l_told => k_is)
    (case a_l_part => k_is)
    (case l_l_part => k_is)
    (case c_l_part => k_is)
    (case k_l_part => k_is)
    (case a_l_names => k_is)
    (case l_l_names => k_is)
    (case c_l_names => k_is)
    (case k_l_names => k_is)
    (case a_l_ready => k_is)
    (case l_l_ready => k_is)
    (case c_l_ready => k_is)
    (case k_l_ready => k_is)
    (case a_l_gives => k_is)
    (case l_l_gives => k_is)
    (case c_l_gives => k_is)
    (case k_l_gives => k_is)
    (case a_l_weight => k_is)
    (case l_l_weight => k_is)
    (case c_l_weight => k_is)
    (case k_l_weight => k_is)
    (case a_l_planned => k_is)
    (case l_l_planned => k_is)
    (case c_l_planned => k_is)
    (case k_l_planned => k_is)
    (case a_law => k_is)
    (case l_law => k_is)
    (case c_law => k_is)
    (case k_law => k_is)
    (case z_abs => k_is)
    (case z_all => k_is)
    (case z_dict => k_is)
    (case z_enumerate => k_is)
    (case z_int => k_is)
    (case z_isinstance => k_is)
    (case z_len => k_is)
    (case z_list => k_is)
    (case z_min => k_is)
    (case z_range => k_is)
    (case z_sorted => k_is)
    (case z_str => k_is)
    (case z_tuple => k_is)
    (case q_BadSign => k_is)
    (case q_BadRule => k_is)
    (case q_BadKind => k_is)
    (case q_BadLayer => k_is)
    (case q_NoSuch => k_is)
    (case q_BadDeed => k_is)
    (case q_BadGround => k_is)
    (case q_BadStore => k_is)
    (case q_Broken => k_is)
    (case q_BadSize => k_is)
    (case x_BadRule => k_exc)
    (case k_BadRule => k_is)
    (case sb_BadRule => k_is)
    (case ty_BadRule => k_is)
    (case m_BadRule_BadSign => exact PySem.W.exm_ref (by k_is) (by k_is) (by k_is) (by k_is))
    (case m_BadRule_BadRule => exact PySem.W.exm_ref (by k_is) (by k_is) (by k_is) (by k_is))
    (case h_law => first | kernel_rfl | rfl)
    (case n_law => first | kernel_rfl | rfl)

