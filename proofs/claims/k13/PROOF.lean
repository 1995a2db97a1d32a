import PyProof.Rows.All
import Wide.All
import OpenK.AllK
import Wide.FinOn
import PyProof.EqAt
import PyProof.EqKinds
import PyProof.TupleCall
import PyProof.TupleOfSeq
import KE.KLam
import KE.KDictSum
import HandS.ForMost
import HandS.Defaults
import HandS.Deep
import HandS.Codes
import HandS.Zip
import HandS.Conv
import HandS.Exc
import HandS.ForExc
import HandS.TryOnly
import HandS.TryMany
import HandS.Lambda
import HandS.EndOwn
import HandS.RaiseMore
import HandS.FStr
import HandS.IsInst
import HandS.TupAny
import KE.GoesMore
import HandS.Iter
import HandS.WordsExc
import HandS.WordsList
import HandS.DictComp
import HandS.SetKeys
import KE.DataCmp
import KE.KEqNest
import HandS.Text
import HandS.More
import HandS.Wide
import HandS.Walk
import PySem.Challenge.RW_deducehall_k13_values_held_and_reckoned
set_option Elab.async false
set_option linter.all false
set_option maxRecDepth 100000
set_option maxHeartbeats 4000000
/-! ## own rules: tuple of a dict, extend by a tuple, sorted of a tuple of words -/
namespace L2
open PySem PySem.Spec PyProof.Rows
section
variable {prog : Program} {w : World} {A : Around} {E : Value → Shared → Prop} {s : Shared} {d : Addr} {n : Nat} {P : Nat → Value → Prop} {OK : Heap → Prop}
theorem code_tuple_new_src {Q₁ : Value → Shared → Prop} (K : PySem.W.KdlSrc prog w "dict" d d n P OK) (hh : A.handled = none) (hok : OK s.heap) (hn : n ≤ sizeLine)
    (h : ∀ (h' : Heap) (tk : Nat) (acc : Array Value), (∀ b o, s.heap.get? b = some o → h'.get? b = some o) → ItemsOf P acc n →
      Q₁ (.ref h'.objs.size) { s with heap := h'.push { cls := .type "tuple", data := .seq acc }, toks := tk }) :
    codeAny (model prog w) A (.call (.builtin "tuple.__new__") ⟨[.type "tuple", .ref d], []⟩) (wants Q₁ E) s := by
  refine codeAny_of_tree ?_
  show wpAny _ A.in1 (do checkBuiltinCall "tuple.__new__" ⟨[.type "tuple", .ref d], []⟩; again (.builtin "tuple.__new__" ⟨[.type "tuple", .ref d], []⟩)) _ _ s
  refine wpAny_bind (wpAny_of_eq (F.newCall_tuple_1 _) (wpAny_pure ⟨plainId_quiet F.plain_tuple_new _, codeAny_builtin F.entry_tuple_new ?_⟩))
  rw [Around.under_plainId F.plain_tuple_new _]
  have hsub := sub_tuple_self
  have hinit := init_tuple_lookup
  have hmh := madeHere_tuple
  have hTI : s.TypeIs (.ref d) "dict" := K.type s hok
  have hh1 : A.in1.handled = none := hh
  wp_walk using wpAny_typeOf hTI, PySem.W.kdu_collect (A := A.in1) K hh1 hok hn
  intro h' tk acc hk hacc
  show wpAny _ _ (Builtin.Tuple.tupleExact acc.toList.toArray >>= fun v => ret v) _ _ _
  unfold Builtin.Tuple.tupleExact
  refine wpAny_bind (wpAny_newObj_type ?_ (by show acc.toList.toArray.size ≤ sizeLine; simp only [Array.toArray_toList]; rw [hacc.1]; exact hn))
  refine wpAny_pure ?_
  have e : acc.toList.toArray = acc := by simp
  rw [e]
  exact h h' tk acc hk hacc
theorem call_tuple_src {Q : Value → Shared → Prop} (K : PySem.W.KdlSrc prog w "dict" d d n P OK) (hh : A.handled = none) (hok : OK s.heap) (hn : n ≤ sizeLine)
    (hQ : ∀ (h' : Heap) (tk : Nat) (acc : Array Value), (∀ b o, s.heap.get? b = some o → h'.get? b = some o) → ItemsOf P acc n →
      Q (.ref h'.objs.size) { s with heap := h'.push { cls := .type "tuple", data := .seq acc }, toks := tk }) :
    wpAny (model prog w) A (call (.type "tuple") [.ref d]) Q E s := by
  refine callType_codes (Q₁ := fun obj s₁ => s₁.TypeIs obj "tuple" ∧ Q obj s₁) F.called_tuple (F.typeCall_tuple_1 _) F.entry_object_init
    (code_tuple_new_src (A := A.in1) K hh hok hn fun h' tk acc hk hacc => ⟨⟨_, Heap.get?_push_size _ rfl, rfl⟩, hQ h' tk acc hk hacc⟩) fun obj s₁ h₁ => ?_
  exact ⟨h₁.1, F.args_object_init_2 obj _, object_init_meets F.called_tuple.init.lookup F.called_tuple.made (by decide) prog w A.in1 _ s₁ ⟨h₁.1, rfl, h₁.2⟩⟩
end
/-- tuple(d), d a dict of ints and words -/
def rTupD : List V → Hp → VK → Prop := fun xs H Q => ∃ p kvs, xs = [.ref p] ∧ H p = some (.dK kvs) ∧ ∀ q, H q = none → Q (.ref q) (upd H q (.tup (kvs.map fun kv => kV kv.1)))
theorem call_tuple_dK {X : Cx} (hc : X.calm = true := by rfl) : CallR X (.type "tuple") rTupD := by
  intro pins s σ H xs us Q I r h
  obtain ⟨p, kvs, e, hk, q⟩ := h
  subst e
  obtain ⟨u, eu, rx⟩ := vals1 r
  subst eu
  obtain rfl : u = Value.ref p := rx
  obtain ⟨z, lo, vs, rk, hd⟩ := (show ObjOk X.prog X.w H s.heap p (.dK kvs) from I.hok p _ hk)
  obtain ⟨ep, hat⟩ := hd.dictAt
  have hl : kvs.length = vs.length := Paired.length rk
  refine call_tuple_src (PySem.W.kdl_dict (knd := mixKind X.prog X.w) (kvs := vs) (ep := ep) lo) (I.ok.hd hc) hat (by rw [← hl]; exact z) fun h' tk acc hkeep hacc => ?_
  have hv : Vals (kvs.map fun kv => kV kv.1) acc.toList := by
    have el : acc.toList.length = acc.size := by simp
    refine vals_of_at (by rw [List.length_map, el, hacc.1, hl]) fun j x w h1 h2 => ?_
    obtain ⟨k, y, hky, hi⟩ := hacc.2 j w (by rw [← Array.getElem?_toList]; exact h2)
    have e1 : (kvs.map (·.1))[j]? = some k := by
      rw [KV.keys rk, List.getElem?_map, hky] <;> rfl
    have e2 : (kvs.map fun kv => kV kv.1)[j]? = some (kV k) := by
      have e3 : (kvs.map fun kv => kV kv.1) = (kvs.map (·.1)).map kV := by rw [List.map_map] <;> rfl
      rw [e3, List.getElem?_map, e1] <;> rfl
    rw [e2] at h1
    cases h1
    exact keyIs_rel hi
  have I1 : Inv X pins σ H { s with heap := h', toks := tk } := I.kept hkeep
  have I2 : Inv X pins σ (upd H h'.objs.size (.tup (kvs.map fun kv => kV kv.1))) { s with heap := h'.push { cls := .type "tuple", data := .seq acc }, toks := tk } :=
    I1.laid (t' := tk) (fun b o e => Heap.get?_push_of_some _ e) (Nat.le_refl _) (show ObjOk X.prog X.w _ _ _ (.tup (kvs.map fun kv => kV kv.1)) from ⟨by rw [List.length_map]; exact z, acc.toList, hv, by rw [Array.toArray_toList]; exact IsTup.new _ _⟩)
  exact ⟨.ref h'.objs.size, _, I2, rfl, q _ (I1.hok.fresh (Nat.le_refl _))⟩
/-- l.extend(t), t a tuple -/
theorem list_extend_tupW (l : Addr) (items : Array Value) (n : Nat) (b : Addr) (items2 : Array Value) (n2 : Nat) (dd : Option Addr) (sl : Array (Option Value)) (hs0 : ¬(!items.isEmpty && Builtin.List.listTooLong (items.size + items2.size)) = true) (hs1 : items.size ≤ sizeLine) (hs2 : items.size + items2.size ≤ sizeLine + 1) :
    Meets (Builtin.«list.extend» ⟨[.ref l, .ref b], []⟩) (fun _ R s => s.heap.get? l = some { cls := .type "list", dict := none, data := .seq items n, slots := #[] } ∧ s.heap.get? b = some { cls := .type "tuple", dict := dd, data := .seq items2 n2, slots := sl } ∧ R (.ok (.ret Value.none)) { s with heap := s.heap.update l (Obj.mapSeq fun x => x ++ items2), toks := s.toks }) :=
  .of_wp fun prog w A R s h => by
    obtain ⟨hp, g, d, tk, os⟩ := s; obtain ⟨hl, hb, h⟩ := h; have f1 := AutoSeq1.idx_int; have f2 := AutoSeq1.sub_tuple_tuple; have f3 := AutoSeq1.sub_list_list; have f4 := AutoSeq1.sub_tuple_list; have f5 := AutoSeq1.sub_list_tuple;
    have hz' : (items ++ items2).size ≤ sizeLine + 1 := by rw [Array.size_append]; exact hs2
    wp_walk using (wpAny_updateSeq hl rfl (hz := hs1) (_hz' := hz')), AutoSeq1.wpAny_loadPart' hl, AutoSeq1.wpAny_loadPart' hb; exact ⟨_, rfl, h⟩
def rExtT (K : PySem.W.Frag) : V → List V → Hp → VK → Prop := fun x vs H Q => ∃ l b xs zs, x = .ref l ∧ vs = [.ref b] ∧ H l = some (.lst xs) ∧ SqT K H b zs ∧ xs.length + zs.length ≤ sizeLine ∧ Q .non (upd H l (.lst (xs ++ zs)))
theorem mt_extendT {X : Cx} (K : PySem.W.Frag) (hK : X.K = K := by rfl) : MtM X "list.extend" (rExtT K) := by
  subst hK
  intro pins s σ H x vs v us Q I rx rv h
  obtain ⟨l, b, xs, zs, rfl, rfl, hH, hB, hz, q⟩ := h
  cases rx
  obtain ⟨u, rfl, ru⟩ := rv.one
  cases ru
  obtain ⟨z, its, n, r, hl, e⟩ := I.lstM hH
  obtain ⟨its2, r2, ⟨⟨oc, od, dt, sl⟩, e2, c2, n2, d2⟩, hz2⟩ := I.tuple hB
  simp only at c2 d2
  subst c2 d2
  have hl2 := r2.length
  have hsz : its.toArray.size + its2.toArray.size ≤ sizeLine := by rw [List.size_toArray, List.size_toArray]; omega
  have hlong : ¬ (!its.toArray.isEmpty && Builtin.List.listTooLong (its.toArray.size + its2.toArray.size)) = true := by
    rw [notLongL hsz, Bool.and_false]
    exact Bool.false_ne_true
  refine call_meets PySem.F.slot_list_extend ⟨_, e, rfl⟩ PySem.F.entry_list_extend (PySem.F.args_list_extend_2 _ _)
    (list_extend_tupW l its.toArray n b its2.toArray n2 od sl hlong (by rw [List.size_toArray]; omega) (by omega)) ⟨e, e2, ?_⟩
  refine ⟨.non, _, I.lset (its' := its ++ its2) hH e (by simp) (r.append r2) ?_, rfl, q⟩
  rw [List.length_append]
  omega
/-! sorted(t), t a tuple of words -/
section
variable {prog : Program} {w : World} {A : Around} {E : Value → Shared → Prop} {s : Shared}
theorem sorted_tup_strs {l : Addr} {vs : List Value} {ss : List Str} {Q : Value → Shared → Prop} (hl : IsTup s.heap l vs.toArray) (hS : StrsAre vs ss) (h64 : vs.length < 64)
    (h : ∀ (h1 h' : Heap) (out : Array Value) (ss' : List Str) (ep : Nat), (∀ b o', s.heap.get? b = some o' → h1.get? b = some o') → (∀ b o', h1.get? b = some o' → h'.get? b = some o') → h'.get? h1.objs.size = some (seqObj "list" out ep) → StrsAre out.toList ss' → ss'.Perm ss → sortedS ss' = true → Q (.ref h1.objs.size) { s with heap := h' }) :
    wpAny (model prog w) A (call (.builtin "sorted") [.ref l]) Q E s := by
  obtain ⟨o, ho, hc, n, hd⟩ := hl
  refine Calls.call_function_entry kind_sorted plain_sorted entry_sorted (args_sorted1 _) ?_
  unfold Builtin.«sorted»
  refine wpAny_bind (m := checkCount "sorted" 1 1 _) (wpAny_pure ?_)
  refine wpAny_bind (wpAny_collect_seq l (.inr rfl) ho hc hd (fun h1 kp => ?_) (by rw [List.size_toArray, sizeLine_eq]; omega))
  rw [List.toList_toArray]
  refine wpAny_bind (wpAny_newList ?_)
  have hoL : (h1.push (seqObj "list" vs.toArray 0)).get? h1.objs.size = some (seqObj "list" vs.toArray 0) := Heap.get?_push_size _ rfl
  refine wpAny_bind (wpAny_holding (wpAny_call_entry slot_list_sort ⟨_, hoL, rfl⟩ entry_list_sort (list_sort_treeK strKind_oneLt hoL hS.keysOf (fun v₁ v₂ rest e => keyKind_strs (by rw [← e]; exact hS)) h64 fun st' hp hs => ⟨_, rfl, ?_⟩) (args_list_sort _)))
  obtain ⟨ss', a1, a2, a3⟩ := sorted_out_str hS hp hs
  obtain ⟨ep, he⟩ := sortedHeap_at (vs := vs) (out := (arrOf st').map (·.2)) hoL
  refine wpAny_pure ⟨_, rfl, h h1 _ _ ss' ep kp (fun b o' e => ?_) he a1 a2 a3⟩
  have lt := Heap.lt_size e
  rw [sortedHeap_old (Nat.ne_of_lt lt) (by rw [size_push']; exact Nat.lt_succ_of_lt lt)]
  exact Heap.get?_push_of_some _ e
end
def rSortedT (K : PySem.W.Frag) : List V → Hp → VK → Prop := fun vs H Q => ∃ (a : Addr) (xs : List Str), vs = [V.ref a] ∧ SqT K H a (xs.map V.str) ∧ xs.length < 64 ∧
  ∀ (ys : List Str) (p : Addr), ys.Perm xs → sortedS ys = true → H p = none → Q (.ref p) (upd H p (.lst (ys.map V.str)))
theorem cr_sortedT {X : Cx} (K : PySem.W.Frag) (hK : X.K = K := by rfl) : CallR X (.builtin "sorted") (rSortedT K) := by
  subst hK
  intro pins s σ H vs us Q I r h
  obtain ⟨a, xs, rfl, hs, h64, q⟩ := h
  obtain ⟨its, rv, hl, _⟩ := I.tuple hs
  rw [Vals.ref1 r]
  have hlen0 := rv.length
  rw [List.length_map] at hlen0
  refine sorted_tup_strs hl rv.strs (by rw [← hlen0]; exact h64) fun h1 h' out ys ep kp kp2 he h1' h2 h3 => ?_
  have hlen : (ys.map V.str).length ≤ sizeLine := by rw [List.length_map, h2.length_eq]; exact small64 h64
  have I1 : Inv X pins σ H { s with heap := h1 } := I.kept (t' := s.toks) kp
  exact ⟨.ref _, upd H h1.objs.size (.lst (ys.map V.str)), I1.laid (t' := s.toks) kp2 (Nat.le_refl _) ⟨hlen, out.toList, ep, vals_of_strs h1', he⟩, rfl, q ys _ h2 h3 (I1.hok.fresh (Nat.le_refl _))⟩
end L2

set_option Elab.async false
set_option linter.all false
set_option maxRecDepth 100000
set_option maxHeartbeats 4000000
/-! ## own rules: a lambda of one parameter held in a name; told with many excepts; a def whose code's table is known -/
namespace LamX
open PySem PySem.Spec PyProof.Rows L2
/-- a lambda without captured names stands at f -/
def LamO (f : Addr) (q : Str) (params : Arguments) (body : Expr) (scope : Scope) (c' : Addr) : HO := .ext fun h => ∃ pm ctv, h.get? f = some (PySem.W.kla_obj "<lambda>" q params body scope [] pm c' ctv)
theorem lamO_ok {P : Program} {w : World} {H : Hp} {h : Heap} {f c' : Addr} {q : Str} {params : Arguments} {body : Expr} {scope : Scope} {pm ctv : Value} (e : h.get? f = some (PySem.W.kla_obj "<lambda>" q params body scope [] pm c' ctv)) : ObjOk P w H h f (LamO f q params body scope c') :=
  ⟨⟨pm, ctv, e⟩, ⟨_, e⟩, fun h1 h2 ⟨pm, ctv, e1⟩ st => ⟨pm, ctv, st _ e1⟩⟩
section
variable {X : Cx} {pins : List (Addr × Obj)} {σ : L2.St} {H : Hp} {s : Shared}
theorem lam_makeO {T : List (Addr × Str)} {c P : Addr} {params : Arguments} {body : Expr} {scope : Scope} {pos : Pos} {E : Value → Shared → Prop} {Q : Value → Shared → Prop} (I : Inv X pins σ H s) (TB : TabB X.base X.mg c P) (hcode : X.env.code = .ref c)
    (hm : (P, X.env.qual ++ "<lambda>") ∈ T) (hu : ∀ p ∈ T, p.1 = P → p.2 = X.env.qual ++ "<lambda>") (hT : Tabs T H) (hdef : defaultsOf params X.env = ([], [])) (hfree : ∀ y ∈ scope.names, y.2 = .free → ∃ c, X.env.cells.lookup y.1 = some c) (hcl : cloFrom X.env.cells scope.names [] = [])
    (h : ∀ (f c' : Addr) (H1 : Hp) (s' : Shared), Inv X pins σ (upd H1 f (LamO f (X.env.qual ++ "<lambda>") params body scope c')) s' → ExtN H H1 → Tabs T H1 → H1 f = none → H1 c' = some (CodeO c' (X.env.qual ++ "<lambda>")) → Q (.ref f) s') :
    wpAny (model X.prog X.w) X.A (eval (.Lambda params body scope pos) X.env) Q E s := by
  obtain ⟨ps, hP, ht, ha⟩ := hT _ hm
  refine PySem.W.kla_eval hdef ?_
  have bP : s.heap.BuiltinsAt X.mg P := TB.bm.keeps I.bk
  have hP' : s.heap.get? P = some { cls := .none, data := .fields ps } := I.hok P _ hP
  cases hc : codeAmong pos ps.toList with
  | none =>
    refine PySem.W.kla_makeFunction (mg := X.mg) (c := c) (P := P) (ps := ps) (closure_ok hfree) I.ok.glob (I.mod.glob.keeps I.bk) hcode (TB.code.keeps I.bk) hP' ht hc TB.gP bP fun c' ctv h' tk hx hge hlt hrec htb => ?_
    obtain ⟨c2, oc, vs, t, e2, hoc, hd, hv⟩ := hrec
    cases e2
    have nC : H c' = none := I.hok.fresh hge
    have I1 := inv_table (t' := tk) (more := #[rawInt pos.line, rawInt pos.col, .ref c']) (h' := h') I hP hx htb hge ⟨oc, vs, t, hoc, hd, hv⟩
    have hE : ExtN H (upd (upd H P (.tbl (ps ++ #[rawInt pos.line, rawInt pos.col, .ref c']))) c' (CodeO c' (X.env.qual ++ "<lambda>"))) := fun b o e n => by
      rw [upd_ne (ne_of_none e nC), upd_ne (fun z => n ps (Option.some.inj (e.symm.trans (by rw [z]; exact hP))))]
      exact e
    have eL : (ps ++ #[rawInt pos.line, rawInt pos.col, .ref c']).toList = ps.toList ++ [rawInt pos.line, rawInt pos.col, .ref c'] := by simp
    rw [hcl]
    refine h h'.objs.size c' _ _ (I1.laid (t' := tk) (fun b o e => Heap.get?_push_of_some _ e) (Nat.le_refl _) (lamO_ok (Heap.get?_push_size _ rfl))) hE (fun p hp => ?_) (I1.hok.fresh (Nat.le_refl _)) upd_same
    by_cases hb : p.1 = P
    · rw [hu p hp hb, hb]
      refine ⟨_, by rw [upd_ne (ne_of_none hP nC), upd_same], by rw [eL]; exact PySem.TriplesOk_snoc _ _ _ _ ht, fun p' cv hcv => ?_⟩
      rw [eL] at hcv
      rcases among_app _ ht hcv with z | z
      · obtain ⟨c0, e1, e2⟩ := ha p' cv z
        exact ⟨c0, e1, hE _ _ e2 codeO_ne⟩
      · exact ⟨c', z, upd_same⟩
    · obtain ⟨ps', a1, a2, a3⟩ := hT p hp
      refine ⟨ps', by rw [upd_ne (ne_of_none a1 nC), upd_ne hb]; exact a1, a2, fun p' cv hcv => ?_⟩
      obtain ⟨c0, e1, e2⟩ := a3 p' cv hcv
      exact ⟨c0, e1, hE _ _ e2 codeO_ne⟩
  | some cv =>
    obtain ⟨c', e, hco⟩ := ha pos cv hc
    subst e
    refine PySem.W.kla_makeFunctionHit (mg := X.mg) (c := c) (P := P) (ps := ps) (closure_ok hfree) I.ok.glob (I.mod.glob.keeps I.bk) hcode (TB.code.keeps I.bk) hP' ht hc bP fun ctv h' tk hx hsz => ?_
    have I1 : Inv X pins σ H { s with heap := h', toks := tk } := I.kept hx
    rw [hcl]
    exact h h'.objs.size c' H _ (I1.laid (t' := tk) (fun b o e => Heap.get?_push_of_some _ e) (Nat.le_refl _) (lamO_ok (Heap.get?_push_size _ rfl))) (ExtN.refl H) hT (I1.hok.fresh (Nat.le_refl _)) hco
end
def tLamD (T : List (Addr × Str)) (q : Str) (params : Arguments) (body : Expr) (scope : Scope) : TE := fun _ H Q => Tabs T H ∧ ∀ f c' H1, ExtN H H1 → Tabs T H1 → H1 c' = some (CodeO c' q) → H1 f = none → Q (.ref f) (upd H1 f (LamO f q params body scope c'))
/-- lambda x: e, without captured names, as a value -/
theorem pe_lamdef {X : Cx} {T : List (Addr × Str)} {c P : Addr} {params : Arguments} {body : Expr} {scope : Scope} {pos : Pos} (TB : TabB X.base X.mg c P) (hcode : X.env.code = .ref c)
    (hm : (P, X.env.qual ++ "<lambda>") ∈ T) (hu : ∀ p ∈ T, p.1 = P → p.2 = X.env.qual ++ "<lambda>") (hdef : defaultsOf params X.env = ([], [])) (hfree : ∀ y ∈ scope.names, y.2 ≠ .free) (hcl : cloFrom X.env.cells scope.names [] = [] := by rfl) :
    PE X (.Lambda params body scope pos) (tLamD T (X.env.qual ++ "<lambda>") params body scope) := by
  refine ⟨fun pins s σ H Q I h => ?_⟩
  obtain ⟨hT, h⟩ := h
  exact lam_makeO I TB hcode hm hu hT hdef (fun y hy e => absurd e (hfree y hy)) hcl fun f c' H1 s' I1 eN T1 hf hco => ⟨.ref f, _, I1, rfl, h f c' H1 eN T1 hco hf⟩
/-- the lambda is called -/
theorem run_lam {P : Program} {w : World} {K : PySem.W.Frag} {mg : Str → Option Value} {base : Heap} {k : Nat} {f c' : Addr} {q : Str} {params : Arguments} {body : Expr} {scope : Scope} {N ps : List Str} {tb : TE} (S : FnScope N ps scope)
    {A : Around} {outer : List Env} {s : Shared} {H : Hp} {us : List Value} {vs : List V} {Q : VK} (hr : Room (k + 1) A) (e0 : Env0 P w K mg base A outer s H) (hf : H f = some (LamO f q params body scope c')) (hc : H c' = some (CodeO c' q))
    (hb : ∀ pm cv ctv, bindArgs (PySem.W.kla_fn "<lambda>" q params body scope [] pm cv ctv) ⟨us, []⟩ = pure (ps.zip us)) (r : Vals vs us) (hl : vs.length = ps.length)
    (hbody : Room k (A.deeper (envOfC q scope s.heap.objs.size f (.ref c'))) → PE (cxOf C8.CX0 P w K mg base N q scope f (.ref c') A outer s H C8.E0) body tb) (ht : tb (L2.start N vs) H Q) :
    codeAny (model P w) A (.call (.ref f) ⟨us, []⟩) (CR C8.CX0 outer P w H s Q C8.E0) s := by
  have lim : s.heap.NoLimit := e0.mod.nolimit.keeps fun b o e => (e0.bs b o e).1
  have hkind : ∀ y ∈ ps.zip us, scope.names.lookup y.1 = some .local ∨ (scope.names.lookup y.1 = some .cell ∧ ((cellsFrom (s.heap.objs.size + 1) scope.names []).lookup y.1).isSome = true) := fun ⟨n, v⟩ hy => by
    rcases S.par n (List.of_mem_zip hy).1 with q | q
    · exact .inl q
    · exact .inr ⟨q, PySem.W.cellsFrom_some _ _ _ (.inl q)⟩
  obtain ⟨⟨pm, ctv, of⟩, _, _⟩ := e0.hok f _ hf
  obtain ⟨⟨oc, xs, t, hoc, hdc, hvc⟩, _, _⟩ := e0.hok c' _ hc
  refine PySem.W.kla_callFunE hr.depth of rfl S.co S.gen rfl ⟨c', oc, xs, t, rfl, hoc, hdc, hvc⟩ ?_
  rw [hb]
  refine wpAny_pure (wpAny_newFunctionEnv_cells S.kind hkind fun env he s1 x => ?_)
  subst he
  refine ⟨lim.keeps x.toInCall.keep, PySem.W.kla_codeExpr ?_⟩
  have I : Inv (cxOf C8.CX0 P w K mg base N q scope f (.ref c') A outer s H C8.E0) [] (L2.start N vs) H s1 := inv_start S hr.hd e0 hl r x
  refine wpAny_mono ((hbody (hr.deeper _)).run [] s1 (L2.start N vs) H Q I ht) (fun v s' hs => ?_) fun e s' hs => hs
  obtain ⟨w', H', J, rv, q⟩ := hs
  exact ⟨w', H', J.os, J.bare, J.base, J.hok, rv, q⟩
def tLam1 (i : Nat) (N : List Str) (q : Str) (params : Arguments) (body : Expr) (scope : Scope) (t : TA) (tb : TE) : TE := fun σ H Q => ∃ f c', σ[i]? = some (some (.ref f)) ∧ H f = some (LamO f q params body scope c') ∧
  t σ H fun vs H1 => vs.length = 1 ∧ H1 f = some (LamO f q params body scope c') ∧ H1 c' = some (CodeO c' q) ∧ tb (L2.start N vs) H1 Q
/-- x(e), x a name that holds such a lambda -/
theorem pe_lam1 {X : Cx} {k i : Nat} {x a q : Str} {params : Arguments} {body : Expr} {scope : Scope} {N : List Str} {tb : TE} {t : TA} {e : Expr} {p pos : Pos} (S : FnScope N [a] scope) (hr : Room (k + 1) X.A)
    (hb : ∀ pm cv ctv u, bindArgs (PySem.W.kla_fn "<lambda>" q params body scope [] pm cv ctv) ⟨[u], []⟩ = pure [(a, u)])
    (hbody : ∀ (A : Around) (outer : List Env) (s : Shared) (H : Hp) (f c' : Addr), Room k (A.deeper (envOfC q scope s.heap.objs.size f (.ref c'))) → PE (cxOf C8.CX0 X.prog X.w X.K X.mg X.base N q scope f (.ref c') A outer s H C8.E0) body tb)
    (hN : X.N[i]? = some x) (hv : Vis X.env.scope x) (ha : PA X [e] t) (hdb : (x == ("__debug__" : Str)) = false := by decide) (hcd : (x == ("__classdict__" : Str)) = false := by decide)
    (he : starEach [e] X.env = (false, eval e X.env) :: starEach [] X.env := by rfl) :
    PE X (.Call (.Name x p) [e] [] pos) (tLam1 i N q params body scope t tb) := by
  refine ⟨fun pins s σ H Q I h => ?_⟩
  obtain ⟨f, c', hs, hf, ht⟩ := h
  refine wpAny_Call_Name_kw (thn ((pe_var (pos := p) hN hv hdb hcd).run pins s σ H (fun v H1 => v = .ref f ∧ H1 = H) I ⟨.ref f, hs, rfl, rfl⟩) fun u s1 ⟨v, H1, I1, r1, q1⟩ => ?_)
  obtain ⟨rfl, rfl⟩ := q1
  obtain rfl : u = Value.ref f := r1
  obtain ⟨⟨pm, ctv, of⟩, _, _⟩ := I1.hok f _ hf
  have FA : PySem.W.FnAt f s1.heap := ⟨_, _, _, _, of⟩
  refine PySem.W.callWith_F (pos := pos) (env := X.env) (e := e) (rest := []) (first := []) FA (thn (ha.run pos pins s1 σ _ _ I1 ht) fun us s2 ⟨vs, H2, I2, r, hl, hf2, hc2, hq⟩ => ?_) he (by rfl)
  obtain ⟨⟨pm2, ctv2, of2⟩, _, _⟩ := I2.hok f _ hf2
  refine ⟨⟨_, _, _, _, of2⟩, ?_⟩
  have hlen := r.length
  obtain ⟨y, rfl⟩ : ∃ y, us = [y] := by
    match us, hlen with
    | [y], _ => exact ⟨y, rfl⟩
    | [], z =>
      rw [hl] at z
      cases z
    | _ :: _ :: _, z =>
      rw [hl] at z
      simp at z
  refine wpAny_call (codeAny_mono (run_lam (ps := [a]) S hr I2.env0 hf2 hc2 (fun pm cv ctv => hb pm cv ctv y) r hl (fun hr' => hbody _ _ _ _ f c' hr') hq) fun r' s' hq' => ?_)
  cases r' with
  | error e => exact (show False from hq').elim
  | ok fl =>
    cases fl with
    | ret u => exact I2.after hq'
    | next => exact False.elim hq'
    | brk => exact False.elim hq'
    | cont => exact False.elim hq'
/-! ### told: try: return a() / except x1: return r1 / .. -/
def wTold (K : PySem.W.Frag) (Q : VK) : List (Value × Str) → Value → Hp → Prop
  | [], _, _ => False
  | (c, r) :: l, cls, H => ∃ b, PySem.W.exmOne K cls c = some b ∧ (b = true → Q (.str r) H) ∧ (b = false → wTold K Q l cls H)
def TTm (K : PySem.W.Frag) (l : List (Value × Str)) : (XK → Hp → VK → Prop) → Hp → VK → Prop := fun tl H Q => tl (fun cls _ H' => wTold K Q l cls H') H Q
abbrev retsOf (l : List (Value × Str)) : List (Value × (Addr → Value → Option Addr → TS)) := l.map fun q => (q.1, fun _ _ _ => tRet (tC (.str q.2)))
theorem many_of {K : PySem.W.Frag} {D : Ends} {cls : Value} {d : Option Addr} {σ : L2.St} {H : Hp} : ∀ {l : List (Value × Str)}, wTold K D.rt l cls H → wMany K (fun _ _ _ _ => False) D (retsOf l) cls d σ H
  | [], h => h
  | (c, r) :: l, ⟨b, e, h1, h2⟩ => ⟨b, e, fun hb a _ => h1 hb, fun hb => many_of (h2 hb)⟩
theorem told_givesM {X : Cx} {Ng : List Str} {x a q : Str} {sg : Scope} {g : Addr} {cdg : Value} {h0 : ExceptHandler} {hds : List ExceptHandler} {l : List (Value × Str)} {p1 p2 p3 p8 : Pos} (h0' : ∀ f : Addr, (L2.start Ng [V.ref f])[0]? = some (some (V.ref f)))
    (hh : ∀ s H, HdsOk (cxOf C8.CX0 X.prog X.w X.K X.mg X.base Ng x sg g cdg X.A X.stack s H C8.E0).nox (h0 :: hds) (retsOf l)) :
    GivesTo X Ng x sg g cdg [.Try [.Return (some (.Call (.Name a p1) [] [] p2)) p3] (h0 :: hds) [] [] p8] a q (TTm X.K l) := by
  intro f c' s H Q tl act hc h
  refine ⟨_, pss_one (ps_try_many (X := (cxOf C8.CX0 X.prog X.w X.K X.mg X.base Ng x sg g cdg X.A X.stack s H C8.E0).nox) (Wout := fun _ _ _ _ => False)
      (tb := fun W D σ H => ∃ Ech : XK, (∀ cls d σ' H', Ech cls d H' → W cls d σ' H') ∧ σ[0]? = some (some (.ref f)) ∧ H c' = some (CodeO c' q) ∧ tl Ech H D.rt)
      rfl rfl takes0 (fun W pn xe tk _ => ?_) (hh s H)), ?_⟩
  · refine ⟨fun pins s' σ H' D I h' => ?_⟩
    obtain ⟨Ech, hW, h1, h2, h3⟩ := h'
    have hp := act W pn xe Ech p1 p2 tk hW
    have hq := pss_one (ps_ret (pos := p3) hp)
    exact hq.run pins s' σ H' D I ⟨h1, h2, h3⟩
  · exact ⟨fun cls _ H' => wTold X.K Q l cls H', fun cls d σ' H' hw => many_of hw, h0' f, hc, h⟩
end LamX

set_option Elab.async false
set_option linter.all false
set_option maxRecDepth 100000
set_option maxHeartbeats 4000000
/-! ## own rules: enumerate of a tuple -/
namespace L2
open PySem PySem.Spec PyProof.Rows
open AutoSeq1 (wpAny_loadPart')
theorem meets_enumerate_newT (l : Addr) (items : Array Value) (n : Nat) (dct : Option Addr) (sl : Array (Option Value)) :
    Meets (Builtin.«enumerate.__new__» ⟨[.type "enumerate", .ref l], []⟩) (fun _ R s => s.heap.get? l = some { cls := .type "tuple", dict := dct, data := .seq items n, slots := sl } ∧
      R (.ok (.ret (.ref (s.heap.push { cls := .type "tuple_iterator", data := .fields #[.ref l, .int 0 0] }).objs.size)))
        { s with heap := (s.heap.push { cls := .type "tuple_iterator", data := .fields #[.ref l, .int 0 0] }).push { cls := .type "enumerate", data := .fields #[.none, .bool false, .ref s.heap.objs.size, rawInt 0, .none, .none] } }) :=
  .of_wp fun prog w A R s h => by
    obtain ⟨hp, g, d, tk, os⟩ := s; obtain ⟨hl, h⟩ := h
    have hsub := sub_enumerate
    have hL : Heap.IsTuple (Shared.heap ⟨hp, g, d, tk, os⟩) l items := ⟨_, hl, rfl, n, rfl⟩
    wp_walk using wpAny_loadPart' hl
    refine wpAny_stack_any fun st => wpAny_pure ?_
    split
    · rename_i c _ _ _ _ _
      cases (c == Value.type "enumerate")
      · wp_walk using wpAny_loadPart' hl, wpAny_pyIter_tuple hL
        exact ⟨_, rfl, h⟩
      · wp_walk using wpAny_loadPart' hl, wpAny_pyIter_tuple hL
        exact ⟨_, rfl, h⟩
    · wp_walk using wpAny_loadPart' hl, wpAny_pyIter_tuple hL
      exact ⟨_, rfl, h⟩
section
variable {prog : Program} {w : World} {A : Around} {E : Value → Shared → Prop} {s : Shared}
theorem call_enumerate_tuple {l : Addr} {items : Array Value} {Q : Value → Shared → Prop} (hL : s.heap.IsTuple l items)
    (h : ∀ h', IsEnum h' (s.heap.objs.size + 1) s.heap.objs.size 0 .none → h'.IsTupleIter s.heap.objs.size l 0 → h'.objs.size = s.heap.objs.size + 2 →
      (∀ b o, s.heap.get? b = some o → h'.get? b = some o) → Q (.ref (s.heap.objs.size + 1)) { s with heap := h' }) :
    wpAny (model prog w) A (call (.type "enumerate") [.ref l]) Q E s := by
  obtain ⟨⟨c, dct, dt, sl⟩, hl, hc, n, hd⟩ := hL
  replace hc : c = .type "tuple" := hc
  replace hd : dt = .seq items n := hd
  subst hc hd
  refine callType_new F.called_enumerate (by decide) (F.typeCall_enumerate_1 _) (F.newCall_enumerate_1 _) (fun obj => F.args_object_init_2 obj _) F.entry_enumerate_new
    (meets_enumerate_newT l items n dct sl) ⟨hl, ?_⟩
  have hz : (s.heap.push { cls := .type "tuple_iterator", data := .fields #[.ref l, .int 0 0] }).objs.size = s.heap.objs.size + 1 := Heap.size_push ..
  show _ ∧ _
  rw [hz]
  have he : IsEnum ((s.heap.push { cls := .type "tuple_iterator", data := .fields #[.ref l, .int 0 0] }).push
      { cls := .type "enumerate", data := .fields #[.none, .bool false, .ref s.heap.objs.size, rawInt 0, .none, .none] }) (s.heap.objs.size + 1) s.heap.objs.size 0 .none := by
    have := Heap.get?_push_size (s.heap.push { cls := .type "tuple_iterator", data := .fields #[.ref l, .int 0 0] })
      (o := { cls := .type "enumerate", data := .fields #[.none, .bool false, .ref s.heap.objs.size, rawInt 0, .none, .none] }) rfl
    rw [hz] at this; exact this
  refine ⟨⟨_, he, rfl⟩, h _ he ⟨_, Heap.get?_push_of_some _ (Heap.get?_push_size _ rfl), rfl, rfl⟩ (by rw [Heap.size_push, hz]) fun b o x => Heap.get?_push_of_some _ (Heap.get?_push_of_some _ x)⟩
end
/-- the tuple at a, each item in a new pair -/
def IteT (K : PySem.W.Frag) (a : Addr) : It :=
  ⟨fun i H => ∃ (xs : List V) (x : V), SqT K H a xs ∧ xs[i]? = some x, fun i H v H' => ∃ T x, v = .ref T ∧ H T = none ∧ H' = upd H T (.tup [.int (i : Nat), x]) ∧ ∀ xs, SqT K H a xs → xs[i]? = some x, fun i H => ∃ xs : List V, SqT K H a xs ∧ xs.length ≤ i⟩
theorem tup_apart {h : Heap} {a it : Addr} {i : Nat} {items : Array Value} (p : h.IsTuple a items) (q : h.IsTupleIter it a i) : a ≠ it := fun z => by
  obtain ⟨o, e1, c1, _⟩ := p
  obtain ⟨o2, e2, c2, _⟩ := q
  rw [z, e2] at e1
  cases e1
  rw [c2] at c1
  exact absurd (Value.type.inj c1) (by decide)
theorem next_enum_endT {prog : Program} {w : World} {A : Around} {E : Value → Shared → Prop} {s : Shared} {e it l : Addr} {i : Nat} {items : Array Value} {old : Value} {Q : Option Value → Shared → Prop} (hh : A.handled = none)
    (he : IsEnum s.heap e it i old) (hit : s.heap.IsTupleIter it l i) (hl : s.heap.IsTuple l items) (hx : items[i]? = none)
    (hQ : ∀ h', Heap.ExtBut it s.heap h' → Q none { s with heap := h' }) : wpAny (model prog w) A (pyNext (.ref e)) Q E s := by
  have hT : s.TypeIs (.ref e) "enumerate" := ⟨_, he, rfl⟩
  unfold pyNext
  refine wpAny_bind (wpAny_attempt (wpAny_callSpecial?_slot (name := Str.ofString "__next__") hT F.slot_enumerate_next
    (wpAny_call_entry F.slot_enumerate_next hT F.entry_enumerate_next ?_ (F.args_enumerate_next_1 _))))
  show wpAny _ _ (field (.ref e) 2 >>= _) _ _ _
  refine wpAny_bind (wpAny_field he rfl (x := .ref it) rfl ?_)
  refine wpAny_bind (wpAny_nextOf_tuple_end hh hit hl hx fun h' x he' hx' => ?_)
  obtain ⟨o, ho, hc⟩ := hx'
  refine wpAny_bind (wpAny_isInstance (T := "StopIteration") (b := true) ⟨o, ho, hc⟩ isSubtype_stop ?_)
  exact wpAny_pure (hQ _ he')
theorem turn_enumT {P : Program} {w : World} {K : PySem.W.Frag} {elts : List Expr} {kk : Nat} {tpos : Pos} (a e it : Addr) :
    Turn P w K (.Tuple elts kk tpos) (IteT K a) [e, it] e (fun i h => (∃ old, IsEnum h e it ((i : Nat) : Int) old) ∧ h.IsTupleIter it a i ∧ e ≠ it) where
  mem := by simp
  obj := fun i h st b hb => by
    obtain ⟨⟨old, he⟩, ⟨o, ho, hc, hd⟩, _⟩ := st
    have e' : b = e ∨ b = it := by simpa using hb
    rcases e' with z | z
    · rw [z]; exact ⟨_, he, fun v q => nomatch q⟩
    · rw [z]; exact ⟨o, ho, fun v q => by rw [hd] at q; cases q⟩
  keep := fun i h h' st k => let ⟨⟨old, he⟩, ⟨o, ho, r⟩, hne⟩ := st; ⟨⟨old, k e (by simp) _ he⟩, ⟨o, k it (by simp) o ho, r⟩, hne⟩
  item := by
    intro X hP hw hK hc i pins s σ H E I hf st hg
    subst hP hw hK
    obtain ⟨⟨old, he⟩, hit, hne⟩ := st
    obtain ⟨xs, x, hq, hx⟩ := hg
    obtain ⟨its, rv, p, hz⟩ := I.tuple hq
    obtain ⟨u, hu, ru⟩ := rv.get hx
    have hel : e < s.heap.objs.size := Heap.lt_size he
    have hil : it < s.heap.objs.size := by obtain ⟨_, q, _⟩ := hit; exact Heap.lt_size q
    have hlt : i < its.toArray.size := by
      rcases Nat.lt_or_ge i its.length with z | z
      · simpa using z
      · rw [List.getElem?_eq_none z] at hu
        cases hu
    have hai := tup_apart p hit
    have hae : e ≠ a := fun z => by
      obtain ⟨o, e1, c1, _⟩ := p
      have he1 : s.heap.get? e = some _ := he
      rw [← z, he1] at e1
      cases e1
      exact absurd (Value.type.inj c1) (by decide)
    have D := Draws.tuple (prog := X.prog) (w := X.w) (A := X.A.in1) (I.ok.hd hc) it a hai its.toArray
    have hef : e ∉ [it, a] := by
      simp only [List.mem_cons, List.not_mem_nil, or_false, not_or]
      exact ⟨hne, hae⟩
    refine wpAny_pyNext_enum_itemD D he (by exact ⟨hit, p⟩) hlt hne hef fun y h' tk hy ho hst' hT hsz hk => ?_
    have ey : y = u := by
      have e1 : its.toArray[i]? = some u := by simpa using hu
      rw [e1] at hy
      exact (Option.some.inj hy).symm
    subst ey
    refine ⟨_, rfl, wpAny_letOwnedTupleGo_enum (s := { s with heap := h', toks := tk + 1 }) ho fun h'' he' sb => ?_⟩
    have hT2 : h''.get? s.heap.objs.size = some { cls := .type "tuple", data := .seq #[.int i tk, y] } := (sb.2 _ (Nat.ne_of_gt hel)).trans hT
    have new : ObjOk X.prog X.w (upd H s.heap.objs.size (.tup [.int (i : Nat), x])) h'' s.heap.objs.size (.tup [.int (i : Nat), x]) :=
      ⟨by show 2 ≤ sizeLine; decide, [.int i tk, y], .cons ⟨_, rfl⟩ (.cons ru .nil), ⟨_, hT2, rfl, _, rfl⟩⟩
    have I1 : Inv X pins σ (upd H s.heap.objs.size (.tup [.int (i : Nat), x])) { s with heap := h'', toks := tk + 1 } :=
      I.turnedNew (ch := [e, it]) (fun b ob hb q => (sb.2 b (fun z => hb (by simp [z]))).trans (hk b ob (fun z => hb (by simp [z])) (fun z => hb (by simp [z])) q)) hf (Nat.le_refl _) new
    refine ⟨.ref s.heap.objs.size, _, I1, rfl, ⟨_, x, rfl, I.hok.fresh (Nat.le_refl _), rfl, fun ys hy => by rw [I.tuple_inj hy hq]; exact hx⟩, ⟨⟨y, ?_⟩, ?_, hne⟩, fun b hb => ?_⟩
    · have e1 : ((i + 1 : Nat) : Int) = (i : Int) + 1 := by omega
      rw [e1]; exact he'
    · obtain ⟨o, e1, c1, d1⟩ := hst'.1
      exact ⟨o, (sb.2 it (Ne.symm hne)).trans e1, c1, d1⟩
    · have hb' : b < s.heap.objs.size := by
        have e' : b = e ∨ b = it := by simpa using hb
        rcases e' with z | z
        · rw [z]; exact hel
        · rw [z]; exact hil
      rw [upd_ne (Nat.ne_of_lt hb')]
      exact (hf b hb).1
  done := by
    intro X hP hw hK hc i pins s σ H E I hf st hg
    subst hP hw hK
    obtain ⟨⟨old, he⟩, hit, hne⟩ := st
    obtain ⟨xs, hq, hx⟩ := hg
    obtain ⟨its, rv, p, hz⟩ := I.tuple hq
    obtain ⟨f0, f1, f2, f3, f4, f5⟩ := hf it (by simp)
    have hl := rv.length
    exact next_enum_endT (I.ok.hd hc) he hit p (by simp; omega) fun h' eb => ⟨rfl, I.turned (t' := s.toks) (fun b o hb q => eb b o hb q) f0 f1 f3 f4 f5⟩
  self := fun A i s Q E st h => let ⟨⟨_, he⟩, _⟩ := st; wpAny_pyIter_enum he h
def iEnumT (K : PySem.W.Frag) (ta : TA) : TI := fun σ H R => ta σ H fun vs H1 => ∃ a xs, vs = [.ref a] ∧ SqT K H1 a xs ∧ R (IteT K a) H1
theorem enumTK {X : Cx} (K : PySem.W.Frag) {e : Expr} {ta : TA} {p pos tpos : Pos} {elts : List Expr} {kk : Nat} (hg : Gl X "enumerate") (hm : X.mg "enumerate" = none) (ha : PA X [e] ta) (hs : starEach [e] X.env = [(false, eval e X.env)] := by rfl) (hK : X.K = K := by rfl) :
    PI X (.Tuple elts kk tpos) (.Call (.Name "enumerate" p) [e] [] pos) (iEnumT K ta) := by
  subst hK
  refine ⟨fun pins s σ H R I h => ?_⟩
  refine Call_ (ld_blt I hg hm boot_enumerate (PyProof.Rows.callWith_type1 (thn (ha.run pos pins s σ H _ I h) fun us s1 ⟨vs, H1, I1, r1, q1⟩ => ?_) hs rfl))
  obtain ⟨a, xs, ex, hq, q⟩ := q1
  subst ex
  cases r1 with
  | cons r rr =>
    cases rr
    cases r
    obtain ⟨its, rv, p', hz⟩ := I1.tuple hq
    refine call_enumerate_tuple p' fun h' he hit hsz hk => wpAny_pyIter_enum he ?_
    have I2 : Inv X pins σ H1 { s1 with heap := h' } := I1.kept (t' := s1.toks) hk
    refine ⟨s1.heap.objs.size + 1, [s1.heap.objs.size + 1, s1.heap.objs.size], _, _, H1, rfl, I2, turn_enumT a (s1.heap.objs.size + 1) s1.heap.objs.size, ⟨⟨.none, he⟩, hit, Nat.succ_ne_self _⟩, fun b hb => ?_, q⟩
    have e' : b = s1.heap.objs.size + 1 ∨ b = s1.heap.objs.size := by simpa using hb
    have hle : s1.heap.objs.size ≤ b := by
      rcases e' with z | z
      · rw [z]; exact Nat.le_add_right _ _
      · rw [z]; exact Nat.le_refl _
    exact I1.fpOk hle (I1.hok.fresh hle)
/-- a comprehension over enumerate of a tuple that stays -/
theorem lc_enumT {K : PySem.W.Frag} {a : Addr} {xs : List V} {g : TG} {tt : TT} {te : TE} {vs : List Nat} {σ : L2.St} {H1 : Hp} {D : Addr} {Qd : Hp → Prop} (Pv : Nat → Hp → Prop) (h0 : Pv 0 (upd H1 D (.lst []))) (hl : ∀ i H, i ≤ xs.length → Pv i H → SqT K H a xs)
    (hs : ∀ i x T H, xs[i]? = some x → Pv i H → H T = none → g (.ref T) (wipe σ vs) (upd H T (.tup [.int (i : Nat), x])) fun σ2 H2 => wipe σ2 vs = wipe σ vs ∧ tt σ2 H2 fun b H3 =>
      if b = true then te σ2 H3 fun y H4 => ∃ acc, H4 D = some (.lst acc) ∧ acc.length < sizeLine ∧ Pv (i + 1) (upd H4 D (.lst (acc ++ [y]))) else Pv (i + 1) H3) (hd : ∀ H, Pv xs.length H → Qd H) :
    ∃ W : Nat → Nat → Hp → Prop, (∃ m, W 0 m (upd H1 D (.lst []))) ∧ ∀ i m H, W i m H →
      ((IteT K a).stop i H ∧ Qd H) ∨ ((IteT K a).go i H ∧ ∃ Nx : Hp → Prop, (∀ H', Nx H' → ∃ m', m' < m ∧ W (i + 1) m' H') ∧ ∀ x H', (IteT K a).yld i H x H' → g x (wipe σ vs) H' fun σ2 H2 => wipe σ2 vs = wipe σ vs ∧ tt σ2 H2 fun b H3 =>
        if b = true then te σ2 H3 fun y H4 => ∃ acc, H4 D = some (.lst acc) ∧ acc.length < sizeLine ∧ Nx (upd H4 D (.lst (acc ++ [y]))) else Nx H3) := by
  refine ⟨fun i m H => m = xs.length - i ∧ i ≤ xs.length ∧ Pv i H, ⟨xs.length, by simp, Nat.zero_le _, h0⟩, ?_⟩
  rintro i m H ⟨rfl, hi, p⟩
  have q := hl i H hi p
  by_cases hlt : i < xs.length
  · refine .inr ⟨⟨xs, xs[i], q, by simp [hlt]⟩, Pv (i + 1), fun H' p' => ⟨xs.length - (i + 1), by omega, rfl, hlt, p'⟩, fun x H' y => ?_⟩
    obtain ⟨T, x', rfl, hT, rfl, f⟩ := y
    exact hs i x' T _ (f xs q) p hT
  · have e : i = xs.length := by omega
    subst e
    exact .inl ⟨⟨xs, q, Nat.le_refl _⟩, hd H p⟩
end L2

set_option Elab.async false
set_option linter.all false
set_option maxRecDepth 100000
set_option maxHeartbeats 4000000
/-! ## own rules, with the written part said -/
namespace L2
open PySem PySem.Spec PyProof.Rows
section
variable {X : Cx} (K : PySem.W.Frag)
theorem anyK (hc : X.calm = true := by rfl) (h : X.K = K := by rfl) : CallR X (.builtin "any") (rAny K) := by subst h; exact cr_any hc
theorem allK (hc : X.calm = true := by rfl) (h : X.K = K := by rfl) : CallR X (.builtin "all") (rAll K) := by subst h; exact cr_all hc
theorem isiK (h : X.K = K := by rfl) : CallR X (.builtin "isinstance") (rIsi K) := by subst h; exact call_isi
theorem catAK (h : X.K = K := by rfl) : OpR X (binaryOp .Add) (rCatA K) := by subst h; exact op_catA
theorem slAK (h : X.K = K := by rfl) : SlR X (rSlA K) := by subst h; exact sl_tupA
theorem sortedSK (h : X.K = K := by rfl) : CallR X (.builtin "sorted") (rSortedS K) := by subst h; exact cr_sortedS
theorem tupDK (hc : X.calm = true := by rfl) : CallR X (.type "tuple") rTupD := call_tuple_dK hc
/-- x in a dict or a row of flat things -/
def rInAny (K : PySem.W.Frag) : R2 := fun x y H Q => ∃ p b, y = .ref p ∧ ((∃ ov, DGet H p x ov ∧ b = ov.isSome) ∨ ∃ xs, (SqL K H p xs ∨ SqT K H p xs) ∧ flatV x = true ∧ xs.all flatV = true ∧ b = inV x xs) ∧ Q (.bl b) H
theorem inAny (hu : X.A.units + 1 < cLine) (h : X.K = K := by rfl) : OpR X (compareOp .In) (rInAny K) := by
  subst h
  intro pins s σ H x y v u Q I rx ry h
  obtain ⟨p, b, rfl, h, q⟩ := h
  rcases h with ⟨ov, g, rfl⟩ | ⟨xs, h1, h2, h3, rfl⟩
  · obtain rfl : u = Value.ref p := ry
    exact d_in hu I g rx fun s3 I3 => ⟨.bl ov.isSome, H, I3, rfl, q⟩
  · exact op_in_seq pins s σ H x _ v u Q I rx ry ⟨p, xs, rfl, h1, h2, h3, q⟩
/-- == of a tuple and a bare tuple -/
def rEqT0 (K : PySem.W.Frag) : R2 := fun x y H Q => ∃ a b xs, x = .ref a ∧ y = .ref b ∧ SqT K H a xs ∧ SqT K H b [] ∧ Q (.bl (decide (xs.length = 0))) H
theorem eqT0 (hu : X.A.units < cLine) (hK : X.K = K := by rfl) : OpR X (compareOp .Eq) (rEqT0 K) := by
  subst hK
  intro pins s σ H x y v u Q I rx ry h
  obtain ⟨a, b, xs, rfl, rfl, h1, h2, q⟩ := h
  obtain rfl : v = Value.ref a := rx
  obtain rfl : u = Value.ref b := ry
  obtain ⟨is, r1, l1, z1⟩ := I.tuple h1
  obtain ⟨js, r2, l2, z2⟩ := I.tuple h2
  have hj : js.length = 0 := r2.length.symm
  have hi := r1.length
  show wpAny _ _ (richCompare .Eq (.ref a) (.ref b)) _ _ _
  have e0 : decide (xs.length = 0) = ((List.range (min is.toArray.size js.toArray.size)).all (fun _ => true) && is.toArray.size == js.toArray.size) := by
    simp only [List.size_toArray, hj, hi]
    cases is <;> simp
  rw [e0] at q
  exact SeqAt.RcAt.tuples (e := fun _ => true) l1 l2 hu (fun j h1 h2 => absurd h2 (by simp; omega)) _ _ _ _ ⟨.bl _, H, I, rfl, q⟩
/-- x is not True, x a bool -/
def rNotTrue : R2 := fun x y H Q => ∃ k, x = .bl k ∧ y = .bl true ∧ Q (.bl (!k)) H
theorem opNotTrue : OpR X (compareOp .IsNot) rNotTrue := by
  intro pins s σ H x y v u Q I rx ry h
  obtain ⟨k, rfl, rfl, q⟩ := h
  obtain rfl : v = Value.bool k := rx
  obtain rfl : u = Value.bool true := ry
  refine PySem.wpAny_isNot_plain (by rfl) ⟨.bl (!k), H, I, ?_, q⟩
  cases k <;> rfl
end
end L2

set_option Elab.async false
set_option linter.all false
set_option maxRecDepth 100000
set_option maxHeartbeats 4000000
/-! ## own rules: a def whose code object is known -/
namespace L2
open PySem PySem.Spec PyProof.Rows
structure FunC (K : PySem.W.Frag) (x qual : Str) (st : Stmt) (f : Addr) (fd : FuncData) (c : Addr) : Prop where
  ex : ∃ (oc : Value) (od : Option Addr) (kV doc pm : Value) (an : Option Addr) (ct : Value) (osl : Array (Option Value)),
    fd = PySem.W.fnOf x qual (defArgs st) (defBody st) (defScope st) .none kV doc pm an (.ref c) ct ∧ K.lookup f = some ⟨oc, od, .func fd, osl⟩ ∧ PySem.W.codeIn K (.ref c) qual = true
theorem FunC.ok {P : Program} {w : World} {K : PySem.W.Frag} {mg : Str → Option Value} {base : Heap} {x qual : Str} {st : Stmt} {f c : Addr} {fd : FuncData} {N ps : List Str} {k : Nat} {sp : Sp} (F : FunC K x qual st f fd c) (S : FnScope N ps (defScope st)) (len : ∀ vs H Q E, sp vs H Q E → vs.length = ps.length)
    (hbody : ∀ (A : Around) (outer : List Env) (s : Shared) (H : Hp) (vs : List V) (Q : VK) (E : XK), Room k (A.deeper (envOfC qual (defScope st) s.heap.objs.size f (.ref c))) → sp vs H Q E →
      ∃ t, PSs (cxOf CX0 P w K mg base N qual (defScope st) f (.ref c) A outer s H E).nox (defBody st) t ∧ t { nx := fun _ H' => Q .non H', rt := Q } (start N vs) H) : FnOk P w K mg base CX0 (k + 1) f fd ps sp := by
  obtain ⟨oc, od, kV, doc, pm, an, ct, osl, rfl, lk, hcd⟩ := F.ex
  refine fn_of lk hcd S len fun A outer s H vs Q E hr hsp => ?_
  obtain ⟨t, h, q⟩ := hbody A outer s H vs Q E hr hsp
  exact ⟨t, h.nox, q⟩
theorem FunC.tab {K : PySem.W.Frag} {h : Heap} {x qual : Str} {st : Stmt} {f c Pt : Addr} {fd : FuncData} (F : FunC K x qual st f fd c) (hd : PySem.W.codeHdIn K c Pt = true) (OT : LamX.OwnTab K f h) : h.get? Pt = some { cls := .none, data := .fields #[] } := by
  obtain ⟨oc, od, kV, doc, pm, an, ct, osl, rfl, lk, hcd⟩ := F.ex
  unfold PySem.W.codeHdIn at hd
  split at hd
  · rename_i vs sl hk
    simp only [Bool.and_eq_true] at hd
    obtain ⟨⟨⟨⟨⟨e1, _⟩, _⟩, _⟩, _⟩, _⟩ := hd
    split at e1
    · rename_i P' h11
      have hP : P' = Pt := beq_iff_eq.mp e1
      subst hP
      exact OT c P' _ _ _ _ vs _ lk rfl rfl hk h11
    · cases e1
  · cases hd
section
variable {X : Cx} {e : Expr} {es : List Expr} {t : TA} {o : Expr} {to : TE} {apos cpos : Pos}
theorem extK (K : PySem.W.Frag) (ho : PE X o to) (ha : PA X (e :: es) t) (hbase : attributeBase o "extend" X.env (eval o X.env) = eval o X.env := by rfl)
    (hfew : ((backTo cpos (starEach (e :: es) X.env)).all (fun x => !x.1) && (backToKw cpos (keywordEach [] X.env)).all (fun x => x.1.isSome)
      && decide ((e :: es).length + ([] : List Keyword).length + (if ([] : List Keyword).isEmpty then 0 else 1) < 30)) = true := by rfl)
    (hline : (apos.endLine == cpos.line) = true := by rfl) (hs : starEach (e :: es) X.env = (false, eval e X.env) :: starEach es X.env := by rfl) (hplain : (backTo cpos (starEach es X.env)).any (·.1) = false := by rfl) (h : X.K = K := by rfl) :
    PE X (.Call (.Attribute o "extend" apos) (e :: es) [] cpos) (tBM K "list" (rExtT K) to t) := by
  subst h
  exact pe_bm PySem.F.plainAttrs_list PySem.F.slot_list_extend PySem.F.type_list_extend (mt_extendT X.K) ho ha hbase hfew hline hs hplain
end
end L2

set_option Elab.async false
set_option linter.all false
set_option maxRecDepth 100000
set_option maxHeartbeats 4000000
/-! ## own rules: e.f op= value with K said -/
namespace L2
open PySem PySem.Spec PyProof.Rows
section
variable {X : Cx} (K : PySem.W.Frag) {o e value : Expr} {f : Str} {pos pos' tpos : Pos} {ta tv : TE}
theorem fldaugK {op : Operator} {rd : V → V → Hp → VK → Prop} (ha : PE X o ta) (hv : PE X value tv) (hop : InOp X op rd) (hK : X.K = K := by rfl) : PS X (.AugAssign (.Attribute o f tpos) op value pos) (sFldAug K ta tv rd f) := by
  subst hK
  exact ps_fldaug ha hv hop
end
end L2

set_option Elab.async false
set_option linter.all false
set_option maxRecDepth 100000
set_option maxHeartbeats 4000000
/-! ## own rules: lists of one dict compared, rows of unlike kinds compared, a bare dict seen as one of rows -/
namespace PySem.SeqAt
open AutoSeq1 (wpAny_loadPart')
open MeetsSeq MeetsSeq2 MeetsSeq3 SeqRoads2
section
variable {P : Program} {W : World}
theorem unlike_end (p q : Addr) (xs ys : Array Value) (nx : xs[1]? = none) (ny : ys[1]? = none) (hz : xs.size = ys.size) (m m2 : Nat) (o o2 : Option Addr) (z z2 : Array (Option Value)) :
    MeetsIn P W (Builtin.«list.__eq__.loop» ⟨[.ref p, .ref q, rawInt 1, rawInt 3], []⟩)
      (fun _ F t => (t.heap.get? p = some { cls := .type "list", dict := o, data := .seq xs m, slots := z } ∧ t.heap.get? q = some { cls := .type "list", dict := o2, data := .seq ys m2, slots := z2 }) ∧
        F (.ok (.ret (.bool false))) t) := by
  rintro B F ⟨hp, g, d, tk, os⟩ ⟨⟨h1, h2⟩, f⟩
  wp_walk using wpAny_loadPart' h1, wpAny_loadPart' h2
  have nx' : xs[Int.toNat 1]? = none := nx
  have ny' : ys[Int.toNat 1]? = none := ny
  rw [nx', ny']
  wp_walk using wpAny_loadPart' h1, wpAny_loadPart' h2
  show F (.ok (.ret (.bool (xs.size != ys.size)))) _
  rw [hz]
  simpa using f
theorem unlike_loop (p q : Addr) (xs ys : Array Value) {x y : Value} (sx : xs[0]? = some x) (sy : ys[0]? = some y) (nx : xs[1]? = none) (ny : ys[1]? = none) (hz : xs.size = ys.size) (m m2 : Nat) (o o2 : Option Addr) (z z2 : Array (Option Value)) :
    MeetsIn P W (Builtin.«list.__eq__.loop» ⟨[.ref p, .ref q, rawInt 0, rawInt 3], []⟩)
      (fun B F t => (t.heap.get? p = some { cls := .type "list", dict := o, data := .seq xs m, slots := z } ∧ t.heap.get? q = some { cls := .type "list", dict := o2, data := .seq ys m2, slots := z2 }) ∧
        EqIn P W B.in1 t x y true ∧ F (.ok (.ret (.bool false))) t) := by
  rintro B F ⟨hp, g, d, tk, os⟩ ⟨⟨h1, h2⟩, k, f⟩
  wp_walk using wpAny_loadPart' h1, wpAny_loadPart' h2
  have sx' : xs[Int.toNat 0]? = some x := sx
  have sy' : ys[Int.toNat 0]? = some y := sy
  rw [sx', sy']
  refine wpAny_bind (k _ _ ?_)
  wp_walk
  refine ⟨plainId_quiet plain_eq_loop _, codeAny_builtin entry_eq_loop ?_⟩
  rw [Around.under_plainId plain_eq_loop _]
  exact unlike_end p q xs ys nx ny hz m m2 o o2 z z2 _ _ _ ⟨⟨h1, h2⟩, f⟩
theorem unlike_one (p q : Addr) (xs ys : Array Value) {x y : Value} (sx : xs[0]? = some x) (sy : ys[0]? = some y) (nx : xs[1]? = none) (ny : ys[1]? = none) (hz : xs.size = ys.size) (m m2 : Nat) (o o2 : Option Addr) (z z2 : Array (Option Value)) :
    MeetsIn P W (Builtin.«list.__ne__» ⟨[.ref p, .ref q], []⟩)
      (fun B F t => (t.heap.get? p = some { cls := .type "list", dict := o, data := .seq xs m, slots := z } ∧ t.heap.get? q = some { cls := .type "list", dict := o2, data := .seq ys m2, slots := z2 }) ∧
        EqIn P W B.in1 t x y true ∧ F (.ok (.ret (.bool false))) t) := by
  rintro B F ⟨hp, g, d, tk, os⟩ ⟨⟨h1, h2⟩, k, f⟩
  have sub := AutoSeq1.sub_list_list
  have nn : ¬ (xs.size != ys.size) = true := by simp [hz]
  wp_walk using wpAny_loadPart' h1, wpAny_loadPart' h2
  refine ⟨plainId_quiet plain_eq_loop _, codeAny_builtin entry_eq_loop ?_⟩
  rw [Around.under_plainId plain_eq_loop _]
  exact unlike_loop p q xs ys sx sy nx ny hz m m2 o o2 z z2 _ _ _ ⟨⟨h1, h2⟩, k, f⟩
theorem unlike_lists {B : Around} {t : Shared} {Fq : Value → Shared → Prop} {G : Value → Shared → Prop} {p q : Addr} {x y : Value} (h1 : t.heap.IsList p #[x]) (h2 : t.heap.IsList q #[y]) (room : B.units < cLine)
    (k : EqIn P W B.in1 t x y true) (f : Fq (.bool false) t) : wpAny (model P W) B (richCompare .NotEq (.ref p) (.ref q)) Fq G t := by
  obtain ⟨⟨c, o, u, z⟩, e1, e2, m, e3⟩ := id h1
  obtain ⟨⟨c2, o2, u2, z2⟩, g1, g2, m2, g3⟩ := id h2
  simp only at e2 e3 g2 g3
  subst e2 e3 g2 g3
  refine wpAny_richCompare_same_room (T := "list") (op := .NotEq) ⟨_, e1, rfl⟩ ⟨_, g1, rfl⟩ F.slot_list_ne ?_ room
  exact call_meetsIn F.slot_list_ne ⟨_, e1, rfl⟩ F.entry_list_ne (F.args_list_ne_2 _ _) (unlike_one p q #[x] #[y] rfl rfl rfl rfl rfl m m2 o o2 z z2) ⟨⟨e1, g1⟩, k, fun w => (nomatch w), f⟩
end
end PySem.SeqAt
namespace L2
open PySem PySem.Spec PyProof.Rows
section
variable {X : Cx} (K : PySem.W.Frag)
theorem seenT {pins : List (Addr × Obj)} {s : Shared} {σ : L2.St} {H : Hp} {d : Addr} (I : Inv X pins σ H s) (e : H d = some (.dK [])) : Inv X pins σ (upd H d (.dT [])) s := by
  obtain ⟨_, nm, vs, kv, o, es, ep, g, ex, dt, ky, pr, nd⟩ := I.hok d _ e
  cases kv
  have z : es.toList = [] := by
    revert pr
    generalize es.toList = l
    intro pr
    cases pr
    rfl
  exact I.write (x := d) (e := d) (h' := s.heap) (t' := s.toks) (by rw [e]; trivial) (.inl rfl) (fun _ _ _ h => h) ⟨o, g⟩ ⟨Nat.zero_le _, nm, [], .nil, o, es, ep, g, ex, dt, z, List.nodup_nil⟩
def tAsT (t : TE) : TE := fun σ H Q => t σ H fun v H1 => ∃ d, v = .ref d ∧ H1 d = some (.dK []) ∧ Q v (upd H1 d (.dT []))
theorem pe_asT {e : Expr} {t : TE} (h : PE X e t) : PE X e (tAsT t) := ⟨fun pins s σ H Q I q => by
  refine thn (h.run pins s σ H _ I q) fun u s1 ⟨v, H1, I1, r, d, _, e1, q1⟩ => ?_
  exact ⟨v, _, seenT I1 e1, r, q1⟩⟩
def rLtD (K : PySem.W.Frag) : R2 := fun x y H Q => ∃ d e, Dp K H x d ∧ Dp K H y e ∧ PySem.W.alike d e = true ∧ d ≠ .none ∧ d.depth ≤ 8 ∧ Q (.bl (PySem.W.dataLt d e)) H
def rLeD (K : PySem.W.Frag) : R2 := fun x y H Q => ∃ d e, Dp K H x d ∧ Dp K H y e ∧ PySem.W.alike d e = true ∧ d ≠ .none ∧ d.depth ≤ 8 ∧ Q (.bl (!PySem.W.dataLt e d)) H
theorem ltD (hu : X.A.units + 64 < cLine) (hK : X.K = K := by rfl) : OpR X (compareOp .Lt) (rLtD K) := by
  subst hK
  rintro pins s σ H x y v u Q I rx ry ⟨d, e, hd, he, al, nn, dp, q⟩
  obtain ⟨as, r1⟩ := Dp.reads I d x v hd rx
  obtain ⟨bs, r2⟩ := Dp.reads I e y u he ry
  exact PySem.W.lt_data r1 r2 al nn (by omega) ⟨.bl _, H, I, rfl, q⟩
theorem leD (hu : X.A.units + 64 < cLine) (hK : X.K = K := by rfl) : OpR X (compareOp .LtE) (rLeD K) := by
  subst hK
  rintro pins s σ H x y v u Q I rx ry ⟨d, e, hd, he, al, nn, dp, q⟩
  obtain ⟨as, r1⟩ := Dp.reads I d x v hd rx
  obtain ⟨bs, r2⟩ := Dp.reads I e y u he ry
  exact PySem.W.le_data r1 r2 al nn (by omega) ⟨.bl _, H, I, rfl, q⟩
/-- x < y, two numbers or two words -/
def rLtIS : R2 := fun x y H Q => (∃ i j, x = .int i ∧ y = .int j ∧ Q (.bl (decide (i < j))) H) ∨ ∃ i j, x = .str i ∧ y = .str j ∧ Q (.bl (decide (i.cps.toList < j.cps.toList))) H
theorem ltIS : OpR X (compareOp .Lt) rLtIS := by
  rintro pins s σ H x y v u Q I rx ry (h | h)
  · exact op_lt pins s σ H x y v u Q I rx ry h
  · exact op_lt_str pins s σ H x y v u Q I rx ry h
/-- two lists of at most one dict, alike: != says no -/
def rNeDicts (K : PySem.W.Frag) : R2 := fun x y H Q => ∃ a b, x = .ref a ∧ y = .ref b ∧ Q (.bl false) H ∧ ((H a = some (.lst []) ∧ H b = some (.lst [])) ∨
  ∃ c d ks ls, H a = some (.lst [.ref c]) ∧ H b = some (.lst [.ref d]) ∧ c ≠ d ∧ H c = some (.dK ks) ∧ H d = some (.dK ls) ∧ ks.length = ls.length ∧ ∀ p ∈ ks, valV ls p.1 = some p.2 ∧ flatB p.2 = true)
theorem neDicts (hu : X.A.units + 1 < cLine) : OpR X (compareOp .NotEq) (rNeDicts K) := by
  rintro pins s σ H x y v u Q I rx ry ⟨a, b, rfl, rfl, q, h⟩
  obtain rfl : v = Value.ref a := rx
  obtain rfl : u = Value.ref b := ry
  show wpAny _ _ (richCompare .NotEq (.ref a) (.ref b)) _ _ _
  rcases h with ⟨e1, e2⟩ | ⟨c, d, ks, ls, e1, e2, ncd, ec, ed, hl, hp⟩
  · obtain ⟨_, is, n1, v1, g1⟩ := I.hok a _ e1
    obtain ⟨_, js, n2, v2, g2⟩ := I.hok b _ e2
    cases v1
    cases v2
    exact SeqAt.RcNeAt.lists (e := fun _ => true) ⟨_, g1, rfl, _, rfl⟩ ⟨_, g2, rfl, _, rfl⟩ rfl (by omega) (fun j h1 _ => absurd h1 (Nat.not_lt_zero _)) _ _ _ _ ⟨.bl false, H, I, rfl, q⟩
  · obtain ⟨_, is, n1, v1, g1⟩ := I.hok a _ e1
    obtain ⟨_, js, n2, v2, g2⟩ := I.hok b _ e2
    cases v1 with
    | cons r1 t1 =>
      cases t1
      cases v2 with
      | cons r2 t2 =>
        cases t2
        cases r1
        cases r2
        obtain ⟨_, yc, vc, rc, dc⟩ := (show ObjOk X.prog X.w H s.heap c (.dK ks) from I.hok c _ ec)
        obtain ⟨_, yd, vd, rd, dd⟩ := (show ObjOk X.prog X.w H s.heap d (.dK ls) from I.hok d _ ed)
        have hlen : vc.length = vd.length := by rw [← rc.length, ← rd.length]; exact hl
        refine SeqAt.unlike_lists ⟨_, g1, rfl, _, rfl⟩ ⟨_, g2, rfl, _, rfl⟩ (by omega) (SeqAt.EqIn.of_refs ncd fun E' Q' z => ?_) ⟨.bl false, H, I, rfl, q⟩
        refine PySem.W.keq_eq (knd := mixKind X.prog X.w) (r := true) yc yd dc dd ?_ (fun _ => hits_all rd rc hp) ?_
        · show X.A.units + 1 < cLine
          exact hu
        · simpa [hlen] using z
variable {e : Expr} {t : TA}
theorem zipTK {e2 : Expr} {p tpos pos : Pos} {elts : List Expr} {kk : Nat} (hg : Gl X "zip") (hm : X.mg "zip" = none) (ha : PA X [e, e2] t)
    (hs : starEach [e, e2] X.env = (false, eval e X.env) :: starEach [e2] X.env := by rfl) (hpl : (backTo pos (starEach [e2] X.env)).any (·.1) = false := by rfl) (h : X.K = K := by rfl) :
    PI X (.Tuple elts kk tpos) (.Call (.Name "zip" p) [e, e2] [] pos) (RZ.iZipA K t) := by
  subst h
  exact RZ.pi_zipA hg hm ha hs hpl
def rListT : List V → Hp → VK → Prop := fun xs H Q => ∃ d kvs, xs = [V.ref d] ∧ H d = some (.dT kvs) ∧ ∀ p bs, H p = none → IsKeys H kvs bs → Q (.ref p) (upd H p (.lst (bs.map V.ref)))
theorem call_listT (hc : X.calm = true := by rfl) : CallR X (.type "list") rListT := by
  intro pins s σ H vs us Q I r h
  obtain ⟨d, kvs, e, ed, k⟩ := h
  exact call_list_dT hc pins s σ H vs us Q I r ⟨d, kvs, e, .inl ed, k⟩
variable {pos apos cpos : Pos} {to : TE} {es : List Expr}
theorem extLK {o : Expr} (ho : PE X o to) (ha : PA X (e :: es) t) (hbase : attributeBase o "extend" X.env (eval o X.env) = eval o X.env := by rfl)
    (hfew : ((backTo cpos (starEach (e :: es) X.env)).all (fun x => !x.1) && (backToKw cpos (keywordEach [] X.env)).all (fun x => x.1.isSome)
      && decide ((e :: es).length + ([] : List Keyword).length + (if ([] : List Keyword).isEmpty then 0 else 1) < 30)) = true := by rfl)
    (hline : (apos.endLine == cpos.line) = true := by rfl) (hs : starEach (e :: es) X.env = (false, eval e X.env) :: starEach es X.env := by rfl) (hplain : (backTo cpos (starEach es X.env)).any (·.1) = false := by rfl) (h : X.K = K := by rfl) :
    PE X (.Call (.Attribute o "extend" apos) (e :: es) [] cpos) (tBM K "list" rExtend to t) := by
  subst h
  exact pe_bm PySem.F.plainAttrs_list PySem.F.slot_list_extend PySem.F.type_list_extend mt_extend ho ha hbase hfew hline hs hplain
end
end L2

set_option Elab.async false
set_option maxRecDepth 100000
set_option maxHeartbeats 4000000
/-! ## own words over the hand layer, for every law: rules with the written part said, dice, many at once -/
namespace L2
open PySem PySem.Spec PyProof.Rows
theorem units65 {k : Nat} {A : Around} (r : Room k A) : A.units + 65 < cLine := by have := r.un; omega
section
variable {X : Cx} (K : PySem.W.Frag)
theorem ixL (h : X.K = K := by rfl) : IxR X (rIxL K) := by subst h; exact ix_list
theorem ixT (h : X.K = K := by rfl) : IxR X (rIxT K) := by subst h; exact ix_tup
theorem slL (h : X.K = K := by rfl) : SlR X (rSlL K) := by subst h; exact sl_list
theorem slT (h : X.K = K := by rfl) : SlR X (rSlT K) := by subst h; exact sl_tup
theorem eqD (hu : X.A.units + 64 < cLine) (h : X.K = K := by rfl) : OpR X (compareOp .Eq) (rEqD K) := by subst h; exact op_eqD hu
theorem neD (hu : X.A.units + 64 < cLine) (h : X.K = K := by rfl) : OpR X (compareOp .NotEq) (rNeD K) := by subst h; exact op_neD hu
theorem inD (hu : X.A.units + 65 < cLine) (h : X.K = K := by rfl) : OpR X (compareOp .In) (rInD K) := by subst h; exact op_inD hu
theorem notInD (hu : X.A.units + 65 < cLine) (h : X.K = K := by rfl) : OpR X (compareOp .NotIn) (rNotInD K) := by subst h; exact op_notInD hu
theorem inSeq (h : X.K = K := by rfl) : OpR X (compareOp .In) (rIn K false) := by subst h; exact op_in_seq
theorem notInSeq (h : X.K = K := by rfl) : OpR X (compareOp .NotIn) (rIn K true) := by subst h; exact op_notIn_seq
def rLenQ (K : PySem.W.Frag) : List V → Hp → VK → Prop := fun xs H Q => ∃ p ys, xs = [.ref p] ∧ (SqL K H p ys ∨ SqT K H p ys) ∧ Q (.int ys.length) H
def rListOf (K : PySem.W.Frag) : List V → Hp → VK → Prop := fun xs H Q => ∃ p ys, xs = [.ref p] ∧ (SqL K H p ys ∨ SqT K H p ys) ∧ ∀ l, H l = none → Q (.ref l) (upd H l (.lst ys))
def rTupleOf (K : PySem.W.Frag) : List V → Hp → VK → Prop := fun xs H Q => ∃ p ys, xs = [.ref p] ∧ ((SqL K H p ys ∧ ∀ l, H l = none → Q (.ref l) (upd H l (.tup ys))) ∨ (SqT K H p ys ∧ Q (.ref p) H))
theorem lenK (h : X.K = K := by rfl) : CallR X (.builtin "len") (rLenQ K) := by subst h; exact call_len_seq
theorem listOf (h : X.K = K := by rfl) : CallR X (.type "list") (rListOf K) := by subst h; exact call_list_of
theorem tupOf (h : X.K = K := by rfl) : CallR X (.type "tuple") (rTupleOf K) := by subst h; exact call_tuple_of
def rAbs : List V → Hp → VK → Prop := fun xs H Q => ∃ i, xs = [.int i] ∧ Q (.int (if i < 0 then -i else i)) H
theorem absK : CallR X (.builtin "abs") rAbs := call_abs
def rInt1 : List V → Hp → VK → Prop := fun xs H Q => (∃ i, xs = [.int i] ∧ Q (.int i) H) ∨ ∃ k, xs = [.bl k] ∧ Q (.int (if k then 1 else 0)) H
theorem int1K : CallR X (.type "int") rInt1 := call_int1
def rMin2 : List V → Hp → VK → Prop := fun xs H Q => ∃ i j, xs = [.int i, .int j] ∧ Q (.int (if j < i then j else i)) H
theorem min2K (hc : X.calm = true := by rfl) : CallR X (.builtin "min") rMin2 := call_min2 hc
variable {e : Expr} {es : List Expr} {f : Str} {pos apos cpos : Pos} {ta to : TE} {t : TA}
theorem fldK (he : PE X e ta) (hb : attributeBase e f X.env (eval e X.env) = eval e X.env) (h : X.K = K := by rfl) : PE X (.Attribute e f pos) (tFld K ta f) := by subst h; exact pe_fld he hb
theorem sfldK {v : Expr} {tv : TE} (he : PE X e ta) (hv : PE X v tv) (hsw : swapsWith v (some (.Attribute e f pos)) cpos.line X.env = pure false) (h : X.K = K := by rfl) : PS X (.Assign [.Attribute e f pos] v cpos) (sFld K ta tv f) := by
  subst h
  exact ps_fld he hv hsw
theorem tupK {k : Nat} {t : TGs} {n : Nat} (hc : X.calm = true) (h : PGs X es t)
    (hn : (assignEach es X.env).length = n := by rfl) (hst : (assignEach es X.env).findIdx? (·.1) = none := by rfl) (hK : X.K = K := by rfl) : PG X (.Tuple es k pos) (gTup K n t) := by
  subst hK
  exact pg_tup hc h hn hst
variable {tg : Expr}
theorem listK (hl : PE X e ta) (h : X.K = K := by rfl) : PI X tg e (iList K ta) := by subst h; exact pi_list hl
theorem tupIK (hl : PE X e ta) (h : X.K = K := by rfl) : PI X tg e (iTup K ta) := by subst h; exact pi_tup hl
theorem enumK {p tpos : Pos} {elts : List Expr} {kk : Nat} (hg : Gl X "enumerate") (hm : X.mg "enumerate" = none) (ha : PA X [e] t) (hs : starEach [e] X.env = [(false, eval e X.env)] := by rfl) (h : X.K = K := by rfl) :
    PI X (.Tuple elts kk tpos) (.Call (.Name "enumerate" p) [e] [] pos) (iEnum K t) := by
  subst h
  exact pi_enum hg hm ha hs
theorem zipK {e2 : Expr} {p tpos : Pos} {elts : List Expr} {kk : Nat} (hg : Gl X "zip") (hm : X.mg "zip" = none) (ha : PA X [e, e2] t)
    (hs : starEach [e, e2] X.env = (false, eval e X.env) :: starEach [e2] X.env := by rfl) (hpl : (backTo pos (starEach [e2] X.env)).any (·.1) = false := by rfl) (h : X.K = K := by rfl) :
    PI X (.Tuple elts kk tpos) (.Call (.Name "zip" p) [e, e2] [] pos) (iZip K t) := by
  subst h
  exact pi_zip hg hm ha hs hpl
theorem appK {o : Expr} (ho : PE X o to) (ha : PA X (e :: es) t) (hbase : attributeBase o "append" X.env (eval o X.env) = eval o X.env := by rfl)
    (hfew : ((backTo cpos (starEach (e :: es) X.env)).all (fun x => !x.1) && (backToKw cpos (keywordEach [] X.env)).all (fun x => x.1.isSome)
      && decide ((e :: es).length + ([] : List Keyword).length + (if ([] : List Keyword).isEmpty then 0 else 1) < 30)) = true := by rfl)
    (hline : (apos.endLine == cpos.line) = true := by rfl) (hs : starEach (e :: es) X.env = (false, eval e X.env) :: starEach es X.env := by rfl) (hplain : (backTo cpos (starEach es X.env)).any (·.1) = false := by rfl) (h : X.K = K := by rfl) :
    PE X (.Call (.Attribute o "append" apos) (e :: es) [] cpos) (tBM K "list" rAppend to t) := by
  subst h
  exact pe_bm PySem.F.plainAttrs_list PySem.F.slot_list_append PySem.F.type_list_append mt_append ho ha hbase hfew hline hs hplain
/-- == of a list and a bare list -/
def rEqL (K : PySem.W.Frag) : R2 := fun x y H Q => ∃ a b xs, x = .ref a ∧ y = .ref b ∧ SqL K H a xs ∧ SqL K H b [] ∧ Q (.bl (decide (xs.length = 0))) H
theorem eqL (hu : X.A.units < cLine) (hK : X.K = K := by rfl) : OpR X (compareOp .Eq) (rEqL K) := by
  subst hK
  intro pins s σ H x y v u Q I rx ry h
  obtain ⟨a, b, xs, rfl, rfl, h1, h2, q⟩ := h
  obtain rfl : v = Value.ref a := rx
  obtain rfl : u = Value.ref b := ry
  obtain ⟨is, r1, ⟨o1, n1, e1, c1, d1, t1⟩, z1⟩ := I.list h1
  obtain ⟨js, r2, ⟨o2, n2, e2, c2, d2, t2⟩, z2⟩ := I.list h2
  have l1 : s.heap.IsList a is.toArray := ⟨o1, e1, c1, n1, t1⟩
  have l2 : s.heap.IsList b js.toArray := ⟨o2, e2, c2, n2, t2⟩
  have hj : js.length = 0 := r2.length.symm
  have hi := r1.length
  show wpAny _ _ (richCompare .Eq (.ref a) (.ref b)) _ _ _
  by_cases hx : xs.length = 0
  · rw [decide_eq_true hx] at q
    have hz : is.toArray.size = js.toArray.size := by simp; omega
    refine SeqAt.RcAt.lists (e := fun _ => true) l1 l2 hz hu (fun j h1 _ => ?_) _ _ _ _ ⟨.bl true, H, I, ?_, q⟩
    · exact absurd h1 (by simp; omega)
    · show Value.bool _ = Value.bool true
      simp
  · rw [decide_eq_false hx] at q
    have hz : (is.toArray.size != js.toArray.size) = true := by simp; omega
    exact SeqAt.RcAt.lists_lengths l1 l2 hz hu _ _ _ _ ⟨.bl false, H, I, rfl, q⟩
end
end L2

namespace Toy
open PySem L2
def asgVal : Stmt → Expr
  | .Assign _ v _ => v
  | _ => .Constant .none 0 ⟨0, 0, 0, 0⟩
def lamArgs : Expr → Arguments
  | .Lambda a _ _ _ => a
  | _ => { posonlyargs := [], args := [], vararg := none, kwonlyargs := [], kw_defaults := [], kwarg := none, defaults := [] }
def lamBody : Expr → Expr
  | .Lambda _ b _ _ => b
  | e => e
def lamScope : Expr → Scope
  | .Lambda _ _ s _ => s
  | _ => { kind := .function, names := [], isGenerator := false, isCoroutine := false, more := [] }
def top (i : Nat) : PySem.Stmt := PySem.Challenge.pw_deducehall_k13_values_held_and_reckoned.main.body.getD i (.Pass ⟨0, 0, 0, 0⟩)
abbrev s_Term_init : PySem.Stmt := inClass (top 6) 0
abbrev N_Term_init : List Str := ["self", "name", "value"]
theorem sc_Term_init : FnScope N_Term_init ["self", "name", "value"] (defScope s_Term_init) := ⟨rfl, rfl, rfl, by decide +kernel, rfl, by decide +kernel, by decide +kernel⟩
abbrev s_Term_is_variable : PySem.Stmt := inClass (top 6) 1
abbrev N_Term_is_variable : List Str := ["self"]
theorem sc_Term_is_variable : FnScope N_Term_is_variable ["self"] (defScope s_Term_is_variable) := ⟨rfl, rfl, rfl, by decide +kernel, rfl, by decide +kernel, by decide +kernel⟩
abbrev s_Term_under : PySem.Stmt := inClass (top 6) 3
abbrev N_Term_under : List Str := ["self", "bound"]
theorem sc_Term_under : FnScope N_Term_under ["self", "bound"] (defScope s_Term_under) := ⟨rfl, rfl, rfl, by decide +kernel, rfl, by decide +kernel, by decide +kernel⟩
abbrev s_Term_known : PySem.Stmt := inClass (top 6) 4
abbrev N_Term_known : List Str := ["self", "bound"]
theorem sc_Term_known : FnScope N_Term_known ["self", "bound"] (defScope s_Term_known) := ⟨rfl, rfl, rfl, by decide +kernel, rfl, by decide +kernel, by decide +kernel⟩
abbrev s_var : PySem.Stmt := top 7
abbrev N_var : List Str := ["name"]
theorem sc_var : FnScope N_var ["name"] (defScope s_var) := ⟨rfl, rfl, rfl, by decide +kernel, rfl, by decide +kernel, by decide +kernel⟩
abbrev s_val : PySem.Stmt := top 8
abbrev N_val : List Str := ["value"]
theorem sc_val : FnScope N_val ["value"] (defScope s_val) := ⟨rfl, rfl, rfl, by decide +kernel, rfl, by decide +kernel, by decide +kernel⟩
abbrev s_is_number : PySem.Stmt := top 9
abbrev N_is_number : List Str := ["value"]
theorem sc_is_number : FnScope N_is_number ["value"] (defScope s_is_number) := ⟨rfl, rfl, rfl, by decide +kernel, rfl, by decide +kernel, by decide +kernel⟩
abbrev s_value_key : PySem.Stmt := top 10
abbrev N_value_key : List Str := ["value"]
theorem sc_value_key : FnScope N_value_key ["value"] (defScope s_value_key) := ⟨rfl, rfl, rfl, by decide +kernel, rfl, by decide +kernel, by decide +kernel⟩
abbrev s_names_in : PySem.Stmt := top 13
abbrev N_names_in : List Str := ["terms", "names", "term"]
theorem sc_names_in : FnScope N_names_in ["terms"] (defScope s_names_in) := ⟨rfl, rfl, rfl, by decide +kernel, rfl, by decide +kernel, by decide +kernel⟩
abbrev s_matched : PySem.Stmt := top 14
abbrev N_matched : List Str := ["terms", "row", "bound", "wider", "term", "value"]
theorem sc_matched : FnScope N_matched ["terms", "row", "bound"] (defScope s_matched) := ⟨rfl, rfl, rfl, by decide +kernel, rfl, by decide +kernel, by decide +kernel⟩
abbrev s_pattern : PySem.Stmt := top 15
abbrev N_pattern : List Str := ["terms", "bound", "places", "place", "term"]
theorem sc_pattern : FnScope N_pattern ["terms", "bound"] (defScope s_pattern) := ⟨rfl, rfl, rfl, by decide +kernel, rfl, by decide +kernel, by decide +kernel⟩
abbrev s_Literal_init : PySem.Stmt := inClass (top 20) 0
abbrev N_Literal_init : List Str := ["self", "kind", "name", "terms"]
theorem sc_Literal_init : FnScope N_Literal_init ["self", "kind", "name", "terms"] (defScope s_Literal_init) := ⟨rfl, rfl, rfl, by decide +kernel, rfl, by decide +kernel, by decide +kernel⟩
abbrev s_Literal_names : PySem.Stmt := inClass (top 20) 1
abbrev N_Literal_names : List Str := ["self"]
theorem sc_Literal_names : FnScope N_Literal_names ["self"] (defScope s_Literal_names) := ⟨rfl, rfl, rfl, by decide +kernel, rfl, by decide +kernel, by decide +kernel⟩
abbrev s_Rule_init : PySem.Stmt := inClass (top 21) 0
abbrev N_Rule_init : List Str := ["self", "name", "terms", "body", "summed", "part"]
theorem sc_Rule_init : FnScope N_Rule_init ["self", "name", "terms", "body", "summed"] (defScope s_Rule_init) := ⟨rfl, rfl, rfl, by decide +kernel, rfl, by decide +kernel, by decide +kernel⟩
abbrev s_how_often : PySem.Stmt := top 22
abbrev N_how_often : List Str := ["rows", "often", "row", "name"]
theorem sc_how_often : FnScope N_how_often ["rows"] (defScope s_how_often) := ⟨rfl, rfl, rfl, by decide +kernel, rfl, by decide +kernel, by decide +kernel⟩
abbrev s_pos : PySem.Stmt := top 23
abbrev N_pos : List Str := ["name", "terms"]
theorem sc_pos : FnScope N_pos ["name", "terms"] (defScope s_pos) := ⟨rfl, rfl, rfl, by decide +kernel, rfl, by decide +kernel, by decide +kernel⟩
abbrev s_held : PySem.Stmt := top 24
abbrev N_held : List Str := ["sign", "one", "other"]
theorem sc_held : FnScope N_held ["sign", "one", "other"] (defScope s_held) := ⟨rfl, rfl, rfl, by decide +kernel, rfl, by decide +kernel, by decide +kernel⟩
abbrev s_let : PySem.Stmt := top 25
abbrev N_let : List Str := ["target", "deed", "one", "other"]
theorem sc_let : FnScope N_let ["target", "deed", "one", "other"] (defScope s_let) := ⟨rfl, rfl, rfl, by decide +kernel, rfl, by decide +kernel, by decide +kernel⟩
abbrev s_reckoned : PySem.Stmt := top 26
abbrev N_reckoned : List Str := ["deed", "one", "other"]
theorem sc_reckoned : FnScope N_reckoned ["deed", "one", "other"] (defScope s_reckoned) := ⟨rfl, rfl, rfl, by decide +kernel, rfl, by decide +kernel, by decide +kernel⟩
abbrev s_bounded : PySem.Stmt := top 27
abbrev N_bounded : List Str := ["number"]
theorem sc_bounded : FnScope N_bounded ["number"] (defScope s_bounded) := ⟨rfl, rfl, rfl, by decide +kernel, rfl, by decide +kernel, by decide +kernel⟩
abbrev s_Views_init : PySem.Stmt := inClass (top 32) 0
abbrev N_Views_init : List Str := ["self", "store", "own"]
theorem sc_Views_init : FnScope N_Views_init ["self", "store", "own"] (defScope s_Views_init) := ⟨rfl, rfl, rfl, by decide +kernel, rfl, by decide +kernel, by decide +kernel⟩
abbrev s_Views_of : PySem.Stmt := inClass (top 32) 1
abbrev N_Views_of : List Str := ["self", "rule", "number"]
theorem sc_Views_of : FnScope N_Views_of ["self", "rule", "number"] (defScope s_Views_of) := ⟨rfl, rfl, rfl, by decide +kernel, rfl, by decide +kernel, by decide +kernel⟩
abbrev s_holds_between : PySem.Stmt := top 33
abbrev N_holds_between : List Str := ["sign", "one", "other", "left", "right"]
theorem sc_holds_between : FnScope N_holds_between ["sign", "one", "other"] (defScope s_holds_between) := ⟨rfl, rfl, rfl, by decide +kernel, rfl, by decide +kernel, by decide +kernel⟩
abbrev s_fitting : PySem.Stmt := top 34
abbrev N_fitting : List Str := ["terms", "bound", "relation", "places", "values", "found", "row", "wider"]
theorem sc_fitting : FnScope N_fitting ["terms", "bound", "relation"] (defScope s_fitting) := ⟨rfl, rfl, rfl, by decide +kernel, rfl, by decide +kernel, by decide +kernel⟩
abbrev s_sign_holds : PySem.Stmt := top 36
abbrev N_sign_holds : List Str := ["part", "bound"]
theorem sc_sign_holds : FnScope N_sign_holds ["part", "bound"] (defScope s_sign_holds) := ⟨rfl, rfl, rfl, by decide +kernel, rfl, by decide +kernel, by decide +kernel⟩
abbrev s_reckoned_on : PySem.Stmt := top 37
abbrev N_reckoned_on : List Str := ["part", "bound", "value"]
theorem sc_reckoned_on : FnScope N_reckoned_on ["part", "bound"] (defScope s_reckoned_on) := ⟨rfl, rfl, rfl, by decide +kernel, rfl, by decide +kernel, by decide +kernel⟩
abbrev s_widened : PySem.Stmt := top 38
abbrev N_widened : List Str := ["rule", "number", "bound", "views", "part", "wider", "holds"]
theorem sc_widened : FnScope N_widened ["rule", "number", "bound", "views"] (defScope s_widened) := ⟨rfl, rfl, rfl, by decide +kernel, rfl, by decide +kernel, by decide +kernel⟩
abbrev s_solutions : PySem.Stmt := top 39
abbrev N_solutions : List Str := ["rule", "order", "views", "start", "bounds", "number", "wider", "bound"]
theorem sc_solutions : FnScope N_solutions ["rule", "order", "views", "start"] (defScope s_solutions) := ⟨rfl, rfl, rfl, by decide +kernel, rfl, by decide +kernel, by decide +kernel⟩
abbrev s_Relation_init : PySem.Stmt := inClass (top 41) 0
abbrev N_Relation_init : List Str := ["self", "rows", "row"]
theorem sc_Relation_init : FnScope N_Relation_init ["self", "rows"] (defScope s_Relation_init) := ⟨rfl, rfl, rfl, by decide +kernel, rfl, by decide +kernel, by decide +kernel⟩
abbrev s_Relation_has : PySem.Stmt := inClass (top 41) 1
abbrev N_Relation_has : List Str := ["self", "row"]
theorem sc_Relation_has : FnScope N_Relation_has ["self", "row"] (defScope s_Relation_has) := ⟨rfl, rfl, rfl, by decide +kernel, rfl, by decide +kernel, by decide +kernel⟩
abbrev s_Relation_add : PySem.Stmt := inClass (top 41) 3
abbrev N_Relation_add : List Str := ["self", "row", "places"]
theorem sc_Relation_add : FnScope N_Relation_add ["self", "row"] (defScope s_Relation_add) := ⟨rfl, rfl, rfl, by decide +kernel, rfl, by decide +kernel, by decide +kernel⟩
abbrev s_Relation_look : PySem.Stmt := inClass (top 41) 5
abbrev N_Relation_look : List Str := ["self", "places", "values", "key"]
theorem sc_Relation_look : FnScope N_Relation_look ["self", "places", "values"] (defScope s_Relation_look) := ⟨rfl, rfl, rfl, by decide +kernel, rfl, by decide +kernel, by decide +kernel⟩
abbrev s_Store_init : PySem.Stmt := inClass (top 42) 0
abbrev N_Store_init : List Str := ["self"]
theorem sc_Store_init : FnScope N_Store_init ["self"] (defScope s_Store_init) := ⟨rfl, rfl, rfl, by decide +kernel, rfl, by decide +kernel, by decide +kernel⟩
abbrev s_Store_of : PySem.Stmt := inClass (top 42) 1
abbrev N_Store_of : List Str := ["self", "name"]
theorem sc_Store_of : FnScope N_Store_of ["self", "name"] (defScope s_Store_of) := ⟨rfl, rfl, rfl, by decide +kernel, rfl, by decide +kernel, by decide +kernel⟩
abbrev s_store_of : PySem.Stmt := top 45
abbrev N_store_of : List Str := ["facts", "store", "name", "row"]
theorem sc_store_of : FnScope N_store_of ["facts"] (defScope s_store_of) := ⟨rfl, rfl, rfl, by decide +kernel, rfl, by decide +kernel, by decide +kernel⟩
abbrev s_l_dice : PySem.Stmt := top 47
abbrev N_l_dice : List Str := ["cell"]
theorem sc_l_dice : FnScope N_l_dice ["cell"] (defScope s_l_dice) := ⟨rfl, rfl, rfl, by decide +kernel, rfl, by decide +kernel, by decide +kernel⟩
abbrev s_l_roll : PySem.Stmt := top 48
abbrev N_l_roll : List Str := ["dice", "many", "found"]
theorem sc_l_roll : FnScope N_l_roll ["dice", "many"] (defScope s_l_roll) := ⟨rfl, rfl, rfl, by decide +kernel, rfl, by decide +kernel, by decide +kernel⟩
abbrev s_l_rounds : PySem.Stmt := top 49
abbrev N_l_rounds : List Str := ["script", "most", "cells", "cell"]
theorem sc_l_rounds : FnScope N_l_rounds ["script", "most"] (defScope s_l_rounds) := ⟨rfl, rfl, rfl, by decide +kernel, rfl, by decide +kernel, by decide +kernel⟩
abbrev s_l_value : PySem.Stmt := top 50
abbrev N_l_value : List Str := ["dice"]
theorem sc_l_value : FnScope N_l_value ["dice"] (defScope s_l_value) := ⟨rfl, rfl, rfl, by decide +kernel, rfl, by decide +kernel, by decide +kernel⟩
abbrev s_l_less : PySem.Stmt := top 51
abbrev N_l_less : List Str := ["one", "other"]
theorem sc_l_less : FnScope N_l_less ["one", "other"] (defScope s_l_less) := ⟨rfl, rfl, rfl, by decide +kernel, rfl, by decide +kernel, by decide +kernel⟩
abbrev s_law : PySem.Stmt := top 52
abbrev N_law : List Str := ["script", "dice", "turn", "one", "other", "less", "alike_now", "due", "sign", "rule", "numbers", "deed", "first", "second", "made", "store"]
theorem sc_law : FnScope N_law ["script"] (defScope s_law) := ⟨rfl, rfl, rfl, by decide +kernel, rfl, by decide +kernel, by decide +kernel⟩
structure Ad where
  t_DEEDS : Addr
  t_MOST : Tok
  t_SIGNS : Addr
  f_Term_init : Addr
  d_Term_init : FuncData
  f_Term_is_variable : Addr
  d_Term_is_variable : FuncData
  f_Term_under : Addr
  d_Term_under : FuncData
  f_Term_known : Addr
  d_Term_known : FuncData
  f_var : Addr
  d_var : FuncData
  f_val : Addr
  d_val : FuncData
  f_is_number : Addr
  d_is_number : FuncData
  f_value_key : Addr
  d_value_key : FuncData
  f_names_in : Addr
  d_names_in : FuncData
  f_matched : Addr
  d_matched : FuncData
  f_pattern : Addr
  d_pattern : FuncData
  f_Literal_init : Addr
  d_Literal_init : FuncData
  f_Literal_names : Addr
  d_Literal_names : FuncData
  f_Rule_init : Addr
  d_Rule_init : FuncData
  f_how_often : Addr
  d_how_often : FuncData
  f_pos : Addr
  d_pos : FuncData
  f_held : Addr
  d_held : FuncData
  f_let : Addr
  d_let : FuncData
  f_reckoned : Addr
  d_reckoned : FuncData
  f_bounded : Addr
  d_bounded : FuncData
  f_Views_init : Addr
  d_Views_init : FuncData
  f_Views_of : Addr
  d_Views_of : FuncData
  f_holds_between : Addr
  d_holds_between : FuncData
  f_fitting : Addr
  d_fitting : FuncData
  f_sign_holds : Addr
  d_sign_holds : FuncData
  f_reckoned_on : Addr
  d_reckoned_on : FuncData
  f_widened : Addr
  d_widened : FuncData
  f_solutions : Addr
  d_solutions : FuncData
  f_Relation_init : Addr
  d_Relation_init : FuncData
  e_Relation_init : Addr
  f_Relation_has : Addr
  d_Relation_has : FuncData
  f_Relation_add : Addr
  d_Relation_add : FuncData
  f_Relation_look : Addr
  d_Relation_look : FuncData
  f_Store_init : Addr
  d_Store_init : FuncData
  f_Store_of : Addr
  d_Store_of : FuncData
  f_store_of : Addr
  d_store_of : FuncData
  f_l_dice : Addr
  d_l_dice : FuncData
  f_l_roll : Addr
  d_l_roll : FuncData
  f_l_rounds : Addr
  d_l_rounds : FuncData
  f_l_value : Addr
  d_l_value : FuncData
  f_l_less : Addr
  d_l_less : FuncData
  f_law : Addr
  d_law : FuncData
  C_Term : Addr
  C_Literal : Addr
  C_Rule : Addr
  C_Views : Addr
  C_Relation : Addr
  C_Store : Addr
/-- what the top leaves -/
structure Txt (K : PySem.W.Frag) (mg : Str → Option Value) (A : Ad) : Prop where
  F_Term_init : FunD K "__init__" "Term.__init__" (defArgs s_Term_init) (defBody s_Term_init) (defScope s_Term_init) [.non] [] A.f_Term_init A.d_Term_init
  b_Term_init : Binds K A.d_Term_init ["self", "name", "value"] []
  bd_Term_init : ∃ ds, Vals [.non] ds ∧ Binds K A.d_Term_init ["self", "name", "value"] ds
  F_Term_is_variable : Fun K "is_variable" "Term.is_variable" s_Term_is_variable A.f_Term_is_variable A.d_Term_is_variable
  b_Term_is_variable : Binds K A.d_Term_is_variable ["self"] []
  e_Term_is_variable : Meth K A.C_Term "is_variable" A.f_Term_is_variable
  F_Term_under : Fun K "under" "Term.under" s_Term_under A.f_Term_under A.d_Term_under
  b_Term_under : Binds K A.d_Term_under ["self", "bound"] []
  e_Term_under : Meth K A.C_Term "under" A.f_Term_under
  F_Term_known : Fun K "known" "Term.known" s_Term_known A.f_Term_known A.d_Term_known
  b_Term_known : Binds K A.d_Term_known ["self", "bound"] []
  e_Term_known : Meth K A.C_Term "known" A.f_Term_known
  F_var : Fun K "var" "var" s_var A.f_var A.d_var
  b_var : Binds K A.d_var ["name"] []
  m_var : mg "var" = some (.ref A.f_var)
  F_val : Fun K "val" "val" s_val A.f_val A.d_val
  b_val : Binds K A.d_val ["value"] []
  m_val : mg "val" = some (.ref A.f_val)
  F_is_number : Fun K "is_number" "is_number" s_is_number A.f_is_number A.d_is_number
  b_is_number : Binds K A.d_is_number ["value"] []
  m_is_number : mg "is_number" = some (.ref A.f_is_number)
  F_value_key : Fun K "value_key" "value_key" s_value_key A.f_value_key A.d_value_key
  b_value_key : Binds K A.d_value_key ["value"] []
  m_value_key : mg "value_key" = some (.ref A.f_value_key)
  F_names_in : Fun K "names_in" "names_in" s_names_in A.f_names_in A.d_names_in
  b_names_in : Binds K A.d_names_in ["terms"] []
  m_names_in : mg "names_in" = some (.ref A.f_names_in)
  F_matched : Fun K "matched" "matched" s_matched A.f_matched A.d_matched
  b_matched : Binds K A.d_matched ["terms", "row", "bound"] []
  m_matched : mg "matched" = some (.ref A.f_matched)
  F_pattern : Fun K "pattern" "pattern" s_pattern A.f_pattern A.d_pattern
  b_pattern : Binds K A.d_pattern ["terms", "bound"] []
  m_pattern : mg "pattern" = some (.ref A.f_pattern)
  F_Literal_init : Fun K "__init__" "Literal.__init__" s_Literal_init A.f_Literal_init A.d_Literal_init
  b_Literal_init : Binds K A.d_Literal_init ["self", "kind", "name", "terms"] []
  F_Literal_names : Fun K "names" "Literal.names" s_Literal_names A.f_Literal_names A.d_Literal_names
  b_Literal_names : Binds K A.d_Literal_names ["self"] []
  e_Literal_names : Meth K A.C_Literal "names" A.f_Literal_names
  F_Rule_init : FunD K "__init__" "Rule.__init__" (defArgs s_Rule_init) (defBody s_Rule_init) (defScope s_Rule_init) [.non] [] A.f_Rule_init A.d_Rule_init
  b_Rule_init : Binds K A.d_Rule_init ["self", "name", "terms", "body", "summed"] []
  bd_Rule_init : ∃ ds, Vals [.non] ds ∧ Binds K A.d_Rule_init ["self", "name", "terms", "body", "summed"] ds
  F_how_often : Fun K "how_often" "how_often" s_how_often A.f_how_often A.d_how_often
  b_how_often : Binds K A.d_how_often ["rows"] []
  m_how_often : mg "how_often" = some (.ref A.f_how_often)
  F_pos : Fun K "pos" "pos" s_pos A.f_pos A.d_pos
  b_pos : Binds K A.d_pos ["name", "terms"] []
  m_pos : mg "pos" = some (.ref A.f_pos)
  F_held : Fun K "held" "held" s_held A.f_held A.d_held
  b_held : Binds K A.d_held ["sign", "one", "other"] []
  m_held : mg "held" = some (.ref A.f_held)
  F_let : Fun K "let" "let" s_let A.f_let A.d_let
  b_let : Binds K A.d_let ["target", "deed", "one", "other"] []
  m_let : mg "let" = some (.ref A.f_let)
  F_reckoned : Fun K "reckoned" "reckoned" s_reckoned A.f_reckoned A.d_reckoned
  b_reckoned : Binds K A.d_reckoned ["deed", "one", "other"] []
  m_reckoned : mg "reckoned" = some (.ref A.f_reckoned)
  F_bounded : Fun K "bounded" "bounded" s_bounded A.f_bounded A.d_bounded
  b_bounded : Binds K A.d_bounded ["number"] []
  m_bounded : mg "bounded" = some (.ref A.f_bounded)
  F_Views_init : FunD K "__init__" "Views.__init__" (defArgs s_Views_init) (defBody s_Views_init) (defScope s_Views_init) [.non] [] A.f_Views_init A.d_Views_init
  b_Views_init : Binds K A.d_Views_init ["self", "store", "own"] []
  bd_Views_init : ∃ ds, Vals [.non] ds ∧ Binds K A.d_Views_init ["self", "store", "own"] ds
  F_Views_of : Fun K "of" "Views.of" s_Views_of A.f_Views_of A.d_Views_of
  b_Views_of : Binds K A.d_Views_of ["self", "rule", "number"] []
  e_Views_of : Meth K A.C_Views "of" A.f_Views_of
  F_holds_between : Fun K "holds_between" "holds_between" s_holds_between A.f_holds_between A.d_holds_between
  b_holds_between : Binds K A.d_holds_between ["sign", "one", "other"] []
  m_holds_between : mg "holds_between" = some (.ref A.f_holds_between)
  F_fitting : Fun K "fitting" "fitting" s_fitting A.f_fitting A.d_fitting
  b_fitting : Binds K A.d_fitting ["terms", "bound", "relation"] []
  m_fitting : mg "fitting" = some (.ref A.f_fitting)
  F_sign_holds : Fun K "sign_holds" "sign_holds" s_sign_holds A.f_sign_holds A.d_sign_holds
  b_sign_holds : Binds K A.d_sign_holds ["part", "bound"] []
  m_sign_holds : mg "sign_holds" = some (.ref A.f_sign_holds)
  F_reckoned_on : Fun K "reckoned_on" "reckoned_on" s_reckoned_on A.f_reckoned_on A.d_reckoned_on
  b_reckoned_on : Binds K A.d_reckoned_on ["part", "bound"] []
  m_reckoned_on : mg "reckoned_on" = some (.ref A.f_reckoned_on)
  F_widened : Fun K "widened" "widened" s_widened A.f_widened A.d_widened
  b_widened : Binds K A.d_widened ["rule", "number", "bound", "views"] []
  m_widened : mg "widened" = some (.ref A.f_widened)
  F_solutions : FunD K "solutions" "solutions" (defArgs s_solutions) (defBody s_solutions) (defScope s_solutions) [.non] [] A.f_solutions A.d_solutions
  b_solutions : Binds K A.d_solutions ["rule", "order", "views", "start"] []
  bd_solutions : ∃ ds, Vals [.non] ds ∧ Binds K A.d_solutions ["rule", "order", "views", "start"] ds
  m_solutions : mg "solutions" = some (.ref A.f_solutions)
  sq_Relation_init : ∀ H, SqT K H A.e_Relation_init []
  F_Relation_init : FunD K "__init__" "Relation.__init__" (defArgs s_Relation_init) (defBody s_Relation_init) (defScope s_Relation_init) [(.ref A.e_Relation_init)] [] A.f_Relation_init A.d_Relation_init
  b_Relation_init : Binds K A.d_Relation_init ["self", "rows"] []
  bd_Relation_init : ∃ ds, Vals [(.ref A.e_Relation_init)] ds ∧ Binds K A.d_Relation_init ["self", "rows"] ds
  F_Relation_has : Fun K "has" "Relation.has" s_Relation_has A.f_Relation_has A.d_Relation_has
  b_Relation_has : Binds K A.d_Relation_has ["self", "row"] []
  e_Relation_has : Meth K A.C_Relation "has" A.f_Relation_has
  F_Relation_add : Fun K "add" "Relation.add" s_Relation_add A.f_Relation_add A.d_Relation_add
  b_Relation_add : Binds K A.d_Relation_add ["self", "row"] []
  e_Relation_add : Meth K A.C_Relation "add" A.f_Relation_add
  F_Relation_look : Fun K "look" "Relation.look" s_Relation_look A.f_Relation_look A.d_Relation_look
  b_Relation_look : Binds K A.d_Relation_look ["self", "places", "values"] []
  e_Relation_look : Meth K A.C_Relation "look" A.f_Relation_look
  F_Store_init : Fun K "__init__" "Store.__init__" s_Store_init A.f_Store_init A.d_Store_init
  b_Store_init : Binds K A.d_Store_init ["self"] []
  F_Store_of : Fun K "of" "Store.of" s_Store_of A.f_Store_of A.d_Store_of
  b_Store_of : Binds K A.d_Store_of ["self", "name"] []
  e_Store_of : Meth K A.C_Store "of" A.f_Store_of
  F_store_of : Fun K "store_of" "store_of" s_store_of A.f_store_of A.d_store_of
  b_store_of : Binds K A.d_store_of ["facts"] []
  m_store_of : mg "store_of" = some (.ref A.f_store_of)
  F_l_dice : Fun K "_law_dice" "_law_dice" s_l_dice A.f_l_dice A.d_l_dice
  b_l_dice : Binds K A.d_l_dice ["cell"] []
  m_l_dice : mg "_law_dice" = some (.ref A.f_l_dice)
  F_l_roll : Fun K "_law_roll" "_law_roll" s_l_roll A.f_l_roll A.d_l_roll
  b_l_roll : Binds K A.d_l_roll ["dice", "many"] []
  m_l_roll : mg "_law_roll" = some (.ref A.f_l_roll)
  F_l_rounds : Fun K "_law_rounds" "_law_rounds" s_l_rounds A.f_l_rounds A.d_l_rounds
  b_l_rounds : Binds K A.d_l_rounds ["script", "most"] []
  m_l_rounds : mg "_law_rounds" = some (.ref A.f_l_rounds)
  F_l_value : Fun K "_law_value" "_law_value" s_l_value A.f_l_value A.d_l_value
  b_l_value : Binds K A.d_l_value ["dice"] []
  m_l_value : mg "_law_value" = some (.ref A.f_l_value)
  F_l_less : Fun K "_law_less" "_law_less" s_l_less A.f_l_less A.d_l_less
  b_l_less : Binds K A.d_l_less ["one", "other"] []
  m_l_less : mg "_law_less" = some (.ref A.f_l_less)
  F_law : Fun K "law" "law" s_law A.f_law A.d_law
  b_law : Binds K A.d_law ["script"] []
  m_law : mg "law" = some (.ref A.f_law)
  m_Term : mg "Term" = some (.ref A.C_Term)
  cl_Term : Cls K A.C_Term
  M_Term : Mk K A.C_Term A.f_Term_init
  n_Term_name : NoAttr K A.C_Term "name"
  n_Term_value : NoAttr K A.C_Term "value"
  m_Literal : mg "Literal" = some (.ref A.C_Literal)
  cl_Literal : Cls K A.C_Literal
  M_Literal : Mk K A.C_Literal A.f_Literal_init
  n_Literal_kind : NoAttr K A.C_Literal "kind"
  n_Literal_name : NoAttr K A.C_Literal "name"
  n_Literal_terms : NoAttr K A.C_Literal "terms"
  n_Literal_own : NoAttr K A.C_Literal "own"
  m_Rule : mg "Rule" = some (.ref A.C_Rule)
  cl_Rule : Cls K A.C_Rule
  M_Rule : Mk K A.C_Rule A.f_Rule_init
  n_Rule_name : NoAttr K A.C_Rule "name"
  n_Rule_terms : NoAttr K A.C_Rule "terms"
  n_Rule_body : NoAttr K A.C_Rule "body"
  n_Rule_summed : NoAttr K A.C_Rule "summed"
  n_Rule_stands : NoAttr K A.C_Rule "stands"
  m_Views : mg "Views" = some (.ref A.C_Views)
  cl_Views : Cls K A.C_Views
  M_Views : Mk K A.C_Views A.f_Views_init
  n_Views_store : NoAttr K A.C_Views "store"
  n_Views_own : NoAttr K A.C_Views "own"
  m_Relation : mg "Relation" = some (.ref A.C_Relation)
  cl_Relation : Cls K A.C_Relation
  M_Relation : Mk K A.C_Relation A.f_Relation_init
  n_Relation_held : NoAttr K A.C_Relation "held"
  n_Relation_tables : NoAttr K A.C_Relation "tables"
  m_Store : mg "Store" = some (.ref A.C_Store)
  cl_Store : Cls K A.C_Store
  M_Store : Mk K A.C_Store A.f_Store_init
  n_Store_relations : NoAttr K A.C_Store "relations"
  g_DEEDS : mg "DEEDS" = some (.ref A.t_DEEDS)
  sq_DEEDS : ∀ H, SqT K H A.t_DEEDS [.str "+", .str "-", .str "*"]
  g_MOST : mg "MOST" = some (.int (999999999999999999) A.t_MOST)
  g_SIGNS : mg "SIGNS" = some (.ref A.t_SIGNS)
  sq_SIGNS : ∀ H, SqT K H A.t_SIGNS [.str "<", .str "<=", .str "=", .str "!="]
  z_abs : mg "abs" = none
  z_dict : mg "dict" = none
  z_enumerate : mg "enumerate" = none
  z_int : mg "int" = none
  z_isinstance : mg "isinstance" = none
  z_len : mg "len" = none
  z_list : mg "list" = none
  z_range : mg "range" = none
  z_tuple : mg "tuple" = none
  z_zip : mg "zip" = none

/-! ### objects: a Term has a name and a value -/
theorem nv_ : ¬ (("name" : Str) = "value") := by decide +kernel
theorem vn_ : ¬ (("value" : Str) = "name") := by decide +kernel
def tf (n : Str) (v : V) : List (Str × V) := putF "value" v (putF "name" (.str n) [])
theorem tf_name (n : Str) (v : V) : (tf n v).lookup ("name" : Str) = some (.str n) := by
  unfold tf
  rw [lookup_putF, if_neg nv_, lookup_putF, if_pos rfl]
theorem tf_value (n : Str) (v : V) : (tf n v).lookup ("value" : Str) = some v := by
  unfold tf
  rw [lookup_putF, if_pos rfl]
theorem tf_no (n : Str) (v : V) {m : Str} (h1 : ¬ m = "value") (h2 : ¬ m = "name") : (tf n v).lookup m = none := by
  unfold tf
  rw [lookup_putF, if_neg h1, lookup_putF, if_neg h2]
  all_goals rfl
/-- a Term stands at a -/
def TmAt (C : Addr) (H : Hp) (a : Addr) (n : Str) (v : V) : Prop := ∃ dx, H a = some (.ins C dx (tf n v))

theorem same_new {H : Hp} {p : Addr} {o : HO} (h : H p = none) : Same H (upd H p o) := fun b u e => by
  rw [upd_ne (ne_of_none e h)]
  exact e

def spInit (C : Addr) : Sp := fun vs H Q _ => ∃ (p dx : Addr) (n : Str) (v : V), vs = [.ref p, .str n, v] ∧ H p = some (.ins C dx []) ∧ ∀ H', TmAt C H' p n v → (∀ b o, H b = some o → b ≠ p → H' b = some o) → Q .non H'
def spIsVar (C : Addr) : Sp := fun vs H Q _ => ∃ (p : Addr) (n : Str) (v : V), vs = [.ref p] ∧ TmAt C H p n v ∧ Q (.bl (!decide (n = ""))) H
def spVar (C : Addr) : Sp := fun vs H Q _ => ∃ n : Str, vs = [.str n] ∧ ∀ x H', H x = none → TmAt C H' x n .non → Same H H' → Q (.ref x) H'
def spVal (C : Addr) : Sp := fun vs H Q _ => ∃ v : V, vs = [v] ∧ ∀ x H', H x = none → TmAt C H' x "" v → Same H H' → Q (.ref x) H'
section
variable {P : Program} {w : World} {K : PySem.W.Frag} {mg : Str → Option Value} {base : Heap} {A : Ad}
theorem ok_init (T : Txt K mg A) : FnOk P w K mg base CX0 1 A.f_Term_init A.d_Term_init ["self", "name", "value"] (spInit A.C_Term) := by
  refine T.F_Term_init.ok sc_Term_init (fun vs H Q E h => ?_) (fun cdv ar outer s H vs Q E hr h => ?_)
  · obtain ⟨p, dx, n, v, rfl, _⟩ := h
    rfl
  · obtain ⟨p, dx, n, v, rfl, hp, k⟩ := h
    refine ⟨_, (pss_cons (sfldK K (pv 0) (pv 1) rfl)
      (pss_one (sfldK K (pv 0) (pv 2) rfl))), ?_⟩
    refine ⟨_, rfl, _, rfl, p, _, dx, _, rfl, hp, T.cl_Term, T.n_Term_name, (by show 0 < 1000; decide), _, rfl, _, rfl, p, _, dx, _, rfl, upd_same, T.cl_Term, T.n_Term_value, (by show 1 < 1000; decide), ?_⟩
    exact k _ ⟨dx, upd_same⟩ fun b o e hb => by rw [upd_ne hb, upd_ne hb]; exact e
theorem ok_is_variable (T : Txt K mg A) : FnOk P w K mg base CX0 1 A.f_Term_is_variable A.d_Term_is_variable ["self"] (spIsVar A.C_Term) := by
  refine T.F_Term_is_variable.ok sc_Term_is_variable (fun vs H Q E h => ?_) (fun cdv ar outer s H vs Q E hr h => ?_)
  · obtain ⟨p, n, v, rfl, _⟩ := h
    rfl
  · obtain ⟨p, n, v, rfl, ⟨dx, hp⟩, k⟩ := h
    refine ⟨_, (pss_one (ps_ret (pe_cmpR op_ne (fldK K (pv 0) rfl) pe_str (nomark _)))), ?_⟩
    refine ⟨_, rfl, p, _, dx, _, _, rfl, hp, T.cl_Term, T.n_Term_name, tf_name _ _, rfl, ?_⟩
    have e : decide (V.str n = V.str "") = decide (n = ("" : Str)) := by simp
    show Q (V.bl (!decide (V.str n = V.str ""))) H
    rw [e]
    exact k
theorem no_isv (n : Str) (v : V) : (tf n v).lookup ("is_variable" : Str) = none := tf_no n v (by decide +kernel) (by decide +kernel)
theorem ok_var (T : Txt K mg A) : FnOk P w K mg base CX0 3 A.f_var A.d_var ["name"] (spVar A.C_Term) := by
  have G_Term_init : FnOk P w K mg base CX0 1 A.f_Term_init A.d_Term_init ["self", "name", "value"] (spInit A.C_Term) := ok_init T
  obtain ⟨ds, hv_Term_init, hb_Term_init⟩ := T.bd_Term_init
  refine T.F_var.ok sc_var (fun vs H Q E h => ?_) (fun cdv ar outer s H vs Q E hr h => ?_)
  · obtain ⟨n, rfl, _⟩ := h
    rfl
  · obtain ⟨n, rfl, k⟩ := h
    refine ⟨_, (pss_one (ps_ret (pe_make T.M_Term G_Term_init (hr.mono (by decide)) (by rfl) T.m_Term hb_Term_init hv_Term_init pass0 (pa_cons (pv 0) pa_nil)))), ?_⟩
    refine ⟨_, rfl, fun x dx nx ndx nex => ?_⟩
    refine ⟨x, dx, n, .non, rfl, upd_same, fun H' h1 h2 => ⟨rfl, k x H' nx h1 fun b o e => ?_⟩⟩
    exact h2 b o (by rw [upd_ne (ne_of_none e nx), upd_ne (ne_of_none e ndx)]; exact e) (ne_of_none e nx)
theorem ok_val (T : Txt K mg A) : FnOk P w K mg base CX0 3 A.f_val A.d_val ["value"] (spVal A.C_Term) := by
  have G_Term_init : FnOk P w K mg base CX0 1 A.f_Term_init A.d_Term_init ["self", "name", "value"] (spInit A.C_Term) := ok_init T
  refine T.F_val.ok sc_val (fun vs H Q E h => ?_) (fun cdv ar outer s H vs Q E hr h => ?_)
  · obtain ⟨v, rfl, _⟩ := h
    rfl
  · obtain ⟨v, rfl, k⟩ := h
    refine ⟨_, (pss_one (ps_ret (pe_make T.M_Term G_Term_init (hr.mono (by decide)) (by rfl) T.m_Term T.b_Term_init .nil pass0 (pa_cons pe_str (pa_cons (pv 0) pa_nil))))), ?_⟩
    refine ⟨_, rfl, fun x dx nx ndx nex => ?_⟩
    refine ⟨x, dx, "", v, rfl, upd_same, fun H' h1 h2 => ⟨rfl, k x H' nx h1 fun b o e => ?_⟩⟩
    exact h2 b o (by rw [upd_ne (ne_of_none e nx), upd_ne (ne_of_none e ndx)]; exact e) (ne_of_none e nx)
end
end Toy

set_option Elab.async false
set_option maxRecDepth 100000
set_option maxHeartbeats 4000000
namespace Toy
open PySem L2
theorem iteD {c : Prop} [Decidable c] {A B : Prop} (h1 : c → A) (h2 : ¬ c → B) : if decide c = true then A else B := by
  by_cases h : c
  · rw [decide_eq_true h]; exact iteT (h1 h)
  · rw [decide_eq_false h]; exact iteF (h2 h)
theorem iteND {c : Prop} [Decidable c] {A B : Prop} (h1 : ¬ c → A) (h2 : c → B) : if (!decide c) = true then A else B := by
  by_cases h : c
  · rw [decide_eq_true h]; exact iteF (h2 h)
  · rw [decide_eq_false h]; exact iteT (h1 h)
theorem iteB {c : Bool} {A B : Prop} (h1 : c = true → A) (h2 : c = false → B) : if c = true then A else B := by
  cases c
  · exact iteF (h2 rfl)
  · exact iteT (h1 rfl)
theorem ifs_of {c : TT} {t u : TS} {D : Ends} {σ : L2.St} {H : Hp} (b : Bool) (hc : ∀ Q : Bool → Hp → Prop, Q b H → c σ H Q) (h1 : b = true → t D σ H) (h2 : b = false → u D σ H) : tIfS c t u D σ H :=
  hc _ (iteB h1 h2)
theorem dec_int (i j : Int) : decide (V.int i = V.int j) = decide (i = j) := by simp
theorem dec_str (i j : Str) : decide (V.str i = V.str j) = decide (i = j) := by simp
theorem dec_bl (i j : Bool) : decide (V.bl i = V.bl j) = decide (i = j) := by simp
/-! ### dice -/
def DiceAt (H : Hp) (d : Addr) : Prop := ∃ x y z : Int, H d = some (.lst [.int x, .int y, .int z])
def spDice : Sp := fun vs H Q _ => ∃ c : Int, vs = [.int c] ∧ ∀ (p : Addr) (x y z : Int), H p = none → Q (.ref p) (upd H p (.lst [.int x, .int y, .int z]))
def spRoll : Sp := fun vs H Q _ => ∃ (d : Addr) (m : Int), vs = [.ref d, .int m] ∧ DiceAt H d ∧ 0 < m ∧ m < 1000 ∧ ∀ (k : Int) (H' : Hp), 0 ≤ k → k < m → DiceAt H' d → (∀ b, b ≠ d → H' b = H b) → Q (.int k) H'
def spRounds (K : PySem.W.Frag) : Sp := fun vs H Q _ => ∃ (a : Addr) (ns : List Int), vs = [.ref a, .int 1] ∧ SqL K H a (ns.map V.int) ∧
  ∀ (p d : Addr) (H' : Hp), Same H H' → H p = none → H d = none → d ≠ p → DiceAt H' d → H' p = some (.lst [.ref d]) → Q (.ref p) H'
section
variable {P : Program} {w : World} {K : PySem.W.Frag} {mg : Str → Option Value} {base : Heap} {A : Ad}
theorem ok_dice (T : Txt K mg A) : FnOk P w K mg base CX0 1 A.f_l_dice A.d_l_dice ["cell"] spDice := by
  refine T.F_l_dice.ok sc_l_dice (fun vs H Q E h => ?_) (fun cdv ar outer s H vs Q E hr h => ?_)
  · obtain ⟨c, rfl, _⟩ := h
    rfl
  · obtain ⟨c, rfl, k⟩ := h
    refine ⟨_, (pss_cons (ps_if (pt_chain op_lt op_lt (pe_op op_sub pe_int pe_int) (pv 0) pe_int)
        (pss_one (ps_ret (pe_lst (pa_cons (pe_callB absK (by rfl) T.z_abs (by decide +kernel) (pa_cons (pv 0) pa_nil)) (pa_cons pe_int (pa_cons pe_int pa_nil))))))
        pss_nil)
      (pss_one (ps_ret (pe_lst (pa_cons (pv 0) (pa_cons (pe_op op_add pe_int (pe_op op_mod (pe_callTy int1K (by rfl) T.z_int (by decide +kernel) (pa_cons (pv 0) pa_nil)) pe_int)) (pa_cons (pe_callTy int1K (by rfl) T.z_int (by decide +kernel) (pa_cons (pe_cmpR op_ge (pv 0) (pe_op op_pow pe_int pe_int) (nomark _)) pa_nil)) pa_nil))))))), ?_⟩
    have back : tRet (tLst (tCons (tVar 0) (tCons (tOp (rI0 fun i j => V.int (i + j)) (tC (V.int 1)) (tOp (rI (fun x j => 0 < j) fun i j => V.int (i % j)) (tCB (fun xs H Q => (∃ i, xs = [V.int i] ∧ Q (V.int i) H) ∨ ∃ k, xs = [V.bl k] ∧ Q (V.int (if k = true then 1 else 0)) H) (tCons (tVar 0) tNil)) (tC (V.int 1009))))
        (tCons (tCB (fun xs H Q => (∃ i, xs = [V.int i] ∧ Q (V.int i) H) ∨ ∃ k, xs = [V.bl k] ∧ Q (V.int (if k = true then 1 else 0)) H) (tCons (tOp (rI0 fun i j => V.bl (decide (j ≤ i))) (tVar 0) (tOp (rI CPow fun i j => V.int (i ^ j.toNat)) (tC (V.int 10)) (tC (V.int 18)))) tNil)) tNil))))
        { nx := fun x H' => Q V.non H', rt := Q } (L2.start N_l_dice [V.int c]) H := by
      refine ⟨_, rfl, _, rfl, .inl ⟨_, rfl, _, _, rfl, rfl, (by show (0 : Int) < 1009; decide), _, _, rfl, rfl, _, rfl, _, _, rfl, rfl, (by exact ⟨by decide, by decide, by decide⟩), _, _, rfl, rfl, .inr ⟨_, rfl, (by show 3 ≤ sizeLine; decide), fun p hp => k _ _ _ _ hp⟩⟩⟩
    refine ⟨_, _, rfl, rfl, _, rfl, _, _, rfl, rfl, _, rfl, ?_⟩
    refine iteD (fun _ => ?_) (fun _ => ?_)
    · refine ⟨_, _, rfl, rfl, _, rfl, ?_⟩
      refine iteD (fun _ => ?_) (fun _ => back)
      exact ⟨_, rfl, _, rfl, (by show 3 ≤ sizeLine; decide), fun p hp => k _ _ _ _ hp⟩
    · exact ⟨_, rfl, iteF back⟩
theorem ok_roll (T : Txt K mg A) : FnOk P w K mg base CX0 1 A.f_l_roll A.d_l_roll ["dice", "many"] spRoll := by
  refine T.F_l_roll.ok sc_l_roll (fun vs H Q E h => ?_) (fun cdv ar outer s H vs Q E hr h => ?_)
  · obtain ⟨d, m, rfl, _⟩ := h
    rfl
  · obtain ⟨d, m, rfl, ⟨x, y, z, hd⟩, m0, m1, k⟩ := h
    refine ⟨_, (pss_cons (ps_if (PW.pt (pw_or (pt_cmpR op_eq (pe_ix (ixL K) (pv 0) pe_int (fun _ _ => rfl)) pe_int (nomark _)) (pw_or1 (PW.pt (pw_and (pt_cmpR op_eq (pe_ix (ixL K) (pv 0) pe_int (fun _ _ => rfl)) pe_int (nomark _)) (pw_and1 (pt_cmpR op_gt (pe_ix (ixL K) (pv 0) pe_int (fun _ _ => rfl)) pe_int (nomark _))))))))
        (pss_cons (ps_set (i := 2) sc_l_roll.nd rfl (Or.inl rfl) (pe_op op_mod (pe_callTy int1K (by rfl) T.z_int (by decide +kernel) (pa_cons (pe_ix (ixL K) (pv 0) pe_int (fun _ _ => rfl)) pa_nil)) (pv 1)))
        (pss_cons (ps_asg (pe_op op_fdiv (pe_ix (ixL K) (pv 0) pe_int (fun _ _ => rfl)) (pv 1)) (pg_sub (pv 0) pe_int set_list))
        (pss_one (ps_ret (pv 2)))))
        pss_nil)
      (pss_cons (ps_asg pe_int (pg_sub (pv 0) pe_int set_list))
      (pss_cons (ps_asg (pe_op op_mod (pe_callTy int1K (by rfl) T.z_int (by decide +kernel) (pa_cons (pe_op op_add (pe_op op_add (pe_op op_mul (pe_ix (ixL K) (pv 0) pe_int (fun _ _ => rfl)) pe_int) (pe_op op_mul (pe_ix (ixL K) (pv 0) pe_int (fun _ _ => rfl)) pe_int)) pe_int) pa_nil)) pe_int) (pg_sub (pv 0) pe_int set_list))
      (pss_cons (ps_asg (pe_op op_add (pe_ix (ixL K) (pv 0) pe_int (fun _ _ => rfl)) pe_int) (pg_sub (pv 0) pe_int set_list))
      (pss_one (ps_ret (pe_op op_mod (pe_callTy int1K (by rfl) T.z_int (by decide +kernel) (pa_cons (pe_op op_add (pe_op op_fdiv (pe_ix (ixL K) (pv 0) pe_int (fun _ _ => rfl)) pe_int) (pe_ix (ixL K) (pv 0) pe_int (fun _ _ => rfl))) pa_nil)) (pv 1)))))))), ?_⟩
    refine ifs_of (decide (z = 2) || (decide (z = 1) && decide (0 < x))) (fun Q' q => ?_) (fun hb => ?_) (fun hb => ?_)
    · refine ⟨_, rfl, _, _, _, _, rfl, rfl, SqL.of hd, rfl, rfl, _, rfl, ?_⟩
      rw [dec_int]
      refine iteD (fun h => ?_) (fun h => ?_)
      · rw [decide_eq_true h, Bool.true_or] at q
        exact q
      · rw [decide_eq_false h, Bool.false_or] at q
        refine ⟨_, rfl, _, _, _, _, rfl, rfl, SqL.of hd, rfl, rfl, _, rfl, ?_⟩
        rw [dec_int]
        refine iteD (fun h => ?_) (fun h => ?_)
        · rw [decide_eq_true h, Bool.true_and] at q
          exact ⟨_, rfl, _, _, _, _, rfl, rfl, SqL.of hd, rfl, _, _, rfl, rfl, _, rfl, q⟩
        · rw [decide_eq_false h, Bool.false_and] at q
          exact q
    · refine ⟨_, rfl, _, _, _, _, rfl, rfl, SqL.of hd, rfl, .inl ⟨_, rfl, _, rfl, _, _, rfl, rfl, m0, ?_⟩⟩
      refine ⟨_, rfl, _, _, _, _, rfl, rfl, SqL.of hd, rfl, _, rfl, _, _, rfl, rfl, ⟨m0, by omega⟩, ?_⟩
      refine ⟨_, rfl, _, _, _, _, rfl, rfl, hd, rfl, _, rfl, ?_⟩
      exact k _ _ (Int.emod_nonneg _ (by omega)) (Int.emod_lt_of_pos _ m0) ⟨_, _, _, upd_same⟩ fun b hb => upd_ne hb
    · refine ⟨_, rfl, _, _, _, _, rfl, rfl, hd, rfl, ?_⟩
      refine ⟨_, rfl, _, _, _, _, rfl, rfl, SqL.of upd_same, rfl, _, _, rfl, rfl, .inr (by decide), ?_⟩
      refine ⟨_, rfl, _, _, _, _, rfl, rfl, SqL.of upd_same, rfl, _, _, rfl, rfl, .inr (by decide), ?_⟩
      refine ⟨_, _, rfl, rfl, _, _, rfl, rfl, .inl ⟨_, rfl, _, _, rfl, rfl, (by show (0 : Int) < 2147483647; decide), ?_⟩⟩
      refine ⟨_, rfl, _, _, _, _, rfl, rfl, upd_same, rfl, ?_⟩
      refine ⟨_, rfl, _, _, _, _, rfl, rfl, SqL.of upd_same, rfl, _, _, rfl, rfl, ?_⟩
      refine ⟨_, rfl, _, _, _, _, rfl, rfl, upd_same, rfl, ?_⟩
      refine ⟨_, rfl, _, _, _, _, rfl, rfl, SqL.of upd_same, rfl, _, _, rfl, rfl, ⟨by decide, by decide⟩, ?_⟩
      refine ⟨_, rfl, _, _, _, _, rfl, rfl, SqL.of upd_same, rfl, _, _, rfl, rfl, .inl ⟨_, rfl, _, rfl, _, _, rfl, rfl, m0, ?_⟩⟩
      rw [upd_upd, upd_upd]
      exact k _ _ (Int.emod_nonneg _ (by omega)) (Int.emod_lt_of_pos _ m0) ⟨_, _, _, upd_same⟩ fun b hb => upd_ne hb
theorem ok_rounds (T : Txt K mg A) : FnOk P w K mg base CX0 2 A.f_l_rounds A.d_l_rounds ["script", "most"] (spRounds K) := by
  have G_l_dice : FnOk P w K mg base CX0 1 A.f_l_dice A.d_l_dice ["cell"] spDice := ok_dice T
  refine T.F_l_rounds.ok sc_l_rounds (fun vs H Q E h => ?_) (fun cdv ar outer s H vs Q E hr h => ?_)
  · obtain ⟨a, ns, rfl, _⟩ := h
    rfl
  · obtain ⟨a, ns, rfl, hS, k⟩ := h
    refine ⟨_, (pss_cons (ps_set (i := 2) sc_l_rounds.nd rfl (Or.inl rfl) (pe_slice (slL K) (pv 0) po_none (po_some (pv 1))))
      (pss_cons (ps_if (pt_cmpR (eqD K hr.units) (pv 2) (pe_lst pa_nil) (nomark _))
        (pss_one (ps_set (i := 2) sc_l_rounds.nd rfl (Or.inl rfl) (pe_lst (pa_cons pe_int pa_nil))))
        pss_nil)
      (pss_one (ps_ret (pe_lc (own := [("cell", 3)]) (by rfl) sc_l_rounds.nd (listK K (pv 2)) (blkOk_by (own := [("cell", 3)]) (N := N_l_rounds) (sc := defScope s_l_rounds) (by decide +kernel)) (fun _ _ _ _ _ => (pg_name (i := 3) sc_l_rounds.nd rfl (Or.inl rfl))) (fun _ _ _ _ _ => pts_nil) (fun _ _ _ _ _ => (pe_call G_l_dice (hr.mono (by decide)) (by rfl) T.m_l_dice T.F_l_dice.kp T.b_l_dice .nil pass0 (pa_cons (pv 3) pa_nil)))))))), ?_⟩
    have fin : ∀ (c : Int) (l : Addr) (H1 : Hp), Same H H1 → H1 l = some (.lst [.int c]) → tRet (tLc (iList K (tVar 2)) (gName 3) tYes (tCall spDice [] E0 (tCons (tVar 3) tNil)) [3]) { nx := fun x H' => Q V.non H', rt := Q } [some (.ref a), some (.int 1), some (.ref l), none] H1 := by
      intro c l H1 e1 h1
      refine ⟨_, rfl, l, rfl, ⟨_, SqL.of h1⟩, fun D hD => ?_⟩
      have nlD : l ≠ D := ne_of_none h1 hD
      refine lc_list (K := K) (a := l) (xs := [.int c]) (fun i H' => Same H1 H' ∧ ((i = 0 ∧ H' D = some (.lst [])) ∨ (i = 1 ∧ ∃ d, DiceAt H' d ∧ H1 d = none ∧ d ≠ D ∧ H' D = some (.lst [.ref d]))))
        ⟨same_new hD, .inl ⟨rfl, upd_same⟩⟩ (fun i H' hi hP => SqL.of (hP.1 _ _ h1)) ?_ ?_
      · rintro i x H' hi ⟨s1, hP⟩
        rcases hP with ⟨rfl, hP⟩ | ⟨rfl, _⟩
        · cases hi
          refine ⟨rfl, _, rfl, c, rfl, fun p x y z hp => ?_⟩
          have npD : D ≠ p := ne_of_none hP hp
          refine ⟨[], by rw [upd_ne npD]; exact hP, by decide, ?_, .inr ⟨rfl, p, ⟨x, y, z, ?_⟩, s1.free hp, npD.symm, upd_same⟩⟩
          · intro b o e
            have hb := s1 _ _ e
            rw [upd_ne (ne_of_none e hD), upd_ne (ne_of_none hb hp)]
            exact hb
          · rw [upd_ne npD.symm, upd_same]
        · cases hi
      · rintro H' ⟨s1, hP⟩
        rcases hP with ⟨h0, _⟩ | ⟨_, d, h2, h3, h4, h5⟩
        · cases h0
        · exact k D d H' (e1.trans s1) (e1.free hD) (e1.free h3) h4 h2 h5
    refine ⟨_, rfl, _, rfl, _, rfl, _, _, rfl, hS, fun l hl => ?_⟩
    have hx : ∃ c : Int, cutV (ns.map V.int) none (some 1) = [] ∨ cutV (ns.map V.int) none (some 1) = [V.int c] := by
      cases ns with
      | nil => exact ⟨0, .inl rfl⟩
      | cons n r => exact ⟨n, .inr rfl⟩
    obtain ⟨c, hx⟩ := hx
    have e1 : Same H (upd H l (.lst (cutV (ns.map V.int) none (some 1)))) := same_new hl
    rcases hx with hx | hx
    · rw [hx] at e1 ⊢
      refine ⟨_, rfl, Nat.zero_le _, fun m hm => ?_⟩
      refine ⟨.list [], .list [], .lst (SqL.of (by rw [upd_ne (ne_of_none upd_same hm), upd_same])) .nil, .lst (SqL.of upd_same) .nil, rfl, rfl, _, rfl, ?_⟩
      refine iteT ⟨(by decide), fun q hq => ?_⟩
      exact fin 0 q _ ((e1.trans (same_new hm)).trans (same_new hq)) upd_same
    · rw [hx] at e1 ⊢
      refine ⟨_, rfl, Nat.zero_le _, fun m hm => ?_⟩
      refine ⟨.list [.int c], .list [], .lst (SqL.of (by rw [upd_ne (ne_of_none upd_same hm), upd_same])) (.cons (.int c) .nil), .lst (SqL.of upd_same) .nil, rfl, rfl, _, rfl, ?_⟩
      refine iteF ?_
      exact fin c l _ (e1.trans (same_new hm)) (by rw [upd_ne (ne_of_none upd_same hm), upd_same])
end
end Toy

set_option Elab.async false
set_option maxRecDepth 100000
set_option maxHeartbeats 4000000
/-! ## what the functions tell, said plainly -/
namespace U
open PySem
abbrev Tm := Sum Str Int
def isv : Tm → Option Str
  | .inl s => some s
  | .inr _ => none
def vars (ts : List Tm) : List Str := ts.filterMap isv
def addN (acc : List Str) (x : Str) : List Str := if x ∈ acc then acc else acc ++ [x]
def dd (xs : List Str) : List Str := xs.foldl addN []
def nms (ts : List Tm) : List Str := dd (vars ts)
structure Pt where
  kind : Str
  name : Str
  ts : List Tm
structure RR where
  name : Str
  ts : List Tm
  body : List Pt
  sm : Bool
def rows (r : RR) : List (List Str) := nms r.ts :: r.body.map fun q => nms q.ts
def cnt (l : List (List Str)) (x : Str) : Nat := (l.filter fun row => decide (x ∈ row)).length
def shd (r : RR) (q : Pt) (x : Str) : Bool := decide ((if x ∈ nms q.ts then 1 else 0) < cnt (rows r) x)
def nd (r : RR) (q : Pt) : List Str := if q.kind = "cmp" then nms q.ts else if q.kind = "let" then nms (q.ts.drop 1) else if q.kind = "neg" then (nms q.ts).filter (shd r q) else []
def gv (q : Pt) : List Str := if q.kind = "pos" then nms q.ts else if q.kind = "let" then nms (q.ts.take 1) else []
def rdy (r : RR) (b : List Str) (q : Pt) : Bool := (nd r q).all fun x => decide (x ∈ b)
def step (r : RR) (b : List Str) (q : Pt) : List Str := if rdy r b q = true then (gv q).foldl addN b else b
def pass (r : RR) (b : List Str) : List Str := r.body.foldl (step r) b
def itp (r : RR) : Nat → List Str
  | 0 => []
  | n + 1 => pass r (itp r n)
def lim (r : RR) : List Str := itp r (r.body.length + 1)
def wanted (r : RR) : List Str := (nms r.ts :: r.body.map (nd r)).flatten
def ls (r : RR) : List Str := ((wanted r).filter fun x => decide (x ∉ lim r)).foldl addN []
def tn : Tm → Str
  | .inl s => s
  | .inr _ => ""
def fst (q : Pt) : Str := tn (q.ts.getD 0 (.inr 0))
def pt (r : RR) (j : Nat) : Pt := r.body.getD j ⟨"", "", []⟩
def hv (r : RR) (j : Nat) : Bool := decide (fst (pt r j) ∈ nd r (pt r j)) || ((List.range r.body.length).filter fun k => decide (k ≠ j)).any fun k => decide (fst (pt r j) ∈ gv (pt r k))
def rt (r : RR) : Bool := (List.range r.body.length).any fun j => decide ((pt r j).kind = "let") && hv r j
def tlong : Tm → Bool
  | .inl _ => false
  | .inr i => !(decide (-999999999999999999 ≤ i) && decide (i ≤ 999999999999999999))
def allT (r : RR) : List Tm := r.ts ++ r.body.flatMap fun q => q.ts
def asked (r : RR) (k : Str) : List Str := dd ((r.body.filter fun q => decide (q.kind = k)).map fun q => q.name)
def smallS : Str := "abcdefghijklmnopqrstuvwxyz"
def innerS : Str := "abcdefghijklmnopqrstuvwxyzABCDEFGHIJKLMNOPQRSTUVWXYZ0123456789_"
def sml (z : Str) : Bool := match z.cps.toList with
  | [c] => decide (c ∈ smallS.cps.toList)
  | _ => false
def inn (z : Str) : Bool := match z.cps.toList with
  | [c] => decide (c ∈ innerS.cps.toList)
  | _ => false
def isN (z : Str) : Bool := sml (L2.cutS z none (some 1)) && (!decide (z = "not") && z.cps.toList.all fun c => inn ⟨#[c]⟩)
inductive Ch where
  | ok | rule | size
  deriving DecidableEq
def chk (r : RR) : Ch :=
  if ((r.name :: asked r "pos") ++ asked r "neg").all isN = false then .rule else if (allT r).any tlong = true then .size else if ls r ≠ [] then .rule else if rt r = true then .rule else if r.sm = true ∧ r.body = [] then .rule else .ok
def isF (r : RR) : Bool := decide (r.body.length = 0) && decide ((nms r.ts).length = 0)
/-! ### names put in -/
theorem addN_mem {acc : List Str} {x y : Str} : y ∈ addN acc x ↔ y ∈ acc ∨ y = x := by
  unfold addN
  split
  · rename_i h
    constructor
    · exact .inl
    · rintro (h1 | rfl)
      · exact h1
      · exact h
  · simp
theorem fold_mem {xs : List Str} : ∀ {acc : List Str} {y : Str}, y ∈ xs.foldl addN acc ↔ y ∈ acc ∨ y ∈ xs := by
  induction xs with
  | nil => intro acc y; simp
  | cons x xs ih =>
    intro acc y
    rw [List.foldl_cons, ih, addN_mem, List.mem_cons, or_assoc]
theorem addN_nodup {acc : List Str} {x : Str} (h : acc.Nodup) : (addN acc x).Nodup := by
  unfold addN
  split
  · exact h
  · rename_i hx
    exact List.nodup_append.mpr ⟨h, by simp, fun a ha b hb e => by
      rw [List.mem_singleton] at hb
      subst hb e
      exact hx ha⟩
theorem fold_nodup {xs : List Str} : ∀ {acc : List Str}, acc.Nodup → (xs.foldl addN acc).Nodup := by
  induction xs with
  | nil => intro acc h; exact h
  | cons x xs ih => intro acc h; exact ih (addN_nodup h)
theorem addN_len {acc : List Str} {x : Str} : (addN acc x).length ≤ acc.length + 1 := by
  unfold addN
  split
  · omega
  · simp
theorem fold_len {xs : List Str} : ∀ {acc : List Str}, (xs.foldl addN acc).length ≤ acc.length + xs.length := by
  induction xs with
  | nil => intro acc; exact Nat.le_refl _
  | cons x xs ih =>
    intro acc
    have h1 := ih (acc := addN acc x)
    have h2 := addN_len (acc := acc) (x := x)
    rw [List.foldl_cons, List.length_cons]
    omega
theorem dd_mem {xs : List Str} {y : Str} : y ∈ dd xs ↔ y ∈ xs := by
  unfold dd
  rw [fold_mem]
  simp
theorem dd_nodup (xs : List Str) : (dd xs).Nodup := fold_nodup List.nodup_nil
theorem dd_len (xs : List Str) : (dd xs).length ≤ xs.length := by
  have := fold_len (xs := xs) (acc := [])
  simpa [dd] using this
theorem vars_len (ts : List Tm) : (vars ts).length ≤ ts.length := List.length_filterMap_le _ _
theorem nms_len (ts : List Tm) : (nms ts).length ≤ ts.length := Nat.le_trans (dd_len _) (vars_len ts)
theorem nms_mem {ts : List Tm} {x : Str} : x ∈ nms ts ↔ .inl x ∈ ts := by
  unfold nms vars
  rw [dd_mem, List.mem_filterMap]
  constructor
  · rintro ⟨t, ht, e⟩
    cases t with
    | inl s => cases e; exact ht
    | inr i => cases e
  · intro h
    exact ⟨_, h, rfl⟩
/-- names put in stay ahead -/
theorem addN_pre (acc : List Str) (x : Str) : acc <+: addN acc x := by
  unfold addN
  split
  · exact List.prefix_refl _
  · exact List.prefix_append _ _
theorem fold_pre (xs : List Str) : ∀ acc : List Str, acc <+: xs.foldl addN acc := by
  induction xs with
  | nil => intro acc; exact List.prefix_refl _
  | cons x xs ih => intro acc; exact (addN_pre acc x).trans (ih _)
theorem step_pre (r : RR) (b : List Str) (q : Pt) : b <+: step r b q := by
  unfold step
  split
  · exact fold_pre _ _
  · exact List.prefix_refl _
theorem steps_pre (r : RR) (qs : List Pt) : ∀ b : List Str, b <+: qs.foldl (step r) b := by
  induction qs with
  | nil => intro b; exact List.prefix_refl _
  | cons q qs ih => intro b; exact (step_pre r b q).trans (ih _)
theorem pass_pre (r : RR) (b : List Str) : b <+: pass r b := steps_pre r _ b
theorem pre_eq {a b : List Str} (h : a <+: b) (hl : b.length ≤ a.length) : a = b := h.eq_of_length (Nat.le_antisymm h.length_le hl)
theorem step_nodup (r : RR) {b : List Str} (q : Pt) (h : b.Nodup) : (step r b q).Nodup := by
  unfold step
  split
  · exact fold_nodup h
  · exact h
theorem steps_nodup (r : RR) (qs : List Pt) : ∀ {b : List Str}, b.Nodup → (qs.foldl (step r) b).Nodup := by
  induction qs with
  | nil => intro b h; exact h
  | cons q qs ih => intro b h; exact ih (step_nodup r q h)
theorem itp_nodup (r : RR) : ∀ n, (itp r n).Nodup
  | 0 => List.nodup_nil
  | n + 1 => steps_nodup r _ (itp_nodup r n)
/-- how many parts have all their names in -/
def full (r : RR) (b : List Str) : Nat := (r.body.filter fun q => (gv q).all fun x => decide (x ∈ b)).length
theorem fold_self {xs b : List Str} (h : ∀ x ∈ xs, x ∈ b) : xs.foldl addN b = b := by
  induction xs with
  | nil => rfl
  | cons x xs ih =>
    have e : addN b x = b := if_pos (h x List.mem_cons_self)
    rw [List.foldl_cons, e]
    exact ih fun y hy => h y (List.mem_cons_of_mem _ hy)
/-- a part that brings something new has all its names in behind the pass -/
theorem grows (r : RR) : ∀ (qs : List Pt) (b : List Str), qs.foldl (step r) b ≠ b → ∃ q ∈ qs, (∃ x ∈ gv q, x ∉ b) ∧ ∀ x ∈ gv q, x ∈ qs.foldl (step r) b
  | [], b, h => absurd rfl h
  | q :: qs, b, h => by
    rw [List.foldl_cons] at h ⊢
    by_cases e : step r b q = b
    · rw [e] at h ⊢
      obtain ⟨q', h1, h2, h3⟩ := grows r qs b h
      exact ⟨q', List.mem_cons_of_mem _ h1, h2, h3⟩
    · refine ⟨q, List.mem_cons_self, ?_, fun x hx => ?_⟩
      · apply Classical.byContradiction
        intro hn
        apply e
        unfold step
        split
        · exact fold_self fun x hx => Classical.byContradiction fun hb => hn ⟨x, hx, hb⟩
        · rfl
      · have : x ∈ step r b q := by
          unfold step at e ⊢
          split
          · exact fold_mem.mpr (.inr hx)
          · rename_i hr
            rw [if_neg hr] at e
            exact absurd rfl e
        exact (steps_pre r qs _).subset this
theorem filter_lt {α : Type} {p q : α → Bool} : ∀ {l : List α}, (∀ x ∈ l, p x = true → q x = true) → (∃ x ∈ l, p x = false ∧ q x = true) → (l.filter p).length < (l.filter q).length
  | [], _, ⟨_, h, _⟩ => nomatch h
  | a :: l, hi, ⟨x, hx, h1, h2⟩ => by
    have le : ∀ {l : List α}, (∀ x ∈ l, p x = true → q x = true) → (l.filter p).length ≤ (l.filter q).length := by
      intro l
      induction l with
      | nil => intro _; exact Nat.le_refl _
      | cons b l ih =>
        intro h
        have ih := ih fun x hx => h x (List.mem_cons_of_mem _ hx)
        by_cases hb : p b = true
        · rw [List.filter_cons_of_pos hb, List.filter_cons_of_pos (h b List.mem_cons_self hb)]
          simpa using ih
        · rw [List.filter_cons_of_neg hb]
          by_cases hq : q b = true
          · rw [List.filter_cons_of_pos hq]
            exact Nat.le_succ_of_le ih
          · rw [List.filter_cons_of_neg hq]
            exact ih
    have hl : ∀ x ∈ l, p x = true → q x = true := fun x hx => hi x (List.mem_cons_of_mem _ hx)
    rcases List.mem_cons.mp hx with rfl | hx'
    · rw [List.filter_cons_of_neg (by rw [h1]; decide), List.filter_cons_of_pos h2]
      exact Nat.lt_succ_of_le (le hl)
    · have ih := filter_lt hl ⟨x, hx', h1, h2⟩
      by_cases ha : p a = true
      · rw [List.filter_cons_of_pos ha, List.filter_cons_of_pos (hi a List.mem_cons_self ha)]
        simpa using ih
      · rw [List.filter_cons_of_neg ha]
        by_cases hq : q a = true
        · rw [List.filter_cons_of_pos hq]
          exact Nat.lt_succ_of_lt ih
        · rw [List.filter_cons_of_neg hq]
          exact ih
theorem full_lt (r : RR) {b : List Str} (h : pass r b ≠ b) : full r b < full r (pass r b) := by
  obtain ⟨q, hq, ⟨x, hx, hn⟩, hall⟩ := grows r r.body b h
  refine filter_lt (fun q' _ e => ?_) ⟨q, hq, ?_, ?_⟩
  · rw [List.all_eq_true] at e ⊢
    intro y hy
    exact decide_eq_true ((pass_pre r b).subset (of_decide_eq_true (e y hy)))
  · rw [List.all_eq_false]
    exact ⟨x, hx, by simp [hn]⟩
  · rw [List.all_eq_true]
    exact fun y hy => decide_eq_true (hall y hy)
theorem full_le (r : RR) (b : List Str) : full r b ≤ r.body.length := List.length_filter_le _ _
theorem itp_or (r : RR) : ∀ n, n ≤ full r (itp r n) ∨ pass r (itp r n) = itp r n
  | 0 => .inl (Nat.zero_le _)
  | n + 1 => by
    rcases itp_or r n with h | h
    · by_cases e : pass r (itp r n) = itp r n
      · refine .inr ?_
        show pass r (pass r (itp r n)) = pass r (itp r n)
        rw [e, e]
      · have := full_lt r e
        exact .inl (by show n + 1 ≤ full r (pass r (itp r n)); omega)
    · refine .inr ?_
      show pass r (pass r (itp r n)) = pass r (itp r n)
      rw [h, h]
theorem lim_fix (r : RR) : pass r (lim r) = lim r := by
  rcases itp_or r (r.body.length + 1) with h | h
  · have := full_le r (itp r (r.body.length + 1))
    omega
  · exact h
/-- where a pass brings nothing, it stays -/
theorem fix_lim (r : RR) {n : Nat} (h : pass r (itp r n) = itp r n) : itp r n = lim r := by
  have up : ∀ k, itp r (n + k) = itp r n := fun k => by
    induction k with
    | zero => rfl
    | succ k ih =>
      show pass r (itp r (n + k)) = itp r n
      rw [ih, h]
  have up2 : ∀ k, itp r (r.body.length + 1 + k) = lim r := fun k => by
    induction k with
    | zero => rfl
    | succ k ih =>
      show pass r (itp r (r.body.length + 1 + k)) = lim r
      rw [ih]
      exact lim_fix r
  have e1 := up (r.body.length + 1)
  have e2 := up2 n
  rw [Nat.add_comm] at e2
  exact e1.symm.trans e2
theorem itp_stop (r : RR) : ∃ n, n ≤ r.body.length + 1 ∧ pass r (itp r n) = itp r n := ⟨r.body.length + 1, Nat.le_refl _, lim_fix r⟩
/-! ### how often -/
theorem cnt_cons (a : List Str) (l : List (List Str)) (x : Str) : cnt (a :: l) x = (if x ∈ a then 1 else 0) + cnt l x := by
  unfold cnt
  by_cases h : x ∈ a
  · rw [List.filter_cons_of_pos (by simpa using h), if_pos h, List.length_cons]
    omega
  · rw [List.filter_cons_of_neg (by simpa using h), if_neg h]
    omega
theorem cnt_app (a b : List (List Str)) (x : Str) : cnt (a ++ b) x = cnt a x + cnt b x := by
  unfold cnt
  rw [List.filter_append, List.length_append]
theorem cnt_pos (l : List (List Str)) (x : Str) : 0 < cnt l x ↔ ∃ a ∈ l, x ∈ a := by
  unfold cnt
  rw [List.length_pos_iff_exists_mem]
  constructor
  · rintro ⟨a, ha⟩
    rw [List.mem_filter] at ha
    exact ⟨a, ha.1, of_decide_eq_true ha.2⟩
  · rintro ⟨a, h1, h2⟩
    exact ⟨a, List.mem_filter.mpr ⟨h1, decide_eq_true h2⟩⟩
theorem shd_iff {r : RR} {j : Nat} {q : Pt} {x : Str} (hq : r.body[j]? = some q) (hx : x ∈ nms q.ts) : shd r q x = true ↔ (.inl x ∈ r.ts ∨ ∃ k q', k ≠ j ∧ r.body[k]? = some q' ∧ .inl x ∈ q'.ts) := by
  have hj : j < r.body.length := (List.getElem?_eq_some_iff.mp hq).1
  have hqe : r.body[j] = q := (List.getElem?_eq_some_iff.mp hq).2
  have e : r.body = r.body.take j ++ q :: r.body.drop (j + 1) := by
    rw [← hqe, List.getElem_cons_drop, List.take_append_drop]
  have ec : cnt (rows r) x = (if x ∈ nms r.ts then 1 else 0) + (cnt ((r.body.take j).map fun q => nms q.ts) x + (1 + cnt ((r.body.drop (j + 1)).map fun q => nms q.ts) x)) := by
    have e2 : rows r = nms r.ts :: ((r.body.take j).map (fun q => nms q.ts) ++ nms q.ts :: (r.body.drop (j + 1)).map fun q => nms q.ts) := by
      have e3 : (r.body.map fun q => nms q.ts) = (r.body.take j).map (fun q => nms q.ts) ++ nms q.ts :: (r.body.drop (j + 1)).map fun q => nms q.ts := by
        conv => lhs; rw [e]
        rw [List.map_append, List.map_cons]
      unfold rows
      rw [e3]
    rw [e2, cnt_cons, cnt_app, cnt_cons, if_pos hx]
  unfold shd
  rw [decide_eq_true_iff, if_pos hx, ec]
  have p1 := cnt_pos ((r.body.take j).map fun q => nms q.ts) x
  have p2 := cnt_pos ((r.body.drop (j + 1)).map fun q => nms q.ts) x
  constructor
  · intro h
    by_cases h0 : x ∈ nms r.ts
    · exact .inl (nms_mem.mp h0)
    · rw [if_neg h0] at h
      by_cases h1 : 0 < cnt ((r.body.take j).map fun q => nms q.ts) x
      · obtain ⟨a, ha, hxa⟩ := p1.mp h1
        obtain ⟨q', hq', rfl⟩ := List.mem_map.mp ha
        obtain ⟨k, hk, hke⟩ := List.getElem_of_mem hq'
        have hk' : k < j := by
          rw [List.length_take] at hk
          omega
        refine .inr ⟨k, q', by omega, ?_, nms_mem.mp hxa⟩
        rw [← hke, List.getElem_take]
        exact List.getElem?_eq_getElem _
      · obtain ⟨a, ha, hxa⟩ := p2.mp (by omega)
        obtain ⟨q', hq', rfl⟩ := List.mem_map.mp ha
        obtain ⟨k, hk, hke⟩ := List.getElem_of_mem hq'
        rw [List.length_drop] at hk
        refine .inr ⟨j + 1 + k, q', by omega, ?_, nms_mem.mp hxa⟩
        rw [← hke, List.getElem_drop]
        exact List.getElem?_eq_getElem _
  · rintro (h0 | ⟨k, q', hk, hq', hx'⟩)
    · rw [if_pos (nms_mem.mpr h0)]
      omega
    · have hkl : k < r.body.length := (List.getElem?_eq_some_iff.mp hq').1
      rcases Nat.lt_or_ge k j with z | z
      · have := p1.mpr ⟨nms q'.ts, List.mem_map.mpr ⟨q', List.mem_of_getElem? (i := k) (by rw [List.getElem?_take, if_pos z]; exact hq'), rfl⟩, nms_mem.mpr hx'⟩
        omega
      · have := p2.mpr ⟨nms q'.ts, List.mem_map.mpr ⟨q', List.mem_of_getElem? (i := k - (j + 1)) (by rw [List.getElem?_drop]; rw [show j + 1 + (k - (j + 1)) = k by omega]; exact hq'), rfl⟩, nms_mem.mpr hx'⟩
        omega
/-- first put in, then picked, is first picked, then put in -/
theorem pick_fold {p : Str → Bool} : ∀ (xs acc : List Str), (xs.foldl addN acc).filter p = (xs.filter p).foldl addN (acc.filter p)
  | [], acc => rfl
  | x :: xs, acc => by
    rw [List.foldl_cons, pick_fold xs (addN acc x)]
    by_cases hp : p x = true
    · rw [List.filter_cons_of_pos hp, List.foldl_cons]
      congr 1
      unfold addN
      by_cases hx : x ∈ acc
      · rw [if_pos hx, if_pos (List.mem_filter.mpr ⟨hx, hp⟩)]
      · rw [if_neg hx, if_neg (fun z => hx (List.mem_filter.mp z).1), List.filter_append, List.filter_cons_of_pos hp]
        rfl
    · rw [List.filter_cons_of_neg hp]
      congr 1
      unfold addN
      by_cases hx : x ∈ acc
      · rw [if_pos hx]
      · rw [if_neg hx, List.filter_append, List.filter_cons_of_neg hp]
        simp
end U

set_option Elab.async false
set_option maxRecDepth 100000
set_option maxHeartbeats 4000000
namespace Toy
open PySem L2
open U (Tm Pt RR)
theorem same_mut {H H' : Hp} {l : Addr} {o : HO} (s : Same H H') (h : H l = none) : Same H (upd H' l o) := fun b u e => by
  rw [upd_ne (ne_of_none e h)]
  exact s b u e
/-! ### many at once -/
def All2 {α : Type} (R : Addr → α → Prop) (as : List Addr) (ts : List α) : Prop := as.length = ts.length ∧ ∀ (i : Nat) (a : Addr) (t : α), as[i]? = some a → ts[i]? = some t → R a t
theorem All2.nil {α : Type} {R : Addr → α → Prop} : All2 R [] [] := ⟨rfl, fun i a t h => by simp at h⟩
theorem All2.imp {α : Type} {R S : Addr → α → Prop} {as : List Addr} {ts : List α} (h : All2 R as ts) (f : ∀ a t, R a t → S a t) : All2 S as ts := ⟨h.1, fun i a t e1 e2 => f a t (h.2 i a t e1 e2)⟩
theorem All2.snoc {α : Type} {R : Addr → α → Prop} {as : List Addr} {ts : List α} (h : All2 R as ts) {a : Addr} {t : α} (r : R a t) : All2 R (as ++ [a]) (ts ++ [t]) := by
  refine ⟨by rw [List.length_append, List.length_append, h.1]; rfl, fun i b u e1 e2 => ?_⟩
  by_cases hi : i < as.length
  · rw [List.getElem?_append_left hi] at e1
    rw [List.getElem?_append_left (by rw [← h.1]; exact hi)] at e2
    exact h.2 i b u e1 e2
  · have hi2 : i = as.length := by
      have := (List.getElem?_eq_some_iff.mp e1).1
      rw [List.length_append] at this
      have : i < as.length + 1 := this
      omega
    subst hi2
    rw [List.getElem?_append_right (Nat.le_refl _), Nat.sub_self] at e1
    rw [List.getElem?_append_right (by rw [← h.1]; exact Nat.le_refl _), ← h.1, Nat.sub_self] at e2
    cases e1
    cases e2
    exact r
theorem All2.cons {α : Type} {R : Addr → α → Prop} {as : List Addr} {ts : List α} {a : Addr} {t : α} (r : R a t) (h : All2 R as ts) : All2 R (a :: as) (t :: ts) := by
  refine ⟨congrArg Nat.succ h.1, fun i b u e1 e2 => ?_⟩
  cases i with
  | zero => cases e1; cases e2; exact r
  | succ i => exact h.2 i b u e1 e2
theorem All2.tail {α : Type} {R : Addr → α → Prop} {as : List Addr} {ts : List α} {a : Addr} {t : α} (h : All2 R (a :: as) (t :: ts)) : R a t ∧ All2 R as ts :=
  ⟨h.2 0 a t rfl rfl, Nat.succ.inj h.1, fun i b u e1 e2 => h.2 (i + 1) b u e1 e2⟩
theorem All2.take {α : Type} {R : Addr → α → Prop} {as : List Addr} {ts : List α} (h : All2 R as ts) (n : Nat) : All2 R (as.take n) (ts.take n) := by
  refine ⟨by rw [List.length_take, List.length_take, h.1], fun i b u e1 e2 => ?_⟩
  rw [List.getElem?_take] at e1 e2
  by_cases hi : i < n
  · rw [if_pos hi] at e1 e2
    exact h.2 i b u e1 e2
  · rw [if_neg hi] at e1
    cases e1
theorem All2.app {α : Type} {R : Addr → α → Prop} : ∀ {bs : List Addr} {us : List α} {as : List Addr} {ts : List α}, All2 R as ts → All2 R bs us → All2 R (as ++ bs) (ts ++ us)
  | [], [], _, _, h, _ => by rw [List.append_nil, List.append_nil]; exact h
  | b :: bs, u :: us, as, ts, h, g => by
    obtain ⟨r, g⟩ := g.tail
    have := All2.app (h.snoc r) g
    rw [List.append_assoc, List.append_assoc] at this
    exact this
  | [], _ :: _, _, _, _, g => nomatch g.1
  | _ :: _, [], _, _, _, g => nomatch g.1
theorem All2.at {α : Type} {R : Addr → α → Prop} {as : List Addr} {ts : List α} (h : All2 R as ts) {i : Nat} {x : V} (hx : (as.map V.ref)[i]? = some x) : ∃ a t, x = .ref a ∧ as[i]? = some a ∧ ts[i]? = some t ∧ R a t := by
  rw [List.getElem?_map] at hx
  cases e : as[i]? with
  | none => rw [e] at hx; cases hx
  | some a =>
    rw [e] at hx
    cases hx
    have hi : i < ts.length := by rw [← h.1]; exact (List.getElem?_eq_some_iff.mp e).1
    exact ⟨a, ts[i], rfl, rfl, List.getElem?_eq_getElem hi, h.2 i a _ e (List.getElem?_eq_getElem hi)⟩
theorem take_one {α : Type} {l : List α} {i : Nat} {x : α} (h : l[i]? = some x) : l.take (i + 1) = l.take i ++ [x] := by
  rw [List.take_add_one, h]
  rfl
theorem sz {n : Nat} (h : n ≤ 1000) : n < sizeLine := small1000 h
theorem sz' {n : Nat} (h : n ≤ 1000) : n ≤ sizeLine := Nat.le_of_lt (small1000 h)
/-- all but the dice stands -/
def SameX (d : Addr) (H H' : Hp) : Prop := ∀ b o, H b = some o → b ≠ d → H' b = some o
theorem Same.x {H H' : Hp} {d : Addr} (h : Same H H') : SameX d H H' := fun b o e _ => h b o e
theorem SameX.refl (d : Addr) (H : Hp) : SameX d H H := fun _ _ e _ => e
theorem SameX.trans {H H1 H2 : Hp} {d : Addr} (a : SameX d H H1) (b : SameX d H1 H2) : SameX d H H2 := fun c o e n => b c o (a c o e n) n
theorem SameX.free {H H' : Hp} {d a : Addr} (e : SameX d H H') (n : a ≠ d) (h : H' a = none) : H a = none := by
  cases q : H a with
  | none => rfl
  | some o => rw [e a o q n] at h; cases h
theorem DiceAt.up {H H' : Hp} {d : Addr} (h : DiceAt H d) (s : Same H H') : DiceAt H' d := by
  obtain ⟨x, y, z, e⟩ := h
  exact ⟨x, y, z, s _ _ e⟩
theorem DiceAt.up1 {H : Hp} {d p : Addr} {o : HO} (h : DiceAt H d) (n : d ≠ p) : DiceAt (upd H p o) d := by
  obtain ⟨x, y, z, e⟩ := h
  exact ⟨x, y, z, by rw [upd_ne n]; exact e⟩
theorem DiceAt.ne {H : Hp} {d p : Addr} (h : DiceAt H d) (hp : H p = none) : d ≠ p := by
  obtain ⟨x, y, z, e⟩ := h
  exact ne_of_none e hp
theorem DiceAt.ne_tup {H : Hp} {d p : Addr} {xs : List V} (h : DiceAt H d) (hp : H p = some (.tup xs)) : p ≠ d := by
  obtain ⟨x, y, z, e⟩ := h
  exact ne_of hp e (fun q => nomatch q)
theorem sx_of {H H' : Hp} {d : Addr} (f : ∀ b, b ≠ d → H' b = H b) : SameX d H H' := fun b o e n => (f b n).trans e

/-! ### comprehensions, said once -/
def VAll {α : Type} (S : V → α → Prop) (ys : List V) (ts : List α) : Prop := ys.length = ts.length ∧ ∀ (i : Nat) (y : V) (t : α), ys[i]? = some y → ts[i]? = some t → S y t
theorem VAll.nil {α : Type} {S : V → α → Prop} : VAll S [] [] := ⟨rfl, fun i a t h => by simp at h⟩
theorem VAll.imp {α : Type} {S S' : V → α → Prop} {as : List V} {ts : List α} (h : VAll S as ts) (f : ∀ a t, S a t → S' a t) : VAll S' as ts := ⟨h.1, fun i a t e1 e2 => f a t (h.2 i a t e1 e2)⟩
theorem VAll.snoc {α : Type} {R : V → α → Prop} {as : List V} {ts : List α} (h : VAll R as ts) {a : V} {t : α} (r : R a t) : VAll R (as ++ [a]) (ts ++ [t]) := by
  refine ⟨by rw [List.length_append, List.length_append, h.1]; rfl, fun i b u e1 e2 => ?_⟩
  by_cases hi : i < as.length
  · rw [List.getElem?_append_left hi] at e1
    rw [List.getElem?_append_left (by rw [← h.1]; exact hi)] at e2
    exact h.2 i b u e1 e2
  · have hi2 : i = as.length := by
      have := (List.getElem?_eq_some_iff.mp e1).1
      rw [List.length_append] at this
      have : i < as.length + 1 := this
      omega
    subst hi2
    rw [List.getElem?_append_right (Nat.le_refl _), Nat.sub_self] at e1
    rw [List.getElem?_append_right (by rw [← h.1]; exact Nat.le_refl _), ← h.1, Nat.sub_self] at e2
    cases e1
    cases e2
    exact r
theorem VAll.eq {α : Type} {f : α → V} : ∀ {ys : List V} {ts : List α}, VAll (fun y t => y = f t) ys ts → ys = ts.map f
  | [], [], _ => rfl
  | y :: ys, t :: ts, h => by
    have e := h.2 0 y t rfl rfl
    have := VAll.eq (f := f) (ys := ys) (ts := ts) ⟨Nat.succ.inj h.1, fun i b u e1 e2 => h.2 (i + 1) b u e1 e2⟩
    rw [e, this]
    rfl
  | [], _ :: _, h => nomatch h.1
  | _ :: _, [], h => nomatch h.1
theorem VAll.refs {α : Type} {R : Addr → α → Prop} : ∀ {ys : List V} {ts : List α}, VAll (fun y t => ∃ a, y = .ref a ∧ R a t) ys ts → ∃ as : List Addr, ys = as.map V.ref ∧ All2 R as ts
  | [], [], _ => ⟨[], rfl, .nil⟩
  | y :: ys, t :: ts, h => by
    obtain ⟨a, e, r⟩ := h.2 0 y t rfl rfl
    obtain ⟨as, e2, r2⟩ := VAll.refs (R := R) (ys := ys) (ts := ts) ⟨Nat.succ.inj h.1, fun i b u e1 e2 => h.2 (i + 1) b u e1 e2⟩
    exact ⟨a :: as, by rw [e, e2]; rfl, .cons r r2⟩
  | [], _ :: _, h => nomatch h.1
  | _ :: _, [], h => nomatch h.1
/-- what is true of the items stays true -/
structure Stab {α : Type} (D : Addr) (S : Hp → V → α → Prop) : Prop where
  up : ∀ {H H' : Hp} {y : V} {t : α}, S H y t → Same H H' → S H' y t
  wr : ∀ {H : Hp} {xs o : List V} {y : V} {t : α}, H D = some (.lst xs) → S H y t → S (upd H D (.lst o)) y t
/-- the comprehension's invariant: what it has made of the first i -/
def LcI {α : Type} (S : Hp → V → α → Prop) (p : α → Bool) (ts : List α) (H0 : Hp) (D : Addr) (i : Nat) (H : Hp) : Prop := Same H0 H ∧ ∃ ys, H D = some (.lst ys) ∧ VAll (S H) ys ((ts.take i).filter p)
section
variable {α : Type} {S : Hp → V → α → Prop} {p : α → Bool} {ts : List α} {H0 H H2 : Hp} {D : Addr} {i : Nat} {t : α} {y : V}
theorem LcI.start (hD : H0 D = none) : LcI S p ts H0 D 0 (upd H0 D (.lst [])) := ⟨same_new hD, [], upd_same, .nil⟩
theorem LcI.yes (st : Stab D S) (hD : H0 D = none) (hs : ts.length ≤ 999) (h : LcI S p ts H0 D i H) (ht : ts[i]? = some t) (hp : p t = true) (s : Same H H2) (hy : S H2 y t) :
    ∃ acc, H2 D = some (.lst acc) ∧ acc.length < sizeLine ∧ LcI S p ts H0 D (i + 1) (upd H2 D (.lst (acc ++ [y]))) := by
  obtain ⟨s1, ys, eD, hv⟩ := h
  have e2 := s _ _ eD
  refine ⟨ys, e2, ?_, same_mut (s1.trans s) hD, ys ++ [y], upd_same, ?_⟩
  · rw [hv.1]
    refine sz (Nat.le_trans (List.length_filter_le _ _) ?_)
    rw [List.length_take]
    omega
  · rw [take_one ht, List.filter_append, List.filter_cons_of_pos hp, List.filter_nil]
    have h2 : VAll (S H2) (ys ++ [y]) ((ts.take i).filter p ++ [t]) := (hv.imp fun a t h => st.up h s).snoc hy
    exact h2.imp fun a t h => st.wr e2 h
theorem LcI.no (st : Stab D S) (h : LcI S p ts H0 D i H) (ht : ts[i]? = some t) (hp : p t = false) (s : Same H H2) : LcI S p ts H0 D (i + 1) H2 := by
  obtain ⟨s1, ys, eD, hv⟩ := h
  refine ⟨s1.trans s, ys, s _ _ eD, ?_⟩
  rw [take_one ht, List.filter_append, List.filter_cons_of_neg (by rw [hp]; decide), List.filter_nil, List.append_nil]
  exact hv.imp fun a t h => st.up h s
theorem LcI.fin (h : LcI S p ts H0 D i H) (hi : ts.length ≤ i) : ∃ ys, Same H0 H ∧ H D = some (.lst ys) ∧ VAll (S H) ys (ts.filter p) := by
  obtain ⟨s1, ys, eD, hv⟩ := h
  rw [List.take_of_length_le hi] at hv
  exact ⟨ys, s1, eD, hv⟩
end
theorem filter_tt {α : Type} (l : List α) : l.filter (fun _ => true) = l := List.filter_eq_self.mpr fun _ _ => rfl
theorem stab_val {α : Type} {D : Addr} (S : V → α → Prop) : Stab D fun _ y t => S y t := ⟨fun h _ => h, fun _ h => h⟩
/-! ### dicts of words -/
theorem putK_bl (l : List Str) (x : Str) : putK (l.map fun y => ((Sum.inr y : Key), V.bl true)) (Sum.inr x) (V.bl true) = (U.addN l x).map fun y => ((Sum.inr y : Key), V.bl true) := by
  unfold putK U.addN
  by_cases h : x ∈ l
  · rw [if_pos (by rw [List.any_map, List.any_eq_true]; exact ⟨x, h, by simp⟩), if_pos h, List.map_map]
    apply List.map_congr_left
    intro y _
    simp only [Function.comp]
    split
    · rfl
    · rfl
  · rw [if_neg (by
      rw [List.any_map, List.any_eq_true]
      rintro ⟨y, hy, e⟩
      have e2 : (Sum.inr y : Key) = Sum.inr x := of_decide_eq_true e
      injection e2 with e2
      exact h (e2 ▸ hy)), if_neg h, List.map_append]
    rfl
theorem valV_bl (l : List Str) (x : Str) : valV (l.map fun y => ((Sum.inr y : Key), V.bl true)) (Sum.inr x) = if x ∈ l then some (.bl true) else none := by
  induction l with
  | nil => rfl
  | cons y l ih =>
    rw [List.map_cons]
    by_cases e : y = x
    · subst e
      rw [valV_pos rfl, if_pos List.mem_cons_self]
    · rw [valV_neg (by intro z; injection z with z; exact e z), ih]
      by_cases hx : x ∈ l
      · rw [if_pos hx, if_pos (List.mem_cons_of_mem _ hx)]
      · rw [if_neg hx, if_neg (by rw [List.mem_cons, not_or]; exact ⟨fun z => e z.symm, hx⟩)]
theorem keys_bl (l : List Str) : (l.map fun y => ((Sum.inr y : Key), V.bl true)).map (fun kv => kV kv.1) = l.map V.str := by
  rw [List.map_map]
  rfl
abbrev blD (l : List Str) : List (Key × V) := l.map fun y => ((Sum.inr y : Key), V.bl true)
end Toy

set_option Elab.async false
set_option maxRecDepth 100000
set_option maxHeartbeats 4000000
namespace Toy
open PySem L2
open U (Tm Pt RR tn nms vars addN dd)
/-! ### terms as objects -/
def tval : Tm → V
  | .inl _ => .non
  | .inr i => .int i
def okT : Tm → Bool
  | .inl s => !decide (s = "") && decide (s.length ≤ 1000) && PyData.strOk s
  | .inr _ => true
theorem okT_ne {s : Str} (h : okT (.inl s) = true) : s ≠ "" := by
  unfold okT at h
  simp only [Bool.and_eq_true, Bool.not_eq_true', decide_eq_false_iff_not] at h
  exact h.1.1
theorem okT_len {s : Str} (h : okT (.inl s) = true) : s.length ≤ 1000 := by
  unfold okT at h
  simp only [Bool.and_eq_true, decide_eq_true_eq] at h
  exact h.1.2
theorem okT_ok {s : Str} (h : okT (.inl s) = true) : PyData.strOk s = true := by
  unfold okT at h
  simp only [Bool.and_eq_true] at h
  exact h.2
abbrev TO (C : Addr) (H : Hp) (a : Addr) (t : Tm) : Prop := TmAt C H a (tn t) (tval t)
def TmsAt (C : Addr) (H : Hp) (p : Addr) (ts : List Tm) : Prop := ∃ as : List Addr, H p = some (.tup (as.map V.ref)) ∧ All2 (TO C H) as ts
def WfT (ts : List Tm) : Prop := ts.length ≤ 20 ∧ ∀ t ∈ ts, okT t = true
theorem TmAt.up {C : Addr} {H H' : Hp} {a : Addr} {n : Str} {v : V} (h : TmAt C H a n v) (s : Same H H') : TmAt C H' a n v := by
  obtain ⟨dx, e⟩ := h
  exact ⟨dx, s _ _ e⟩
theorem TmAt.wr {C : Addr} {H : Hp} {a l : Addr} {n : Str} {v : V} {o u : HO} (h : TmAt C H a n v) (hl : H l = some u) (hu : ∀ C dx fs, u ≠ .ins C dx fs) : TmAt C (upd H l o) a n v := by
  obtain ⟨dx, e⟩ := h
  exact ⟨dx, by rw [upd_ne (ne_of e hl (Ne.symm (hu _ _ _)))]; exact e⟩
theorem TmsAt.up {C : Addr} {H H' : Hp} {p : Addr} {ts : List Tm} (h : TmsAt C H p ts) (s : Same H H') : TmsAt C H' p ts := by
  obtain ⟨as, e, f⟩ := h
  exact ⟨as, s _ _ e, f.imp fun a t h => h.up s⟩
theorem TmsAt.wr {C : Addr} {H : Hp} {p l : Addr} {ts : List Tm} {o : HO} {xs : List V} (h : TmsAt C H p ts) (hl : H l = some (.lst xs)) : TmsAt C (upd H l o) p ts := by
  obtain ⟨as, e, f⟩ := h
  exact ⟨as, by rw [upd_ne (ne_of e hl (fun q => nomatch q))]; exact e, f.imp fun a t h => h.wr hl (fun _ _ _ q => nomatch q)⟩
theorem isVar_tn {t : Tm} (h : okT t = true) : (!decide (tn t = "")) = (match t with | .inl _ => true | .inr _ => false) := by
  cases t with
  | inl s =>
    show (!decide (s = "")) = true
    rw [decide_eq_false (okT_ne h)]
    rfl
  | inr i => rfl
theorem vars_snoc (ts : List Tm) (t : Tm) : vars (ts ++ [t]) = vars ts ++ (match t with | .inl s => [s] | .inr _ => []) := by
  unfold vars
  rw [List.filterMap_append]
  cases t <;> rfl
def spNamesIn (C : Addr) : Sp := fun vs H Q _ => ∃ (p : Addr) (ts : List Tm), vs = [.ref p] ∧ TmsAt C H p ts ∧ WfT ts ∧ ∀ q H', Same H H' → H' q = some (.tup ((nms ts).map V.str)) → Q (.ref q) H'
def spIsNum : Sp := fun vs H Q _ => ∃ v : V, vs = [v] ∧ ((v = .non ∧ Q (.bl false) H) ∨ (∃ i : Int, v = .int i ∧ Q (.bl true) H) ∨ ∃ s : Str, v = .str s ∧ Q (.bl false) H)
section
variable {P : Program} {w : World} {K : PySem.W.Frag} {mg : Str → Option Value} {base : Heap} {A : Ad}
theorem ok_names_in (T : Txt K mg A) : FnOk P w K mg base CX0 2 A.f_names_in A.d_names_in ["terms"] (spNamesIn A.C_Term) := by
  have G_Term_is_variable : FnOk P w K mg base CX0 1 A.f_Term_is_variable A.d_Term_is_variable ["self"] (spIsVar A.C_Term) := ok_is_variable T
  refine T.F_names_in.ok sc_names_in (fun vs H Q E h => ?_) (fun cdv ar outer s H vs Q E hr h => ?_)
  · obtain ⟨p, ts, rfl, _⟩ := h
    rfl
  · obtain ⟨p, ts, rfl, ⟨as, ep, fp⟩, ⟨h20, hok⟩, k⟩ := h
    have hu := hu_of hr
    refine ⟨_, (pss_cons (ps_set (i := 1) sc_names_in.nd rfl (Or.inl rfl) pe_dnewK)
      (pss_cons (ps_for PassesOwn.never rfl (tupIK K (pv 0)) (pg_name (i := 2) sc_names_in.nd rfl (Or.inl rfl))
        (pss_one (ps_if (pt_val (pe_meth0 (pv 2) T.cl_Term T.e_Term_is_variable G_Term_is_variable (hr.mono (by decide)) T.b_Term_is_variable .nil pass0))
          (pss_one (ps_dput hu (pv 1) (fldK K (pv 2) rfl) pe_bl rfl))
          pss_nil)))
      (pss_one (ps_ret (pe_callTy (tupDK) (by rfl) T.z_tuple (by decide +kernel) (pa_cons (pv 1) pa_nil)))))), ?_⟩
    refine fun d hd => ⟨_, rfl, p, rfl, ⟨_, SqT.of (by rw [upd_ne (ne_of_none ep hd)]; exact ep)⟩, ?_⟩
    refine for_tup (K := K) (a := p) (xs := as.map V.ref) (fun i σ H' => ∃ x, σ = [some (.ref p), some (.ref d), x] ∧ Same H H' ∧ H' d = some (.dK (blD ((vars (ts.take i)).foldl addN []))))
      ⟨none, rfl, same_new hd, upd_same⟩ (fun i σ H' _ ⟨x, _, s1, _⟩ => SqT.of (s1 _ _ ep)) ?_ ?_
    · rintro i v σ H' hv ⟨x, rfl, s1, eD⟩
      obtain ⟨a, t, rfl, ea, et, ha⟩ := fp.at hv
      have ha1 := TmAt.up ha s1
      obtain ⟨dx, g⟩ := id ha1
      have hot := hok t (List.mem_of_getElem? et)
      refine ⟨_, rfl, a, dx, _, rfl, g, no_isv _ _, a, _, _, rfl, ha1, _, rfl, ?_⟩
      rw [isVar_tn hot]
      cases t with
      | inl s =>
        refine iteT ⟨_, rfl, _, rfl, a, _, dx, _, _, rfl, g, T.cl_Term, T.n_Term_name, tf_name _ _, d, _, rfl, DPut.k (k := Sum.inr s) eD ?_, ?_⟩
        · rw [List.length_map]
          have h1 := U.fold_len (xs := vars (ts.take i)) (acc := [])
          have h2 := U.vars_len (ts.take i)
          rw [List.length_take] at h2
          exact sz (by simp at h1; omega)
        · refine ⟨_, rfl, same_mut s1 hd, ?_⟩
          rw [upd_same, putK_bl, take_one et, vars_snoc, List.foldl_append]
          rfl
      | inr n =>
        refine iteF ⟨_, rfl, s1, ?_⟩
        rw [take_one et, vars_snoc, List.append_nil]
        exact eD
    · rintro σ H' ⟨x, rfl, s1, eD⟩
      rw [List.length_map, fp.1, List.take_of_length_le (Nat.le_refl _)] at eD
      refine ⟨_, rfl, d, _, rfl, eD, fun q hq => ?_⟩
      rw [keys_bl]
      exact k q _ (s1.trans (same_new hq)) upd_same
theorem ok_isnum (T : Txt K mg A) : FnOk P w K mg base CX0 1 A.f_is_number A.d_is_number ["value"] spIsNum := by
  refine T.F_is_number.ok sc_is_number (fun vs H Q E h => ?_) (fun cdv ar outer s H vs Q E hr h => ?_)
  · obtain ⟨v, rfl, _⟩ := h
    rfl
  · obtain ⟨v, rfl, k⟩ := h
    refine ⟨_, (pss_one (ps_ret (pe_callB (isiK K) (by rfl) T.z_isinstance (by decide +kernel) (pa_cons (pv 0) (pa_cons (pe_bltn (v := .ty "int") (by rfl) T.z_int (by decide +kernel) rfl) pa_nil))))), ?_⟩
    rcases k with ⟨rfl, k⟩ | ⟨i, rfl, k⟩ | ⟨s, rfl, k⟩
    · exact ⟨_, rfl, _, _, _, _, _, rfl, .ty _, .base .non, kit_ty (by decide +kernel), k⟩
    · exact ⟨_, rfl, _, _, _, _, _, rfl, .ty _, .base (.int i), kit_ty (by decide +kernel), k⟩
    · exact ⟨_, rfl, _, _, _, _, _, rfl, .ty _, .base (.str s), kit_ty (by decide +kernel), k⟩
end
end Toy

set_option Elab.async false
set_option maxRecDepth 100000
set_option maxHeartbeats 4000000
namespace Toy
open PySem L2
open U (Tm Pt RR tn nms vars addN dd rows cnt)
/-! ### parts and rules as objects -/
def lf (kind name : Str) (pt po : Addr) : List (Str × V) := putF "own" (.ref po) (putF "terms" (.ref pt) (putF "name" (.str name) (putF "kind" (.str kind) [])))
section
variable (kind name : Str) (pt po : Addr)
theorem lf_kind : (lf kind name pt po).lookup ("kind" : Str) = some (.str kind) := by
  unfold lf
  rw [lookup_putF, if_neg (by decide +kernel), lookup_putF, if_neg (by decide +kernel), lookup_putF, if_neg (by decide +kernel), lookup_putF, if_pos rfl]
theorem lf_name : (lf kind name pt po).lookup ("name" : Str) = some (.str name) := by
  unfold lf
  rw [lookup_putF, if_neg (by decide +kernel), lookup_putF, if_neg (by decide +kernel), lookup_putF, if_pos rfl]
theorem lf_terms : (lf kind name pt po).lookup ("terms" : Str) = some (.ref pt) := by
  unfold lf
  rw [lookup_putF, if_neg (by decide +kernel), lookup_putF, if_pos rfl]
theorem lf_own : (lf kind name pt po).lookup ("own" : Str) = some (.ref po) := by
  unfold lf
  rw [lookup_putF, if_pos rfl]
theorem lf_no {m : Str} (h1 : ¬ m = "own") (h2 : ¬ m = "terms") (h3 : ¬ m = "name") (h4 : ¬ m = "kind") : (lf kind name pt po).lookup m = none := by
  unfold lf
  rw [lookup_putF, if_neg h1, lookup_putF, if_neg h2, lookup_putF, if_neg h3, lookup_putF, if_neg h4]
  rfl
theorem lf_names : (lf kind name pt po).lookup ("names" : Str) = none := lf_no _ _ _ _ (by decide +kernel) (by decide +kernel) (by decide +kernel) (by decide +kernel)
theorem lf_shown : (lf kind name pt po).lookup ("shown" : Str) = none := lf_no _ _ _ _ (by decide +kernel) (by decide +kernel) (by decide +kernel) (by decide +kernel)
end
def rf (name : Str) (pt pb : Addr) (sv : V) (ps : Addr) : List (Str × V) := putF "stands" (.ref ps) (putF "summed" sv (putF "body" (.ref pb) (putF "terms" (.ref pt) (putF "name" (.str name) []))))
section
variable (name : Str) (pt pb : Addr) (sv : V) (ps : Addr)
theorem rf_stands : (rf name pt pb sv ps).lookup ("stands" : Str) = some (.ref ps) := by
  unfold rf
  rw [lookup_putF, if_pos rfl]
theorem rf_summed : (rf name pt pb sv ps).lookup ("summed" : Str) = some sv := by
  unfold rf
  rw [lookup_putF, if_neg (by decide +kernel), lookup_putF, if_pos rfl]
theorem rf_body : (rf name pt pb sv ps).lookup ("body" : Str) = some (.ref pb) := by
  unfold rf
  rw [lookup_putF, if_neg (by decide +kernel), lookup_putF, if_neg (by decide +kernel), lookup_putF, if_pos rfl]
theorem rf_terms : (rf name pt pb sv ps).lookup ("terms" : Str) = some (.ref pt) := by
  unfold rf
  rw [lookup_putF, if_neg (by decide +kernel), lookup_putF, if_neg (by decide +kernel), lookup_putF, if_neg (by decide +kernel), lookup_putF, if_pos rfl]
theorem rf_name : (rf name pt pb sv ps).lookup ("name" : Str) = some (.str name) := by
  unfold rf
  rw [lookup_putF, if_neg (by decide +kernel), lookup_putF, if_neg (by decide +kernel), lookup_putF, if_neg (by decide +kernel), lookup_putF, if_neg (by decide +kernel), lookup_putF, if_pos rfl]
theorem rf_no {m : Str} (h1 : ¬ m = "stands") (h2 : ¬ m = "summed") (h3 : ¬ m = "body") (h4 : ¬ m = "terms") (h5 : ¬ m = "name") : (rf name pt pb sv ps).lookup m = none := by
  unfold rf
  rw [lookup_putF, if_neg h1, lookup_putF, if_neg h2, lookup_putF, if_neg h3, lookup_putF, if_neg h4, lookup_putF, if_neg h5]
  rfl
theorem rf_asked : (rf name pt pb sv ps).lookup ("asked" : Str) = none := rf_no _ _ _ _ _ (by decide +kernel) (by decide +kernel) (by decide +kernel) (by decide +kernel) (by decide +kernel)
theorem rf_shown : (rf name pt pb sv ps).lookup ("shown" : Str) = none := rf_no _ _ _ _ _ (by decide +kernel) (by decide +kernel) (by decide +kernel) (by decide +kernel) (by decide +kernel)
end
def LitAt (A : Ad) (H : Hp) (a : Addr) (q : Pt) : Prop := ∃ dx pt po, H a = some (.ins A.C_Literal dx (lf q.kind q.name pt po)) ∧ TmsAt A.C_Term H pt q.ts ∧ H po = some (.tup ((nms q.ts).map V.str))
theorem LitAt.up {A : Ad} {H H' : Hp} {a : Addr} {q : Pt} (h : LitAt A H a q) (s : Same H H') : LitAt A H' a q := by
  obtain ⟨dx, pt, po, e, f, g⟩ := h
  exact ⟨dx, pt, po, s _ _ e, f.up s, s _ _ g⟩
theorem LitAt.wr {A : Ad} {H : Hp} {a l : Addr} {q : Pt} {xs : List V} {o : HO} (h : LitAt A H a q) (hl : H l = some (.lst xs)) : LitAt A (upd H l o) a q := by
  obtain ⟨dx, pt, po, e, f, g⟩ := h
  exact ⟨dx, pt, po, by rw [upd_ne (ne_of e hl (fun q => nomatch q))]; exact e, f.wr hl, by rw [upd_ne (ne_of g hl (fun q => nomatch q))]; exact g⟩
def CntAt (H : Hp) (d : Addr) (l : List (List Str)) : Prop := ∃ kvs : List (Key × V), H d = some (.dK kvs) ∧ ∀ x, valV kvs (Sum.inr x) = if cnt l x = 0 then none else some (.int (cnt l x))
def RuleAt (A : Ad) (H : Hp) (a : Addr) (r : RR) : Prop := ∃ (dx pt pb ps : Addr) (sv : V) (bs : List Addr), H a = some (.ins A.C_Rule dx (rf r.name pt pb sv ps)) ∧ TmsAt A.C_Term H pt r.ts ∧ H pb = some (.tup (bs.map V.ref)) ∧
  All2 (LitAt A H) bs r.body ∧ decide (sv = .non) = !r.sm ∧ CntAt H ps (rows r)
theorem RuleAt.up {A : Ad} {H H' : Hp} {a : Addr} {r : RR} (h : RuleAt A H a r) (s : Same H H') : RuleAt A H' a r := by
  obtain ⟨dx, pt, pb, ps, sv, bs, e, f, g, hb, hs, kvs, ek, hk⟩ := h
  exact ⟨dx, pt, pb, ps, sv, bs, s _ _ e, f.up s, s _ _ g, hb.imp fun a t h => h.up s, hs, kvs, s _ _ ek, hk⟩
theorem RuleAt.wr {A : Ad} {H : Hp} {a l : Addr} {r : RR} {xs : List V} {o : HO} (h : RuleAt A H a r) (hl : H l = some (.lst xs)) : RuleAt A (upd H l o) a r := by
  obtain ⟨dx, pt, pb, ps, sv, bs, e, f, g, hb, hs, kvs, ek, hk⟩ := h
  exact ⟨dx, pt, pb, ps, sv, bs, by rw [upd_ne (ne_of e hl (fun q => nomatch q))]; exact e, f.wr hl, by rw [upd_ne (ne_of g hl (fun q => nomatch q))]; exact g, hb.imp fun a t h => h.wr hl, hs, kvs,
    by rw [upd_ne (ne_of ek hl (fun q => nomatch q))]; exact ek, hk⟩
def WfB (body : List Pt) : Prop := body.length ≤ 20 ∧ ∀ q ∈ body, WfT q.ts ∧ q.name.length ≤ 900 ∧ PyData.strOk q.name = true ∧ PyData.strOk q.kind = true
structure Wf (r : RR) : Prop where
  ts : WfT r.ts
  body : WfB r.body
  name : r.name.length ≤ 900
  nok : PyData.strOk r.name = true
theorem tf_ne (n : Str) (v : V) : tf n v ≠ [] := fun e => by
  have := tf_name n v
  rw [e] at this
  cases this
theorem TmAt.ne_bare {C C' : Addr} {H : Hp} {a p dx : Addr} {n : Str} {v : V} (h : TmAt C H a n v) (hp : H p = some (.ins C' dx [])) : a ≠ p := by
  obtain ⟨d, e⟩ := h
  refine ne_of e hp fun q => ?_
  injection q with _ _ q
  exact tf_ne _ _ q
theorem LitAt.ne_bare {A : Ad} {C' : Addr} {H : Hp} {a p dx : Addr} {q : Pt} (h : LitAt A H a q) (hp : H p = some (.ins C' dx [])) : a ≠ p := by
  obtain ⟨d, pt, po, e, _⟩ := h
  refine ne_of e hp fun z => ?_
  injection z with _ _ z
  have := lf_kind q.kind q.name pt po
  rw [z] at this
  cases this
/-- all but p stands -/
theorem TmAt.upx {C : Addr} {H H' : Hp} {a p : Addr} {n : Str} {v : V} (h : TmAt C H a n v) (s : SameX p H H') (ha : a ≠ p) : TmAt C H' a n v := by
  obtain ⟨dx, e⟩ := h
  exact ⟨dx, s _ _ e ha⟩
theorem TmsAt.upx {C C' : Addr} {H H' : Hp} {a p dx : Addr} {ts : List Tm} (h : TmsAt C H a ts) (s : SameX p H H') (hp : H p = some (.ins C' dx [])) : TmsAt C H' a ts := by
  obtain ⟨as, e, f⟩ := h
  exact ⟨as, s _ _ e (ne_of e hp (fun q => nomatch q)), f.imp fun a t h => TmAt.upx h s (TmAt.ne_bare h hp)⟩
theorem LitAt.upx {A : Ad} {C' : Addr} {H H' : Hp} {a p dx : Addr} {q : Pt} (h : LitAt A H a q) (s : SameX p H H') (hp : H p = some (.ins C' dx [])) : LitAt A H' a q := by
  have ha := h.ne_bare hp
  obtain ⟨d, pt, po, e, f, g⟩ := h
  exact ⟨d, pt, po, s _ _ e ha, f.upx s hp, s _ _ g (ne_of g hp (fun q => nomatch q))⟩
abbrev LTms (C : Addr) (H : Hp) (p : Addr) (ts : List Tm) : Prop := ∃ as : List Addr, H p = some (.lst (as.map V.ref)) ∧ All2 (TO C H) as ts
def spLitInit (A : Ad) : Sp := fun vs H Q _ => ∃ (p dx tp : Addr) (kind name : Str) (ts : List Tm), vs = [.ref p, .str kind, .str name, .ref tp] ∧ H p = some (.ins A.C_Literal dx []) ∧ LTms A.C_Term H tp ts ∧ WfT ts ∧
  ∀ H', LitAt A H' p ⟨kind, name, ts⟩ → SameX p H H' → Q .non H'
def spLitNames (A : Ad) : Sp := fun vs H Q _ => ∃ (p : Addr) (q : Pt), vs = [.ref p] ∧ LitAt A H p q ∧ ∀ t, H t = some (.tup ((nms q.ts).map V.str)) → Q (.ref t) H
def spHow : Sp := fun vs H Q _ => ∃ (l : Addr) (bs : List Addr) (rs : List (List Str)), vs = [.ref l] ∧ H l = some (.lst (bs.map V.ref)) ∧ All2 (fun b row => H b = some (.tup (row.map V.str))) bs rs ∧ rs.length ≤ 30 ∧ (∀ row ∈ rs, row.Nodup ∧ row.length ≤ 20) ∧
  ∀ d H', Same H H' → CntAt H' d rs → Q (.ref d) H'
section
variable {P : Program} {w : World} {K : PySem.W.Frag} {mg : Str → Option Value} {base : Heap} {A : Ad}
theorem ok_lit_init (T : Txt K mg A) : FnOk P w K mg base CX0 3 A.f_Literal_init A.d_Literal_init ["self", "kind", "name", "terms"] (spLitInit A) := by
  have G_names_in : FnOk P w K mg base CX0 2 A.f_names_in A.d_names_in ["terms"] (spNamesIn A.C_Term) := ok_names_in T
  refine T.F_Literal_init.ok sc_Literal_init (fun vs H Q E h => ?_) (fun cdv ar outer s H vs Q E hr h => ?_)
  · obtain ⟨p, dx, tp, kind, name, ts, rfl, _⟩ := h
    rfl
  · obtain ⟨p, dx, tp, kind, name, ts, rfl, hp, ⟨as, et, ft⟩, hw, k⟩ := h
    refine ⟨_, (pss_cons (sfldK K (pv 0) (pv 1) rfl)
      (pss_cons (sfldK K (pv 0) (pv 2) rfl)
      (pss_cons (sfldK K (pv 0) (pe_callTy (tupOf K) (by rfl) T.z_tuple (by decide +kernel) (pa_cons (pv 3) pa_nil)) rfl)
      (pss_one (sfldK K (pv 0) (pe_call G_names_in (hr.mono (by decide)) (by rfl) T.m_names_in T.F_names_in.kp T.b_names_in .nil pass0 (pa_cons (fldK K (pv 0) rfl) pa_nil)) rfl))))), ?_⟩
    have ntp : tp ≠ p := ne_of et hp (fun q => nomatch q)
    refine ⟨_, rfl, _, rfl, p, _, dx, _, rfl, hp, T.cl_Literal, T.n_Literal_kind, (by show 0 < 1000; decide), ?_⟩
    refine ⟨_, rfl, _, rfl, p, _, dx, _, rfl, upd_same, T.cl_Literal, T.n_Literal_name, (by show 1 < 1000; decide), ?_⟩
    refine ⟨_, rfl, tp, _, rfl, .inl ⟨SqL.of (by rw [upd_ne ntp, upd_ne ntp]; exact et), fun pt hpt => ?_⟩⟩
    have npt : p ≠ pt := ne_of_none upd_same hpt
    refine ⟨_, rfl, p, _, dx, _, rfl, (by rw [upd_ne npt, upd_same]), T.cl_Literal, T.n_Literal_terms, (by show 2 < 1000; decide), ?_⟩
    have hptH : H pt = none := by
      rw [upd_ne npt.symm, upd_ne npt.symm] at hpt
      exact hpt
    have x1 : SameX p H (upd (upd (upd (upd H p (.ins A.C_Literal dx (putF "kind" (.str kind) []))) p (.ins A.C_Literal dx (putF "name" (.str name) (putF "kind" (.str kind) [])))) pt (.tup (as.map V.ref))) p (.ins A.C_Literal dx (putF "terms" (.ref pt) (putF "name" (.str name) (putF "kind" (.str kind) []))))) :=
      fun b o e nb => by rw [upd_ne nb, upd_ne (ne_of_none e hptH), upd_ne nb, upd_ne nb]; exact e
    refine ⟨_, rfl, p, _, dx, _, _, rfl, upd_same, T.cl_Literal, T.n_Literal_terms, (by rw [lookup_putF, if_pos rfl]), ?_⟩
    have tmA : TmsAt A.C_Term _ pt ts := ⟨as, by rw [upd_ne npt.symm, upd_same], ft.imp fun a t h => TmAt.upx h x1 (TmAt.ne_bare h hp)⟩
    refine ⟨pt, ts, rfl, tmA, hw, fun q H5 s5 eq5 => ?_⟩
    have h5 := s5 _ _ upd_same
    refine ⟨_, rfl, p, _, dx, _, rfl, h5, T.cl_Literal, T.n_Literal_own, (by show 3 < 1000; decide), ?_⟩
    have x2 : SameX p H (upd H5 p (.ins A.C_Literal dx (lf kind name pt q))) := fun b o e nb => by rw [upd_ne nb]; exact s5 _ _ (x1 _ _ e nb)
    refine k _ ⟨dx, pt, q, upd_same, ⟨as, ?_, ft.imp fun a t h => TmAt.upx h x2 (TmAt.ne_bare h hp)⟩, ?_⟩ x2
    · rw [upd_ne npt.symm]
      exact s5 _ _ (by rw [upd_ne npt.symm, upd_same])
    · rw [upd_ne (ne_of eq5 h5 (fun z => nomatch z))]
      exact eq5
theorem ok_lit_names (T : Txt K mg A) : FnOk P w K mg base CX0 1 A.f_Literal_names A.d_Literal_names ["self"] (spLitNames A) := by
  refine T.F_Literal_names.ok sc_Literal_names (fun vs H Q E h => ?_) (fun cdv ar outer s H vs Q E hr h => ?_)
  · obtain ⟨p, q, rfl, _⟩ := h
    rfl
  · obtain ⟨p, q, rfl, ⟨dx, pt, po, e, f, g⟩, k⟩ := h
    refine ⟨_, (pss_one (ps_ret (fldK K (pv 0) rfl))), ?_⟩
    exact ⟨_, rfl, p, _, dx, _, _, rfl, e, T.cl_Literal, T.n_Literal_own, lf_own _ _ _ _, k po g⟩
theorem cnt_row {l : List (List Str)} {i : Nat} {row : List Str} (h : l[i]? = some row) (x : Str) : cnt (l.take (i + 1)) x = cnt (l.take i) x + if x ∈ row then 1 else 0 := by
  rw [take_one h, U.cnt_app, U.cnt_cons]
  rfl
theorem putK_len {κ : Type} [DecidableEq κ] (kvs : List (κ × V)) (k : κ) (v : V) : (putK kvs k v).length ≤ kvs.length + 1 := by
  unfold putK
  split
  · rw [List.length_map]
    omega
  · rw [List.length_append]
    exact Nat.le_refl _
theorem ok_how (T : Txt K mg A) : FnOk P w K mg base CX0 1 A.f_how_often A.d_how_often ["rows"] spHow := by
  refine T.F_how_often.ok sc_how_often (fun vs H Q E h => ?_) (fun cdv ar outer s H vs Q E hr h => ?_)
  · obtain ⟨l, bs, rs, rfl, _⟩ := h
    rfl
  · obtain ⟨l, bs, rs, rfl, el, fl, h30, hrow, k⟩ := h
    have hu := hu_of hr
    refine ⟨_, (pss_cons (ps_set (i := 1) sc_how_often.nd rfl (Or.inl rfl) pe_dnewK)
      (pss_cons (ps_for PassesOwn.never rfl (listK K (pv 0)) (pg_name (i := 2) sc_how_often.nd rfl (Or.inl rfl))
        (pss_one (ps_for PassesOwn.never rfl (tupIK K (pv 2)) (pg_name (i := 3) sc_how_often.nd rfl (Or.inl rfl))
          (pss_one (ps_dput hu (pv 1) (pv 3) (pe_op op_add (pe_dget2 hu (pv 1) (pv 3) pe_int ⟨rfl, rfl, rfl, rfl⟩) pe_int) rfl)))))
      (pss_one (ps_ret (pv 1))))), ?_⟩
    refine fun d hd => ⟨_, rfl, l, rfl, ⟨_, SqL.of (by rw [upd_ne (ne_of_none el hd)]; exact el)⟩, ?_⟩
    refine for_list (K := K) (a := l) (xs := bs.map V.ref) (fun i σ H' => ∃ x y kvs, σ = [some (.ref l), some (.ref d), x, y] ∧ Same H H' ∧ H' d = some (.dK kvs) ∧ kvs.length ≤ 20 * i ∧ ∀ z, valV kvs (Sum.inr z) = if cnt (rs.take i) z = 0 then none else some (.int (cnt (rs.take i) z)))
      ⟨none, none, [], rfl, same_new hd, upd_same, Nat.zero_le _, fun z => rfl⟩ (fun i σ H' _ ⟨x, y, kvs, _, s1, _⟩ => SqL.of (s1 _ _ el)) ?_ ?_
    · rintro i v σ H' hv ⟨x, y, kvs, rfl, s1, eD, hl, hval⟩
      obtain ⟨b, row, rfl, eb, erow, hb⟩ := fl.at hv
      have hb1 := s1 _ _ hb
      obtain ⟨hnd, h20⟩ := hrow row (List.mem_of_getElem? erow)
      have hi : i < rs.length := (List.getElem?_eq_some_iff.mp erow).1
      refine ⟨_, rfl, b, rfl, ⟨_, SqT.of hb1⟩, ?_⟩
      refine for_tup (K := K) (a := b) (xs := row.map V.str) (fun j σ H2 => ∃ y kvs, σ = [some (.ref l), some (.ref d), some (.ref b), y] ∧ Same H H2 ∧ H2 b = some (.tup (row.map V.str)) ∧ H2 d = some (.dK kvs) ∧ kvs.length ≤ 20 * i + j ∧ ∀ z, valV kvs (Sum.inr z) = if cnt (rs.take i) z + (if z ∈ row.take j then 1 else 0) = 0 then none else some (.int ((cnt (rs.take i) z + (if z ∈ row.take j then 1 else 0) : Nat) : Int)))
        ⟨y, kvs, rfl, s1, hb1, eD, by omega, fun z => by simpa using hval z⟩ (fun j σ H2 _ ⟨y, kvs, _, _, h, _⟩ => SqT.of h) ?_ ?_
      · rintro j v σ H2 hv ⟨y, kvs, rfl, s2, hb2, eD2, hl2, hval2⟩
        rw [List.getElem?_map] at hv
        obtain ⟨z, hz, rfl⟩ := Option.map_eq_some_iff.mp hv
        have hjl : j < row.length := (List.getElem?_eq_some_iff.mp hz).1
        have hzn : z ∉ row.take j := fun hm => by
          obtain ⟨i', hi', e'⟩ := List.getElem_of_mem hm
          rw [List.length_take] at hi'
          rw [List.getElem_take] at e'
          have hj := (List.getElem?_eq_some_iff.mp hz).2
          exact List.pairwise_iff_getElem.mp hnd i' j (by omega) hjl (by omega) (e'.trans hj.symm)
        have ec : (valV kvs (Sum.inr z)).getD (V.int 0) = V.int ((cnt (rs.take i) z : Nat) : Int) := by
          rw [hval2 z, if_neg hzn, Nat.add_zero]
          by_cases h0 : cnt (rs.take i) z = 0
          · rw [if_pos h0, h0]
            rfl
          · rw [if_neg h0]
            rfl
        refine ⟨_, rfl, d, rfl, .inl ⟨_, .inl eD2⟩, _, rfl, _, DGet.k (k := Sum.inr z) eD2, _, _, ec, rfl, ?_⟩
        refine ⟨_, rfl, _, rfl, d, _, rfl, DPut.k (k := Sum.inr z) eD2 (sz (by omega)), ?_⟩
        have nbd : b ≠ d := ne_of hb2 eD2 (fun q => nomatch q)
        refine ⟨_, _, rfl, same_mut s2 hd, by rw [upd_ne nbd]; exact hb2, upd_same, ?_, fun y => ?_⟩
        · exact Nat.le_trans (putK_len _ _ _) (by omega)
        · rw [valV_put]
          have em : (y ∈ row.take (j + 1)) ↔ (y ∈ row.take j ∨ y = z) := by
            rw [take_one hz, List.mem_append, List.mem_singleton]
          by_cases e : y = z
          · subst e
            rw [if_pos rfl, if_pos (em.mpr (.inr rfl)), if_neg (by omega)]
            congr 1
          · rw [if_neg (fun q => e (by injection q)), hval2 y]
            by_cases hm : y ∈ row.take j
            · rw [if_pos hm, if_pos (em.mpr (.inl hm))]
            · rw [if_neg hm, if_neg (fun q => (em.mp q).elim hm e)]
      · rintro σ H2 ⟨y, kvs, rfl, s2, hb2, eD2, hl2, hval2⟩
        rw [List.length_map] at hl2 hval2
        refine ⟨_, _, kvs, rfl, s2, eD2, by omega, fun z => ?_⟩
        rw [hval2 z, cnt_row erow, List.take_of_length_le (Nat.le_refl _)]
    · rintro σ H' ⟨x, y, kvs, rfl, s1, eD, hl, hval⟩
      rw [List.length_map, fl.1, List.take_of_length_le (Nat.le_refl _)] at hval
      exact ⟨_, rfl, k d H' s1 ⟨kvs, eD, hval⟩⟩
end
end Toy

set_option Elab.async false
set_option maxRecDepth 100000
set_option maxHeartbeats 4000000
namespace Toy
open PySem L2
open U (Tm Pt RR tn nms vars addN dd rows cnt)
theorem red (R : VK → Prop) (Qk : VK) {v : V} {H : Hp} (f : ∀ Qv : VK, Qv v H → R Qv) (q : Qk v H) : R Qk := f Qk q
theorem flat_str (l : List Str) : (l.map V.str).all flatV = true := by
  rw [List.all_map, List.all_eq_true]
  exact fun _ _ => rfl
theorem inV_str (x : Str) (l : List Str) : inV (.str x) (l.map V.str) = decide (x ∈ l) := by
  unfold inV
  rw [List.any_map]
  by_cases h : x ∈ l
  · rw [decide_eq_true h, List.any_eq_true]
    exact ⟨x, h, by simp [eqV]⟩
  · rw [decide_eq_false h, List.any_eq_false]
    intro y hy
    simp only [Function.comp, eqV, beq_iff_eq]
    intro e
    exact h (e ▸ hy)
def spRuleInit (A : Ad) : Sp := fun vs H Q _ => ∃ (p dx tp bp : Addr) (name : Str) (sv : V) (sm : Bool) (ts : List Tm) (body : List Pt) (bs : List Addr), vs = [.ref p, .str name, .ref tp, .ref bp, sv] ∧ H p = some (.ins A.C_Rule dx []) ∧ LTms A.C_Term H tp ts ∧ H bp = some (.lst (bs.map V.ref)) ∧
  All2 (LitAt A H) bs body ∧ WfT ts ∧ WfB body ∧ ((sv = .non ∧ sm = false) ∨ ∃ sp xs, sv = .ref sp ∧ H sp = some (.tup xs) ∧ sm = true) ∧ ∀ H', RuleAt A H' p ⟨name, ts, body, sm⟩ → SameX p H H' → Q .non H'
section
variable {P : Program} {w : World} {K : PySem.W.Frag} {mg : Str → Option Value} {base : Heap} {A : Ad}
theorem wfT_nms {ts : List Tm} (h : WfT ts) : (nms ts).Nodup ∧ (nms ts).length ≤ 20 := ⟨U.dd_nodup _, Nat.le_trans (U.nms_len ts) h.1⟩
theorem ok_rule_init (T : Txt K mg A) : FnOk P w K mg base CX0 3 A.f_Rule_init A.d_Rule_init ["self", "name", "terms", "body", "summed"] (spRuleInit A) := by
  have G_names_in : FnOk P w K mg base CX0 2 A.f_names_in A.d_names_in ["terms"] (spNamesIn A.C_Term) := ok_names_in T
  have G_how_often : FnOk P w K mg base CX0 1 A.f_how_often A.d_how_often ["rows"] spHow := ok_how T
  have G_Literal_names : FnOk P w K mg base CX0 1 A.f_Literal_names A.d_Literal_names ["self"] (spLitNames A) := ok_lit_names T
  refine T.F_Rule_init.ok sc_Rule_init (fun vs H Q E h => ?_) (fun cdv ar outer s H vs Q E hr h => ?_)
  · obtain ⟨p, dx, tp, bp, name, sv, sm, ts, body, bs, rfl, _⟩ := h
    rfl
  · obtain ⟨p, dx, tp, bp, name, sv, sm, ts, body, bs, rfl, hp, ⟨as, et, ft⟩, eb, fb, hw, hwb, hsv, k⟩ := h
    refine ⟨_, (pss_cons (sfldK K (pv 0) (pv 1) rfl)
      (pss_cons (sfldK K (pv 0) (pe_callTy (tupOf K) (by rfl) T.z_tuple (by decide +kernel) (pa_cons (pv 2) pa_nil)) rfl)
      (pss_cons (sfldK K (pv 0) (pe_callTy (tupOf K) (by rfl) T.z_tuple (by decide +kernel) (pa_cons (pv 3) pa_nil)) rfl)
      (pss_cons (sfldK K (pv 0) (pe_ifExp (pt_cmpR op_isN (pv 4) pe_non (nomark _)) pe_non (pe_callTy (tupOf K) (by rfl) T.z_tuple (by decide +kernel) (pa_cons (pv 4) pa_nil))) rfl)
      (pss_one (sfldK K (pv 0) (pe_call G_how_often (hr.mono (by decide)) (by rfl) T.m_how_often T.F_how_often.kp T.b_how_often .nil pass0 (pa_cons (pe_op op_cat (pe_lst (pa_cons (pe_call G_names_in (hr.mono (by decide)) (by rfl) T.m_names_in T.F_names_in.kp T.b_names_in .nil pass0 (pa_cons (fldK K (pv 0) rfl) pa_nil)) pa_nil)) (pe_lc (own := [("part", 5)]) (by rfl) sc_Rule_init.nd (tupIK K (fldK K (pv 0) rfl)) (blkOk_by (own := [("part", 5)]) (N := N_Rule_init) (sc := defScope s_Rule_init) (by decide +kernel)) (fun _ _ _ _ _ => (pg_name (i := 5) sc_Rule_init.nd rfl (Or.inl rfl))) (fun _ _ _ _ _ => pts_nil) (fun _ _ _ _ _ => (pe_meth0 (pv 5) T.cl_Literal T.e_Literal_names G_Literal_names (hr.mono (by decide)) T.b_Literal_names .nil pass0)))) pa_nil)) rfl)))))), ?_⟩
    have ntp : tp ≠ p := ne_of et hp (fun q => nomatch q)
    have nbp : bp ≠ p := ne_of eb hp (fun q => nomatch q)
    refine ⟨_, rfl, _, rfl, p, _, dx, _, rfl, hp, T.cl_Rule, T.n_Rule_name, (by show 0 < 1000; decide), ?_⟩
    refine ⟨_, rfl, tp, _, rfl, .inl ⟨SqL.of (by rw [upd_ne ntp]; exact et), fun pt hpt => ?_⟩⟩
    have npt : p ≠ pt := ne_of_none upd_same hpt
    have hptH : H pt = none := by
      rw [upd_ne npt.symm] at hpt
      exact hpt
    refine ⟨_, rfl, p, _, dx, _, rfl, (by rw [upd_ne npt, upd_same]), T.cl_Rule, T.n_Rule_terms, (by show 1 < 1000; decide), ?_⟩
    have x1 : SameX p H (upd (upd (upd H p (.ins A.C_Rule dx (putF "name" (.str name) []))) pt (.tup (as.map V.ref))) p (.ins A.C_Rule dx (putF "terms" (.ref pt) (putF "name" (.str name) [])))) :=
      fun b o e nb => by rw [upd_ne nb, upd_ne (ne_of_none e hptH), upd_ne nb]; exact e
    refine ⟨_, rfl, bp, _, rfl, .inl ⟨SqL.of (x1 _ _ eb nbp), fun pb hpb => ?_⟩⟩
    have npb : p ≠ pb := ne_of_none upd_same hpb
    have nptb : pt ≠ pb := ne_of_none (by rw [upd_ne npt.symm, upd_same]) hpb
    refine ⟨_, rfl, p, _, dx, _, rfl, (by rw [upd_ne npb, upd_same]), T.cl_Rule, T.n_Rule_body, (by show 2 < 1000; decide), ?_⟩
    refine ⟨_, rfl, rfl, _, rfl, ?_⟩
    generalize hH3 : upd (upd (upd (upd (upd H p (.ins A.C_Rule dx (putF "name" (.str name) []))) pt (.tup (as.map V.ref))) p (.ins A.C_Rule dx (putF "terms" (.ref pt) (putF "name" (.str name) [])))) pb (.tup (bs.map V.ref))) p _ = H3
    have x3 : SameX p H H3 := fun b o e nb => by
      rw [← hH3, upd_ne nb, upd_ne (ne_of_none (x1 _ _ e nb) hpb)]
      exact x1 _ _ e nb
    have h3p : H3 p = some (.ins A.C_Rule dx (putF "body" (.ref pb) (putF "terms" (.ref pt) (putF "name" (.str name) [])))) := by rw [← hH3, upd_same]
    have h3t : H3 pt = some (.tup (as.map V.ref)) := by rw [← hH3, upd_ne npt.symm, upd_ne nptb, upd_ne npt.symm, upd_same]
    have h3b : H3 pb = some (.tup (bs.map V.ref)) := by rw [← hH3, upd_ne npb.symm, upd_same]
    rcases hsv with ⟨e1, e2⟩ | ⟨sp, xs, e1, es, e2⟩
    all_goals
      subst e1
      first
        | refine iteT ?_
        | refine iteF ⟨_, rfl, sp, _, rfl, .inr ⟨SqT.of (x3 _ _ es (ne_of es hp (fun q => nomatch q))), ?_⟩⟩
      refine ⟨_, rfl, p, _, dx, _, rfl, h3p, T.cl_Rule, T.n_Rule_summed, (by show 3 < 1000; decide), ?_⟩
      generalize hH4 : upd H3 p _ = H4
      have x4 : SameX p H H4 := fun b o e nb => by rw [← hH4, upd_ne nb]; exact x3 _ _ e nb
      obtain ⟨sv', h4p, hsv'⟩ : ∃ sv', H4 p = some (.ins A.C_Rule dx (putF "summed" sv' (putF "body" (.ref pb) (putF "terms" (.ref pt) (putF "name" (.str name) []))))) ∧ decide (sv' = .non) = !sm := ⟨_, by rw [← hH4, upd_same], by rw [e2]; rfl⟩
      have h4t : H4 pt = some (.tup (as.map V.ref)) := by rw [← hH4, upd_ne npt.symm]; exact h3t
      have h4b : H4 pb = some (.tup (bs.map V.ref)) := by rw [← hH4, upd_ne npb.symm]; exact h3b
      have tm4 : TmsAt A.C_Term H4 pt ts := ⟨as, h4t, ft.imp fun a t h => TmAt.upx h x4 (TmAt.ne_bare h hp)⟩
      refine ⟨_, rfl, p, _, dx, _, _, rfl, h4p, T.cl_Rule, T.n_Rule_terms, (by rw [lookup_putF, if_neg (by decide +kernel), lookup_putF, if_neg (by decide +kernel), lookup_putF, if_pos rfl]), pt, ts, rfl, tm4, hw, fun n1 H5 s5 e5 => ?_⟩
      refine ⟨(by show 1 ≤ sizeLine; decide), fun l hl => ?_⟩
      have s6 : Same H4 (upd H5 l (.lst [.ref n1])) := s5.trans (same_new hl)
      refine ⟨_, rfl, p, _, dx, _, _, rfl, s6 _ _ h4p, T.cl_Rule, T.n_Rule_body, (by rw [lookup_putF, if_neg (by decide +kernel), lookup_putF, if_pos rfl]), pb, rfl, ⟨_, SqT.of (s6 _ _ h4b)⟩, fun D hD => ?_⟩
      have st : Stab D fun H y (row : List Str) => ∃ a, y = .ref a ∧ H a = some (.tup (row.map V.str)) := ⟨fun ⟨a, e, h⟩ s => ⟨a, e, s _ _ h⟩, fun hl ⟨a, e, h⟩ => ⟨a, e, by rw [upd_ne (ne_of h hl (fun q => nomatch q))]; exact h⟩⟩
      have fb4 : All2 (LitAt A H4) bs body := fb.imp fun a t h => LitAt.upx h x4 hp
      refine lc_tup (K := K) (a := pb) (xs := bs.map V.ref) (LcI (fun H y (row : List Str) => ∃ a, y = .ref a ∧ H a = some (.tup (row.map V.str))) (fun _ => true) (body.map fun q => nms q.ts) (upd H5 l (.lst [.ref n1])) D) (LcI.start hD) (fun i H' _ h => SqT.of (h.1 _ _ (s6 _ _ h4b))) ?_ ?_
      · rintro i x H' hx h
        obtain ⟨b, q, rfl, eb', eq', hb⟩ := fb4.at hx
        have hb1 := (hb.up s6).up h.1
        obtain ⟨dxb, ptb, pob, gb, _, _⟩ := id hb1
        refine ⟨rfl, _, rfl, b, dxb, _, rfl, gb, lf_names _ _ _ _, b, q, rfl, hb1, fun t ht => ?_⟩
        exact h.yes st hD (by rw [List.length_map]; have := hwb.1; omega) (by rw [List.getElem?_map, eq']; rfl) rfl (fun _ _ e => e) ⟨t, rfl, ht⟩
      · intro H' h
        obtain ⟨ys, s7, eD, hv⟩ := h.fin (by rw [List.length_map, List.length_map, fb.1]; exact Nat.le_refl _)
        obtain ⟨cs, rfl, hc⟩ := hv.refs
        rw [filter_tt] at hc
        have el7 := s7 _ _ (show upd H5 l (.lst [.ref n1]) l = _ from upd_same)
        refine ⟨l, D, _, _, rfl, rfl, el7, eD, ?_, fun m hm => ?_⟩
        · rw [List.length_map, hc.1, List.length_map]
          have := hwb.1
          exact sz' (by show 1 + _ ≤ 1000; omega)
        · have s8 := s7.trans (same_new hm (o := .lst ([V.ref n1] ++ cs.map V.ref)))
          have all : All2 (fun b row => upd H' m (.lst ([V.ref n1] ++ cs.map V.ref)) b = some (.tup (row.map V.str))) (n1 :: cs) (rows ⟨name, ts, body, sm⟩) :=
            .cons (s8 _ _ (same_new hl _ _ e5)) (hc.imp fun a t h => same_new hm _ _ h)
          refine ⟨m, n1 :: cs, _, rfl, upd_same, all, ?_, ?_, fun d H9 s9 hcnt => ?_⟩
          · rw [← all.1, List.length_cons, hc.1, List.length_map]
            have := hwb.1
            omega
          · intro row hrow
            rcases List.mem_cons.mp hrow with rfl | hrow
            · exact wfT_nms hw
            · obtain ⟨q, hq, rfl⟩ := List.mem_map.mp hrow
              exact wfT_nms (hwb.2 q hq).1
          · have s10 : Same H4 H9 := s6.trans (s8.trans s9)
            have h9p := s10 _ _ h4p
            refine ⟨_, rfl, p, _, dx, _, rfl, h9p, T.cl_Rule, T.n_Rule_stands, (by show 4 < 1000; decide), ?_⟩
            obtain ⟨kvs, ekv, hkv⟩ := hcnt
            have x10 : SameX p H (upd H9 p (.ins A.C_Rule dx (rf name pt pb sv' d))) := fun b o e nb => by rw [upd_ne nb]; exact s10 _ _ (x4 _ _ e nb)
            refine k _ ⟨dx, pt, pb, d, sv', bs, upd_same, ⟨as, ?_, ft.imp fun a t h => TmAt.upx h x10 (TmAt.ne_bare h hp)⟩, ?_, fb.imp fun a t h => LitAt.upx h x10 hp, ?_, kvs, ?_, hkv⟩ x10
            · rw [upd_ne npt.symm]
              exact s10 _ _ h4t
            · rw [upd_ne npb.symm]
              exact s10 _ _ h4b
            · exact hsv'
            · rw [upd_ne (ne_of ekv h9p (fun q => nomatch q))]
              exact ekv
end
end Toy

set_option Elab.async false
set_option maxRecDepth 100000
set_option maxHeartbeats 4000000
namespace Toy
open PySem L2
open U (Tm Pt RR tn nms vars addN dd rows cnt)
/-! ### terms under a binding -/
abbrev Kvs := List (Key × V)
def tvw (k : Kvs) : Tm → Option V
  | .inl s => valV k (Sum.inr s)
  | .inr i => some (.int i)
def mat : List Tm → List V → Kvs → Option Kvs
  | [], [], k => some k
  | t :: ts, v :: vs, k => match tvw k t with
    | none => mat ts vs (putK k (Sum.inr (tn t)) v)
    | some x => if x = v then mat ts vs k else none
  | _, _, _ => none
theorem mat_len : ∀ {ts : List Tm} {row : List V}, ¬ ts.length = row.length → ∀ k, mat ts row k = none
  | [], [], h, _ => absurd rfl h
  | [], _ :: _, _, _ => rfl
  | _ :: _, [], _, _ => rfl
  | t :: ts, v :: vs, h, k => by
    have ih := mat_len (ts := ts) (row := vs) fun e => h (congrArg Nat.succ e)
    show (match tvw k t with | none => _ | some x => _) = _
    cases tvw k t with
    | none => exact ih _
    | some x =>
      show (if x = v then _ else _) = _
      rw [ih]
      exact ite_self _
def flatIS : V → Bool
  | .int _ => true
  | .str _ => true
  | _ => false
theorem scal_is {x y : V} (hx : flatIS x = true) (hy : flatIS y = true) : scal x y = true := by
  cases x <;> cases hx <;> cases y <;> cases hy <;> rfl
/-- the values in a binding are numbers and words -/
def KvOk (k : Kvs) : Prop := ∀ p ∈ k, flatIS p.2 = true
theorem valV_mem {k : Kvs} {x : Key} {v : V} (h : valV k x = some v) : (x, v) ∈ k := by
  unfold valV at h
  obtain ⟨p, hp, rfl⟩ := Option.map_eq_some_iff.mp h
  have h1 := List.mem_of_find?_eq_some hp
  have h2 := List.find?_some hp
  have h3 : p.1 = x := of_decide_eq_true h2
  rw [← h3]
  exact h1
theorem KvOk.val {k : Kvs} (h : KvOk k) {t : Tm} {v : V} (e : tvw k t = some v) : flatIS v = true := by
  cases t with
  | inl s => exact h _ (valV_mem e)
  | inr i => cases e; rfl
theorem mem_putK {k : Kvs} {x : Key} {v : V} {p : Key × V} (h : p ∈ putK k x v) : p ∈ k ∨ p = (x, v) := by
  unfold putK at h
  split at h
  · obtain ⟨q, hq, e⟩ := List.mem_map.mp h
    split at e
    · next h1 => right; rw [← e]; have : q.1 = x := by simpa using h1
                 rw [this]
    · left; rw [← e]; exact hq
  · rcases List.mem_append.mp h with h | h
    · exact .inl h
    · exact .inr (List.mem_singleton.mp h)
theorem KvOk.put {k : Kvs} (h : KvOk k) {x : Key} {v : V} (hv : flatIS v = true) : KvOk (putK k x v) := fun p hp => by
  rcases mem_putK hp with hp | rfl
  · exact h p hp
  · exact hv
def spUnder (C : Addr) : Sp := fun vs H Q _ => ∃ (a b : Addr) (t : Tm) (k : Kvs) (x : V), vs = [.ref a, .ref b] ∧ TO C H a t ∧ okT t = true ∧ H b = some (.dK k) ∧ tvw k t = some x ∧ Q x H
def spKnown (C : Addr) : Sp := fun vs H Q _ => ∃ (a b : Addr) (t : Tm) (k : Kvs), vs = [.ref a, .ref b] ∧ TO C H a t ∧ okT t = true ∧ H b = some (.dK k) ∧ Q (.bl (tvw k t).isSome) H
def spMatched (C : Addr) : Sp := fun vs H Q _ => ∃ (p r b : Addr) (ts : List Tm) (row : List V) (k : Kvs), vs = [.ref p, .ref r, .ref b] ∧ TmsAt C H p ts ∧ WfT ts ∧ H r = some (.tup row) ∧ (∀ v ∈ row, flatIS v = true) ∧ row.length ≤ 20 ∧ H b = some (.dK k) ∧ KvOk k ∧ k.length ≤ 900 ∧
  (mat ts row k = none → ∀ H', Same H H' → Q .non H') ∧ ∀ k', mat ts row k = some k' → ∀ d H', Same H H' → H d = none → H' d = some (.dK k') → Q (.ref d) H'
def spPat0 (C : Addr) : Sp := fun vs H Q _ => ∃ (p b : Addr) (ts : List Tm) (k : Kvs), vs = [.ref p, .ref b] ∧ TmsAt C H p ts ∧ WfT ts ∧ H b = some (.dK k) ∧ (∀ t ∈ ts, tvw k t = none) ∧
  ∀ q a c H', Same H H' → H' q = some (.tup [.ref a, .ref c]) → H' a = some (.tup []) → H' c = some (.tup []) → Q (.ref q) H'
theorem no_known (n : Str) (v : V) : (tf n v).lookup ("known" : Str) = none := tf_no n v (by decide +kernel) (by decide +kernel)
theorem no_under (n : Str) (v : V) : (tf n v).lookup ("under" : Str) = none := tf_no n v (by decide +kernel) (by decide +kernel)
section
variable {P : Program} {w : World} {K : PySem.W.Frag} {mg : Str → Option Value} {base : Heap} {A : Ad}
theorem ok_under (T : Txt K mg A) : FnOk P w K mg base CX0 2 A.f_Term_under A.d_Term_under ["self", "bound"] (spUnder A.C_Term) := by
  have G_Term_is_variable : FnOk P w K mg base CX0 1 A.f_Term_is_variable A.d_Term_is_variable ["self"] (spIsVar A.C_Term) := ok_is_variable T
  refine T.F_Term_under.ok sc_Term_under (fun vs H Q E h => ?_) (fun cdv ar outer s H vs Q E hr h => ?_)
  · obtain ⟨a, b, t, k, x, rfl, _⟩ := h
    rfl
  · obtain ⟨a, b, t, k, x, rfl, ha, hok, hb, e, q⟩ := h
    have hu := hu_of hr
    obtain ⟨dx, g⟩ := id ha
    refine ⟨_, (pss_cons (ps_if (pt_not (pt_val (pe_meth0 (pv 0) T.cl_Term T.e_Term_is_variable G_Term_is_variable (hr.mono (by decide)) T.b_Term_is_variable .nil pass0)))
        (pss_one (ps_ret (fldK K (pv 0) rfl)))
        pss_nil)
      (pss_cons (ps_if (pt_cmp (pc_dnotin hu (fldK K (pv 0) rfl) (pv 1)))
        (pss_one ps_never)
        pss_nil)
      (pss_one (ps_ret (pe_dget hu (pv 1) (fldK K (pv 0) rfl) (fun _ _ => rfl)))))), ?_⟩
    refine ⟨_, rfl, a, dx, _, rfl, g, no_isv _ _, a, _, _, rfl, ha, _, rfl, ?_⟩
    rw [isVar_tn hok]
    cases t with
    | inl s =>
      refine iteF ?_
      refine ⟨_, rfl, a, _, dx, _, _, rfl, g, T.cl_Term, T.n_Term_name, tf_name _ _, _, rfl, b, _, rfl, DGet.k (k := Sum.inr s) hb, ?_⟩
      have e' : valV k (Sum.inr s) = some x := e
      rw [e']
      refine ⟨_, rfl, iteF ⟨_, rfl, _, rfl, a, _, dx, _, _, rfl, g, T.cl_Term, T.n_Term_name, tf_name _ _, b, _, rfl, ?_, q⟩⟩
      exact e'.symm ▸ DGet.k (k := Sum.inr s) hb
    | inr i =>
      cases e
      exact iteT ⟨_, rfl, a, _, dx, _, _, rfl, g, T.cl_Term, T.n_Term_value, tf_value _ _, q⟩
theorem ok_known (T : Txt K mg A) : FnOk P w K mg base CX0 2 A.f_Term_known A.d_Term_known ["self", "bound"] (spKnown A.C_Term) := by
  have G_Term_is_variable : FnOk P w K mg base CX0 1 A.f_Term_is_variable A.d_Term_is_variable ["self"] (spIsVar A.C_Term) := ok_is_variable T
  refine T.F_Term_known.ok sc_Term_known (fun vs H Q E h => ?_) (fun cdv ar outer s H vs Q E hr h => ?_)
  · obtain ⟨a, b, t, k, rfl, _⟩ := h
    rfl
  · obtain ⟨a, b, t, k, rfl, ha, hok, hb, q⟩ := h
    have hu := hu_of hr
    obtain ⟨dx, g⟩ := id ha
    refine ⟨_, (pss_one (ps_ret (pe_or (pe_not (pe_meth0 (pv 0) T.cl_Term T.e_Term_is_variable G_Term_is_variable (hr.mono (by decide)) T.b_Term_is_variable .nil pass0)) (pe_one (pe_cmp (pc_din hu (fldK K (pv 0) rfl) (pv 1)) rfl))))), ?_⟩
    refine ⟨_, rfl, a, dx, _, rfl, g, no_isv _ _, a, _, _, rfl, ha, _, rfl, ?_⟩
    rw [isVar_tn hok]
    cases t with
    | inl s => exact ⟨_, rfl, iteF ⟨_, rfl, a, _, dx, _, _, rfl, g, T.cl_Term, T.n_Term_name, tf_name _ _, _, rfl, b, _, rfl, DGet.k (k := Sum.inr s) hb, q⟩⟩
    | inr i => exact ⟨_, rfl, iteT q⟩
theorem ok_matched (T : Txt K mg A) : FnOk P w K mg base CX0 3 A.f_matched A.d_matched ["terms", "row", "bound"] (spMatched A.C_Term) := by
  have G_Term_known : FnOk P w K mg base CX0 2 A.f_Term_known A.d_Term_known ["self", "bound"] (spKnown A.C_Term) := ok_known T
  have G_Term_under : FnOk P w K mg base CX0 2 A.f_Term_under A.d_Term_under ["self", "bound"] (spUnder A.C_Term) := ok_under T
  refine T.F_matched.ok sc_matched (fun vs H Q E h => ?_) (fun cdv ar outer s H vs Q E hr h => ?_)
  · obtain ⟨p, r, b, ts, row, k, rfl, _⟩ := h
    rfl
  · obtain ⟨p, r, b, ts, row, k, rfl, ⟨as, ep, fp⟩, ⟨h20, hok⟩, er, hrow, hr20, eb, hk, hk9, q1, q2⟩ := h
    have hu := hu_of hr
    refine ⟨_, (pss_cons (ps_if (pt_cmpR op_ne (pe_callB (lenK K) (by rfl) T.z_len (by decide +kernel) (pa_cons (pv 0) pa_nil)) (pe_callB (lenK K) (by rfl) T.z_len (by decide +kernel) (pa_cons (pv 1) pa_nil)) (nomark _))
        (pss_one (ps_ret pe_non))
        pss_nil)
      (pss_cons (ps_set (i := 3) sc_matched.nd rfl (Or.inl rfl) (pe_callTy call_dictD (by rfl) T.z_dict (by decide +kernel) (pa_cons (pv 2) pa_nil)))
      (pss_cons (ps_for PassesOwn.never rfl (zipTK K (by rfl) T.z_zip (pa_cons (pv 0) (pa_cons (pv 1) pa_nil))) (tupK K (n := 2) rfl (pgs_cons (pg_name (i := 4) sc_matched.nd rfl (Or.inl rfl)) (pgs_cons (pg_name (i := 5) sc_matched.nd rfl (Or.inl rfl)) pgs_nil)))
        (pss_one (ps_if (pt_not (pt_val (pe_meth (pv 4) T.cl_Term T.e_Term_known G_Term_known (hr.mono (by decide)) T.b_Term_known .nil pass0 (pa_cons (pv 3) pa_nil))))
          (pss_one (ps_dput hu (pv 3) (fldK K (pv 4) rfl) (pv 5) rfl))
          (pss_one (ps_if (pt_cmpR op_ne (pe_meth (pv 4) T.cl_Term T.e_Term_under G_Term_under (hr.mono (by decide)) T.b_Term_under .nil pass0 (pa_cons (pv 3) pa_nil)) (pv 5) (nomark _))
            (pss_one (ps_ret pe_non))
            pss_nil)))))
      (pss_one (ps_ret (pv 3)))))), ?_⟩
    refine ⟨_, rfl, p, _, rfl, .inr (SqT.of ep), _, rfl, r, _, rfl, .inr (SqT.of er), rfl, _, rfl, ?_⟩
    rw [dec_int, List.length_map, fp.1]
    by_cases hl : ts.length = row.length
    · have hl' : ((ts.length : Int) = (row.length : Int)) := by rw [hl]
      rw [decide_eq_true hl']
      refine iteF ⟨_, rfl, b, k, rfl, .inl eb, fun d hd => ?_⟩
      refine ⟨_, rfl, _, rfl, p, r, _, _, rfl, .inr ⟨SqT.of (by rw [upd_ne (ne_of_none ep hd)]; exact ep), SqT.of (by rw [upd_ne (ne_of_none er hd)]; exact er), ?_⟩⟩
      refine RZ.for_zipT (K := K) (a := p) (b := r) (xs := as.map V.ref) (ys := row) (by rw [List.length_map, fp.1, hl])
        (fun i σ H' => ∃ x y k', σ = [some (.ref p), some (.ref r), some (.ref b), some (.ref d), x, y] ∧ Same H H' ∧ H' d = some (.dK k') ∧ KvOk k' ∧ k'.length ≤ 900 + i ∧ mat (ts.drop i) (row.drop i) k' = mat ts row k)
        ⟨none, none, k, rfl, same_new hd, upd_same, hk, by omega, rfl⟩ (fun i σ H' ⟨x, y, k', _, s1, _⟩ => ⟨SqT.of (s1 _ _ ep), SqT.of (s1 _ _ er)⟩) ?_ ?_
      · rintro i v y T0 σ H' hv hy ⟨x0, y0, k', rfl, s1, eD, hk', hl9, em⟩ hT0
        obtain ⟨a, t, rfl, ea, et, ha⟩ := fp.at hv
        have hot := hok t (List.mem_of_getElem? et)
        have hfy := hrow y (List.mem_of_getElem? hy)
        have hi : i < ts.length := (List.getElem?_eq_some_iff.mp et).1
        have e1 : ts.drop i = t :: ts.drop (i + 1) := by
          rw [List.drop_eq_getElem_cons hi]
          rw [(List.getElem?_eq_some_iff.mp et).2]
        have e2 : row.drop i = y :: row.drop (i + 1) := by
          rw [List.drop_eq_getElem_cons (by omega)]
          rw [(List.getElem?_eq_some_iff.mp hy).2]
        rw [e1, e2] at em
        have s2 : Same H (upd H' T0 (.tup [.ref a, y])) := s1.trans (same_new hT0)
        have ha2 := TmAt.up ha s2
        obtain ⟨dx, g⟩ := id ha2
        have eD2 : upd H' T0 (.tup [.ref a, y]) d = some (.dK k') := by rw [upd_ne (ne_of_none eD hT0)]; exact eD
        refine ⟨T0, _, rfl, SqT.of upd_same, rfl, _, _, rfl, _, _, rfl, rfl, ?_⟩
        refine ⟨_, rfl, a, dx, _, rfl, g, no_known _ _, _, rfl, a, d, t, k', rfl, ha2, hot, eD2, _, rfl, ?_⟩
        cases e : tvw k' t with
        | none =>
          have em' : mat (ts.drop (i + 1)) (row.drop (i + 1)) (putK k' (Sum.inr (tn t)) y) = mat ts row k := by
            rw [← em]
            show _ = (match tvw k' t with | none => _ | some x => _)
            rw [e]
          refine iteT ⟨_, rfl, _, rfl, _, rfl, a, _, dx, _, _, rfl, g, T.cl_Term, T.n_Term_name, tf_name _ _, d, _, rfl, DPut.k (k := Sum.inr (tn t)) eD2 (sz (by omega)), ?_⟩
          exact ⟨_, _, _, rfl, same_mut s2 hd, upd_same, hk'.put hfy, by have := putK_len k' (Sum.inr (tn t)) y; omega, em'⟩
        | some x =>
          refine iteF ⟨_, rfl, a, dx, _, rfl, g, no_under _ _, _, rfl, a, d, t, k', x, rfl, ha2, hot, eD2, e, ?_⟩
          have hm : mat ts row k = if x = y then mat (ts.drop (i + 1)) (row.drop (i + 1)) k' else none := by
            rw [← em]
            show (match tvw k' t with | none => _ | some x => _) = _
            rw [e]
          refine ⟨_, rfl, scal_is (hk'.val e) hfy, _, rfl, ?_⟩
          by_cases hxy : x = y
          · rw [decide_eq_true hxy]
            rw [if_pos hxy] at hm
            exact iteF ⟨_, _, _, rfl, s2, eD2, hk', by omega, hm.symm⟩
          · rw [decide_eq_false hxy]
            rw [if_neg hxy] at hm
            exact iteT (q1 hm _ s2)
      · rintro σ H' ⟨x, y, k', rfl, s1, eD, hk', hl9, em⟩
        have e1 : ts.drop (List.map V.ref as).length = [] := by rw [List.length_map, fp.1, List.drop_length]
        have e2 : row.drop (List.map V.ref as).length = [] := by rw [List.length_map, fp.1, hl, List.drop_length]
        rw [e1, e2] at em
        exact ⟨_, rfl, q2 k' em.symm d H' s1 hd eD⟩
    · have hl' : ¬ ((ts.length : Int) = (row.length : Int)) := by omega
      rw [decide_eq_false hl']
      refine iteT (q1 ?_ H fun _ _ e => e)
      exact mat_len hl k
end
end Toy

set_option Elab.async false
set_option maxRecDepth 100000
set_option maxHeartbeats 4000000
namespace Toy
open PySem L2
open U (Tm Pt RR tn nms vars addN dd rows cnt)
/-! ### values held and reckoned -/
def keyV : Key → List V
  | .inl i => [.int 0, .int i, .str ""]
  | .inr s => [.int 1, .int 0, .str s]
def keyD : Key → PyData
  | .inl i => .tuple [.int 0, .int i, .str ""]
  | .inr s => .tuple [.int 1, .int 0, .str s]
def kOk : Key → Bool
  | .inl _ => true
  | .inr s => PyData.strOk s
def less : Key → Key → Bool
  | .inl i, .inl j => decide (i < j)
  | .inl _, .inr _ => true
  | .inr _, .inl _ => false
  | .inr s, .inr t => decide (s.cps.toList < t.cps.toList)
def hb (sg : Str) (x y : Key) : Bool := if sg = "<" then less x y else if sg = "<=" then !less y x else (decide (x = y) == decide (sg = "="))
theorem dp_key {K : PySem.W.Frag} {H : Hp} {a : Addr} {x : Key} (h : H a = some (.tup (keyV x))) : Dp K H (.ref a) (keyD x) := by
  cases x with
  | inl i => exact .tup (SqT.of h) (.cons (.int _) (.cons (.int _) (.cons (.str _) .nil)))
  | inr i => exact .tup (SqT.of h) (.cons (.int _) (.cons (.int _) (.cons (.str _) .nil)))
theorem key_alike (x y : Key) : PySem.W.alike (keyD x) (keyD y) = true := by
  cases x <;> cases y <;> rfl
theorem key_none (x : Key) : keyD x ≠ .none := by
  cases x <;> exact fun z => nomatch z
theorem key_depth (x : Key) : (keyD x).depth ≤ 8 := by
  cases x <;> simp [keyD, PyData.depth, PyData.depthAll]
theorem less_lt (x y : Key) : PySem.W.dataLt (keyD x) (keyD y) = less x y := by
  cases x <;> cases y <;> simp [keyD, less, PySem.W.dataLt_tuple, PySem.W.keyToksAll, PySem.W.keyToks, PyProof.Rows.lexLt, PyProof.Rows.itemLt]
  exact fun _ h => absurd h (Array.lt_irrefl _)
theorem key_eqv (x y : Key) : PyData.eqv (keyD x) (keyD y) = decide (x = y) := by
  cases x <;> cases y <;> simp [keyD, PyData.eqv, PyData.eqvAll]
  all_goals
    rw [Bool.eq_iff_iff]
    simp
theorem key_shaped {x : Key} (h : kOk x = true) : SeqAt.shaped (keyD x) = true := by
  cases x with
  | inl i => simp [keyD, SeqAt.shaped, PyData.canLay0, PyData.canLayAll0, PyData.depth, PyData.depthAll]; exact (by decide +kernel)
  | inr s =>
    have h' : PyData.strOk s = true := h
    simp [keyD, SeqAt.shaped, PyData.canLay0, PyData.canLayAll0, PyData.depth, PyData.depthAll, h']
def zz (deed : Str) (i j : Int) : Int := if deed = "+" then i + j else if deed = "-" then i - j else i * j
def bnd (z : Int) : V := if (decide (-999999999999999999 ≤ z) && decide (z ≤ 999999999999999999)) = true then .int z else .non
def rk (deed : Str) : Key → Key → V
  | .inl i, .inl j => bnd (zz deed i j)
  | _, _ => .non
def kSmall : Key → Prop
  | .inl i => -1000000000000000000 ≤ i ∧ i ≤ 1000000000000000000
  | .inr _ => True
def spValueKey : Sp := fun vs H Q _ => ∃ x : Key, vs = [kV x] ∧ ∀ q, H q = none → Q (.ref q) (upd H q (.tup (keyV x)))
def spHolds : Sp := fun vs H Q _ => ∃ (sg : Str) (x y : Key), vs = [.str sg, kV x, kV y] ∧ kOk x = true ∧ kOk y = true ∧ ∀ H', Same H H' → Q (.bl (hb sg x y)) H'
def spBounded : Sp := fun vs H Q _ => ∃ i : Int, vs = [.int i] ∧ Q (if (decide (-999999999999999999 ≤ i) && decide (i ≤ 999999999999999999)) = true then .int i else .non) H
def spReck : Sp := fun vs H Q _ => ∃ (deed : Str) (x y : Key), vs = [.str deed, kV x, kV y] ∧ kSmall x ∧ kSmall y ∧ Q (rk deed x y) H
section
variable {P : Program} {w : World} {K : PySem.W.Frag} {mg : Str → Option Value} {base : Heap} {A : Ad}
theorem ok_value_key (T : Txt K mg A) : FnOk P w K mg base CX0 2 A.f_value_key A.d_value_key ["value"] spValueKey := by
  have G_is_number : FnOk P w K mg base CX0 1 A.f_is_number A.d_is_number ["value"] spIsNum := ok_isnum T
  refine T.F_value_key.ok sc_value_key (fun vs H Q E h => ?_) (fun cdv ar outer s H vs Q E hr h => ?_)
  · obtain ⟨x, rfl, _⟩ := h
    rfl
  · obtain ⟨x, rfl, q⟩ := h
    refine ⟨_, (pss_one (ps_ret (pe_ifExp (pt_val (pe_call G_is_number (hr.mono (by decide)) (by rfl) T.m_is_number T.F_is_number.kp T.b_is_number .nil pass0 (pa_cons (pv 0) pa_nil))) (pe_tup (pa_cons pe_int (pa_cons (pv 0) (pa_cons pe_str pa_nil)))) (pe_tup (pa_cons pe_int (pa_cons pe_int (pa_cons (pv 0) pa_nil))))))), ?_⟩
    cases x with
    | inl i => exact ⟨_, rfl, _, rfl, .inr (.inl ⟨i, rfl, _, rfl, iteT ⟨_, rfl, (by show 3 ≤ sizeLine; decide), q⟩⟩)⟩
    | inr s => exact ⟨_, rfl, _, rfl, .inr (.inr ⟨s, rfl, _, rfl, iteF ⟨_, rfl, (by show 3 ≤ sizeLine; decide), q⟩⟩)⟩
theorem ok_holds (T : Txt K mg A) : FnOk P w K mg base CX0 3 A.f_holds_between A.d_holds_between ["sign", "one", "other"] spHolds := by
  have G_value_key : FnOk P w K mg base CX0 2 A.f_value_key A.d_value_key ["value"] spValueKey := ok_value_key T
  refine T.F_holds_between.ok sc_holds_between (fun vs H Q E h => ?_) (fun cdv ar outer s H vs Q E hr h => ?_)
  · obtain ⟨sg, x, y, rfl, _⟩ := h
    rfl
  · obtain ⟨sg, x, y, rfl, hx, hy, q⟩ := h
    refine ⟨_, (pss_cons (ps_par (i := 3) (j := 4) (by rfl) sc_holds_between.nd rfl rfl (by decide) rfl rfl (pa_cons (pe_call G_value_key (hr.mono (by decide)) (by rfl) T.m_value_key T.F_value_key.kp T.b_value_key .nil pass0 (pa_cons (pv 1) pa_nil)) (pa_cons (pe_call G_value_key (hr.mono (by decide)) (by rfl) T.m_value_key T.F_value_key.kp T.b_value_key .nil pass0 (pa_cons (pv 2) pa_nil)) pa_nil)) (by rfl))
      (pss_cons (ps_if (pt_cmpR op_eq (pv 0) pe_str (nomark _))
        (pss_one (ps_ret (pe_cmpR (ltD K hr.units) (pv 3) (pv 4) (nomark _))))
        pss_nil)
      (pss_cons (ps_if (pt_cmpR op_eq (pv 0) pe_str (nomark _))
        (pss_one (ps_ret (pe_cmpR (leD K hr.units) (pv 3) (pv 4) (nomark _))))
        pss_nil)
      (pss_one (ps_ret (pe_cmpR op_eq (pe_cmpR (eqD K hr.units) (pv 3) (pv 4) (nomark _)) (pe_cmpR op_eq (pv 0) pe_str (nomark _)) (nomark _))))))), ?_⟩
    refine ⟨_, rfl, x, rfl, fun a ha => ⟨_, rfl, y, rfl, fun b hb' => ?_⟩⟩
    have ea : upd (upd H a (.tup (keyV x))) b (.tup (keyV y)) a = some (.tup (keyV x)) := by rw [upd_ne (ne_of_none upd_same hb'), upd_same]
    have s2 : Same H (upd (upd H a (.tup (keyV x))) b (.tup (keyV y))) := (same_new ha).trans (same_new hb')
    refine ⟨_, _, rfl, _, rfl, rfl, _, rfl, ?_⟩
    rw [dec_str]
    unfold hb at q
    refine iteD (fun h1 => ?_) (fun h1 => ?_)
    · rw [if_pos h1] at q
      refine ⟨_, rfl, _, rfl, keyD x, keyD y, dp_key ea, dp_key upd_same, key_alike _ _, key_none _, key_depth _, ?_⟩
      rw [less_lt]
      exact q _ s2
    · rw [if_neg h1] at q
      refine ⟨_, rfl, rfl, _, rfl, ?_⟩
      rw [dec_str]
      refine iteD (fun h2 => ?_) (fun h2 => ?_)
      · rw [if_pos h2] at q
        refine ⟨_, rfl, _, rfl, keyD x, keyD y, dp_key ea, dp_key upd_same, key_alike _ _, key_none _, key_depth _, ?_⟩
        rw [less_lt]
        exact q _ s2
      · rw [if_neg h2] at q
        refine ⟨_, rfl, _, rfl, keyD x, keyD y, dp_key ea, dp_key upd_same, key_shaped hx, key_shaped hy, _, rfl, rfl, rfl, ?_⟩
        rw [dec_str, key_eqv]
        have e : ∀ a b : Bool, decide (V.bl a = V.bl b) = (a == b) := fun a b => by cases a <;> cases b <;> rfl
        rw [e]
        exact q _ s2
theorem ok_bounded (T : Txt K mg A) : FnOk P w K mg base CX0 1 A.f_bounded A.d_bounded ["number"] spBounded := by
  refine T.F_bounded.ok sc_bounded (fun vs H Q E h => ?_) (fun cdv ar outer s H vs Q E hr h => ?_)
  · obtain ⟨i, rfl, _⟩ := h
    rfl
  · obtain ⟨i, rfl, k⟩ := h
    refine ⟨_, (pss_one (ps_ret (pe_ifExp (pt_chain op_le op_le (pe_un un_neg (pe_glob (v := .int 999999999999999999) rfl T.g_MOST ⟨_, rfl⟩)) (pv 0) (pe_glob (v := .int 999999999999999999) rfl T.g_MOST ⟨_, rfl⟩)) (pv 0) pe_non))), ?_⟩
    refine ⟨_, rfl, _, rfl, _, _, rfl, rfl, _, rfl, ?_⟩
    refine iteD (fun h1 => ?_) (fun h1 => ?_)
    · refine ⟨_, _, rfl, rfl, _, rfl, ?_⟩
      refine iteD (fun h2 => ?_) (fun h2 => ?_)
      · rw [decide_eq_true (show -999999999999999999 ≤ i from h1), decide_eq_true h2] at k
        exact ⟨_, rfl, k⟩
      · rw [decide_eq_false h2, Bool.and_false] at k
        exact k
    · rw [decide_eq_false (show ¬ -999999999999999999 ≤ i from h1), Bool.false_and] at k
      exact ⟨_, rfl, iteF k⟩
theorem ok_reckoned (T : Txt K mg A) : FnOk P w K mg base CX0 2 A.f_reckoned A.d_reckoned ["deed", "one", "other"] spReck := by
  have G_is_number : FnOk P w K mg base CX0 1 A.f_is_number A.d_is_number ["value"] spIsNum := ok_isnum T
  have G_bounded : FnOk P w K mg base CX0 1 A.f_bounded A.d_bounded ["number"] spBounded := ok_bounded T
  refine T.F_reckoned.ok sc_reckoned (fun vs H Q E h => ?_) (fun cdv ar outer s H vs Q E hr h => ?_)
  · obtain ⟨d, x, y, rfl, _⟩ := h
    rfl
  · obtain ⟨d, x, y, rfl, hx, hy, q⟩ := h
    refine ⟨_, (pss_cons (ps_if (PW.pt (pw_or (pt_not (pt_val (pe_call G_is_number (hr.mono (by decide)) (by rfl) T.m_is_number T.F_is_number.kp T.b_is_number .nil pass0 (pa_cons (pv 1) pa_nil)))) (pw_or1 (pt_not (pt_val (pe_call G_is_number (hr.mono (by decide)) (by rfl) T.m_is_number T.F_is_number.kp T.b_is_number .nil pass0 (pa_cons (pv 2) pa_nil)))))))
        (pss_one (ps_ret pe_non))
        pss_nil)
      (pss_cons (ps_if (pt_cmpR op_eq (pv 0) pe_str (nomark _))
        (pss_one (ps_ret (pe_call G_bounded (hr.mono (by decide)) (by rfl) T.m_bounded T.F_bounded.kp T.b_bounded .nil pass0 (pa_cons (pe_op op_add (pv 1) (pv 2)) pa_nil))))
        pss_nil)
      (pss_one (ps_ret (pe_ifExp (pt_cmpR op_eq (pv 0) pe_str (nomark _)) (pe_call G_bounded (hr.mono (by decide)) (by rfl) T.m_bounded T.F_bounded.kp T.b_bounded .nil pass0 (pa_cons (pe_op op_sub (pv 1) (pv 2)) pa_nil)) (pe_call G_bounded (hr.mono (by decide)) (by rfl) T.m_bounded T.F_bounded.kp T.b_bounded .nil pass0 (pa_cons (pe_op op_mul (pv 1) (pv 2)) pa_nil))))))), ?_⟩
    cases x with
    | inr s => exact ⟨_, rfl, _, rfl, .inr (.inr ⟨s, rfl, _, rfl, iteT (iteT q)⟩)⟩
    | inl i =>
      refine ⟨_, rfl, _, rfl, .inr (.inl ⟨i, rfl, _, rfl, iteF ⟨_, rfl, ?_⟩⟩)⟩
      cases y with
      | inr s => exact ⟨_, rfl, .inr (.inr ⟨s, rfl, _, rfl, iteT q⟩)⟩
      | inl j =>
        refine ⟨_, rfl, .inr (.inl ⟨j, rfl, _, rfl, iteF ⟨_, rfl, rfl, _, rfl, ?_⟩⟩)⟩
        rw [dec_str]
        have q : Q (bnd (zz d i j)) H := q
        unfold zz bnd at q
        refine iteD (fun h1 => ?_) (fun h1 => ?_)
        · rw [if_pos h1] at q
          exact ⟨_, rfl, _, rfl, _, _, rfl, rfl, _, rfl, q⟩
        · rw [if_neg h1] at q
          refine ⟨_, rfl, rfl, _, rfl, ?_⟩
          rw [dec_str]
          refine iteD (fun h2 => ?_) (fun h2 => ?_)
          · rw [if_pos h2] at q
            exact ⟨_, rfl, _, rfl, _, _, rfl, rfl, _, rfl, q⟩
          · rw [if_neg h2] at q
            exact ⟨_, rfl, _, rfl, _, _, rfl, rfl, .inl ⟨by have h : (-1000000000000000000 : Int) ≤ i := hx.1; omega, by have h : i ≤ (1000000000000000000 : Int) := hx.2; omega⟩, _, rfl, q⟩
end
end Toy

set_option Elab.async false
set_option maxRecDepth 100000
set_option maxHeartbeats 4000000
namespace Toy
open PySem L2
open U (Tm Pt RR tn nms vars addN dd rows cnt)
/-! ### relations and stores -/
def relf (hd tb : Addr) : List (Str × V) := putF "tables" (.ref tb) (putF "held" (.ref hd) [])
theorem rel_tables (hd tb : Addr) : (relf hd tb).lookup ("tables" : Str) = some (.ref tb) := by
  unfold relf
  rw [lookup_putF, if_pos rfl]
theorem rel_held (hd tb : Addr) : (relf hd tb).lookup ("held" : Str) = some (.ref hd) := by
  unfold relf
  rw [lookup_putF, if_neg (by decide +kernel), lookup_putF, if_pos rfl]
theorem rel_no (hd tb : Addr) {m : Str} (h1 : ¬ m = "tables") (h2 : ¬ m = "held") : (relf hd tb).lookup m = none := by
  unfold relf
  rw [lookup_putF, if_neg h1, lookup_putF, if_neg h2]
  all_goals rfl
def rowD (rs : List (List Key)) : List (List Key × V) := rs.map fun k => (k, V.bl true)
def RelX (A : Ad) (H : Hp) (r : Addr) (rs : List (List Key)) (hd : Addr) : Prop := ∃ dx tb, H r = some (.ins A.C_Relation dx (relf hd tb)) ∧ H hd = some (.dT (rowD rs)) ∧ H tb = some (.dT []) ∧ hd ≠ tb
theorem RelX.up {A : Ad} {H H' : Hp} {r hd : Addr} {rs : List (List Key)} (h : RelX A H r rs hd) (s : Same H H') : RelX A H' r rs hd := by
  obtain ⟨dx, tb, e, f, g, n⟩ := h
  exact ⟨dx, tb, s _ _ e, s _ _ f, s _ _ g, n⟩
def RelAt (A : Ad) (H : Hp) (r : Addr) (rs : List (List Key)) : Prop := ∃ hd, RelX A H r rs hd
theorem RelAt.up {A : Ad} {H H' : Hp} {r : Addr} {rs : List (List Key)} (h : RelAt A H r rs) (s : Same H H') : RelAt A H' r rs := by
  obtain ⟨hd, h⟩ := h
  exact ⟨hd, h.up s⟩
def stf (d : Addr) : List (Str × V) := putF "relations" (.ref d) []
theorem st_rel (d : Addr) : (stf d).lookup ("relations" : Str) = some (.ref d) := by
  unfold stf
  rw [lookup_putF, if_pos rfl]
theorem st_no (d : Addr) {m : Str} (h1 : ¬ m = "relations") : (stf d).lookup m = none := by
  unfold stf
  rw [lookup_putF, if_neg h1]
  all_goals rfl
def StoreAt (A : Ad) (H : Hp) (s : Addr) (nm : Str) (r : Addr) : Prop := ∃ dx d, H s = some (.ins A.C_Store dx (stf d)) ∧ H d = some (.dK [(Sum.inr nm, V.ref r)])
theorem StoreAt.up {A : Ad} {H H' : Hp} {s r : Addr} {nm : Str} (h : StoreAt A H s nm r) (z : Same H H') : StoreAt A H' s nm r := by
  obtain ⟨dx, d, e, f⟩ := h
  exact ⟨dx, d, z _ _ e, z _ _ f⟩
def vwf (s o : Addr) : List (Str × V) := putF "own" (.ref o) (putF "store" (.ref s) [])
theorem vw_own (s o : Addr) : (vwf s o).lookup ("own" : Str) = some (.ref o) := by
  unfold vwf
  rw [lookup_putF, if_pos rfl]
theorem vw_store (s o : Addr) : (vwf s o).lookup ("store" : Str) = some (.ref s) := by
  unfold vwf
  rw [lookup_putF, if_neg (by decide +kernel), lookup_putF, if_pos rfl]
theorem vw_no (s o : Addr) {m : Str} (h1 : ¬ m = "own") (h2 : ¬ m = "store") : (vwf s o).lookup m = none := by
  unfold vwf
  rw [lookup_putF, if_neg h1, lookup_putF, if_neg h2]
  all_goals rfl
def ViewsAt (A : Ad) (H : Hp) (v s : Addr) : Prop := ∃ dx o, H v = some (.ins A.C_Views dx (vwf s o)) ∧ H o = some (.dK [])
theorem ViewsAt.up {A : Ad} {H H' : Hp} {v s : Addr} (h : ViewsAt A H v s) (z : Same H H') : ViewsAt A H' v s := by
  obtain ⟨dx, o, e, f⟩ := h
  exact ⟨dx, o, z _ _ e, z _ _ f⟩
def spRelInit (K : PySem.W.Frag) (A : Ad) : Sp := fun vs H Q _ => ∃ p dx e : Addr, vs = [.ref p, .ref e] ∧ H p = some (.ins A.C_Relation dx []) ∧ (∀ H', SqT K H' e []) ∧ ∀ hd H', H hd = none → RelX A H' p [] hd → SameX p H H' → Q .non H'
def spRelHas (A : Ad) : Sp := fun vs H Q _ => ∃ (r q : Addr) (rs : List (List Key)) (k : List Key), vs = [.ref r, .ref q] ∧ RelAt A H r rs ∧ H q = some (.tup (k.map kV)) ∧ Q (.bl (valV (rowD rs) k).isSome) H
def spRelAdd (A : Ad) : Sp := fun vs H Q _ => ∃ (r q hd : Addr) (k : List Key), vs = [.ref r, .ref q] ∧ RelX A H r [] hd ∧ H q = some (.tup (k.map kV)) ∧
  ∀ H', RelX A H' r [k] hd → SameX hd H H' → Q (.bl true) H'
def spLook (A : Ad) : Sp := fun vs H Q _ => ∃ (r p q : Addr) (rs : List (List Key)), vs = [.ref r, .ref p, .ref q] ∧ RelAt A H r rs ∧ H p = some (.tup []) ∧
  ∀ l bs H', Same H H' → H' l = some (.lst (bs.map V.ref)) → IsKeys H' (rowD rs) bs → Q (.ref l) H'
def spStInit (A : Ad) : Sp := fun vs H Q _ => ∃ p dx : Addr, vs = [.ref p] ∧ H p = some (.ins A.C_Store dx []) ∧ ∀ d H', H' p = some (.ins A.C_Store dx (stf d)) → H d = none → H' d = some (.dK []) → SameX p H H' → Q .non H'
def spStOf (A : Ad) : Sp := fun vs H Q _ => ∃ (s : Addr) (nm : Str), vs = [.ref s, .str nm] ∧ ((∃ r, StoreAt A H s nm r ∧ Q (.ref r) H) ∨ ∃ dx d, H s = some (.ins A.C_Store dx (stf d)) ∧ H d = some (.dK []) ∧
  ∀ r hd H', H r = none → H hd = none → StoreAt A H' s nm r → RelX A H' r [] hd → SameX d H H' → Q (.ref r) H')
def spStoreOf (A : Ad) : Sp := fun vs H Q _ => ∃ (l p q : Addr) (nm : Str) (k : List Key), vs = [.ref l] ∧ H l = some (.lst [.ref p]) ∧ H p = some (.tup [.str nm, .ref q]) ∧ H q = some (.tup (k.map kV)) ∧
  ∀ s r H', Same H H' → StoreAt A H' s nm r → RelAt A H' r [k] → Q (.ref s) H'
def spVwInit (A : Ad) : Sp := fun vs H Q _ => ∃ p dx s : Addr, vs = [.ref p, .ref s, .non] ∧ H p = some (.ins A.C_Views dx []) ∧ ∀ H', ViewsAt A H' p s → SameX p H H' → Q .non H'
def spVwOf (A : Ad) : Sp := fun vs H Q _ => ∃ (v s ru rel : Addr) (j : Nat) (r : RR) (q : Pt), vs = [.ref v, .ref ru, .int j] ∧ ViewsAt A H v s ∧ RuleAt A H ru r ∧ r.body[j]? = some q ∧ StoreAt A H s q.name rel ∧ Q (.ref rel) H
theorem IsKeys.up {H H' : Hp} {kvs : List (List Key × V)} {bs : List Addr} (h : IsKeys H kvs bs) (s : Same H H') : IsKeys H' kvs bs :=
  Paired.mapP h fun p b e => s _ _ e
section
variable {P : Program} {w : World} {K : PySem.W.Frag} {mg : Str → Option Value} {base : Heap} {A : Ad}
theorem ok_rel_init (T : Txt K mg A) : FnOk P w K mg base CX0 1 A.f_Relation_init A.d_Relation_init ["self", "rows"] (spRelInit K A) := by
  refine T.F_Relation_init.ok sc_Relation_init (fun vs H Q E h => ?_) (fun cdv ar outer s H vs Q E hr h => ?_)
  · obtain ⟨p, dx, e, rfl, _⟩ := h
    rfl
  · obtain ⟨p, dx, e, rfl, hp, he, q⟩ := h
    refine ⟨_, (pss_cons (sfldK K (pv 0) (pe_asT (pe_dc (own := [("row", 2)]) (by rfl) sc_Relation_init.nd (tupIK K (pv 1)) (blkOk_by (own := [("row", 2)]) (N := N_Relation_init) (sc := defScope s_Relation_init) (by decide +kernel)) (fun _ _ _ _ _ => (pg_name (i := 2) sc_Relation_init.nd rfl (Or.inl rfl))) (fun _ _ _ _ _ => pts_nil) (fun _ _ _ _ _ => (pv 2)) (fun _ _ _ _ _ => pe_bl))) rfl)
      (pss_one (sfldK K (pv 0) pe_dnewT rfl))), ?_⟩
    refine ⟨_, rfl, e, rfl, ⟨_, he _⟩, fun D hD => ?_⟩
    refine dc_tup (K := K) (a := e) (xs := []) (fun i H' => H' = upd H D (.dK [])) rfl (fun i H' _ _ => he _) (fun i x H' hx => nomatch hx) ?_
    rintro H' rfl
    have npD : p ≠ D := ne_of_none hp hD
    refine ⟨D, rfl, upd_same, _, rfl, p, _, dx, _, rfl, (by rw [upd_upd, upd_ne npD]; exact hp), T.cl_Relation, T.n_Relation_held, (by show 0 < 1000; decide), ?_⟩
    rw [upd_upd]
    refine fun tb htb => ⟨_, rfl, p, _, dx, _, rfl, (by rw [upd_ne (ne_of_none upd_same htb), upd_same]), T.cl_Relation, T.n_Relation_tables, (by show 1 < 1000; decide), ?_⟩
    have npt : p ≠ tb := ne_of_none upd_same htb
    have nDt : D ≠ tb := ne_of_none (by rw [upd_ne npD.symm, upd_same]) htb
    refine q D _ hD ⟨dx, tb, upd_same, by rw [upd_ne npD.symm, upd_ne nDt, upd_ne npD.symm, upd_same]; rfl, by rw [upd_ne npt.symm, upd_same], nDt⟩ fun b o eb nb => ?_
    have htb' : H tb = none := by
      rw [upd_ne npt.symm, upd_ne nDt.symm] at htb
      exact htb
    rw [upd_ne nb, upd_ne (ne_of_none eb htb'), upd_ne nb, upd_ne (ne_of_none eb hD)]
    exact eb
theorem ok_rel_has (T : Txt K mg A) : FnOk P w K mg base CX0 1 A.f_Relation_has A.d_Relation_has ["self", "row"] (spRelHas A) := by
  refine T.F_Relation_has.ok sc_Relation_has (fun vs H Q E h => ?_) (fun cdv ar outer s H vs Q E hr h => ?_)
  · obtain ⟨r, q, rs, k, rfl, _⟩ := h
    rfl
  · obtain ⟨r, q, rs, k, rfl, ⟨hd, dx, tb, er, eh, et, nn⟩, eq, k'⟩ := h
    have hu := hu_of hr
    refine ⟨_, (pss_one (ps_ret (pe_cmp (pc_din hu (pv 1) (fldK K (pv 0) rfl)) rfl))), ?_⟩
    exact ⟨_, rfl, _, rfl, r, _, dx, _, _, rfl, er, T.cl_Relation, T.n_Relation_held, rel_held _ _, hd, _, rfl, DGet.t eh eq, k'⟩
theorem ok_rel_add (T : Txt K mg A) : FnOk P w K mg base CX0 1 A.f_Relation_add A.d_Relation_add ["self", "row"] (spRelAdd A) := by
  refine T.F_Relation_add.ok sc_Relation_add (fun vs H Q E h => ?_) (fun cdv ar outer s H vs Q E hr h => ?_)
  · obtain ⟨r, q, hd, k, rfl, _⟩ := h
    rfl
  · obtain ⟨r, q, hd, k, rfl, ⟨dx, tb, er, eh, et, nn⟩, eq, k'⟩ := h
    have hu := hu_of hr
    refine ⟨_, (pss_cons (ps_if (pt_cmp (pc_din hu (pv 1) (fldK K (pv 0) rfl)))
        (pss_one (ps_ret pe_bl))
        pss_nil)
      (pss_cons (ps_dput hu (fldK K (pv 0) rfl) (pv 1) pe_bl rfl)
      (pss_cons (ps_for PassesOwn.never rfl (listK K (pe_callTy call_listT (by rfl) T.z_list (by decide +kernel) (pa_cons (fldK K (pv 0) rfl) pa_nil))) (pg_name (i := 2) sc_Relation_add.nd rfl (Or.inl rfl))
        (pss_one ps_never))
      (pss_one (ps_ret pe_bl))))), ?_⟩
    refine ⟨_, rfl, _, rfl, r, _, dx, _, _, rfl, er, T.cl_Relation, T.n_Relation_held, rel_held _ _, hd, _, rfl, DGet.t eh eq, _, rfl, iteF ?_⟩
    refine ⟨_, rfl, r, _, dx, _, _, rfl, er, T.cl_Relation, T.n_Relation_held, rel_held _ _, _, rfl, hd, _, rfl, DPut.t eh eq (by show 0 < sizeLine; decide), ?_⟩
    have nh : hd ≠ r := ne_of eh er (fun z => nomatch z)
    have ntr : tb ≠ r := ne_of et er (fun z => nomatch z)
    refine ⟨_, rfl, r, _, dx, _, _, rfl, (by rw [upd_ne nh.symm]; exact er), T.cl_Relation, T.n_Relation_tables, rel_tables _ _, tb, _, rfl, (by rw [upd_ne nn.symm]; exact et), fun l bs hl hb => ?_⟩
    cases hb
    refine ⟨l, rfl, ⟨_, SqL.of upd_same⟩, ?_⟩
    generalize hH2 : upd (upd H hd (.dT (putK (rowD []) k (V.bl true)))) l (.lst (List.map V.ref [])) = H2
    have e2 : H2 l = some (.lst []) := by rw [← hH2, upd_same]; rfl
    refine for_list (K := K) (a := l) (xs := []) (fun i σ H' => ∃ x, σ = [some (.ref r), some (.ref q), x] ∧ H' = H2) ⟨none, rfl, rfl⟩ (fun i σ H' _ ⟨x, _, e⟩ => by rw [e]; exact SqL.of e2) (fun i v σ H' hv => nomatch hv) ?_
    rintro σ H' ⟨x, rfl, rfl⟩
    have nl : hd ≠ l := ne_of_none upd_same hl
    have hl' : H l = none := by
      rw [upd_ne nl.symm] at hl
      exact hl
    refine k' _ ⟨dx, tb, ?_, ?_, ?_, nn⟩ fun b o eb z => ?_
    · rw [← hH2, upd_ne (ne_of_none er hl'), upd_ne nh.symm]
      exact er
    · rw [← hH2, upd_ne nl, upd_same]
      rfl
    · rw [← hH2, upd_ne (ne_of_none et hl'), upd_ne nn.symm]
      exact et
    · rw [← hH2, upd_ne (ne_of_none eb hl'), upd_ne z]
      exact eb
theorem ok_look (T : Txt K mg A) : FnOk P w K mg base CX0 1 A.f_Relation_look A.d_Relation_look ["self", "places", "values"] (spLook A) := by
  refine T.F_Relation_look.ok sc_Relation_look (fun vs H Q E h => ?_) (fun cdv ar outer s H vs Q E hr h => ?_)
  · obtain ⟨r, p, q, rs, rfl, _⟩ := h
    rfl
  · obtain ⟨r, p, q, rs, rfl, ⟨hd, dx, tb, er, eh, et, nn⟩, ep, k⟩ := h
    refine ⟨_, (pss_cons (ps_set (i := 3) sc_Relation_look.nd rfl (Or.inl rfl) (pe_callTy (tupOf K) (by rfl) T.z_tuple (by decide +kernel) (pa_cons (pv 1) pa_nil)))
      (pss_cons (ps_if (pt_cmpR (eqT0 K hr.units0) (pv 3) (pe_tup pa_nil) (nomark _))
        (pss_one (ps_ret (pe_callTy call_listT (by rfl) T.z_list (by decide +kernel) (pa_cons (fldK K (pv 0) rfl) pa_nil))))
        pss_nil)
      (pss_cons ps_never
      (pss_one ps_never)))), ?_⟩
    refine ⟨_, rfl, p, _, rfl, .inr ⟨SqT.of ep, ?_⟩⟩
    refine ⟨_, rfl, Nat.zero_le _, fun m hm => ?_⟩
    refine ⟨p, m, _, rfl, rfl, SqT.of (same_new hm _ _ ep), SqT.of upd_same, _, rfl, ?_⟩
    refine iteT ⟨_, rfl, r, _, dx, _, _, rfl, same_new hm _ _ er, T.cl_Relation, T.n_Relation_held, rel_held _ _, hd, _, rfl, same_new hm _ _ eh, fun l bs hl hb => ?_⟩
    exact k l bs _ ((same_new hm).trans (same_new hl)) upd_same (IsKeys.up hb (same_new hl))
theorem ok_st_init (T : Txt K mg A) : FnOk P w K mg base CX0 1 A.f_Store_init A.d_Store_init ["self"] (spStInit A) := by
  refine T.F_Store_init.ok sc_Store_init (fun vs H Q E h => ?_) (fun cdv ar outer s H vs Q E hr h => ?_)
  · obtain ⟨p, dx, rfl, _⟩ := h
    rfl
  · obtain ⟨p, dx, rfl, hp, k⟩ := h
    refine ⟨_, (pss_one (sfldK K (pv 0) pe_dnewK rfl)), ?_⟩
    refine fun d hd => ⟨_, rfl, p, _, dx, _, rfl, (by rw [upd_ne (ne_of_none hp hd)]; exact hp), T.cl_Store, T.n_Store_relations, (by show 0 < 1000; decide), ?_⟩
    exact k d _ upd_same hd (by rw [upd_ne (ne_of_none hp hd).symm, upd_same]) fun b o eb nb => by rw [upd_ne nb]; exact same_new hd _ _ eb
theorem ok_vw_init (T : Txt K mg A) : FnOk P w K mg base CX0 1 A.f_Views_init A.d_Views_init ["self", "store", "own"] (spVwInit A) := by
  refine T.F_Views_init.ok sc_Views_init (fun vs H Q E h => ?_) (fun cdv ar outer s H vs Q E hr h => ?_)
  · obtain ⟨p, dx, st, rfl, _⟩ := h
    rfl
  · obtain ⟨p, dx, st, rfl, hp, k⟩ := h
    refine ⟨_, (pss_cons (sfldK K (pv 0) (pv 1) rfl)
      (pss_one (sfldK K (pv 0) (pe_ifExp (pt_cmpR op_isN (pv 2) pe_non (nomark _)) pe_dnewK (pv 2)) rfl))), ?_⟩
    refine ⟨_, rfl, _, rfl, p, _, dx, _, rfl, hp, T.cl_Views, T.n_Views_store, (by show 0 < 1000; decide), ?_⟩
    refine ⟨_, rfl, rfl, _, rfl, iteT fun d hd => ?_⟩
    have npd : p ≠ d := ne_of_none upd_same hd
    refine ⟨_, rfl, p, _, dx, _, rfl, (by rw [upd_ne npd, upd_same]), T.cl_Views, T.n_Views_own, (by show 1 < 1000; decide), ?_⟩
    refine k _ ⟨dx, d, upd_same, by rw [upd_ne npd.symm, upd_same]⟩ fun b o eb nb => ?_
    have hd' : H d = none := by
      rw [upd_ne npd.symm] at hd
      exact hd
    rw [upd_ne nb, upd_ne (ne_of_none eb hd'), upd_ne nb]
    exact eb
theorem ok_st_of (T : Txt K mg A) : FnOk P w K mg base CX0 3 A.f_Store_of A.d_Store_of ["self", "name"] (spStOf A) := by
  have G_Relation_init : FnOk P w K mg base CX0 1 A.f_Relation_init A.d_Relation_init ["self", "rows"] (spRelInit K A) := ok_rel_init T
  obtain ⟨ds, hv_Relation_init, hb_Relation_init⟩ := T.bd_Relation_init
  refine T.F_Store_of.ok sc_Store_of (fun vs H Q E h => ?_) (fun cdv ar outer s H vs Q E hr h => ?_)
  · obtain ⟨p, nm, rfl, _⟩ := h
    rfl
  · obtain ⟨p, nm, rfl, h⟩ := h
    have hu := hu_of hr
    refine ⟨_, (pss_cons (ps_if (pt_cmp (pc_dnotin hu (pv 1) (fldK K (pv 0) rfl)))
        (pss_one (ps_dput hu (fldK K (pv 0) rfl) (pv 1) (pe_make0 T.M_Relation G_Relation_init (hr.mono (by decide)) (by rfl) T.m_Relation hb_Relation_init hv_Relation_init pass0) rfl))
        pss_nil)
      (pss_one (ps_ret (pe_dget hu (fldK K (pv 0) rfl) (pv 1) (fun _ _ => rfl))))), ?_⟩
    rcases h with ⟨r, ⟨dx, d, ep, ed⟩, k⟩ | ⟨dx, d, ep, ed, k⟩
    · have dg : DGet H d (.str nm) (some (.ref r)) := by
        have z := DGet.k (k := Sum.inr nm) ed
        have e1 : valV [((Sum.inr nm : Key), V.ref r)] (Sum.inr nm) = some (.ref r) := by simp [valV]
        rw [e1] at z
        exact z
      exact ⟨_, rfl, _, rfl, p, _, dx, _, _, rfl, ep, T.cl_Store, T.n_Store_relations, st_rel _, d, _, rfl, dg, _, rfl, iteF ⟨_, rfl, p, _, dx, _, _, rfl, ep, T.cl_Store, T.n_Store_relations, st_rel _, _, rfl, d, _, rfl, dg, k⟩⟩
    · refine ⟨_, rfl, _, rfl, p, _, dx, _, _, rfl, ep, T.cl_Store, T.n_Store_relations, st_rel _, d, _, rfl, DGet.k (k := Sum.inr nm) ed, _, rfl, iteT ?_⟩
      refine fun x xx nx nxx nex => ⟨x, xx, A.e_Relation_init, rfl, upd_same, T.sq_Relation_init, fun hd H' nhd hR hS => ⟨rfl, ?_⟩⟩
      have sH : Same H H' := fun b o e => hS b o (by rw [upd_ne (ne_of_none e nx), upd_ne (ne_of_none e nxx)]; exact e) (ne_of_none e nx)
      have npd : p ≠ d := ne_of ep ed (fun z => nomatch z)
      refine ⟨_, rfl, p, _, dx, _, _, rfl, sH _ _ ep, T.cl_Store, T.n_Store_relations, st_rel _, _, rfl, d, _, rfl, DPut.k (k := Sum.inr nm) (sH _ _ ed) (by show 0 < sizeLine; decide), ?_⟩
      have eS : StoreAt A (upd H' d (.dK (putK [] (Sum.inr nm) (V.ref x)))) p nm x := ⟨dx, d, by rw [upd_ne npd]; exact sH _ _ ep, upd_same⟩
      have dg : DGet (upd H' d (.dK (putK [] (Sum.inr nm) (V.ref x)))) d (.str nm) (some (.ref x)) := by
        have z := DGet.k (k := Sum.inr nm) (upd_same (H := H') (a := d) (o := .dK (putK [] (Sum.inr nm) (V.ref x))))
        have e1 : valV (putK ([] : List (Key × V)) (Sum.inr nm) (V.ref x)) (Sum.inr nm) = some (.ref x) := by simp [valV, putK]
        rw [e1] at z
        exact z
      refine ⟨_, rfl, p, _, dx, _, _, rfl, (by rw [upd_ne npd]; exact sH _ _ ep), T.cl_Store, T.n_Store_relations, st_rel _, _, rfl, d, _, rfl, dg, ?_⟩
      obtain ⟨dr, tb, er, eh, et, nn⟩ := hR
      have nhd' : H hd = none := by
        cases z : H hd with
        | none => rfl
        | some o =>
          have := (by rw [upd_ne (ne_of_none z nx), upd_ne (ne_of_none z nxx)]; exact z : upd (upd H xx (.own x)) x (.ins A.C_Relation xx []) hd = some o)
          rw [nhd] at this
          cases this
      have n1 : x ≠ d := ne_of er (sH _ _ ed) (fun z => nomatch z)
      have n2 : hd ≠ d := ne_of eh (sH _ _ ed) (fun z => nomatch z)
      have n3 : tb ≠ d := ne_of et (sH _ _ ed) (fun z => nomatch z)
      exact k x hd _ nx nhd' eS ⟨dr, tb, by rw [upd_ne n1]; exact er, by rw [upd_ne n2]; exact eh, by rw [upd_ne n3]; exact et, nn⟩ fun b o e nb => by rw [upd_ne nb]; exact sH _ _ e
theorem ok_vw_of (T : Txt K mg A) : FnOk P w K mg base CX0 4 A.f_Views_of A.d_Views_of ["self", "rule", "number"] (spVwOf A) := by
  have G_Store_of : FnOk P w K mg base CX0 3 A.f_Store_of A.d_Store_of ["self", "name"] (spStOf A) := ok_st_of T
  refine T.F_Views_of.ok sc_Views_of (fun vs H Q E h => ?_) (fun cdv ar outer s H vs Q E hr h => ?_)
  · obtain ⟨v, st, ru, rel, j, r, q, rfl, _⟩ := h
    rfl
  · obtain ⟨v, st, ru, rel, j, r, q, rfl, ⟨dv, o, ev, eo⟩, ⟨dx, pt, pb, ps, sv, bs, er, ft, epb, hb, hs, hc⟩, hq, hst, k⟩ := h
    have hu := hu_of hr
    have dg : DGet H o (.int j) none := DGet.k (k := Sum.inl (j : Int)) eo
    refine ⟨_, (pss_cons (ps_if (pt_cmp (pc_din hu (pv 2) (fldK K (pv 0) rfl)))
        (pss_one (ps_ret (pe_dget hu (fldK K (pv 0) rfl) (pv 2) (fun _ _ => rfl))))
        pss_nil)
      (pss_one (ps_ret (pe_meth (fldK K (pv 0) rfl) T.cl_Store T.e_Store_of G_Store_of (hr.mono (by decide)) T.b_Store_of .nil pass0 (pa_cons (fldK K (pe_ix (ixT K) (fldK K (pv 1) rfl) (pv 2) (fun _ _ => rfl)) rfl) pa_nil))))), ?_⟩
    refine ⟨_, rfl, _, rfl, v, _, dv, _, _, rfl, ev, T.cl_Views, T.n_Views_own, vw_own _ _, o, _, rfl, dg, _, rfl, iteF ?_⟩
    obtain ⟨ds, d, es, ed⟩ := id hst
    have hj : j < r.body.length := (List.getElem?_eq_some_iff.mp hq).1
    have hj' : j < bs.length := by rw [hb.1]; exact hj
    have hl := hb.2 j _ q (List.getElem?_eq_getElem hj') hq
    obtain ⟨dl, pl, po, el, fl, gl⟩ := id hl
    refine ⟨_, rfl, v, _, dv, _, _, rfl, ev, T.cl_Views, T.n_Views_store, vw_store _ _, st, ds, _, rfl, es, st_no _ (by decide +kernel), ?_⟩
    refine ⟨_, rfl, ru, _, dx, _, _, rfl, er, T.cl_Rule, T.n_Rule_body, rf_body _ _ _ _ _, _, rfl, pb, _, _, _, rfl, rfl, SqT.of epb, (show atI (bs.map V.ref) (j : Int) = some (.ref bs[j]) from atI_nat (by rw [List.getElem?_map, List.getElem?_eq_getElem hj']; rfl)), bs[j], _, dl, _, _, rfl, el, T.cl_Literal, T.n_Literal_name, lf_name _ _ _ _, st, q.name, rfl, .inl ⟨rel, hst, k⟩⟩
theorem ok_store_of (T : Txt K mg A) : FnOk P w K mg base CX0 4 A.f_store_of A.d_store_of ["facts"] (spStoreOf A) := by
  have G_Store_init : FnOk P w K mg base CX0 1 A.f_Store_init A.d_Store_init ["self"] (spStInit A) := ok_st_init T
  have G_Store_of : FnOk P w K mg base CX0 3 A.f_Store_of A.d_Store_of ["self", "name"] (spStOf A) := ok_st_of T
  have G_Relation_add : FnOk P w K mg base CX0 1 A.f_Relation_add A.d_Relation_add ["self", "row"] (spRelAdd A) := ok_rel_add T
  refine T.F_store_of.ok sc_store_of (fun vs H Q E h => ?_) (fun cdv ar outer s H vs Q E hr h => ?_)
  · obtain ⟨l, p, q, nm, k, rfl, _⟩ := h
    rfl
  · obtain ⟨l, p, q, nm, k, rfl, el, ep, eq, kk⟩ := h
    refine ⟨_, (pss_cons (ps_set (i := 1) sc_store_of.nd rfl (Or.inl rfl) (pe_make0 T.M_Store G_Store_init (hr.mono (by decide)) (by rfl) T.m_Store T.b_Store_init .nil pass0))
      (pss_cons (ps_for PassesOwn.never rfl (listK K (pv 0)) (tupK K (n := 2) rfl (pgs_cons (pg_name (i := 2) sc_store_of.nd rfl (Or.inl rfl)) (pgs_cons (pg_name (i := 3) sc_store_of.nd rfl (Or.inl rfl)) pgs_nil)))
        (pss_one (ps_expr (pe_meth (pe_meth (pv 1) T.cl_Store T.e_Store_of G_Store_of (hr.mono (by decide)) T.b_Store_of .nil pass0 (pa_cons (pv 2) pa_nil)) T.cl_Relation T.e_Relation_add G_Relation_add (hr.mono (by decide)) T.b_Relation_add .nil pass0 (pa_cons (pv 3) pa_nil)))))
      (pss_one (ps_ret (pv 1))))), ?_⟩
    refine fun x xx nx nxx nex => ⟨x, xx, rfl, upd_same, fun d H1 e1 nd ed hS => ⟨rfl, ?_⟩⟩
    have s1 : Same H H1 := fun b o e => hS b o (by rw [upd_ne (ne_of_none e nx), upd_ne (ne_of_none e nxx)]; exact e) (ne_of_none e nx)
    have nd' : H d = none := by
      cases z : H d with
      | none => rfl
      | some o =>
        have := (by rw [upd_ne (ne_of_none z nx), upd_ne (ne_of_none z nxx)]; exact z : upd (upd H xx (.own x)) x (.ins A.C_Store xx []) d = some o)
        rw [nd] at this
        cases this
    refine ⟨_, rfl, l, rfl, ⟨_, SqL.of (s1 _ _ el)⟩, ?_⟩
    refine for_list (K := K) (a := l) (xs := [.ref p]) (fun i σ H' => ∃ y z, σ = [some (.ref l), some (.ref x), y, z] ∧ Same H H' ∧ ((i = 0 ∧ H' = H1) ∨ (i = 1 ∧ ∃ r, StoreAt A H' x nm r ∧ RelAt A H' r [k])))
      ⟨none, none, rfl, s1, .inl ⟨rfl, rfl⟩⟩ (fun i σ H' _ ⟨y, z, _, s2, _⟩ => SqL.of (s2 _ _ el)) ?_ ?_
    · rintro i v σ H' hv ⟨y, z, rfl, s2, ⟨rfl, rfl⟩ | ⟨rfl, _⟩⟩
      · cases hv
        refine ⟨p, _, rfl, SqT.of (s1 _ _ ep), rfl, _, _, rfl, _, _, rfl, rfl, ?_⟩
        refine ⟨_, rfl, x, xx, _, rfl, e1, st_no _ (by decide +kernel), _, rfl, x, nm, rfl, .inr ⟨xx, d, e1, ed, fun r hd H2 nr nhd hst hrel hS2 => ?_⟩⟩
        have s2' : Same H H2 := fun b o e => hS2 b o (s1 _ _ e) (ne_of_none e nd')
        obtain ⟨dr, tb, er, eh, et, nn⟩ := id hrel
        refine ⟨r, dr, _, rfl, er, rel_no _ _ (by decide +kernel) (by decide +kernel), _, rfl, r, q, hd, k, rfl, hrel, s2' _ _ eq, fun H3 hrel3 hS3 => ?_⟩
        have nhd' : H hd = none := s1.free nhd
        obtain ⟨sx, sd, es, ed'⟩ := id hst
        refine ⟨_, _, rfl, fun b o e => hS3 b o (s2' _ _ e) (ne_of_none e nhd'), .inr ⟨rfl, r, ⟨sx, sd, hS3 _ _ es (ne_of es eh (fun z => nomatch z)), hS3 _ _ ed' (ne_of ed' eh (fun z => nomatch z))⟩, hd, hrel3⟩⟩
      · cases hv
    · rintro σ H' ⟨y, z, rfl, s2, ⟨h0, _⟩ | ⟨_, r, hst, hrel⟩⟩
      · cases h0
      · exact ⟨_, rfl, kk x r H' s2 hst hrel⟩
end
end Toy

set_option Elab.async false
set_option maxRecDepth 100000
set_option maxHeartbeats 4000000
namespace Toy
open PySem L2
open U (Tm Pt RR tn nms vars addN dd rows cnt)
/-! ### bodies asked -/
/-- what a list of at most one binding is -/
def ManyAt (H0 H : Hp) (l : Addr) : Option Kvs → Prop
  | none => H l = some (.lst [])
  | some k => ∃ d, H0 d = none ∧ H l = some (.lst [.ref d]) ∧ H d = some (.dK k)
theorem ManyAt.up {H0 H H' : Hp} {l : Addr} {o : Option Kvs} (h : ManyAt H0 H l o) (s : Same H H') : ManyAt H0 H' l o := by
  cases o with
  | none => exact s _ _ h
  | some k =>
    obtain ⟨d, e, f, g⟩ := h
    exact ⟨d, e, s _ _ f, s _ _ g⟩
theorem ManyAt.of {H0 H1 H : Hp} {l : Addr} {o : Option Kvs} (h : ManyAt H1 H l o) (s : Same H0 H1) : ManyAt H0 H l o := by
  cases o with
  | none => exact h
  | some k =>
    obtain ⟨d, e, f, g⟩ := h
    exact ⟨d, s.free e, f, g⟩
def spFit (A : Ad) : Sp := fun vs H Q _ => ∃ (p b r : Addr) (ts : List Tm) (k : Kvs) (row : List Key), vs = [.ref p, .ref b, .ref r] ∧ TmsAt A.C_Term H p ts ∧ WfT ts ∧ ts ≠ [] ∧ H b = some (.dK k) ∧ KvOk k ∧ k.length ≤ 900 ∧ (∀ t ∈ ts, tvw k t = none) ∧ row.length ≤ 20 ∧ RelAt A H r [row] ∧
  ∀ l H', Same H H' → ManyAt H H' l (mat ts (row.map kV) k) → Q (.ref l) H'
theorem kv_flat (row : List Key) : ∀ v ∈ row.map kV, flatIS v = true := fun v hv => by
  obtain ⟨x, _, rfl⟩ := List.mem_map.mp hv
  cases x <;> rfl
section
variable {P : Program} {w : World} {K : PySem.W.Frag} {mg : Str → Option Value} {base : Heap} {A : Ad}
theorem ok_pattern (T : Txt K mg A) : FnOk P w K mg base CX0 3 A.f_pattern A.d_pattern ["terms", "bound"] (spPat0 A.C_Term) := by
  have G_Term_known : FnOk P w K mg base CX0 2 A.f_Term_known A.d_Term_known ["self", "bound"] (spKnown A.C_Term) := ok_known T
  have G_Term_under : FnOk P w K mg base CX0 2 A.f_Term_under A.d_Term_under ["self", "bound"] (spUnder A.C_Term) := ok_under T
  refine T.F_pattern.ok sc_pattern (fun vs H Q E h => ?_) (fun cdv ar outer s H vs Q E hr h => ?_)
  · obtain ⟨p, b, ts, k, rfl, _⟩ := h
    rfl
  · obtain ⟨p, b, ts, k, rfl, ⟨as, ep, fp⟩, ⟨h20, hok⟩, eb, hn, q⟩ := h
    refine ⟨_, (pss_cons (ps_set (i := 2) sc_pattern.nd rfl (Or.inl rfl) (pe_callTy (tupOf K) (by rfl) T.z_tuple (by decide +kernel) (pa_cons (pe_lc (own := [("place", 3), ("term", 4)]) (by rfl) sc_pattern.nd (enumTK K (by rfl) T.z_enumerate (pa_cons (pv 0) pa_nil)) (blkOk_by (own := [("place", 3), ("term", 4)]) (N := N_pattern) (sc := defScope s_pattern) (by decide +kernel)) (fun _ _ _ _ _ => (tupK K (n := 2) rfl (pgs_cons (pg_name (i := 3) sc_pattern.nd rfl (Or.inl rfl)) (pgs_cons (pg_name (i := 4) sc_pattern.nd rfl (Or.inl rfl)) pgs_nil)))) (fun _ _ _ _ _ => (pts_one (pt_val (pe_meth (pv 4) T.cl_Term T.e_Term_known G_Term_known (hr.mono (by decide)) T.b_Term_known .nil pass0 (pa_cons (pv 1) pa_nil))))) (fun _ _ _ _ _ => (pv 3))) pa_nil)))
      (pss_one (ps_ret (pe_tup (pa_cons (pv 2) (pa_cons (pe_callTy (tupOf K) (by rfl) T.z_tuple (by decide +kernel) (pa_cons (pe_lc (own := [("place", 3)]) (by rfl) sc_pattern.nd (tupIK K (pv 2)) (blkOk_by (own := [("place", 3)]) (N := N_pattern) (sc := defScope s_pattern) (by decide +kernel)) (fun _ _ _ _ _ => (pg_name (i := 3) sc_pattern.nd rfl (Or.inl rfl))) (fun _ _ _ _ _ => pts_nil) (fun _ _ _ _ _ => (pe_meth (pe_ix (ixT K) (pv 0) (pv 3) (fun _ _ => rfl)) T.cl_Term T.e_Term_under G_Term_under (hr.mono (by decide)) T.b_Term_under .nil pass0 (pa_cons (pv 1) pa_nil)))) pa_nil)) pa_nil)))))), ?_⟩
    refine ⟨_, rfl, p, _, rfl, SqT.of ep, fun D hD => ?_⟩
    refine lc_enumT (K := K) (a := p) (xs := as.map V.ref) (fun i H' => Same H H' ∧ H' D = some (.lst [])) ⟨same_new hD, upd_same⟩ (fun i H' _ h => SqT.of (h.1 _ _ ep)) ?_ ?_
    · rintro i x T0 H' hx ⟨s1, eD⟩ hT0
      obtain ⟨a, t, rfl, ea, et, ha⟩ := fp.at hx
      have hmem := List.mem_of_getElem? et
      have s2 : Same H (upd H' T0 (.tup [.int (i : Nat), .ref a])) := s1.trans (same_new hT0)
      have ha1 := TmAt.up ha s2
      obtain ⟨dx, g⟩ := id ha1
      refine ⟨T0, _, rfl, SqT.of upd_same, rfl, _, _, rfl, _, _, rfl, rfl, rfl, ?_⟩
      refine ⟨_, rfl, a, dx, _, rfl, g, no_known _ _, _, rfl, a, b, t, k, rfl, ha1, hok t hmem, s2 _ _ eb, _, rfl, ?_⟩
      rw [hn t hmem]
      exact iteF ⟨s2, by rw [upd_ne (ne_of_none eD hT0)]; exact eD⟩
    · rintro H' ⟨s1, eD⟩
      refine ⟨D, _, rfl, .inl ⟨SqL.of eD, fun r1 hr1 => ?_⟩⟩
      have s2 := s1.trans (same_new hr1 (o := .tup []))
      refine ⟨_, rfl, _, rfl, r1, rfl, ⟨_, SqT.of upd_same⟩, fun D2 hD2 => ?_⟩
      refine lc_tup (K := K) (a := r1) (xs := []) (fun i H3 => H3 = upd (upd H' r1 (.tup [])) D2 (.lst [])) rfl (fun i H3 _ h => by rw [h]; exact SqT.of (same_new hD2 _ _ upd_same)) (fun i x H3 hx => nomatch hx) ?_
      rintro H3 rfl
      refine ⟨D2, _, rfl, .inl ⟨SqL.of upd_same, fun r2 hr2 => ⟨(by show 2 ≤ sizeLine; decide), fun z hz => ?_⟩⟩⟩
      have s3 := (same_new hD2 (H := upd H' r1 (.tup [])) (o := .lst [])).trans (same_new hr2 (o := .tup []))
      refine q z r1 r2 _ (s2.trans (s3.trans (same_new hz))) upd_same (same_new hz _ _ (s3 _ _ upd_same)) (same_new hz _ _ upd_same)
theorem ok_fitting (T : Txt K mg A) : FnOk P w K mg base CX0 4 A.f_fitting A.d_fitting ["terms", "bound", "relation"] (spFit A) := by
  have G_pattern : FnOk P w K mg base CX0 3 A.f_pattern A.d_pattern ["terms", "bound"] (spPat0 A.C_Term) := ok_pattern T
  have G_matched : FnOk P w K mg base CX0 3 A.f_matched A.d_matched ["terms", "row", "bound"] (spMatched A.C_Term) := ok_matched T
  have G_Relation_has : FnOk P w K mg base CX0 1 A.f_Relation_has A.d_Relation_has ["self", "row"] (spRelHas A) := ok_rel_has T
  have G_Relation_look : FnOk P w K mg base CX0 1 A.f_Relation_look A.d_Relation_look ["self", "places", "values"] (spLook A) := ok_look T
  refine T.F_fitting.ok sc_fitting (fun vs H Q E h => ?_) (fun cdv ar outer s H vs Q E hr h => ?_)
  · obtain ⟨p, b, r, ts, k, row, rfl, _⟩ := h
    rfl
  · obtain ⟨p, b, r, ts, k, row, rfl, ht, hw, hne, eb, hk, hk9, hn, hr20, hrel, q⟩ := h
    refine ⟨_, (pss_cons (ps_asg (pe_call G_pattern (hr.mono (by decide)) (by rfl) T.m_pattern T.F_pattern.kp T.b_pattern .nil pass0 (pa_cons (pv 0) (pa_cons (pv 1) pa_nil))) (tupK K (n := 2) rfl (pgs_cons (pg_name (i := 3) sc_fitting.nd rfl (Or.inl rfl)) (pgs_cons (pg_name (i := 4) sc_fitting.nd rfl (Or.inl rfl)) pgs_nil))))
      (pss_cons (ps_if (pt_cmpR op_eq (pe_callB (lenK K) (by rfl) T.z_len (by decide +kernel) (pa_cons (pv 3) pa_nil)) (pe_callB (lenK K) (by rfl) T.z_len (by decide +kernel) (pa_cons (pv 0) pa_nil)) (nomark _))
        (pss_one (ps_ret (pe_ifExp (pt_val (pe_meth (pv 2) T.cl_Relation T.e_Relation_has G_Relation_has (hr.mono (by decide)) T.b_Relation_has .nil pass0 (pa_cons (pv 4) pa_nil))) (pe_lst (pa_cons (pe_callTy call_dictD (by rfl) T.z_dict (by decide +kernel) (pa_cons (pv 1) pa_nil)) pa_nil)) (pe_lst pa_nil))))
        pss_nil)
      (pss_cons (ps_setLc (i := 5) (own := [("row", 6)]) (by rfl) sc_fitting.nd rfl rfl (sw_true rfl rfl rfl (by decide +kernel)) (listK K (pe_meth (pv 2) T.cl_Relation T.e_Relation_look G_Relation_look (hr.mono (by decide)) T.b_Relation_look .nil pass0 (pa_cons (pv 3) (pa_cons (pv 4) pa_nil)))) (blkOk_by (own := [("row", 6)]) (N := N_fitting) (sc := defScope s_fitting) (by decide +kernel)) (fun _ _ _ _ _ => (pg_name (i := 6) sc_fitting.nd rfl (Or.inl rfl))) (fun _ _ _ _ _ => pts_nil) (fun _ _ _ _ _ => (pe_call G_matched (hr.mono (by decide)) (by rfl) T.m_matched T.F_matched.kp T.b_matched .nil pass0 (pa_cons (pv 0) (pa_cons (pv 6) (pa_cons (pv 1) pa_nil))))))
      (pss_one (ps_ret (pe_lc (own := [("wider", 7)]) (by rfl) sc_fitting.nd (listK K (pv 5)) (blkOk_by (own := [("wider", 7)]) (N := N_fitting) (sc := defScope s_fitting) (by decide +kernel)) (fun _ _ _ _ _ => (pg_name (i := 7) sc_fitting.nd rfl (Or.inl rfl))) (fun _ _ _ _ _ => (pts_one (pt_cmpR op_notN (pv 7) pe_non (nomark _)))) (fun _ _ _ _ _ => (pv 7)))))))), ?_⟩
    refine ⟨_, rfl, _, rfl, p, b, ts, k, rfl, ht, hw, eb, hn, fun z a c H1 s1 ez ea ec => ?_⟩
    refine ⟨z, _, rfl, SqT.of ez, rfl, _, _, rfl, _, _, rfl, rfl, ?_⟩
    obtain ⟨as, ep, fp⟩ := id ht
    refine ⟨_, rfl, a, _, rfl, .inr (SqT.of ea), _, rfl, p, _, rfl, .inr (SqT.of (s1 _ _ ep)), rfl, _, rfl, ?_⟩
    rw [dec_int, List.length_map, fp.1]
    have hz : ¬ ((([] : List V).length : Int) = (ts.length : Int)) := fun e => hne (List.eq_nil_of_length_eq_zero (by simpa using e.symm))
    rw [decide_eq_false hz]
    refine iteF ?_
    obtain ⟨hd, dr, tb, er, eh, et, nn⟩ := id (hrel.up s1)
    refine ⟨_, rfl, r, dr, _, rfl, er, rel_no _ _ (by decide +kernel) (by decide +kernel), _, rfl, _, rfl, r, a, c, [row], rfl, hrel.up s1, ea, fun l bs H2 s2 el hb => ?_⟩
    obtain ⟨bq, rfl, hbq⟩ : ∃ bq, bs = [bq] ∧ H2 bq = some (.tup (row.map kV)) := by
      cases hb with
      | cons e t => cases t; exact ⟨_, rfl, e⟩
    have s12 := s1.trans s2
    refine ⟨l, rfl, ⟨_, SqL.of el⟩, fun D hD => ?_⟩
    refine lc_list (K := K) (a := l) (xs := [.ref bq]) (fun i H' => Same H2 H' ∧ ((i = 0 ∧ H' D = some (.lst [])) ∨ (i = 1 ∧ ((mat ts (row.map kV) k = none ∧ H' D = some (.lst [.non])) ∨ ∃ d k', mat ts (row.map kV) k = some k' ∧ H2 d = none ∧ H' d = some (.dK k') ∧ H' D = some (.lst [.ref d])))))
      ⟨same_new hD, .inl ⟨rfl, upd_same⟩⟩ (fun i H' _ h => SqL.of (h.1 _ _ el)) ?_ ?_
    · rintro i x H' hx ⟨s3, ⟨rfl, eD⟩ | ⟨rfl, _⟩⟩
      · cases hx
        refine ⟨rfl, _, rfl, _, rfl, _, rfl, p, bq, b, ts, _, k, rfl, ht.up (s12.trans s3), hw, s3 _ _ hbq, kv_flat row, by rw [List.length_map]; exact hr20, s3 _ _ (s12 _ _ eb), hk, hk9, fun hm H4 s4 => ?_, fun k' hm d H4 s4 nd ed => ?_⟩
        · refine ⟨[], s4 _ _ eD, by decide, same_mut (s3.trans s4) hD, .inr ⟨rfl, .inl ⟨hm, upd_same⟩⟩⟩
        · have nDd : D ≠ d := ne_of_none eD nd
          refine ⟨[], s4 _ _ eD, by decide, same_mut (s3.trans s4) hD, .inr ⟨rfl, .inr ⟨d, k', hm, s3.free nd, by rw [upd_ne nDd.symm]; exact ed, upd_same⟩⟩⟩
      · cases hx
    · rintro H' ⟨s3, ⟨h0, _⟩ | ⟨_, hres⟩⟩
      · cases h0
      · have s13 := s12.trans s3
        obtain ⟨y, ey, hy⟩ : ∃ y, H' D = some (.lst [y]) ∧ ((mat ts (row.map kV) k = none ∧ y = .non) ∨ ∃ d k', mat ts (row.map kV) k = some k' ∧ H2 d = none ∧ H' d = some (.dK k') ∧ y = .ref d) := by
          rcases hres with ⟨e1, e2⟩ | ⟨d, k', e1, e2, e3, e4⟩
          · exact ⟨_, e2, .inl ⟨e1, rfl⟩⟩
          · exact ⟨_, e4, .inr ⟨d, k', e1, e2, e3, rfl⟩⟩
        refine ⟨_, rfl, D, rfl, ⟨_, SqL.of ey⟩, fun D2 hD2 => ?_⟩
        refine lc_list (K := K) (a := D) (xs := [y]) (fun i H4 => Same H' H4 ∧ ((i = 0 ∧ H4 D2 = some (.lst [])) ∨ (i = 1 ∧ ManyAt H H4 D2 (mat ts (row.map kV) k))))
          ⟨same_new hD2, .inl ⟨rfl, upd_same⟩⟩ (fun i H4 _ h => SqL.of (h.1 _ _ ey)) ?_ ?_
        · rintro i x H4 hx ⟨s4, ⟨rfl, e4⟩ | ⟨rfl, _⟩⟩
          · cases hx
            rcases hy with ⟨e1, rfl⟩ | ⟨d, k', e1, e2, e3, rfl⟩
            · refine ⟨rfl, _, rfl, rfl, _, rfl, iteF ⟨s4, .inr ⟨rfl, ?_⟩⟩⟩
              rw [e1]
              exact e4
            · refine ⟨rfl, _, rfl, rfl, _, rfl, iteT ⟨_, rfl, [], e4, by decide, same_mut s4 hD2, .inr ⟨rfl, ?_⟩⟩⟩
              rw [e1]
              exact ⟨d, s12.free e2, upd_same, by rw [upd_ne (ne_of_none e3 hD2)]; exact s4 _ _ e3⟩
          · cases hx
        · rintro H4 ⟨s4, ⟨h0, _⟩ | ⟨_, hm⟩⟩
          · cases h0
          · exact q D2 H4 (s13.trans s4) hm
end
end Toy

set_option Elab.async false
set_option maxRecDepth 100000
set_option maxHeartbeats 4000000
namespace Toy
open PySem L2
open U (Tm Pt RR tn nms vars addN dd rows cnt)
theorem WfT.take {ts : List Tm} (h : WfT ts) (n : Nat) : WfT (ts.take n) := ⟨by have := h.1; rw [List.length_take]; omega, fun t ht => h.2 t (List.mem_of_mem_take ht)⟩
def roV (q : Pt) (k : Kvs) : V → Option Kvs
  | .int z => mat (q.ts.take 1) [.int z] k
  | _ => none
def ro (q : Pt) (k : Kvs) (x y : Key) : Option Kvs := roV q k (rk q.name x y)
inductive Wd (row : List Key) (q : Pt) (k : Kvs) : Option Kvs → Prop
  | pos : q.kind = "pos" → q.ts ≠ [] → (∀ t ∈ q.ts, tvw k t = none) → Wd row q k (mat q.ts (row.map kV) k)
  | lett {n : Str} {t1 t2 : Tm} {x y : Key} : q.kind = "let" → q.ts = [.inl n, t1, t2] → tvw k t1 = some (kV x) → tvw k t2 = some (kV y) → kSmall x → kSmall y → Wd row q k (ro q k x y)
  | cmp {t1 t2 : Tm} {x y : Key} : q.kind = "cmp" → q.ts = [t1, t2] → tvw k t1 = some (kV x) → tvw k t2 = some (kV y) → kOk x = true → kOk y = true → Wd row q k (if hb q.name x y = true then some k else none)
def spSignHolds (A : Ad) : Sp := fun vs H Q _ => ∃ (a b : Addr) (q : Pt) (t1 t2 : Tm) (k : Kvs) (x y : Key), vs = [.ref a, .ref b] ∧ LitAt A H a q ∧ WfT q.ts ∧ q.ts = [t1, t2] ∧ H b = some (.dK k) ∧ tvw k t1 = some (kV x) ∧ tvw k t2 = some (kV y) ∧ kOk x = true ∧ kOk y = true ∧
  ∀ H', Same H H' → Q (.bl (hb q.name x y)) H'
def spReckOn (A : Ad) : Sp := fun vs H Q _ => ∃ (a b : Addr) (q : Pt) (n : Str) (t1 t2 : Tm) (k : Kvs) (x y : Key), vs = [.ref a, .ref b] ∧ LitAt A H a q ∧ WfT q.ts ∧ q.ts = [.inl n, t1, t2] ∧ H b = some (.dK k) ∧ KvOk k ∧ k.length ≤ 900 ∧ tvw k t1 = some (kV x) ∧ tvw k t2 = some (kV y) ∧ kSmall x ∧ kSmall y ∧
  (ro q k x y = none → ∀ H', Same H H' → Q .non H') ∧ ∀ k', ro q k x y = some k' → ∀ d H', Same H H' → H d = none → H' d = some (.dK k') → Q (.ref d) H'
def spWiden (A : Ad) : Sp := fun vs H Q _ => ∃ (ru b vw st rel : Addr) (j : Nat) (r : RR) (q : Pt) (row : List Key) (k : Kvs) (o : Option Kvs), vs = [.ref ru, .int j, .ref b, .ref vw] ∧ RuleAt A H ru r ∧ Wf r ∧ r.body[j]? = some q ∧ H b = some (.dK k) ∧ KvOk k ∧ k.length ≤ 900 ∧
  ViewsAt A H vw st ∧ (q.kind = "pos" → StoreAt A H st q.name rel ∧ RelAt A H rel [row] ∧ row.length ≤ 20) ∧ Wd row q k o ∧ ∀ l H', Same H H' → ManyAt H H' l o → Q (.ref l) H'
def spSol (A : Ad) : Sp := fun vs H Q _ => ∃ (ru od vw st rel : Addr) (sv : V) (r : RR) (q0 q1 : Pt) (row : List Key) (k0 : Kvs) (o0 o : Option Kvs), vs = [.ref ru, .ref od, .ref vw, sv] ∧ RuleAt A H ru r ∧ Wf r ∧ r.body = [q0, q1] ∧ H od = some (.tup [.int 0, .int 1]) ∧ ViewsAt A H vw st ∧
  StoreAt A H st q0.name rel ∧ RelAt A H rel [row] ∧ row.length ≤ 20 ∧ ((sv = .non ∧ k0 = []) ∨ ∃ d, sv = .ref d ∧ H d = some (.dK k0)) ∧ KvOk k0 ∧ k0.length ≤ 900 ∧ q1.kind ≠ "pos" ∧ Wd row q0 k0 o0 ∧
  (o0 = none → o = none) ∧ (∀ k1, o0 = some k1 → KvOk k1 ∧ k1.length ≤ 900 ∧ Wd row q1 k1 o) ∧ ∀ l H', Same H H' → ManyAt H H' l o → Q (.ref l) H'
section
variable {P : Program} {w : World} {K : PySem.W.Frag} {mg : Str → Option Value} {base : Heap} {A : Ad}
theorem ok_sign_holds (T : Txt K mg A) : FnOk P w K mg base CX0 4 A.f_sign_holds A.d_sign_holds ["part", "bound"] (spSignHolds A) := by
  have G_Term_under : FnOk P w K mg base CX0 2 A.f_Term_under A.d_Term_under ["self", "bound"] (spUnder A.C_Term) := ok_under T
  have G_holds_between : FnOk P w K mg base CX0 3 A.f_holds_between A.d_holds_between ["sign", "one", "other"] spHolds := ok_holds T
  refine T.F_sign_holds.ok sc_sign_holds (fun vs H Q E h => ?_) (fun cdv ar outer s H vs Q E hr h => ?_)
  · obtain ⟨a, b, q, t1, t2, k, x, y, rfl, _⟩ := h
    rfl
  · obtain ⟨a, b, ⟨kd, nm, ts⟩, t1, t2, k, x, y, rfl, ⟨dx, pt, po, el, ⟨as, ep, fp⟩, eo⟩, hw, ets, eb, e1, e2, hx, hy, qq⟩ := h
    cases ets
    refine ⟨_, (pss_one (ps_ret (pe_call G_holds_between (hr.mono (by decide)) (by rfl) T.m_holds_between T.F_holds_between.kp T.b_holds_between .nil pass0 (pa_cons (fldK K (pv 0) rfl) (pa_cons (pe_meth (pe_ix (ixT K) (fldK K (pv 0) rfl) pe_int (fun _ _ => rfl)) T.cl_Term T.e_Term_under G_Term_under (hr.mono (by decide)) T.b_Term_under .nil pass0 (pa_cons (pv 1) pa_nil)) (pa_cons (pe_meth (pe_ix (ixT K) (fldK K (pv 0) rfl) pe_int (fun _ _ => rfl)) T.cl_Term T.e_Term_under G_Term_under (hr.mono (by decide)) T.b_Term_under .nil pass0 (pa_cons (pv 1) pa_nil)) pa_nil)))))), ?_⟩
    match as, fp with
    | [a1, a2], fp =>
      obtain ⟨h1, fp⟩ := fp.tail
      obtain ⟨h2, _⟩ := fp.tail
      obtain ⟨d1, g1⟩ := id h1
      obtain ⟨d2, g2⟩ := id h2
      refine ⟨_, rfl, a, _, dx, _, _, rfl, el, T.cl_Literal, T.n_Literal_name, lf_name _ _ _ _, _, rfl, a, _, dx, _, _, rfl, el, T.cl_Literal, T.n_Literal_terms, lf_terms _ _ _ _, pt, _, _, _, rfl, rfl, SqT.of ep, atI_nat (j := 0) rfl,
        a1, d1, _, rfl, g1, no_under _ _, _, rfl, a1, b, t1, k, _, rfl, h1, hw.2 _ List.mem_cons_self, eb, e1, ?_⟩
      refine ⟨_, rfl, a, _, dx, _, _, rfl, el, T.cl_Literal, T.n_Literal_terms, lf_terms _ _ _ _, pt, _, _, _, rfl, rfl, SqT.of ep, atI_nat (j := 1) rfl,
        a2, d2, _, rfl, g2, no_under _ _, _, rfl, a2, b, t2, k, _, rfl, h2, hw.2 _ (List.mem_cons_of_mem _ List.mem_cons_self), eb, e2, nm, x, y, rfl, hx, hy, qq⟩
    | [], fp => exact nomatch fp.1
    | [_], fp => exact nomatch fp.1
    | _ :: _ :: _ :: _, fp => exact absurd fp.1 (by simp)
theorem bnd_cases (z : Int) : bnd z = .non ∨ ∃ z', bnd z = .int z' := by
  unfold bnd
  by_cases h : (decide (-999999999999999999 ≤ z) && decide (z ≤ 999999999999999999)) = true
  · rw [if_pos h]
    exact .inr ⟨_, rfl⟩
  · rw [if_neg h]
    exact .inl rfl
theorem rk_cases (d : Str) (x y : Key) : rk d x y = .non ∨ ∃ z, rk d x y = .int z := by
  cases x with
  | inr s => exact .inl rfl
  | inl i => cases y with
    | inr s => exact .inl rfl
    | inl j => exact bnd_cases _
theorem ok_reckon_on (T : Txt K mg A) : FnOk P w K mg base CX0 4 A.f_reckoned_on A.d_reckoned_on ["part", "bound"] (spReckOn A) := by
  have G_Term_under : FnOk P w K mg base CX0 2 A.f_Term_under A.d_Term_under ["self", "bound"] (spUnder A.C_Term) := ok_under T
  have G_reckoned : FnOk P w K mg base CX0 2 A.f_reckoned A.d_reckoned ["deed", "one", "other"] spReck := ok_reckoned T
  have G_matched : FnOk P w K mg base CX0 3 A.f_matched A.d_matched ["terms", "row", "bound"] (spMatched A.C_Term) := ok_matched T
  refine T.F_reckoned_on.ok sc_reckoned_on (fun vs H Q E h => ?_) (fun cdv ar outer s H vs Q E hr h => ?_)
  · obtain ⟨a, b, q, n, t1, t2, k, x, y, rfl, _⟩ := h
    rfl
  · obtain ⟨a, b, ⟨kd, nm, ts⟩, n, t1, t2, k, x, y, rfl, ⟨dx, pt, po, el, ⟨as, ep, fp⟩, eo⟩, hw, ets, eb, hk, hk9, e1, e2, hx, hy, q1, q2⟩ := h
    cases ets
    refine ⟨_, (pss_cons (ps_set (i := 2) sc_reckoned_on.nd rfl (Or.inl rfl) (pe_call G_reckoned (hr.mono (by decide)) (by rfl) T.m_reckoned T.F_reckoned.kp T.b_reckoned .nil pass0 (pa_cons (fldK K (pv 0) rfl) (pa_cons (pe_meth (pe_ix (ixT K) (fldK K (pv 0) rfl) pe_int (fun _ _ => rfl)) T.cl_Term T.e_Term_under G_Term_under (hr.mono (by decide)) T.b_Term_under .nil pass0 (pa_cons (pv 1) pa_nil)) (pa_cons (pe_meth (pe_ix (ixT K) (fldK K (pv 0) rfl) pe_int (fun _ _ => rfl)) T.cl_Term T.e_Term_under G_Term_under (hr.mono (by decide)) T.b_Term_under .nil pass0 (pa_cons (pv 1) pa_nil)) pa_nil)))))
      (pss_one (ps_ret (pe_ifExp (pt_cmpR op_isN (pv 2) pe_non (nomark _)) pe_non (pe_call G_matched (hr.mono (by decide)) (by rfl) T.m_matched T.F_matched.kp T.b_matched .nil pass0 (pa_cons (pe_slice (slAK K) (fldK K (pv 0) rfl) po_none (po_some pe_int)) (pa_cons (pe_tup (pa_cons (pv 2) pa_nil)) (pa_cons (pv 1) pa_nil)))))))), ?_⟩
    match as, fp with
    | [a0, a1, a2], fp =>
      obtain ⟨h0, fp1⟩ := fp.tail
      obtain ⟨h1, fp2⟩ := fp1.tail
      obtain ⟨h2, _⟩ := fp2.tail
      obtain ⟨d1, g1⟩ := id h1
      obtain ⟨d2, g2⟩ := id h2
      refine ⟨_, rfl, a, _, dx, _, _, rfl, el, T.cl_Literal, T.n_Literal_name, lf_name _ _ _ _, _, rfl, a, _, dx, _, _, rfl, el, T.cl_Literal, T.n_Literal_terms, lf_terms _ _ _ _, pt, _, _, _, rfl, rfl, SqT.of ep, atI_nat (j := 1) rfl,
        a1, d1, _, rfl, g1, no_under _ _, _, rfl, a1, b, t1, k, _, rfl, h1, hw.2 _ (List.mem_cons_of_mem _ List.mem_cons_self), eb, e1, ?_⟩
      refine ⟨_, rfl, a, _, dx, _, _, rfl, el, T.cl_Literal, T.n_Literal_terms, lf_terms _ _ _ _, pt, _, _, _, rfl, rfl, SqT.of ep, atI_nat (j := 2) rfl,
        a2, d2, _, rfl, g2, no_under _ _, _, rfl, a2, b, t2, k, _, rfl, h2, hw.2 _ (List.mem_cons_of_mem _ (List.mem_cons_of_mem _ List.mem_cons_self)), eb, e2, nm, x, y, rfl, hx, hy, ?_⟩
      rcases rk_cases nm x y with e | ⟨z, e⟩
      · have er : ro ⟨kd, nm, [.inl n, t1, t2]⟩ k x y = none := by
          unfold ro
          rw [e]
          rfl
        rw [e]
        exact ⟨_, rfl, rfl, _, rfl, iteT (q1 er H fun _ _ h => h)⟩
      · have er : ro ⟨kd, nm, [.inl n, t1, t2]⟩ k x y = mat [.inl n] [.int z] k := by
          unfold ro
          rw [e]
          rfl
        rw [er] at q1 q2
        rw [e]
        refine ⟨_, rfl, rfl, _, rfl, iteF ?_⟩
        refine ⟨_, rfl, a, _, dx, _, _, rfl, el, T.cl_Literal, T.n_Literal_terms, lf_terms _ _ _ _, _, rfl, pt, _, rfl, SqT.of ep, fun hwh => absurd hwh.2 ?_, fun _ p1 hp1 => ?_⟩
        · rw [show ((1 : Int)) = ((1 : Nat) : Int) from rfl, HT.sIx_nat]
          show ¬ (1 : Nat) = 3
          decide
        · refine ⟨_, rfl, (by show 1 ≤ sizeLine; decide), fun p2 hp2 => ?_⟩
          have s12 := (same_new hp1 (o := .tup (cutV (List.map V.ref [a0, a1, a2]) none (some 1)))).trans (same_new hp2 (o := .tup [.int z]))
          refine ⟨_, rfl, p1, p2, b, [.inl n], [.int z], k, rfl, ⟨[a0], by rw [upd_ne (ne_of_none upd_same hp2), upd_same]; rfl, .cons (TmAt.up h0 s12) .nil⟩, hw.take 1, upd_same, fun v hv => ?_, (by show 1 ≤ 20; decide), s12 _ _ eb, hk, hk9, fun hm H' s3 => q1 hm H' (s12.trans s3), fun k' hm d H' s3 nd ed => q2 k' hm d H' (s12.trans s3) (s12.free nd) ed⟩
          rw [List.mem_singleton.mp hv]
          rfl
    | [], fp => exact nomatch fp.1
    | [_], fp => exact nomatch fp.1
    | [_, _], fp => exact nomatch fp.1
    | _ :: _ :: _ :: _ :: _, fp => exact absurd fp.1 (by simp)
theorem ok_widened (T : Txt K mg A) : FnOk P w K mg base CX0 5 A.f_widened A.d_widened ["rule", "number", "bound", "views"] (spWiden A) := by
  have G_fitting : FnOk P w K mg base CX0 4 A.f_fitting A.d_fitting ["terms", "bound", "relation"] (spFit A) := ok_fitting T
  have G_Views_of : FnOk P w K mg base CX0 4 A.f_Views_of A.d_Views_of ["self", "rule", "number"] (spVwOf A) := ok_vw_of T
  have G_reckoned_on : FnOk P w K mg base CX0 4 A.f_reckoned_on A.d_reckoned_on ["part", "bound"] (spReckOn A) := ok_reckon_on T
  have G_sign_holds : FnOk P w K mg base CX0 4 A.f_sign_holds A.d_sign_holds ["part", "bound"] (spSignHolds A) := ok_sign_holds T
  refine T.F_widened.ok sc_widened (fun vs H Q E h => ?_) (fun cdv ar outer s H vs Q E hr h => ?_)
  · obtain ⟨ru, b, vw, st, rel, j, r, q, row, k, o, rfl, _⟩ := h
    rfl
  · obtain ⟨ru, b, vw, st, rel, j, r, q, row, k, o, rfl, hR, hwf, hq, eb, hk, hk9, hv, hpos, hd, qq⟩ := h
    obtain ⟨dx, pt, pb, ps, sv, bs, er, ft, epb, hbs, hs, hc⟩ := id hR
    have hj : j < bs.length := by rw [hbs.1]; exact (List.getElem?_eq_some_iff.mp hq).1
    have hbj : bs[j]? = some bs[j] := List.getElem?_eq_getElem hj
    have hl := hbs.2 j _ q hbj hq
    have hwq := (hwf.body.2 q (List.mem_of_getElem? hq)).1
    obtain ⟨dl, pl, po, el, fl, gl⟩ := id hl
    obtain ⟨dv, vo, ev, evo⟩ := id hv
    refine ⟨_, (pss_cons (ps_set (i := 4) sc_widened.nd rfl (Or.inl rfl) (pe_ix (ixT K) (fldK K (pv 0) rfl) (pv 1) (fun _ _ => rfl)))
      (pss_cons (ps_if (pt_cmpR op_eq (fldK K (pv 4) rfl) pe_str (nomark _))
        (pss_one (ps_ret (pe_call G_fitting (hr.mono (by decide)) (by rfl) T.m_fitting T.F_fitting.kp T.b_fitting .nil pass0 (pa_cons (fldK K (pv 4) rfl) (pa_cons (pv 2) (pa_cons (pe_meth (pv 3) T.cl_Views T.e_Views_of G_Views_of (hr.mono (by decide)) T.b_Views_of .nil pass0 (pa_cons (pv 0) (pa_cons (pv 1) pa_nil))) pa_nil))))))
        pss_nil)
      (pss_cons (ps_if (pt_cmpR op_eq (fldK K (pv 4) rfl) pe_str (nomark _))
        (pss_cons (ps_set (i := 5) sc_widened.nd rfl (Or.inl rfl) (pe_call G_reckoned_on (hr.mono (by decide)) (by rfl) T.m_reckoned_on T.F_reckoned_on.kp T.b_reckoned_on .nil pass0 (pa_cons (pv 4) (pa_cons (pv 2) pa_nil))))
        (pss_one (ps_ret (pe_ifExp (pt_cmpR op_isN (pv 5) pe_non (nomark _)) (pe_lst pa_nil) (pe_lst (pa_cons (pv 5) pa_nil))))))
        pss_nil)
      (pss_cons (ps_if (pt_cmpR op_eq (fldK K (pv 4) rfl) pe_str (nomark _))
        (pss_one ps_never)
        (pss_one (ps_set (i := 6) sc_widened.nd rfl (Or.inl rfl) (pe_call G_sign_holds (hr.mono (by decide)) (by rfl) T.m_sign_holds T.F_sign_holds.kp T.b_sign_holds .nil pass0 (pa_cons (pv 4) (pa_cons (pv 2) pa_nil))))))
      (pss_one (ps_ret (pe_ifExp (pt_val (pv 6)) (pe_lst (pa_cons (pe_callTy call_dictD (by rfl) T.z_dict (by decide +kernel) (pa_cons (pv 2) pa_nil)) pa_nil)) (pe_lst pa_nil)))))))), ?_⟩
    refine ⟨_, rfl, ru, _, dx, _, _, rfl, er, T.cl_Rule, T.n_Rule_body, rf_body _ _ _ _ _, _, rfl, pb, _, _, _, rfl, rfl, SqT.of epb, atI_nat (by rw [List.getElem?_map, hbj]; rfl), ?_⟩
    refine ⟨_, rfl, bs[j], _, dl, _, _, rfl, el, T.cl_Literal, T.n_Literal_kind, lf_kind _ _ _ _, rfl, _, rfl, ?_⟩
    rw [dec_str]
    cases hd with
    | pos h1 h2 h3 =>
      obtain ⟨hst, hrel, hr20⟩ := hpos h1
      rw [decide_eq_true h1]
      refine iteT ⟨_, rfl, bs[j], _, dl, _, _, rfl, el, T.cl_Literal, T.n_Literal_terms, lf_terms _ _ _ _, _, rfl, _, rfl, vw, dv, _, rfl, ev, vw_no _ _ (by decide +kernel) (by decide +kernel), _, rfl, _, rfl, vw, st, ru, rel, j, r, q, rfl, hv, hR, hq, hst, ?_⟩
      exact ⟨pl, b, rel, q.ts, k, row, rfl, fl, hwq, h2, eb, hk, hk9, h3, hr20, hrel, qq⟩
    | @lett n t1 t2 x y h1 h2 h3 h4 h5 h6 =>
      rw [decide_eq_false (by rw [h1]; decide +kernel)]
      refine iteF ⟨_, rfl, bs[j], _, dl, _, _, rfl, el, T.cl_Literal, T.n_Literal_kind, lf_kind _ _ _ _, rfl, _, rfl, ?_⟩
      rw [dec_str, decide_eq_true h1]
      refine iteT ⟨_, rfl, _, rfl, bs[j], b, q, n, t1, t2, k, x, y, rfl, hl, hwq, h2, eb, hk, hk9, h3, h4, h5, h6, fun hn H' s1 => ?_, fun k' hn d H' s1 nd ed => ?_⟩
      · rw [hn] at qq
        exact ⟨_, rfl, rfl, _, rfl, iteT ⟨Nat.zero_le _, fun l hl => qq l _ (s1.trans (same_new hl)) upd_same⟩⟩
      · rw [hn] at qq
        exact ⟨_, rfl, rfl, _, rfl, iteF ⟨_, rfl, (by show 1 ≤ sizeLine; decide), fun l hl => qq l _ (s1.trans (same_new hl)) ⟨d, nd, upd_same, same_new hl _ _ ed⟩⟩⟩
    | @cmp t1 t2 x y h1 h2 h3 h4 h5 h6 =>
      rw [decide_eq_false (by rw [h1]; decide +kernel)]
      refine iteF ⟨_, rfl, bs[j], _, dl, _, _, rfl, el, T.cl_Literal, T.n_Literal_kind, lf_kind _ _ _ _, rfl, _, rfl, ?_⟩
      rw [dec_str, decide_eq_false (by rw [h1]; decide +kernel)]
      refine iteF ⟨_, rfl, bs[j], _, dl, _, _, rfl, el, T.cl_Literal, T.n_Literal_kind, lf_kind _ _ _ _, rfl, _, rfl, ?_⟩
      rw [dec_str, decide_eq_false (by rw [h1]; decide +kernel)]
      refine iteF ⟨_, rfl, _, rfl, bs[j], b, q, t1, t2, k, x, y, rfl, hl, hwq, h2, eb, h3, h4, h5, h6, fun H' s1 => ?_⟩
      refine ⟨_, rfl, _, rfl, ?_⟩
      cases e : hb q.name x y with
      | true =>
        rw [e, if_pos rfl] at qq
        exact iteT ⟨_, rfl, b, k, rfl, .inl (s1 _ _ eb), fun d hd => ⟨(by show 1 ≤ sizeLine; decide), fun l hl => qq l _ (s1.trans ((same_new hd).trans (same_new hl))) ⟨d, s1.free hd, upd_same, same_new hl _ _ upd_same⟩⟩⟩
      | false =>
        rw [e, if_neg (fun z => nomatch z)] at qq
        exact iteF ⟨Nat.zero_le _, fun l hl => qq l _ (s1.trans (same_new hl)) upd_same⟩
theorem Wd.none_or {row : List Key} {q : Pt} {k : Kvs} {o : Option Kvs} (_ : Wd row q k o) : o = none ∨ ∃ k', o = some k' := by
  cases o
  · exact .inl rfl
  · exact .inr ⟨_, rfl⟩
theorem ok_solutions (T : Txt K mg A) : FnOk P w K mg base CX0 6 A.f_solutions A.d_solutions ["rule", "order", "views", "start"] (spSol A) := by
  have G_widened : FnOk P w K mg base CX0 5 A.f_widened A.d_widened ["rule", "number", "bound", "views"] (spWiden A) := ok_widened T
  refine T.F_solutions.ok sc_solutions (fun vs H Q E h => ?_) (fun cdv ar outer s H vs Q E hr h => ?_)
  · obtain ⟨ru, od, vw, st, rel, sv, r, q0, q1, row, k0, o0, o, rfl, _⟩ := h
    rfl
  · obtain ⟨ru, od, vw, st, rel, sv, r, q0, q1, row, k0, o0, o, rfl, hR, hwf, hb2, eod, hv, hst, hrel, hr20, hsv, hk0, hk9, hq1, hd0, hn0, hd1, qq⟩ := h
    refine ⟨_, (pss_cons (ps_set (i := 4) sc_solutions.nd rfl (Or.inl rfl) (pe_lst (pa_cons (pe_ifExp (pt_cmpR op_isN (pv 3) pe_non (nomark _)) pe_dnewK (pe_callTy call_dictD (by rfl) T.z_dict (by decide +kernel) (pa_cons (pv 3) pa_nil))) pa_nil)))
      (pss_cons (ps_for (passes_of rfl) rfl (tupIK K (pv 1)) (pg_name (i := 5) sc_solutions.nd rfl (Or.inl rfl))
        (pss_cons (ps_set (i := 6) sc_solutions.nd rfl (Or.inl rfl) (pe_lst pa_nil))
        (pss_cons (ps_for (passes_of rfl) rfl (listK K (pv 4)) (pg_name (i := 7) sc_solutions.nd rfl (Or.inl rfl))
          (pss_one (ps_expr (extLK K (pv 6) (pa_cons (pe_call G_widened (hr.mono (by decide)) (by rfl) T.m_widened T.F_widened.kp T.b_widened .nil pass0 (pa_cons (pv 0) (pa_cons (pv 5) (pa_cons (pv 7) (pa_cons (pv 2) pa_nil))))) pa_nil)))))
        (pss_one (ps_set (i := 4) sc_solutions.nd rfl (Or.inl rfl) (pv 6))))))
      (pss_one (ps_ret (pv 4))))), ?_⟩
    have main : ∀ (d bl : Addr) (H1 : Hp), Same H H1 → H d = none → H1 d = some (.dK k0) → H1 bl = some (.lst [.ref d]) →
        tSeq (tFor (iTup K (tVar 1)) (gName 5) (tSeq (tAsg (tLst tNil) (gName 6)) (tSeq (tFor (iList K (tVar 4)) (gName 7) (tDrop (tBM K "list" rExtend (tVar 6) (tCons (tCall (spWiden A) [] E0 (tCons (tVar 0) (tCons (tVar 5) (tCons (tVar 7) (tCons (tVar 2) tNil))))) tNil)))) (tAsg (tVar 6) (gName 4))))) (tRet (tVar 4))
          { nx := fun _ H' => Q .non H', rt := Q } [some (.ref ru), some (.ref od), some (.ref vw), some sv, some (.ref bl), none, none, none] H1 := by
      intro d bl H1 s1 nd ed ebl
      refine ⟨_, rfl, od, rfl, ⟨_, SqT.of (s1 _ _ eod)⟩, ?_⟩
      refine for_tup (K := K) (a := od) (xs := [.int 0, .int 1]) (fun i σ H' => ∃ bl x y z, σ = [some (.ref ru), some (.ref od), some (.ref vw), some sv, some (.ref bl), x, y, z] ∧ Same H H' ∧ ((i = 0 ∧ ManyAt H H' bl (some k0)) ∨ (i = 1 ∧ ManyAt H H' bl o0) ∨ (i = 2 ∧ ManyAt H H' bl o)))
        ⟨bl, none, none, none, rfl, s1, .inl ⟨rfl, d, nd, ebl, ed⟩⟩ (fun i σ H' _ ⟨bl, x, y, z, _, s2, _⟩ => SqT.of (s2 _ _ eod)) ?_ ?_
      · rintro i v σ H2 hv2 ⟨bl2, x, y, z, rfl, s2, hcase⟩
        have key : ∀ (jn : Nat) (qj : Pt) (ob o' : Option Kvs), r.body[jn]? = some qj → ManyAt H H2 bl2 ob → (ob = none → o' = none) → (∀ k, ob = some k → KvOk k ∧ k.length ≤ 900 ∧ Wd row qj k o') → (qj.kind = "pos" → qj.name = q0.name) → ∀ (Dn : Ends),
            (∀ wl x z H', Same H H' → ManyAt H H' wl o' → Dn.nx [some (.ref ru), some (.ref od), some (.ref vw), some sv, some (.ref wl), some (.int jn), x, z] H') →
            tSeq (tAsg (tLst tNil) (gName 6)) (tSeq (tFor (iList K (tVar 4)) (gName 7) (tDrop (tBM K "list" rExtend (tVar 6) (tCons (tCall (spWiden A) [] E0 (tCons (tVar 0) (tCons (tVar 5) (tCons (tVar 7) (tCons (tVar 2) tNil))))) tNil)))) (tAsg (tVar 6) (gName 4)))
              Dn [some (.ref ru), some (.ref od), some (.ref vw), some sv, some (.ref bl2), some (.int jn), y, z] H2 := by
          intro jn qj ob o' hqj hm hno hso hnm Dn fin
          refine ⟨Nat.zero_le _, fun wl hwl => ?_⟩
          have s3 := s2.trans (same_new hwl (o := .lst []))
          have hwlH : H wl = none := s2.free hwl
          cases ob with
          | none =>
            have hm' : H2 bl2 = some (.lst []) := hm
            refine ⟨_, rfl, bl2, rfl, ⟨_, SqL.of (same_new hwl _ _ hm')⟩, ?_⟩
            refine for_list (K := K) (a := bl2) (xs := []) (fun i σ H' => ∃ z, σ = [some (.ref ru), some (.ref od), some (.ref vw), some sv, some (.ref bl2), some (.int jn), some (.ref wl), z] ∧ H' = upd H2 wl (.lst []))
              ⟨z, rfl, rfl⟩ (fun i σ H' _ ⟨z, _, e⟩ => by rw [e]; exact SqL.of (same_new hwl _ _ hm')) (fun i v σ H' hx => nomatch hx) ?_
            rintro σ H' ⟨z, rfl, rfl⟩
            refine ⟨_, rfl, fin wl _ _ _ s3 ?_⟩
            rw [hno rfl]
            exact upd_same
          | some kb =>
            obtain ⟨db, ndb, ebl2, edb⟩ := id hm
            obtain ⟨hkb, hkb9, hwd⟩ := hso kb rfl
            refine ⟨_, rfl, bl2, rfl, ⟨_, SqL.of (same_new hwl _ _ ebl2)⟩, ?_⟩
            refine for_list (K := K) (a := bl2) (xs := [.ref db]) (fun i σ H' => ∃ z, σ = [some (.ref ru), some (.ref od), some (.ref vw), some sv, some (.ref bl2), some (.int jn), some (.ref wl), z] ∧ Same H2 H' ∧ ((i = 0 ∧ H' wl = some (.lst [])) ∨ (i = 1 ∧ ManyAt H H' wl o')))
              ⟨z, rfl, same_new hwl, .inl ⟨rfl, upd_same⟩⟩ (fun i σ H' _ ⟨z, _, s4, _⟩ => SqL.of (s4 _ _ ebl2)) ?_ ?_
            · rintro i v σ H' hx ⟨z, rfl, s4, ⟨rfl, ew⟩ | ⟨rfl, _⟩⟩
              · cases hx
                have s24 := s2.trans s4
                refine ⟨_, rfl, .inl ⟨rfl, _, SqL.of ew⟩, _, rfl, _, rfl, _, rfl, _, rfl, ru, db, vw, st, rel, jn, r, qj, row, kb, o', rfl, hR.up s24, hwf, hqj, s4 _ _ edb, hkb, hkb9, hv.up s24, fun hp => ⟨by rw [hnm hp]; exact hst.up s24, hrel.up s24, hr20⟩, hwd, fun l H5 s5 hm5 => ?_⟩
                have ew5 := s5 _ _ ew
                have nlw : ∀ {xs : List V}, H5 l = some (.lst xs) → xs.length ≤ 1 → ∃ xs', H5 l = some (.lst xs') ∧ ([] : List V).length + xs'.length ≤ sizeLine ∧ xs' = xs := fun e h => ⟨_, e, sz' (by simpa using Nat.le_trans h (by decide)), rfl⟩
                cases o' with
                | none =>
                  have el : H5 l = some (.lst []) := hm5
                  exact ⟨wl, l, [], [], rfl, rfl, ew5, el, Nat.zero_le _, _, rfl, same_mut (s4.trans s5) hwl, .inr ⟨rfl, upd_same⟩⟩
                | some k' =>
                  obtain ⟨d', nd', el, ed'⟩ := hm5
                  have ndw : d' ≠ wl := (ne_of_none ew nd').symm
                  exact ⟨wl, l, [], [.ref d'], rfl, rfl, ew5, el, (by show 0 + 1 ≤ sizeLine; decide), _, rfl, same_mut (s4.trans s5) hwl, .inr ⟨rfl, d', s24.free nd', upd_same, by rw [upd_ne ndw]; exact ed'⟩⟩
              · cases hx
            · rintro σ H' ⟨z, rfl, s4, ⟨h0, _⟩ | ⟨_, hm4⟩⟩
              · cases h0
              · exact ⟨_, rfl, fin wl _ _ _ (s2.trans s4) hm4⟩
        rcases hcase with ⟨rfl, hm⟩ | ⟨rfl, hm⟩ | ⟨rfl, hm⟩
        · cases hv2
          refine key 0 q0 (some k0) o0 (by rw [hb2]; rfl) hm (fun z => nomatch z) (fun k e => ?_) (fun _ => rfl) _ fun wl x z H' s3 hm3 => ⟨wl, _, _, _, rfl, s3, .inr (.inl ⟨rfl, hm3⟩)⟩
          cases e
          exact ⟨hk0, hk9, hd0⟩
        · cases hv2
          exact key 1 q1 o0 o (by rw [hb2]; rfl) hm hn0 hd1 (fun hp => absurd hp hq1) _ fun wl x z H' s3 hm3 => ⟨wl, _, _, _, rfl, s3, .inr (.inr ⟨rfl, hm3⟩)⟩
        · cases hv2
      · rintro σ H' ⟨bl, x, y, z, rfl, s2, ⟨h0, _⟩ | ⟨h0, _⟩ | ⟨_, hm⟩⟩
        · cases h0
        · cases h0
        · exact ⟨_, rfl, qq bl H' s2 hm⟩
    rcases hsv with ⟨rfl, rfl⟩ | ⟨d0, rfl, ed0⟩
    · refine ⟨_, rfl, rfl, _, rfl, iteT fun d hd => ⟨(by show 1 ≤ sizeLine; decide), fun l hl => ?_⟩⟩
      exact main d l _ ((same_new hd).trans (same_new hl)) hd (same_new hl _ _ upd_same) upd_same
    · refine ⟨_, rfl, rfl, _, rfl, iteF ⟨_, rfl, d0, k0, rfl, .inl ed0, fun d hd => ⟨(by show 1 ≤ sizeLine; decide), fun l hl => ?_⟩⟩⟩
      exact main d l _ ((same_new hd).trans (same_new hl)) hd (same_new hl _ _ upd_same) upd_same
end
end Toy

set_option Elab.async false
set_option maxRecDepth 100000
set_option maxHeartbeats 4000000
namespace Toy
open PySem L2
open U (Tm Pt RR tn nms vars addN dd rows cnt)
/-! ### parts made, values drawn -/
def vals10 : List Key := [.inl (-3), .inl 0, .inl 1, .inl 2, .inr "a", .inr "b", .inr "it's", .inr "not", .inr "Up", .inr "x y"]
def lst10 : List V := [.int (0 - 3), .int 0, .int 1, .int 2, .str "a", .str "b", .str "it's", .str "not", .str "Up", .str "x y"]
theorem val10 {j : Int} (h0 : 0 ≤ j) (h1 : j < 10) : ∃ x : Key, x ∈ vals10 ∧ atI lst10 j = some (kV x) := by
  have : j = 0 ∨ j = 1 ∨ j = 2 ∨ j = 3 ∨ j = 4 ∨ j = 5 ∨ j = 6 ∨ j = 7 ∨ j = 8 ∨ j = 9 := by omega
  rcases this with rfl | rfl | rfl | rfl | rfl | rfl | rfl | rfl | rfl | rfl
  · exact ⟨.inl (-3), by simp [vals10], rfl⟩
  · exact ⟨.inl 0, by simp [vals10], rfl⟩
  · exact ⟨.inl 1, by simp [vals10], rfl⟩
  · exact ⟨.inl 2, by simp [vals10], rfl⟩
  · exact ⟨.inr "a", by simp [vals10], rfl⟩
  · exact ⟨.inr "b", by simp [vals10], rfl⟩
  · exact ⟨.inr "it's", by simp [vals10], rfl⟩
  · exact ⟨.inr "not", by simp [vals10], rfl⟩
  · exact ⟨.inr "Up", by simp [vals10], rfl⟩
  · exact ⟨.inr "x y", by simp [vals10], rfl⟩
theorem ok10 {x : Key} (h : x ∈ vals10) : kOk x = true := by
  have : vals10.all kOk = true := by decide +kernel
  exact List.all_eq_true.mp this x h
def isK : Key → Bool
  | .inl _ => true
  | .inr _ => false
def spValue : Sp := fun vs H Q _ => ∃ d : Addr, vs = [.ref d] ∧ DiceAt H d ∧ ∀ x H', x ∈ vals10 → SameX d H H' → DiceAt H' d → Q (kV x) H'
def spLess : Sp := fun vs H Q _ => ∃ x y : Key, vs = [kV x, kV y] ∧ Q (.bl (less x y)) H
def spLitInitT (A : Ad) : Sp := fun vs H Q _ => ∃ (p dx tp : Addr) (kind name : Str) (ts : List Tm), vs = [.ref p, .str kind, .str name, .ref tp] ∧ H p = some (.ins A.C_Literal dx []) ∧ TmsAt A.C_Term H tp ts ∧ WfT ts ∧
  ∀ H', LitAt A H' p ⟨kind, name, ts⟩ → SameX p H H' → Q .non H'
def spPos (A : Ad) : Sp := fun vs H Q _ => ∃ (name : Str) (tp : Addr) (ts : List Tm), vs = [.str name, .ref tp] ∧ LTms A.C_Term H tp ts ∧ WfT ts ∧ ∀ x H', H x = none → LitAt A H' x ⟨"pos", name, ts⟩ → Same H H' → Q (.ref x) H'
def spHeld (A : Ad) : Sp := fun vs H Q _ => ∃ (sg : Str) (a b : Addr) (t1 t2 : Tm), vs = [.str sg, .ref a, .ref b] ∧ TO A.C_Term H a t1 ∧ TO A.C_Term H b t2 ∧ WfT [t1, t2] ∧ inV (.str sg) [.str "<", .str "<=", .str "=", .str "!="] = true ∧
  ∀ x H', H x = none → LitAt A H' x ⟨"cmp", sg, [t1, t2]⟩ → Same H H' → Q (.ref x) H'
def spLet (A : Ad) : Sp := fun vs H Q _ => ∃ (sg : Str) (n : Str) (t a b : Addr) (t1 t2 : Tm), vs = [.ref t, .str sg, .ref a, .ref b] ∧ TO A.C_Term H t (.inl n) ∧ TO A.C_Term H a t1 ∧ TO A.C_Term H b t2 ∧ WfT [.inl n, t1, t2] ∧ inV (.str sg) [.str "+", .str "-", .str "*"] = true ∧
  ∀ x H', H x = none → LitAt A H' x ⟨"let", sg, [.inl n, t1, t2]⟩ → Same H H' → Q (.ref x) H'
/-- a new object, its own dict and what __init__ has made of it -/
theorem made_same {H H' : Hp} {x dx C : Addr} (nx : H x = none) (ndx : H dx = none) (s : SameX x (upd (upd H dx (.own x)) x (.ins C dx [])) H') : Same H H' := fun b o e =>
  s b o (by rw [upd_ne (ne_of_none e nx), upd_ne (ne_of_none e ndx)]; exact e) (ne_of_none e nx)
theorem made_keep {H : Hp} {x dx C : Addr} (nx : H x = none) (ndx : H dx = none) : Same H (upd (upd H dx (.own x)) x (.ins C dx [])) := fun b o e => by
  rw [upd_ne (ne_of_none e nx), upd_ne (ne_of_none e ndx)]
  exact e
section
variable {P : Program} {w : World} {K : PySem.W.Frag} {mg : Str → Option Value} {base : Heap} {A : Ad}
theorem ok_lit_initT (T : Txt K mg A) : FnOk P w K mg base CX0 3 A.f_Literal_init A.d_Literal_init ["self", "kind", "name", "terms"] (spLitInitT A) := by
  have G_names_in : FnOk P w K mg base CX0 2 A.f_names_in A.d_names_in ["terms"] (spNamesIn A.C_Term) := ok_names_in T
  refine T.F_Literal_init.ok sc_Literal_init (fun vs H Q E h => ?_) (fun cdv ar outer s H vs Q E hr h => ?_)
  · obtain ⟨p, dx, tp, kind, name, ts, rfl, _⟩ := h
    rfl
  · obtain ⟨p, dx, tp, kind, name, ts, rfl, hp, ⟨as, et, ft⟩, hw, k⟩ := h
    refine ⟨_, (pss_cons (sfldK K (pv 0) (pv 1) rfl)
      (pss_cons (sfldK K (pv 0) (pv 2) rfl)
      (pss_cons (sfldK K (pv 0) (pe_callTy (tupOf K) (by rfl) T.z_tuple (by decide +kernel) (pa_cons (pv 3) pa_nil)) rfl)
      (pss_one (sfldK K (pv 0) (pe_call G_names_in (hr.mono (by decide)) (by rfl) T.m_names_in T.F_names_in.kp T.b_names_in .nil pass0 (pa_cons (fldK K (pv 0) rfl) pa_nil)) rfl))))), ?_⟩
    have ntp : tp ≠ p := ne_of et hp (fun q => nomatch q)
    refine ⟨_, rfl, _, rfl, p, _, dx, _, rfl, hp, T.cl_Literal, T.n_Literal_kind, (by show 0 < 1000; decide), ?_⟩
    refine ⟨_, rfl, _, rfl, p, _, dx, _, rfl, upd_same, T.cl_Literal, T.n_Literal_name, (by show 1 < 1000; decide), ?_⟩
    refine ⟨_, rfl, tp, _, rfl, .inr ⟨SqT.of (by rw [upd_ne ntp, upd_ne ntp]; exact et), ?_⟩⟩
    refine ⟨_, rfl, p, _, dx, _, rfl, upd_same, T.cl_Literal, T.n_Literal_terms, (by show 2 < 1000; decide), ?_⟩
    rw [upd_upd, upd_upd]
    have x1 : SameX p H (upd H p (.ins A.C_Literal dx (putF "terms" (.ref tp) (putF "name" (.str name) (putF "kind" (.str kind) []))))) := fun b o e nb => by rw [upd_ne nb]; exact e
    refine ⟨_, rfl, p, _, dx, _, _, rfl, upd_same, T.cl_Literal, T.n_Literal_terms, (by rw [lookup_putF, if_pos rfl]), ?_⟩
    have tmA : TmsAt A.C_Term _ tp ts := ⟨as, x1 _ _ et ntp, ft.imp fun a t h => TmAt.upx h x1 (TmAt.ne_bare h hp)⟩
    refine ⟨tp, ts, rfl, tmA, hw, fun q H5 s5 eq5 => ?_⟩
    have h5 := s5 _ _ upd_same
    refine ⟨_, rfl, p, _, dx, _, rfl, h5, T.cl_Literal, T.n_Literal_own, (by show 3 < 1000; decide), ?_⟩
    have x2 : SameX p H (upd H5 p (.ins A.C_Literal dx (lf kind name tp q))) := fun b o e nb => by rw [upd_ne nb]; exact s5 _ _ (x1 _ _ e nb)
    refine k _ ⟨dx, tp, q, upd_same, ⟨as, x2 _ _ et ntp, ft.imp fun a t h => TmAt.upx h x2 (TmAt.ne_bare h hp)⟩, ?_⟩ x2
    rw [upd_ne (ne_of eq5 h5 (fun z => nomatch z))]
    exact eq5
theorem ok_pos (T : Txt K mg A) : FnOk P w K mg base CX0 5 A.f_pos A.d_pos ["name", "terms"] (spPos A) := by
  have G_Literal_init : FnOk P w K mg base CX0 3 A.f_Literal_init A.d_Literal_init ["self", "kind", "name", "terms"] (spLitInit A) := ok_lit_init T
  refine T.F_pos.ok sc_pos (fun vs H Q E h => ?_) (fun cdv ar outer s H vs Q E hr h => ?_)
  · obtain ⟨name, tp, ts, rfl, _⟩ := h
    rfl
  · obtain ⟨name, tp, ts, rfl, ⟨as, et, ft⟩, hw, k⟩ := h
    refine ⟨_, (pss_one (ps_ret (pe_make T.M_Literal G_Literal_init (hr.mono (by decide)) (by rfl) T.m_Literal T.b_Literal_init .nil pass0 (pa_cons pe_str (pa_cons (pv 0) (pa_cons (pv 1) pa_nil)))))), ?_⟩
    refine ⟨_, rfl, _, rfl, fun x dx nx ndx nex => ?_⟩
    have s0 := made_keep (C := A.C_Literal) nx ndx
    exact ⟨x, dx, tp, "pos", name, ts, rfl, upd_same, ⟨as, s0 _ _ et, ft.imp fun a t h => TmAt.up h s0⟩, hw, fun H' hl hx => ⟨rfl, k x H' nx hl (made_same nx ndx hx)⟩⟩
theorem ok_held (T : Txt K mg A) : FnOk P w K mg base CX0 5 A.f_held A.d_held ["sign", "one", "other"] (spHeld A) := by
  have G_Literal_init : FnOk P w K mg base CX0 3 A.f_Literal_init A.d_Literal_init ["self", "kind", "name", "terms"] (spLitInitT A) := ok_lit_initT T
  refine T.F_held.ok sc_held (fun vs H Q E h => ?_) (fun cdv ar outer s H vs Q E hr h => ?_)
  · obtain ⟨sg, a, b, t1, t2, rfl, _⟩ := h
    rfl
  · obtain ⟨sg, a, b, t1, t2, rfl, h1, h2, hw, hin, k⟩ := h
    refine ⟨_, (pss_cons (ps_if (pt_cmpR (notInSeq K) (pv 0) (pe_glob (v := .ref A.t_SIGNS) rfl T.g_SIGNS rfl) (by rfl))
        (pss_one ps_never)
        pss_nil)
      (pss_one (ps_ret (pe_make T.M_Literal G_Literal_init (hr.mono (by decide)) (by rfl) T.m_Literal T.b_Literal_init .nil pass0 (pa_cons pe_str (pa_cons (pv 0) (pa_cons (pe_tup (pa_cons (pv 1) (pa_cons (pv 2) pa_nil))) pa_nil))))))), ?_⟩
    refine ⟨_, rfl, _, _, rfl, .inr (T.sq_SIGNS _), rfl, rfl, _, rfl, ?_⟩
    rw [hin]
    refine iteF ⟨_, rfl, _, rfl, _, rfl, (by show 2 ≤ sizeLine; decide), fun tp htp x dx nx ndx nex => ?_⟩
    have s1 := same_new htp (o := .tup [.ref a, .ref b])
    have s0 := made_keep (C := A.C_Literal) nx ndx
    exact ⟨x, dx, tp, "cmp", sg, [t1, t2], rfl, upd_same, ⟨[a, b], s0 _ _ upd_same, .cons (TmAt.up h1 (s1.trans s0)) (.cons (TmAt.up h2 (s1.trans s0)) .nil)⟩, hw, fun H' hl hx => ⟨rfl, k x H' (s1.free nx) hl (s1.trans (made_same nx ndx hx))⟩⟩
theorem ok_let (T : Txt K mg A) : FnOk P w K mg base CX0 5 A.f_let A.d_let ["target", "deed", "one", "other"] (spLet A) := by
  have G_Literal_init : FnOk P w K mg base CX0 3 A.f_Literal_init A.d_Literal_init ["self", "kind", "name", "terms"] (spLitInitT A) := ok_lit_initT T
  have G_Term_is_variable : FnOk P w K mg base CX0 1 A.f_Term_is_variable A.d_Term_is_variable ["self"] (spIsVar A.C_Term) := ok_is_variable T
  refine T.F_let.ok sc_let (fun vs H Q E h => ?_) (fun cdv ar outer s H vs Q E hr h => ?_)
  · obtain ⟨sg, n, t, a, b, t1, t2, rfl, _⟩ := h
    rfl
  · obtain ⟨sg, n, t, a, b, t1, t2, rfl, h0, h1, h2, hw, hin, k⟩ := h
    obtain ⟨dt, g⟩ := id h0
    refine ⟨_, (pss_cons (ps_if (PW.pt (pw_or (pt_cmpR (notInSeq K) (pv 1) (pe_glob (v := .ref A.t_DEEDS) rfl T.g_DEEDS rfl) (by rfl)) (pw_or1 (pt_not (pt_val (pe_meth0 (pv 0) T.cl_Term T.e_Term_is_variable G_Term_is_variable (hr.mono (by decide)) T.b_Term_is_variable .nil pass0))))))
        (pss_one ps_never)
        pss_nil)
      (pss_one (ps_ret (pe_make T.M_Literal G_Literal_init (hr.mono (by decide)) (by rfl) T.m_Literal T.b_Literal_init .nil pass0 (pa_cons pe_str (pa_cons (pv 1) (pa_cons (pe_tup (pa_cons (pv 0) (pa_cons (pv 2) (pa_cons (pv 3) pa_nil)))) pa_nil))))))), ?_⟩
    refine ⟨_, rfl, _, _, rfl, .inr (T.sq_DEEDS _), rfl, rfl, _, rfl, ?_⟩
    rw [hin]
    refine iteF ⟨_, rfl, t, dt, _, rfl, g, no_isv _ _, t, _, _, rfl, h0, _, rfl, ?_⟩
    rw [isVar_tn (hw.2 _ List.mem_cons_self)]
    refine iteF ⟨_, rfl, _, rfl, _, rfl, _, rfl, (by show 3 ≤ sizeLine; decide), fun tp htp x dx nx ndx nex => ?_⟩
    have s1 := same_new htp (o := .tup [.ref t, .ref a, .ref b])
    have s0 := made_keep (C := A.C_Literal) nx ndx
    exact ⟨x, dx, tp, "let", sg, [.inl n, t1, t2], rfl, upd_same, ⟨[t, a, b], s0 _ _ upd_same, .cons (TmAt.up h0 (s1.trans s0)) (.cons (TmAt.up h1 (s1.trans s0)) (.cons (TmAt.up h2 (s1.trans s0)) .nil))⟩, hw, fun H' hl hx => ⟨rfl, k x H' (s1.free nx) hl (s1.trans (made_same nx ndx hx))⟩⟩
theorem ok_value (T : Txt K mg A) : FnOk P w K mg base CX0 2 A.f_l_value A.d_l_value ["dice"] spValue := by
  have G_l_roll : FnOk P w K mg base CX0 1 A.f_l_roll A.d_l_roll ["dice", "many"] spRoll := ok_roll T
  refine T.F_l_value.ok sc_l_value (fun vs H Q E h => ?_) (fun cdv ar outer s H vs Q E hr h => ?_)
  · obtain ⟨d, rfl, _⟩ := h
    rfl
  · obtain ⟨d, rfl, hd, q⟩ := h
    refine ⟨_, (pss_one (ps_ret (pe_ix (ixL K) (pe_lst (pa_cons (pe_op op_sub pe_int pe_int) (pa_cons pe_int (pa_cons pe_int (pa_cons pe_int (pa_cons pe_str (pa_cons pe_str (pa_cons pe_str (pa_cons pe_str (pa_cons pe_str (pa_cons pe_str pa_nil))))))))))) (pe_call G_l_roll (hr.mono (by decide)) (by rfl) T.m_l_roll T.F_l_roll.kp T.b_l_roll .nil pass0 (pa_cons (pv 0) (pa_cons pe_int pa_nil))) (fun _ _ => rfl)))), ?_⟩
    refine ⟨_, _, rfl, rfl, (by show 10 ≤ sizeLine; decide), fun l hl => ?_⟩
    refine ⟨_, rfl, d, 10, rfl, hd.up (same_new hl), by decide, by decide, fun j H1 j0 j1 d1 f1 => ?_⟩
    obtain ⟨x, hx, hat⟩ := val10 j0 j1
    have ndl : l ≠ d := (hd.ne hl).symm
    exact ⟨l, lst10, _, _, rfl, rfl, SqL.of (by rw [f1 l ndl, upd_same]; rfl), hat, q x H1 hx ((Same.x (same_new hl)).trans (sx_of f1)) d1⟩
theorem ok_less (T : Txt K mg A) : FnOk P w K mg base CX0 1 A.f_l_less A.d_l_less ["one", "other"] spLess := by
  refine T.F_l_less.ok sc_l_less (fun vs H Q E h => ?_) (fun cdv ar outer s H vs Q E hr h => ?_)
  · obtain ⟨x, y, rfl, _⟩ := h
    rfl
  · obtain ⟨x, y, rfl, q⟩ := h
    refine ⟨_, (pss_cons (ps_if (pt_cmpR op_ne (pe_callB (isiK K) (by rfl) T.z_isinstance (by decide +kernel) (pa_cons (pv 0) (pa_cons (pe_bltn (v := .ty "int") (by rfl) T.z_int (by decide +kernel) rfl) pa_nil))) (pe_callB (isiK K) (by rfl) T.z_isinstance (by decide +kernel) (pa_cons (pv 1) (pa_cons (pe_bltn (v := .ty "int") (by rfl) T.z_int (by decide +kernel) rfl) pa_nil))) (nomark _))
        (pss_one (ps_ret (pe_callB (isiK K) (by rfl) T.z_isinstance (by decide +kernel) (pa_cons (pv 0) (pa_cons (pe_bltn (v := .ty "int") (by rfl) T.z_int (by decide +kernel) rfl) pa_nil)))))
        pss_nil)
      (pss_one (ps_ret (pe_cmpR ltIS (pv 0) (pv 1) (nomark _))))), ?_⟩
    cases x with
    | inl i => cases y with
      | inl j => exact ⟨_, rfl, _, _, _, _, true, rfl, .ty _, .base (.int i), kit_ty (by decide +kernel), _, rfl, _, _, _, _, true, rfl, .ty _, .base (.int j), kit_ty (by decide +kernel), rfl, _, rfl, iteF ⟨_, rfl, _, rfl, .inl ⟨i, j, rfl, rfl, q⟩⟩⟩
      | inr t => exact ⟨_, rfl, _, _, _, _, true, rfl, .ty _, .base (.int i), kit_ty (by decide +kernel), _, rfl, _, _, _, _, false, rfl, .ty _, .base (.str t), kit_ty (by decide +kernel), rfl, _, rfl, iteT ⟨_, rfl, _, _, _, _, true, rfl, .ty _, .base (.int i), kit_ty (by decide +kernel), q⟩⟩
    | inr s => cases y with
      | inl j => exact ⟨_, rfl, _, _, _, _, false, rfl, .ty _, .base (.str s), kit_ty (by decide +kernel), _, rfl, _, _, _, _, true, rfl, .ty _, .base (.int j), kit_ty (by decide +kernel), rfl, _, rfl, iteT ⟨_, rfl, _, _, _, _, false, rfl, .ty _, .base (.str s), kit_ty (by decide +kernel), q⟩⟩
      | inr t => exact ⟨_, rfl, _, _, _, _, false, rfl, .ty _, .base (.str s), kit_ty (by decide +kernel), _, rfl, _, _, _, _, false, rfl, .ty _, .base (.str t), kit_ty (by decide +kernel), rfl, _, rfl, iteF ⟨_, rfl, _, rfl, .inr ⟨s, t, rfl, rfl, q⟩⟩⟩
end
end Toy

set_option Elab.async false
set_option maxRecDepth 100000
set_option maxHeartbeats 4000000
namespace Toy
open PySem L2
open U (Tm Pt RR tn nms vars addN dd rows cnt)
def spLaw (K : PySem.W.Frag) : Sp := fun vs H Q _ => ∃ (a : Addr) (ns : List Int), vs = [.ref a] ∧ SqL K H a (ns.map V.int) ∧ ns.length ≤ 63 ∧ ∀ H', Q (.bl true) H'
structure Bs (p d : Addr) (H : Hp) : Prop where
  l : H p = some (.lst [.ref d])
  di : DiceAt H d
  n : p ≠ d
theorem Bs.upx {p d : Addr} {H H' : Hp} (h : Bs p d H) (s : SameX d H H') (hd : DiceAt H' d) : Bs p d H' := ⟨s _ _ h.l h.n, hd, h.n⟩
theorem Bs.up {p d : Addr} {H H' : Hp} (h : Bs p d H) (s : Same H H') : Bs p d H' := ⟨s _ _ h.l, h.di.up s, h.n⟩
def dueK (x y : Key) : Kvs := [(Sum.inr "<", .bl (hb "<" x y)), (Sum.inr "<=", .bl (hb "<=" x y)), (Sum.inr "=", .bl (hb "=" x y)), (Sum.inr "!=", .bl (hb "!=" x y))]
theorem scal_k (x y : Key) : scal (kV x) (kV y) = true := by cases x <;> cases y <;> rfl
theorem dec_kV (x y : Key) : decide (kV x = kV y) = decide (x = y) := by
  cases x <;> cases y <;> simp [kV]
theorem hb_lt (x y : Key) : hb "<" x y = less x y := if_pos rfl
theorem hb_eq (x y : Key) : hb "=" x y = decide (x = y) := by
  unfold hb
  rw [if_neg (by decide +kernel), if_neg (by decide +kernel)]
  cases decide (x = y) <;> rfl
theorem hb_ne (x y : Key) : hb "!=" x y = !decide (x = y) := by
  unfold hb
  rw [if_neg (by decide +kernel), if_neg (by decide +kernel), decide_eq_false (show ¬ (("!=" : Str) = "=") by decide +kernel)]
  cases decide (x = y) <;> rfl
theorem hb_le {x y : Key} (hx : x ∈ vals10) (hy : y ∈ vals10) : hb "<=" x y = (less x y || decide (x = y)) := by
  have h : (vals10.all fun x => vals10.all fun y => hb "<=" x y == (less x y || decide (x = y))) = true := by decide +kernel
  exact beq_iff_eq.mp (List.all_eq_true.mp (List.all_eq_true.mp h x hx) y hy)
def signs4 : List V := [.str "<", .str "<=", .str "=", .str "!="]
theorem dueK_at {x y : Key} {i : Nat} {sk : Key} {vb : V} (h : (dueK x y)[i]? = some (sk, vb)) : ∃ sg : Str, sk = Sum.inr sg ∧ inV (.str sg) [.str "<", .str "<=", .str "=", .str "!="] = true ∧ sg.length ≤ 900 ∧ PyData.strOk sg = true ∧ valV (dueK x y) (Sum.inr sg) = some (.bl (hb sg x y)) := by
  match i, h with
  | 0, h => cases h; exact ⟨_, rfl, by decide +kernel, by decide +kernel, by decide +kernel, rfl⟩
  | 1, h => cases h; exact ⟨_, rfl, by decide +kernel, by decide +kernel, by decide +kernel, rfl⟩
  | 2, h => cases h; exact ⟨_, rfl, by decide +kernel, by decide +kernel, by decide +kernel, rfl⟩
  | 3, h => cases h; exact ⟨_, rfl, by decide +kernel, by decide +kernel, by decide +kernel, rfl⟩
def rA (sg : Str) : RR := ⟨"h", [], [⟨"pos", "e", [.inl "X", .inl "Y"]⟩, ⟨"cmp", sg, [.inl "X", .inl "Y"]⟩], false⟩
theorem okXYN {t : Tm} (h : t = .inl "X" ∨ t = .inl "Y" ∨ t = .inl "N" ∨ ∃ i, t = .inr i) : okT t = true := by
  rcases h with rfl | rfl | rfl | ⟨i, rfl⟩
  · decide +kernel
  · decide +kernel
  · decide +kernel
  · rfl
theorem wfXY : WfT [.inl "X", .inl "Y"] := ⟨by decide, fun t ht => by
  rcases List.mem_cons.mp ht with rfl | ht
  · exact okXYN (.inl rfl)
  · rw [List.mem_singleton.mp ht]
    exact okXYN (.inr (.inl rfl))⟩
theorem wfA {sg : Str} (h1 : sg.length ≤ 900) (h2 : PyData.strOk sg = true) : Wf (rA sg) := ⟨⟨(by show 0 ≤ 20; decide), fun t ht => nomatch ht⟩, ⟨by show 2 ≤ 20; decide, fun q hq => by
  rcases List.mem_cons.mp hq with rfl | hq
  · exact ⟨wfXY, by decide +kernel, by decide +kernel, by decide +kernel⟩
  · rw [List.mem_singleton.mp hq]
    exact ⟨wfXY, h1, h2, (by show PyData.strOk "cmp" = true; decide +kernel)⟩⟩, by show ("h" : Str).length ≤ 900; decide +kernel, by show PyData.strOk "h" = true; decide +kernel⟩
theorem matXY (u v : V) : mat [.inl "X", .inl "Y"] [u, v] [] = some [((Sum.inr "X" : Key), u), (Sum.inr "Y", v)] := by
  rfl
theorem mergeK4 (a b c d : V) : mergeK [] [((Sum.inr "<" : Key), a), (Sum.inr "<=", b), (Sum.inr "=", c), (Sum.inr "!=", d)] = [((Sum.inr "<" : Key), a), (Sum.inr "<=", b), (Sum.inr "=", c), (Sum.inr "!=", d)] := by
  rfl
theorem sign3 {j : Int} (h0 : 0 ≤ j) (h1 : j < 3) : ∃ (s : Str) (c : Nat), (s = "+" ∨ s = "-" ∨ s = "*") ∧ atI (("+-*" : Str).cps.toList) j = some c ∧ (.str s : V) = .str ⟨#[c]⟩ := by
  have : j = 0 ∨ j = 1 ∨ j = 2 := by omega
  rcases this with rfl | rfl | rfl
  · exact ⟨"+", 43, .inl rfl, rfl, rfl⟩
  · exact ⟨"-", 45, .inr (.inl rfl), rfl, rfl⟩
  · exact ⟨"*", 42, .inr (.inr rfl), rfl, rfl⟩
theorem first3 {n0 n1 j : Int} (hn0 : -10 ≤ n0 ∧ n0 ≤ 10) (hn1 : 0 ≤ n1 ∧ n1 ≤ 900000000000000000) (h0 : 0 ≤ j) (h1 : j < 3) :
    ∃ f : Key, (f = .inr "a" ∨ ∃ i, f = .inl i ∧ -10 ≤ i ∧ i ≤ 900000000000000000) ∧ atI ([.int n0, .int n1, .str "a"] : List V) j = some (kV f) := by
  have : j = 0 ∨ j = 1 ∨ j = 2 := by omega
  rcases this with rfl | rfl | rfl
  · exact ⟨.inl n0, .inr ⟨n0, rfl, by omega, by omega⟩, rfl⟩
  · exact ⟨.inl n1, .inr ⟨n1, rfl, by omega, by omega⟩, rfl⟩
  · exact ⟨.inr "a", .inl rfl, rfl⟩
theorem second3 {n0 n1 j : Int} (hn0 : -10 ≤ n0 ∧ n0 ≤ 10) (hn1 : 0 ≤ n1 ∧ n1 ≤ 900000000000000000) (h0 : 0 ≤ j) (h1 : j < 3) :
    ∃ z : Int, (-10 ≤ z ∧ z ≤ 900000000000000000) ∧ atI ([.int n1, .int n0, .int 7] : List V) j = some (.int z) := by
  have : j = 0 ∨ j = 1 ∨ j = 2 := by omega
  rcases this with rfl | rfl | rfl
  · exact ⟨n1, ⟨by omega, by omega⟩, rfl⟩
  · exact ⟨n0, ⟨by omega, by omega⟩, rfl⟩
  · exact ⟨7, ⟨by omega, by omega⟩, rfl⟩
theorem bnd_abs (m : Int) : ((if m < 0 then -m else m) < 1000000000000000000 → bnd m = .int m) ∧ (¬ (if m < 0 then -m else m) < 1000000000000000000 → bnd m = .non) := by
  unfold bnd
  constructor
  · intro h
    have h1 : -999999999999999999 ≤ m := by split at h <;> omega
    have h2 : m ≤ 999999999999999999 := by split at h <;> omega
    rw [decide_eq_true h1, decide_eq_true h2]
    rfl
  · intro h
    have h1 : ¬ (-999999999999999999 ≤ m ∧ m ≤ 999999999999999999) := by split at h <;> omega
    rw [← Bool.decide_and, decide_eq_false h1]
    rfl
def rB (dd : Str) (z : Int) : RR := ⟨"h", [], [⟨"pos", "e", [.inl "X"]⟩, ⟨"let", dd, [.inl "N", .inl "X", .inr z]⟩], false⟩
theorem wfX : WfT [.inl "X"] := ⟨by decide, fun t ht => by
  rw [List.mem_singleton.mp ht]
  exact okXYN (.inl rfl)⟩
theorem wfN (z : Int) : WfT [.inl "N", .inl "X", .inr z] := ⟨(by show 3 ≤ 20; decide), fun t ht => by
  rcases List.mem_cons.mp ht with rfl | ht
  · exact okXYN (.inr (.inr (.inl rfl)))
  · rcases List.mem_cons.mp ht with rfl | ht
    · exact okXYN (.inl rfl)
    · rw [List.mem_singleton.mp ht]
      rfl⟩
theorem wfB {dd : Str} (h : dd = "+" ∨ dd = "-" ∨ dd = "*") (z : Int) : Wf (rB dd z) := ⟨⟨(by show 0 ≤ 20; decide), fun t ht => nomatch ht⟩, ⟨by show 2 ≤ 20; decide, fun q hq => by
  rcases List.mem_cons.mp hq with rfl | hq
  · exact ⟨wfX, by decide +kernel, by decide +kernel, by decide +kernel⟩
  · rw [List.mem_singleton.mp hq]
    refine ⟨wfN z, ?_, ?_, (by show PyData.strOk "let" = true; decide +kernel)⟩
    · show dd.length ≤ 900
      rcases h with rfl | rfl | rfl <;> decide +kernel
    · show PyData.strOk dd = true
      rcases h with rfl | rfl | rfl <;> decide +kernel⟩, by show ("h" : Str).length ≤ 900; decide +kernel, by show PyData.strOk "h" = true; decide +kernel⟩
theorem deed_in {dd : Str} (h : dd = "+" ∨ dd = "-" ∨ dd = "*") : inV (.str dd) [.str "+", .str "-", .str "*"] = true := by
  rcases h with rfl | rfl | rfl <;> decide +kernel
def roB (f : Key) : V → Option Kvs
  | .int m => some [(Sum.inr "X", kV f), (Sum.inr "N", .int m)]
  | _ => none
def roC (f : Key) : V → Option Kvs
  | .int m => if m = 5 then some [(Sum.inr "N", .int 5), (Sum.inr "X", kV f)] else none
  | _ => none
theorem askX (f : Key) (k : Kvs) (h : valV k (Sum.inr "X") = none) : Wd [f] ⟨"pos", "e", [.inl "X"]⟩ k (some (putK k (Sum.inr "X") (kV f))) := by
  have z := Wd.pos (row := [f]) (q := ⟨"pos", "e", [.inl "X"]⟩) (k := k) rfl (fun z => nomatch z) (fun t ht => by
    rw [List.mem_singleton.mp ht]
    exact h)
  have e : mat [.inl "X"] ([f].map kV) k = some (putK k (Sum.inr "X") (kV f)) := by
    show (match tvw k (.inl "X") with | none => _ | some x => _) = _
    rw [show tvw k (.inl "X") = none from h]
    rfl
  rw [e] at z
  exact z
section
variable {P : Program} {w : World} {K : PySem.W.Frag} {mg : Str → Option Value} {base : Heap} {A : Ad}
theorem ok_law (T : Txt K mg A) : FnOk P w K mg base CX0 7 A.f_law A.d_law ["script"] (spLaw K) := by
  have G_Term_init := ok_init (P := P) (w := w) (base := base) T
  have G_var : FnOk P w K mg base CX0 3 A.f_var A.d_var ["name"] (spVar A.C_Term) := ok_var T
  have G_val : FnOk P w K mg base CX0 3 A.f_val A.d_val ["value"] (spVal A.C_Term) := ok_val T
  have G_l_rounds : FnOk P w K mg base CX0 2 A.f_l_rounds A.d_l_rounds ["script", "most"] (spRounds K) := ok_rounds T
  have G_l_roll : FnOk P w K mg base CX0 1 A.f_l_roll A.d_l_roll ["dice", "many"] spRoll := ok_roll T
  have G_l_value : FnOk P w K mg base CX0 2 A.f_l_value A.d_l_value ["dice"] spValue := ok_value T
  have G_l_less : FnOk P w K mg base CX0 1 A.f_l_less A.d_l_less ["one", "other"] spLess := ok_less T
  have G_holds_between : FnOk P w K mg base CX0 3 A.f_holds_between A.d_holds_between ["sign", "one", "other"] spHolds := ok_holds T
  have G_Rule_init : FnOk P w K mg base CX0 3 A.f_Rule_init A.d_Rule_init ["self", "name", "terms", "body", "summed"] (spRuleInit A) := ok_rule_init T
  have G_pos : FnOk P w K mg base CX0 5 A.f_pos A.d_pos ["name", "terms"] (spPos A) := ok_pos T
  have G_held : FnOk P w K mg base CX0 5 A.f_held A.d_held ["sign", "one", "other"] (spHeld A) := ok_held T
  have G_let : FnOk P w K mg base CX0 5 A.f_let A.d_let ["target", "deed", "one", "other"] (spLet A) := ok_let T
  have G_solutions : FnOk P w K mg base CX0 6 A.f_solutions A.d_solutions ["rule", "order", "views", "start"] (spSol A) := ok_solutions T
  have G_Views_init : FnOk P w K mg base CX0 1 A.f_Views_init A.d_Views_init ["self", "store", "own"] (spVwInit A) := ok_vw_init T
  have G_store_of : FnOk P w K mg base CX0 4 A.f_store_of A.d_store_of ["facts"] (spStoreOf A) := ok_store_of T
  obtain ⟨dsr, hv_Rule_init, hb_Rule_init⟩ := T.bd_Rule_init
  obtain ⟨dsv, hv_Views_init, hb_Views_init⟩ := T.bd_Views_init
  obtain ⟨dss, hv_solutions, hb_solutions⟩ := T.bd_solutions
  refine T.F_law.ok sc_law (fun vs H Q E h => ?_) (fun cdv ar outer s H vs Q E hr h => ?_)
  · obtain ⟨a, ns, rfl, _⟩ := h
    rfl
  · obtain ⟨a, ns, rfl, hS, hlen, k⟩ := h
    have hu := hu_of hr
    refine ⟨_, (C8.pss_cut (ps_for PassesOwn.never rfl (listK K (pe_call G_l_rounds (hr.mono (by decide)) (by rfl) T.m_l_rounds T.F_l_rounds.kp T.b_l_rounds .nil pass0 (pa_cons (pv 0) (pa_cons pe_int pa_nil)))) (pg_name (i := 1) sc_law.nd rfl (Or.inl rfl))
        (pss_one (ps_for PassesOwn.never rfl (pi_range1 (by rfl) T.z_range (pa_cons pe_int pa_nil)) (pg_name (i := 2) sc_law.nd rfl (Or.inl rfl))
          (C8.pss_cut (ps_par (i := 3) (j := 4) (by rfl) sc_law.nd rfl rfl (by decide) rfl rfl (pa_cons (pe_call G_l_value (hr.mono (by decide)) (by rfl) T.m_l_value T.F_l_value.kp T.b_l_value .nil pass0 (pa_cons (pv 1) pa_nil)) (pa_cons (pe_call G_l_value (hr.mono (by decide)) (by rfl) T.m_l_value T.F_l_value.kp T.b_l_value .nil pass0 (pa_cons (pv 1) pa_nil)) pa_nil)) (by rfl))
          (C8.pss_cut (ps_par (i := 5) (j := 6) (by rfl) sc_law.nd rfl rfl (by decide) rfl rfl (pa_cons (pe_call G_l_less (hr.mono (by decide)) (by rfl) T.m_l_less T.F_l_less.kp T.b_l_less .nil pass0 (pa_cons (pv 3) (pa_cons (pv 4) pa_nil))) (pa_cons (pe_and (pe_cmpR op_eq (pv 3) (pv 4) (nomark _)) (pe_one (pe_cmpR op_eq (pe_callB (isiK K) (by rfl) T.z_isinstance (by decide +kernel) (pa_cons (pv 3) (pa_cons (pe_bltn (v := .ty "int") (by rfl) T.z_int (by decide +kernel) rfl) pa_nil))) (pe_callB (isiK K) (by rfl) T.z_isinstance (by decide +kernel) (pa_cons (pv 4) (pa_cons (pe_bltn (v := .ty "int") (by rfl) T.z_int (by decide +kernel) rfl) pa_nil))) (nomark _)))) pa_nil)) (by rfl))
          (C8.pss_cut (ps_set (i := 7) sc_law.nd rfl (Or.inl rfl) (pe_disp (pps_cons pe_str (pv 5) (pps_cons pe_str (pe_or (pv 5) (pe_one (pv 6))) (pps_cons pe_str (pv 6) (pps_cons pe_str (pe_not (pv 6)) pps_nil)))) (by rfl) (by rfl) (fun z => by cases z) (by decide)))
          (C8.pss_cut (ps_lock (ps_for PassesOwn.never rfl (pi_keys (pv 7)) (pg_name (i := 8) sc_law.nd rfl (Or.inl rfl))
            (C8.pss_cut (ps_if (pt_cmpR op_ne (pe_call G_holds_between (hr.mono (by decide)) (by rfl) T.m_holds_between T.F_holds_between.kp T.b_holds_between .nil pass0 (pa_cons (pv 8) (pa_cons (pv 3) (pa_cons (pv 4) pa_nil)))) (pe_dget hu (pv 7) (pv 8) (fun _ _ => rfl)) (nomark _))
              (pss_one (ps_ret pe_bl))
              pss_nil)
            (C8.pss_cut (ps_set (i := 9) sc_law.nd rfl (Or.inl rfl) (pe_make T.M_Rule G_Rule_init (hr.mono (by decide)) (by rfl) T.m_Rule hb_Rule_init hv_Rule_init pass0 (pa_cons pe_str (pa_cons (pe_lst pa_nil) (pa_cons (pe_lst (pa_cons (pe_call G_pos (hr.mono (by decide)) (by rfl) T.m_pos T.F_pos.kp T.b_pos .nil pass0 (pa_cons pe_str (pa_cons (pe_lst (pa_cons (pe_call G_var (hr.mono (by decide)) (by rfl) T.m_var T.F_var.kp T.b_var .nil pass0 (pa_cons pe_str pa_nil)) (pa_cons (pe_call G_var (hr.mono (by decide)) (by rfl) T.m_var T.F_var.kp T.b_var .nil pass0 (pa_cons pe_str pa_nil)) pa_nil))) pa_nil))) (pa_cons (pe_call G_held (hr.mono (by decide)) (by rfl) T.m_held T.F_held.kp T.b_held .nil pass0 (pa_cons (pv 8) (pa_cons (pe_call G_var (hr.mono (by decide)) (by rfl) T.m_var T.F_var.kp T.b_var .nil pass0 (pa_cons pe_str pa_nil)) (pa_cons (pe_call G_var (hr.mono (by decide)) (by rfl) T.m_var T.F_var.kp T.b_var .nil pass0 (pa_cons pe_str pa_nil)) pa_nil)))) pa_nil))) pa_nil)))))
            (pss_one (ps_if (pt_cmpR op_ne (pe_cmpR op_gt (pe_callB (lenK K) (by rfl) T.z_len (by decide +kernel) (pa_cons (pe_call G_solutions (hr.mono (by decide)) (by rfl) T.m_solutions T.F_solutions.kp hb_solutions hv_solutions pass0 (pa_cons (pv 9) (pa_cons (pe_tup (pa_cons pe_int (pa_cons pe_int pa_nil))) (pa_cons (pe_make T.M_Views G_Views_init (hr.mono (by decide)) (by rfl) T.m_Views hb_Views_init hv_Views_init pass0 (pa_cons (pe_call G_store_of (hr.mono (by decide)) (by rfl) T.m_store_of T.F_store_of.kp T.b_store_of .nil pass0 (pa_cons (pe_lst (pa_cons (pe_tup (pa_cons pe_str (pa_cons (pe_tup (pa_cons (pv 3) (pa_cons (pv 4) pa_nil))) pa_nil))) pa_nil)) pa_nil)) pa_nil)) pa_nil)))) pa_nil)) pe_int (nomark _)) (pe_dget hu (pv 7) (pv 8) (fun _ _ => rfl)) (nomark _))
              (pss_one (ps_ret pe_bl))
              pss_nil))))))
          (C8.pss_cut (ps_set (i := 10) sc_law.nd rfl (Or.inl rfl) (pe_lst (pa_cons (pe_op op_sub (pe_call G_l_roll (hr.mono (by decide)) (by rfl) T.m_l_roll T.F_l_roll.kp T.b_l_roll .nil pass0 (pa_cons (pv 1) (pa_cons pe_int pa_nil))) pe_int) (pa_cons (pe_op op_mul (pe_op op_pow pe_int pe_int) (pe_call G_l_roll (hr.mono (by decide)) (by rfl) T.m_l_roll T.F_l_roll.kp T.b_l_roll .nil pass0 (pa_cons (pv 1) (pa_cons pe_int pa_nil)))) pa_nil))))
          (C8.pss_cut (ps_set (i := 11) sc_law.nd rfl (Or.inl rfl) (pe_ix ix_str pe_str (pe_call G_l_roll (hr.mono (by decide)) (by rfl) T.m_l_roll T.F_l_roll.kp T.b_l_roll .nil pass0 (pa_cons (pv 1) (pa_cons pe_int pa_nil))) (fun _ _ => rfl)))
          (C8.pss_cut (ps_par (i := 12) (j := 13) (by rfl) sc_law.nd rfl rfl (by decide) rfl rfl (pa_cons (pe_ix (ixL K) (pe_lst (pa_cons (pe_ix (ixL K) (pv 10) pe_int (fun _ _ => rfl)) (pa_cons (pe_ix (ixL K) (pv 10) pe_int (fun _ _ => rfl)) (pa_cons pe_str pa_nil)))) (pe_call G_l_roll (hr.mono (by decide)) (by rfl) T.m_l_roll T.F_l_roll.kp T.b_l_roll .nil pass0 (pa_cons (pv 1) (pa_cons pe_int pa_nil))) (fun _ _ => rfl)) (pa_cons (pe_ix (ixL K) (pe_lst (pa_cons (pe_ix (ixL K) (pv 10) pe_int (fun _ _ => rfl)) (pa_cons (pe_ix (ixL K) (pv 10) pe_int (fun _ _ => rfl)) (pa_cons pe_int pa_nil)))) (pe_call G_l_roll (hr.mono (by decide)) (by rfl) T.m_l_roll T.F_l_roll.kp T.b_l_roll .nil pass0 (pa_cons (pv 1) (pa_cons pe_int pa_nil))) (fun _ _ => rfl)) pa_nil)) (by rfl))
          (C8.pss_cut (ps_set (i := 14) sc_law.nd rfl (Or.inl rfl) pe_non)
          (C8.pss_cut (ps_if (pt_cmpR op_ne (pv 12) pe_str (nomark _))
            (C8.pss_cut (ps_set (i := 14) sc_law.nd rfl (Or.inl rfl) (pe_ifExp (pt_cmpR op_eq (pv 11) pe_str (nomark _)) (pe_op op_add (pv 12) (pv 13)) (pe_ifExp (pt_cmpR op_eq (pv 11) pe_str (nomark _)) (pe_op op_sub (pv 12) (pv 13)) (pe_op op_mul (pv 12) (pv 13)))))
            (pss_one (ps_set (i := 14) sc_law.nd rfl (Or.inl rfl) (pe_ifExp (pt_cmpR op_lt (pe_callB absK (by rfl) T.z_abs (by decide +kernel) (pa_cons (pv 14) pa_nil)) (pe_op op_pow pe_int pe_int) (nomark _)) (pv 14) pe_non))))
            pss_nil)
          (C8.pss_cut (ps_set (i := 9) sc_law.nd rfl (Or.inl rfl) (pe_make T.M_Rule G_Rule_init (hr.mono (by decide)) (by rfl) T.m_Rule hb_Rule_init hv_Rule_init pass0 (pa_cons pe_str (pa_cons (pe_lst pa_nil) (pa_cons (pe_lst (pa_cons (pe_call G_pos (hr.mono (by decide)) (by rfl) T.m_pos T.F_pos.kp T.b_pos .nil pass0 (pa_cons pe_str (pa_cons (pe_lst (pa_cons (pe_call G_var (hr.mono (by decide)) (by rfl) T.m_var T.F_var.kp T.b_var .nil pass0 (pa_cons pe_str pa_nil)) pa_nil)) pa_nil))) (pa_cons (pe_call G_let (hr.mono (by decide)) (by rfl) T.m_let T.F_let.kp T.b_let .nil pass0 (pa_cons (pe_call G_var (hr.mono (by decide)) (by rfl) T.m_var T.F_var.kp T.b_var .nil pass0 (pa_cons pe_str pa_nil)) (pa_cons (pv 11) (pa_cons (pe_call G_var (hr.mono (by decide)) (by rfl) T.m_var T.F_var.kp T.b_var .nil pass0 (pa_cons pe_str pa_nil)) (pa_cons (pe_call G_val (hr.mono (by decide)) (by rfl) T.m_val T.F_val.kp T.b_val .nil pass0 (pa_cons (pv 13) pa_nil)) pa_nil))))) pa_nil))) pa_nil)))))
          (C8.pss_cut (ps_set (i := 15) sc_law.nd rfl (Or.inl rfl) (pe_call G_store_of (hr.mono (by decide)) (by rfl) T.m_store_of T.F_store_of.kp T.b_store_of .nil pass0 (pa_cons (pe_lst (pa_cons (pe_tup (pa_cons pe_str (pa_cons (pe_tup (pa_cons (pv 12) pa_nil)) pa_nil))) pa_nil)) pa_nil)))
          (C8.pss_cut (ps_if (pt_cmpR (neDicts K hu) (pe_callTy (listOf K) (by rfl) T.z_list (by decide +kernel) (pa_cons (pe_call G_solutions (hr.mono (by decide)) (by rfl) T.m_solutions T.F_solutions.kp hb_solutions hv_solutions pass0 (pa_cons (pv 9) (pa_cons (pe_tup (pa_cons pe_int (pa_cons pe_int pa_nil))) (pa_cons (pe_make T.M_Views G_Views_init (hr.mono (by decide)) (by rfl) T.m_Views hb_Views_init hv_Views_init pass0 (pa_cons (pv 15) pa_nil)) pa_nil)))) pa_nil)) (pe_ifExp (pt_cmpR op_isN (pv 14) pe_non (nomark _)) (pe_lst pa_nil) (pe_lst (pa_cons (pe_disp (pps_cons pe_str (pv 12) (pps_cons pe_str (pv 14) pps_nil)) (by rfl) (by rfl) (fun z => by cases z) (by decide)) pa_nil))) (nomark _))
            (pss_one (ps_ret pe_bl))
            pss_nil)
          (pss_one (ps_if (pt_cmpR (neDicts K hu) (pe_callTy (listOf K) (by rfl) T.z_list (by decide +kernel) (pa_cons (pe_call G_solutions (hr.mono (by decide)) (by rfl) T.m_solutions T.F_solutions.kp T.b_solutions .nil pass0 (pa_cons (pv 9) (pa_cons (pe_tup (pa_cons pe_int (pa_cons pe_int pa_nil))) (pa_cons (pe_make T.M_Views G_Views_init (hr.mono (by decide)) (by rfl) T.m_Views hb_Views_init hv_Views_init pass0 (pa_cons (pv 15) pa_nil)) (pa_cons (pe_disp (pps_cons pe_str pe_int pps_nil) (by rfl) (by rfl) (fun z => by cases z) (by decide)) pa_nil))))) pa_nil)) (pe_ifExp (pt_cmpR op_eq (pv 14) pe_int (nomark _)) (pe_lst (pa_cons (pe_disp (pps_cons pe_str (pv 12) (pps_cons pe_str pe_int pps_nil)) (by rfl) (by rfl) (fun z => by cases z) (by decide)) pa_nil)) (pe_lst pa_nil)) (nomark _))
            (pss_one (ps_ret pe_bl))
            pss_nil)))))))))))))))))
      (pss_one (ps_ret pe_bl))), ?_⟩
    refine ⟨fun _ _ => True, ?_, fun _ _ _ => k _⟩
    refine ⟨_, rfl, a, ns, rfl, hS, fun pd d H1 s1 npd nd ndp hd epd => ?_⟩
    refine ⟨pd, rfl, ⟨_, SqL.of epd⟩, ?_⟩
    refine for_list (K := K) (a := pd) (xs := [.ref d]) (fun i σ H' => (i = 0 ∧ σ = [some (.ref a), none, none, none, none, none, none, none, none, none, none, none, none, none, none, none] ∧ H' = H1) ∨ (i = 1 ∧ H' pd = some (.lst [.ref d]))) (.inl ⟨rfl, rfl, rfl⟩)
      (fun i σ H' _ h => by rcases h with ⟨_, _, rfl⟩ | ⟨_, h⟩; exact SqL.of epd; exact SqL.of h) ?_ (fun _ _ _ => trivial)
    rintro i v σ H0 hv hcase
    obtain ⟨rfl, rfl, rfl⟩ : i = 0 ∧ σ = [some (.ref a), none, none, none, none, none, none, none, none, none, none, none, none, none, none, none] ∧ H0 = H1 := by
      rcases hcase with h | ⟨rfl, _⟩
      · exact h
      · cases hv
    cases hv
    refine ⟨4, rfl, by decide, by decide, ?_⟩
    refine for_range (n := 4) (fun i σ H' => (∃ (v2 v3 v4 v5 v6 v7 v8 v9 v10 v11 v12 v13 v14 v15 : Option V), σ = [some (.ref a), some (.ref d), v2, v3, v4, v5, v6, v7, v8, v9, v10, v11, v12, v13, v14, v15]) ∧ Bs pd d H') ⟨⟨_, _, _, _, _, _, _, _, _, _, _, _, _, _, rfl⟩, epd, hd, ndp.symm⟩ ?_ ?_
    · rintro i σ H2 hi ⟨⟨v2, v3, v4, v5, v6, v7, v8, v9, v10, v11, v12, v13, v14, v15, rfl⟩, hB⟩
      -- one, other
      refine ⟨fun σ H' => ∃ x y : Key, x ∈ vals10 ∧ y ∈ vals10 ∧ (∃ (v2 v5 v6 v7 v8 v9 v10 v11 v12 v13 v14 v15 : Option V), σ = [some (.ref a), some (.ref d), v2, some (kV x), some (kV y), v5, v6, v7, v8, v9, v10, v11, v12, v13, v14, v15]) ∧ Bs pd d H', ?_, ?_⟩
      · refine ⟨_, rfl, d, rfl, hB.di, fun x H3 hx x3 d3 => ⟨_, rfl, d, rfl, d3, fun y H4 hy x4 d4 => ?_⟩⟩
        exact ⟨_, _, rfl, x, y, hx, hy, ⟨_, _, _, _, _, _, _, _, _, _, _, _, rfl⟩, hB.upx (x3.trans x4) d4⟩
      rintro σ H3 ⟨x, y, hx, hy, ⟨v2, v5, v6, v7, v8, v9, v10, v11, v12, v13, v14, v15, rfl⟩, hB3⟩
      have okx := ok10 hx
      have oky := ok10 hy
      -- less, alike_now
      refine ⟨fun σ H' => (∃ (v2 v7 v8 v9 v10 v11 v12 v13 v14 v15 : Option V), σ = [some (.ref a), some (.ref d), v2, some (kV x), some (kV y), some (.bl (less x y)), some (.bl (decide (x = y))), v7, v8, v9, v10, v11, v12, v13, v14, v15]) ∧ Bs pd d H', ?_, ?_⟩
      · refine ⟨_, rfl, _, rfl, x, y, rfl, _, rfl, _, rfl, scal_k x y, _, rfl, ?_⟩
        rw [dec_kV]
        by_cases e : x = y
        · rw [decide_eq_true e]
          subst e
          refine iteT ?_
          cases x with
          | inl i => exact ⟨_, rfl, _, _, _, _, true, rfl, .ty _, .base (.int i), kit_ty (by decide +kernel), _, rfl, _, _, _, _, true, rfl, .ty _, .base (.int i), kit_ty (by decide +kernel), rfl, _, _, rfl, ⟨_, _, _, _, _, _, _, _, _, _, rfl⟩, hB3⟩
          | inr s => exact ⟨_, rfl, _, _, _, _, false, rfl, .ty _, .base (.str s), kit_ty (by decide +kernel), _, rfl, _, _, _, _, false, rfl, .ty _, .base (.str s), kit_ty (by decide +kernel), rfl, _, _, rfl, ⟨_, _, _, _, _, _, _, _, _, _, rfl⟩, hB3⟩
        · rw [decide_eq_false e]
          exact iteF ⟨_, _, rfl, ⟨_, _, _, _, _, _, _, _, _, _, rfl⟩, hB3⟩
      rintro σ H4 ⟨⟨v2, v7, v8, v9, v10, v11, v12, v13, v14, v15, rfl⟩, hB4⟩
      -- due
      refine ⟨fun σ H' => ∃ du : Addr, (∃ (v2 v8 v9 v10 v11 v12 v13 v14 v15 : Option V), σ = [some (.ref a), some (.ref d), v2, some (kV x), some (kV y), some (.bl (less x y)), some (.bl (decide (x = y))), some (.ref du), v8, v9, v10, v11, v12, v13, v14, v15]) ∧ H' du = some (.dK (dueK x y)) ∧ Bs pd d H', ?_, ?_⟩
      · have fin : ∀ b : Bool, b = hb "<=" x y → ∀ p, H4 p = none → ∃ kvs : List (Key × V), [((V.str "<" : V), V.bl (less x y)), (.str "<=", .bl b), (.str "=", .bl (decide (x = y))), (.str "!=", .bl (!decide (x = y)))] = kvs.map (fun kv => (kV kv.1, kv.2)) ∧ kvs.length ≤ 15 ∧ mergeK [] kvs = dueK x y := fun b hb p hp => by
          refine ⟨dueK x y, ?_, (by show 4 ≤ 15; decide), mergeK4 _ _ _ _⟩
          rw [hb]
          unfold dueK
          rw [hb_lt, hb_eq, hb_ne]
          rfl
        refine fun p hp => ?_
        have hB' := hB4.up (same_new hp (o := .dK []))
        refine ⟨_, rfl, _, rfl, _, rfl, ?_⟩
        have hle := hb_le hx hy
        refine iteB (fun e => ?_) (fun e => ?_)
        · obtain ⟨kvs, e1, e2, e3⟩ := fin true (by rw [hle, e]; rfl) p hp
          exact ⟨_, rfl, _, rfl, _, rfl, upd_same, kvs, e1, e2, p, ⟨_, _, _, _, _, _, _, _, _, rfl⟩, by rw [e3, upd_same], by rw [upd_upd]; exact hB4.up (same_new hp)⟩
        · obtain ⟨kvs, e1, e2, e3⟩ := fin (decide (x = y)) (by rw [hle, e]; rfl) p hp
          exact ⟨_, rfl, _, rfl, _, rfl, _, rfl, upd_same, kvs, e1, e2, p, ⟨_, _, _, _, _, _, _, _, _, rfl⟩, by rw [e3, upd_same], by rw [upd_upd]; exact hB4.up (same_new hp)⟩
      rintro σ H5 ⟨du, ⟨v2, v8, v9, v10, v11, v12, v13, v14, v15, rfl⟩, edu, hB5⟩
      -- the signs
      refine ⟨fun σ H' => (∃ (v2 v5 v6 v7 v8 v9 v10 v11 v12 v13 v14 v15 : Option V), σ = [some (.ref a), some (.ref d), v2, some (kV x), some (kV y), v5, v6, v7, v8, v9, v10, v11, v12, v13, v14, v15]) ∧ Bs pd d H', ?_, ?_⟩
      · refine ⟨du, _, edu, trivial, fun od => ?_⟩
        have hB6 : Bs pd d (upd H5 du (.frz od (.dK (dueK x y)))) := by
          have n1 : pd ≠ du := ne_of hB5.l edu (fun z => nomatch z)
          have n2 : d ≠ du := by
            obtain ⟨u, v, z, e⟩ := hB5.di
            exact ne_of e edu (fun z => nomatch z)
          exact ⟨by rw [upd_ne n1]; exact hB5.l, hB5.di.up1 n2, hB5.n⟩
        refine ⟨_, rfl, du, od, rfl, .inl ⟨dueK x y, upd_same, ?_⟩⟩
        refine for_it (walk_keys (kvs := dueK x y)) (fun i σ H' => (∃ (v2 v5 v6 v8 v9 v10 v11 v12 v13 v14 v15 : Option V), σ = [some (.ref a), some (.ref d), v2, some (kV x), some (kV y), v5, v6, some (.ref du), v8, v9, v10, v11, v12, v13, v14, v15]) ∧ H' du = some (.frz od (.dK (dueK x y))) ∧ Bs pd d H')
          ⟨⟨_, _, _, _, _, _, _, _, _, _, _, rfl⟩, upd_same, hB6⟩ (fun i σ H' _ h => h.2.1) ?_ ?_
        · rintro i v σ H6 H6' hi ⟨⟨v2, v5, v6, v8, v9, v10, v11, v12, v13, v14, v15, rfl⟩, edu6, hB6⟩ ⟨rfl, sk, vb, hsk, rfl⟩
          obtain ⟨sg, rfl, hin, hs9, hsok, hval⟩ := dueK_at hsk
          have dg : ∀ {H' : Hp}, H' du = some (.frz od (.dK (dueK x y))) → DGet H' du (.str sg) (some (.bl (hb sg x y))) := fun e => by
            have z : DGet _ du (.str sg) (valV (dueK x y) (Sum.inr sg)) := .inl ⟨_, Sum.inr sg, .inr ⟨od, e⟩, rfl, rfl⟩
            rw [hval] at z
            exact z
          -- held as it is due
          refine ⟨fun σ H' => (∃ (v2 v5 v6 v9 v10 v11 v12 v13 v14 v15 : Option V), σ = [some (.ref a), some (.ref d), v2, some (kV x), some (kV y), v5, v6, some (.ref du), some (.str sg), v9, v10, v11, v12, v13, v14, v15]) ∧ H' du = some (.frz od (.dK (dueK x y))) ∧ Bs pd d H', ?_, ?_⟩
          · refine ⟨_, rfl, _, rfl, _, rfl, sg, x, y, rfl, okx, oky, fun H7 s7 => ⟨_, rfl, _, rfl, du, _, rfl, dg (s7 _ _ edu6), rfl, _, rfl, ?_⟩⟩
            rw [decide_eq_true rfl]
            exact iteF ⟨⟨_, _, _, _, _, _, _, _, _, _, rfl⟩, s7 _ _ edu6, hB6.up s7⟩
          rintro σ H7 ⟨⟨v2, v5, v6, v9, v10, v11, v12, v13, v14, v15, rfl⟩, edu7, hB7⟩
          -- the rule
          refine ⟨fun σ H' => ∃ ru : Addr, (∃ (v2 v5 v6 v10 v11 v12 v13 v14 v15 : Option V), σ = [some (.ref a), some (.ref d), v2, some (kV x), some (kV y), v5, v6, some (.ref du), some (.str sg), some (.ref ru), v10, v11, v12, v13, v14, v15]) ∧ RuleAt A H' ru (rA sg) ∧ H' du = some (.frz od (.dK (dueK x y))) ∧ Bs pd d H', ?_, ?_⟩
          · refine ⟨Nat.zero_le _, fun l1 hl1 => ⟨"X", rfl, fun x1 Ha n1 h1 s1 => ⟨"Y", rfl, fun x2 Hb n2 h2 s2 => ⟨(by show 2 ≤ sizeLine; decide), fun l2 hl2 => ?_⟩⟩⟩⟩
            have t2 := s2.trans (same_new hl2 (o := .lst [.ref x1, .ref x2]))
            refine ⟨"e", l2, [.inl "X", .inl "Y"], rfl, ⟨[x1, x2], upd_same, .cons (TmAt.up h1 t2) (.cons (TmAt.up h2 (same_new hl2)) .nil)⟩, wfXY, fun p1 Hc np1 hp1 s3 => ?_⟩
            refine ⟨_, rfl, "X", rfl, fun x3 Hd n3 h3 s4 => ⟨"Y", rfl, fun x4 He n4 h4 s5 => ?_⟩⟩
            refine ⟨sg, x3, x4, .inl "X", .inl "Y", rfl, TmAt.up h3 s5, h4, wfXY, hin, fun p2 Hf np2 hp2 s6 => ?_⟩
            have t6 := s4.trans (s5.trans s6)
            refine ⟨(by show 2 ≤ sizeLine; decide), fun l5 hl5 x dx nx ndx nex => ?_⟩
            have t0 := (same_new hl1 (o := .lst [])).trans (s1.trans (t2.trans (s3.trans (t6.trans (same_new hl5 (o := .lst [.ref p1, .ref p2]))))))
            have sm := made_keep (C := A.C_Rule) nx ndx
            have el1 := (s1.trans (t2.trans (s3.trans (t6.trans (same_new hl5 (o := .lst [.ref p1, .ref p2])))))) _ _ (upd_same (H := H7) (a := l1) (o := .lst []))
            refine ⟨x, dx, l1, l5, "h", .non, false, [], (rA sg).body, [p1, p2], rfl, upd_same, ⟨[], sm _ _ el1, .nil⟩, sm _ _ upd_same, .cons ((hp1.up (t6.trans (same_new hl5))).up sm) (.cons ((hp2.up (same_new hl5)).up sm) .nil), (wfA hs9 hsok).ts, (wfA hs9 hsok).body, .inl ⟨rfl, rfl⟩, fun H' hR hX => ⟨rfl, x, ⟨_, _, _, _, _, _, _, _, _, rfl⟩, hR, ?_, ?_⟩⟩
            · exact made_same nx ndx hX _ _ (t0 _ _ edu7)
            · exact hB7.up (t0.trans (made_same nx ndx hX))
          rintro σ H8 ⟨ru, ⟨v2, v5, v6, v10, v11, v12, v13, v14, v15, rfl⟩, hR8, edu8, hB8⟩
          -- asked
          refine ⟨_, rfl, (by show 2 ≤ sizeLine; decide), fun od2 hod => ?_⟩
          refine ⟨_, rfl, _, rfl, (by show 2 ≤ sizeLine; decide), fun q hq => ⟨(by show 2 ≤ sizeLine; decide), fun p hp => ⟨(by show 1 ≤ sizeLine; decide), fun l hl => ?_⟩⟩⟩
          have u1 := same_new hod (o := .tup [.int 0, .int 1])
          have u2 := same_new hq (o := .tup [kV x, kV y])
          have u3 := same_new hp (o := .tup [.str "e", .ref q])
          have u4 := same_new hl (o := .lst [.ref p])
          refine ⟨l, p, q, "e", [x, y], rfl, upd_same, u4 _ _ upd_same, u4 _ _ (u3 _ _ upd_same), fun st rel H9 s9 hst hrel => ?_⟩
          have t9 := u2.trans (u3.trans (u4.trans s9))
          refine fun v dv nv ndv nev => ⟨v, dv, st, rfl, upd_same, fun H10 hv hX => ⟨rfl, ?_⟩⟩
          have s10 := made_same nv ndv hX
          have t10 := t9.trans s10
          refine ⟨ru, od2, v, st, rel, .non, rA sg, _, _, [x, y], [], some [(Sum.inr "X", kV x), (Sum.inr "Y", kV y)], if hb sg x y = true then some [(Sum.inr "X", kV x), (Sum.inr "Y", kV y)] else none, rfl, hR8.up (u1.trans t10), wfA hs9 hsok, rfl, t10 _ _ upd_same, hv, hst.up s10, hrel.up s10, (by show 2 ≤ 20; decide), .inl ⟨rfl, rfl⟩, (fun p hp => nomatch hp), Nat.zero_le _, by show ¬ (("cmp" : Str) = "pos"); decide +kernel, ?_, (fun z => nomatch z), ?_, ?_⟩
          · have z := Wd.pos (row := [x, y]) (q := ⟨"pos", "e", [.inl "X", .inl "Y"]⟩) (k := []) rfl (fun z => nomatch z) (fun t ht => by
              rcases List.mem_cons.mp ht with rfl | ht
              · rfl
              · rw [List.mem_singleton.mp ht]
                rfl)
            have e : mat [.inl "X", .inl "Y"] ([x, y].map kV) [] = _ := matXY (kV x) (kV y)
            rw [e] at z
            exact z
          · intro k1 e
            cases e
            refine ⟨fun p hp => ?_, by show 2 ≤ 900; decide, Wd.cmp (t1 := .inl "X") (t2 := .inl "Y") (x := x) (y := y) rfl rfl rfl rfl okx oky⟩
            rcases List.mem_cons.mp hp with rfl | hp
            · cases x <;> rfl
            · rw [List.mem_singleton.mp hp]
              cases y <;> rfl
          · intro l9 H11 s11 hm
            have t11 := u1.trans (t10.trans s11)
            have edu11 := t11 _ _ edu8
            cases e : hb sg x y with
            | true =>
              rw [e, if_pos rfl] at hm
              obtain ⟨dd', _, el9, _⟩ := hm
              refine ⟨_, _, rfl, .inl (SqL.of el9), _, _, rfl, rfl, _, rfl, _, rfl, du, _, rfl, dg edu11, rfl, _, rfl, ?_⟩
              rw [e]
              exact iteF ⟨⟨_, _, _, _, _, _, _, _, _, _, _, rfl⟩, edu11, hB8.up t11⟩
            | false =>
              rw [e, if_neg (fun z => nomatch z)] at hm
              have el9 : H11 l9 = some (.lst []) := hm
              refine ⟨_, _, rfl, .inl (SqL.of el9), _, _, rfl, rfl, _, rfl, _, rfl, du, _, rfl, dg edu11, rfl, _, rfl, ?_⟩
              rw [e]
              exact iteF ⟨⟨_, _, _, _, _, _, _, _, _, _, _, rfl⟩, edu11, hB8.up t11⟩
        · rintro σ H6 ⟨⟨v2, v5, v6, v8, v9, v10, v11, v12, v13, v14, v15, rfl⟩, edu6, hB6⟩
          refine ⟨edu6, ⟨_, _, _, _, _, _, _, _, _, _, _, _, rfl⟩, ?_⟩
          have n1 : pd ≠ du := ne_of hB6.l edu6 (fun z => nomatch z)
          have n2 : d ≠ du := by
            obtain ⟨u, v, z, e⟩ := hB6.di
            exact ne_of e edu6 (fun z => nomatch z)
          exact ⟨by rw [upd_ne n1]; exact hB6.l, hB6.di.up1 n2, hB6.n⟩
      rintro σ H6 ⟨⟨v2, v5, v6, v7, v8, v9, v10, v11, v12, v13, v14, v15, rfl⟩, hB6⟩
      -- numbers
      refine ⟨fun σ H' => ∃ (nl : Addr) (n0 n1 : Int), (-10 ≤ n0 ∧ n0 ≤ 10) ∧ (0 ≤ n1 ∧ n1 ≤ 900000000000000000) ∧ (∃ (v2 v3 v4 v5 v6 v7 v8 v9 v11 v12 v13 v14 v15 : Option V), σ = [some (.ref a), some (.ref d), v2, v3, v4, v5, v6, v7, v8, v9, some (.ref nl), v11, v12, v13, v14, v15]) ∧ H' nl = some (.lst [.int n0, .int n1]) ∧ Bs pd d H', ?_, ?_⟩
      · refine ⟨_, rfl, d, 21, rfl, hB6.di, by decide, by decide, fun r1 Ha r10 r11 da fa => ?_⟩
        refine ⟨_, _, rfl, rfl, _, _, rfl, rfl, (by exact ⟨by decide, by decide, by decide⟩), ?_⟩
        refine ⟨_, rfl, d, 10, rfl, da, by decide, by decide, fun r2 Hb r20 r21 db fb => ?_⟩
        have e17 : (10 : Int) ^ (17 : Int).toNat = 100000000000000000 := by decide
        refine ⟨_, _, rfl, rfl, .inl ⟨by rw [e17]; decide, by rw [e17]; decide⟩, (by show 2 ≤ sizeLine; decide), fun l hl => ?_⟩
        have hBb : Bs pd d Hb := hB6.upx ((sx_of fa).trans (sx_of fb)) db
        exact ⟨l, _, _, ⟨by omega, by omega⟩, ⟨by rw [e17]; omega, by rw [e17]; omega⟩, ⟨_, _, _, _, _, _, _, _, _, _, _, _, _, rfl⟩, upd_same, hBb.up (same_new hl)⟩
      rintro σ H7 ⟨nl, n0, n1, hn0, hn1, ⟨v2, v3, v4, v5, v6, v7, v8, v9, v11, v12, v13, v14, v15, rfl⟩, enl, hB7⟩
      -- deed
      refine ⟨fun σ H' => ∃ dd : Str, (dd = "+" ∨ dd = "-" ∨ dd = "*") ∧ (∃ (v2 v3 v4 v5 v6 v7 v8 v9 v12 v13 v14 v15 : Option V), σ = [some (.ref a), some (.ref d), v2, v3, v4, v5, v6, v7, v8, v9, some (.ref nl), some (.str dd), v12, v13, v14, v15]) ∧ H' nl = some (.lst [.int n0, .int n1]) ∧ Bs pd d H', ?_, ?_⟩
      · refine ⟨_, rfl, d, 3, rfl, hB7.di, by decide, by decide, fun j Ha j0 j1 da fa => ?_⟩
        obtain ⟨dd, c, hdd, hat, es⟩ := sign3 j0 j1
        refine ⟨_, _, _, rfl, rfl, (by decide +kernel), hat, ?_⟩
        rw [← es]
        have nnl : nl ≠ d := by
          obtain ⟨u, v, z, e⟩ := hB7.di
          exact ne_of enl e (fun z => nomatch z)
        exact ⟨dd, hdd, ⟨_, _, _, _, _, _, _, _, _, _, _, _, rfl⟩, sx_of fa _ _ enl nnl, hB7.upx (sx_of fa) da⟩
      rintro σ H8 ⟨dd, hdd, ⟨v2, v3, v4, v5, v6, v7, v8, v9, v12, v13, v14, v15, rfl⟩, enl8, hB8⟩
      -- first, second
      refine ⟨fun σ H' => ∃ (f : Key) (z : Int), (f = .inr "a" ∨ ∃ i, f = .inl i ∧ -10 ≤ i ∧ i ≤ 900000000000000000) ∧ (-10 ≤ z ∧ z ≤ 900000000000000000) ∧ (∃ (v2 v3 v4 v5 v6 v7 v8 v9 v10 v14 v15 : Option V), σ = [some (.ref a), some (.ref d), v2, v3, v4, v5, v6, v7, v8, v9, v10, some (.str dd), some (kV f), some (.int z), v14, v15]) ∧ Bs pd d H', ?_, ?_⟩
      · refine ⟨_, rfl, nl, _, _, _, rfl, rfl, SqL.of enl8, atI_nat (j := 0) rfl, _, rfl, nl, _, _, _, rfl, rfl, SqL.of enl8, atI_nat (j := 1) rfl, (by show 3 ≤ sizeLine; decide), fun l hl => ?_⟩
        have hB8' := hB8.up (same_new hl (o := .lst [.int n0, .int n1, .str "a"]))
        have enl9 := same_new hl (o := .lst [.int n0, .int n1, .str "a"]) _ _ enl8
        refine ⟨_, rfl, d, 3, rfl, hB8'.di, by decide, by decide, fun j Ha j0 j1 da fa => ?_⟩
        have ndl : l ≠ d := (hB8.di.ne hl).symm
        have nnl : nl ≠ d := by
          obtain ⟨u, v, z, e⟩ := hB8.di
          exact ne_of enl8 e (fun z => nomatch z)
        obtain ⟨f, hf, hat⟩ := first3 (n0 := n0) (n1 := n1) hn0 hn1 j0 j1
        refine ⟨l, _, _, _, rfl, rfl, SqL.of (by rw [fa l ndl, upd_same]), hat, ?_⟩
        have enl10 := sx_of fa _ _ enl9 nnl
        refine ⟨_, rfl, nl, _, _, _, rfl, rfl, SqL.of enl10, atI_nat (j := 1) rfl, _, rfl, nl, _, _, _, rfl, rfl, SqL.of enl10, atI_nat (j := 0) rfl, (by show 3 ≤ sizeLine; decide), fun m hm => ?_⟩
        have hBa := hB8'.upx (sx_of fa) da
        have hBm := hBa.up (same_new hm (o := .lst [.int n1, .int n0, .int 7]))
        refine ⟨_, rfl, d, 3, rfl, hBm.di, by decide, by decide, fun j' Hb j0' j1' db fb => ?_⟩
        have ndm : m ≠ d := (hBa.di.ne hm).symm
        obtain ⟨z, hz, hat'⟩ := second3 (n0 := n0) (n1 := n1) hn0 hn1 j0' j1'
        refine ⟨m, _, _, _, rfl, rfl, SqL.of (by rw [fb m ndm, upd_same]), hat', ?_⟩
        exact ⟨_, _, rfl, f, z, hf, hz, ⟨_, _, _, _, _, _, _, _, _, _, _, rfl⟩, hBm.upx (sx_of fb) db⟩
      rintro σ H9 ⟨f, z, hf, hz, ⟨v2, v3, v4, v5, v6, v7, v8, v9, v10, v14, v15, rfl⟩, hB9⟩
      have hfs : kSmall f := by
        rcases hf with rfl | ⟨i, rfl, h1, h2⟩
        · trivial
        · exact ⟨by omega, by omega⟩
      -- made
      refine ⟨fun σ H' => (∃ (v2 v3 v4 v5 v6 v7 v8 v9 v10 v15 : Option V), σ = [some (.ref a), some (.ref d), v2, v3, v4, v5, v6, v7, v8, v9, v10, some (.str dd), some (kV f), some (.int z), some .non, v15]) ∧ Bs pd d H', ⟨⟨_, _, _, _, _, _, _, _, _, _, rfl⟩, hB9⟩, ?_⟩
      rintro σ H10 ⟨⟨v2, v3, v4, v5, v6, v7, v8, v9, v10, v15, rfl⟩, hB10⟩
      refine ⟨fun σ H' => (∃ (v2 v3 v4 v5 v6 v7 v8 v9 v10 v15 : Option V), σ = [some (.ref a), some (.ref d), v2, v3, v4, v5, v6, v7, v8, v9, v10, some (.str dd), some (kV f), some (.int z), some (rk dd f (.inl z)), v15]) ∧ Bs pd d H', ?_, ?_⟩
      · rcases hf with rfl | ⟨i, rfl, h1, h2⟩
        · have e : (!decide ((V.str "a" : V) = .str "a")) = false := by rw [decide_eq_true rfl]; rfl
          refine ⟨_, rfl, rfl, _, rfl, ?_⟩
          show (if (!decide ((V.str "a" : V) = .str "a")) = true then _ else _)
          rw [e]
          exact iteF ⟨⟨_, _, _, _, _, _, _, _, _, _, rfl⟩, hB10⟩
        · refine ⟨_, rfl, rfl, _, rfl, iteT ?_⟩
          refine ⟨fun σ H' => (∃ (v2 v3 v4 v5 v6 v7 v8 v9 v10 v15 : Option V), σ = [some (.ref a), some (.ref d), v2, v3, v4, v5, v6, v7, v8, v9, v10, some (.str dd), some (.int i), some (.int z), some (.int (zz dd i z)), v15]) ∧ Bs pd d H', ?_, ?_⟩
          · refine ⟨_, rfl, rfl, _, rfl, ?_⟩
            rw [dec_str]
            unfold zz
            refine iteD (fun e1 => ?_) (fun e1 => ?_)
            · rw [if_pos e1]
              exact ⟨_, rfl, _, rfl, _, _, rfl, rfl, ⟨_, _, _, _, _, _, _, _, _, _, rfl⟩, hB10⟩
            · rw [if_neg e1]
              refine ⟨_, rfl, rfl, _, rfl, ?_⟩
              rw [dec_str]
              refine iteD (fun e2 => ?_) (fun e2 => ?_)
              · rw [if_pos e2]
                exact ⟨_, rfl, _, rfl, _, _, rfl, rfl, ⟨_, _, _, _, _, _, _, _, _, _, rfl⟩, hB10⟩
              · rw [if_neg e2]
                exact ⟨_, rfl, _, rfl, _, _, rfl, rfl, .inl ⟨by omega, by omega⟩, ⟨_, _, _, _, _, _, _, _, _, _, rfl⟩, hB10⟩
          · rintro σ H11 ⟨⟨v2, v3, v4, v5, v6, v7, v8, v9, v10, v15, rfl⟩, hB11⟩
            refine ⟨_, rfl, _, rfl, _, _, rfl, rfl, (by exact ⟨by decide, by decide, by decide⟩), _, _, rfl, rfl, _, rfl, ?_⟩
            have e18 : (10 : Int) ^ (18 : Int).toNat = 1000000000000000000 := by decide
            refine iteD (fun h => ?_) (fun h => ?_)
            · have e : rk dd (.inl i) (.inl z) = .int (zz dd i z) := (bnd_abs _).1 (by rw [← e18]; exact h)
              rw [e]
              exact ⟨_, rfl, ⟨_, _, _, _, _, _, _, _, _, _, rfl⟩, hB11⟩
            · have e : rk dd (.inl i) (.inl z) = .non := (bnd_abs _).2 (by rw [← e18]; exact h)
              rw [e]
              exact ⟨⟨_, _, _, _, _, _, _, _, _, _, rfl⟩, hB11⟩
      rintro σ H11 ⟨⟨v2, v3, v4, v5, v6, v7, v8, v9, v10, v15, rfl⟩, hB11⟩
      -- the rule that reckons
      refine ⟨fun σ H' => ∃ ru : Addr, (∃ (v2 v3 v4 v5 v6 v7 v8 v10 v15 : Option V), σ = [some (.ref a), some (.ref d), v2, v3, v4, v5, v6, v7, v8, some (.ref ru), v10, some (.str dd), some (kV f), some (.int z), some (rk dd f (.inl z)), v15]) ∧ RuleAt A H' ru (rB dd z) ∧ Bs pd d H', ?_, ?_⟩
      · refine ⟨Nat.zero_le _, fun l1 hl1 => ⟨"X", rfl, fun x1 Ha n1 h1 s1 => ⟨(by show 1 ≤ sizeLine; decide), fun l2 hl2 => ?_⟩⟩⟩
        refine ⟨"e", l2, [.inl "X"], rfl, ⟨[x1], upd_same, .cons (TmAt.up h1 (same_new hl2)) .nil⟩, wfX, fun p1 Hc np1 hp1 s3 => ?_⟩
        refine ⟨"N", rfl, fun x2 Hd n2 h2 s4 => ⟨_, rfl, "X", rfl, fun x3 He n3 h3 s5 => ⟨_, rfl, .int z, rfl, fun x4 Hf n4 h4 s6 => ?_⟩⟩⟩
        refine ⟨dd, "N", x2, x3, x4, .inl "X", .inr z, rfl, TmAt.up h2 (s5.trans s6), TmAt.up h3 s6, h4, wfN z, deed_in hdd, fun p2 Hg np2 hp2 s7 => ?_⟩
        have t7 := s4.trans (s5.trans (s6.trans s7))
        refine ⟨(by show 2 ≤ sizeLine; decide), fun l5 hl5 x0 dx nx ndx nex => ?_⟩
        have t1 := s1.trans ((same_new hl2 (o := .lst [.ref x1])).trans (s3.trans (t7.trans (same_new hl5 (o := .lst [.ref p1, .ref p2])))))
        have t0 := (same_new hl1 (o := .lst [])).trans t1
        have sm := made_keep (C := A.C_Rule) nx ndx
        have el1 := t1 _ _ (upd_same (H := H11) (a := l1) (o := .lst []))
        exact ⟨x0, dx, l1, l5, "h", .non, false, [], (rB dd z).body, [p1, p2], rfl, upd_same, ⟨[], sm _ _ el1, .nil⟩, sm _ _ upd_same, .cons ((hp1.up (t7.trans (same_new hl5))).up sm) (.cons ((hp2.up (same_new hl5)).up sm) .nil), (wfB hdd z).ts, (wfB hdd z).body, .inl ⟨rfl, rfl⟩, fun H' hR hX => ⟨rfl, x0, ⟨_, _, _, _, _, _, _, _, _, rfl⟩, hR, hB11.up (t0.trans (made_same nx ndx hX))⟩⟩
      rintro σ H12 ⟨ru, ⟨v2, v3, v4, v5, v6, v7, v8, v10, v15, rfl⟩, hR12, hB12⟩
      -- the store
      refine ⟨fun σ H' => ∃ st rel : Addr, (∃ (v2 v3 v4 v5 v6 v7 v8 v10 : Option V), σ = [some (.ref a), some (.ref d), v2, v3, v4, v5, v6, v7, v8, some (.ref ru), v10, some (.str dd), some (kV f), some (.int z), some (rk dd f (.inl z)), some (.ref st)]) ∧ RuleAt A H' ru (rB dd z) ∧ StoreAt A H' st "e" rel ∧ RelAt A H' rel [[f]] ∧ Bs pd d H', ?_, ?_⟩
      · refine ⟨_, rfl, (by show 1 ≤ sizeLine; decide), fun q hq => ⟨(by show 2 ≤ sizeLine; decide), fun p hp => ⟨(by show 1 ≤ sizeLine; decide), fun l hl => ?_⟩⟩⟩
        have u2 := same_new hq (o := .tup [kV f])
        have u3 := same_new hp (o := .tup [.str "e", .ref q])
        have u4 := same_new hl (o := .lst [.ref p])
        refine ⟨l, p, q, "e", [f], rfl, upd_same, u4 _ _ upd_same, u4 _ _ (u3 _ _ upd_same), fun st rel H9 s9 hst hrel => ?_⟩
        have t9 := u2.trans (u3.trans (u4.trans s9))
        exact ⟨st, rel, ⟨_, _, _, _, _, _, _, _, rfl⟩, hR12.up t9, hst, hrel, hB12.up t9⟩
      rintro σ H13 ⟨st, rel, ⟨v2, v3, v4, v5, v6, v7, v8, v10, rfl⟩, hR13, hst13, hrel13, hB13⟩
      -- asked from nothing
      refine ⟨fun σ H' => (∃ (v2 v3 v4 v5 v6 v7 v8 v10 : Option V), σ = [some (.ref a), some (.ref d), v2, v3, v4, v5, v6, v7, v8, some (.ref ru), v10, some (.str dd), some (kV f), some (.int z), some (rk dd f (.inl z)), some (.ref st)]) ∧ RuleAt A H' ru (rB dd z) ∧ StoreAt A H' st "e" rel ∧ RelAt A H' rel [[f]] ∧ Bs pd d H', ?_, ?_⟩
      · refine ⟨_, rfl, (by show 2 ≤ sizeLine; decide), fun od2 hod => ?_⟩
        have u1 := same_new hod (o := .tup [.int 0, .int 1])
        refine ⟨_, rfl, fun v dv nv ndv nev => ⟨v, dv, st, rfl, upd_same, fun H14 hv hX => ⟨rfl, ?_⟩⟩⟩
        have s14 := made_same nv ndv hX
        have t14 := u1.trans s14
        refine ⟨ru, od2, v, st, rel, .non, rB dd z, _, _, [f], [], some [(Sum.inr "X", kV f)], roB f (rk dd f (.inl z)), rfl, hR13.up t14, wfB hdd z, rfl, s14 _ _ upd_same, hv, hst13.up t14, hrel13.up t14, (by show 1 ≤ 20; decide), .inl ⟨rfl, rfl⟩, (fun p hp => nomatch hp), Nat.zero_le _, by show ¬ (("let" : Str) = "pos"); decide +kernel, ?_, (fun z => nomatch z), ?_, ?_⟩
        · exact askX f [] rfl
        · intro k1 e
          cases e
          refine ⟨fun p hp => ?_, by show 1 ≤ 900; decide, ?_⟩
          · rw [List.mem_singleton.mp hp]
            cases f <;> rfl
          · have z' := Wd.lett (row := [f]) (q := ⟨"let", dd, [.inl "N", .inl "X", .inr z]⟩) (k := [(Sum.inr "X", kV f)]) (n := "N") (t1 := .inl "X") (t2 := .inr z) (x := f) (y := .inl z) rfl rfl rfl rfl hfs ⟨by omega, by omega⟩
            have e : ro ⟨"let", dd, [.inl "N", .inl "X", .inr z]⟩ [(Sum.inr "X", kV f)] f (.inl z) = roB f (rk dd f (.inl z)) := by
              unfold ro
              rcases rk_cases dd f (.inl z) with e | ⟨m, e⟩
              · rw [e]; rfl
              · rw [e]; rfl
            rw [e] at z'
            exact z'
        · intro l9 H15 s15 hm
          have t15 := t14.trans s15
          rcases rk_cases dd f (.inl z) with e | ⟨m, e⟩
          · rw [e] at hm ⊢
            have el : H15 l9 = some (.lst []) := hm
            refine ⟨l9, [], rfl, .inl (SqL.of el), fun lc hlc => ?_⟩
            refine ⟨_, rfl, rfl, _, rfl, iteT ⟨Nat.zero_le _, fun ld hld => ⟨lc, ld, rfl, rfl, ⟨_, rfl, iteF ⟨⟨_, _, _, _, _, _, _, _, rfl⟩, ?_⟩⟩, .inl ⟨same_new hld _ _ upd_same, upd_same⟩⟩⟩⟩
            have tz := t15.trans ((same_new hlc (o := .lst [])).trans (same_new hld (o := .lst [])))
            exact ⟨hR13.up tz, hst13.up tz, hrel13.up tz, hB13.up tz⟩
          · rw [e] at hm ⊢
            obtain ⟨d', nd', el, ed'⟩ := hm
            refine ⟨l9, [.ref d'], rfl, .inl (SqL.of el), fun lc hlc => ?_⟩
            refine ⟨_, rfl, rfl, _, rfl, iteF fun pz hpz => ⟨_, rfl, _, rfl, upd_same, [(Sum.inr "X", kV f), (Sum.inr "N", .int m)], rfl, (by show 2 ≤ 15; decide), (by show 1 ≤ sizeLine; decide), fun ld hld => ?_⟩⟩
            rw [upd_upd] at hld ⊢
            have v1 := same_new hlc (o := .lst [.ref d'])
            have v2 := same_new hpz (o := .dK (mergeK [] [((Sum.inr "X" : Key), kV f), (Sum.inr "N", V.int m)]))
            have v3 := same_new hld (o := .lst [.ref pz])
            have tz := t15.trans (v1.trans (v2.trans v3))
            have ed2 := v1 _ _ ed'
            refine ⟨lc, ld, rfl, rfl, ⟨_, rfl, iteF ⟨⟨_, _, _, _, _, _, _, _, rfl⟩, hR13.up tz, hst13.up tz, hrel13.up tz, hB13.up tz⟩⟩, .inr ⟨d', pz, _, _, v3 _ _ (v2 _ _ upd_same), upd_same, ne_of_none ed2 hpz, v3 _ _ (v2 _ _ ed2), v3 _ _ upd_same, rfl, fun p hp => ?_⟩⟩
            rcases List.mem_cons.mp hp with rfl | hp
            · exact ⟨rfl, by cases f <;> rfl⟩
            · rw [List.mem_singleton.mp hp]
              exact ⟨rfl, rfl⟩
      rintro σ H14 ⟨⟨v2, v3, v4, v5, v6, v7, v8, v10, rfl⟩, hR14, hst14, hrel14, hB14⟩
      -- asked from a five
      refine ⟨_, rfl, (by show 2 ≤ sizeLine; decide), fun od2 hod => ?_⟩
      have u1 := same_new hod (o := .tup [.int 0, .int 1])
      refine ⟨_, rfl, fun v dv nv ndv nev => ⟨v, dv, st, rfl, upd_same, fun H15 hv hX => ⟨rfl, ?_⟩⟩⟩
      have s15 := made_same nv ndv hX
      refine fun k5 hk5 => ⟨upd_same, [(Sum.inr "N", .int 5)], rfl, (by show 1 ≤ 15; decide), ?_⟩
      rw [upd_upd]
      have s16 := same_new hk5 (o := .dK (mergeK [] [((Sum.inr "N" : Key), V.int 5)]))
      have t14 := u1.trans (s15.trans s16)
      refine ⟨ru, od2, v, st, rel, .ref k5, rB dd z, _, _, [f], [(Sum.inr "N", .int 5)], some [(Sum.inr "N", .int 5), (Sum.inr "X", kV f)], roC f (rk dd f (.inl z)), rfl, hR14.up t14, wfB hdd z, rfl, s16 _ _ (s15 _ _ upd_same), hv.up s16, hst14.up t14, hrel14.up t14, (by show 1 ≤ 20; decide), .inr ⟨k5, rfl, upd_same⟩, (fun p hp => by rw [List.mem_singleton.mp hp]; rfl), (by show 1 ≤ 900; decide), by show ¬ (("let" : Str) = "pos"); decide +kernel, ?_, (fun z => nomatch z), ?_, ?_⟩
      · exact askX f [(Sum.inr "N", .int 5)] rfl
      · intro k1 e
        cases e
        refine ⟨fun p hp => ?_, by show 2 ≤ 900; decide, ?_⟩
        · rcases List.mem_cons.mp hp with rfl | hp
          · rfl
          · rw [List.mem_singleton.mp hp]
            cases f <;> rfl
        · have z' := Wd.lett (row := [f]) (q := ⟨"let", dd, [.inl "N", .inl "X", .inr z]⟩) (k := [(Sum.inr "N", .int 5), (Sum.inr "X", kV f)]) (n := "N") (t1 := .inl "X") (t2 := .inr z) (x := f) (y := .inl z) rfl rfl rfl rfl hfs ⟨by omega, by omega⟩
          have e : ro ⟨"let", dd, [.inl "N", .inl "X", .inr z]⟩ [(Sum.inr "N", .int 5), (Sum.inr "X", kV f)] f (.inl z) = roC f (rk dd f (.inl z)) := by
            unfold ro
            rcases rk_cases dd f (.inl z) with e | ⟨m, e⟩
            · rw [e]; rfl
            · rw [e]
              show (if (V.int 5 : V) = .int m then _ else _) = if m = 5 then _ else _
              by_cases h : m = 5
              · rw [if_pos h, if_pos (by rw [h])]
                rfl
              · rw [if_neg h, if_neg (fun q => h (by injection q with q; exact q.symm))]
          rw [e] at z'
          exact z'
      · intro l9 H17 s17 hm
        have t15 := t14.trans s17
        rcases rk_cases dd f (.inl z) with e | ⟨m, e⟩
        · rw [e] at hm ⊢
          have el : H17 l9 = some (.lst []) := hm
          refine ⟨l9, [], rfl, .inl (SqL.of el), fun lc hlc => ?_⟩
          refine ⟨_, rfl, rfl, _, rfl, iteF ⟨Nat.zero_le _, fun ld hld => ⟨lc, ld, rfl, rfl, ⟨_, rfl, iteF ⟨⟨_, _, _, _, _, _, _, _, _, _, _, _, _, _, rfl⟩, ?_⟩⟩, .inl ⟨same_new hld _ _ upd_same, upd_same⟩⟩⟩⟩
          exact hB14.up (t15.trans ((same_new hlc (o := .lst [])).trans (same_new hld (o := .lst []))))
        · rw [e] at hm ⊢
          by_cases h : m = 5
          · subst h
            obtain ⟨d', nd', el, ed'⟩ := (show ManyAt _ H17 l9 (some [(Sum.inr "N", .int 5), (Sum.inr "X", kV f)]) from hm)
            refine ⟨l9, [.ref d'], rfl, .inl (SqL.of el), fun lc hlc => ?_⟩
            refine ⟨_, rfl, rfl, _, rfl, ?_⟩
            rw [decide_eq_true rfl]
            refine iteT fun pz hpz => ⟨_, rfl, upd_same, [(Sum.inr "X", kV f), (Sum.inr "N", .int 5)], rfl, (by show 2 ≤ 15; decide), (by show 1 ≤ sizeLine; decide), fun ld hld => ?_⟩
            rw [upd_upd] at hld ⊢
            have v1 := same_new hlc (o := .lst [.ref d'])
            have v2 := same_new hpz (o := .dK (mergeK [] [((Sum.inr "X" : Key), kV f), (Sum.inr "N", V.int 5)]))
            have v3 := same_new hld (o := .lst [.ref pz])
            have tz := t15.trans (v1.trans (v2.trans v3))
            have ed2 := v1 _ _ ed'
            refine ⟨lc, ld, rfl, rfl, ⟨_, rfl, iteF ⟨⟨_, _, _, _, _, _, _, _, _, _, _, _, _, _, rfl⟩, hB14.up tz⟩⟩, .inr ⟨d', pz, _, _, v3 _ _ (v2 _ _ upd_same), upd_same, ne_of_none ed2 hpz, v3 _ _ (v2 _ _ ed2), v3 _ _ upd_same, rfl, fun p hp => ?_⟩⟩
            rcases List.mem_cons.mp hp with rfl | hp
            · exact ⟨rfl, rfl⟩
            · rw [List.mem_singleton.mp hp]
              exact ⟨rfl, by cases f <;> rfl⟩
          · have e5 : roC f (.int m) = none := if_neg h
            rw [e5] at hm
            have el : H17 l9 = some (.lst []) := hm
            refine ⟨l9, [], rfl, .inl (SqL.of el), fun lc hlc => ?_⟩
            refine ⟨_, rfl, rfl, _, rfl, ?_⟩
            rw [decide_eq_false (fun q => h (by injection q))]
            refine iteF ⟨Nat.zero_le _, fun ld hld => ⟨lc, ld, rfl, rfl, ⟨_, rfl, iteF ⟨⟨_, _, _, _, _, _, _, _, _, _, _, _, _, _, rfl⟩, ?_⟩⟩, .inl ⟨same_new hld _ _ upd_same, upd_same⟩⟩⟩
            exact hB14.up (t15.trans ((same_new hlc (o := .lst [])).trans (same_new hld (o := .lst []))))
    · rintro σ H' ⟨_, hB⟩
      exact .inr ⟨rfl, hB.l⟩
end
end Toy

set_option Elab.async false
set_option maxRecDepth 100000
set_option maxHeartbeats 4000000
namespace Toy
open PySem L2
/-! ### the end
-/
theorem all_mk {l : PySem.W.OpenLaw} {w : World} {K : PySem.W.Frag} {h : Heap} {mg : Str → Option Value} {fa : Addr} (X : K.In h) (G : h.Ns mainGlobals mg) (hfa : mg "law" = some (.ref fa))
    {C_Term : Addr}
    {C_Literal : Addr}
    {C_Rule : Addr}
    {C_Views : Addr}
    {C_Relation : Addr}
    {C_Store : Addr}
    {f_Term_init : Addr} {oc_Term_init kV_Term_init dc_Term_init pm_Term_init cd_Term_init ct_Term_init dV_Term_init : Value} {od_Term_init an_Term_init : Option Addr} {sl_Term_init : Array (Option Value)}
    {f_Term_is_variable : Addr} {oc_Term_is_variable kV_Term_is_variable dc_Term_is_variable pm_Term_is_variable cd_Term_is_variable ct_Term_is_variable : Value} {od_Term_is_variable an_Term_is_variable : Option Addr} {sl_Term_is_variable : Array (Option Value)}
    {f_Term_under : Addr} {oc_Term_under kV_Term_under dc_Term_under pm_Term_under cd_Term_under ct_Term_under : Value} {od_Term_under an_Term_under : Option Addr} {sl_Term_under : Array (Option Value)}
    {f_Term_known : Addr} {oc_Term_known kV_Term_known dc_Term_known pm_Term_known cd_Term_known ct_Term_known : Value} {od_Term_known an_Term_known : Option Addr} {sl_Term_known : Array (Option Value)}
    {f_var : Addr} {oc_var kV_var dc_var pm_var cd_var ct_var : Value} {od_var an_var : Option Addr} {sl_var : Array (Option Value)}
    {f_val : Addr} {oc_val kV_val dc_val pm_val cd_val ct_val : Value} {od_val an_val : Option Addr} {sl_val : Array (Option Value)}
    {f_is_number : Addr} {oc_is_number kV_is_number dc_is_number pm_is_number cd_is_number ct_is_number : Value} {od_is_number an_is_number : Option Addr} {sl_is_number : Array (Option Value)}
    {f_value_key : Addr} {oc_value_key kV_value_key dc_value_key pm_value_key cd_value_key ct_value_key : Value} {od_value_key an_value_key : Option Addr} {sl_value_key : Array (Option Value)}
    {f_names_in : Addr} {oc_names_in kV_names_in dc_names_in pm_names_in cd_names_in ct_names_in : Value} {od_names_in an_names_in : Option Addr} {sl_names_in : Array (Option Value)}
    {f_matched : Addr} {oc_matched kV_matched dc_matched pm_matched cd_matched ct_matched : Value} {od_matched an_matched : Option Addr} {sl_matched : Array (Option Value)}
    {f_pattern : Addr} {oc_pattern kV_pattern dc_pattern pm_pattern cd_pattern ct_pattern : Value} {od_pattern an_pattern : Option Addr} {sl_pattern : Array (Option Value)}
    {f_Literal_init : Addr} {oc_Literal_init kV_Literal_init dc_Literal_init pm_Literal_init cd_Literal_init ct_Literal_init : Value} {od_Literal_init an_Literal_init : Option Addr} {sl_Literal_init : Array (Option Value)}
    {f_Literal_names : Addr} {oc_Literal_names kV_Literal_names dc_Literal_names pm_Literal_names cd_Literal_names ct_Literal_names : Value} {od_Literal_names an_Literal_names : Option Addr} {sl_Literal_names : Array (Option Value)}
    {f_Rule_init : Addr} {oc_Rule_init kV_Rule_init dc_Rule_init pm_Rule_init cd_Rule_init ct_Rule_init dV_Rule_init : Value} {od_Rule_init an_Rule_init : Option Addr} {sl_Rule_init : Array (Option Value)}
    {f_how_often : Addr} {oc_how_often kV_how_often dc_how_often pm_how_often cd_how_often ct_how_often : Value} {od_how_often an_how_often : Option Addr} {sl_how_often : Array (Option Value)}
    {f_pos : Addr} {oc_pos kV_pos dc_pos pm_pos cd_pos ct_pos : Value} {od_pos an_pos : Option Addr} {sl_pos : Array (Option Value)}
    {f_held : Addr} {oc_held kV_held dc_held pm_held cd_held ct_held : Value} {od_held an_held : Option Addr} {sl_held : Array (Option Value)}
    {f_let : Addr} {oc_let kV_let dc_let pm_let cd_let ct_let : Value} {od_let an_let : Option Addr} {sl_let : Array (Option Value)}
    {f_reckoned : Addr} {oc_reckoned kV_reckoned dc_reckoned pm_reckoned cd_reckoned ct_reckoned : Value} {od_reckoned an_reckoned : Option Addr} {sl_reckoned : Array (Option Value)}
    {f_bounded : Addr} {oc_bounded kV_bounded dc_bounded pm_bounded cd_bounded ct_bounded : Value} {od_bounded an_bounded : Option Addr} {sl_bounded : Array (Option Value)}
    {f_Views_init : Addr} {oc_Views_init kV_Views_init dc_Views_init pm_Views_init cd_Views_init ct_Views_init dV_Views_init : Value} {od_Views_init an_Views_init : Option Addr} {sl_Views_init : Array (Option Value)}
    {f_Views_of : Addr} {oc_Views_of kV_Views_of dc_Views_of pm_Views_of cd_Views_of ct_Views_of : Value} {od_Views_of an_Views_of : Option Addr} {sl_Views_of : Array (Option Value)}
    {f_holds_between : Addr} {oc_holds_between kV_holds_between dc_holds_between pm_holds_between cd_holds_between ct_holds_between : Value} {od_holds_between an_holds_between : Option Addr} {sl_holds_between : Array (Option Value)}
    {f_fitting : Addr} {oc_fitting kV_fitting dc_fitting pm_fitting cd_fitting ct_fitting : Value} {od_fitting an_fitting : Option Addr} {sl_fitting : Array (Option Value)}
    {f_sign_holds : Addr} {oc_sign_holds kV_sign_holds dc_sign_holds pm_sign_holds cd_sign_holds ct_sign_holds : Value} {od_sign_holds an_sign_holds : Option Addr} {sl_sign_holds : Array (Option Value)}
    {f_reckoned_on : Addr} {oc_reckoned_on kV_reckoned_on dc_reckoned_on pm_reckoned_on cd_reckoned_on ct_reckoned_on : Value} {od_reckoned_on an_reckoned_on : Option Addr} {sl_reckoned_on : Array (Option Value)}
    {f_widened : Addr} {oc_widened kV_widened dc_widened pm_widened cd_widened ct_widened : Value} {od_widened an_widened : Option Addr} {sl_widened : Array (Option Value)}
    {f_solutions : Addr} {oc_solutions kV_solutions dc_solutions pm_solutions cd_solutions ct_solutions dV_solutions : Value} {od_solutions an_solutions : Option Addr} {sl_solutions : Array (Option Value)}
    {f_Relation_init : Addr} {oc_Relation_init kV_Relation_init dc_Relation_init pm_Relation_init cd_Relation_init ct_Relation_init dV_Relation_init : Value} {od_Relation_init an_Relation_init : Option Addr} {sl_Relation_init : Array (Option Value)}
    {e_Relation_init : Addr} {eo_Relation_init : Option Addr} {en_Relation_init : Nat} {es_Relation_init : Array (Option Value)}
    {f_Relation_has : Addr} {oc_Relation_has kV_Relation_has dc_Relation_has pm_Relation_has cd_Relation_has ct_Relation_has : Value} {od_Relation_has an_Relation_has : Option Addr} {sl_Relation_has : Array (Option Value)}
    {f_Relation_add : Addr} {oc_Relation_add kV_Relation_add dc_Relation_add pm_Relation_add cd_Relation_add ct_Relation_add : Value} {od_Relation_add an_Relation_add : Option Addr} {sl_Relation_add : Array (Option Value)}
    {f_Relation_look : Addr} {oc_Relation_look kV_Relation_look dc_Relation_look pm_Relation_look cd_Relation_look ct_Relation_look : Value} {od_Relation_look an_Relation_look : Option Addr} {sl_Relation_look : Array (Option Value)}
    {f_Store_init : Addr} {oc_Store_init kV_Store_init dc_Store_init pm_Store_init cd_Store_init ct_Store_init : Value} {od_Store_init an_Store_init : Option Addr} {sl_Store_init : Array (Option Value)}
    {f_Store_of : Addr} {oc_Store_of kV_Store_of dc_Store_of pm_Store_of cd_Store_of ct_Store_of : Value} {od_Store_of an_Store_of : Option Addr} {sl_Store_of : Array (Option Value)}
    {f_store_of : Addr} {oc_store_of kV_store_of dc_store_of pm_store_of cd_store_of ct_store_of : Value} {od_store_of an_store_of : Option Addr} {sl_store_of : Array (Option Value)}
    {f_l_dice : Addr} {oc_l_dice kV_l_dice dc_l_dice pm_l_dice cd_l_dice ct_l_dice : Value} {od_l_dice an_l_dice : Option Addr} {sl_l_dice : Array (Option Value)}
    {f_l_roll : Addr} {oc_l_roll kV_l_roll dc_l_roll pm_l_roll cd_l_roll ct_l_roll : Value} {od_l_roll an_l_roll : Option Addr} {sl_l_roll : Array (Option Value)}
    {f_l_rounds : Addr} {oc_l_rounds kV_l_rounds dc_l_rounds pm_l_rounds cd_l_rounds ct_l_rounds : Value} {od_l_rounds an_l_rounds : Option Addr} {sl_l_rounds : Array (Option Value)}
    {f_l_value : Addr} {oc_l_value kV_l_value dc_l_value pm_l_value cd_l_value ct_l_value : Value} {od_l_value an_l_value : Option Addr} {sl_l_value : Array (Option Value)}
    {f_l_less : Addr} {oc_l_less kV_l_less dc_l_less pm_l_less cd_l_less ct_l_less : Value} {od_l_less an_l_less : Option Addr} {sl_l_less : Array (Option Value)}
    {f_law : Addr} {oc_law kV_law dc_law pm_law cd_law ct_law : Value} {od_law an_law : Option Addr} {sl_law : Array (Option Value)}
    {t_DEEDS : Addr}
    {tt_DEEDS_0 tt_DEEDS_1 tt_DEEDS_2 : Tok} {to_DEEDS : Option Addr} {tn_DEEDS : Nat} {ts_DEEDS : Array (Option Value)}
    {t_MOST : Tok}
    {t_SIGNS : Addr}
    {tt_SIGNS_0 tt_SIGNS_1 tt_SIGNS_2 tt_SIGNS_3 : Tok} {to_SIGNS : Option Addr} {tn_SIGNS : Nat} {ts_SIGNS : Array (Option Value)}
    (aC_Term : PySem.W.nsIn K mainGlobals "Term" = some (some (.ref C_Term)))
    (pg_Term : PySem.W.plainGet K C_Term Str.empty = true)
    (hd_Term : PySem.W.hasDictIn K C_Term = true)
    (po_Term : PySem.W.plainOver K C_Term = true)
    (sa_Term : PySem.W.findIn K (.ref C_Term) "__setattr__" = some (some (.builtin "object.__setattr__")))
    (mk_Term : PySem.W.makesIn K C_Term = true)
    (kc_Term : PySem.W.keepIn K (.ref C_Term) = true)
    (n_Term_name : PySem.W.findIn K (.ref C_Term) "name" = some none)
    (n_Term_value : PySem.W.findIn K (.ref C_Term) "value" = some none)
    (aC_Literal : PySem.W.nsIn K mainGlobals "Literal" = some (some (.ref C_Literal)))
    (pg_Literal : PySem.W.plainGet K C_Literal Str.empty = true)
    (hd_Literal : PySem.W.hasDictIn K C_Literal = true)
    (po_Literal : PySem.W.plainOver K C_Literal = true)
    (sa_Literal : PySem.W.findIn K (.ref C_Literal) "__setattr__" = some (some (.builtin "object.__setattr__")))
    (mk_Literal : PySem.W.makesIn K C_Literal = true)
    (kc_Literal : PySem.W.keepIn K (.ref C_Literal) = true)
    (n_Literal_kind : PySem.W.findIn K (.ref C_Literal) "kind" = some none)
    (n_Literal_name : PySem.W.findIn K (.ref C_Literal) "name" = some none)
    (n_Literal_terms : PySem.W.findIn K (.ref C_Literal) "terms" = some none)
    (n_Literal_own : PySem.W.findIn K (.ref C_Literal) "own" = some none)
    (aC_Rule : PySem.W.nsIn K mainGlobals "Rule" = some (some (.ref C_Rule)))
    (pg_Rule : PySem.W.plainGet K C_Rule Str.empty = true)
    (hd_Rule : PySem.W.hasDictIn K C_Rule = true)
    (po_Rule : PySem.W.plainOver K C_Rule = true)
    (sa_Rule : PySem.W.findIn K (.ref C_Rule) "__setattr__" = some (some (.builtin "object.__setattr__")))
    (mk_Rule : PySem.W.makesIn K C_Rule = true)
    (kc_Rule : PySem.W.keepIn K (.ref C_Rule) = true)
    (n_Rule_name : PySem.W.findIn K (.ref C_Rule) "name" = some none)
    (n_Rule_terms : PySem.W.findIn K (.ref C_Rule) "terms" = some none)
    (n_Rule_body : PySem.W.findIn K (.ref C_Rule) "body" = some none)
    (n_Rule_summed : PySem.W.findIn K (.ref C_Rule) "summed" = some none)
    (n_Rule_stands : PySem.W.findIn K (.ref C_Rule) "stands" = some none)
    (aC_Views : PySem.W.nsIn K mainGlobals "Views" = some (some (.ref C_Views)))
    (pg_Views : PySem.W.plainGet K C_Views Str.empty = true)
    (hd_Views : PySem.W.hasDictIn K C_Views = true)
    (po_Views : PySem.W.plainOver K C_Views = true)
    (sa_Views : PySem.W.findIn K (.ref C_Views) "__setattr__" = some (some (.builtin "object.__setattr__")))
    (mk_Views : PySem.W.makesIn K C_Views = true)
    (kc_Views : PySem.W.keepIn K (.ref C_Views) = true)
    (n_Views_store : PySem.W.findIn K (.ref C_Views) "store" = some none)
    (n_Views_own : PySem.W.findIn K (.ref C_Views) "own" = some none)
    (aC_Relation : PySem.W.nsIn K mainGlobals "Relation" = some (some (.ref C_Relation)))
    (pg_Relation : PySem.W.plainGet K C_Relation Str.empty = true)
    (hd_Relation : PySem.W.hasDictIn K C_Relation = true)
    (po_Relation : PySem.W.plainOver K C_Relation = true)
    (sa_Relation : PySem.W.findIn K (.ref C_Relation) "__setattr__" = some (some (.builtin "object.__setattr__")))
    (mk_Relation : PySem.W.makesIn K C_Relation = true)
    (kc_Relation : PySem.W.keepIn K (.ref C_Relation) = true)
    (n_Relation_held : PySem.W.findIn K (.ref C_Relation) "held" = some none)
    (n_Relation_tables : PySem.W.findIn K (.ref C_Relation) "tables" = some none)
    (aC_Store : PySem.W.nsIn K mainGlobals "Store" = some (some (.ref C_Store)))
    (pg_Store : PySem.W.plainGet K C_Store Str.empty = true)
    (hd_Store : PySem.W.hasDictIn K C_Store = true)
    (po_Store : PySem.W.plainOver K C_Store = true)
    (sa_Store : PySem.W.findIn K (.ref C_Store) "__setattr__" = some (some (.builtin "object.__setattr__")))
    (mk_Store : PySem.W.makesIn K C_Store = true)
    (kc_Store : PySem.W.keepIn K (.ref C_Store) = true)
    (n_Store_relations : PySem.W.findIn K (.ref C_Store) "relations" = some none)
    (a_Term_init : PySem.W.findIn K (.ref C_Term) "__init__" = some (some (.ref f_Term_init)))
    (i_Term_init : PySem.W.isFn K (.ref f_Term_init) = true)
    (l_Term_init : K.lookup f_Term_init = some ⟨oc_Term_init, od_Term_init, .func (PySem.W.fnOf "__init__" "Term.__init__" (defArgs s_Term_init) (defBody s_Term_init) (defScope s_Term_init) dV_Term_init kV_Term_init dc_Term_init pm_Term_init an_Term_init cd_Term_init ct_Term_init), sl_Term_init⟩)
    (v_Term_init : DflV K dV_Term_init [.non])
    (c_Term_init : PySem.W.codeIn K cd_Term_init "Term.__init__" = true)
    (k_Term_init : PySem.W.keepIn K (.ref f_Term_init) = true)
    (a_Term_is_variable : PySem.W.findIn K (.ref C_Term) "is_variable" = some (some (.ref f_Term_is_variable)))
    (i_Term_is_variable : PySem.W.isFn K (.ref f_Term_is_variable) = true)
    (l_Term_is_variable : K.lookup f_Term_is_variable = some ⟨oc_Term_is_variable, od_Term_is_variable, .func (PySem.W.fnOf "is_variable" "Term.is_variable" (defArgs s_Term_is_variable) (defBody s_Term_is_variable) (defScope s_Term_is_variable) .none kV_Term_is_variable dc_Term_is_variable pm_Term_is_variable an_Term_is_variable cd_Term_is_variable ct_Term_is_variable), sl_Term_is_variable⟩)
    (c_Term_is_variable : PySem.W.codeIn K cd_Term_is_variable "Term.is_variable" = true)
    (k_Term_is_variable : PySem.W.keepIn K (.ref f_Term_is_variable) = true)
    (a_Term_under : PySem.W.findIn K (.ref C_Term) "under" = some (some (.ref f_Term_under)))
    (i_Term_under : PySem.W.isFn K (.ref f_Term_under) = true)
    (l_Term_under : K.lookup f_Term_under = some ⟨oc_Term_under, od_Term_under, .func (PySem.W.fnOf "under" "Term.under" (defArgs s_Term_under) (defBody s_Term_under) (defScope s_Term_under) .none kV_Term_under dc_Term_under pm_Term_under an_Term_under cd_Term_under ct_Term_under), sl_Term_under⟩)
    (c_Term_under : PySem.W.codeIn K cd_Term_under "Term.under" = true)
    (k_Term_under : PySem.W.keepIn K (.ref f_Term_under) = true)
    (a_Term_known : PySem.W.findIn K (.ref C_Term) "known" = some (some (.ref f_Term_known)))
    (i_Term_known : PySem.W.isFn K (.ref f_Term_known) = true)
    (l_Term_known : K.lookup f_Term_known = some ⟨oc_Term_known, od_Term_known, .func (PySem.W.fnOf "known" "Term.known" (defArgs s_Term_known) (defBody s_Term_known) (defScope s_Term_known) .none kV_Term_known dc_Term_known pm_Term_known an_Term_known cd_Term_known ct_Term_known), sl_Term_known⟩)
    (c_Term_known : PySem.W.codeIn K cd_Term_known "Term.known" = true)
    (k_Term_known : PySem.W.keepIn K (.ref f_Term_known) = true)
    (a_var : PySem.W.nsIn K mainGlobals "var" = some (some (.ref f_var)))
    (l_var : K.lookup f_var = some ⟨oc_var, od_var, .func (PySem.W.fnOf "var" "var" (defArgs s_var) (defBody s_var) (defScope s_var) .none kV_var dc_var pm_var an_var cd_var ct_var), sl_var⟩)
    (c_var : PySem.W.codeIn K cd_var "var" = true)
    (k_var : PySem.W.keepIn K (.ref f_var) = true)
    (a_val : PySem.W.nsIn K mainGlobals "val" = some (some (.ref f_val)))
    (l_val : K.lookup f_val = some ⟨oc_val, od_val, .func (PySem.W.fnOf "val" "val" (defArgs s_val) (defBody s_val) (defScope s_val) .none kV_val dc_val pm_val an_val cd_val ct_val), sl_val⟩)
    (c_val : PySem.W.codeIn K cd_val "val" = true)
    (k_val : PySem.W.keepIn K (.ref f_val) = true)
    (a_is_number : PySem.W.nsIn K mainGlobals "is_number" = some (some (.ref f_is_number)))
    (l_is_number : K.lookup f_is_number = some ⟨oc_is_number, od_is_number, .func (PySem.W.fnOf "is_number" "is_number" (defArgs s_is_number) (defBody s_is_number) (defScope s_is_number) .none kV_is_number dc_is_number pm_is_number an_is_number cd_is_number ct_is_number), sl_is_number⟩)
    (c_is_number : PySem.W.codeIn K cd_is_number "is_number" = true)
    (k_is_number : PySem.W.keepIn K (.ref f_is_number) = true)
    (a_value_key : PySem.W.nsIn K mainGlobals "value_key" = some (some (.ref f_value_key)))
    (l_value_key : K.lookup f_value_key = some ⟨oc_value_key, od_value_key, .func (PySem.W.fnOf "value_key" "value_key" (defArgs s_value_key) (defBody s_value_key) (defScope s_value_key) .none kV_value_key dc_value_key pm_value_key an_value_key cd_value_key ct_value_key), sl_value_key⟩)
    (c_value_key : PySem.W.codeIn K cd_value_key "value_key" = true)
    (k_value_key : PySem.W.keepIn K (.ref f_value_key) = true)
    (a_names_in : PySem.W.nsIn K mainGlobals "names_in" = some (some (.ref f_names_in)))
    (l_names_in : K.lookup f_names_in = some ⟨oc_names_in, od_names_in, .func (PySem.W.fnOf "names_in" "names_in" (defArgs s_names_in) (defBody s_names_in) (defScope s_names_in) .none kV_names_in dc_names_in pm_names_in an_names_in cd_names_in ct_names_in), sl_names_in⟩)
    (c_names_in : PySem.W.codeIn K cd_names_in "names_in" = true)
    (k_names_in : PySem.W.keepIn K (.ref f_names_in) = true)
    (a_matched : PySem.W.nsIn K mainGlobals "matched" = some (some (.ref f_matched)))
    (l_matched : K.lookup f_matched = some ⟨oc_matched, od_matched, .func (PySem.W.fnOf "matched" "matched" (defArgs s_matched) (defBody s_matched) (defScope s_matched) .none kV_matched dc_matched pm_matched an_matched cd_matched ct_matched), sl_matched⟩)
    (c_matched : PySem.W.codeIn K cd_matched "matched" = true)
    (k_matched : PySem.W.keepIn K (.ref f_matched) = true)
    (a_pattern : PySem.W.nsIn K mainGlobals "pattern" = some (some (.ref f_pattern)))
    (l_pattern : K.lookup f_pattern = some ⟨oc_pattern, od_pattern, .func (PySem.W.fnOf "pattern" "pattern" (defArgs s_pattern) (defBody s_pattern) (defScope s_pattern) .none kV_pattern dc_pattern pm_pattern an_pattern cd_pattern ct_pattern), sl_pattern⟩)
    (c_pattern : PySem.W.codeIn K cd_pattern "pattern" = true)
    (k_pattern : PySem.W.keepIn K (.ref f_pattern) = true)
    (a_Literal_init : PySem.W.findIn K (.ref C_Literal) "__init__" = some (some (.ref f_Literal_init)))
    (i_Literal_init : PySem.W.isFn K (.ref f_Literal_init) = true)
    (l_Literal_init : K.lookup f_Literal_init = some ⟨oc_Literal_init, od_Literal_init, .func (PySem.W.fnOf "__init__" "Literal.__init__" (defArgs s_Literal_init) (defBody s_Literal_init) (defScope s_Literal_init) .none kV_Literal_init dc_Literal_init pm_Literal_init an_Literal_init cd_Literal_init ct_Literal_init), sl_Literal_init⟩)
    (c_Literal_init : PySem.W.codeIn K cd_Literal_init "Literal.__init__" = true)
    (k_Literal_init : PySem.W.keepIn K (.ref f_Literal_init) = true)
    (a_Literal_names : PySem.W.findIn K (.ref C_Literal) "names" = some (some (.ref f_Literal_names)))
    (i_Literal_names : PySem.W.isFn K (.ref f_Literal_names) = true)
    (l_Literal_names : K.lookup f_Literal_names = some ⟨oc_Literal_names, od_Literal_names, .func (PySem.W.fnOf "names" "Literal.names" (defArgs s_Literal_names) (defBody s_Literal_names) (defScope s_Literal_names) .none kV_Literal_names dc_Literal_names pm_Literal_names an_Literal_names cd_Literal_names ct_Literal_names), sl_Literal_names⟩)
    (c_Literal_names : PySem.W.codeIn K cd_Literal_names "Literal.names" = true)
    (k_Literal_names : PySem.W.keepIn K (.ref f_Literal_names) = true)
    (a_Rule_init : PySem.W.findIn K (.ref C_Rule) "__init__" = some (some (.ref f_Rule_init)))
    (i_Rule_init : PySem.W.isFn K (.ref f_Rule_init) = true)
    (l_Rule_init : K.lookup f_Rule_init = some ⟨oc_Rule_init, od_Rule_init, .func (PySem.W.fnOf "__init__" "Rule.__init__" (defArgs s_Rule_init) (defBody s_Rule_init) (defScope s_Rule_init) dV_Rule_init kV_Rule_init dc_Rule_init pm_Rule_init an_Rule_init cd_Rule_init ct_Rule_init), sl_Rule_init⟩)
    (v_Rule_init : DflV K dV_Rule_init [.non])
    (c_Rule_init : PySem.W.codeIn K cd_Rule_init "Rule.__init__" = true)
    (k_Rule_init : PySem.W.keepIn K (.ref f_Rule_init) = true)
    (a_how_often : PySem.W.nsIn K mainGlobals "how_often" = some (some (.ref f_how_often)))
    (l_how_often : K.lookup f_how_often = some ⟨oc_how_often, od_how_often, .func (PySem.W.fnOf "how_often" "how_often" (defArgs s_how_often) (defBody s_how_often) (defScope s_how_often) .none kV_how_often dc_how_often pm_how_often an_how_often cd_how_often ct_how_often), sl_how_often⟩)
    (c_how_often : PySem.W.codeIn K cd_how_often "how_often" = true)
    (k_how_often : PySem.W.keepIn K (.ref f_how_often) = true)
    (a_pos : PySem.W.nsIn K mainGlobals "pos" = some (some (.ref f_pos)))
    (l_pos : K.lookup f_pos = some ⟨oc_pos, od_pos, .func (PySem.W.fnOf "pos" "pos" (defArgs s_pos) (defBody s_pos) (defScope s_pos) .none kV_pos dc_pos pm_pos an_pos cd_pos ct_pos), sl_pos⟩)
    (c_pos : PySem.W.codeIn K cd_pos "pos" = true)
    (k_pos : PySem.W.keepIn K (.ref f_pos) = true)
    (a_held : PySem.W.nsIn K mainGlobals "held" = some (some (.ref f_held)))
    (l_held : K.lookup f_held = some ⟨oc_held, od_held, .func (PySem.W.fnOf "held" "held" (defArgs s_held) (defBody s_held) (defScope s_held) .none kV_held dc_held pm_held an_held cd_held ct_held), sl_held⟩)
    (c_held : PySem.W.codeIn K cd_held "held" = true)
    (k_held : PySem.W.keepIn K (.ref f_held) = true)
    (a_let : PySem.W.nsIn K mainGlobals "let" = some (some (.ref f_let)))
    (l_let : K.lookup f_let = some ⟨oc_let, od_let, .func (PySem.W.fnOf "let" "let" (defArgs s_let) (defBody s_let) (defScope s_let) .none kV_let dc_let pm_let an_let cd_let ct_let), sl_let⟩)
    (c_let : PySem.W.codeIn K cd_let "let" = true)
    (k_let : PySem.W.keepIn K (.ref f_let) = true)
    (a_reckoned : PySem.W.nsIn K mainGlobals "reckoned" = some (some (.ref f_reckoned)))
    (l_reckoned : K.lookup f_reckoned = some ⟨oc_reckoned, od_reckoned, .func (PySem.W.fnOf "reckoned" "reckoned" (defArgs s_reckoned) (defBody s_reckoned) (defScope s_reckoned) .none kV_reckoned dc_reckoned pm_reckoned an_reckoned cd_reckoned ct_reckoned), sl_reckoned⟩)
    (c_reckoned : PySem.W.codeIn K cd_reckoned "reckoned" = true)
    (k_reckoned : PySem.W.keepIn K (.ref f_reckoned) = true)
    (a_bounded : PySem.W.nsIn K mainGlobals "bounded" = some (some (.ref f_bounded)))
    (l_bounded : K.lookup f_bounded = some ⟨oc_bounded, od_bounded, .func (PySem.W.fnOf "bounded" "bounded" (defArgs s_bounded) (defBody s_bounded) (defScope s_bounded) .none kV_bounded dc_bounded pm_bounded an_bounded cd_bounded ct_bounded), sl_bounded⟩)
    (c_bounded : PySem.W.codeIn K cd_bounded "bounded" = true)
    (k_bounded : PySem.W.keepIn K (.ref f_bounded) = true)
    (a_Views_init : PySem.W.findIn K (.ref C_Views) "__init__" = some (some (.ref f_Views_init)))
    (i_Views_init : PySem.W.isFn K (.ref f_Views_init) = true)
    (l_Views_init : K.lookup f_Views_init = some ⟨oc_Views_init, od_Views_init, .func (PySem.W.fnOf "__init__" "Views.__init__" (defArgs s_Views_init) (defBody s_Views_init) (defScope s_Views_init) dV_Views_init kV_Views_init dc_Views_init pm_Views_init an_Views_init cd_Views_init ct_Views_init), sl_Views_init⟩)
    (v_Views_init : DflV K dV_Views_init [.non])
    (c_Views_init : PySem.W.codeIn K cd_Views_init "Views.__init__" = true)
    (k_Views_init : PySem.W.keepIn K (.ref f_Views_init) = true)
    (a_Views_of : PySem.W.findIn K (.ref C_Views) "of" = some (some (.ref f_Views_of)))
    (i_Views_of : PySem.W.isFn K (.ref f_Views_of) = true)
    (l_Views_of : K.lookup f_Views_of = some ⟨oc_Views_of, od_Views_of, .func (PySem.W.fnOf "of" "Views.of" (defArgs s_Views_of) (defBody s_Views_of) (defScope s_Views_of) .none kV_Views_of dc_Views_of pm_Views_of an_Views_of cd_Views_of ct_Views_of), sl_Views_of⟩)
    (c_Views_of : PySem.W.codeIn K cd_Views_of "Views.of" = true)
    (k_Views_of : PySem.W.keepIn K (.ref f_Views_of) = true)
    (a_holds_between : PySem.W.nsIn K mainGlobals "holds_between" = some (some (.ref f_holds_between)))
    (l_holds_between : K.lookup f_holds_between = some ⟨oc_holds_between, od_holds_between, .func (PySem.W.fnOf "holds_between" "holds_between" (defArgs s_holds_between) (defBody s_holds_between) (defScope s_holds_between) .none kV_holds_between dc_holds_between pm_holds_between an_holds_between cd_holds_between ct_holds_between), sl_holds_between⟩)
    (c_holds_between : PySem.W.codeIn K cd_holds_between "holds_between" = true)
    (k_holds_between : PySem.W.keepIn K (.ref f_holds_between) = true)
    (a_fitting : PySem.W.nsIn K mainGlobals "fitting" = some (some (.ref f_fitting)))
    (l_fitting : K.lookup f_fitting = some ⟨oc_fitting, od_fitting, .func (PySem.W.fnOf "fitting" "fitting" (defArgs s_fitting) (defBody s_fitting) (defScope s_fitting) .none kV_fitting dc_fitting pm_fitting an_fitting cd_fitting ct_fitting), sl_fitting⟩)
    (c_fitting : PySem.W.codeIn K cd_fitting "fitting" = true)
    (k_fitting : PySem.W.keepIn K (.ref f_fitting) = true)
    (a_sign_holds : PySem.W.nsIn K mainGlobals "sign_holds" = some (some (.ref f_sign_holds)))
    (l_sign_holds : K.lookup f_sign_holds = some ⟨oc_sign_holds, od_sign_holds, .func (PySem.W.fnOf "sign_holds" "sign_holds" (defArgs s_sign_holds) (defBody s_sign_holds) (defScope s_sign_holds) .none kV_sign_holds dc_sign_holds pm_sign_holds an_sign_holds cd_sign_holds ct_sign_holds), sl_sign_holds⟩)
    (c_sign_holds : PySem.W.codeIn K cd_sign_holds "sign_holds" = true)
    (k_sign_holds : PySem.W.keepIn K (.ref f_sign_holds) = true)
    (a_reckoned_on : PySem.W.nsIn K mainGlobals "reckoned_on" = some (some (.ref f_reckoned_on)))
    (l_reckoned_on : K.lookup f_reckoned_on = some ⟨oc_reckoned_on, od_reckoned_on, .func (PySem.W.fnOf "reckoned_on" "reckoned_on" (defArgs s_reckoned_on) (defBody s_reckoned_on) (defScope s_reckoned_on) .none kV_reckoned_on dc_reckoned_on pm_reckoned_on an_reckoned_on cd_reckoned_on ct_reckoned_on), sl_reckoned_on⟩)
    (c_reckoned_on : PySem.W.codeIn K cd_reckoned_on "reckoned_on" = true)
    (k_reckoned_on : PySem.W.keepIn K (.ref f_reckoned_on) = true)
    (a_widened : PySem.W.nsIn K mainGlobals "widened" = some (some (.ref f_widened)))
    (l_widened : K.lookup f_widened = some ⟨oc_widened, od_widened, .func (PySem.W.fnOf "widened" "widened" (defArgs s_widened) (defBody s_widened) (defScope s_widened) .none kV_widened dc_widened pm_widened an_widened cd_widened ct_widened), sl_widened⟩)
    (c_widened : PySem.W.codeIn K cd_widened "widened" = true)
    (k_widened : PySem.W.keepIn K (.ref f_widened) = true)
    (a_solutions : PySem.W.nsIn K mainGlobals "solutions" = some (some (.ref f_solutions)))
    (l_solutions : K.lookup f_solutions = some ⟨oc_solutions, od_solutions, .func (PySem.W.fnOf "solutions" "solutions" (defArgs s_solutions) (defBody s_solutions) (defScope s_solutions) dV_solutions kV_solutions dc_solutions pm_solutions an_solutions cd_solutions ct_solutions), sl_solutions⟩)
    (v_solutions : DflV K dV_solutions [.non])
    (c_solutions : PySem.W.codeIn K cd_solutions "solutions" = true)
    (k_solutions : PySem.W.keepIn K (.ref f_solutions) = true)
    (a_Relation_init : PySem.W.findIn K (.ref C_Relation) "__init__" = some (some (.ref f_Relation_init)))
    (i_Relation_init : PySem.W.isFn K (.ref f_Relation_init) = true)
    (l_Relation_init : K.lookup f_Relation_init = some ⟨oc_Relation_init, od_Relation_init, .func (PySem.W.fnOf "__init__" "Relation.__init__" (defArgs s_Relation_init) (defBody s_Relation_init) (defScope s_Relation_init) dV_Relation_init kV_Relation_init dc_Relation_init pm_Relation_init an_Relation_init cd_Relation_init ct_Relation_init), sl_Relation_init⟩)
    (v_Relation_init : DflV K dV_Relation_init [(.ref e_Relation_init)])
    (le_Relation_init : K.lookup e_Relation_init = some ⟨.type "tuple", eo_Relation_init, .seq #[] en_Relation_init, es_Relation_init⟩)
    (c_Relation_init : PySem.W.codeIn K cd_Relation_init "Relation.__init__" = true)
    (k_Relation_init : PySem.W.keepIn K (.ref f_Relation_init) = true)
    (a_Relation_has : PySem.W.findIn K (.ref C_Relation) "has" = some (some (.ref f_Relation_has)))
    (i_Relation_has : PySem.W.isFn K (.ref f_Relation_has) = true)
    (l_Relation_has : K.lookup f_Relation_has = some ⟨oc_Relation_has, od_Relation_has, .func (PySem.W.fnOf "has" "Relation.has" (defArgs s_Relation_has) (defBody s_Relation_has) (defScope s_Relation_has) .none kV_Relation_has dc_Relation_has pm_Relation_has an_Relation_has cd_Relation_has ct_Relation_has), sl_Relation_has⟩)
    (c_Relation_has : PySem.W.codeIn K cd_Relation_has "Relation.has" = true)
    (k_Relation_has : PySem.W.keepIn K (.ref f_Relation_has) = true)
    (a_Relation_add : PySem.W.findIn K (.ref C_Relation) "add" = some (some (.ref f_Relation_add)))
    (i_Relation_add : PySem.W.isFn K (.ref f_Relation_add) = true)
    (l_Relation_add : K.lookup f_Relation_add = some ⟨oc_Relation_add, od_Relation_add, .func (PySem.W.fnOf "add" "Relation.add" (defArgs s_Relation_add) (defBody s_Relation_add) (defScope s_Relation_add) .none kV_Relation_add dc_Relation_add pm_Relation_add an_Relation_add cd_Relation_add ct_Relation_add), sl_Relation_add⟩)
    (c_Relation_add : PySem.W.codeIn K cd_Relation_add "Relation.add" = true)
    (k_Relation_add : PySem.W.keepIn K (.ref f_Relation_add) = true)
    (a_Relation_look : PySem.W.findIn K (.ref C_Relation) "look" = some (some (.ref f_Relation_look)))
    (i_Relation_look : PySem.W.isFn K (.ref f_Relation_look) = true)
    (l_Relation_look : K.lookup f_Relation_look = some ⟨oc_Relation_look, od_Relation_look, .func (PySem.W.fnOf "look" "Relation.look" (defArgs s_Relation_look) (defBody s_Relation_look) (defScope s_Relation_look) .none kV_Relation_look dc_Relation_look pm_Relation_look an_Relation_look cd_Relation_look ct_Relation_look), sl_Relation_look⟩)
    (c_Relation_look : PySem.W.codeIn K cd_Relation_look "Relation.look" = true)
    (k_Relation_look : PySem.W.keepIn K (.ref f_Relation_look) = true)
    (a_Store_init : PySem.W.findIn K (.ref C_Store) "__init__" = some (some (.ref f_Store_init)))
    (i_Store_init : PySem.W.isFn K (.ref f_Store_init) = true)
    (l_Store_init : K.lookup f_Store_init = some ⟨oc_Store_init, od_Store_init, .func (PySem.W.fnOf "__init__" "Store.__init__" (defArgs s_Store_init) (defBody s_Store_init) (defScope s_Store_init) .none kV_Store_init dc_Store_init pm_Store_init an_Store_init cd_Store_init ct_Store_init), sl_Store_init⟩)
    (c_Store_init : PySem.W.codeIn K cd_Store_init "Store.__init__" = true)
    (k_Store_init : PySem.W.keepIn K (.ref f_Store_init) = true)
    (a_Store_of : PySem.W.findIn K (.ref C_Store) "of" = some (some (.ref f_Store_of)))
    (i_Store_of : PySem.W.isFn K (.ref f_Store_of) = true)
    (l_Store_of : K.lookup f_Store_of = some ⟨oc_Store_of, od_Store_of, .func (PySem.W.fnOf "of" "Store.of" (defArgs s_Store_of) (defBody s_Store_of) (defScope s_Store_of) .none kV_Store_of dc_Store_of pm_Store_of an_Store_of cd_Store_of ct_Store_of), sl_Store_of⟩)
    (c_Store_of : PySem.W.codeIn K cd_Store_of "Store.of" = true)
    (k_Store_of : PySem.W.keepIn K (.ref f_Store_of) = true)
    (a_store_of : PySem.W.nsIn K mainGlobals "store_of" = some (some (.ref f_store_of)))
    (l_store_of : K.lookup f_store_of = some ⟨oc_store_of, od_store_of, .func (PySem.W.fnOf "store_of" "store_of" (defArgs s_store_of) (defBody s_store_of) (defScope s_store_of) .none kV_store_of dc_store_of pm_store_of an_store_of cd_store_of ct_store_of), sl_store_of⟩)
    (c_store_of : PySem.W.codeIn K cd_store_of "store_of" = true)
    (k_store_of : PySem.W.keepIn K (.ref f_store_of) = true)
    (a_l_dice : PySem.W.nsIn K mainGlobals "_law_dice" = some (some (.ref f_l_dice)))
    (l_l_dice : K.lookup f_l_dice = some ⟨oc_l_dice, od_l_dice, .func (PySem.W.fnOf "_law_dice" "_law_dice" (defArgs s_l_dice) (defBody s_l_dice) (defScope s_l_dice) .none kV_l_dice dc_l_dice pm_l_dice an_l_dice cd_l_dice ct_l_dice), sl_l_dice⟩)
    (c_l_dice : PySem.W.codeIn K cd_l_dice "_law_dice" = true)
    (k_l_dice : PySem.W.keepIn K (.ref f_l_dice) = true)
    (a_l_roll : PySem.W.nsIn K mainGlobals "_law_roll" = some (some (.ref f_l_roll)))
    (l_l_roll : K.lookup f_l_roll = some ⟨oc_l_roll, od_l_roll, .func (PySem.W.fnOf "_law_roll" "_law_roll" (defArgs s_l_roll) (defBody s_l_roll) (defScope s_l_roll) .none kV_l_roll dc_l_roll pm_l_roll an_l_roll cd_l_roll ct_l_roll), sl_l_roll⟩)
    (c_l_roll : PySem.W.codeIn K cd_l_roll "_law_roll" = true)
    (k_l_roll : PySem.W.keepIn K (.ref f_l_roll) = true)
    (a_l_rounds : PySem.W.nsIn K mainGlobals "_law_rounds" = some (some (.ref f_l_rounds)))
    (l_l_rounds : K.lookup f_l_rounds = some ⟨oc_l_rounds, od_l_rounds, .func (PySem.W.fnOf "_law_rounds" "_law_rounds" (defArgs s_l_rounds) (defBody s_l_rounds) (defScope s_l_rounds) .none kV_l_rounds dc_l_rounds pm_l_rounds an_l_rounds cd_l_rounds ct_l_rounds), sl_l_rounds⟩)
    (c_l_rounds : PySem.W.codeIn K cd_l_rounds "_law_rounds" = true)
    (k_l_rounds : PySem.W.keepIn K (.ref f_l_rounds) = true)
    (a_l_value : PySem.W.nsIn K mainGlobals "_law_value" = some (some (.ref f_l_value)))
    (l_l_value : K.lookup f_l_value = some ⟨oc_l_value, od_l_value, .func (PySem.W.fnOf "_law_value" "_law_value" (defArgs s_l_value) (defBody s_l_value) (defScope s_l_value) .none kV_l_value dc_l_value pm_l_value an_l_value cd_l_value ct_l_value), sl_l_value⟩)
    (c_l_value : PySem.W.codeIn K cd_l_value "_law_value" = true)
    (k_l_value : PySem.W.keepIn K (.ref f_l_value) = true)
    (a_l_less : PySem.W.nsIn K mainGlobals "_law_less" = some (some (.ref f_l_less)))
    (l_l_less : K.lookup f_l_less = some ⟨oc_l_less, od_l_less, .func (PySem.W.fnOf "_law_less" "_law_less" (defArgs s_l_less) (defBody s_l_less) (defScope s_l_less) .none kV_l_less dc_l_less pm_l_less an_l_less cd_l_less ct_l_less), sl_l_less⟩)
    (c_l_less : PySem.W.codeIn K cd_l_less "_law_less" = true)
    (k_l_less : PySem.W.keepIn K (.ref f_l_less) = true)
    (a_law : PySem.W.nsIn K mainGlobals "law" = some (some (.ref f_law)))
    (l_law : K.lookup f_law = some ⟨oc_law, od_law, .func (PySem.W.fnOf "law" "law" (defArgs s_law) (defBody s_law) (defScope s_law) .none kV_law dc_law pm_law an_law cd_law ct_law), sl_law⟩)
    (c_law : PySem.W.codeIn K cd_law "law" = true)
    (k_law : PySem.W.keepIn K (.ref f_law) = true)
    (z_abs : PySem.W.nsIn K mainGlobals "abs" = some none)
    (z_dict : PySem.W.nsIn K mainGlobals "dict" = some none)
    (z_enumerate : PySem.W.nsIn K mainGlobals "enumerate" = some none)
    (z_int : PySem.W.nsIn K mainGlobals "int" = some none)
    (z_isinstance : PySem.W.nsIn K mainGlobals "isinstance" = some none)
    (z_len : PySem.W.nsIn K mainGlobals "len" = some none)
    (z_list : PySem.W.nsIn K mainGlobals "list" = some none)
    (z_range : PySem.W.nsIn K mainGlobals "range" = some none)
    (z_tuple : PySem.W.nsIn K mainGlobals "tuple" = some none)
    (z_zip : PySem.W.nsIn K mainGlobals "zip" = some none)
    (g_DEEDS : PySem.W.nsIn K mainGlobals "DEEDS" = some (some (.ref t_DEEDS)))
    (lt_DEEDS : K.lookup t_DEEDS = some ⟨.type "tuple", to_DEEDS, .seq #[.str "+" tt_DEEDS_0, .str "-" tt_DEEDS_1, .str "*" tt_DEEDS_2] tn_DEEDS, ts_DEEDS⟩)
    (g_MOST : PySem.W.nsIn K mainGlobals "MOST" = some (some (.int (999999999999999999) t_MOST)))
    (g_SIGNS : PySem.W.nsIn K mainGlobals "SIGNS" = some (some (.ref t_SIGNS)))
    (lt_SIGNS : K.lookup t_SIGNS = some ⟨.type "tuple", to_SIGNS, .seq #[.str "<" tt_SIGNS_0, .str "<=" tt_SIGNS_1, .str "=" tt_SIGNS_2, .str "!=" tt_SIGNS_3] tn_SIGNS, ts_SIGNS⟩) :
    ∃ fd : FuncData, (∀ (s : Shared) (v : Value), BindsTo s fd ⟨[v], []⟩ [("script", v)]) ∧ ∀ base : Heap, K.In base → base.Ns mainGlobals mg → FnOk l.prog w K mg base CX0 7 fa fd ["script"] (spLaw K) := by
  have ef : f_law = fa := by
    have e := hfa.symm.trans (PySem.W.mg_of X G a_law)
    injection e with e
    injection e with e
    exact e.symm
  subst ef
  let A : Ad := ⟨t_DEEDS, t_MOST, t_SIGNS, f_Term_init, (PySem.W.fnOf "__init__" "Term.__init__" (defArgs s_Term_init) (defBody s_Term_init) (defScope s_Term_init) dV_Term_init kV_Term_init dc_Term_init pm_Term_init an_Term_init cd_Term_init ct_Term_init), f_Term_is_variable, (PySem.W.fnOf "is_variable" "Term.is_variable" (defArgs s_Term_is_variable) (defBody s_Term_is_variable) (defScope s_Term_is_variable) .none kV_Term_is_variable dc_Term_is_variable pm_Term_is_variable an_Term_is_variable cd_Term_is_variable ct_Term_is_variable), f_Term_under, (PySem.W.fnOf "under" "Term.under" (defArgs s_Term_under) (defBody s_Term_under) (defScope s_Term_under) .none kV_Term_under dc_Term_under pm_Term_under an_Term_under cd_Term_under ct_Term_under), f_Term_known, (PySem.W.fnOf "known" "Term.known" (defArgs s_Term_known) (defBody s_Term_known) (defScope s_Term_known) .none kV_Term_known dc_Term_known pm_Term_known an_Term_known cd_Term_known ct_Term_known), f_var, (PySem.W.fnOf "var" "var" (defArgs s_var) (defBody s_var) (defScope s_var) .none kV_var dc_var pm_var an_var cd_var ct_var), f_val, (PySem.W.fnOf "val" "val" (defArgs s_val) (defBody s_val) (defScope s_val) .none kV_val dc_val pm_val an_val cd_val ct_val), f_is_number, (PySem.W.fnOf "is_number" "is_number" (defArgs s_is_number) (defBody s_is_number) (defScope s_is_number) .none kV_is_number dc_is_number pm_is_number an_is_number cd_is_number ct_is_number), f_value_key, (PySem.W.fnOf "value_key" "value_key" (defArgs s_value_key) (defBody s_value_key) (defScope s_value_key) .none kV_value_key dc_value_key pm_value_key an_value_key cd_value_key ct_value_key), f_names_in, (PySem.W.fnOf "names_in" "names_in" (defArgs s_names_in) (defBody s_names_in) (defScope s_names_in) .none kV_names_in dc_names_in pm_names_in an_names_in cd_names_in ct_names_in), f_matched, (PySem.W.fnOf "matched" "matched" (defArgs s_matched) (defBody s_matched) (defScope s_matched) .none kV_matched dc_matched pm_matched an_matched cd_matched ct_matched), f_pattern, (PySem.W.fnOf "pattern" "pattern" (defArgs s_pattern) (defBody s_pattern) (defScope s_pattern) .none kV_pattern dc_pattern pm_pattern an_pattern cd_pattern ct_pattern), f_Literal_init, (PySem.W.fnOf "__init__" "Literal.__init__" (defArgs s_Literal_init) (defBody s_Literal_init) (defScope s_Literal_init) .none kV_Literal_init dc_Literal_init pm_Literal_init an_Literal_init cd_Literal_init ct_Literal_init), f_Literal_names, (PySem.W.fnOf "names" "Literal.names" (defArgs s_Literal_names) (defBody s_Literal_names) (defScope s_Literal_names) .none kV_Literal_names dc_Literal_names pm_Literal_names an_Literal_names cd_Literal_names ct_Literal_names), f_Rule_init, (PySem.W.fnOf "__init__" "Rule.__init__" (defArgs s_Rule_init) (defBody s_Rule_init) (defScope s_Rule_init) dV_Rule_init kV_Rule_init dc_Rule_init pm_Rule_init an_Rule_init cd_Rule_init ct_Rule_init), f_how_often, (PySem.W.fnOf "how_often" "how_often" (defArgs s_how_often) (defBody s_how_often) (defScope s_how_often) .none kV_how_often dc_how_often pm_how_often an_how_often cd_how_often ct_how_often), f_pos, (PySem.W.fnOf "pos" "pos" (defArgs s_pos) (defBody s_pos) (defScope s_pos) .none kV_pos dc_pos pm_pos an_pos cd_pos ct_pos), f_held, (PySem.W.fnOf "held" "held" (defArgs s_held) (defBody s_held) (defScope s_held) .none kV_held dc_held pm_held an_held cd_held ct_held), f_let, (PySem.W.fnOf "let" "let" (defArgs s_let) (defBody s_let) (defScope s_let) .none kV_let dc_let pm_let an_let cd_let ct_let), f_reckoned, (PySem.W.fnOf "reckoned" "reckoned" (defArgs s_reckoned) (defBody s_reckoned) (defScope s_reckoned) .none kV_reckoned dc_reckoned pm_reckoned an_reckoned cd_reckoned ct_reckoned), f_bounded, (PySem.W.fnOf "bounded" "bounded" (defArgs s_bounded) (defBody s_bounded) (defScope s_bounded) .none kV_bounded dc_bounded pm_bounded an_bounded cd_bounded ct_bounded), f_Views_init, (PySem.W.fnOf "__init__" "Views.__init__" (defArgs s_Views_init) (defBody s_Views_init) (defScope s_Views_init) dV_Views_init kV_Views_init dc_Views_init pm_Views_init an_Views_init cd_Views_init ct_Views_init), f_Views_of, (PySem.W.fnOf "of" "Views.of" (defArgs s_Views_of) (defBody s_Views_of) (defScope s_Views_of) .none kV_Views_of dc_Views_of pm_Views_of an_Views_of cd_Views_of ct_Views_of), f_holds_between, (PySem.W.fnOf "holds_between" "holds_between" (defArgs s_holds_between) (defBody s_holds_between) (defScope s_holds_between) .none kV_holds_between dc_holds_between pm_holds_between an_holds_between cd_holds_between ct_holds_between), f_fitting, (PySem.W.fnOf "fitting" "fitting" (defArgs s_fitting) (defBody s_fitting) (defScope s_fitting) .none kV_fitting dc_fitting pm_fitting an_fitting cd_fitting ct_fitting), f_sign_holds, (PySem.W.fnOf "sign_holds" "sign_holds" (defArgs s_sign_holds) (defBody s_sign_holds) (defScope s_sign_holds) .none kV_sign_holds dc_sign_holds pm_sign_holds an_sign_holds cd_sign_holds ct_sign_holds), f_reckoned_on, (PySem.W.fnOf "reckoned_on" "reckoned_on" (defArgs s_reckoned_on) (defBody s_reckoned_on) (defScope s_reckoned_on) .none kV_reckoned_on dc_reckoned_on pm_reckoned_on an_reckoned_on cd_reckoned_on ct_reckoned_on), f_widened, (PySem.W.fnOf "widened" "widened" (defArgs s_widened) (defBody s_widened) (defScope s_widened) .none kV_widened dc_widened pm_widened an_widened cd_widened ct_widened), f_solutions, (PySem.W.fnOf "solutions" "solutions" (defArgs s_solutions) (defBody s_solutions) (defScope s_solutions) dV_solutions kV_solutions dc_solutions pm_solutions an_solutions cd_solutions ct_solutions), f_Relation_init, (PySem.W.fnOf "__init__" "Relation.__init__" (defArgs s_Relation_init) (defBody s_Relation_init) (defScope s_Relation_init) dV_Relation_init kV_Relation_init dc_Relation_init pm_Relation_init an_Relation_init cd_Relation_init ct_Relation_init), e_Relation_init, f_Relation_has, (PySem.W.fnOf "has" "Relation.has" (defArgs s_Relation_has) (defBody s_Relation_has) (defScope s_Relation_has) .none kV_Relation_has dc_Relation_has pm_Relation_has an_Relation_has cd_Relation_has ct_Relation_has), f_Relation_add, (PySem.W.fnOf "add" "Relation.add" (defArgs s_Relation_add) (defBody s_Relation_add) (defScope s_Relation_add) .none kV_Relation_add dc_Relation_add pm_Relation_add an_Relation_add cd_Relation_add ct_Relation_add), f_Relation_look, (PySem.W.fnOf "look" "Relation.look" (defArgs s_Relation_look) (defBody s_Relation_look) (defScope s_Relation_look) .none kV_Relation_look dc_Relation_look pm_Relation_look an_Relation_look cd_Relation_look ct_Relation_look), f_Store_init, (PySem.W.fnOf "__init__" "Store.__init__" (defArgs s_Store_init) (defBody s_Store_init) (defScope s_Store_init) .none kV_Store_init dc_Store_init pm_Store_init an_Store_init cd_Store_init ct_Store_init), f_Store_of, (PySem.W.fnOf "of" "Store.of" (defArgs s_Store_of) (defBody s_Store_of) (defScope s_Store_of) .none kV_Store_of dc_Store_of pm_Store_of an_Store_of cd_Store_of ct_Store_of), f_store_of, (PySem.W.fnOf "store_of" "store_of" (defArgs s_store_of) (defBody s_store_of) (defScope s_store_of) .none kV_store_of dc_store_of pm_store_of an_store_of cd_store_of ct_store_of), f_l_dice, (PySem.W.fnOf "_law_dice" "_law_dice" (defArgs s_l_dice) (defBody s_l_dice) (defScope s_l_dice) .none kV_l_dice dc_l_dice pm_l_dice an_l_dice cd_l_dice ct_l_dice), f_l_roll, (PySem.W.fnOf "_law_roll" "_law_roll" (defArgs s_l_roll) (defBody s_l_roll) (defScope s_l_roll) .none kV_l_roll dc_l_roll pm_l_roll an_l_roll cd_l_roll ct_l_roll), f_l_rounds, (PySem.W.fnOf "_law_rounds" "_law_rounds" (defArgs s_l_rounds) (defBody s_l_rounds) (defScope s_l_rounds) .none kV_l_rounds dc_l_rounds pm_l_rounds an_l_rounds cd_l_rounds ct_l_rounds), f_l_value, (PySem.W.fnOf "_law_value" "_law_value" (defArgs s_l_value) (defBody s_l_value) (defScope s_l_value) .none kV_l_value dc_l_value pm_l_value an_l_value cd_l_value ct_l_value), f_l_less, (PySem.W.fnOf "_law_less" "_law_less" (defArgs s_l_less) (defBody s_l_less) (defScope s_l_less) .none kV_l_less dc_l_less pm_l_less an_l_less cd_l_less ct_l_less), f_law, (PySem.W.fnOf "law" "law" (defArgs s_law) (defBody s_law) (defScope s_law) .none kV_law dc_law pm_law an_law cd_law ct_law), C_Term, C_Literal, C_Rule, C_Views, C_Relation, C_Store⟩
  have F_Term_init : FunD K "__init__" "Term.__init__" (defArgs s_Term_init) (defBody s_Term_init) (defScope s_Term_init) [.non] [] A.f_Term_init A.d_Term_init := ⟨⟨_, _, _, _, _, _, _, _, _, _, rfl, l_Term_init, c_Term_init, v_Term_init, .inl rfl⟩, k_Term_init⟩
  have b_Term_init : Binds K A.d_Term_init ["self", "name", "value"] [] := by
    obtain ⟨ds, hv, hb⟩ := F_Term_init.binds1 (ps := ["self", "name", "value"]) 3 1 (List.cons_ne_nil _ _) rfl fun _ _ _ _ _ _ _ us its hl hi => match us, its, hl, hi with | [_, _, _], [_], _, _ => ⟨_, rfl, rfl⟩
    cases hv
    exact hb
  have bd_Term_init := F_Term_init.binds1 (ps := ["self", "name", "value"]) 2 0 (List.cons_ne_nil _ _) rfl fun _ _ _ _ _ _ _ us its hl hi => match us, its, hl, hi with | [_, _], [_], _, _ => ⟨_, rfl, rfl⟩
  have F_Term_is_variable := fun_mk (st := s_Term_is_variable) l_Term_is_variable c_Term_is_variable k_Term_is_variable
  have b_Term_is_variable := F_Term_is_variable.binds (ps := ["self"]) fun _ _ _ _ _ _ us hl => match us, hl with | [_], _ => rfl
  have F_Term_under := fun_mk (st := s_Term_under) l_Term_under c_Term_under k_Term_under
  have b_Term_under := F_Term_under.binds (ps := ["self", "bound"]) fun _ _ _ _ _ _ us hl => match us, hl with | [_, _], _ => rfl
  have F_Term_known := fun_mk (st := s_Term_known) l_Term_known c_Term_known k_Term_known
  have b_Term_known := F_Term_known.binds (ps := ["self", "bound"]) fun _ _ _ _ _ _ us hl => match us, hl with | [_, _], _ => rfl
  have F_var := fun_mk (st := s_var) l_var c_var k_var
  have b_var := F_var.binds (ps := ["name"]) fun _ _ _ _ _ _ us hl => match us, hl with | [_], _ => rfl
  have F_val := fun_mk (st := s_val) l_val c_val k_val
  have b_val := F_val.binds (ps := ["value"]) fun _ _ _ _ _ _ us hl => match us, hl with | [_], _ => rfl
  have F_is_number := fun_mk (st := s_is_number) l_is_number c_is_number k_is_number
  have b_is_number := F_is_number.binds (ps := ["value"]) fun _ _ _ _ _ _ us hl => match us, hl with | [_], _ => rfl
  have F_value_key := fun_mk (st := s_value_key) l_value_key c_value_key k_value_key
  have b_value_key := F_value_key.binds (ps := ["value"]) fun _ _ _ _ _ _ us hl => match us, hl with | [_], _ => rfl
  have F_names_in := fun_mk (st := s_names_in) l_names_in c_names_in k_names_in
  have b_names_in := F_names_in.binds (ps := ["terms"]) fun _ _ _ _ _ _ us hl => match us, hl with | [_], _ => rfl
  have F_matched := fun_mk (st := s_matched) l_matched c_matched k_matched
  have b_matched := F_matched.binds (ps := ["terms", "row", "bound"]) fun _ _ _ _ _ _ us hl => match us, hl with | [_, _, _], _ => rfl
  have F_pattern := fun_mk (st := s_pattern) l_pattern c_pattern k_pattern
  have b_pattern := F_pattern.binds (ps := ["terms", "bound"]) fun _ _ _ _ _ _ us hl => match us, hl with | [_, _], _ => rfl
  have F_Literal_init := fun_mk (st := s_Literal_init) l_Literal_init c_Literal_init k_Literal_init
  have b_Literal_init := F_Literal_init.binds (ps := ["self", "kind", "name", "terms"]) fun _ _ _ _ _ _ us hl => match us, hl with | [_, _, _, _], _ => rfl
  have F_Literal_names := fun_mk (st := s_Literal_names) l_Literal_names c_Literal_names k_Literal_names
  have b_Literal_names := F_Literal_names.binds (ps := ["self"]) fun _ _ _ _ _ _ us hl => match us, hl with | [_], _ => rfl
  have F_Rule_init : FunD K "__init__" "Rule.__init__" (defArgs s_Rule_init) (defBody s_Rule_init) (defScope s_Rule_init) [.non] [] A.f_Rule_init A.d_Rule_init := ⟨⟨_, _, _, _, _, _, _, _, _, _, rfl, l_Rule_init, c_Rule_init, v_Rule_init, .inl rfl⟩, k_Rule_init⟩
  have b_Rule_init : Binds K A.d_Rule_init ["self", "name", "terms", "body", "summed"] [] := by
    obtain ⟨ds, hv, hb⟩ := F_Rule_init.binds1 (ps := ["self", "name", "terms", "body", "summed"]) 5 1 (List.cons_ne_nil _ _) rfl fun _ _ _ _ _ _ _ us its hl hi => match us, its, hl, hi with | [_, _, _, _, _], [_], _, _ => ⟨_, rfl, rfl⟩
    cases hv
    exact hb
  have bd_Rule_init := F_Rule_init.binds1 (ps := ["self", "name", "terms", "body", "summed"]) 4 0 (List.cons_ne_nil _ _) rfl fun _ _ _ _ _ _ _ us its hl hi => match us, its, hl, hi with | [_, _, _, _], [_], _, _ => ⟨_, rfl, rfl⟩
  have F_how_often := fun_mk (st := s_how_often) l_how_often c_how_often k_how_often
  have b_how_often := F_how_often.binds (ps := ["rows"]) fun _ _ _ _ _ _ us hl => match us, hl with | [_], _ => rfl
  have F_pos := fun_mk (st := s_pos) l_pos c_pos k_pos
  have b_pos := F_pos.binds (ps := ["name", "terms"]) fun _ _ _ _ _ _ us hl => match us, hl with | [_, _], _ => rfl
  have F_held := fun_mk (st := s_held) l_held c_held k_held
  have b_held := F_held.binds (ps := ["sign", "one", "other"]) fun _ _ _ _ _ _ us hl => match us, hl with | [_, _, _], _ => rfl
  have F_let := fun_mk (st := s_let) l_let c_let k_let
  have b_let := F_let.binds (ps := ["target", "deed", "one", "other"]) fun _ _ _ _ _ _ us hl => match us, hl with | [_, _, _, _], _ => rfl
  have F_reckoned := fun_mk (st := s_reckoned) l_reckoned c_reckoned k_reckoned
  have b_reckoned := F_reckoned.binds (ps := ["deed", "one", "other"]) fun _ _ _ _ _ _ us hl => match us, hl with | [_, _, _], _ => rfl
  have F_bounded := fun_mk (st := s_bounded) l_bounded c_bounded k_bounded
  have b_bounded := F_bounded.binds (ps := ["number"]) fun _ _ _ _ _ _ us hl => match us, hl with | [_], _ => rfl
  have F_Views_init : FunD K "__init__" "Views.__init__" (defArgs s_Views_init) (defBody s_Views_init) (defScope s_Views_init) [.non] [] A.f_Views_init A.d_Views_init := ⟨⟨_, _, _, _, _, _, _, _, _, _, rfl, l_Views_init, c_Views_init, v_Views_init, .inl rfl⟩, k_Views_init⟩
  have b_Views_init : Binds K A.d_Views_init ["self", "store", "own"] [] := by
    obtain ⟨ds, hv, hb⟩ := F_Views_init.binds1 (ps := ["self", "store", "own"]) 3 1 (List.cons_ne_nil _ _) rfl fun _ _ _ _ _ _ _ us its hl hi => match us, its, hl, hi with | [_, _, _], [_], _, _ => ⟨_, rfl, rfl⟩
    cases hv
    exact hb
  have bd_Views_init := F_Views_init.binds1 (ps := ["self", "store", "own"]) 2 0 (List.cons_ne_nil _ _) rfl fun _ _ _ _ _ _ _ us its hl hi => match us, its, hl, hi with | [_, _], [_], _, _ => ⟨_, rfl, rfl⟩
  have F_Views_of := fun_mk (st := s_Views_of) l_Views_of c_Views_of k_Views_of
  have b_Views_of := F_Views_of.binds (ps := ["self", "rule", "number"]) fun _ _ _ _ _ _ us hl => match us, hl with | [_, _, _], _ => rfl
  have F_holds_between := fun_mk (st := s_holds_between) l_holds_between c_holds_between k_holds_between
  have b_holds_between := F_holds_between.binds (ps := ["sign", "one", "other"]) fun _ _ _ _ _ _ us hl => match us, hl with | [_, _, _], _ => rfl
  have F_fitting := fun_mk (st := s_fitting) l_fitting c_fitting k_fitting
  have b_fitting := F_fitting.binds (ps := ["terms", "bound", "relation"]) fun _ _ _ _ _ _ us hl => match us, hl with | [_, _, _], _ => rfl
  have F_sign_holds := fun_mk (st := s_sign_holds) l_sign_holds c_sign_holds k_sign_holds
  have b_sign_holds := F_sign_holds.binds (ps := ["part", "bound"]) fun _ _ _ _ _ _ us hl => match us, hl with | [_, _], _ => rfl
  have F_reckoned_on := fun_mk (st := s_reckoned_on) l_reckoned_on c_reckoned_on k_reckoned_on
  have b_reckoned_on := F_reckoned_on.binds (ps := ["part", "bound"]) fun _ _ _ _ _ _ us hl => match us, hl with | [_, _], _ => rfl
  have F_widened := fun_mk (st := s_widened) l_widened c_widened k_widened
  have b_widened := F_widened.binds (ps := ["rule", "number", "bound", "views"]) fun _ _ _ _ _ _ us hl => match us, hl with | [_, _, _, _], _ => rfl
  have F_solutions : FunD K "solutions" "solutions" (defArgs s_solutions) (defBody s_solutions) (defScope s_solutions) [.non] [] A.f_solutions A.d_solutions := ⟨⟨_, _, _, _, _, _, _, _, _, _, rfl, l_solutions, c_solutions, v_solutions, .inl rfl⟩, k_solutions⟩
  have b_solutions : Binds K A.d_solutions ["rule", "order", "views", "start"] [] := by
    obtain ⟨ds, hv, hb⟩ := F_solutions.binds1 (ps := ["rule", "order", "views", "start"]) 4 1 (List.cons_ne_nil _ _) rfl fun _ _ _ _ _ _ _ us its hl hi => match us, its, hl, hi with | [_, _, _, _], [_], _, _ => ⟨_, rfl, rfl⟩
    cases hv
    exact hb
  have bd_solutions := F_solutions.binds1 (ps := ["rule", "order", "views", "start"]) 3 0 (List.cons_ne_nil _ _) rfl fun _ _ _ _ _ _ _ us its hl hi => match us, its, hl, hi with | [_, _, _], [_], _, _ => ⟨_, rfl, rfl⟩
  have F_Relation_init : FunD K "__init__" "Relation.__init__" (defArgs s_Relation_init) (defBody s_Relation_init) (defScope s_Relation_init) [(.ref A.e_Relation_init)] [] A.f_Relation_init A.d_Relation_init := ⟨⟨_, _, _, _, _, _, _, _, _, _, rfl, l_Relation_init, c_Relation_init, v_Relation_init, .inl rfl⟩, k_Relation_init⟩
  have b_Relation_init : Binds K A.d_Relation_init ["self", "rows"] [] := by
    obtain ⟨ds, hv, hb⟩ := F_Relation_init.binds1 (ps := ["self", "rows"]) 2 1 (List.cons_ne_nil _ _) rfl fun _ _ _ _ _ _ _ us its hl hi => match us, its, hl, hi with | [_, _], [_], _, _ => ⟨_, rfl, rfl⟩
    cases hv
    exact hb
  have bd_Relation_init := F_Relation_init.binds1 (ps := ["self", "rows"]) 1 0 (List.cons_ne_nil _ _) rfl fun _ _ _ _ _ _ _ us its hl hi => match us, its, hl, hi with | [_], [_], _, _ => ⟨_, rfl, rfl⟩
  have F_Relation_has := fun_mk (st := s_Relation_has) l_Relation_has c_Relation_has k_Relation_has
  have b_Relation_has := F_Relation_has.binds (ps := ["self", "row"]) fun _ _ _ _ _ _ us hl => match us, hl with | [_, _], _ => rfl
  have F_Relation_add := fun_mk (st := s_Relation_add) l_Relation_add c_Relation_add k_Relation_add
  have b_Relation_add := F_Relation_add.binds (ps := ["self", "row"]) fun _ _ _ _ _ _ us hl => match us, hl with | [_, _], _ => rfl
  have F_Relation_look := fun_mk (st := s_Relation_look) l_Relation_look c_Relation_look k_Relation_look
  have b_Relation_look := F_Relation_look.binds (ps := ["self", "places", "values"]) fun _ _ _ _ _ _ us hl => match us, hl with | [_, _, _], _ => rfl
  have F_Store_init := fun_mk (st := s_Store_init) l_Store_init c_Store_init k_Store_init
  have b_Store_init := F_Store_init.binds (ps := ["self"]) fun _ _ _ _ _ _ us hl => match us, hl with | [_], _ => rfl
  have F_Store_of := fun_mk (st := s_Store_of) l_Store_of c_Store_of k_Store_of
  have b_Store_of := F_Store_of.binds (ps := ["self", "name"]) fun _ _ _ _ _ _ us hl => match us, hl with | [_, _], _ => rfl
  have F_store_of := fun_mk (st := s_store_of) l_store_of c_store_of k_store_of
  have b_store_of := F_store_of.binds (ps := ["facts"]) fun _ _ _ _ _ _ us hl => match us, hl with | [_], _ => rfl
  have F_l_dice := fun_mk (st := s_l_dice) l_l_dice c_l_dice k_l_dice
  have b_l_dice := F_l_dice.binds (ps := ["cell"]) fun _ _ _ _ _ _ us hl => match us, hl with | [_], _ => rfl
  have F_l_roll := fun_mk (st := s_l_roll) l_l_roll c_l_roll k_l_roll
  have b_l_roll := F_l_roll.binds (ps := ["dice", "many"]) fun _ _ _ _ _ _ us hl => match us, hl with | [_, _], _ => rfl
  have F_l_rounds := fun_mk (st := s_l_rounds) l_l_rounds c_l_rounds k_l_rounds
  have b_l_rounds := F_l_rounds.binds (ps := ["script", "most"]) fun _ _ _ _ _ _ us hl => match us, hl with | [_, _], _ => rfl
  have F_l_value := fun_mk (st := s_l_value) l_l_value c_l_value k_l_value
  have b_l_value := F_l_value.binds (ps := ["dice"]) fun _ _ _ _ _ _ us hl => match us, hl with | [_], _ => rfl
  have F_l_less := fun_mk (st := s_l_less) l_l_less c_l_less k_l_less
  have b_l_less := F_l_less.binds (ps := ["one", "other"]) fun _ _ _ _ _ _ us hl => match us, hl with | [_, _], _ => rfl
  have F_law := fun_mk (st := s_law) l_law c_law k_law
  have b_law := F_law.binds (ps := ["script"]) fun _ _ _ _ _ _ us hl => match us, hl with | [_], _ => rfl
  have T : Txt K mg A := {
    F_Term_init := F_Term_init,
    b_Term_init := b_Term_init,
    bd_Term_init := bd_Term_init,
    F_Term_is_variable := F_Term_is_variable,
    b_Term_is_variable := b_Term_is_variable,
    e_Term_is_variable := ⟨a_Term_is_variable, i_Term_is_variable, k_Term_is_variable⟩,
    F_Term_under := F_Term_under,
    b_Term_under := b_Term_under,
    e_Term_under := ⟨a_Term_under, i_Term_under, k_Term_under⟩,
    F_Term_known := F_Term_known,
    b_Term_known := b_Term_known,
    e_Term_known := ⟨a_Term_known, i_Term_known, k_Term_known⟩,
    F_var := F_var,
    b_var := b_var,
    m_var := PySem.W.mg_of X G a_var,
    F_val := F_val,
    b_val := b_val,
    m_val := PySem.W.mg_of X G a_val,
    F_is_number := F_is_number,
    b_is_number := b_is_number,
    m_is_number := PySem.W.mg_of X G a_is_number,
    F_value_key := F_value_key,
    b_value_key := b_value_key,
    m_value_key := PySem.W.mg_of X G a_value_key,
    F_names_in := F_names_in,
    b_names_in := b_names_in,
    m_names_in := PySem.W.mg_of X G a_names_in,
    F_matched := F_matched,
    b_matched := b_matched,
    m_matched := PySem.W.mg_of X G a_matched,
    F_pattern := F_pattern,
    b_pattern := b_pattern,
    m_pattern := PySem.W.mg_of X G a_pattern,
    F_Literal_init := F_Literal_init,
    b_Literal_init := b_Literal_init,
    F_Literal_names := F_Literal_names,
    b_Literal_names := b_Literal_names,
    e_Literal_names := ⟨a_Literal_names, i_Literal_names, k_Literal_names⟩,
    F_Rule_init := F_Rule_init,
    b_Rule_init := b_Rule_init,
    bd_Rule_init := bd_Rule_init,
    F_how_often := F_how_often,
    b_how_often := b_how_often,
    m_how_often := PySem.W.mg_of X G a_how_often,
    F_pos := F_pos,
    b_pos := b_pos,
    m_pos := PySem.W.mg_of X G a_pos,
    F_held := F_held,
    b_held := b_held,
    m_held := PySem.W.mg_of X G a_held,
    F_let := F_let,
    b_let := b_let,
    m_let := PySem.W.mg_of X G a_let,
    F_reckoned := F_reckoned,
    b_reckoned := b_reckoned,
    m_reckoned := PySem.W.mg_of X G a_reckoned,
    F_bounded := F_bounded,
    b_bounded := b_bounded,
    m_bounded := PySem.W.mg_of X G a_bounded,
    F_Views_init := F_Views_init,
    b_Views_init := b_Views_init,
    bd_Views_init := bd_Views_init,
    F_Views_of := F_Views_of,
    b_Views_of := b_Views_of,
    e_Views_of := ⟨a_Views_of, i_Views_of, k_Views_of⟩,
    F_holds_between := F_holds_between,
    b_holds_between := b_holds_between,
    m_holds_between := PySem.W.mg_of X G a_holds_between,
    F_fitting := F_fitting,
    b_fitting := b_fitting,
    m_fitting := PySem.W.mg_of X G a_fitting,
    F_sign_holds := F_sign_holds,
    b_sign_holds := b_sign_holds,
    m_sign_holds := PySem.W.mg_of X G a_sign_holds,
    F_reckoned_on := F_reckoned_on,
    b_reckoned_on := b_reckoned_on,
    m_reckoned_on := PySem.W.mg_of X G a_reckoned_on,
    F_widened := F_widened,
    b_widened := b_widened,
    m_widened := PySem.W.mg_of X G a_widened,
    F_solutions := F_solutions,
    b_solutions := b_solutions,
    bd_solutions := bd_solutions,
    m_solutions := PySem.W.mg_of X G a_solutions,
    F_Relation_init := F_Relation_init,
    b_Relation_init := b_Relation_init,
    sq_Relation_init := fun H => .inr ⟨_, _, _, le_Relation_init, rfl, rfl, Nat.zero_le _, .nil⟩,
    bd_Relation_init := bd_Relation_init,
    F_Relation_has := F_Relation_has,
    b_Relation_has := b_Relation_has,
    e_Relation_has := ⟨a_Relation_has, i_Relation_has, k_Relation_has⟩,
    F_Relation_add := F_Relation_add,
    b_Relation_add := b_Relation_add,
    e_Relation_add := ⟨a_Relation_add, i_Relation_add, k_Relation_add⟩,
    F_Relation_look := F_Relation_look,
    b_Relation_look := b_Relation_look,
    e_Relation_look := ⟨a_Relation_look, i_Relation_look, k_Relation_look⟩,
    F_Store_init := F_Store_init,
    b_Store_init := b_Store_init,
    F_Store_of := F_Store_of,
    b_Store_of := b_Store_of,
    e_Store_of := ⟨a_Store_of, i_Store_of, k_Store_of⟩,
    F_store_of := F_store_of,
    b_store_of := b_store_of,
    m_store_of := PySem.W.mg_of X G a_store_of,
    F_l_dice := F_l_dice,
    b_l_dice := b_l_dice,
    m_l_dice := PySem.W.mg_of X G a_l_dice,
    F_l_roll := F_l_roll,
    b_l_roll := b_l_roll,
    m_l_roll := PySem.W.mg_of X G a_l_roll,
    F_l_rounds := F_l_rounds,
    b_l_rounds := b_l_rounds,
    m_l_rounds := PySem.W.mg_of X G a_l_rounds,
    F_l_value := F_l_value,
    b_l_value := b_l_value,
    m_l_value := PySem.W.mg_of X G a_l_value,
    F_l_less := F_l_less,
    b_l_less := b_l_less,
    m_l_less := PySem.W.mg_of X G a_l_less,
    F_law := F_law,
    b_law := b_law,
    m_law := PySem.W.mg_of X G a_law,
    m_Term := PySem.W.mg_of X G aC_Term,
    cl_Term := ⟨pg_Term, hd_Term, po_Term, sa_Term⟩,
    M_Term := ⟨mk_Term, a_Term_init, i_Term_init, kc_Term⟩,
    n_Term_name := n_Term_name,
    n_Term_value := n_Term_value,
    m_Literal := PySem.W.mg_of X G aC_Literal,
    cl_Literal := ⟨pg_Literal, hd_Literal, po_Literal, sa_Literal⟩,
    M_Literal := ⟨mk_Literal, a_Literal_init, i_Literal_init, kc_Literal⟩,
    n_Literal_kind := n_Literal_kind,
    n_Literal_name := n_Literal_name,
    n_Literal_terms := n_Literal_terms,
    n_Literal_own := n_Literal_own,
    m_Rule := PySem.W.mg_of X G aC_Rule,
    cl_Rule := ⟨pg_Rule, hd_Rule, po_Rule, sa_Rule⟩,
    M_Rule := ⟨mk_Rule, a_Rule_init, i_Rule_init, kc_Rule⟩,
    n_Rule_name := n_Rule_name,
    n_Rule_terms := n_Rule_terms,
    n_Rule_body := n_Rule_body,
    n_Rule_summed := n_Rule_summed,
    n_Rule_stands := n_Rule_stands,
    m_Views := PySem.W.mg_of X G aC_Views,
    cl_Views := ⟨pg_Views, hd_Views, po_Views, sa_Views⟩,
    M_Views := ⟨mk_Views, a_Views_init, i_Views_init, kc_Views⟩,
    n_Views_store := n_Views_store,
    n_Views_own := n_Views_own,
    m_Relation := PySem.W.mg_of X G aC_Relation,
    cl_Relation := ⟨pg_Relation, hd_Relation, po_Relation, sa_Relation⟩,
    M_Relation := ⟨mk_Relation, a_Relation_init, i_Relation_init, kc_Relation⟩,
    n_Relation_held := n_Relation_held,
    n_Relation_tables := n_Relation_tables,
    m_Store := PySem.W.mg_of X G aC_Store,
    cl_Store := ⟨pg_Store, hd_Store, po_Store, sa_Store⟩,
    M_Store := ⟨mk_Store, a_Store_init, i_Store_init, kc_Store⟩,
    n_Store_relations := n_Store_relations,
    g_DEEDS := PySem.W.mg_of X G g_DEEDS,
    g_MOST := PySem.W.mg_of X G g_MOST,
    g_SIGNS := PySem.W.mg_of X G g_SIGNS,
    sq_DEEDS := fun H => .inr ⟨_, _, _, lt_DEEDS, rfl, rfl, (by show 3 ≤ sizeLine; decide), (.cons ⟨_, rfl⟩ (.cons ⟨_, rfl⟩ (.cons ⟨_, rfl⟩ .nil)))⟩,
    sq_SIGNS := fun H => .inr ⟨_, _, _, lt_SIGNS, rfl, rfl, (by show 4 ≤ sizeLine; decide), (.cons ⟨_, rfl⟩ (.cons ⟨_, rfl⟩ (.cons ⟨_, rfl⟩ (.cons ⟨_, rfl⟩ .nil))))⟩,
    z_abs := PySem.W.mg_none_of X G z_abs,
    z_dict := PySem.W.mg_none_of X G z_dict,
    z_enumerate := PySem.W.mg_none_of X G z_enumerate,
    z_int := PySem.W.mg_none_of X G z_int,
    z_isinstance := PySem.W.mg_none_of X G z_isinstance,
    z_len := PySem.W.mg_none_of X G z_len,
    z_list := PySem.W.mg_none_of X G z_list,
    z_range := PySem.W.mg_none_of X G z_range,
    z_tuple := PySem.W.mg_none_of X G z_tuple,
    z_zip := PySem.W.mg_none_of X G z_zip }
  exact ⟨A.d_law, fun s v => .of_eq rfl, fun base _ _ => ok_law T⟩
theorem walk {l : PySem.W.OpenLaw} {q : Program} {loose : List Str} {XP : (Str → Option Value) → Heap → Prop} {YP : World → Heap → Prop} {d : DefRec} {K : Params → PySem.W.Frag} (hn : l.most = some 63) (hdf : d.params.defaults = [])
    (hY : ∀ (w : World) (h : Heap), YP w h → (K w.params).In h)
    (F : ∀ (w : World) (mg : Str → Option Value) (fa : Addr) (h : Heap), (K w.params).In h → h.Ns mainGlobals mg → mg d.name = some (.ref fa) →
      ∃ fd : FuncData, (∀ (s : Shared) (u : Value), BindsTo s fd ⟨[u], []⟩ [("script", u)]) ∧ ∀ base : Heap, (K w.params).In base → base.Ns mainGlobals mg → FnOk l.prog w (K w.params) mg base CX0 7 fa fd ["script"] (spLaw (K w.params))) :
    PySem.W.WalkO q loose XP YP l.row.toRowW d [] (fun f vs => PySem.call f vs) :=
  L2.walk_of (n := 63) (k := 7) (x := "script") (CX := fun _ => CX0) (sp := fun w => spLaw (K w.params)) hn (by decide) hdf ⟨rfl, by decide, by decide⟩ hY F (fun _ _ a ns hl _ hS => ⟨a, ns, rfl, hS, hl, fun _ => rfl⟩) fun _ _ _ _ _ z => z
end Toy

open PySem PySem.W PyProof.Rows in
set_option maxRecDepth 100000 in
set_option maxHeartbeats 0 in
theorem PySem.Challenge.cw_deducehall_k13_values_held_and_reckoned_holds : PySem.Challenge.rw_deducehall_k13_values_held_and_reckoned.Holds := by
  w_on; o_law; k_head; (case hw => w_witness2)
  k_fill
  refine Toy.walk (l := PySem.Challenge.rw_deducehall_k13_values_held_and_reckoned) rfl rfl (fun w h Y => (by first | exact PySem.W.km_in_of Y | exact PySem.W.kIn_of Y)) ?F
  case F =>
    intro w mg fa h KX G hmg
    refine' Toy.all_mk KX G hmg ?aC_Term ?pg_Term ?hd_Term ?po_Term ?sa_Term ?mk_Term ?kc_Term ?n_Term_name ?n_Term_value ?aC_Literal ?pg_Literal ?hd_Literal ?po_Literal ?sa_Literal ?mk_Literal ?kc_Literal ?n_Literal_kind ?n_Literal_name ?n_Literal_terms ?n_Literal_own ?aC_Rule ?pg_Rule ?hd_Rule ?po_Rule ?sa_Rule ?mk_Rule ?kc_Rule ?n_Rule_name ?n_Rule_terms ?n_Rule_body ?n_Rule_summed ?n_Rule_stands ?aC_Views ?pg_Views ?hd_Views ?po_Views ?sa_Views ?mk_Views ?kc_Views ?n_Views_store ?n_Views_own ?aC_Relation ?pg_Relation ?hd_Relation ?po_Relation ?sa_Relation ?mk_Relation ?kc_Relation ?n_Relation_held ?n_Relation_tables ?aC_Store ?pg_Store ?hd_Store ?po_Store ?sa_Store ?mk_Store ?kc_Store ?n_Store_relations ?a_Term_init ?i_Term_init ?l_Term_init ?v_Term_init ?c_Term_init ?k_Term_init ?a_Term_is_variable ?i_Term_is_variable ?l_Term_is_variable ?c_Term_is_variable ?k_Term_is_variable ?a_Term_under ?i_Term_under ?l_Term_under ?c_Term_under ?k_Term_under ?a_Term_known ?i_Term_known ?l_Term_known ?c_Term_known ?k_Term_known ?a_var ?l_var ?c_var ?k_var ?a_val ?l_val ?c_val ?k_val ?a_is_number ?l_is_number ?c_is_number ?k_is_number ?a_value_key ?l_value_key ?c_value_key ?k_value_key ?a_names_in ?l_names_in ?c_names_in ?k_names_in ?a_matched ?l_matched ?c_matched ?k_matched ?a_pattern ?l_pattern ?c_pattern ?k_pattern ?a_Literal_init ?i_Literal_init ?l_Literal_init ?c_Literal_init ?k_Literal_init ?a_Literal_names ?i_Literal_names ?l_Literal_names ?c_Literal_names ?k_Literal_names ?a_Rule_init ?i_Rule_init ?l_Rule_init ?v_Rule_init ?c_Rule_init ?k_Rule_init ?a_how_often ?l_how_often ?c_how_often ?k_how_often ?a_pos ?l_pos ?c_pos ?k_pos ?a_held ?l_held ?c_held ?k_held ?a_let ?l_let ?c_let ?k_let ?a_reckoned ?l_reckoned ?c_reckoned ?k_reckoned ?a_bounded ?l_bounded ?c_bounded ?k_bounded ?a_Views_init ?i_Views_init ?l_Views_init ?v_Views_init ?c_Views_init ?k_Views_init ?a_Views_of ?i_Views_of ?l_Views_of ?c_Views_of ?k_Views_of ?a_holds_between ?l_holds_between ?c_holds_between ?k_holds_between ?a_fitting ?l_fitting ?c_fitting ?k_fitting ?a_sign_holds ?l_sign_holds ?c_sign_holds ?k_sign_holds ?a_reckoned_on ?l_reckoned_on ?c_reckoned_on ?k_reckoned_on ?a_widened ?l_widened ?c_widened ?k_widened ?a_solutions ?l_solutions ?v_solutions ?c_solutions ?k_solutions ?a_Relation_init ?i_Relation_init ?l_Relation_init ?v_Relation_init ?le_Relation_init ?c_Relation_init ?k_Relation_init ?a_Relation_has ?i_Relation_has ?l_Relation_has ?c_Relation_has ?k_Relation_has ?a_Relation_add ?i_Relation_add ?l_Relation_add ?c_Relation_add ?k_Relation_add ?a_Relation_look ?i_Relation_look ?l_Relation_look ?c_Relation_look ?k_Relation_look ?a_Store_init ?i_Store_init ?l_Store_init ?c_Store_init ?k_Store_init ?a_Store_of ?i_Store_of ?l_Store_of ?c_Store_of ?k_Store_of ?a_store_of ?l_store_of ?c_store_of ?k_store_of ?a_l_dice ?l_l_dice ?c_l_dice ?k_l_dice ?a_l_roll ?l_l_roll ?c_l_roll ?k_l_roll ?a_l_rounds ?l_l_rounds ?c_l_rounds ?k_l_rounds ?a_l_value ?l_l_value ?c_l_value ?k_l_value ?a_l_less ?l_l_less ?c_l_less ?k_l_less ?a_law ?l_law ?c_law ?k_law ?z_abs ?z_dict ?z_enumerate ?z_int ?z_isinstance ?z_len ?z_list ?z_range ?z_tuple ?z_zip ?g_DEEDS ?lt_DEEDS ?g_MOST ?g_SIGNS ?lt_SIGNS
    (case aC_Term => k_is)
    (case pg_Term => k_is)
    (case hd_Term => k_is)
    (case po_Term => k_is)
    (case sa_Term => k_is)
    (case mk_Term => k_is)
    (case kc_Term => k_is)
    (case n_Term_name => k_is)
    (case n_Term_value => k_is)
    (case aC_Literal => k_is)
    (case pg_Literal => k_is)
    (case hd_Literal => k_is)
    (case po_Literal => k_is)
    (case sa_Literal => k_is)
    (case mk_Literal => k_is)
    (case kc_Literal => k_is)
    (case n_Literal_kind => k_is)
    (case n_Literal_name => k_is)
    (case n_Literal_terms => k_is)
    (case n_Literal_own => k_is)
    (case aC_Rule => k_is)
    (case pg_Rule => k_is)
    (case hd_Rule => k_is)
    (case po_Rule => k_is)
    (case sa_Rule => k_is)
    (case mk_Rule => k_is)
    (case kc_Rule => k_is)
    (case n_Rule_name => k_is)
    (case n_Rule_terms => k_is)
    (case n_Rule_body => k_is)
    (case n_Rule_summed => k_is)
    (case n_Rule_stands => k_is)
    (case aC_Views => k_is)
    (case pg_Views => k_is)
    (case hd_Views => k_is)
    (case po_Views => k_is)
    (case sa_Views => k_is)
    (case mk_Views => k_is)
    (case kc_Views => k_is)
    (case n_Views_store => k_is)
    (case n_Views_own => k_is)
    (case aC_Relation => k_is)
    (case pg_Relation => k_is)
    (case hd_Relation => k_is)
    (case po_Relation => k_is)
    (case sa_Relation => k_is)
    (case mk_Relation => k_is)
    (case kc_Relation => k_is)
    (case n_Relation_held => k_is)
    (case n_Relation_tables => k_is)
    (case aC_Store => k_is)
    (case pg_Store => k_is)
    (case hd_Store => k_is)
    (case po_Store => k_is)
    (case sa_Store => k_is)
    (case mk_Store => k_is)
    (case kc_Store => k_is)
    (case n_Store_relations => k_is)
    (case a_Term_init => k_is)
    (case i_Term_init => k_is)
    (case l_Term_init => k_is)
    (case v_Term_init => exact .inr ⟨List.cons_ne_nil _ _, _, _, _, _, rfl, (by k_is), rfl, .cons rfl .nil⟩)
    (case c_Term_init => k_is)
    (case k_Term_init => k_is)
    (case a_Term_is_variable => k_is)
    (case i_Term_is_variable => k_is)
    (case l_Term_is_variable => k_is)
    (case c_Term_is_variable => k_is)
    (case k_Term_is_variable => k_is)
    (case a_Term_under => k_is)
    (case i_Term_under => k_is)
    (case l_Term_under => k_is)
    (case c_Term_under => k_is)
    (case k_Term_under => k_is)
    (case a_Term_known => k_is)
    (case i_Term_known => k_is)
    (case l_Term_known => k_is)
    (case c_Term_known => k_is)
    (case k_Term_known => k_is)
    (case a_var => k_is)
    (case l_var => k_is)
    (case c_var => k_is)
    (case k_var => k_is)
    (case a_val => k_is)
    (case l_val => k_is)
    (case c_val => k_is)
    (case k_val => k_is)
    (case a_is_number => k_is)
    (case l_is_number => k_is)
    (case c_is_number => k_is)
    (case k_is_number => k_is)
    (case a_value_key => k_is)
    (case l_value_key => k_is)
    (case c_value_key => k_is)
    (case k_value_key => k_is)
    (case a_names_in => k_is)
    (case l_names_in => k_is)
    (case c_names_in => k_is)
    (case k_names_in => k_is)
    (case a_matched => k_is)
    (case l_matched => k_is)
    (case c_matched => k_is)
    (case k_matched => k_is)
    (case a_pattern => k_is)
    (case l_pattern => k_is)
    (case c_pattern => k_is)
    (case k_pattern => k_is)
    (case a_Literal_init => k_is)
    (case i_Literal_init => k_is)
    (case l_Literal_init => k_is)
    (case c_Literal_init => k_is)
    (case k_Literal_init => k_is)
    (case a_Literal_names => k_is)
    (case i_Literal_names => k_is)
    (case l_Literal_names => k_is)
    (case c_Literal_names => k_is)
    (case k_Literal_names => k_is)
    (case a_Rule_init => k_is)
    (case i_Rule_init => k_is)
    (case l_Rule_init => k_is)
    (case v_Rule_init => exact .inr ⟨List.cons_ne_nil _ _, _, _, _, _, rfl, (by k_is), rfl, .cons rfl .nil⟩)
    (case c_Rule_init => k_is)
    (case k_Rule_init => k_is)
    (case a_how_often => k_is)
    (case l_how_often => k_is)
    (case c_how_often => k_is)
    (case k_how_often => k_is)
    (case a_pos => k_is)
    (case l_pos => k_is)
    (case c_pos => k_is)
    (case k_pos => k_is)
    (case a_held => k_is)
    (case l_held => k_is)
    (case c_held => k_is)
    (case k_held => k_is)
    (case a_let => k_is)
    (case l_let => k_is)
    (case c_let => k_is)
    (case k_let => k_is)
    (case a_reckoned => k_is)
    (case l_reckoned => k_is)
    (case c_reckoned => k_is)
    (case k_reckoned => k_is)
    (case a_bounded => k_is)
    (case l_bounded => k_is)
    (case c_bounded => k_is)
    (case k_bounded => k_is)
    (case a_Views_init => k_is)
    (case i_Views_init => k_is)
    (case l_Views_init => k_is)
    (case v_Views_init => exact .inr ⟨List.cons_ne_nil _ _, _, _, _, _, rfl, (by k_is), rfl, .cons rfl .nil⟩)
    (case c_Views_init => k_is)
    (case k_Views_init => k_is)
    (case a_Views_of => k_is)
    (case i_Views_of => k_is)
    (case l_Views_of => k_is)
    (case c_Views_of => k_is)
    (case k_Views_of => k_is)
    (case a_holds_between => k_is)
    (case l_holds_between => k_is)
    (case c_holds_between => k_is)
    (case k_holds_between => k_is)
    (case a_fitting => k_is)
    (case l_fitting => k_is)
    (case c_fitting => k_is)
    (case k_fitting => k_is)
    (case a_sign_holds => k_is)
    (case l_sign_holds => k_is)
    (case c_sign_holds => k_is)
    (case k_sign_holds => k_is)
    (case a_reckoned_on => k_is)
    (case l_reckoned_on => k_is)
    (case c_reckoned_on => k_is)
    (case k_reckoned_on => k_is)
    (case a_widened => k_is)
    (case l_widened => k_is)
    (case c_widened => k_is)
    (case k_widened => k_is)
    (case a_solutions => k_is)
    (case l_solutions => k_is)
    (case v_solutions => exact .inr ⟨List.cons_ne_nil _ _, _, _, _, _, rfl, (by k_is), rfl, .cons rfl .nil⟩)
    (case c_solutions => k_is)
    (case k_solutions => k_is)
    (case a_Relation_init => k_is)
    (case i_Relation_init => k_is)
    (case l_Relation_init => k_is)
    (case v_Relation_init => exact .inr ⟨List.cons_ne_nil _ _, _, _, _, _, rfl, (by k_is), rfl, .cons rfl .nil⟩)
    (case le_Relation_init => k_is)
    (case c_Relation_init => k_is)
    (case k_Relation_init => k_is)
    (case a_Relation_has => k_is)
    (case i_Relation_has => k_is)
    (case l_Relation_has => k_is)
    (case c_Relation_has => k_is)
    (case k_Relation_has => k_is)
    (case a_Relation_add => k_is)
    (case i_Relation_add => k_is)
    (case l_Relation_add => k_is)
    (case c_Relation_add => k_is)
    (case k_Relation_add => k_is)
    (case a_Relation_look => k_is)
    (case i_Relation_look => k_is)
    (case l_Relation_look => k_is)
    (case c_Relation_look => k_is)
    (case k_Relation_look => k_is)
    (case a_Store_init => k_is)
    (case i_Store_init => k_is)
    (case l_Store_init => k_is)
    (case c_Store_init => k_is)
    (case k_Store_init => k_is)
    (case a_Store_of => k_is)
    (case i_Store_of => k_is)
    (case l_Store_of => k_is)
    (case c_Store_of => k_is)
    (case k_Store_of => k_is)
    (case a_store_of => k_is)
    (case l_store_of => k_is)
    (case c_store_of => k_is)
    (case k_store_of => k_is)
    (case a_l_dice => k_is)
    (case l_l_dice => k_is)
    (case c_l_dice => k_is)
    (case k_l_dice => k_is)
    (case a_l_roll => k_is)
    (case l_l_roll => k_is)
    (case c_l_roll => k_is)
    (case k_l_roll => k_is)
    (case a_l_rounds => k_is)
    (case l_l_rounds => k_is)
    (case c_l_rounds => k_is)
    (case k_l_rounds => k_is)
    (case a_l_value => k_is)
    (case l_l_value => k_is)
    (case c_l_value => k_is)
    (case k_l_value => k_is)
    (case a_l_less => k_is)
    (case l_l_less => k_is)
    (case c_l_less => k_is)
    (case k_l_less => k_is)
    (case a_law => k_is)
    (case l_law => k_is)
    (case c_law => k_is)
    (case k_law => k_is)
    (case z_abs => k_is)
    (case z_dict => k_is)
    (case z_enumerate => k_is)
    (case z_int => k_is)
    (case z_isinstance => k_is)
    (case z_len => k_is)
    (case z_list => k_is)
    (case z_range => k_is)
    (case z_tuple => k_is)
    (case z_zip => k_is)
    (case g_DEEDS => k_is)
    (case lt_DEEDS => k_is)
    (case g_MOST => k_is)
    (case g_SIGNS => k_is)
    (case lt_SIGNS => k_is)

