import PyProof.Rows.All
import Wide.All
import OpenK.AllK
import Wide.FinOn
import PyProof.EqAt
import PyProof.EqKinds
import PyProof.TupleCall
import PyProof.TupleOfSeq
import KE.KLam
import KE.KDictSum
import HandS.ForMost
import HandS.Defaults
import HandS.Deep
import HandS.Codes
import HandS.Zip
import HandS.Conv
import HandS.Exc
import HandS.ForExc
import HandS.TryOnly
import HandS.TryMany
import HandS.Lambda
import HandS.EndOwn
import HandS.RaiseMore
import HandS.FStr
import HandS.IsInst
import HandS.TupAny
import KE.GoesMore
import HandS.Iter
import HandS.WordsExc
import HandS.WordsList
import HandS.Wide
import HandS.ExcIs
import PySem.Challenge.RW_deducehall_k06_safe_rules
set_option Elab.async false
set_option linter.all false
set_option maxRecDepth 100000
set_option maxHeartbeats 4000000
/-! ## own rules: tuple of a dict, extend by a tuple, sorted of a tuple of words -/
namespace L2
open PySem PySem.Spec PyProof.Rows
section
variable {prog : Program} {w : World} {A : Around} {E : Value → Shared → Prop} {s : Shared} {d : Addr} {n : Nat} {P : Nat → Value → Prop} {OK : Heap → Prop}
theorem code_tuple_new_src {Q₁ : Value → Shared → Prop} (K : PySem.W.KdlSrc prog w "dict" d d n P OK) (hh : A.handled = none) (hok : OK s.heap) (hn : n ≤ sizeLine)
    (h : ∀ (h' : Heap) (tk : Nat) (acc : Array Value), (∀ b o, s.heap.get? b = some o → h'.get? b = some o) → ItemsOf P acc n →
      Q₁ (.ref h'.objs.size) { s with heap := h'.push { cls := .type "tuple", data := .seq acc }, toks := tk }) :
    codeAny (model prog w) A (.call (.builtin "tuple.__new__") ⟨[.type "tuple", .ref d], []⟩) (wants Q₁ E) s := by
  refine codeAny_of_tree ?_
  show wpAny _ A.in1 (do checkBuiltinCall "tuple.__new__" ⟨[.type "tuple", .ref d], []⟩; again (.builtin "tuple.__new__" ⟨[.type "tuple", .ref d], []⟩)) _ _ s
  refine wpAny_bind (wpAny_of_eq (F.newCall_tuple_1 _) (wpAny_pure ⟨plainId_quiet F.plain_tuple_new _, codeAny_builtin F.entry_tuple_new ?_⟩))
  rw [Around.under_plainId F.plain_tuple_new _]
  have hsub := sub_tuple_self
  have hinit := init_tuple_lookup
  have hmh := madeHere_tuple
  have hTI : s.TypeIs (.ref d) "dict" := K.type s hok
  have hh1 : A.in1.handled = none := hh
  wp_walk using wpAny_typeOf hTI, PySem.W.kdu_collect (A := A.in1) K hh1 hok hn
  intro h' tk acc hk hacc
  show wpAny _ _ (Builtin.Tuple.tupleExact acc.toList.toArray >>= fun v => ret v) _ _ _
  unfold Builtin.Tuple.tupleExact
  refine wpAny_bind (wpAny_newObj_type ?_ (by show acc.toList.toArray.size ≤ sizeLine; simp only [Array.toArray_toList]; rw [hacc.1]; exact hn))
  refine wpAny_pure ?_
  have e : acc.toList.toArray = acc := by simp
  rw [e]
  exact h h' tk acc hk hacc
theorem call_tuple_src {Q : Value → Shared → Prop} (K : PySem.W.KdlSrc prog w "dict" d d n P OK) (hh : A.handled = none) (hok : OK s.heap) (hn : n ≤ sizeLine)
    (hQ : ∀ (h' : Heap) (tk : Nat) (acc : Array Value), (∀ b o, s.heap.get? b = some o → h'.get? b = some o) → ItemsOf P acc n →
      Q (.ref h'.objs.size) { s with heap := h'.push { cls := .type "tuple", data := .seq acc }, toks := tk }) :
    wpAny (model prog w) A (call (.type "tuple") [.ref d]) Q E s := by
  refine callType_codes (Q₁ := fun obj s₁ => s₁.TypeIs obj "tuple" ∧ Q obj s₁) F.called_tuple (F.typeCall_tuple_1 _) F.entry_object_init
    (code_tuple_new_src (A := A.in1) K hh hok hn fun h' tk acc hk hacc => ⟨⟨_, Heap.get?_push_size _ rfl, rfl⟩, hQ h' tk acc hk hacc⟩) fun obj s₁ h₁ => ?_
  exact ⟨h₁.1, F.args_object_init_2 obj _, object_init_meets F.called_tuple.init.lookup F.called_tuple.made (by decide) prog w A.in1 _ s₁ ⟨h₁.1, rfl, h₁.2⟩⟩
end
/-- tuple(d), d a dict of ints and words -/
def rTupD : List V → Hp → VK → Prop := fun xs H Q => ∃ p kvs, xs = [.ref p] ∧ H p = some (.dK kvs) ∧ ∀ q, H q = none → Q (.ref q) (upd H q (.tup (kvs.map fun kv => kV kv.1)))
theorem call_tuple_dK {X : Cx} (hc : X.calm = true := by rfl) : CallR X (.type "tuple") rTupD := by
  intro pins s σ H xs us Q I r h
  obtain ⟨p, kvs, e, hk, q⟩ := h
  subst e
  obtain ⟨u, eu, rx⟩ := vals1 r
  subst eu
  obtain rfl : u = Value.ref p := rx
  obtain ⟨z, lo, vs, rk, hd⟩ := (show ObjOk X.prog X.w H s.heap p (.dK kvs) from I.hok p _ hk)
  obtain ⟨ep, hat⟩ := hd.dictAt
  have hl : kvs.length = vs.length := Paired.length rk
  refine call_tuple_src (PySem.W.kdl_dict (knd := mixKind X.prog X.w) (kvs := vs) (ep := ep) lo) (I.ok.hd hc) hat (by rw [← hl]; exact z) fun h' tk acc hkeep hacc => ?_
  have hv : Vals (kvs.map fun kv => kV kv.1) acc.toList := by
    have el : acc.toList.length = acc.size := by simp
    refine vals_of_at (by rw [List.length_map, el, hacc.1, hl]) fun j x w h1 h2 => ?_
    obtain ⟨k, y, hky, hi⟩ := hacc.2 j w (by rw [← Array.getElem?_toList]; exact h2)
    have e1 : (kvs.map (·.1))[j]? = some k := by
      rw [KV.keys rk, List.getElem?_map, hky] <;> rfl
    have e2 : (kvs.map fun kv => kV kv.1)[j]? = some (kV k) := by
      have e3 : (kvs.map fun kv => kV kv.1) = (kvs.map (·.1)).map kV := by rw [List.map_map] <;> rfl
      rw [e3, List.getElem?_map, e1] <;> rfl
    rw [e2] at h1
    cases h1
    exact keyIs_rel hi
  have I1 : Inv X pins σ H { s with heap := h', toks := tk } := I.kept hkeep
  have I2 : Inv X pins σ (upd H h'.objs.size (.tup (kvs.map fun kv => kV kv.1))) { s with heap := h'.push { cls := .type "tuple", data := .seq acc }, toks := tk } :=
    I1.laid (t' := tk) (fun b o e => Heap.get?_push_of_some _ e) (Nat.le_refl _) (show ObjOk X.prog X.w _ _ _ (.tup (kvs.map fun kv => kV kv.1)) from ⟨by rw [List.length_map]; exact z, acc.toList, hv, by rw [Array.toArray_toList]; exact IsTup.new _ _⟩)
  exact ⟨.ref h'.objs.size, _, I2, rfl, q _ (I1.hok.fresh (Nat.le_refl _))⟩
/-- l.extend(t), t a tuple -/
theorem list_extend_tupW (l : Addr) (items : Array Value) (n : Nat) (b : Addr) (items2 : Array Value) (n2 : Nat) (dd : Option Addr) (sl : Array (Option Value)) (hs0 : ¬(!items.isEmpty && Builtin.List.listTooLong (items.size + items2.size)) = true) (hs1 : items.size ≤ sizeLine) (hs2 : items.size + items2.size ≤ sizeLine + 1) :
    Meets (Builtin.«list.extend» ⟨[.ref l, .ref b], []⟩) (fun _ R s => s.heap.get? l = some { cls := .type "list", dict := none, data := .seq items n, slots := #[] } ∧ s.heap.get? b = some { cls := .type "tuple", dict := dd, data := .seq items2 n2, slots := sl } ∧ R (.ok (.ret Value.none)) { s with heap := s.heap.update l (Obj.mapSeq fun x => x ++ items2), toks := s.toks }) :=
  .of_wp fun prog w A R s h => by
    obtain ⟨hp, g, d, tk, os⟩ := s; obtain ⟨hl, hb, h⟩ := h; have f1 := AutoSeq1.idx_int; have f2 := AutoSeq1.sub_tuple_tuple; have f3 := AutoSeq1.sub_list_list; have f4 := AutoSeq1.sub_tuple_list; have f5 := AutoSeq1.sub_list_tuple;
    have hz' : (items ++ items2).size ≤ sizeLine + 1 := by rw [Array.size_append]; exact hs2
    wp_walk using (wpAny_updateSeq hl rfl (hz := hs1) (_hz' := hz')), AutoSeq1.wpAny_loadPart' hl, AutoSeq1.wpAny_loadPart' hb; exact ⟨_, rfl, h⟩
def rExtT (K : PySem.W.Frag) : V → List V → Hp → VK → Prop := fun x vs H Q => ∃ l b xs zs, x = .ref l ∧ vs = [.ref b] ∧ H l = some (.lst xs) ∧ SqT K H b zs ∧ xs.length + zs.length ≤ sizeLine ∧ Q .non (upd H l (.lst (xs ++ zs)))
theorem mt_extendT {X : Cx} (K : PySem.W.Frag) (hK : X.K = K := by rfl) : MtM X "list.extend" (rExtT K) := by
  subst hK
  intro pins s σ H x vs v us Q I rx rv h
  obtain ⟨l, b, xs, zs, rfl, rfl, hH, hB, hz, q⟩ := h
  cases rx
  obtain ⟨u, rfl, ru⟩ := rv.one
  cases ru
  obtain ⟨z, its, n, r, hl, e⟩ := I.lstM hH
  obtain ⟨its2, r2, ⟨⟨oc, od, dt, sl⟩, e2, c2, n2, d2⟩, hz2⟩ := I.tuple hB
  simp only at c2 d2
  subst c2 d2
  have hl2 := r2.length
  have hsz : its.toArray.size + its2.toArray.size ≤ sizeLine := by rw [List.size_toArray, List.size_toArray]; omega
  have hlong : ¬ (!its.toArray.isEmpty && Builtin.List.listTooLong (its.toArray.size + its2.toArray.size)) = true := by
    rw [notLongL hsz, Bool.and_false]
    exact Bool.false_ne_true
  refine call_meets PySem.F.slot_list_extend ⟨_, e, rfl⟩ PySem.F.entry_list_extend (PySem.F.args_list_extend_2 _ _)
    (list_extend_tupW l its.toArray n b its2.toArray n2 od sl hlong (by rw [List.size_toArray]; omega) (by omega)) ⟨e, e2, ?_⟩
  refine ⟨.non, _, I.lset (its' := its ++ its2) hH e (by simp) (r.append r2) ?_, rfl, q⟩
  rw [List.length_append]
  omega
/-! sorted(t), t a tuple of words -/
section
variable {prog : Program} {w : World} {A : Around} {E : Value → Shared → Prop} {s : Shared}
theorem sorted_tup_strs {l : Addr} {vs : List Value} {ss : List Str} {Q : Value → Shared → Prop} (hl : IsTup s.heap l vs.toArray) (hS : StrsAre vs ss) (h64 : vs.length < 64)
    (h : ∀ (h1 h' : Heap) (out : Array Value) (ss' : List Str) (ep : Nat), (∀ b o', s.heap.get? b = some o' → h1.get? b = some o') → (∀ b o', h1.get? b = some o' → h'.get? b = some o') → h'.get? h1.objs.size = some (seqObj "list" out ep) → StrsAre out.toList ss' → ss'.Perm ss → sortedS ss' = true → Q (.ref h1.objs.size) { s with heap := h' }) :
    wpAny (model prog w) A (call (.builtin "sorted") [.ref l]) Q E s := by
  obtain ⟨o, ho, hc, n, hd⟩ := hl
  refine Calls.call_function_entry kind_sorted plain_sorted entry_sorted (args_sorted1 _) ?_
  unfold Builtin.«sorted»
  refine wpAny_bind (m := checkCount "sorted" 1 1 _) (wpAny_pure ?_)
  refine wpAny_bind (wpAny_collect_seq l (.inr rfl) ho hc hd (fun h1 kp => ?_) (by rw [List.size_toArray, sizeLine_eq]; omega))
  rw [List.toList_toArray]
  refine wpAny_bind (wpAny_newList ?_)
  have hoL : (h1.push (seqObj "list" vs.toArray 0)).get? h1.objs.size = some (seqObj "list" vs.toArray 0) := Heap.get?_push_size _ rfl
  refine wpAny_bind (wpAny_holding (wpAny_call_entry slot_list_sort ⟨_, hoL, rfl⟩ entry_list_sort (list_sort_treeK strKind_oneLt hoL hS.keysOf (fun v₁ v₂ rest e => keyKind_strs (by rw [← e]; exact hS)) h64 fun st' hp hs => ⟨_, rfl, ?_⟩) (args_list_sort _)))
  obtain ⟨ss', a1, a2, a3⟩ := sorted_out_str hS hp hs
  obtain ⟨ep, he⟩ := sortedHeap_at (vs := vs) (out := (arrOf st').map (·.2)) hoL
  refine wpAny_pure ⟨_, rfl, h h1 _ _ ss' ep kp (fun b o' e => ?_) he a1 a2 a3⟩
  have lt := Heap.lt_size e
  rw [sortedHeap_old (Nat.ne_of_lt lt) (by rw [size_push']; exact Nat.lt_succ_of_lt lt)]
  exact Heap.get?_push_of_some _ e
end
def rSortedT (K : PySem.W.Frag) : List V → Hp → VK → Prop := fun vs H Q => ∃ (a : Addr) (xs : List Str), vs = [V.ref a] ∧ SqT K H a (xs.map V.str) ∧ xs.length < 64 ∧
  ∀ (ys : List Str) (p : Addr), ys.Perm xs → sortedS ys = true → H p = none → Q (.ref p) (upd H p (.lst (ys.map V.str)))
theorem cr_sortedT {X : Cx} (K : PySem.W.Frag) (hK : X.K = K := by rfl) : CallR X (.builtin "sorted") (rSortedT K) := by
  subst hK
  intro pins s σ H vs us Q I r h
  obtain ⟨a, xs, rfl, hs, h64, q⟩ := h
  obtain ⟨its, rv, hl, _⟩ := I.tuple hs
  rw [Vals.ref1 r]
  have hlen0 := rv.length
  rw [List.length_map] at hlen0
  refine sorted_tup_strs hl rv.strs (by rw [← hlen0]; exact h64) fun h1 h' out ys ep kp kp2 he h1' h2 h3 => ?_
  have hlen : (ys.map V.str).length ≤ sizeLine := by rw [List.length_map, h2.length_eq]; exact small64 h64
  have I1 : Inv X pins σ H { s with heap := h1 } := I.kept (t' := s.toks) kp
  exact ⟨.ref _, upd H h1.objs.size (.lst (ys.map V.str)), I1.laid (t' := s.toks) kp2 (Nat.le_refl _) ⟨hlen, out.toList, ep, vals_of_strs h1', he⟩, rfl, q ys _ h2 h3 (I1.hok.fresh (Nat.le_refl _))⟩
end L2

set_option Elab.async false
set_option linter.all false
set_option maxRecDepth 100000
set_option maxHeartbeats 4000000
/-! ## own rules: a lambda of one parameter held in a name; told with many excepts; a def whose code's table is known -/
namespace LamX
open PySem PySem.Spec PyProof.Rows L2
/-- a lambda without captured names stands at f -/
def LamO (f : Addr) (q : Str) (params : Arguments) (body : Expr) (scope : Scope) (c' : Addr) : HO := .ext fun h => ∃ pm ctv, h.get? f = some (PySem.W.kla_obj "<lambda>" q params body scope [] pm c' ctv)
theorem lamO_ok {P : Program} {w : World} {H : Hp} {h : Heap} {f c' : Addr} {q : Str} {params : Arguments} {body : Expr} {scope : Scope} {pm ctv : Value} (e : h.get? f = some (PySem.W.kla_obj "<lambda>" q params body scope [] pm c' ctv)) : ObjOk P w H h f (LamO f q params body scope c') :=
  ⟨⟨pm, ctv, e⟩, ⟨_, e⟩, fun h1 h2 ⟨pm, ctv, e1⟩ st => ⟨pm, ctv, st _ e1⟩⟩
section
variable {X : Cx} {pins : List (Addr × Obj)} {σ : L2.St} {H : Hp} {s : Shared}
theorem lam_makeO {T : List (Addr × Str)} {c P : Addr} {params : Arguments} {body : Expr} {scope : Scope} {pos : Pos} {E : Value → Shared → Prop} {Q : Value → Shared → Prop} (I : Inv X pins σ H s) (TB : TabB X.base X.mg c P) (hcode : X.env.code = .ref c)
    (hm : (P, X.env.qual ++ "<lambda>") ∈ T) (hu : ∀ p ∈ T, p.1 = P → p.2 = X.env.qual ++ "<lambda>") (hT : Tabs T H) (hdef : defaultsOf params X.env = ([], [])) (hfree : ∀ y ∈ scope.names, y.2 = .free → ∃ c, X.env.cells.lookup y.1 = some c) (hcl : cloFrom X.env.cells scope.names [] = [])
    (h : ∀ (f c' : Addr) (H1 : Hp) (s' : Shared), Inv X pins σ (upd H1 f (LamO f (X.env.qual ++ "<lambda>") params body scope c')) s' → ExtN H H1 → Tabs T H1 → H1 f = none → H1 c' = some (CodeO c' (X.env.qual ++ "<lambda>")) → Q (.ref f) s') :
    wpAny (model X.prog X.w) X.A (eval (.Lambda params body scope pos) X.env) Q E s := by
  obtain ⟨ps, hP, ht, ha⟩ := hT _ hm
  refine PySem.W.kla_eval hdef ?_
  have bP : s.heap.BuiltinsAt X.mg P := TB.bm.keeps I.bk
  have hP' : s.heap.get? P = some { cls := .none, data := .fields ps } := I.hok P _ hP
  cases hc : codeAmong pos ps.toList with
  | none =>
    refine PySem.W.kla_makeFunction (mg := X.mg) (c := c) (P := P) (ps := ps) (closure_ok hfree) I.ok.glob (I.mod.glob.keeps I.bk) hcode (TB.code.keeps I.bk) hP' ht hc TB.gP bP fun c' ctv h' tk hx hge hlt hrec htb => ?_
    obtain ⟨c2, oc, vs, t, e2, hoc, hd, hv⟩ := hrec
    cases e2
    have nC : H c' = none := I.hok.fresh hge
    have I1 := inv_table (t' := tk) (more := #[rawInt pos.line, rawInt pos.col, .ref c']) (h' := h') I hP hx htb hge ⟨oc, vs, t, hoc, hd, hv⟩
    have hE : ExtN H (upd (upd H P (.tbl (ps ++ #[rawInt pos.line, rawInt pos.col, .ref c']))) c' (CodeO c' (X.env.qual ++ "<lambda>"))) := fun b o e n => by
      rw [upd_ne (ne_of_none e nC), upd_ne (fun z => n ps (Option.some.inj (e.symm.trans (by rw [z]; exact hP))))]
      exact e
    have eL : (ps ++ #[rawInt pos.line, rawInt pos.col, .ref c']).toList = ps.toList ++ [rawInt pos.line, rawInt pos.col, .ref c'] := by simp
    rw [hcl]
    refine h h'.objs.size c' _ _ (I1.laid (t' := tk) (fun b o e => Heap.get?_push_of_some _ e) (Nat.le_refl _) (lamO_ok (Heap.get?_push_size _ rfl))) hE (fun p hp => ?_) (I1.hok.fresh (Nat.le_refl _)) upd_same
    by_cases hb : p.1 = P
    · rw [hu p hp hb, hb]
      refine ⟨_, by rw [upd_ne (ne_of_none hP nC), upd_same], by rw [eL]; exact PySem.TriplesOk_snoc _ _ _ _ ht, fun p' cv hcv => ?_⟩
      rw [eL] at hcv
      rcases among_app _ ht hcv with z | z
      · obtain ⟨c0, e1, e2⟩ := ha p' cv z
        exact ⟨c0, e1, hE _ _ e2 codeO_ne⟩
      · exact ⟨c', z, upd_same⟩
    · obtain ⟨ps', a1, a2, a3⟩ := hT p hp
      refine ⟨ps', by rw [upd_ne (ne_of_none a1 nC), upd_ne hb]; exact a1, a2, fun p' cv hcv => ?_⟩
      obtain ⟨c0, e1, e2⟩ := a3 p' cv hcv
      exact ⟨c0, e1, hE _ _ e2 codeO_ne⟩
  | some cv =>
    obtain ⟨c', e, hco⟩ := ha pos cv hc
    subst e
    refine PySem.W.kla_makeFunctionHit (mg := X.mg) (c := c) (P := P) (ps := ps) (closure_ok hfree) I.ok.glob (I.mod.glob.keeps I.bk) hcode (TB.code.keeps I.bk) hP' ht hc bP fun ctv h' tk hx hsz => ?_
    have I1 : Inv X pins σ H { s with heap := h', toks := tk } := I.kept hx
    rw [hcl]
    exact h h'.objs.size c' H _ (I1.laid (t' := tk) (fun b o e => Heap.get?_push_of_some _ e) (Nat.le_refl _) (lamO_ok (Heap.get?_push_size _ rfl))) (ExtN.refl H) hT (I1.hok.fresh (Nat.le_refl _)) hco
end
def tLamD (T : List (Addr × Str)) (q : Str) (params : Arguments) (body : Expr) (scope : Scope) : TE := fun _ H Q => Tabs T H ∧ ∀ f c' H1, ExtN H H1 → Tabs T H1 → H1 c' = some (CodeO c' q) → H1 f = none → Q (.ref f) (upd H1 f (LamO f q params body scope c'))
/-- lambda x: e, without captured names, as a value -/
theorem pe_lamdef {X : Cx} {T : List (Addr × Str)} {c P : Addr} {params : Arguments} {body : Expr} {scope : Scope} {pos : Pos} (TB : TabB X.base X.mg c P) (hcode : X.env.code = .ref c)
    (hm : (P, X.env.qual ++ "<lambda>") ∈ T) (hu : ∀ p ∈ T, p.1 = P → p.2 = X.env.qual ++ "<lambda>") (hdef : defaultsOf params X.env = ([], [])) (hfree : ∀ y ∈ scope.names, y.2 ≠ .free) (hcl : cloFrom X.env.cells scope.names [] = [] := by rfl) :
    PE X (.Lambda params body scope pos) (tLamD T (X.env.qual ++ "<lambda>") params body scope) := by
  refine ⟨fun pins s σ H Q I h => ?_⟩
  obtain ⟨hT, h⟩ := h
  exact lam_makeO I TB hcode hm hu hT hdef (fun y hy e => absurd e (hfree y hy)) hcl fun f c' H1 s' I1 eN T1 hf hco => ⟨.ref f, _, I1, rfl, h f c' H1 eN T1 hco hf⟩
/-- the lambda is called -/
theorem run_lam {P : Program} {w : World} {K : PySem.W.Frag} {mg : Str → Option Value} {base : Heap} {k : Nat} {f c' : Addr} {q : Str} {params : Arguments} {body : Expr} {scope : Scope} {N ps : List Str} {tb : TE} (S : FnScope N ps scope)
    {A : Around} {outer : List Env} {s : Shared} {H : Hp} {us : List Value} {vs : List V} {Q : VK} (hr : Room (k + 1) A) (e0 : Env0 P w K mg base A outer s H) (hf : H f = some (LamO f q params body scope c')) (hc : H c' = some (CodeO c' q))
    (hb : ∀ pm cv ctv, bindArgs (PySem.W.kla_fn "<lambda>" q params body scope [] pm cv ctv) ⟨us, []⟩ = pure (ps.zip us)) (r : Vals vs us) (hl : vs.length = ps.length)
    (hbody : Room k (A.deeper (envOfC q scope s.heap.objs.size f (.ref c'))) → PE (cxOf C8.CX0 P w K mg base N q scope f (.ref c') A outer s H C8.E0) body tb) (ht : tb (L2.start N vs) H Q) :
    codeAny (model P w) A (.call (.ref f) ⟨us, []⟩) (CR C8.CX0 outer P w H s Q C8.E0) s := by
  have lim : s.heap.NoLimit := e0.mod.nolimit.keeps fun b o e => (e0.bs b o e).1
  have hkind : ∀ y ∈ ps.zip us, scope.names.lookup y.1 = some .local ∨ (scope.names.lookup y.1 = some .cell ∧ ((cellsFrom (s.heap.objs.size + 1) scope.names []).lookup y.1).isSome = true) := fun ⟨n, v⟩ hy => by
    rcases S.par n (List.of_mem_zip hy).1 with q | q
    · exact .inl q
    · exact .inr ⟨q, PySem.W.cellsFrom_some _ _ _ (.inl q)⟩
  obtain ⟨⟨pm, ctv, of⟩, _, _⟩ := e0.hok f _ hf
  obtain ⟨⟨oc, xs, t, hoc, hdc, hvc⟩, _, _⟩ := e0.hok c' _ hc
  refine PySem.W.kla_callFunE hr.depth of rfl S.co S.gen rfl ⟨c', oc, xs, t, rfl, hoc, hdc, hvc⟩ ?_
  rw [hb]
  refine wpAny_pure (wpAny_newFunctionEnv_cells S.kind hkind fun env he s1 x => ?_)
  subst he
  refine ⟨lim.keeps x.toInCall.keep, PySem.W.kla_codeExpr ?_⟩
  have I : Inv (cxOf C8.CX0 P w K mg base N q scope f (.ref c') A outer s H C8.E0) [] (L2.start N vs) H s1 := inv_start S hr.hd e0 hl r x
  refine wpAny_mono ((hbody (hr.deeper _)).run [] s1 (L2.start N vs) H Q I ht) (fun v s' hs => ?_) fun e s' hs => hs
  obtain ⟨w', H', J, rv, q⟩ := hs
  exact ⟨w', H', J.os, J.bare, J.base, J.hok, rv, q⟩
def tLam1 (i : Nat) (N : List Str) (q : Str) (params : Arguments) (body : Expr) (scope : Scope) (t : TA) (tb : TE) : TE := fun σ H Q => ∃ f c', σ[i]? = some (some (.ref f)) ∧ H f = some (LamO f q params body scope c') ∧
  t σ H fun vs H1 => vs.length = 1 ∧ H1 f = some (LamO f q params body scope c') ∧ H1 c' = some (CodeO c' q) ∧ tb (L2.start N vs) H1 Q
/-- x(e), x a name that holds such a lambda -/
theorem pe_lam1 {X : Cx} {k i : Nat} {x a q : Str} {params : Arguments} {body : Expr} {scope : Scope} {N : List Str} {tb : TE} {t : TA} {e : Expr} {p pos : Pos} (S : FnScope N [a] scope) (hr : Room (k + 1) X.A)
    (hb : ∀ pm cv ctv u, bindArgs (PySem.W.kla_fn "<lambda>" q params body scope [] pm cv ctv) ⟨[u], []⟩ = pure [(a, u)])
    (hbody : ∀ (A : Around) (outer : List Env) (s : Shared) (H : Hp) (f c' : Addr), Room k (A.deeper (envOfC q scope s.heap.objs.size f (.ref c'))) → PE (cxOf C8.CX0 X.prog X.w X.K X.mg X.base N q scope f (.ref c') A outer s H C8.E0) body tb)
    (hN : X.N[i]? = some x) (hv : Vis X.env.scope x) (ha : PA X [e] t) (hdb : (x == ("__debug__" : Str)) = false := by decide) (hcd : (x == ("__classdict__" : Str)) = false := by decide)
    (he : starEach [e] X.env = (false, eval e X.env) :: starEach [] X.env := by rfl) :
    PE X (.Call (.Name x p) [e] [] pos) (tLam1 i N q params body scope t tb) := by
  refine ⟨fun pins s σ H Q I h => ?_⟩
  obtain ⟨f, c', hs, hf, ht⟩ := h
  refine wpAny_Call_Name_kw (thn ((pe_var (pos := p) hN hv hdb hcd).run pins s σ H (fun v H1 => v = .ref f ∧ H1 = H) I ⟨.ref f, hs, rfl, rfl⟩) fun u s1 ⟨v, H1, I1, r1, q1⟩ => ?_)
  obtain ⟨rfl, rfl⟩ := q1
  obtain rfl : u = Value.ref f := r1
  obtain ⟨⟨pm, ctv, of⟩, _, _⟩ := I1.hok f _ hf
  have FA : PySem.W.FnAt f s1.heap := ⟨_, _, _, _, of⟩
  refine PySem.W.callWith_F (pos := pos) (env := X.env) (e := e) (rest := []) (first := []) FA (thn (ha.run pos pins s1 σ _ _ I1 ht) fun us s2 ⟨vs, H2, I2, r, hl, hf2, hc2, hq⟩ => ?_) he (by rfl)
  obtain ⟨⟨pm2, ctv2, of2⟩, _, _⟩ := I2.hok f _ hf2
  refine ⟨⟨_, _, _, _, of2⟩, ?_⟩
  have hlen := r.length
  obtain ⟨y, rfl⟩ : ∃ y, us = [y] := by
    match us, hlen with
    | [y], _ => exact ⟨y, rfl⟩
    | [], z =>
      rw [hl] at z
      cases z
    | _ :: _ :: _, z =>
      rw [hl] at z
      simp at z
  refine wpAny_call (codeAny_mono (run_lam (ps := [a]) S hr I2.env0 hf2 hc2 (fun pm cv ctv => hb pm cv ctv y) r hl (fun hr' => hbody _ _ _ _ f c' hr') hq) fun r' s' hq' => ?_)
  cases r' with
  | error e => exact (show False from hq').elim
  | ok fl =>
    cases fl with
    | ret u => exact I2.after hq'
    | next => exact False.elim hq'
    | brk => exact False.elim hq'
    | cont => exact False.elim hq'
/-! ### told: try: return a() / except x1: return r1 / .. -/
def wTold (K : PySem.W.Frag) (Q : VK) : List (Value × Str) → Value → Hp → Prop
  | [], _, _ => False
  | (c, r) :: l, cls, H => ∃ b, PySem.W.exmOne K cls c = some b ∧ (b = true → Q (.str r) H) ∧ (b = false → wTold K Q l cls H)
def TTm (K : PySem.W.Frag) (l : List (Value × Str)) : (XK → Hp → VK → Prop) → Hp → VK → Prop := fun tl H Q => tl (fun cls _ H' => wTold K Q l cls H') H Q
abbrev retsOf (l : List (Value × Str)) : List (Value × (Addr → Value → Option Addr → TS)) := l.map fun q => (q.1, fun _ _ _ => tRet (tC (.str q.2)))
theorem many_of {K : PySem.W.Frag} {D : Ends} {cls : Value} {d : Option Addr} {σ : L2.St} {H : Hp} : ∀ {l : List (Value × Str)}, wTold K D.rt l cls H → wMany K (fun _ _ _ _ => False) D (retsOf l) cls d σ H
  | [], h => h
  | (c, r) :: l, ⟨b, e, h1, h2⟩ => ⟨b, e, fun hb a _ => h1 hb, fun hb => many_of (h2 hb)⟩
theorem told_givesM {X : Cx} {Ng : List Str} {x a q : Str} {sg : Scope} {g : Addr} {cdg : Value} {h0 : ExceptHandler} {hds : List ExceptHandler} {l : List (Value × Str)} {p1 p2 p3 p8 : Pos} (h0' : ∀ f : Addr, (L2.start Ng [V.ref f])[0]? = some (some (V.ref f)))
    (hh : ∀ s H, HdsOk (cxOf C8.CX0 X.prog X.w X.K X.mg X.base Ng x sg g cdg X.A X.stack s H C8.E0).nox (h0 :: hds) (retsOf l)) :
    GivesTo X Ng x sg g cdg [.Try [.Return (some (.Call (.Name a p1) [] [] p2)) p3] (h0 :: hds) [] [] p8] a q (TTm X.K l) := by
  intro f c' s H Q tl act hc h
  refine ⟨_, pss_one (ps_try_many (X := (cxOf C8.CX0 X.prog X.w X.K X.mg X.base Ng x sg g cdg X.A X.stack s H C8.E0).nox) (Wout := fun _ _ _ _ => False)
      (tb := fun W D σ H => ∃ Ech : XK, (∀ cls d σ' H', Ech cls d H' → W cls d σ' H') ∧ σ[0]? = some (some (.ref f)) ∧ H c' = some (CodeO c' q) ∧ tl Ech H D.rt)
      rfl rfl takes0 (fun W pn xe tk _ => ?_) (hh s H)), ?_⟩
  · refine ⟨fun pins s' σ H' D I h' => ?_⟩
    obtain ⟨Ech, hW, h1, h2, h3⟩ := h'
    have hp := act W pn xe Ech p1 p2 tk hW
    have hq := pss_one (ps_ret (pos := p3) hp)
    exact hq.run pins s' σ H' D I ⟨h1, h2, h3⟩
  · exact ⟨fun cls _ H' => wTold X.K Q l cls H', fun cls d σ' H' hw => many_of hw, h0' f, hc, h⟩
end LamX

set_option Elab.async false
set_option linter.all false
set_option maxRecDepth 100000
set_option maxHeartbeats 4000000
/-! ## own rules: enumerate of a tuple -/
namespace L2
open PySem PySem.Spec PyProof.Rows
open AutoSeq1 (wpAny_loadPart')
theorem meets_enumerate_newT (l : Addr) (items : Array Value) (n : Nat) (dct : Option Addr) (sl : Array (Option Value)) :
    Meets (Builtin.«enumerate.__new__» ⟨[.type "enumerate", .ref l], []⟩) (fun _ R s => s.heap.get? l = some { cls := .type "tuple", dict := dct, data := .seq items n, slots := sl } ∧
      R (.ok (.ret (.ref (s.heap.push { cls := .type "tuple_iterator", data := .fields #[.ref l, .int 0 0] }).objs.size)))
        { s with heap := (s.heap.push { cls := .type "tuple_iterator", data := .fields #[.ref l, .int 0 0] }).push { cls := .type "enumerate", data := .fields #[.none, .bool false, .ref s.heap.objs.size, rawInt 0, .none, .none] } }) :=
  .of_wp fun prog w A R s h => by
    obtain ⟨hp, g, d, tk, os⟩ := s; obtain ⟨hl, h⟩ := h
    have hsub := sub_enumerate
    have hL : Heap.IsTuple (Shared.heap ⟨hp, g, d, tk, os⟩) l items := ⟨_, hl, rfl, n, rfl⟩
    wp_walk using wpAny_loadPart' hl
    refine wpAny_stack_any fun st => wpAny_pure ?_
    split
    · rename_i c _ _ _ _ _
      cases (c == Value.type "enumerate")
      · wp_walk using wpAny_loadPart' hl, wpAny_pyIter_tuple hL
        exact ⟨_, rfl, h⟩
      · wp_walk using wpAny_loadPart' hl, wpAny_pyIter_tuple hL
        exact ⟨_, rfl, h⟩
    · wp_walk using wpAny_loadPart' hl, wpAny_pyIter_tuple hL
      exact ⟨_, rfl, h⟩
section
variable {prog : Program} {w : World} {A : Around} {E : Value → Shared → Prop} {s : Shared}
theorem call_enumerate_tuple {l : Addr} {items : Array Value} {Q : Value → Shared → Prop} (hL : s.heap.IsTuple l items)
    (h : ∀ h', IsEnum h' (s.heap.objs.size + 1) s.heap.objs.size 0 .none → h'.IsTupleIter s.heap.objs.size l 0 → h'.objs.size = s.heap.objs.size + 2 →
      (∀ b o, s.heap.get? b = some o → h'.get? b = some o) → Q (.ref (s.heap.objs.size + 1)) { s with heap := h' }) :
    wpAny (model prog w) A (call (.type "enumerate") [.ref l]) Q E s := by
  obtain ⟨⟨c, dct, dt, sl⟩, hl, hc, n, hd⟩ := hL
  replace hc : c = .type "tuple" := hc
  replace hd : dt = .seq items n := hd
  subst hc hd
  refine callType_new F.called_enumerate (by decide) (F.typeCall_enumerate_1 _) (F.newCall_enumerate_1 _) (fun obj => F.args_object_init_2 obj _) F.entry_enumerate_new
    (meets_enumerate_newT l items n dct sl) ⟨hl, ?_⟩
  have hz : (s.heap.push { cls := .type "tuple_iterator", data := .fields #[.ref l, .int 0 0] }).objs.size = s.heap.objs.size + 1 := Heap.size_push ..
  show _ ∧ _
  rw [hz]
  have he : IsEnum ((s.heap.push { cls := .type "tuple_iterator", data := .fields #[.ref l, .int 0 0] }).push
      { cls := .type "enumerate", data := .fields #[.none, .bool false, .ref s.heap.objs.size, rawInt 0, .none, .none] }) (s.heap.objs.size + 1) s.heap.objs.size 0 .none := by
    have := Heap.get?_push_size (s.heap.push { cls := .type "tuple_iterator", data := .fields #[.ref l, .int 0 0] })
      (o := { cls := .type "enumerate", data := .fields #[.none, .bool false, .ref s.heap.objs.size, rawInt 0, .none, .none] }) rfl
    rw [hz] at this; exact this
  refine ⟨⟨_, he, rfl⟩, h _ he ⟨_, Heap.get?_push_of_some _ (Heap.get?_push_size _ rfl), rfl, rfl⟩ (by rw [Heap.size_push, hz]) fun b o x => Heap.get?_push_of_some _ (Heap.get?_push_of_some _ x)⟩
end
/-- the tuple at a, each item in a new pair -/
def IteT (K : PySem.W.Frag) (a : Addr) : It :=
  ⟨fun i H => ∃ (xs : List V) (x : V), SqT K H a xs ∧ xs[i]? = some x, fun i H v H' => ∃ T x, v = .ref T ∧ H T = none ∧ H' = upd H T (.tup [.int (i : Nat), x]) ∧ ∀ xs, SqT K H a xs → xs[i]? = some x, fun i H => ∃ xs : List V, SqT K H a xs ∧ xs.length ≤ i⟩
theorem tup_apart {h : Heap} {a it : Addr} {i : Nat} {items : Array Value} (p : h.IsTuple a items) (q : h.IsTupleIter it a i) : a ≠ it := fun z => by
  obtain ⟨o, e1, c1, _⟩ := p
  obtain ⟨o2, e2, c2, _⟩ := q
  rw [z, e2] at e1
  cases e1
  rw [c2] at c1
  exact absurd (Value.type.inj c1) (by decide)
theorem next_enum_endT {prog : Program} {w : World} {A : Around} {E : Value → Shared → Prop} {s : Shared} {e it l : Addr} {i : Nat} {items : Array Value} {old : Value} {Q : Option Value → Shared → Prop} (hh : A.handled = none)
    (he : IsEnum s.heap e it i old) (hit : s.heap.IsTupleIter it l i) (hl : s.heap.IsTuple l items) (hx : items[i]? = none)
    (hQ : ∀ h', Heap.ExtBut it s.heap h' → Q none { s with heap := h' }) : wpAny (model prog w) A (pyNext (.ref e)) Q E s := by
  have hT : s.TypeIs (.ref e) "enumerate" := ⟨_, he, rfl⟩
  unfold pyNext
  refine wpAny_bind (wpAny_attempt (wpAny_callSpecial?_slot (name := Str.ofString "__next__") hT F.slot_enumerate_next
    (wpAny_call_entry F.slot_enumerate_next hT F.entry_enumerate_next ?_ (F.args_enumerate_next_1 _))))
  show wpAny _ _ (field (.ref e) 2 >>= _) _ _ _
  refine wpAny_bind (wpAny_field he rfl (x := .ref it) rfl ?_)
  refine wpAny_bind (wpAny_nextOf_tuple_end hh hit hl hx fun h' x he' hx' => ?_)
  obtain ⟨o, ho, hc⟩ := hx'
  refine wpAny_bind (wpAny_isInstance (T := "StopIteration") (b := true) ⟨o, ho, hc⟩ isSubtype_stop ?_)
  exact wpAny_pure (hQ _ he')
theorem turn_enumT {P : Program} {w : World} {K : PySem.W.Frag} {elts : List Expr} {kk : Nat} {tpos : Pos} (a e it : Addr) :
    Turn P w K (.Tuple elts kk tpos) (IteT K a) [e, it] e (fun i h => (∃ old, IsEnum h e it ((i : Nat) : Int) old) ∧ h.IsTupleIter it a i ∧ e ≠ it) where
  mem := by simp
  obj := fun i h st b hb => by
    obtain ⟨⟨old, he⟩, ⟨o, ho, hc, hd⟩, _⟩ := st
    have e' : b = e ∨ b = it := by simpa using hb
    rcases e' with z | z
    · rw [z]; exact ⟨_, he, fun v q => nomatch q⟩
    · rw [z]; exact ⟨o, ho, fun v q => by rw [hd] at q; cases q⟩
  keep := fun i h h' st k => let ⟨⟨old, he⟩, ⟨o, ho, r⟩, hne⟩ := st; ⟨⟨old, k e (by simp) _ he⟩, ⟨o, k it (by simp) o ho, r⟩, hne⟩
  item := by
    intro X hP hw hK hc i pins s σ H E I hf st hg
    subst hP hw hK
    obtain ⟨⟨old, he⟩, hit, hne⟩ := st
    obtain ⟨xs, x, hq, hx⟩ := hg
    obtain ⟨its, rv, p, hz⟩ := I.tuple hq
    obtain ⟨u, hu, ru⟩ := rv.get hx
    have hel : e < s.heap.objs.size := Heap.lt_size he
    have hil : it < s.heap.objs.size := by obtain ⟨_, q, _⟩ := hit; exact Heap.lt_size q
    have hlt : i < its.toArray.size := by
      rcases Nat.lt_or_ge i its.length with z | z
      · simpa using z
      · rw [List.getElem?_eq_none z] at hu
        cases hu
    have hai := tup_apart p hit
    have hae : e ≠ a := fun z => by
      obtain ⟨o, e1, c1, _⟩ := p
      have he1 : s.heap.get? e = some _ := he
      rw [← z, he1] at e1
      cases e1
      exact absurd (Value.type.inj c1) (by decide)
    have D := Draws.tuple (prog := X.prog) (w := X.w) (A := X.A.in1) (I.ok.hd hc) it a hai its.toArray
    have hef : e ∉ [it, a] := by
      simp only [List.mem_cons, List.not_mem_nil, or_false, not_or]
      exact ⟨hne, hae⟩
    refine wpAny_pyNext_enum_itemD D he (by exact ⟨hit, p⟩) hlt hne hef fun y h' tk hy ho hst' hT hsz hk => ?_
    have ey : y = u := by
      have e1 : its.toArray[i]? = some u := by simpa using hu
      rw [e1] at hy
      exact (Option.some.inj hy).symm
    subst ey
    refine ⟨_, rfl, wpAny_letOwnedTupleGo_enum (s := { s with heap := h', toks := tk + 1 }) ho fun h'' he' sb => ?_⟩
    have hT2 : h''.get? s.heap.objs.size = some { cls := .type "tuple", data := .seq #[.int i tk, y] } := (sb.2 _ (Nat.ne_of_gt hel)).trans hT
    have new : ObjOk X.prog X.w (upd H s.heap.objs.size (.tup [.int (i : Nat), x])) h'' s.heap.objs.size (.tup [.int (i : Nat), x]) :=
      ⟨by show 2 ≤ sizeLine; decide, [.int i tk, y], .cons ⟨_, rfl⟩ (.cons ru .nil), ⟨_, hT2, rfl, _, rfl⟩⟩
    have I1 : Inv X pins σ (upd H s.heap.objs.size (.tup [.int (i : Nat), x])) { s with heap := h'', toks := tk + 1 } :=
      I.turnedNew (ch := [e, it]) (fun b ob hb q => (sb.2 b (fun z => hb (by simp [z]))).trans (hk b ob (fun z => hb (by simp [z])) (fun z => hb (by simp [z])) q)) hf (Nat.le_refl _) new
    refine ⟨.ref s.heap.objs.size, _, I1, rfl, ⟨_, x, rfl, I.hok.fresh (Nat.le_refl _), rfl, fun ys hy => by rw [I.tuple_inj hy hq]; exact hx⟩, ⟨⟨y, ?_⟩, ?_, hne⟩, fun b hb => ?_⟩
    · have e1 : ((i + 1 : Nat) : Int) = (i : Int) + 1 := by omega
      rw [e1]; exact he'
    · obtain ⟨o, e1, c1, d1⟩ := hst'.1
      exact ⟨o, (sb.2 it (Ne.symm hne)).trans e1, c1, d1⟩
    · have hb' : b < s.heap.objs.size := by
        have e' : b = e ∨ b = it := by simpa using hb
        rcases e' with z | z
        · rw [z]; exact hel
        · rw [z]; exact hil
      rw [upd_ne (Nat.ne_of_lt hb')]
      exact (hf b hb).1
  done := by
    intro X hP hw hK hc i pins s σ H E I hf st hg
    subst hP hw hK
    obtain ⟨⟨old, he⟩, hit, hne⟩ := st
    obtain ⟨xs, hq, hx⟩ := hg
    obtain ⟨its, rv, p, hz⟩ := I.tuple hq
    obtain ⟨f0, f1, f2, f3, f4, f5⟩ := hf it (by simp)
    have hl := rv.length
    exact next_enum_endT (I.ok.hd hc) he hit p (by simp; omega) fun h' eb => ⟨rfl, I.turned (t' := s.toks) (fun b o hb q => eb b o hb q) f0 f1 f3 f4 f5⟩
  self := fun A i s Q E st h => let ⟨⟨_, he⟩, _⟩ := st; wpAny_pyIter_enum he h
def iEnumT (K : PySem.W.Frag) (ta : TA) : TI := fun σ H R => ta σ H fun vs H1 => ∃ a xs, vs = [.ref a] ∧ SqT K H1 a xs ∧ R (IteT K a) H1
theorem enumTK {X : Cx} (K : PySem.W.Frag) {e : Expr} {ta : TA} {p pos tpos : Pos} {elts : List Expr} {kk : Nat} (hg : Gl X "enumerate") (hm : X.mg "enumerate" = none) (ha : PA X [e] ta) (hs : starEach [e] X.env = [(false, eval e X.env)] := by rfl) (hK : X.K = K := by rfl) :
    PI X (.Tuple elts kk tpos) (.Call (.Name "enumerate" p) [e] [] pos) (iEnumT K ta) := by
  subst hK
  refine ⟨fun pins s σ H R I h => ?_⟩
  refine Call_ (ld_blt I hg hm boot_enumerate (PyProof.Rows.callWith_type1 (thn (ha.run pos pins s σ H _ I h) fun us s1 ⟨vs, H1, I1, r1, q1⟩ => ?_) hs rfl))
  obtain ⟨a, xs, ex, hq, q⟩ := q1
  subst ex
  cases r1 with
  | cons r rr =>
    cases rr
    cases r
    obtain ⟨its, rv, p', hz⟩ := I1.tuple hq
    refine call_enumerate_tuple p' fun h' he hit hsz hk => wpAny_pyIter_enum he ?_
    have I2 : Inv X pins σ H1 { s1 with heap := h' } := I1.kept (t' := s1.toks) hk
    refine ⟨s1.heap.objs.size + 1, [s1.heap.objs.size + 1, s1.heap.objs.size], _, _, H1, rfl, I2, turn_enumT a (s1.heap.objs.size + 1) s1.heap.objs.size, ⟨⟨.none, he⟩, hit, Nat.succ_ne_self _⟩, fun b hb => ?_, q⟩
    have e' : b = s1.heap.objs.size + 1 ∨ b = s1.heap.objs.size := by simpa using hb
    have hle : s1.heap.objs.size ≤ b := by
      rcases e' with z | z
      · rw [z]; exact Nat.le_add_right _ _
      · rw [z]; exact Nat.le_refl _
    exact I1.fpOk hle (I1.hok.fresh hle)
/-- a comprehension over enumerate of a tuple that stays -/
theorem lc_enumT {K : PySem.W.Frag} {a : Addr} {xs : List V} {g : TG} {tt : TT} {te : TE} {vs : List Nat} {σ : L2.St} {H1 : Hp} {D : Addr} {Qd : Hp → Prop} (Pv : Nat → Hp → Prop) (h0 : Pv 0 (upd H1 D (.lst []))) (hl : ∀ i H, i ≤ xs.length → Pv i H → SqT K H a xs)
    (hs : ∀ i x T H, xs[i]? = some x → Pv i H → H T = none → g (.ref T) (wipe σ vs) (upd H T (.tup [.int (i : Nat), x])) fun σ2 H2 => wipe σ2 vs = wipe σ vs ∧ tt σ2 H2 fun b H3 =>
      if b = true then te σ2 H3 fun y H4 => ∃ acc, H4 D = some (.lst acc) ∧ acc.length < sizeLine ∧ Pv (i + 1) (upd H4 D (.lst (acc ++ [y]))) else Pv (i + 1) H3) (hd : ∀ H, Pv xs.length H → Qd H) :
    ∃ W : Nat → Nat → Hp → Prop, (∃ m, W 0 m (upd H1 D (.lst []))) ∧ ∀ i m H, W i m H →
      ((IteT K a).stop i H ∧ Qd H) ∨ ((IteT K a).go i H ∧ ∃ Nx : Hp → Prop, (∀ H', Nx H' → ∃ m', m' < m ∧ W (i + 1) m' H') ∧ ∀ x H', (IteT K a).yld i H x H' → g x (wipe σ vs) H' fun σ2 H2 => wipe σ2 vs = wipe σ vs ∧ tt σ2 H2 fun b H3 =>
        if b = true then te σ2 H3 fun y H4 => ∃ acc, H4 D = some (.lst acc) ∧ acc.length < sizeLine ∧ Nx (upd H4 D (.lst (acc ++ [y]))) else Nx H3) := by
  refine ⟨fun i m H => m = xs.length - i ∧ i ≤ xs.length ∧ Pv i H, ⟨xs.length, by simp, Nat.zero_le _, h0⟩, ?_⟩
  rintro i m H ⟨rfl, hi, p⟩
  have q := hl i H hi p
  by_cases hlt : i < xs.length
  · refine .inr ⟨⟨xs, xs[i], q, by simp [hlt]⟩, Pv (i + 1), fun H' p' => ⟨xs.length - (i + 1), by omega, rfl, hlt, p'⟩, fun x H' y => ?_⟩
    obtain ⟨T, x', rfl, hT, rfl, f⟩ := y
    exact hs i x' T _ (f xs q) p hT
  · have e : i = xs.length := by omega
    subst e
    exact .inl ⟨⟨xs, q, Nat.le_refl _⟩, hd H p⟩
end L2

set_option Elab.async false
set_option linter.all false
set_option maxRecDepth 100000
set_option maxHeartbeats 4000000
/-! ## own rules, with the written part said -/
namespace L2
open PySem PySem.Spec PyProof.Rows
section
variable {X : Cx} (K : PySem.W.Frag)
theorem anyK (hc : X.calm = true := by rfl) (h : X.K = K := by rfl) : CallR X (.builtin "any") (rAny K) := by subst h; exact cr_any hc
theorem allK (hc : X.calm = true := by rfl) (h : X.K = K := by rfl) : CallR X (.builtin "all") (rAll K) := by subst h; exact cr_all hc
theorem isiK (h : X.K = K := by rfl) : CallR X (.builtin "isinstance") (rIsi K) := by subst h; exact call_isi
theorem catAK (h : X.K = K := by rfl) : OpR X (binaryOp .Add) (rCatA K) := by subst h; exact op_catA
theorem slAK (h : X.K = K := by rfl) : SlR X (rSlA K) := by subst h; exact sl_tupA
theorem sortedSK (h : X.K = K := by rfl) : CallR X (.builtin "sorted") (rSortedS K) := by subst h; exact cr_sortedS
theorem tupDK (hc : X.calm = true := by rfl) : CallR X (.type "tuple") rTupD := call_tuple_dK hc
/-- x in a dict or a row of flat things -/
def rInAny (K : PySem.W.Frag) : R2 := fun x y H Q => ∃ p b, y = .ref p ∧ ((∃ ov, DGet H p x ov ∧ b = ov.isSome) ∨ ∃ xs, (SqL K H p xs ∨ SqT K H p xs) ∧ flatV x = true ∧ xs.all flatV = true ∧ b = inV x xs) ∧ Q (.bl b) H
theorem inAny (hu : X.A.units + 1 < cLine) (h : X.K = K := by rfl) : OpR X (compareOp .In) (rInAny K) := by
  subst h
  intro pins s σ H x y v u Q I rx ry h
  obtain ⟨p, b, rfl, h, q⟩ := h
  rcases h with ⟨ov, g, rfl⟩ | ⟨xs, h1, h2, h3, rfl⟩
  · obtain rfl : u = Value.ref p := ry
    exact d_in hu I g rx fun s3 I3 => ⟨.bl ov.isSome, H, I3, rfl, q⟩
  · exact op_in_seq pins s σ H x _ v u Q I rx ry ⟨p, xs, rfl, h1, h2, h3, q⟩
/-- == of a tuple and a bare tuple -/
def rEqT0 (K : PySem.W.Frag) : R2 := fun x y H Q => ∃ a b xs, x = .ref a ∧ y = .ref b ∧ SqT K H a xs ∧ SqT K H b [] ∧ Q (.bl (decide (xs.length = 0))) H
theorem eqT0 (hu : X.A.units < cLine) (hK : X.K = K := by rfl) : OpR X (compareOp .Eq) (rEqT0 K) := by
  subst hK
  intro pins s σ H x y v u Q I rx ry h
  obtain ⟨a, b, xs, rfl, rfl, h1, h2, q⟩ := h
  obtain rfl : v = Value.ref a := rx
  obtain rfl : u = Value.ref b := ry
  obtain ⟨is, r1, l1, z1⟩ := I.tuple h1
  obtain ⟨js, r2, l2, z2⟩ := I.tuple h2
  have hj : js.length = 0 := r2.length.symm
  have hi := r1.length
  show wpAny _ _ (richCompare .Eq (.ref a) (.ref b)) _ _ _
  have e0 : decide (xs.length = 0) = ((List.range (min is.toArray.size js.toArray.size)).all (fun _ => true) && is.toArray.size == js.toArray.size) := by
    simp only [List.size_toArray, hj, hi]
    cases is <;> simp
  rw [e0] at q
  exact SeqAt.RcAt.tuples (e := fun _ => true) l1 l2 hu (fun j h1 h2 => absurd h2 (by simp; omega)) _ _ _ _ ⟨.bl _, H, I, rfl, q⟩
/-- x is not True, x a bool -/
def rNotTrue : R2 := fun x y H Q => ∃ k, x = .bl k ∧ y = .bl true ∧ Q (.bl (!k)) H
theorem opNotTrue : OpR X (compareOp .IsNot) rNotTrue := by
  intro pins s σ H x y v u Q I rx ry h
  obtain ⟨k, rfl, rfl, q⟩ := h
  obtain rfl : v = Value.bool k := rx
  obtain rfl : u = Value.bool true := ry
  refine PySem.wpAny_isNot_plain (by rfl) ⟨.bl (!k), H, I, ?_, q⟩
  cases k <;> rfl
end
end L2

set_option Elab.async false
set_option linter.all false
set_option maxRecDepth 100000
set_option maxHeartbeats 4000000
/-! ## own rules: a def whose code object is known -/
namespace L2
open PySem PySem.Spec PyProof.Rows
structure FunC (K : PySem.W.Frag) (x qual : Str) (st : Stmt) (f : Addr) (fd : FuncData) (c : Addr) : Prop where
  ex : ∃ (oc : Value) (od : Option Addr) (kV doc pm : Value) (an : Option Addr) (ct : Value) (osl : Array (Option Value)),
    fd = PySem.W.fnOf x qual (defArgs st) (defBody st) (defScope st) .none kV doc pm an (.ref c) ct ∧ K.lookup f = some ⟨oc, od, .func fd, osl⟩ ∧ PySem.W.codeIn K (.ref c) qual = true
theorem FunC.ok {P : Program} {w : World} {K : PySem.W.Frag} {mg : Str → Option Value} {base : Heap} {x qual : Str} {st : Stmt} {f c : Addr} {fd : FuncData} {N ps : List Str} {k : Nat} {sp : Sp} (F : FunC K x qual st f fd c) (S : FnScope N ps (defScope st)) (len : ∀ vs H Q E, sp vs H Q E → vs.length = ps.length)
    (hbody : ∀ (A : Around) (outer : List Env) (s : Shared) (H : Hp) (vs : List V) (Q : VK) (E : XK), Room k (A.deeper (envOfC qual (defScope st) s.heap.objs.size f (.ref c))) → sp vs H Q E →
      ∃ t, PSs (cxOf CX0 P w K mg base N qual (defScope st) f (.ref c) A outer s H E).nox (defBody st) t ∧ t { nx := fun _ H' => Q .non H', rt := Q } (start N vs) H) : FnOk P w K mg base CX0 (k + 1) f fd ps sp := by
  obtain ⟨oc, od, kV, doc, pm, an, ct, osl, rfl, lk, hcd⟩ := F.ex
  refine fn_of lk hcd S len fun A outer s H vs Q E hr hsp => ?_
  obtain ⟨t, h, q⟩ := hbody A outer s H vs Q E hr hsp
  exact ⟨t, h.nox, q⟩
theorem FunC.tab {K : PySem.W.Frag} {h : Heap} {x qual : Str} {st : Stmt} {f c Pt : Addr} {fd : FuncData} (F : FunC K x qual st f fd c) (hd : PySem.W.codeHdIn K c Pt = true) (OT : LamX.OwnTab K f h) : h.get? Pt = some { cls := .none, data := .fields #[] } := by
  obtain ⟨oc, od, kV, doc, pm, an, ct, osl, rfl, lk, hcd⟩ := F.ex
  unfold PySem.W.codeHdIn at hd
  split at hd
  · rename_i vs sl hk
    simp only [Bool.and_eq_true] at hd
    obtain ⟨⟨⟨⟨⟨e1, _⟩, _⟩, _⟩, _⟩, _⟩ := hd
    split at e1
    · rename_i P' h11
      have hP : P' = Pt := beq_iff_eq.mp e1
      subst hP
      exact OT c P' _ _ _ _ vs _ lk rfl rfl hk h11
    · cases e1
  · cases hd
section
variable {X : Cx} {e : Expr} {es : List Expr} {t : TA} {o : Expr} {to : TE} {apos cpos : Pos}
theorem extK (K : PySem.W.Frag) (ho : PE X o to) (ha : PA X (e :: es) t) (hbase : attributeBase o "extend" X.env (eval o X.env) = eval o X.env := by rfl)
    (hfew : ((backTo cpos (starEach (e :: es) X.env)).all (fun x => !x.1) && (backToKw cpos (keywordEach [] X.env)).all (fun x => x.1.isSome)
      && decide ((e :: es).length + ([] : List Keyword).length + (if ([] : List Keyword).isEmpty then 0 else 1) < 30)) = true := by rfl)
    (hline : (apos.endLine == cpos.line) = true := by rfl) (hs : starEach (e :: es) X.env = (false, eval e X.env) :: starEach es X.env := by rfl) (hplain : (backTo cpos (starEach es X.env)).any (·.1) = false := by rfl) (h : X.K = K := by rfl) :
    PE X (.Call (.Attribute o "extend" apos) (e :: es) [] cpos) (tBM K "list" (rExtT K) to t) := by
  subst h
  exact pe_bm PySem.F.plainAttrs_list PySem.F.slot_list_extend PySem.F.type_list_extend (mt_extendT X.K) ho ha hbase hfew hline hs hplain
end
end L2

set_option Elab.async false
set_option maxRecDepth 100000
set_option maxHeartbeats 4000000
/-! ## own words over the hand layer, for every law: rules with the written part said, dice, many at once -/
namespace L2
open PySem PySem.Spec PyProof.Rows
theorem units65 {k : Nat} {A : Around} (r : Room k A) : A.units + 65 < cLine := by have := r.un; omega
section
variable {X : Cx} (K : PySem.W.Frag)
theorem ixL (h : X.K = K := by rfl) : IxR X (rIxL K) := by subst h; exact ix_list
theorem ixT (h : X.K = K := by rfl) : IxR X (rIxT K) := by subst h; exact ix_tup
theorem slL (h : X.K = K := by rfl) : SlR X (rSlL K) := by subst h; exact sl_list
theorem slT (h : X.K = K := by rfl) : SlR X (rSlT K) := by subst h; exact sl_tup
theorem eqD (hu : X.A.units + 64 < cLine) (h : X.K = K := by rfl) : OpR X (compareOp .Eq) (rEqD K) := by subst h; exact op_eqD hu
theorem neD (hu : X.A.units + 64 < cLine) (h : X.K = K := by rfl) : OpR X (compareOp .NotEq) (rNeD K) := by subst h; exact op_neD hu
theorem inD (hu : X.A.units + 65 < cLine) (h : X.K = K := by rfl) : OpR X (compareOp .In) (rInD K) := by subst h; exact op_inD hu
theorem notInD (hu : X.A.units + 65 < cLine) (h : X.K = K := by rfl) : OpR X (compareOp .NotIn) (rNotInD K) := by subst h; exact op_notInD hu
theorem inSeq (h : X.K = K := by rfl) : OpR X (compareOp .In) (rIn K false) := by subst h; exact op_in_seq
theorem notInSeq (h : X.K = K := by rfl) : OpR X (compareOp .NotIn) (rIn K true) := by subst h; exact op_notIn_seq
def rLen (K : PySem.W.Frag) : List V → Hp → VK → Prop := fun xs H Q => ∃ p ys, xs = [.ref p] ∧ (SqL K H p ys ∨ SqT K H p ys) ∧ Q (.int ys.length) H
def rListOf (K : PySem.W.Frag) : List V → Hp → VK → Prop := fun xs H Q => ∃ p ys, xs = [.ref p] ∧ (SqL K H p ys ∨ SqT K H p ys) ∧ ∀ l, H l = none → Q (.ref l) (upd H l (.lst ys))
def rTupleOf (K : PySem.W.Frag) : List V → Hp → VK → Prop := fun xs H Q => ∃ p ys, xs = [.ref p] ∧ ((SqL K H p ys ∧ ∀ l, H l = none → Q (.ref l) (upd H l (.tup ys))) ∨ (SqT K H p ys ∧ Q (.ref p) H))
theorem lenK (h : X.K = K := by rfl) : CallR X (.builtin "len") (rLen K) := by subst h; exact call_len_seq
theorem listOf (h : X.K = K := by rfl) : CallR X (.type "list") (rListOf K) := by subst h; exact call_list_of
theorem tupOf (h : X.K = K := by rfl) : CallR X (.type "tuple") (rTupleOf K) := by subst h; exact call_tuple_of
def rAbs : List V → Hp → VK → Prop := fun xs H Q => ∃ i, xs = [.int i] ∧ Q (.int (if i < 0 then -i else i)) H
theorem absK : CallR X (.builtin "abs") rAbs := call_abs
def rInt1 : List V → Hp → VK → Prop := fun xs H Q => (∃ i, xs = [.int i] ∧ Q (.int i) H) ∨ ∃ k, xs = [.bl k] ∧ Q (.int (if k then 1 else 0)) H
theorem int1K : CallR X (.type "int") rInt1 := call_int1
def rMin2 : List V → Hp → VK → Prop := fun xs H Q => ∃ i j, xs = [.int i, .int j] ∧ Q (.int (if j < i then j else i)) H
theorem min2K (hc : X.calm = true := by rfl) : CallR X (.builtin "min") rMin2 := call_min2 hc
variable {e : Expr} {es : List Expr} {f : Str} {pos apos cpos : Pos} {ta to : TE} {t : TA}
theorem fldK (he : PE X e ta) (hb : attributeBase e f X.env (eval e X.env) = eval e X.env) (h : X.K = K := by rfl) : PE X (.Attribute e f pos) (tFld K ta f) := by subst h; exact pe_fld he hb
theorem sfldK {v : Expr} {tv : TE} (he : PE X e ta) (hv : PE X v tv) (hsw : swapsWith v (some (.Attribute e f pos)) cpos.line X.env = pure false) (h : X.K = K := by rfl) : PS X (.Assign [.Attribute e f pos] v cpos) (sFld K ta tv f) := by
  subst h
  exact ps_fld he hv hsw
theorem tupK {k : Nat} {t : TGs} {n : Nat} (hc : X.calm = true) (h : PGs X es t)
    (hn : (assignEach es X.env).length = n := by rfl) (hst : (assignEach es X.env).findIdx? (·.1) = none := by rfl) (hK : X.K = K := by rfl) : PG X (.Tuple es k pos) (gTup K n t) := by
  subst hK
  exact pg_tup hc h hn hst
variable {tg : Expr}
theorem listK (hl : PE X e ta) (h : X.K = K := by rfl) : PI X tg e (iList K ta) := by subst h; exact pi_list hl
theorem tupIK (hl : PE X e ta) (h : X.K = K := by rfl) : PI X tg e (iTup K ta) := by subst h; exact pi_tup hl
theorem enumK {p tpos : Pos} {elts : List Expr} {kk : Nat} (hg : Gl X "enumerate") (hm : X.mg "enumerate" = none) (ha : PA X [e] t) (hs : starEach [e] X.env = [(false, eval e X.env)] := by rfl) (h : X.K = K := by rfl) :
    PI X (.Tuple elts kk tpos) (.Call (.Name "enumerate" p) [e] [] pos) (iEnum K t) := by
  subst h
  exact pi_enum hg hm ha hs
theorem zipK {e2 : Expr} {p tpos : Pos} {elts : List Expr} {kk : Nat} (hg : Gl X "zip") (hm : X.mg "zip" = none) (ha : PA X [e, e2] t)
    (hs : starEach [e, e2] X.env = (false, eval e X.env) :: starEach [e2] X.env := by rfl) (hpl : (backTo pos (starEach [e2] X.env)).any (·.1) = false := by rfl) (h : X.K = K := by rfl) :
    PI X (.Tuple elts kk tpos) (.Call (.Name "zip" p) [e, e2] [] pos) (iZip K t) := by
  subst h
  exact pi_zip hg hm ha hs hpl
theorem appK {o : Expr} (ho : PE X o to) (ha : PA X (e :: es) t) (hbase : attributeBase o "append" X.env (eval o X.env) = eval o X.env := by rfl)
    (hfew : ((backTo cpos (starEach (e :: es) X.env)).all (fun x => !x.1) && (backToKw cpos (keywordEach [] X.env)).all (fun x => x.1.isSome)
      && decide ((e :: es).length + ([] : List Keyword).length + (if ([] : List Keyword).isEmpty then 0 else 1) < 30)) = true := by rfl)
    (hline : (apos.endLine == cpos.line) = true := by rfl) (hs : starEach (e :: es) X.env = (false, eval e X.env) :: starEach es X.env := by rfl) (hplain : (backTo cpos (starEach es X.env)).any (·.1) = false := by rfl) (h : X.K = K := by rfl) :
    PE X (.Call (.Attribute o "append" apos) (e :: es) [] cpos) (tBM K "list" rAppend to t) := by
  subst h
  exact pe_bm PySem.F.plainAttrs_list PySem.F.slot_list_append PySem.F.type_list_append mt_append ho ha hbase hfew hline hs hplain
/-- == of a list and a bare list -/
def rEqL (K : PySem.W.Frag) : R2 := fun x y H Q => ∃ a b xs, x = .ref a ∧ y = .ref b ∧ SqL K H a xs ∧ SqL K H b [] ∧ Q (.bl (decide (xs.length = 0))) H
theorem eqL (hu : X.A.units < cLine) (hK : X.K = K := by rfl) : OpR X (compareOp .Eq) (rEqL K) := by
  subst hK
  intro pins s σ H x y v u Q I rx ry h
  obtain ⟨a, b, xs, rfl, rfl, h1, h2, q⟩ := h
  obtain rfl : v = Value.ref a := rx
  obtain rfl : u = Value.ref b := ry
  obtain ⟨is, r1, ⟨o1, n1, e1, c1, d1, t1⟩, z1⟩ := I.list h1
  obtain ⟨js, r2, ⟨o2, n2, e2, c2, d2, t2⟩, z2⟩ := I.list h2
  have l1 : s.heap.IsList a is.toArray := ⟨o1, e1, c1, n1, t1⟩
  have l2 : s.heap.IsList b js.toArray := ⟨o2, e2, c2, n2, t2⟩
  have hj : js.length = 0 := r2.length.symm
  have hi := r1.length
  show wpAny _ _ (richCompare .Eq (.ref a) (.ref b)) _ _ _
  by_cases hx : xs.length = 0
  · rw [decide_eq_true hx] at q
    have hz : is.toArray.size = js.toArray.size := by simp; omega
    refine SeqAt.RcAt.lists (e := fun _ => true) l1 l2 hz hu (fun j h1 _ => ?_) _ _ _ _ ⟨.bl true, H, I, ?_, q⟩
    · exact absurd h1 (by simp; omega)
    · show Value.bool _ = Value.bool true
      simp
  · rw [decide_eq_false hx] at q
    have hz : (is.toArray.size != js.toArray.size) = true := by simp; omega
    exact SeqAt.RcAt.lists_lengths l1 l2 hz hu _ _ _ _ ⟨.bl false, H, I, rfl, q⟩
end
end L2

namespace Toy
open PySem L2
def asgVal : Stmt → Expr
  | .Assign _ v _ => v
  | _ => .Constant .none 0 ⟨0, 0, 0, 0⟩
def lamArgs : Expr → Arguments
  | .Lambda a _ _ _ => a
  | _ => { posonlyargs := [], args := [], vararg := none, kwonlyargs := [], kw_defaults := [], kwarg := none, defaults := [] }
def lamBody : Expr → Expr
  | .Lambda _ b _ _ => b
  | e => e
def lamScope : Expr → Scope
  | .Lambda _ _ s _ => s
  | _ => { kind := .function, names := [], isGenerator := false, isCoroutine := false, more := [] }
def top (i : Nat) : PySem.Stmt := PySem.Challenge.pw_deducehall_k06_safe_rules.main.body.getD i (.Pass ⟨0, 0, 0, 0⟩)
abbrev s_is_small : PySem.Stmt := top 16
abbrev N_is_small : List Str := ["sign"]
theorem sc_is_small : FnScope N_is_small ["sign"] (defScope s_is_small) := ⟨rfl, rfl, rfl, by decide +kernel, rfl, by decide +kernel, by decide +kernel⟩
abbrev s_is_inner : PySem.Stmt := top 17
abbrev N_is_inner : List Str := ["sign"]
theorem sc_is_inner : FnScope N_is_inner ["sign"] (defScope s_is_inner) := ⟨rfl, rfl, rfl, by decide +kernel, rfl, by decide +kernel, by decide +kernel⟩
abbrev s_Term_init : PySem.Stmt := inClass (top 19) 0
abbrev N_Term_init : List Str := ["self", "name", "value"]
theorem sc_Term_init : FnScope N_Term_init ["self", "name", "value"] (defScope s_Term_init) := ⟨rfl, rfl, rfl, by decide +kernel, rfl, by decide +kernel, by decide +kernel⟩
abbrev s_Term_is_variable : PySem.Stmt := inClass (top 19) 1
abbrev N_Term_is_variable : List Str := ["self"]
theorem sc_Term_is_variable : FnScope N_Term_is_variable ["self"] (defScope s_Term_is_variable) := ⟨rfl, rfl, rfl, by decide +kernel, rfl, by decide +kernel, by decide +kernel⟩
abbrev s_Term_shown : PySem.Stmt := inClass (top 19) 2
abbrev N_Term_shown : List Str := ["self"]
theorem sc_Term_shown : FnScope N_Term_shown ["self"] (defScope s_Term_shown) := ⟨rfl, rfl, rfl, by decide +kernel, rfl, by decide +kernel, by decide +kernel⟩
abbrev s_var : PySem.Stmt := top 20
abbrev N_var : List Str := ["name"]
theorem sc_var : FnScope N_var ["name"] (defScope s_var) := ⟨rfl, rfl, rfl, by decide +kernel, rfl, by decide +kernel, by decide +kernel⟩
abbrev s_val : PySem.Stmt := top 21
abbrev N_val : List Str := ["value"]
theorem sc_val : FnScope N_val ["value"] (defScope s_val) := ⟨rfl, rfl, rfl, by decide +kernel, rfl, by decide +kernel, by decide +kernel⟩
abbrev s_is_number : PySem.Stmt := top 22
abbrev N_is_number : List Str := ["value"]
theorem sc_is_number : FnScope N_is_number ["value"] (defScope s_is_number) := ⟨rfl, rfl, rfl, by decide +kernel, rfl, by decide +kernel, by decide +kernel⟩
abbrev s_names_in : PySem.Stmt := top 23
abbrev N_names_in : List Str := ["terms", "names", "term"]
theorem sc_names_in : FnScope N_names_in ["terms"] (defScope s_names_in) := ⟨rfl, rfl, rfl, by decide +kernel, rfl, by decide +kernel, by decide +kernel⟩
abbrev s_shown_all : PySem.Stmt := top 24
abbrev N_shown_all : List Str := ["terms", "term"]
theorem sc_shown_all : FnScope N_shown_all ["terms"] (defScope s_shown_all) := ⟨rfl, rfl, rfl, by decide +kernel, rfl, by decide +kernel, by decide +kernel⟩
abbrev s_Literal_init : PySem.Stmt := inClass (top 27) 0
abbrev N_Literal_init : List Str := ["self", "kind", "name", "terms"]
theorem sc_Literal_init : FnScope N_Literal_init ["self", "kind", "name", "terms"] (defScope s_Literal_init) := ⟨rfl, rfl, rfl, by decide +kernel, rfl, by decide +kernel, by decide +kernel⟩
abbrev s_Literal_names : PySem.Stmt := inClass (top 27) 1
abbrev N_Literal_names : List Str := ["self"]
theorem sc_Literal_names : FnScope N_Literal_names ["self"] (defScope s_Literal_names) := ⟨rfl, rfl, rfl, by decide +kernel, rfl, by decide +kernel, by decide +kernel⟩
abbrev s_Literal_shown : PySem.Stmt := inClass (top 27) 2
abbrev N_Literal_shown : List Str := ["self"]
theorem sc_Literal_shown : FnScope N_Literal_shown ["self"] (defScope s_Literal_shown) := ⟨rfl, rfl, rfl, by decide +kernel, rfl, by decide +kernel, by decide +kernel⟩
abbrev s_Rule_init : PySem.Stmt := inClass (top 28) 0
abbrev N_Rule_init : List Str := ["self", "name", "terms", "body", "summed", "part"]
theorem sc_Rule_init : FnScope N_Rule_init ["self", "name", "terms", "body", "summed"] (defScope s_Rule_init) := ⟨rfl, rfl, rfl, by decide +kernel, rfl, by decide +kernel, by decide +kernel⟩
abbrev s_Rule_names : PySem.Stmt := inClass (top 28) 1
abbrev N_Rule_names : List Str := ["self"]
theorem sc_Rule_names : FnScope N_Rule_names ["self"] (defScope s_Rule_names) := ⟨rfl, rfl, rfl, by decide +kernel, rfl, by decide +kernel, by decide +kernel⟩
abbrev s_Rule_asked : PySem.Stmt := inClass (top 28) 2
abbrev N_Rule_asked : List Str := ["self", "kind", "names", "part"]
theorem sc_Rule_asked : FnScope N_Rule_asked ["self", "kind"] (defScope s_Rule_asked) := ⟨rfl, rfl, rfl, by decide +kernel, rfl, by decide +kernel, by decide +kernel⟩
abbrev s_Rule_reckons : PySem.Stmt := inClass (top 28) 3
abbrev N_Rule_reckons : List Str := ["self", "part"]
theorem sc_Rule_reckons : FnScope N_Rule_reckons ["self"] (defScope s_Rule_reckons) := ⟨rfl, rfl, rfl, by decide +kernel, rfl, by decide +kernel, by decide +kernel⟩
abbrev s_Rule_shown : PySem.Stmt := inClass (top 28) 4
abbrev N_Rule_shown : List Str := ["self", "part"]
theorem sc_Rule_shown : FnScope N_Rule_shown ["self"] (defScope s_Rule_shown) := ⟨rfl, rfl, rfl, by decide +kernel, rfl, by decide +kernel, by decide +kernel⟩
abbrev s_how_often : PySem.Stmt := top 29
abbrev N_how_often : List Str := ["rows", "often", "row", "name"]
theorem sc_how_often : FnScope N_how_often ["rows"] (defScope s_how_often) := ⟨rfl, rfl, rfl, by decide +kernel, rfl, by decide +kernel, by decide +kernel⟩
abbrev s_bounded : PySem.Stmt := top 30
abbrev N_bounded : List Str := ["number"]
theorem sc_bounded : FnScope N_bounded ["number"] (defScope s_bounded) := ⟨rfl, rfl, rfl, by decide +kernel, rfl, by decide +kernel, by decide +kernel⟩
abbrev s_needs : PySem.Stmt := top 32
abbrev N_needs : List Str := ["rule", "number", "part", "name"]
theorem sc_needs : FnScope N_needs ["rule", "number"] (defScope s_needs) := ⟨rfl, rfl, rfl, by decide +kernel, rfl, by decide +kernel, by decide +kernel⟩
abbrev s_gives : PySem.Stmt := top 33
abbrev N_gives : List Str := ["rule", "number", "part"]
theorem sc_gives : FnScope N_gives ["rule", "number"] (defScope s_gives) := ⟨rfl, rfl, rfl, by decide +kernel, rfl, by decide +kernel, by decide +kernel⟩
abbrev s_shared : PySem.Stmt := top 34
abbrev N_shared : List Str := ["rule", "number", "name", "here"]
theorem sc_shared : FnScope N_shared ["rule", "number", "name"] (defScope s_shared) := ⟨rfl, rfl, rfl, by decide +kernel, rfl, by decide +kernel, by decide +kernel⟩
abbrev s_ready : PySem.Stmt := top 35
abbrev N_ready : List Str := ["rule", "number", "bound", "name"]
theorem sc_ready : FnScope N_ready ["rule", "number", "bound"] (defScope s_ready) := ⟨rfl, rfl, rfl, by decide +kernel, rfl, by decide +kernel, by decide +kernel⟩
abbrev s_limited : PySem.Stmt := top 36
abbrev N_limited : List Str := ["rule", "bound", "before", "number", "name"]
theorem sc_limited : FnScope N_limited ["rule"] (defScope s_limited) := ⟨rfl, rfl, rfl, by decide +kernel, rfl, by decide +kernel, by decide +kernel⟩
abbrev s_loose : PySem.Stmt := top 37
abbrev N_loose : List Str := ["rule", "bound", "found", "names", "name", "number"]
theorem sc_loose : FnScope N_loose ["rule"] (defScope s_loose) := ⟨rfl, rfl, rfl, by decide +kernel, rfl, by decide +kernel, by decide +kernel⟩
abbrev s_reckoned_twice : PySem.Stmt := top 38
abbrev N_reckoned_twice : List Str := ["rule", "number", "part"]
theorem sc_reckoned_twice : FnScope N_reckoned_twice ["rule"] (defScope s_reckoned_twice) := ⟨rfl, rfl, rfl, by decide +kernel, rfl, by decide +kernel, by decide +kernel⟩
abbrev s_has_value : PySem.Stmt := top 39
abbrev N_has_value : List Str := ["rule", "number", "name", "other"]
theorem sc_has_value : FnScope N_has_value ["rule", "number"] (defScope s_has_value) := ⟨rfl, rfl, rfl, by decide +kernel, rfl, by decide +kernel, by decide +kernel⟩
abbrev s_all_terms : PySem.Stmt := top 40
abbrev N_all_terms : List Str := ["rule", "terms", "part"]
theorem sc_all_terms : FnScope N_all_terms ["rule"] (defScope s_all_terms) := ⟨rfl, rfl, rfl, by decide +kernel, rfl, by decide +kernel, by decide +kernel⟩
abbrev s_too_long : PySem.Stmt := top 41
abbrev N_too_long : List Str := ["term"]
theorem sc_too_long : FnScope N_too_long ["term"] (defScope s_too_long) := ⟨rfl, rfl, rfl, by decide +kernel, rfl, by decide +kernel, by decide +kernel⟩
abbrev s_check_rule : PySem.Stmt := top 42
abbrev N_check_rule : List Str := ["rule", "name", "names", "term"]
theorem sc_check_rule : FnScope N_check_rule ["rule"] (defScope s_check_rule) := ⟨rfl, rfl, rfl, by decide +kernel, rfl, by decide +kernel, by decide +kernel⟩
abbrev s_is_fact : PySem.Stmt := top 43
abbrev N_is_fact : List Str := ["rule"]
theorem sc_is_fact : FnScope N_is_fact ["rule"] (defScope s_is_fact) := ⟨rfl, rfl, rfl, by decide +kernel, rfl, by decide +kernel, by decide +kernel⟩
abbrev s_row_of : PySem.Stmt := top 44
abbrev N_row_of : List Str := ["rule", "term"]
theorem sc_row_of : FnScope N_row_of ["rule"] (defScope s_row_of) := ⟨rfl, rfl, rfl, by decide +kernel, rfl, by decide +kernel, by decide +kernel⟩
abbrev s_parted : PySem.Stmt := top 45
abbrev N_parted : List Str := ["rules", "facts", "others", "rule"]
theorem sc_parted : FnScope N_parted ["rules"] (defScope s_parted) := ⟨rfl, rfl, rfl, by decide +kernel, rfl, by decide +kernel, by decide +kernel⟩
abbrev s_is_name : PySem.Stmt := top 46
abbrev N_is_name : List Str := ["name", "sign"]
theorem sc_is_name : FnScope N_is_name ["name"] (defScope s_is_name) := ⟨rfl, rfl, rfl, by decide +kernel, rfl, by decide +kernel, by decide +kernel⟩
abbrev s_l_flat : PySem.Stmt := top 48
abbrev N_l_flat : List Str := ["_law_rows", "_law_found", "_law_row"]
theorem sc_l_flat : FnScope N_l_flat ["_law_rows"] (defScope s_l_flat) := ⟨rfl, rfl, rfl, by decide +kernel, rfl, by decide +kernel, by decide +kernel⟩
abbrev s_l_dice : PySem.Stmt := top 49
abbrev N_l_dice : List Str := ["_law_cell"]
theorem sc_l_dice : FnScope N_l_dice ["_law_cell"] (defScope s_l_dice) := ⟨rfl, rfl, rfl, by decide +kernel, rfl, by decide +kernel, by decide +kernel⟩
abbrev s_l_roll : PySem.Stmt := top 50
abbrev N_l_roll : List Str := ["_law_dice_here", "_law_many", "_law_found"]
theorem sc_l_roll : FnScope N_l_roll ["_law_dice_here", "_law_many"] (defScope s_l_roll) := ⟨rfl, rfl, rfl, by decide +kernel, rfl, by decide +kernel, by decide +kernel⟩
abbrev s_l_rounds : PySem.Stmt := top 51
abbrev N_l_rounds : List Str := ["_law_script", "_law_most", "_law_cells", "_law_cell"]
theorem sc_l_rounds : FnScope N_l_rounds ["_law_script", "_law_most"] (defScope s_l_rounds) := ⟨rfl, rfl, rfl, by decide +kernel, rfl, by decide +kernel, by decide +kernel⟩
abbrev s_l_told : PySem.Stmt := top 52
abbrev N_l_told : List Str := ["_law_what"]
theorem sc_l_told : FnScope N_l_told ["_law_what"] (defScope s_l_told) := ⟨rfl, rfl, rfl, by decide +kernel, rfl, by decide +kernel, by decide +kernel⟩
abbrev s_l_part : PySem.Stmt := top 53
abbrev N_l_part : List Str := ["_law_dice_here", "_law_kind", "_law_terms", "_law_k"]
theorem sc_l_part : FnScope N_l_part ["_law_dice_here"] (defScope s_l_part) := ⟨rfl, rfl, rfl, by decide +kernel, rfl, by decide +kernel, by decide +kernel⟩
abbrev s_l_names : PySem.Stmt := top 54
abbrev N_l_names : List Str := ["_law_terms", "_law_found", "_law_term"]
theorem sc_l_names : FnScope N_l_names ["_law_terms"] (defScope s_l_names) := ⟨rfl, rfl, rfl, by decide +kernel, rfl, by decide +kernel, by decide +kernel⟩
abbrev s_l_needs : PySem.Stmt := top 55
abbrev N_l_needs : List Str := ["_law_head", "_law_parts", "_law_j", "_law_kind", "_law_name", "_law_terms", "_law_others", "_law_k", "_law_part_here", "_law_term", "_law_one"]
theorem sc_l_needs : FnScope N_l_needs ["_law_head", "_law_parts", "_law_j"] (defScope s_l_needs) := ⟨rfl, rfl, rfl, by decide +kernel, rfl, by decide +kernel, by decide +kernel⟩
abbrev s_l_limited : PySem.Stmt := top 56
abbrev N_l_limited : List Str := ["_law_head", "_law_parts", "_law_found", "_law_turn", "_law_j", "_law_names_here", "_law_fresh_now", "_law_one"]
theorem sc_l_limited : FnScope N_l_limited ["_law_head", "_law_parts"] (defScope s_l_limited) := ⟨rfl, rfl, rfl, by decide +kernel, rfl, by decide +kernel, by decide +kernel⟩
abbrev s_law : PySem.Stmt := top 57
abbrev N_law : List Str := ["_law_script", "_law_make", "_law_dice_here", "_law_parts", "_law_head", "_law_rule", "_law_good", "_law_wanted_now", "_law_j", "_law_twice", "_law_given", "_law_due", "_law_fact", "_law_other", "_law_wrong", "_law_k", "_law_term", "_law_kind", "_law_name", "_law_terms", "_law_one"]
theorem sc_law : FnScope N_law ["_law_script"] (defScope s_law) := ⟨rfl, rfl, rfl, by decide +kernel, rfl, by decide +kernel, by decide +kernel⟩
abbrev le__law_make : Expr := asgVal ((defBody s_law).getD 0 (.Pass ⟨0, 0, 0, 0⟩))
abbrev la__law_make : Arguments := lamArgs le__law_make
abbrev lb__law_make : Expr := lamBody le__law_make
abbrev ls__law_make : Scope := lamScope le__law_make
theorem sc_lam__law_make : FnScope ["_law_term"] ["_law_term"] ls__law_make := ⟨rfl, rfl, rfl, by decide +kernel, rfl, by decide +kernel, by decide +kernel⟩
structure Ad where
  t_INNER : Tok
  t_MOST : Tok
  t_SMALL : Tok
  C_BadSign : Addr
  C_BadRule : Addr
  C_BadKind : Addr
  C_BadLayer : Addr
  C_NoSuch : Addr
  C_BadDeed : Addr
  C_BadGround : Addr
  C_BadStore : Addr
  C_Broken : Addr
  C_BadSize : Addr
  cL : Addr
  PL : Addr
  f_is_small : Addr
  d_is_small : FuncData
  f_is_inner : Addr
  d_is_inner : FuncData
  f_Term_init : Addr
  d_Term_init : FuncData
  f_Term_is_variable : Addr
  d_Term_is_variable : FuncData
  f_Term_shown : Addr
  d_Term_shown : FuncData
  f_var : Addr
  d_var : FuncData
  f_val : Addr
  d_val : FuncData
  f_is_number : Addr
  d_is_number : FuncData
  f_names_in : Addr
  d_names_in : FuncData
  f_shown_all : Addr
  d_shown_all : FuncData
  f_Literal_init : Addr
  d_Literal_init : FuncData
  f_Literal_names : Addr
  d_Literal_names : FuncData
  f_Literal_shown : Addr
  d_Literal_shown : FuncData
  f_Rule_init : Addr
  d_Rule_init : FuncData
  f_Rule_names : Addr
  d_Rule_names : FuncData
  f_Rule_asked : Addr
  d_Rule_asked : FuncData
  f_Rule_reckons : Addr
  d_Rule_reckons : FuncData
  f_Rule_shown : Addr
  d_Rule_shown : FuncData
  f_how_often : Addr
  d_how_often : FuncData
  f_bounded : Addr
  d_bounded : FuncData
  f_needs : Addr
  d_needs : FuncData
  f_gives : Addr
  d_gives : FuncData
  f_shared : Addr
  d_shared : FuncData
  f_ready : Addr
  d_ready : FuncData
  f_limited : Addr
  d_limited : FuncData
  f_loose : Addr
  d_loose : FuncData
  f_reckoned_twice : Addr
  d_reckoned_twice : FuncData
  f_has_value : Addr
  d_has_value : FuncData
  f_all_terms : Addr
  d_all_terms : FuncData
  f_too_long : Addr
  d_too_long : FuncData
  f_check_rule : Addr
  d_check_rule : FuncData
  f_is_fact : Addr
  d_is_fact : FuncData
  f_row_of : Addr
  d_row_of : FuncData
  f_parted : Addr
  d_parted : FuncData
  f_is_name : Addr
  d_is_name : FuncData
  f_l_flat : Addr
  d_l_flat : FuncData
  f_l_dice : Addr
  d_l_dice : FuncData
  f_l_roll : Addr
  d_l_roll : FuncData
  f_l_rounds : Addr
  d_l_rounds : FuncData
  f_l_told : Addr
  d_l_told : FuncData
  f_l_part : Addr
  d_l_part : FuncData
  f_l_names : Addr
  d_l_names : FuncData
  f_l_needs : Addr
  d_l_needs : FuncData
  f_l_limited : Addr
  d_l_limited : FuncData
  f_law : Addr
  d_law : FuncData
  C_Term : Addr
  C_Literal : Addr
  C_Rule : Addr
/-- what the top leaves -/
structure Txt (K : PySem.W.Frag) (mg : Str → Option Value) (A : Ad) : Prop where
  F_is_small : Fun K "is_small" "is_small" s_is_small A.f_is_small A.d_is_small
  b_is_small : Binds K A.d_is_small ["sign"] []
  m_is_small : mg "is_small" = some (.ref A.f_is_small)
  F_is_inner : Fun K "is_inner" "is_inner" s_is_inner A.f_is_inner A.d_is_inner
  b_is_inner : Binds K A.d_is_inner ["sign"] []
  m_is_inner : mg "is_inner" = some (.ref A.f_is_inner)
  F_Term_init : FunD K "__init__" "Term.__init__" (defArgs s_Term_init) (defBody s_Term_init) (defScope s_Term_init) [.non] [] A.f_Term_init A.d_Term_init
  b_Term_init : Binds K A.d_Term_init ["self", "name", "value"] []
  bd_Term_init : ∃ ds, Vals [.non] ds ∧ Binds K A.d_Term_init ["self", "name", "value"] ds
  F_Term_is_variable : Fun K "is_variable" "Term.is_variable" s_Term_is_variable A.f_Term_is_variable A.d_Term_is_variable
  b_Term_is_variable : Binds K A.d_Term_is_variable ["self"] []
  e_Term_is_variable : Meth K A.C_Term "is_variable" A.f_Term_is_variable
  F_Term_shown : Fun K "shown" "Term.shown" s_Term_shown A.f_Term_shown A.d_Term_shown
  b_Term_shown : Binds K A.d_Term_shown ["self"] []
  e_Term_shown : Meth K A.C_Term "shown" A.f_Term_shown
  F_var : Fun K "var" "var" s_var A.f_var A.d_var
  b_var : Binds K A.d_var ["name"] []
  m_var : mg "var" = some (.ref A.f_var)
  F_val : Fun K "val" "val" s_val A.f_val A.d_val
  b_val : Binds K A.d_val ["value"] []
  m_val : mg "val" = some (.ref A.f_val)
  F_is_number : Fun K "is_number" "is_number" s_is_number A.f_is_number A.d_is_number
  b_is_number : Binds K A.d_is_number ["value"] []
  m_is_number : mg "is_number" = some (.ref A.f_is_number)
  F_names_in : Fun K "names_in" "names_in" s_names_in A.f_names_in A.d_names_in
  b_names_in : Binds K A.d_names_in ["terms"] []
  m_names_in : mg "names_in" = some (.ref A.f_names_in)
  F_shown_all : Fun K "shown_all" "shown_all" s_shown_all A.f_shown_all A.d_shown_all
  b_shown_all : Binds K A.d_shown_all ["terms"] []
  m_shown_all : mg "shown_all" = some (.ref A.f_shown_all)
  F_Literal_init : Fun K "__init__" "Literal.__init__" s_Literal_init A.f_Literal_init A.d_Literal_init
  b_Literal_init : Binds K A.d_Literal_init ["self", "kind", "name", "terms"] []
  F_Literal_names : Fun K "names" "Literal.names" s_Literal_names A.f_Literal_names A.d_Literal_names
  b_Literal_names : Binds K A.d_Literal_names ["self"] []
  e_Literal_names : Meth K A.C_Literal "names" A.f_Literal_names
  F_Literal_shown : Fun K "shown" "Literal.shown" s_Literal_shown A.f_Literal_shown A.d_Literal_shown
  b_Literal_shown : Binds K A.d_Literal_shown ["self"] []
  e_Literal_shown : Meth K A.C_Literal "shown" A.f_Literal_shown
  F_Rule_init : FunD K "__init__" "Rule.__init__" (defArgs s_Rule_init) (defBody s_Rule_init) (defScope s_Rule_init) [.non] [] A.f_Rule_init A.d_Rule_init
  b_Rule_init : Binds K A.d_Rule_init ["self", "name", "terms", "body", "summed"] []
  bd_Rule_init : ∃ ds, Vals [.non] ds ∧ Binds K A.d_Rule_init ["self", "name", "terms", "body", "summed"] ds
  F_Rule_names : Fun K "names" "Rule.names" s_Rule_names A.f_Rule_names A.d_Rule_names
  b_Rule_names : Binds K A.d_Rule_names ["self"] []
  e_Rule_names : Meth K A.C_Rule "names" A.f_Rule_names
  F_Rule_asked : Fun K "asked" "Rule.asked" s_Rule_asked A.f_Rule_asked A.d_Rule_asked
  b_Rule_asked : Binds K A.d_Rule_asked ["self", "kind"] []
  e_Rule_asked : Meth K A.C_Rule "asked" A.f_Rule_asked
  F_Rule_reckons : Fun K "reckons" "Rule.reckons" s_Rule_reckons A.f_Rule_reckons A.d_Rule_reckons
  b_Rule_reckons : Binds K A.d_Rule_reckons ["self"] []
  e_Rule_reckons : Meth K A.C_Rule "reckons" A.f_Rule_reckons
  F_Rule_shown : Fun K "shown" "Rule.shown" s_Rule_shown A.f_Rule_shown A.d_Rule_shown
  b_Rule_shown : Binds K A.d_Rule_shown ["self"] []
  e_Rule_shown : Meth K A.C_Rule "shown" A.f_Rule_shown
  F_how_often : Fun K "how_often" "how_often" s_how_often A.f_how_often A.d_how_often
  b_how_often : Binds K A.d_how_often ["rows"] []
  m_how_often : mg "how_often" = some (.ref A.f_how_often)
  F_bounded : Fun K "bounded" "bounded" s_bounded A.f_bounded A.d_bounded
  b_bounded : Binds K A.d_bounded ["number"] []
  m_bounded : mg "bounded" = some (.ref A.f_bounded)
  F_needs : Fun K "needs" "needs" s_needs A.f_needs A.d_needs
  b_needs : Binds K A.d_needs ["rule", "number"] []
  m_needs : mg "needs" = some (.ref A.f_needs)
  F_gives : Fun K "gives" "gives" s_gives A.f_gives A.d_gives
  b_gives : Binds K A.d_gives ["rule", "number"] []
  m_gives : mg "gives" = some (.ref A.f_gives)
  F_shared : Fun K "shared" "shared" s_shared A.f_shared A.d_shared
  b_shared : Binds K A.d_shared ["rule", "number", "name"] []
  m_shared : mg "shared" = some (.ref A.f_shared)
  F_ready : Fun K "ready" "ready" s_ready A.f_ready A.d_ready
  b_ready : Binds K A.d_ready ["rule", "number", "bound"] []
  m_ready : mg "ready" = some (.ref A.f_ready)
  F_limited : Fun K "limited" "limited" s_limited A.f_limited A.d_limited
  b_limited : Binds K A.d_limited ["rule"] []
  m_limited : mg "limited" = some (.ref A.f_limited)
  F_loose : Fun K "loose" "loose" s_loose A.f_loose A.d_loose
  b_loose : Binds K A.d_loose ["rule"] []
  m_loose : mg "loose" = some (.ref A.f_loose)
  F_reckoned_twice : Fun K "reckoned_twice" "reckoned_twice" s_reckoned_twice A.f_reckoned_twice A.d_reckoned_twice
  b_reckoned_twice : Binds K A.d_reckoned_twice ["rule"] []
  m_reckoned_twice : mg "reckoned_twice" = some (.ref A.f_reckoned_twice)
  F_has_value : Fun K "has_value" "has_value" s_has_value A.f_has_value A.d_has_value
  b_has_value : Binds K A.d_has_value ["rule", "number"] []
  m_has_value : mg "has_value" = some (.ref A.f_has_value)
  F_all_terms : Fun K "all_terms" "all_terms" s_all_terms A.f_all_terms A.d_all_terms
  b_all_terms : Binds K A.d_all_terms ["rule"] []
  m_all_terms : mg "all_terms" = some (.ref A.f_all_terms)
  F_too_long : Fun K "too_long" "too_long" s_too_long A.f_too_long A.d_too_long
  b_too_long : Binds K A.d_too_long ["term"] []
  m_too_long : mg "too_long" = some (.ref A.f_too_long)
  F_check_rule : Fun K "check_rule" "check_rule" s_check_rule A.f_check_rule A.d_check_rule
  b_check_rule : Binds K A.d_check_rule ["rule"] []
  m_check_rule : mg "check_rule" = some (.ref A.f_check_rule)
  F_is_fact : Fun K "is_fact" "is_fact" s_is_fact A.f_is_fact A.d_is_fact
  b_is_fact : Binds K A.d_is_fact ["rule"] []
  m_is_fact : mg "is_fact" = some (.ref A.f_is_fact)
  F_row_of : Fun K "row_of" "row_of" s_row_of A.f_row_of A.d_row_of
  b_row_of : Binds K A.d_row_of ["rule"] []
  m_row_of : mg "row_of" = some (.ref A.f_row_of)
  F_parted : Fun K "parted" "parted" s_parted A.f_parted A.d_parted
  b_parted : Binds K A.d_parted ["rules"] []
  m_parted : mg "parted" = some (.ref A.f_parted)
  F_is_name : Fun K "is_name" "is_name" s_is_name A.f_is_name A.d_is_name
  b_is_name : Binds K A.d_is_name ["name"] []
  m_is_name : mg "is_name" = some (.ref A.f_is_name)
  F_l_flat : Fun K "_law_flat" "_law_flat" s_l_flat A.f_l_flat A.d_l_flat
  b_l_flat : Binds K A.d_l_flat ["_law_rows"] []
  m_l_flat : mg "_law_flat" = some (.ref A.f_l_flat)
  F_l_dice : Fun K "_law_dice" "_law_dice" s_l_dice A.f_l_dice A.d_l_dice
  b_l_dice : Binds K A.d_l_dice ["_law_cell"] []
  m_l_dice : mg "_law_dice" = some (.ref A.f_l_dice)
  F_l_roll : Fun K "_law_roll" "_law_roll" s_l_roll A.f_l_roll A.d_l_roll
  b_l_roll : Binds K A.d_l_roll ["_law_dice_here", "_law_many"] []
  m_l_roll : mg "_law_roll" = some (.ref A.f_l_roll)
  F_l_rounds : Fun K "_law_rounds" "_law_rounds" s_l_rounds A.f_l_rounds A.d_l_rounds
  b_l_rounds : Binds K A.d_l_rounds ["_law_script", "_law_most"] []
  m_l_rounds : mg "_law_rounds" = some (.ref A.f_l_rounds)
  F_l_told : Fun K "_law_told" "_law_told" s_l_told A.f_l_told A.d_l_told
  b_l_told : Binds K A.d_l_told ["_law_what"] []
  m_l_told : mg "_law_told" = some (.ref A.f_l_told)
  F_l_part : Fun K "_law_part" "_law_part" s_l_part A.f_l_part A.d_l_part
  b_l_part : Binds K A.d_l_part ["_law_dice_here"] []
  m_l_part : mg "_law_part" = some (.ref A.f_l_part)
  F_l_names : Fun K "_law_names" "_law_names" s_l_names A.f_l_names A.d_l_names
  b_l_names : Binds K A.d_l_names ["_law_terms"] []
  m_l_names : mg "_law_names" = some (.ref A.f_l_names)
  F_l_needs : Fun K "_law_needs" "_law_needs" s_l_needs A.f_l_needs A.d_l_needs
  b_l_needs : Binds K A.d_l_needs ["_law_head", "_law_parts", "_law_j"] []
  m_l_needs : mg "_law_needs" = some (.ref A.f_l_needs)
  F_l_limited : Fun K "_law_limited" "_law_limited" s_l_limited A.f_l_limited A.d_l_limited
  b_l_limited : Binds K A.d_l_limited ["_law_head", "_law_parts"] []
  m_l_limited : mg "_law_limited" = some (.ref A.f_l_limited)
  F_law : Fun K "law" "law" s_law A.f_law A.d_law
  b_law : Binds K A.d_law ["_law_script"] []
  m_law : mg "law" = some (.ref A.f_law)
  m_Term : mg "Term" = some (.ref A.C_Term)
  cl_Term : Cls K A.C_Term
  M_Term : Mk K A.C_Term A.f_Term_init
  n_Term_name : NoAttr K A.C_Term "name"
  n_Term_value : NoAttr K A.C_Term "value"
  m_Literal : mg "Literal" = some (.ref A.C_Literal)
  cl_Literal : Cls K A.C_Literal
  M_Literal : Mk K A.C_Literal A.f_Literal_init
  n_Literal_kind : NoAttr K A.C_Literal "kind"
  n_Literal_name : NoAttr K A.C_Literal "name"
  n_Literal_terms : NoAttr K A.C_Literal "terms"
  n_Literal_own : NoAttr K A.C_Literal "own"
  m_Rule : mg "Rule" = some (.ref A.C_Rule)
  cl_Rule : Cls K A.C_Rule
  M_Rule : Mk K A.C_Rule A.f_Rule_init
  n_Rule_name : NoAttr K A.C_Rule "name"
  n_Rule_terms : NoAttr K A.C_Rule "terms"
  n_Rule_body : NoAttr K A.C_Rule "body"
  n_Rule_summed : NoAttr K A.C_Rule "summed"
  n_Rule_stands : NoAttr K A.C_Rule "stands"
  g_INNER : mg "INNER" = some (.str "abcdefghijklmnopqrstuvwxyzABCDEFGHIJKLMNOPQRSTUVWXYZ0123456789_" A.t_INNER)
  g_MOST : mg "MOST" = some (.int (999999999999999999) A.t_MOST)
  g_SMALL : mg "SMALL" = some (.str "abcdefghijklmnopqrstuvwxyz" A.t_SMALL)
  q_BadSign : mg "BadSign" = some (.ref A.C_BadSign)
  q_BadRule : mg "BadRule" = some (.ref A.C_BadRule)
  q_BadKind : mg "BadKind" = some (.ref A.C_BadKind)
  q_BadLayer : mg "BadLayer" = some (.ref A.C_BadLayer)
  q_NoSuch : mg "NoSuch" = some (.ref A.C_NoSuch)
  q_BadDeed : mg "BadDeed" = some (.ref A.C_BadDeed)
  q_BadGround : mg "BadGround" = some (.ref A.C_BadGround)
  q_BadStore : mg "BadStore" = some (.ref A.C_BadStore)
  q_Broken : mg "Broken" = some (.ref A.C_Broken)
  q_BadSize : mg "BadSize" = some (.ref A.C_BadSize)
  x_BadRule : PySem.W.excIn K A.C_BadRule [.type "ValueError", .type "Exception", .type "BaseException", .type "object"] "ValueError.__new__" = true
  k_BadRule : PySem.W.keepIn K (.ref A.C_BadRule) = true
  sb_BadRule : PySem.W.subIn K (.ref A.C_BadRule) (.type "BaseException") = some true
  ty_BadRule : PySem.W.typeIn K (.ref A.C_BadRule) = some (.type "type")
  m_BadRule_BadSign : PySem.W.exmOne K (.ref A.C_BadRule) (.ref A.C_BadSign) = some false
  m_BadRule_BadRule : PySem.W.exmOne K (.ref A.C_BadRule) (.ref A.C_BadRule) = some true
  x_BadSize : PySem.W.excIn K A.C_BadSize [.type "ValueError", .type "Exception", .type "BaseException", .type "object"] "ValueError.__new__" = true
  k_BadSize : PySem.W.keepIn K (.ref A.C_BadSize) = true
  sb_BadSize : PySem.W.subIn K (.ref A.C_BadSize) (.type "BaseException") = some true
  ty_BadSize : PySem.W.typeIn K (.ref A.C_BadSize) = some (.type "type")
  m_BadSize_BadSign : PySem.W.exmOne K (.ref A.C_BadSize) (.ref A.C_BadSign) = some false
  m_BadSize_BadRule : PySem.W.exmOne K (.ref A.C_BadSize) (.ref A.C_BadRule) = some false
  m_BadSize_BadKind : PySem.W.exmOne K (.ref A.C_BadSize) (.ref A.C_BadKind) = some false
  m_BadSize_BadLayer : PySem.W.exmOne K (.ref A.C_BadSize) (.ref A.C_BadLayer) = some false
  m_BadSize_NoSuch : PySem.W.exmOne K (.ref A.C_BadSize) (.ref A.C_NoSuch) = some false
  m_BadSize_BadDeed : PySem.W.exmOne K (.ref A.C_BadSize) (.ref A.C_BadDeed) = some false
  m_BadSize_BadGround : PySem.W.exmOne K (.ref A.C_BadSize) (.ref A.C_BadGround) = some false
  m_BadSize_BadStore : PySem.W.exmOne K (.ref A.C_BadSize) (.ref A.C_BadStore) = some false
  m_BadSize_Broken : PySem.W.exmOne K (.ref A.C_BadSize) (.ref A.C_Broken) = some false
  m_BadSize_BadSize : PySem.W.exmOne K (.ref A.C_BadSize) (.ref A.C_BadSize) = some true
  C_law : FunC K "law" "law" s_law A.f_law A.d_law A.cL
  H_law : PySem.W.codeHdIn K A.cL A.PL = true
  z_abs : mg "abs" = none
  z_all : mg "all" = none
  z_any : mg "any" = none
  z_enumerate : mg "enumerate" = none
  z_int : mg "int" = none
  z_isinstance : mg "isinstance" = none
  z_len : mg "len" = none
  z_list : mg "list" = none
  z_range : mg "range" = none
  z_sorted : mg "sorted" = none
  z_str : mg "str" = none
  z_tuple : mg "tuple" = none

/-! ### objects: a Term has a name and a value -/
theorem nv_ : ¬ (("name" : Str) = "value") := by decide +kernel
theorem vn_ : ¬ (("value" : Str) = "name") := by decide +kernel
def tf (n : Str) (v : V) : List (Str × V) := putF "value" v (putF "name" (.str n) [])
theorem tf_name (n : Str) (v : V) : (tf n v).lookup ("name" : Str) = some (.str n) := by
  unfold tf
  rw [lookup_putF, if_neg nv_, lookup_putF, if_pos rfl]
theorem tf_value (n : Str) (v : V) : (tf n v).lookup ("value" : Str) = some v := by
  unfold tf
  rw [lookup_putF, if_pos rfl]
theorem tf_no (n : Str) (v : V) {m : Str} (h1 : ¬ m = "value") (h2 : ¬ m = "name") : (tf n v).lookup m = none := by
  unfold tf
  rw [lookup_putF, if_neg h1, lookup_putF, if_neg h2]
  all_goals rfl
/-- a Term stands at a -/
def TmAt (C : Addr) (H : Hp) (a : Addr) (n : Str) (v : V) : Prop := ∃ dx, H a = some (.ins C dx (tf n v))
def sh (n : Str) (v : V) : List V := if n = "" then [.str "val", v] else [.str "var", .str n]

theorem same_new {H : Hp} {p : Addr} {o : HO} (h : H p = none) : Same H (upd H p o) := fun b u e => by
  rw [upd_ne (ne_of_none e h)]
  exact e

def spInit (C : Addr) : Sp := fun vs H Q _ => ∃ (p dx : Addr) (n : Str) (v : V), vs = [.ref p, .str n, v] ∧ H p = some (.ins C dx []) ∧ ∀ H', TmAt C H' p n v → (∀ b o, H b = some o → b ≠ p → H' b = some o) → Q .non H'
def spIsVar (C : Addr) : Sp := fun vs H Q _ => ∃ (p : Addr) (n : Str) (v : V), vs = [.ref p] ∧ TmAt C H p n v ∧ Q (.bl (!decide (n = ""))) H
def spShown (C : Addr) : Sp := fun vs H Q _ => ∃ (p : Addr) (n : Str) (v : V), vs = [.ref p] ∧ TmAt C H p n v ∧ ∀ q, H q = none → Q (.ref q) (upd H q (.tup (sh n v)))
def spVar (C : Addr) : Sp := fun vs H Q _ => ∃ n : Str, vs = [.str n] ∧ ∀ x H', H x = none → TmAt C H' x n .non → Same H H' → Q (.ref x) H'
def spVal (C : Addr) : Sp := fun vs H Q _ => ∃ v : V, vs = [v] ∧ ∀ x H', H x = none → TmAt C H' x "" v → Same H H' → Q (.ref x) H'
section
variable {P : Program} {w : World} {K : PySem.W.Frag} {mg : Str → Option Value} {base : Heap} {A : Ad}
theorem ok_init (T : Txt K mg A) : FnOk P w K mg base CX0 1 A.f_Term_init A.d_Term_init ["self", "name", "value"] (spInit A.C_Term) := by
  refine T.F_Term_init.ok sc_Term_init (fun vs H Q E h => ?_) (fun cdv ar outer s H vs Q E hr h => ?_)
  · obtain ⟨p, dx, n, v, rfl, _⟩ := h
    rfl
  · obtain ⟨p, dx, n, v, rfl, hp, k⟩ := h
    refine ⟨_, (pss_cons (sfldK K (pv 0) (pv 1) rfl)
      (pss_one (sfldK K (pv 0) (pv 2) rfl))), ?_⟩
    refine ⟨_, rfl, _, rfl, p, _, dx, _, rfl, hp, T.cl_Term, T.n_Term_name, (by show 0 < 1000; decide), _, rfl, _, rfl, p, _, dx, _, rfl, upd_same, T.cl_Term, T.n_Term_value, (by show 1 < 1000; decide), ?_⟩
    exact k _ ⟨dx, upd_same⟩ fun b o e hb => by rw [upd_ne hb, upd_ne hb]; exact e
theorem ok_is_variable (T : Txt K mg A) : FnOk P w K mg base CX0 1 A.f_Term_is_variable A.d_Term_is_variable ["self"] (spIsVar A.C_Term) := by
  refine T.F_Term_is_variable.ok sc_Term_is_variable (fun vs H Q E h => ?_) (fun cdv ar outer s H vs Q E hr h => ?_)
  · obtain ⟨p, n, v, rfl, _⟩ := h
    rfl
  · obtain ⟨p, n, v, rfl, ⟨dx, hp⟩, k⟩ := h
    refine ⟨_, (pss_one (ps_ret (pe_cmpR op_ne (fldK K (pv 0) rfl) pe_str (nomark _)))), ?_⟩
    refine ⟨_, rfl, p, _, dx, _, _, rfl, hp, T.cl_Term, T.n_Term_name, tf_name _ _, rfl, ?_⟩
    have e : decide (V.str n = V.str "") = decide (n = ("" : Str)) := by simp
    show Q (V.bl (!decide (V.str n = V.str ""))) H
    rw [e]
    exact k
theorem no_isv (n : Str) (v : V) : (tf n v).lookup ("is_variable" : Str) = none := tf_no n v (by decide +kernel) (by decide +kernel)
theorem no_shown (n : Str) (v : V) : (tf n v).lookup ("shown" : Str) = none := tf_no n v (by decide +kernel) (by decide +kernel)
theorem ok_shown (T : Txt K mg A) : FnOk P w K mg base CX0 2 A.f_Term_shown A.d_Term_shown ["self"] (spShown A.C_Term) := by
  have G_Term_is_variable : FnOk P w K mg base CX0 1 A.f_Term_is_variable A.d_Term_is_variable ["self"] (spIsVar A.C_Term) := ok_is_variable T
  refine T.F_Term_shown.ok sc_Term_shown (fun vs H Q E h => ?_) (fun cdv ar outer s H vs Q E hr h => ?_)
  · obtain ⟨p, n, v, rfl, _⟩ := h
    rfl
  · obtain ⟨p, n, v, rfl, ⟨dx, hp⟩, k⟩ := h
    refine ⟨_, (pss_one (ps_ret (pe_ifExp (pt_val (pe_meth0 (pv 0) T.cl_Term T.e_Term_is_variable G_Term_is_variable (hr.mono (by decide)) T.b_Term_is_variable .nil pass0)) (pe_tup (pa_cons pe_str (pa_cons (fldK K (pv 0) rfl) pa_nil))) (pe_tup (pa_cons pe_str (pa_cons (fldK K (pv 0) rfl) pa_nil)))))), ?_⟩
    refine ⟨_, rfl, p, dx, _, rfl, hp, no_isv _ _, p, n, v, rfl, ⟨dx, hp⟩, _, rfl, ?_⟩
    by_cases e : n = ""
    · have ek : sh n v = [.str "val", v] := if_pos e
      rw [decide_eq_true e]
      refine iteF ⟨_, rfl, p, _, dx, _, _, rfl, hp, T.cl_Term, T.n_Term_value, tf_value _ _, (by show 2 ≤ sizeLine; decide), fun q hq => ?_⟩
      rw [ek] at k
      exact k q hq
    · have ek : sh n v = [.str "var", .str n] := if_neg e
      rw [decide_eq_false e]
      refine iteT ⟨_, rfl, p, _, dx, _, _, rfl, hp, T.cl_Term, T.n_Term_name, tf_name _ _, (by show 2 ≤ sizeLine; decide), fun q hq => ?_⟩
      rw [ek] at k
      exact k q hq
theorem ok_var (T : Txt K mg A) : FnOk P w K mg base CX0 3 A.f_var A.d_var ["name"] (spVar A.C_Term) := by
  have G_Term_init : FnOk P w K mg base CX0 1 A.f_Term_init A.d_Term_init ["self", "name", "value"] (spInit A.C_Term) := ok_init T
  obtain ⟨ds, hv_Term_init, hb_Term_init⟩ := T.bd_Term_init
  refine T.F_var.ok sc_var (fun vs H Q E h => ?_) (fun cdv ar outer s H vs Q E hr h => ?_)
  · obtain ⟨n, rfl, _⟩ := h
    rfl
  · obtain ⟨n, rfl, k⟩ := h
    refine ⟨_, (pss_one (ps_ret (pe_make T.M_Term G_Term_init (hr.mono (by decide)) (by rfl) T.m_Term hb_Term_init hv_Term_init pass0 (pa_cons (pv 0) pa_nil)))), ?_⟩
    refine ⟨_, rfl, fun x dx nx ndx nex => ?_⟩
    refine ⟨x, dx, n, .non, rfl, upd_same, fun H' h1 h2 => ⟨rfl, k x H' nx h1 fun b o e => ?_⟩⟩
    exact h2 b o (by rw [upd_ne (ne_of_none e nx), upd_ne (ne_of_none e ndx)]; exact e) (ne_of_none e nx)
theorem ok_val (T : Txt K mg A) : FnOk P w K mg base CX0 3 A.f_val A.d_val ["value"] (spVal A.C_Term) := by
  have G_Term_init : FnOk P w K mg base CX0 1 A.f_Term_init A.d_Term_init ["self", "name", "value"] (spInit A.C_Term) := ok_init T
  refine T.F_val.ok sc_val (fun vs H Q E h => ?_) (fun cdv ar outer s H vs Q E hr h => ?_)
  · obtain ⟨v, rfl, _⟩ := h
    rfl
  · obtain ⟨v, rfl, k⟩ := h
    refine ⟨_, (pss_one (ps_ret (pe_make T.M_Term G_Term_init (hr.mono (by decide)) (by rfl) T.m_Term T.b_Term_init .nil pass0 (pa_cons pe_str (pa_cons (pv 0) pa_nil))))), ?_⟩
    refine ⟨_, rfl, fun x dx nx ndx nex => ?_⟩
    refine ⟨x, dx, "", v, rfl, upd_same, fun H' h1 h2 => ⟨rfl, k x H' nx h1 fun b o e => ?_⟩⟩
    exact h2 b o (by rw [upd_ne (ne_of_none e nx), upd_ne (ne_of_none e ndx)]; exact e) (ne_of_none e nx)
end
end Toy

set_option Elab.async false
set_option maxRecDepth 100000
set_option maxHeartbeats 4000000
namespace Toy
open PySem L2
theorem iteD {c : Prop} [Decidable c] {A B : Prop} (h1 : c → A) (h2 : ¬ c → B) : if decide c = true then A else B := by
  by_cases h : c
  · rw [decide_eq_true h]; exact iteT (h1 h)
  · rw [decide_eq_false h]; exact iteF (h2 h)
theorem iteND {c : Prop} [Decidable c] {A B : Prop} (h1 : ¬ c → A) (h2 : c → B) : if (!decide c) = true then A else B := by
  by_cases h : c
  · rw [decide_eq_true h]; exact iteF (h2 h)
  · rw [decide_eq_false h]; exact iteT (h1 h)
theorem iteB {c : Bool} {A B : Prop} (h1 : c = true → A) (h2 : c = false → B) : if c = true then A else B := by
  cases c
  · exact iteF (h2 rfl)
  · exact iteT (h1 rfl)
theorem ifs_of {c : TT} {t u : TS} {D : Ends} {σ : L2.St} {H : Hp} (b : Bool) (hc : ∀ Q : Bool → Hp → Prop, Q b H → c σ H Q) (h1 : b = true → t D σ H) (h2 : b = false → u D σ H) : tIfS c t u D σ H :=
  hc _ (iteB h1 h2)
theorem dec_int (i j : Int) : decide (V.int i = V.int j) = decide (i = j) := by simp
theorem dec_str (i j : Str) : decide (V.str i = V.str j) = decide (i = j) := by simp
theorem dec_bl (i j : Bool) : decide (V.bl i = V.bl j) = decide (i = j) := by simp
/-! ### dice -/
def DiceAt (H : Hp) (d : Addr) : Prop := ∃ x y z : Int, H d = some (.lst [.int x, .int y, .int z])
def spDice : Sp := fun vs H Q _ => ∃ c : Int, vs = [.int c] ∧ ∀ (p : Addr) (x y z : Int), H p = none → Q (.ref p) (upd H p (.lst [.int x, .int y, .int z]))
def spRoll : Sp := fun vs H Q _ => ∃ (d : Addr) (m : Int), vs = [.ref d, .int m] ∧ DiceAt H d ∧ 0 < m ∧ m < 1000 ∧ ∀ (k : Int) (H' : Hp), 0 ≤ k → k < m → DiceAt H' d → (∀ b, b ≠ d → H' b = H b) → Q (.int k) H'
def spRounds (K : PySem.W.Frag) : Sp := fun vs H Q _ => ∃ (a : Addr) (ns : List Int), vs = [.ref a, .int 1] ∧ SqL K H a (ns.map V.int) ∧
  ∀ (p d : Addr) (H' : Hp), Same H H' → H p = none → H d = none → d ≠ p → DiceAt H' d → H' p = some (.lst [.ref d]) → Q (.ref p) H'
section
variable {P : Program} {w : World} {K : PySem.W.Frag} {mg : Str → Option Value} {base : Heap} {A : Ad}
theorem ok_dice (T : Txt K mg A) : FnOk P w K mg base CX0 1 A.f_l_dice A.d_l_dice ["_law_cell"] spDice := by
  refine T.F_l_dice.ok sc_l_dice (fun vs H Q E h => ?_) (fun cdv ar outer s H vs Q E hr h => ?_)
  · obtain ⟨c, rfl, _⟩ := h
    rfl
  · obtain ⟨c, rfl, k⟩ := h
    refine ⟨_, (pss_cons (ps_if (pt_chain op_lt op_lt (pe_op op_sub pe_int pe_int) (pv 0) pe_int)
        (pss_one (ps_ret (pe_lst (pa_cons (pe_callB absK (by rfl) T.z_abs (by decide +kernel) (pa_cons (pv 0) pa_nil)) (pa_cons pe_int (pa_cons pe_int pa_nil))))))
        pss_nil)
      (pss_one (ps_ret (pe_lst (pa_cons (pv 0) (pa_cons (pe_op op_add pe_int (pe_op op_mod (pe_callTy int1K (by rfl) T.z_int (by decide +kernel) (pa_cons (pv 0) pa_nil)) pe_int)) (pa_cons (pe_callTy int1K (by rfl) T.z_int (by decide +kernel) (pa_cons (pe_cmpR op_ge (pv 0) (pe_op op_pow pe_int pe_int) (nomark _)) pa_nil)) pa_nil))))))), ?_⟩
    have back : tRet (tLst (tCons (tVar 0) (tCons (tOp (rI0 fun i j => V.int (i + j)) (tC (V.int 1)) (tOp (rI (fun x j => 0 < j) fun i j => V.int (i % j)) (tCB (fun xs H Q => (∃ i, xs = [V.int i] ∧ Q (V.int i) H) ∨ ∃ k, xs = [V.bl k] ∧ Q (V.int (if k = true then 1 else 0)) H) (tCons (tVar 0) tNil)) (tC (V.int 1009))))
        (tCons (tCB (fun xs H Q => (∃ i, xs = [V.int i] ∧ Q (V.int i) H) ∨ ∃ k, xs = [V.bl k] ∧ Q (V.int (if k = true then 1 else 0)) H) (tCons (tOp (rI0 fun i j => V.bl (decide (j ≤ i))) (tVar 0) (tOp (rI CPow fun i j => V.int (i ^ j.toNat)) (tC (V.int 10)) (tC (V.int 18)))) tNil)) tNil))))
        { nx := fun x H' => Q V.non H', rt := Q } (L2.start N_l_dice [V.int c]) H := by
      refine ⟨_, rfl, _, rfl, .inl ⟨_, rfl, _, _, rfl, rfl, (by show (0 : Int) < 1009; decide), _, _, rfl, rfl, _, rfl, _, _, rfl, rfl, (by exact ⟨by decide, by decide, by decide⟩), _, _, rfl, rfl, .inr ⟨_, rfl, (by show 3 ≤ sizeLine; decide), fun p hp => k _ _ _ _ hp⟩⟩⟩
    refine ⟨_, _, rfl, rfl, _, rfl, _, _, rfl, rfl, _, rfl, ?_⟩
    refine iteD (fun _ => ?_) (fun _ => ?_)
    · refine ⟨_, _, rfl, rfl, _, rfl, ?_⟩
      refine iteD (fun _ => ?_) (fun _ => back)
      exact ⟨_, rfl, _, rfl, (by show 3 ≤ sizeLine; decide), fun p hp => k _ _ _ _ hp⟩
    · exact ⟨_, rfl, iteF back⟩
theorem ok_roll (T : Txt K mg A) : FnOk P w K mg base CX0 1 A.f_l_roll A.d_l_roll ["_law_dice_here", "_law_many"] spRoll := by
  refine T.F_l_roll.ok sc_l_roll (fun vs H Q E h => ?_) (fun cdv ar outer s H vs Q E hr h => ?_)
  · obtain ⟨d, m, rfl, _⟩ := h
    rfl
  · obtain ⟨d, m, rfl, ⟨x, y, z, hd⟩, m0, m1, k⟩ := h
    refine ⟨_, (pss_cons (ps_if (PW.pt (pw_or (pt_cmpR op_eq (pe_ix (ixL K) (pv 0) pe_int (fun _ _ => rfl)) pe_int (nomark _)) (pw_or1 (PW.pt (pw_and (pt_cmpR op_eq (pe_ix (ixL K) (pv 0) pe_int (fun _ _ => rfl)) pe_int (nomark _)) (pw_and1 (pt_cmpR op_gt (pe_ix (ixL K) (pv 0) pe_int (fun _ _ => rfl)) pe_int (nomark _))))))))
        (pss_cons (ps_set (i := 2) sc_l_roll.nd rfl (Or.inl rfl) (pe_op op_mod (pe_callTy int1K (by rfl) T.z_int (by decide +kernel) (pa_cons (pe_ix (ixL K) (pv 0) pe_int (fun _ _ => rfl)) pa_nil)) (pv 1)))
        (pss_cons (ps_asg (pe_op op_fdiv (pe_ix (ixL K) (pv 0) pe_int (fun _ _ => rfl)) (pv 1)) (pg_sub (pv 0) pe_int set_list))
        (pss_one (ps_ret (pv 2)))))
        pss_nil)
      (pss_cons (ps_asg pe_int (pg_sub (pv 0) pe_int set_list))
      (pss_cons (ps_asg (pe_op op_mod (pe_callTy int1K (by rfl) T.z_int (by decide +kernel) (pa_cons (pe_op op_add (pe_op op_add (pe_op op_mul (pe_ix (ixL K) (pv 0) pe_int (fun _ _ => rfl)) pe_int) (pe_op op_mul (pe_ix (ixL K) (pv 0) pe_int (fun _ _ => rfl)) pe_int)) pe_int) pa_nil)) pe_int) (pg_sub (pv 0) pe_int set_list))
      (pss_cons (ps_asg (pe_op op_add (pe_ix (ixL K) (pv 0) pe_int (fun _ _ => rfl)) pe_int) (pg_sub (pv 0) pe_int set_list))
      (pss_one (ps_ret (pe_op op_mod (pe_callTy int1K (by rfl) T.z_int (by decide +kernel) (pa_cons (pe_op op_add (pe_op op_fdiv (pe_ix (ixL K) (pv 0) pe_int (fun _ _ => rfl)) pe_int) (pe_ix (ixL K) (pv 0) pe_int (fun _ _ => rfl))) pa_nil)) (pv 1)))))))), ?_⟩
    refine ifs_of (decide (z = 2) || (decide (z = 1) && decide (0 < x))) (fun Q' q => ?_) (fun hb => ?_) (fun hb => ?_)
    · refine ⟨_, rfl, _, _, _, _, rfl, rfl, SqL.of hd, rfl, rfl, _, rfl, ?_⟩
      rw [dec_int]
      refine iteD (fun h => ?_) (fun h => ?_)
      · rw [decide_eq_true h, Bool.true_or] at q
        exact q
      · rw [decide_eq_false h, Bool.false_or] at q
        refine ⟨_, rfl, _, _, _, _, rfl, rfl, SqL.of hd, rfl, rfl, _, rfl, ?_⟩
        rw [dec_int]
        refine iteD (fun h => ?_) (fun h => ?_)
        · rw [decide_eq_true h, Bool.true_and] at q
          exact ⟨_, rfl, _, _, _, _, rfl, rfl, SqL.of hd, rfl, _, _, rfl, rfl, _, rfl, q⟩
        · rw [decide_eq_false h, Bool.false_and] at q
          exact q
    · refine ⟨_, rfl, _, _, _, _, rfl, rfl, SqL.of hd, rfl, .inl ⟨_, rfl, _, rfl, _, _, rfl, rfl, m0, ?_⟩⟩
      refine ⟨_, rfl, _, _, _, _, rfl, rfl, SqL.of hd, rfl, _, rfl, _, _, rfl, rfl, ⟨m0, by omega⟩, ?_⟩
      refine ⟨_, rfl, _, _, _, _, rfl, rfl, hd, rfl, _, rfl, ?_⟩
      exact k _ _ (Int.emod_nonneg _ (by omega)) (Int.emod_lt_of_pos _ m0) ⟨_, _, _, upd_same⟩ fun b hb => upd_ne hb
    · refine ⟨_, rfl, _, _, _, _, rfl, rfl, hd, rfl, ?_⟩
      refine ⟨_, rfl, _, _, _, _, rfl, rfl, SqL.of upd_same, rfl, _, _, rfl, rfl, .inr (by decide), ?_⟩
      refine ⟨_, rfl, _, _, _, _, rfl, rfl, SqL.of upd_same, rfl, _, _, rfl, rfl, .inr (by decide), ?_⟩
      refine ⟨_, _, rfl, rfl, _, _, rfl, rfl, .inl ⟨_, rfl, _, _, rfl, rfl, (by show (0 : Int) < 2147483647; decide), ?_⟩⟩
      refine ⟨_, rfl, _, _, _, _, rfl, rfl, upd_same, rfl, ?_⟩
      refine ⟨_, rfl, _, _, _, _, rfl, rfl, SqL.of upd_same, rfl, _, _, rfl, rfl, ?_⟩
      refine ⟨_, rfl, _, _, _, _, rfl, rfl, upd_same, rfl, ?_⟩
      refine ⟨_, rfl, _, _, _, _, rfl, rfl, SqL.of upd_same, rfl, _, _, rfl, rfl, ⟨by decide, by decide⟩, ?_⟩
      refine ⟨_, rfl, _, _, _, _, rfl, rfl, SqL.of upd_same, rfl, _, _, rfl, rfl, .inl ⟨_, rfl, _, rfl, _, _, rfl, rfl, m0, ?_⟩⟩
      rw [upd_upd, upd_upd]
      exact k _ _ (Int.emod_nonneg _ (by omega)) (Int.emod_lt_of_pos _ m0) ⟨_, _, _, upd_same⟩ fun b hb => upd_ne hb
theorem ok_rounds (T : Txt K mg A) : FnOk P w K mg base CX0 2 A.f_l_rounds A.d_l_rounds ["_law_script", "_law_most"] (spRounds K) := by
  have G_l_dice : FnOk P w K mg base CX0 1 A.f_l_dice A.d_l_dice ["_law_cell"] spDice := ok_dice T
  refine T.F_l_rounds.ok sc_l_rounds (fun vs H Q E h => ?_) (fun cdv ar outer s H vs Q E hr h => ?_)
  · obtain ⟨a, ns, rfl, _⟩ := h
    rfl
  · obtain ⟨a, ns, rfl, hS, k⟩ := h
    refine ⟨_, (pss_cons (ps_set (i := 2) sc_l_rounds.nd rfl (Or.inl rfl) (pe_slice (slL K) (pv 0) po_none (po_some (pv 1))))
      (pss_cons (ps_if (pt_cmpR (eqD K hr.units) (pv 2) (pe_lst pa_nil) (nomark _))
        (pss_one (ps_set (i := 2) sc_l_rounds.nd rfl (Or.inl rfl) (pe_lst (pa_cons pe_int pa_nil))))
        pss_nil)
      (pss_one (ps_ret (pe_lc (own := [("_law_cell", 3)]) (by rfl) sc_l_rounds.nd (listK K (pv 2)) (blkOk_by (own := [("_law_cell", 3)]) (N := N_l_rounds) (sc := defScope s_l_rounds) (by decide +kernel)) (fun _ _ _ _ _ => (pg_name (i := 3) sc_l_rounds.nd rfl (Or.inl rfl))) (fun _ _ _ _ _ => pts_nil) (fun _ _ _ _ _ => (pe_call G_l_dice (hr.mono (by decide)) (by rfl) T.m_l_dice T.F_l_dice.kp T.b_l_dice .nil pass0 (pa_cons (pv 3) pa_nil)))))))), ?_⟩
    have fin : ∀ (c : Int) (l : Addr) (H1 : Hp), Same H H1 → H1 l = some (.lst [.int c]) → tRet (tLc (iList K (tVar 2)) (gName 3) tYes (tCall spDice [] E0 (tCons (tVar 3) tNil)) [3]) { nx := fun x H' => Q V.non H', rt := Q } [some (.ref a), some (.int 1), some (.ref l), none] H1 := by
      intro c l H1 e1 h1
      refine ⟨_, rfl, l, rfl, ⟨_, SqL.of h1⟩, fun D hD => ?_⟩
      have nlD : l ≠ D := ne_of_none h1 hD
      refine lc_list (K := K) (a := l) (xs := [.int c]) (fun i H' => Same H1 H' ∧ ((i = 0 ∧ H' D = some (.lst [])) ∨ (i = 1 ∧ ∃ d, DiceAt H' d ∧ H1 d = none ∧ d ≠ D ∧ H' D = some (.lst [.ref d]))))
        ⟨same_new hD, .inl ⟨rfl, upd_same⟩⟩ (fun i H' hi hP => SqL.of (hP.1 _ _ h1)) ?_ ?_
      · rintro i x H' hi ⟨s1, hP⟩
        rcases hP with ⟨rfl, hP⟩ | ⟨rfl, _⟩
        · cases hi
          refine ⟨rfl, _, rfl, c, rfl, fun p x y z hp => ?_⟩
          have npD : D ≠ p := ne_of_none hP hp
          refine ⟨[], by rw [upd_ne npD]; exact hP, by decide, ?_, .inr ⟨rfl, p, ⟨x, y, z, ?_⟩, s1.free hp, npD.symm, upd_same⟩⟩
          · intro b o e
            have hb := s1 _ _ e
            rw [upd_ne (ne_of_none e hD), upd_ne (ne_of_none hb hp)]
            exact hb
          · rw [upd_ne npD.symm, upd_same]
        · cases hi
      · rintro H' ⟨s1, hP⟩
        rcases hP with ⟨h0, _⟩ | ⟨_, d, h2, h3, h4, h5⟩
        · cases h0
        · exact k D d H' (e1.trans s1) (e1.free hD) (e1.free h3) h4 h2 h5
    refine ⟨_, rfl, _, rfl, _, rfl, _, _, rfl, hS, fun l hl => ?_⟩
    have hx : ∃ c : Int, cutV (ns.map V.int) none (some 1) = [] ∨ cutV (ns.map V.int) none (some 1) = [V.int c] := by
      cases ns with
      | nil => exact ⟨0, .inl rfl⟩
      | cons n r => exact ⟨n, .inr rfl⟩
    obtain ⟨c, hx⟩ := hx
    have e1 : Same H (upd H l (.lst (cutV (ns.map V.int) none (some 1)))) := same_new hl
    rcases hx with hx | hx
    · rw [hx] at e1 ⊢
      refine ⟨_, rfl, Nat.zero_le _, fun m hm => ?_⟩
      refine ⟨.list [], .list [], .lst (SqL.of (by rw [upd_ne (ne_of_none upd_same hm), upd_same])) .nil, .lst (SqL.of upd_same) .nil, rfl, rfl, _, rfl, ?_⟩
      refine iteT ⟨(by decide), fun q hq => ?_⟩
      exact fin 0 q _ ((e1.trans (same_new hm)).trans (same_new hq)) upd_same
    · rw [hx] at e1 ⊢
      refine ⟨_, rfl, Nat.zero_le _, fun m hm => ?_⟩
      refine ⟨.list [.int c], .list [], .lst (SqL.of (by rw [upd_ne (ne_of_none upd_same hm), upd_same])) (.cons (.int c) .nil), .lst (SqL.of upd_same) .nil, rfl, rfl, _, rfl, ?_⟩
      refine iteF ?_
      exact fin c l _ (e1.trans (same_new hm)) (by rw [upd_ne (ne_of_none upd_same hm), upd_same])
end
end Toy

set_option Elab.async false
set_option maxRecDepth 100000
set_option maxHeartbeats 4000000
/-! ## what the functions tell, said plainly -/
namespace U
open PySem
abbrev Tm := Sum Str Int
def isv : Tm → Option Str
  | .inl s => some s
  | .inr _ => none
def vars (ts : List Tm) : List Str := ts.filterMap isv
def addN (acc : List Str) (x : Str) : List Str := if x ∈ acc then acc else acc ++ [x]
def dd (xs : List Str) : List Str := xs.foldl addN []
def nms (ts : List Tm) : List Str := dd (vars ts)
structure Pt where
  kind : Str
  name : Str
  ts : List Tm
structure RR where
  name : Str
  ts : List Tm
  body : List Pt
  sm : Bool
def rows (r : RR) : List (List Str) := nms r.ts :: r.body.map fun q => nms q.ts
def cnt (l : List (List Str)) (x : Str) : Nat := (l.filter fun row => decide (x ∈ row)).length
def shd (r : RR) (q : Pt) (x : Str) : Bool := decide ((if x ∈ nms q.ts then 1 else 0) < cnt (rows r) x)
def nd (r : RR) (q : Pt) : List Str := if q.kind = "cmp" then nms q.ts else if q.kind = "let" then nms (q.ts.drop 1) else if q.kind = "neg" then (nms q.ts).filter (shd r q) else []
def gv (q : Pt) : List Str := if q.kind = "pos" then nms q.ts else if q.kind = "let" then nms (q.ts.take 1) else []
def rdy (r : RR) (b : List Str) (q : Pt) : Bool := (nd r q).all fun x => decide (x ∈ b)
def step (r : RR) (b : List Str) (q : Pt) : List Str := if rdy r b q = true then (gv q).foldl addN b else b
def pass (r : RR) (b : List Str) : List Str := r.body.foldl (step r) b
def itp (r : RR) : Nat → List Str
  | 0 => []
  | n + 1 => pass r (itp r n)
def lim (r : RR) : List Str := itp r (r.body.length + 1)
def wanted (r : RR) : List Str := (nms r.ts :: r.body.map (nd r)).flatten
def ls (r : RR) : List Str := ((wanted r).filter fun x => decide (x ∉ lim r)).foldl addN []
def tn : Tm → Str
  | .inl s => s
  | .inr _ => ""
def fst (q : Pt) : Str := tn (q.ts.getD 0 (.inr 0))
def pt (r : RR) (j : Nat) : Pt := r.body.getD j ⟨"", "", []⟩
def hv (r : RR) (j : Nat) : Bool := decide (fst (pt r j) ∈ nd r (pt r j)) || ((List.range r.body.length).filter fun k => decide (k ≠ j)).any fun k => decide (fst (pt r j) ∈ gv (pt r k))
def rt (r : RR) : Bool := (List.range r.body.length).any fun j => decide ((pt r j).kind = "let") && hv r j
def tlong : Tm → Bool
  | .inl _ => false
  | .inr i => !(decide (-999999999999999999 ≤ i) && decide (i ≤ 999999999999999999))
def allT (r : RR) : List Tm := r.ts ++ r.body.flatMap fun q => q.ts
def asked (r : RR) (k : Str) : List Str := dd ((r.body.filter fun q => decide (q.kind = k)).map fun q => q.name)
def smallS : Str := "abcdefghijklmnopqrstuvwxyz"
def innerS : Str := "abcdefghijklmnopqrstuvwxyzABCDEFGHIJKLMNOPQRSTUVWXYZ0123456789_"
def sml (z : Str) : Bool := match z.cps.toList with
  | [c] => decide (c ∈ smallS.cps.toList)
  | _ => false
def inn (z : Str) : Bool := match z.cps.toList with
  | [c] => decide (c ∈ innerS.cps.toList)
  | _ => false
def isN (z : Str) : Bool := sml (L2.cutS z none (some 1)) && (!decide (z = "not") && z.cps.toList.all fun c => inn ⟨#[c]⟩)
inductive Ch where
  | ok | rule | size
  deriving DecidableEq
def chk (r : RR) : Ch :=
  if ((r.name :: asked r "pos") ++ asked r "neg").all isN = false then .rule else if (allT r).any tlong = true then .size else if ls r ≠ [] then .rule else if rt r = true then .rule else if r.sm = true ∧ r.body = [] then .rule else .ok
def isF (r : RR) : Bool := decide (r.body.length = 0) && decide ((nms r.ts).length = 0)
/-! ### names put in -/
theorem addN_mem {acc : List Str} {x y : Str} : y ∈ addN acc x ↔ y ∈ acc ∨ y = x := by
  unfold addN
  split
  · rename_i h
    constructor
    · exact .inl
    · rintro (h1 | rfl)
      · exact h1
      · exact h
  · simp
theorem fold_mem {xs : List Str} : ∀ {acc : List Str} {y : Str}, y ∈ xs.foldl addN acc ↔ y ∈ acc ∨ y ∈ xs := by
  induction xs with
  | nil => intro acc y; simp
  | cons x xs ih =>
    intro acc y
    rw [List.foldl_cons, ih, addN_mem, List.mem_cons, or_assoc]
theorem addN_nodup {acc : List Str} {x : Str} (h : acc.Nodup) : (addN acc x).Nodup := by
  unfold addN
  split
  · exact h
  · rename_i hx
    exact List.nodup_append.mpr ⟨h, by simp, fun a ha b hb e => by
      rw [List.mem_singleton] at hb
      subst hb e
      exact hx ha⟩
theorem fold_nodup {xs : List Str} : ∀ {acc : List Str}, acc.Nodup → (xs.foldl addN acc).Nodup := by
  induction xs with
  | nil => intro acc h; exact h
  | cons x xs ih => intro acc h; exact ih (addN_nodup h)
theorem addN_len {acc : List Str} {x : Str} : (addN acc x).length ≤ acc.length + 1 := by
  unfold addN
  split
  · omega
  · simp
theorem fold_len {xs : List Str} : ∀ {acc : List Str}, (xs.foldl addN acc).length ≤ acc.length + xs.length := by
  induction xs with
  | nil => intro acc; exact Nat.le_refl _
  | cons x xs ih =>
    intro acc
    have h1 := ih (acc := addN acc x)
    have h2 := addN_len (acc := acc) (x := x)
    rw [List.foldl_cons, List.length_cons]
    omega
theorem dd_mem {xs : List Str} {y : Str} : y ∈ dd xs ↔ y ∈ xs := by
  unfold dd
  rw [fold_mem]
  simp
theorem dd_nodup (xs : List Str) : (dd xs).Nodup := fold_nodup List.nodup_nil
theorem dd_len (xs : List Str) : (dd xs).length ≤ xs.length := by
  have := fold_len (xs := xs) (acc := [])
  simpa [dd] using this
theorem vars_len (ts : List Tm) : (vars ts).length ≤ ts.length := List.length_filterMap_le _ _
theorem nms_len (ts : List Tm) : (nms ts).length ≤ ts.length := Nat.le_trans (dd_len _) (vars_len ts)
theorem nms_mem {ts : List Tm} {x : Str} : x ∈ nms ts ↔ .inl x ∈ ts := by
  unfold nms vars
  rw [dd_mem, List.mem_filterMap]
  constructor
  · rintro ⟨t, ht, e⟩
    cases t with
    | inl s => cases e; exact ht
    | inr i => cases e
  · intro h
    exact ⟨_, h, rfl⟩
/-- names put in stay ahead -/
theorem addN_pre (acc : List Str) (x : Str) : acc <+: addN acc x := by
  unfold addN
  split
  · exact List.prefix_refl _
  · exact List.prefix_append _ _
theorem fold_pre (xs : List Str) : ∀ acc : List Str, acc <+: xs.foldl addN acc := by
  induction xs with
  | nil => intro acc; exact List.prefix_refl _
  | cons x xs ih => intro acc; exact (addN_pre acc x).trans (ih _)
theorem step_pre (r : RR) (b : List Str) (q : Pt) : b <+: step r b q := by
  unfold step
  split
  · exact fold_pre _ _
  · exact List.prefix_refl _
theorem steps_pre (r : RR) (qs : List Pt) : ∀ b : List Str, b <+: qs.foldl (step r) b := by
  induction qs with
  | nil => intro b; exact List.prefix_refl _
  | cons q qs ih => intro b; exact (step_pre r b q).trans (ih _)
theorem pass_pre (r : RR) (b : List Str) : b <+: pass r b := steps_pre r _ b
theorem pre_eq {a b : List Str} (h : a <+: b) (hl : b.length ≤ a.length) : a = b := h.eq_of_length (Nat.le_antisymm h.length_le hl)
theorem step_nodup (r : RR) {b : List Str} (q : Pt) (h : b.Nodup) : (step r b q).Nodup := by
  unfold step
  split
  · exact fold_nodup h
  · exact h
theorem steps_nodup (r : RR) (qs : List Pt) : ∀ {b : List Str}, b.Nodup → (qs.foldl (step r) b).Nodup := by
  induction qs with
  | nil => intro b h; exact h
  | cons q qs ih => intro b h; exact ih (step_nodup r q h)
theorem itp_nodup (r : RR) : ∀ n, (itp r n).Nodup
  | 0 => List.nodup_nil
  | n + 1 => steps_nodup r _ (itp_nodup r n)
/-- how many parts have all their names in -/
def full (r : RR) (b : List Str) : Nat := (r.body.filter fun q => (gv q).all fun x => decide (x ∈ b)).length
theorem fold_self {xs b : List Str} (h : ∀ x ∈ xs, x ∈ b) : xs.foldl addN b = b := by
  induction xs with
  | nil => rfl
  | cons x xs ih =>
    have e : addN b x = b := if_pos (h x List.mem_cons_self)
    rw [List.foldl_cons, e]
    exact ih fun y hy => h y (List.mem_cons_of_mem _ hy)
/-- a part that brings something new has all its names in behind the pass -/
theorem grows (r : RR) : ∀ (qs : List Pt) (b : List Str), qs.foldl (step r) b ≠ b → ∃ q ∈ qs, (∃ x ∈ gv q, x ∉ b) ∧ ∀ x ∈ gv q, x ∈ qs.foldl (step r) b
  | [], b, h => absurd rfl h
  | q :: qs, b, h => by
    rw [List.foldl_cons] at h ⊢
    by_cases e : step r b q = b
    · rw [e] at h ⊢
      obtain ⟨q', h1, h2, h3⟩ := grows r qs b h
      exact ⟨q', List.mem_cons_of_mem _ h1, h2, h3⟩
    · refine ⟨q, List.mem_cons_self, ?_, fun x hx => ?_⟩
      · apply Classical.byContradiction
        intro hn
        apply e
        unfold step
        split
        · exact fold_self fun x hx => Classical.byContradiction fun hb => hn ⟨x, hx, hb⟩
        · rfl
      · have : x ∈ step r b q := by
          unfold step at e ⊢
          split
          · exact fold_mem.mpr (.inr hx)
          · rename_i hr
            rw [if_neg hr] at e
            exact absurd rfl e
        exact (steps_pre r qs _).subset this
theorem filter_lt {α : Type} {p q : α → Bool} : ∀ {l : List α}, (∀ x ∈ l, p x = true → q x = true) → (∃ x ∈ l, p x = false ∧ q x = true) → (l.filter p).length < (l.filter q).length
  | [], _, ⟨_, h, _⟩ => nomatch h
  | a :: l, hi, ⟨x, hx, h1, h2⟩ => by
    have le : ∀ {l : List α}, (∀ x ∈ l, p x = true → q x = true) → (l.filter p).length ≤ (l.filter q).length := by
      intro l
      induction l with
      | nil => intro _; exact Nat.le_refl _
      | cons b l ih =>
        intro h
        have ih := ih fun x hx => h x (List.mem_cons_of_mem _ hx)
        by_cases hb : p b = true
        · rw [List.filter_cons_of_pos hb, List.filter_cons_of_pos (h b List.mem_cons_self hb)]
          simpa using ih
        · rw [List.filter_cons_of_neg hb]
          by_cases hq : q b = true
          · rw [List.filter_cons_of_pos hq]
            exact Nat.le_succ_of_le ih
          · rw [List.filter_cons_of_neg hq]
            exact ih
    have hl : ∀ x ∈ l, p x = true → q x = true := fun x hx => hi x (List.mem_cons_of_mem _ hx)
    rcases List.mem_cons.mp hx with rfl | hx'
    · rw [List.filter_cons_of_neg (by rw [h1]; decide), List.filter_cons_of_pos h2]
      exact Nat.lt_succ_of_le (le hl)
    · have ih := filter_lt hl ⟨x, hx', h1, h2⟩
      by_cases ha : p a = true
      · rw [List.filter_cons_of_pos ha, List.filter_cons_of_pos (hi a List.mem_cons_self ha)]
        simpa using ih
      · rw [List.filter_cons_of_neg ha]
        by_cases hq : q a = true
        · rw [List.filter_cons_of_pos hq]
          exact Nat.lt_succ_of_lt ih
        · rw [List.filter_cons_of_neg hq]
          exact ih
theorem full_lt (r : RR) {b : List Str} (h : pass r b ≠ b) : full r b < full r (pass r b) := by
  obtain ⟨q, hq, ⟨x, hx, hn⟩, hall⟩ := grows r r.body b h
  refine filter_lt (fun q' _ e => ?_) ⟨q, hq, ?_, ?_⟩
  · rw [List.all_eq_true] at e ⊢
    intro y hy
    exact decide_eq_true ((pass_pre r b).subset (of_decide_eq_true (e y hy)))
  · rw [List.all_eq_false]
    exact ⟨x, hx, by simp [hn]⟩
  · rw [List.all_eq_true]
    exact fun y hy => decide_eq_true (hall y hy)
theorem full_le (r : RR) (b : List Str) : full r b ≤ r.body.length := List.length_filter_le _ _
theorem itp_or (r : RR) : ∀ n, n ≤ full r (itp r n) ∨ pass r (itp r n) = itp r n
  | 0 => .inl (Nat.zero_le _)
  | n + 1 => by
    rcases itp_or r n with h | h
    · by_cases e : pass r (itp r n) = itp r n
      · refine .inr ?_
        show pass r (pass r (itp r n)) = pass r (itp r n)
        rw [e, e]
      · have := full_lt r e
        exact .inl (by show n + 1 ≤ full r (pass r (itp r n)); omega)
    · refine .inr ?_
      show pass r (pass r (itp r n)) = pass r (itp r n)
      rw [h, h]
theorem lim_fix (r : RR) : pass r (lim r) = lim r := by
  rcases itp_or r (r.body.length + 1) with h | h
  · have := full_le r (itp r (r.body.length + 1))
    omega
  · exact h
/-- where a pass brings nothing, it stays -/
theorem fix_lim (r : RR) {n : Nat} (h : pass r (itp r n) = itp r n) : itp r n = lim r := by
  have up : ∀ k, itp r (n + k) = itp r n := fun k => by
    induction k with
    | zero => rfl
    | succ k ih =>
      show pass r (itp r (n + k)) = itp r n
      rw [ih, h]
  have up2 : ∀ k, itp r (r.body.length + 1 + k) = lim r := fun k => by
    induction k with
    | zero => rfl
    | succ k ih =>
      show pass r (itp r (r.body.length + 1 + k)) = lim r
      rw [ih]
      exact lim_fix r
  have e1 := up (r.body.length + 1)
  have e2 := up2 n
  rw [Nat.add_comm] at e2
  exact e1.symm.trans e2
theorem itp_stop (r : RR) : ∃ n, n ≤ r.body.length + 1 ∧ pass r (itp r n) = itp r n := ⟨r.body.length + 1, Nat.le_refl _, lim_fix r⟩
/-! ### how often -/
theorem cnt_cons (a : List Str) (l : List (List Str)) (x : Str) : cnt (a :: l) x = (if x ∈ a then 1 else 0) + cnt l x := by
  unfold cnt
  by_cases h : x ∈ a
  · rw [List.filter_cons_of_pos (by simpa using h), if_pos h, List.length_cons]
    omega
  · rw [List.filter_cons_of_neg (by simpa using h), if_neg h]
    omega
theorem cnt_app (a b : List (List Str)) (x : Str) : cnt (a ++ b) x = cnt a x + cnt b x := by
  unfold cnt
  rw [List.filter_append, List.length_append]
theorem cnt_pos (l : List (List Str)) (x : Str) : 0 < cnt l x ↔ ∃ a ∈ l, x ∈ a := by
  unfold cnt
  rw [List.length_pos_iff_exists_mem]
  constructor
  · rintro ⟨a, ha⟩
    rw [List.mem_filter] at ha
    exact ⟨a, ha.1, of_decide_eq_true ha.2⟩
  · rintro ⟨a, h1, h2⟩
    exact ⟨a, List.mem_filter.mpr ⟨h1, decide_eq_true h2⟩⟩
theorem shd_iff {r : RR} {j : Nat} {q : Pt} {x : Str} (hq : r.body[j]? = some q) (hx : x ∈ nms q.ts) : shd r q x = true ↔ (.inl x ∈ r.ts ∨ ∃ k q', k ≠ j ∧ r.body[k]? = some q' ∧ .inl x ∈ q'.ts) := by
  have hj : j < r.body.length := (List.getElem?_eq_some_iff.mp hq).1
  have hqe : r.body[j] = q := (List.getElem?_eq_some_iff.mp hq).2
  have e : r.body = r.body.take j ++ q :: r.body.drop (j + 1) := by
    rw [← hqe, List.getElem_cons_drop, List.take_append_drop]
  have ec : cnt (rows r) x = (if x ∈ nms r.ts then 1 else 0) + (cnt ((r.body.take j).map fun q => nms q.ts) x + (1 + cnt ((r.body.drop (j + 1)).map fun q => nms q.ts) x)) := by
    have e2 : rows r = nms r.ts :: ((r.body.take j).map (fun q => nms q.ts) ++ nms q.ts :: (r.body.drop (j + 1)).map fun q => nms q.ts) := by
      have e3 : (r.body.map fun q => nms q.ts) = (r.body.take j).map (fun q => nms q.ts) ++ nms q.ts :: (r.body.drop (j + 1)).map fun q => nms q.ts := by
        conv => lhs; rw [e]
        rw [List.map_append, List.map_cons]
      unfold rows
      rw [e3]
    rw [e2, cnt_cons, cnt_app, cnt_cons, if_pos hx]
  unfold shd
  rw [decide_eq_true_iff, if_pos hx, ec]
  have p1 := cnt_pos ((r.body.take j).map fun q => nms q.ts) x
  have p2 := cnt_pos ((r.body.drop (j + 1)).map fun q => nms q.ts) x
  constructor
  · intro h
    by_cases h0 : x ∈ nms r.ts
    · exact .inl (nms_mem.mp h0)
    · rw [if_neg h0] at h
      by_cases h1 : 0 < cnt ((r.body.take j).map fun q => nms q.ts) x
      · obtain ⟨a, ha, hxa⟩ := p1.mp h1
        obtain ⟨q', hq', rfl⟩ := List.mem_map.mp ha
        obtain ⟨k, hk, hke⟩ := List.getElem_of_mem hq'
        have hk' : k < j := by
          rw [List.length_take] at hk
          omega
        refine .inr ⟨k, q', by omega, ?_, nms_mem.mp hxa⟩
        rw [← hke, List.getElem_take]
        exact List.getElem?_eq_getElem _
      · obtain ⟨a, ha, hxa⟩ := p2.mp (by omega)
        obtain ⟨q', hq', rfl⟩ := List.mem_map.mp ha
        obtain ⟨k, hk, hke⟩ := List.getElem_of_mem hq'
        rw [List.length_drop] at hk
        refine .inr ⟨j + 1 + k, q', by omega, ?_, nms_mem.mp hxa⟩
        rw [← hke, List.getElem_drop]
        exact List.getElem?_eq_getElem _
  · rintro (h0 | ⟨k, q', hk, hq', hx'⟩)
    · rw [if_pos (nms_mem.mpr h0)]
      omega
    · have hkl : k < r.body.length := (List.getElem?_eq_some_iff.mp hq').1
      rcases Nat.lt_or_ge k j with z | z
      · have := p1.mpr ⟨nms q'.ts, List.mem_map.mpr ⟨q', List.mem_of_getElem? (i := k) (by rw [List.getElem?_take, if_pos z]; exact hq'), rfl⟩, nms_mem.mpr hx'⟩
        omega
      · have := p2.mpr ⟨nms q'.ts, List.mem_map.mpr ⟨q', List.mem_of_getElem? (i := k - (j + 1)) (by rw [List.getElem?_drop]; rw [show j + 1 + (k - (j + 1)) = k by omega]; exact hq'), rfl⟩, nms_mem.mpr hx'⟩
        omega
/-- first put in, then picked, is first picked, then put in -/
theorem pick_fold {p : Str → Bool} : ∀ (xs acc : List Str), (xs.foldl addN acc).filter p = (xs.filter p).foldl addN (acc.filter p)
  | [], acc => rfl
  | x :: xs, acc => by
    rw [List.foldl_cons, pick_fold xs (addN acc x)]
    by_cases hp : p x = true
    · rw [List.filter_cons_of_pos hp, List.foldl_cons]
      congr 1
      unfold addN
      by_cases hx : x ∈ acc
      · rw [if_pos hx, if_pos (List.mem_filter.mpr ⟨hx, hp⟩)]
      · rw [if_neg hx, if_neg (fun z => hx (List.mem_filter.mp z).1), List.filter_append, List.filter_cons_of_pos hp]
        rfl
    · rw [List.filter_cons_of_neg hp]
      congr 1
      unfold addN
      by_cases hx : x ∈ acc
      · rw [if_pos hx]
      · rw [if_neg hx, List.filter_append, List.filter_cons_of_neg hp]
        simp
end U

set_option Elab.async false
set_option maxRecDepth 100000
set_option maxHeartbeats 4000000
namespace Toy
open PySem L2
open U (Tm Pt RR)
theorem same_mut {H H' : Hp} {l : Addr} {o : HO} (s : Same H H') (h : H l = none) : Same H (upd H' l o) := fun b u e => by
  rw [upd_ne (ne_of_none e h)]
  exact s b u e
/-! ### many at once -/
def All2 {α : Type} (R : Addr → α → Prop) (as : List Addr) (ts : List α) : Prop := as.length = ts.length ∧ ∀ (i : Nat) (a : Addr) (t : α), as[i]? = some a → ts[i]? = some t → R a t
theorem All2.nil {α : Type} {R : Addr → α → Prop} : All2 R [] [] := ⟨rfl, fun i a t h => by simp at h⟩
theorem All2.imp {α : Type} {R S : Addr → α → Prop} {as : List Addr} {ts : List α} (h : All2 R as ts) (f : ∀ a t, R a t → S a t) : All2 S as ts := ⟨h.1, fun i a t e1 e2 => f a t (h.2 i a t e1 e2)⟩
theorem All2.snoc {α : Type} {R : Addr → α → Prop} {as : List Addr} {ts : List α} (h : All2 R as ts) {a : Addr} {t : α} (r : R a t) : All2 R (as ++ [a]) (ts ++ [t]) := by
  refine ⟨by rw [List.length_append, List.length_append, h.1]; rfl, fun i b u e1 e2 => ?_⟩
  by_cases hi : i < as.length
  · rw [List.getElem?_append_left hi] at e1
    rw [List.getElem?_append_left (by rw [← h.1]; exact hi)] at e2
    exact h.2 i b u e1 e2
  · have hi2 : i = as.length := by
      have := (List.getElem?_eq_some_iff.mp e1).1
      rw [List.length_append] at this
      have : i < as.length + 1 := this
      omega
    subst hi2
    rw [List.getElem?_append_right (Nat.le_refl _), Nat.sub_self] at e1
    rw [List.getElem?_append_right (by rw [← h.1]; exact Nat.le_refl _), ← h.1, Nat.sub_self] at e2
    cases e1
    cases e2
    exact r
theorem All2.cons {α : Type} {R : Addr → α → Prop} {as : List Addr} {ts : List α} {a : Addr} {t : α} (r : R a t) (h : All2 R as ts) : All2 R (a :: as) (t :: ts) := by
  refine ⟨congrArg Nat.succ h.1, fun i b u e1 e2 => ?_⟩
  cases i with
  | zero => cases e1; cases e2; exact r
  | succ i => exact h.2 i b u e1 e2
theorem All2.tail {α : Type} {R : Addr → α → Prop} {as : List Addr} {ts : List α} {a : Addr} {t : α} (h : All2 R (a :: as) (t :: ts)) : R a t ∧ All2 R as ts :=
  ⟨h.2 0 a t rfl rfl, Nat.succ.inj h.1, fun i b u e1 e2 => h.2 (i + 1) b u e1 e2⟩
theorem All2.take {α : Type} {R : Addr → α → Prop} {as : List Addr} {ts : List α} (h : All2 R as ts) (n : Nat) : All2 R (as.take n) (ts.take n) := by
  refine ⟨by rw [List.length_take, List.length_take, h.1], fun i b u e1 e2 => ?_⟩
  rw [List.getElem?_take] at e1 e2
  by_cases hi : i < n
  · rw [if_pos hi] at e1 e2
    exact h.2 i b u e1 e2
  · rw [if_neg hi] at e1
    cases e1
theorem All2.app {α : Type} {R : Addr → α → Prop} : ∀ {bs : List Addr} {us : List α} {as : List Addr} {ts : List α}, All2 R as ts → All2 R bs us → All2 R (as ++ bs) (ts ++ us)
  | [], [], _, _, h, _ => by rw [List.append_nil, List.append_nil]; exact h
  | b :: bs, u :: us, as, ts, h, g => by
    obtain ⟨r, g⟩ := g.tail
    have := All2.app (h.snoc r) g
    rw [List.append_assoc, List.append_assoc] at this
    exact this
  | [], _ :: _, _, _, _, g => nomatch g.1
  | _ :: _, [], _, _, _, g => nomatch g.1
theorem All2.at {α : Type} {R : Addr → α → Prop} {as : List Addr} {ts : List α} (h : All2 R as ts) {i : Nat} {x : V} (hx : (as.map V.ref)[i]? = some x) : ∃ a t, x = .ref a ∧ as[i]? = some a ∧ ts[i]? = some t ∧ R a t := by
  rw [List.getElem?_map] at hx
  cases e : as[i]? with
  | none => rw [e] at hx; cases hx
  | some a =>
    rw [e] at hx
    cases hx
    have hi : i < ts.length := by rw [← h.1]; exact (List.getElem?_eq_some_iff.mp e).1
    exact ⟨a, ts[i], rfl, rfl, List.getElem?_eq_getElem hi, h.2 i a _ e (List.getElem?_eq_getElem hi)⟩
theorem take_one {α : Type} {l : List α} {i : Nat} {x : α} (h : l[i]? = some x) : l.take (i + 1) = l.take i ++ [x] := by
  rw [List.take_add_one, h]
  rfl
theorem sz {n : Nat} (h : n ≤ 1000) : n < sizeLine := small1000 h
theorem sz' {n : Nat} (h : n ≤ 1000) : n ≤ sizeLine := Nat.le_of_lt (small1000 h)
/-- all but the dice stands -/
def SameX (d : Addr) (H H' : Hp) : Prop := ∀ b o, H b = some o → b ≠ d → H' b = some o
theorem Same.x {H H' : Hp} {d : Addr} (h : Same H H') : SameX d H H' := fun b o e _ => h b o e
theorem SameX.refl (d : Addr) (H : Hp) : SameX d H H := fun _ _ e _ => e
theorem SameX.trans {H H1 H2 : Hp} {d : Addr} (a : SameX d H H1) (b : SameX d H1 H2) : SameX d H H2 := fun c o e n => b c o (a c o e n) n
theorem SameX.free {H H' : Hp} {d a : Addr} (e : SameX d H H') (n : a ≠ d) (h : H' a = none) : H a = none := by
  cases q : H a with
  | none => rfl
  | some o => rw [e a o q n] at h; cases h
theorem DiceAt.up {H H' : Hp} {d : Addr} (h : DiceAt H d) (s : Same H H') : DiceAt H' d := by
  obtain ⟨x, y, z, e⟩ := h
  exact ⟨x, y, z, s _ _ e⟩
theorem DiceAt.up1 {H : Hp} {d p : Addr} {o : HO} (h : DiceAt H d) (n : d ≠ p) : DiceAt (upd H p o) d := by
  obtain ⟨x, y, z, e⟩ := h
  exact ⟨x, y, z, by rw [upd_ne n]; exact e⟩
theorem DiceAt.ne {H : Hp} {d p : Addr} (h : DiceAt H d) (hp : H p = none) : d ≠ p := by
  obtain ⟨x, y, z, e⟩ := h
  exact ne_of_none e hp
theorem DiceAt.ne_tup {H : Hp} {d p : Addr} {xs : List V} (h : DiceAt H d) (hp : H p = some (.tup xs)) : p ≠ d := by
  obtain ⟨x, y, z, e⟩ := h
  exact ne_of hp e (fun q => nomatch q)
theorem sx_of {H H' : Hp} {d : Addr} (f : ∀ b, b ≠ d → H' b = H b) : SameX d H H' := fun b o e n => (f b n).trans e

/-! ### comprehensions, said once -/
def VAll {α : Type} (S : V → α → Prop) (ys : List V) (ts : List α) : Prop := ys.length = ts.length ∧ ∀ (i : Nat) (y : V) (t : α), ys[i]? = some y → ts[i]? = some t → S y t
theorem VAll.nil {α : Type} {S : V → α → Prop} : VAll S [] [] := ⟨rfl, fun i a t h => by simp at h⟩
theorem VAll.imp {α : Type} {S S' : V → α → Prop} {as : List V} {ts : List α} (h : VAll S as ts) (f : ∀ a t, S a t → S' a t) : VAll S' as ts := ⟨h.1, fun i a t e1 e2 => f a t (h.2 i a t e1 e2)⟩
theorem VAll.snoc {α : Type} {R : V → α → Prop} {as : List V} {ts : List α} (h : VAll R as ts) {a : V} {t : α} (r : R a t) : VAll R (as ++ [a]) (ts ++ [t]) := by
  refine ⟨by rw [List.length_append, List.length_append, h.1]; rfl, fun i b u e1 e2 => ?_⟩
  by_cases hi : i < as.length
  · rw [List.getElem?_append_left hi] at e1
    rw [List.getElem?_append_left (by rw [← h.1]; exact hi)] at e2
    exact h.2 i b u e1 e2
  · have hi2 : i = as.length := by
      have := (List.getElem?_eq_some_iff.mp e1).1
      rw [List.length_append] at this
      have : i < as.length + 1 := this
      omega
    subst hi2
    rw [List.getElem?_append_right (Nat.le_refl _), Nat.sub_self] at e1
    rw [List.getElem?_append_right (by rw [← h.1]; exact Nat.le_refl _), ← h.1, Nat.sub_self] at e2
    cases e1
    cases e2
    exact r
theorem VAll.eq {α : Type} {f : α → V} : ∀ {ys : List V} {ts : List α}, VAll (fun y t => y = f t) ys ts → ys = ts.map f
  | [], [], _ => rfl
  | y :: ys, t :: ts, h => by
    have e := h.2 0 y t rfl rfl
    have := VAll.eq (f := f) (ys := ys) (ts := ts) ⟨Nat.succ.inj h.1, fun i b u e1 e2 => h.2 (i + 1) b u e1 e2⟩
    rw [e, this]
    rfl
  | [], _ :: _, h => nomatch h.1
  | _ :: _, [], h => nomatch h.1
theorem VAll.refs {α : Type} {R : Addr → α → Prop} : ∀ {ys : List V} {ts : List α}, VAll (fun y t => ∃ a, y = .ref a ∧ R a t) ys ts → ∃ as : List Addr, ys = as.map V.ref ∧ All2 R as ts
  | [], [], _ => ⟨[], rfl, .nil⟩
  | y :: ys, t :: ts, h => by
    obtain ⟨a, e, r⟩ := h.2 0 y t rfl rfl
    obtain ⟨as, e2, r2⟩ := VAll.refs (R := R) (ys := ys) (ts := ts) ⟨Nat.succ.inj h.1, fun i b u e1 e2 => h.2 (i + 1) b u e1 e2⟩
    exact ⟨a :: as, by rw [e, e2]; rfl, .cons r r2⟩
  | [], _ :: _, h => nomatch h.1
  | _ :: _, [], h => nomatch h.1
/-- what is true of the items stays true -/
structure Stab {α : Type} (D : Addr) (S : Hp → V → α → Prop) : Prop where
  up : ∀ {H H' : Hp} {y : V} {t : α}, S H y t → Same H H' → S H' y t
  wr : ∀ {H : Hp} {xs o : List V} {y : V} {t : α}, H D = some (.lst xs) → S H y t → S (upd H D (.lst o)) y t
/-- the comprehension's invariant: what it has made of the first i -/
def LcI {α : Type} (S : Hp → V → α → Prop) (p : α → Bool) (ts : List α) (H0 : Hp) (D : Addr) (i : Nat) (H : Hp) : Prop := Same H0 H ∧ ∃ ys, H D = some (.lst ys) ∧ VAll (S H) ys ((ts.take i).filter p)
section
variable {α : Type} {S : Hp → V → α → Prop} {p : α → Bool} {ts : List α} {H0 H H2 : Hp} {D : Addr} {i : Nat} {t : α} {y : V}
theorem LcI.start (hD : H0 D = none) : LcI S p ts H0 D 0 (upd H0 D (.lst [])) := ⟨same_new hD, [], upd_same, .nil⟩
theorem LcI.yes (st : Stab D S) (hD : H0 D = none) (hs : ts.length ≤ 999) (h : LcI S p ts H0 D i H) (ht : ts[i]? = some t) (hp : p t = true) (s : Same H H2) (hy : S H2 y t) :
    ∃ acc, H2 D = some (.lst acc) ∧ acc.length < sizeLine ∧ LcI S p ts H0 D (i + 1) (upd H2 D (.lst (acc ++ [y]))) := by
  obtain ⟨s1, ys, eD, hv⟩ := h
  have e2 := s _ _ eD
  refine ⟨ys, e2, ?_, same_mut (s1.trans s) hD, ys ++ [y], upd_same, ?_⟩
  · rw [hv.1]
    refine sz (Nat.le_trans (List.length_filter_le _ _) ?_)
    rw [List.length_take]
    omega
  · rw [take_one ht, List.filter_append, List.filter_cons_of_pos hp, List.filter_nil]
    have h2 : VAll (S H2) (ys ++ [y]) ((ts.take i).filter p ++ [t]) := (hv.imp fun a t h => st.up h s).snoc hy
    exact h2.imp fun a t h => st.wr e2 h
theorem LcI.no (st : Stab D S) (h : LcI S p ts H0 D i H) (ht : ts[i]? = some t) (hp : p t = false) (s : Same H H2) : LcI S p ts H0 D (i + 1) H2 := by
  obtain ⟨s1, ys, eD, hv⟩ := h
  refine ⟨s1.trans s, ys, s _ _ eD, ?_⟩
  rw [take_one ht, List.filter_append, List.filter_cons_of_neg (by rw [hp]; decide), List.filter_nil, List.append_nil]
  exact hv.imp fun a t h => st.up h s
theorem LcI.fin (h : LcI S p ts H0 D i H) (hi : ts.length ≤ i) : ∃ ys, Same H0 H ∧ H D = some (.lst ys) ∧ VAll (S H) ys (ts.filter p) := by
  obtain ⟨s1, ys, eD, hv⟩ := h
  rw [List.take_of_length_le hi] at hv
  exact ⟨ys, s1, eD, hv⟩
end
theorem filter_tt {α : Type} (l : List α) : l.filter (fun _ => true) = l := List.filter_eq_self.mpr fun _ _ => rfl
theorem stab_val {α : Type} {D : Addr} (S : V → α → Prop) : Stab D fun _ y t => S y t := ⟨fun h _ => h, fun _ h => h⟩
/-! ### dicts of words -/
theorem putK_bl (l : List Str) (x : Str) : putK (l.map fun y => ((Sum.inr y : Key), V.bl true)) (Sum.inr x) (V.bl true) = (U.addN l x).map fun y => ((Sum.inr y : Key), V.bl true) := by
  unfold putK U.addN
  by_cases h : x ∈ l
  · rw [if_pos (by rw [List.any_map, List.any_eq_true]; exact ⟨x, h, by simp⟩), if_pos h, List.map_map]
    apply List.map_congr_left
    intro y _
    simp only [Function.comp]
    split
    · rfl
    · rfl
  · rw [if_neg (by
      rw [List.any_map, List.any_eq_true]
      rintro ⟨y, hy, e⟩
      have e2 : (Sum.inr y : Key) = Sum.inr x := of_decide_eq_true e
      injection e2 with e2
      exact h (e2 ▸ hy)), if_neg h, List.map_append]
    rfl
theorem valV_bl (l : List Str) (x : Str) : valV (l.map fun y => ((Sum.inr y : Key), V.bl true)) (Sum.inr x) = if x ∈ l then some (.bl true) else none := by
  induction l with
  | nil => rfl
  | cons y l ih =>
    rw [List.map_cons]
    by_cases e : y = x
    · subst e
      rw [valV_pos rfl, if_pos List.mem_cons_self]
    · rw [valV_neg (by intro z; injection z with z; exact e z), ih]
      by_cases hx : x ∈ l
      · rw [if_pos hx, if_pos (List.mem_cons_of_mem _ hx)]
      · rw [if_neg hx, if_neg (by rw [List.mem_cons, not_or]; exact ⟨fun z => e z.symm, hx⟩)]
theorem keys_bl (l : List Str) : (l.map fun y => ((Sum.inr y : Key), V.bl true)).map (fun kv => kV kv.1) = l.map V.str := by
  rw [List.map_map]
  rfl
abbrev blD (l : List Str) : List (Key × V) := l.map fun y => ((Sum.inr y : Key), V.bl true)
end Toy

set_option Elab.async false
set_option maxRecDepth 100000
set_option maxHeartbeats 4000000
namespace Toy
open PySem L2
open U (Tm Pt RR tn nms vars addN dd)
/-! ### terms as objects -/
def tval : Tm → V
  | .inl _ => .non
  | .inr i => .int i
def okT : Tm → Bool
  | .inl s => !decide (s = "") && decide (s.length ≤ 1000) && PyData.strOk s
  | .inr _ => true
theorem okT_ne {s : Str} (h : okT (.inl s) = true) : s ≠ "" := by
  unfold okT at h
  simp only [Bool.and_eq_true, Bool.not_eq_true', decide_eq_false_iff_not] at h
  exact h.1.1
theorem okT_len {s : Str} (h : okT (.inl s) = true) : s.length ≤ 1000 := by
  unfold okT at h
  simp only [Bool.and_eq_true, decide_eq_true_eq] at h
  exact h.1.2
theorem okT_ok {s : Str} (h : okT (.inl s) = true) : PyData.strOk s = true := by
  unfold okT at h
  simp only [Bool.and_eq_true] at h
  exact h.2
abbrev TO (C : Addr) (H : Hp) (a : Addr) (t : Tm) : Prop := TmAt C H a (tn t) (tval t)
def TmsAt (C : Addr) (H : Hp) (p : Addr) (ts : List Tm) : Prop := ∃ as : List Addr, H p = some (.tup (as.map V.ref)) ∧ All2 (TO C H) as ts
def WfT (ts : List Tm) : Prop := ts.length ≤ 20 ∧ ∀ t ∈ ts, okT t = true
theorem TmAt.up {C : Addr} {H H' : Hp} {a : Addr} {n : Str} {v : V} (h : TmAt C H a n v) (s : Same H H') : TmAt C H' a n v := by
  obtain ⟨dx, e⟩ := h
  exact ⟨dx, s _ _ e⟩
theorem TmAt.wr {C : Addr} {H : Hp} {a l : Addr} {n : Str} {v : V} {o u : HO} (h : TmAt C H a n v) (hl : H l = some u) (hu : ∀ C dx fs, u ≠ .ins C dx fs) : TmAt C (upd H l o) a n v := by
  obtain ⟨dx, e⟩ := h
  exact ⟨dx, by rw [upd_ne (ne_of e hl (Ne.symm (hu _ _ _)))]; exact e⟩
theorem TmsAt.up {C : Addr} {H H' : Hp} {p : Addr} {ts : List Tm} (h : TmsAt C H p ts) (s : Same H H') : TmsAt C H' p ts := by
  obtain ⟨as, e, f⟩ := h
  exact ⟨as, s _ _ e, f.imp fun a t h => h.up s⟩
theorem TmsAt.wr {C : Addr} {H : Hp} {p l : Addr} {ts : List Tm} {o : HO} {xs : List V} (h : TmsAt C H p ts) (hl : H l = some (.lst xs)) : TmsAt C (upd H l o) p ts := by
  obtain ⟨as, e, f⟩ := h
  exact ⟨as, by rw [upd_ne (ne_of e hl (fun q => nomatch q))]; exact e, f.imp fun a t h => h.wr hl (fun _ _ _ q => nomatch q)⟩
theorem isVar_tn {t : Tm} (h : okT t = true) : (!decide (tn t = "")) = (match t with | .inl _ => true | .inr _ => false) := by
  cases t with
  | inl s =>
    show (!decide (s = "")) = true
    rw [decide_eq_false (okT_ne h)]
    rfl
  | inr i => rfl
theorem vars_snoc (ts : List Tm) (t : Tm) : vars (ts ++ [t]) = vars ts ++ (match t with | .inl s => [s] | .inr _ => []) := by
  unfold vars
  rw [List.filterMap_append]
  cases t <;> rfl
/-- what a term shows -/
def shT : Tm → List V
  | .inl s => [.str "var", .str s]
  | .inr i => [.str "val", .int i]
theorem sh_shT {t : Tm} (h : okT t = true) : sh (tn t) (tval t) = shT t := by
  cases t with
  | inl s => exact if_neg (okT_ne h)
  | inr i => exact if_pos rfl
def dT : Tm → PyData
  | .inl s => .tuple [.str "var", .str s]
  | .inr i => .tuple [.str "val", .int i]
theorem dp_T {K : PySem.W.Frag} {H : Hp} {q : Addr} {t : Tm} (h : H q = some (.tup (shT t))) : Dp K H (.ref q) (dT t) := by
  cases t with
  | inl s => exact .tup (SqT.of h) (.cons (.str _) (.cons (.str _) .nil))
  | inr i => exact .tup (SqT.of h) (.cons (.str _) (.cons (.int _) .nil))
abbrev ShAt (H : Hp) (a : Addr) (t : Tm) : Prop := H a = some (.tup (shT t))
def spNamesIn (C : Addr) : Sp := fun vs H Q _ => ∃ (p : Addr) (ts : List Tm), vs = [.ref p] ∧ TmsAt C H p ts ∧ WfT ts ∧ ∀ q H', Same H H' → H' q = some (.tup ((nms ts).map V.str)) → Q (.ref q) H'
def spShAll (C : Addr) : Sp := fun vs H Q _ => ∃ (p : Addr) (ts : List Tm), vs = [.ref p] ∧ TmsAt C H p ts ∧ WfT ts ∧ ∀ q H', Same H H' → (∃ bs : List Addr, H' q = some (.tup (bs.map V.ref)) ∧ All2 (ShAt H') bs ts) → Q (.ref q) H'
def spIsNum : Sp := fun vs H Q _ => ∃ v : V, vs = [v] ∧ ((v = .non ∧ Q (.bl false) H) ∨ (∃ i : Int, v = .int i ∧ Q (.bl true) H) ∨ ∃ s : Str, v = .str s ∧ Q (.bl false) H)
section
variable {P : Program} {w : World} {K : PySem.W.Frag} {mg : Str → Option Value} {base : Heap} {A : Ad}
theorem ok_names_in (T : Txt K mg A) : FnOk P w K mg base CX0 2 A.f_names_in A.d_names_in ["terms"] (spNamesIn A.C_Term) := by
  have G_Term_is_variable : FnOk P w K mg base CX0 1 A.f_Term_is_variable A.d_Term_is_variable ["self"] (spIsVar A.C_Term) := ok_is_variable T
  refine T.F_names_in.ok sc_names_in (fun vs H Q E h => ?_) (fun cdv ar outer s H vs Q E hr h => ?_)
  · obtain ⟨p, ts, rfl, _⟩ := h
    rfl
  · obtain ⟨p, ts, rfl, ⟨as, ep, fp⟩, ⟨h20, hok⟩, k⟩ := h
    have hu := hu_of hr
    refine ⟨_, (pss_cons (ps_set (i := 1) sc_names_in.nd rfl (Or.inl rfl) pe_dnewK)
      (pss_cons (ps_for PassesOwn.never rfl (tupIK K (pv 0)) (pg_name (i := 2) sc_names_in.nd rfl (Or.inl rfl))
        (pss_one (ps_if (pt_val (pe_meth0 (pv 2) T.cl_Term T.e_Term_is_variable G_Term_is_variable (hr.mono (by decide)) T.b_Term_is_variable .nil pass0))
          (pss_one (ps_dput hu (pv 1) (fldK K (pv 2) rfl) pe_bl rfl))
          pss_nil)))
      (pss_one (ps_ret (pe_callTy (tupDK) (by rfl) T.z_tuple (by decide +kernel) (pa_cons (pv 1) pa_nil)))))), ?_⟩
    refine fun d hd => ⟨_, rfl, p, rfl, ⟨_, SqT.of (by rw [upd_ne (ne_of_none ep hd)]; exact ep)⟩, ?_⟩
    refine for_tup (K := K) (a := p) (xs := as.map V.ref) (fun i σ H' => ∃ x, σ = [some (.ref p), some (.ref d), x] ∧ Same H H' ∧ H' d = some (.dK (blD ((vars (ts.take i)).foldl addN []))))
      ⟨none, rfl, same_new hd, upd_same⟩ (fun i σ H' _ ⟨x, _, s1, _⟩ => SqT.of (s1 _ _ ep)) ?_ ?_
    · rintro i v σ H' hv ⟨x, rfl, s1, eD⟩
      obtain ⟨a, t, rfl, ea, et, ha⟩ := fp.at hv
      have ha1 := TmAt.up ha s1
      obtain ⟨dx, g⟩ := id ha1
      have hot := hok t (List.mem_of_getElem? et)
      refine ⟨_, rfl, a, dx, _, rfl, g, no_isv _ _, a, _, _, rfl, ha1, _, rfl, ?_⟩
      rw [isVar_tn hot]
      cases t with
      | inl s =>
        refine iteT ⟨_, rfl, _, rfl, a, _, dx, _, _, rfl, g, T.cl_Term, T.n_Term_name, tf_name _ _, d, _, rfl, DPut.k (k := Sum.inr s) eD ?_, ?_⟩
        · rw [List.length_map]
          have h1 := U.fold_len (xs := vars (ts.take i)) (acc := [])
          have h2 := U.vars_len (ts.take i)
          rw [List.length_take] at h2
          exact sz (by simp at h1; omega)
        · refine ⟨_, rfl, same_mut s1 hd, ?_⟩
          rw [upd_same, putK_bl, take_one et, vars_snoc, List.foldl_append]
          rfl
      | inr n =>
        refine iteF ⟨_, rfl, s1, ?_⟩
        rw [take_one et, vars_snoc, List.append_nil]
        exact eD
    · rintro σ H' ⟨x, rfl, s1, eD⟩
      rw [List.length_map, fp.1, List.take_of_length_le (Nat.le_refl _)] at eD
      refine ⟨_, rfl, d, _, rfl, eD, fun q hq => ?_⟩
      rw [keys_bl]
      exact k q _ (s1.trans (same_new hq)) upd_same
theorem ok_shall (T : Txt K mg A) : FnOk P w K mg base CX0 3 A.f_shown_all A.d_shown_all ["terms"] (spShAll A.C_Term) := by
  have G_Term_shown : FnOk P w K mg base CX0 2 A.f_Term_shown A.d_Term_shown ["self"] (spShown A.C_Term) := ok_shown T
  refine T.F_shown_all.ok sc_shown_all (fun vs H Q E h => ?_) (fun cdv ar outer s H vs Q E hr h => ?_)
  · obtain ⟨p, ts, rfl, _⟩ := h
    rfl
  · obtain ⟨p, ts, rfl, ⟨as, ep, fp⟩, ⟨h20, hok⟩, k⟩ := h
    refine ⟨_, (pss_one (ps_ret (pe_callTy (tupOf K) (by rfl) T.z_tuple (by decide +kernel) (pa_cons (pe_lc (own := [("term", 1)]) (by rfl) sc_shown_all.nd (tupIK K (pv 0)) (blkOk_by (own := [("term", 1)]) (N := N_shown_all) (sc := defScope s_shown_all) (by decide +kernel)) (fun _ _ _ _ _ => (pg_name (i := 1) sc_shown_all.nd rfl (Or.inl rfl))) (fun _ _ _ _ _ => pts_nil) (fun _ _ _ _ _ => (pe_meth0 (pv 1) T.cl_Term T.e_Term_shown G_Term_shown (hr.mono (by decide)) T.b_Term_shown .nil pass0))) pa_nil)))), ?_⟩
    refine ⟨_, rfl, p, rfl, ⟨_, SqT.of ep⟩, fun D hD => ?_⟩
    have st : Stab D fun H y (t : Tm) => ∃ a, y = .ref a ∧ ShAt H a t := ⟨fun ⟨a, e, h⟩ s => ⟨a, e, s _ _ h⟩, fun hl ⟨a, e, h⟩ => ⟨a, e, by show upd _ _ _ _ = _; rw [upd_ne (ne_of h hl (fun q => nomatch q))]; exact h⟩⟩
    refine lc_tup (K := K) (a := p) (xs := as.map V.ref) (LcI (fun H y (t : Tm) => ∃ a, y = .ref a ∧ ShAt H a t) (fun _ => true) ts H D) (LcI.start hD) (fun i H' _ h => SqT.of (h.1 _ _ ep)) ?_ ?_
    · rintro i x H' hx h
      obtain ⟨a, t, rfl, ea, et, ha⟩ := fp.at hx
      have ha1 := TmAt.up ha h.1
      obtain ⟨dx, g⟩ := id ha1
      refine ⟨rfl, _, rfl, a, dx, _, rfl, g, no_shown _ _, a, _, _, rfl, ha1, fun r hr => ?_⟩
      rw [sh_shT (hok t (List.mem_of_getElem? et))]
      exact h.yes st hD (by omega) et rfl (same_new hr) ⟨r, rfl, upd_same⟩
    · intro H' h
      obtain ⟨ys, s1, eD, hv⟩ := h.fin (by rw [List.length_map, fp.1]; exact Nat.le_refl _)
      obtain ⟨bs, rfl, hb⟩ := hv.refs
      rw [filter_tt] at hb
      exact ⟨D, _, rfl, .inl ⟨SqL.of eD, fun r hr => k r _ (s1.trans (same_new hr)) ⟨bs, upd_same, hb.imp fun a t h => same_new hr _ _ h⟩⟩⟩
theorem ok_isnum (T : Txt K mg A) : FnOk P w K mg base CX0 1 A.f_is_number A.d_is_number ["value"] spIsNum := by
  refine T.F_is_number.ok sc_is_number (fun vs H Q E h => ?_) (fun cdv ar outer s H vs Q E hr h => ?_)
  · obtain ⟨v, rfl, _⟩ := h
    rfl
  · obtain ⟨v, rfl, k⟩ := h
    refine ⟨_, (pss_one (ps_ret (pe_callB (isiK K) (by rfl) T.z_isinstance (by decide +kernel) (pa_cons (pv 0) (pa_cons (pe_bltn (v := .ty "int") (by rfl) T.z_int (by decide +kernel) rfl) pa_nil))))), ?_⟩
    rcases k with ⟨rfl, k⟩ | ⟨i, rfl, k⟩ | ⟨s, rfl, k⟩
    · exact ⟨_, rfl, _, _, _, _, _, rfl, .ty _, .base .non, kit_ty (by decide +kernel), k⟩
    · exact ⟨_, rfl, _, _, _, _, _, rfl, .ty _, .base (.int i), kit_ty (by decide +kernel), k⟩
    · exact ⟨_, rfl, _, _, _, _, _, rfl, .ty _, .base (.str s), kit_ty (by decide +kernel), k⟩
end
end Toy

set_option Elab.async false
set_option maxRecDepth 100000
set_option maxHeartbeats 4000000
namespace Toy
open PySem L2
open U (Tm Pt RR tn nms vars addN dd rows cnt)
/-! ### parts and rules as objects -/
def lf (kind name : Str) (pt po : Addr) : List (Str × V) := putF "own" (.ref po) (putF "terms" (.ref pt) (putF "name" (.str name) (putF "kind" (.str kind) [])))
section
variable (kind name : Str) (pt po : Addr)
theorem lf_kind : (lf kind name pt po).lookup ("kind" : Str) = some (.str kind) := by
  unfold lf
  rw [lookup_putF, if_neg (by decide +kernel), lookup_putF, if_neg (by decide +kernel), lookup_putF, if_neg (by decide +kernel), lookup_putF, if_pos rfl]
theorem lf_name : (lf kind name pt po).lookup ("name" : Str) = some (.str name) := by
  unfold lf
  rw [lookup_putF, if_neg (by decide +kernel), lookup_putF, if_neg (by decide +kernel), lookup_putF, if_pos rfl]
theorem lf_terms : (lf kind name pt po).lookup ("terms" : Str) = some (.ref pt) := by
  unfold lf
  rw [lookup_putF, if_neg (by decide +kernel), lookup_putF, if_pos rfl]
theorem lf_own : (lf kind name pt po).lookup ("own" : Str) = some (.ref po) := by
  unfold lf
  rw [lookup_putF, if_pos rfl]
theorem lf_no {m : Str} (h1 : ¬ m = "own") (h2 : ¬ m = "terms") (h3 : ¬ m = "name") (h4 : ¬ m = "kind") : (lf kind name pt po).lookup m = none := by
  unfold lf
  rw [lookup_putF, if_neg h1, lookup_putF, if_neg h2, lookup_putF, if_neg h3, lookup_putF, if_neg h4]
  rfl
theorem lf_names : (lf kind name pt po).lookup ("names" : Str) = none := lf_no _ _ _ _ (by decide +kernel) (by decide +kernel) (by decide +kernel) (by decide +kernel)
theorem lf_shown : (lf kind name pt po).lookup ("shown" : Str) = none := lf_no _ _ _ _ (by decide +kernel) (by decide +kernel) (by decide +kernel) (by decide +kernel)
end
def rf (name : Str) (pt pb : Addr) (sv : V) (ps : Addr) : List (Str × V) := putF "stands" (.ref ps) (putF "summed" sv (putF "body" (.ref pb) (putF "terms" (.ref pt) (putF "name" (.str name) []))))
section
variable (name : Str) (pt pb : Addr) (sv : V) (ps : Addr)
theorem rf_stands : (rf name pt pb sv ps).lookup ("stands" : Str) = some (.ref ps) := by
  unfold rf
  rw [lookup_putF, if_pos rfl]
theorem rf_summed : (rf name pt pb sv ps).lookup ("summed" : Str) = some sv := by
  unfold rf
  rw [lookup_putF, if_neg (by decide +kernel), lookup_putF, if_pos rfl]
theorem rf_body : (rf name pt pb sv ps).lookup ("body" : Str) = some (.ref pb) := by
  unfold rf
  rw [lookup_putF, if_neg (by decide +kernel), lookup_putF, if_neg (by decide +kernel), lookup_putF, if_pos rfl]
theorem rf_terms : (rf name pt pb sv ps).lookup ("terms" : Str) = some (.ref pt) := by
  unfold rf
  rw [lookup_putF, if_neg (by decide +kernel), lookup_putF, if_neg (by decide +kernel), lookup_putF, if_neg (by decide +kernel), lookup_putF, if_pos rfl]
theorem rf_name : (rf name pt pb sv ps).lookup ("name" : Str) = some (.str name) := by
  unfold rf
  rw [lookup_putF, if_neg (by decide +kernel), lookup_putF, if_neg (by decide +kernel), lookup_putF, if_neg (by decide +kernel), lookup_putF, if_neg (by decide +kernel), lookup_putF, if_pos rfl]
theorem rf_no {m : Str} (h1 : ¬ m = "stands") (h2 : ¬ m = "summed") (h3 : ¬ m = "body") (h4 : ¬ m = "terms") (h5 : ¬ m = "name") : (rf name pt pb sv ps).lookup m = none := by
  unfold rf
  rw [lookup_putF, if_neg h1, lookup_putF, if_neg h2, lookup_putF, if_neg h3, lookup_putF, if_neg h4, lookup_putF, if_neg h5]
  rfl
theorem rf_asked : (rf name pt pb sv ps).lookup ("asked" : Str) = none := rf_no _ _ _ _ _ (by decide +kernel) (by decide +kernel) (by decide +kernel) (by decide +kernel) (by decide +kernel)
theorem rf_shown : (rf name pt pb sv ps).lookup ("shown" : Str) = none := rf_no _ _ _ _ _ (by decide +kernel) (by decide +kernel) (by decide +kernel) (by decide +kernel) (by decide +kernel)
end
def LitAt (A : Ad) (H : Hp) (a : Addr) (q : Pt) : Prop := ∃ dx pt po, H a = some (.ins A.C_Literal dx (lf q.kind q.name pt po)) ∧ TmsAt A.C_Term H pt q.ts ∧ H po = some (.tup ((nms q.ts).map V.str))
theorem LitAt.up {A : Ad} {H H' : Hp} {a : Addr} {q : Pt} (h : LitAt A H a q) (s : Same H H') : LitAt A H' a q := by
  obtain ⟨dx, pt, po, e, f, g⟩ := h
  exact ⟨dx, pt, po, s _ _ e, f.up s, s _ _ g⟩
theorem LitAt.wr {A : Ad} {H : Hp} {a l : Addr} {q : Pt} {xs : List V} {o : HO} (h : LitAt A H a q) (hl : H l = some (.lst xs)) : LitAt A (upd H l o) a q := by
  obtain ⟨dx, pt, po, e, f, g⟩ := h
  exact ⟨dx, pt, po, by rw [upd_ne (ne_of e hl (fun q => nomatch q))]; exact e, f.wr hl, by rw [upd_ne (ne_of g hl (fun q => nomatch q))]; exact g⟩
def CntAt (H : Hp) (d : Addr) (l : List (List Str)) : Prop := ∃ kvs : List (Key × V), H d = some (.dK kvs) ∧ ∀ x, valV kvs (Sum.inr x) = if cnt l x = 0 then none else some (.int (cnt l x))
def RuleAt (A : Ad) (H : Hp) (a : Addr) (r : RR) : Prop := ∃ (dx pt pb ps : Addr) (sv : V) (bs : List Addr), H a = some (.ins A.C_Rule dx (rf r.name pt pb sv ps)) ∧ TmsAt A.C_Term H pt r.ts ∧ H pb = some (.tup (bs.map V.ref)) ∧
  All2 (LitAt A H) bs r.body ∧ decide (sv = .non) = !r.sm ∧ CntAt H ps (rows r)
theorem RuleAt.up {A : Ad} {H H' : Hp} {a : Addr} {r : RR} (h : RuleAt A H a r) (s : Same H H') : RuleAt A H' a r := by
  obtain ⟨dx, pt, pb, ps, sv, bs, e, f, g, hb, hs, kvs, ek, hk⟩ := h
  exact ⟨dx, pt, pb, ps, sv, bs, s _ _ e, f.up s, s _ _ g, hb.imp fun a t h => h.up s, hs, kvs, s _ _ ek, hk⟩
theorem RuleAt.wr {A : Ad} {H : Hp} {a l : Addr} {r : RR} {xs : List V} {o : HO} (h : RuleAt A H a r) (hl : H l = some (.lst xs)) : RuleAt A (upd H l o) a r := by
  obtain ⟨dx, pt, pb, ps, sv, bs, e, f, g, hb, hs, kvs, ek, hk⟩ := h
  exact ⟨dx, pt, pb, ps, sv, bs, by rw [upd_ne (ne_of e hl (fun q => nomatch q))]; exact e, f.wr hl, by rw [upd_ne (ne_of g hl (fun q => nomatch q))]; exact g, hb.imp fun a t h => h.wr hl, hs, kvs,
    by rw [upd_ne (ne_of ek hl (fun q => nomatch q))]; exact ek, hk⟩
def WfB (body : List Pt) : Prop := body.length ≤ 20 ∧ ∀ q ∈ body, WfT q.ts ∧ q.name.length ≤ 900 ∧ PyData.strOk q.name = true ∧ PyData.strOk q.kind = true
structure Wf (r : RR) : Prop where
  ts : WfT r.ts
  body : WfB r.body
  name : r.name.length ≤ 900
  nok : PyData.strOk r.name = true
theorem tf_ne (n : Str) (v : V) : tf n v ≠ [] := fun e => by
  have := tf_name n v
  rw [e] at this
  cases this
theorem TmAt.ne_bare {C C' : Addr} {H : Hp} {a p dx : Addr} {n : Str} {v : V} (h : TmAt C H a n v) (hp : H p = some (.ins C' dx [])) : a ≠ p := by
  obtain ⟨d, e⟩ := h
  refine ne_of e hp fun q => ?_
  injection q with _ _ q
  exact tf_ne _ _ q
theorem LitAt.ne_bare {A : Ad} {C' : Addr} {H : Hp} {a p dx : Addr} {q : Pt} (h : LitAt A H a q) (hp : H p = some (.ins C' dx [])) : a ≠ p := by
  obtain ⟨d, pt, po, e, _⟩ := h
  refine ne_of e hp fun z => ?_
  injection z with _ _ z
  have := lf_kind q.kind q.name pt po
  rw [z] at this
  cases this
/-- all but p stands -/
theorem TmAt.upx {C : Addr} {H H' : Hp} {a p : Addr} {n : Str} {v : V} (h : TmAt C H a n v) (s : SameX p H H') (ha : a ≠ p) : TmAt C H' a n v := by
  obtain ⟨dx, e⟩ := h
  exact ⟨dx, s _ _ e ha⟩
theorem TmsAt.upx {C C' : Addr} {H H' : Hp} {a p dx : Addr} {ts : List Tm} (h : TmsAt C H a ts) (s : SameX p H H') (hp : H p = some (.ins C' dx [])) : TmsAt C H' a ts := by
  obtain ⟨as, e, f⟩ := h
  exact ⟨as, s _ _ e (ne_of e hp (fun q => nomatch q)), f.imp fun a t h => TmAt.upx h s (TmAt.ne_bare h hp)⟩
theorem LitAt.upx {A : Ad} {C' : Addr} {H H' : Hp} {a p dx : Addr} {q : Pt} (h : LitAt A H a q) (s : SameX p H H') (hp : H p = some (.ins C' dx [])) : LitAt A H' a q := by
  have ha := h.ne_bare hp
  obtain ⟨d, pt, po, e, f, g⟩ := h
  exact ⟨d, pt, po, s _ _ e ha, f.upx s hp, s _ _ g (ne_of g hp (fun q => nomatch q))⟩
abbrev LTms (C : Addr) (H : Hp) (p : Addr) (ts : List Tm) : Prop := ∃ as : List Addr, H p = some (.lst (as.map V.ref)) ∧ All2 (TO C H) as ts
def spLitInit (A : Ad) : Sp := fun vs H Q _ => ∃ (p dx tp : Addr) (kind name : Str) (ts : List Tm), vs = [.ref p, .str kind, .str name, .ref tp] ∧ H p = some (.ins A.C_Literal dx []) ∧ LTms A.C_Term H tp ts ∧ WfT ts ∧
  ∀ H', LitAt A H' p ⟨kind, name, ts⟩ → SameX p H H' → Q .non H'
def spLitNames (A : Ad) : Sp := fun vs H Q _ => ∃ (p : Addr) (q : Pt), vs = [.ref p] ∧ LitAt A H p q ∧ ∀ t, H t = some (.tup ((nms q.ts).map V.str)) → Q (.ref t) H
def spHow : Sp := fun vs H Q _ => ∃ (l : Addr) (bs : List Addr) (rs : List (List Str)), vs = [.ref l] ∧ H l = some (.lst (bs.map V.ref)) ∧ All2 (fun b row => H b = some (.tup (row.map V.str))) bs rs ∧ rs.length ≤ 30 ∧ (∀ row ∈ rs, row.Nodup ∧ row.length ≤ 20) ∧
  ∀ d H', Same H H' → CntAt H' d rs → Q (.ref d) H'
section
variable {P : Program} {w : World} {K : PySem.W.Frag} {mg : Str → Option Value} {base : Heap} {A : Ad}
theorem ok_lit_init (T : Txt K mg A) : FnOk P w K mg base CX0 3 A.f_Literal_init A.d_Literal_init ["self", "kind", "name", "terms"] (spLitInit A) := by
  have G_names_in : FnOk P w K mg base CX0 2 A.f_names_in A.d_names_in ["terms"] (spNamesIn A.C_Term) := ok_names_in T
  refine T.F_Literal_init.ok sc_Literal_init (fun vs H Q E h => ?_) (fun cdv ar outer s H vs Q E hr h => ?_)
  · obtain ⟨p, dx, tp, kind, name, ts, rfl, _⟩ := h
    rfl
  · obtain ⟨p, dx, tp, kind, name, ts, rfl, hp, ⟨as, et, ft⟩, hw, k⟩ := h
    refine ⟨_, (pss_cons (sfldK K (pv 0) (pv 1) rfl)
      (pss_cons (sfldK K (pv 0) (pv 2) rfl)
      (pss_cons (sfldK K (pv 0) (pe_callTy (tupOf K) (by rfl) T.z_tuple (by decide +kernel) (pa_cons (pv 3) pa_nil)) rfl)
      (pss_one (sfldK K (pv 0) (pe_call G_names_in (hr.mono (by decide)) (by rfl) T.m_names_in T.F_names_in.kp T.b_names_in .nil pass0 (pa_cons (fldK K (pv 0) rfl) pa_nil)) rfl))))), ?_⟩
    have ntp : tp ≠ p := ne_of et hp (fun q => nomatch q)
    refine ⟨_, rfl, _, rfl, p, _, dx, _, rfl, hp, T.cl_Literal, T.n_Literal_kind, (by show 0 < 1000; decide), ?_⟩
    refine ⟨_, rfl, _, rfl, p, _, dx, _, rfl, upd_same, T.cl_Literal, T.n_Literal_name, (by show 1 < 1000; decide), ?_⟩
    refine ⟨_, rfl, tp, _, rfl, .inl ⟨SqL.of (by rw [upd_ne ntp, upd_ne ntp]; exact et), fun pt hpt => ?_⟩⟩
    have npt : p ≠ pt := ne_of_none upd_same hpt
    refine ⟨_, rfl, p, _, dx, _, rfl, (by rw [upd_ne npt, upd_same]), T.cl_Literal, T.n_Literal_terms, (by show 2 < 1000; decide), ?_⟩
    have hptH : H pt = none := by
      rw [upd_ne npt.symm, upd_ne npt.symm] at hpt
      exact hpt
    have x1 : SameX p H (upd (upd (upd (upd H p (.ins A.C_Literal dx (putF "kind" (.str kind) []))) p (.ins A.C_Literal dx (putF "name" (.str name) (putF "kind" (.str kind) [])))) pt (.tup (as.map V.ref))) p (.ins A.C_Literal dx (putF "terms" (.ref pt) (putF "name" (.str name) (putF "kind" (.str kind) []))))) :=
      fun b o e nb => by rw [upd_ne nb, upd_ne (ne_of_none e hptH), upd_ne nb, upd_ne nb]; exact e
    refine ⟨_, rfl, p, _, dx, _, _, rfl, upd_same, T.cl_Literal, T.n_Literal_terms, (by rw [lookup_putF, if_pos rfl]), ?_⟩
    have tmA : TmsAt A.C_Term _ pt ts := ⟨as, by rw [upd_ne npt.symm, upd_same], ft.imp fun a t h => TmAt.upx h x1 (TmAt.ne_bare h hp)⟩
    refine ⟨pt, ts, rfl, tmA, hw, fun q H5 s5 eq5 => ?_⟩
    have h5 := s5 _ _ upd_same
    refine ⟨_, rfl, p, _, dx, _, rfl, h5, T.cl_Literal, T.n_Literal_own, (by show 3 < 1000; decide), ?_⟩
    have x2 : SameX p H (upd H5 p (.ins A.C_Literal dx (lf kind name pt q))) := fun b o e nb => by rw [upd_ne nb]; exact s5 _ _ (x1 _ _ e nb)
    refine k _ ⟨dx, pt, q, upd_same, ⟨as, ?_, ft.imp fun a t h => TmAt.upx h x2 (TmAt.ne_bare h hp)⟩, ?_⟩ x2
    · rw [upd_ne npt.symm]
      exact s5 _ _ (by rw [upd_ne npt.symm, upd_same])
    · rw [upd_ne (ne_of eq5 h5 (fun z => nomatch z))]
      exact eq5
theorem ok_lit_names (T : Txt K mg A) : FnOk P w K mg base CX0 1 A.f_Literal_names A.d_Literal_names ["self"] (spLitNames A) := by
  refine T.F_Literal_names.ok sc_Literal_names (fun vs H Q E h => ?_) (fun cdv ar outer s H vs Q E hr h => ?_)
  · obtain ⟨p, q, rfl, _⟩ := h
    rfl
  · obtain ⟨p, q, rfl, ⟨dx, pt, po, e, f, g⟩, k⟩ := h
    refine ⟨_, (pss_one (ps_ret (fldK K (pv 0) rfl))), ?_⟩
    exact ⟨_, rfl, p, _, dx, _, _, rfl, e, T.cl_Literal, T.n_Literal_own, lf_own _ _ _ _, k po g⟩
theorem cnt_row {l : List (List Str)} {i : Nat} {row : List Str} (h : l[i]? = some row) (x : Str) : cnt (l.take (i + 1)) x = cnt (l.take i) x + if x ∈ row then 1 else 0 := by
  rw [take_one h, U.cnt_app, U.cnt_cons]
  rfl
theorem putK_len {κ : Type} [DecidableEq κ] (kvs : List (κ × V)) (k : κ) (v : V) : (putK kvs k v).length ≤ kvs.length + 1 := by
  unfold putK
  split
  · rw [List.length_map]
    omega
  · rw [List.length_append]
    exact Nat.le_refl _
theorem ok_how (T : Txt K mg A) : FnOk P w K mg base CX0 1 A.f_how_often A.d_how_often ["rows"] spHow := by
  refine T.F_how_often.ok sc_how_often (fun vs H Q E h => ?_) (fun cdv ar outer s H vs Q E hr h => ?_)
  · obtain ⟨l, bs, rs, rfl, _⟩ := h
    rfl
  · obtain ⟨l, bs, rs, rfl, el, fl, h30, hrow, k⟩ := h
    have hu := hu_of hr
    refine ⟨_, (pss_cons (ps_set (i := 1) sc_how_often.nd rfl (Or.inl rfl) pe_dnewK)
      (pss_cons (ps_for PassesOwn.never rfl (listK K (pv 0)) (pg_name (i := 2) sc_how_often.nd rfl (Or.inl rfl))
        (pss_one (ps_for PassesOwn.never rfl (tupIK K (pv 2)) (pg_name (i := 3) sc_how_often.nd rfl (Or.inl rfl))
          (pss_one (ps_dput hu (pv 1) (pv 3) (pe_op op_add (pe_dget2 hu (pv 1) (pv 3) pe_int ⟨rfl, rfl, rfl, rfl⟩) pe_int) rfl)))))
      (pss_one (ps_ret (pv 1))))), ?_⟩
    refine fun d hd => ⟨_, rfl, l, rfl, ⟨_, SqL.of (by rw [upd_ne (ne_of_none el hd)]; exact el)⟩, ?_⟩
    refine for_list (K := K) (a := l) (xs := bs.map V.ref) (fun i σ H' => ∃ x y kvs, σ = [some (.ref l), some (.ref d), x, y] ∧ Same H H' ∧ H' d = some (.dK kvs) ∧ kvs.length ≤ 20 * i ∧ ∀ z, valV kvs (Sum.inr z) = if cnt (rs.take i) z = 0 then none else some (.int (cnt (rs.take i) z)))
      ⟨none, none, [], rfl, same_new hd, upd_same, Nat.zero_le _, fun z => rfl⟩ (fun i σ H' _ ⟨x, y, kvs, _, s1, _⟩ => SqL.of (s1 _ _ el)) ?_ ?_
    · rintro i v σ H' hv ⟨x, y, kvs, rfl, s1, eD, hl, hval⟩
      obtain ⟨b, row, rfl, eb, erow, hb⟩ := fl.at hv
      have hb1 := s1 _ _ hb
      obtain ⟨hnd, h20⟩ := hrow row (List.mem_of_getElem? erow)
      have hi : i < rs.length := (List.getElem?_eq_some_iff.mp erow).1
      refine ⟨_, rfl, b, rfl, ⟨_, SqT.of hb1⟩, ?_⟩
      refine for_tup (K := K) (a := b) (xs := row.map V.str) (fun j σ H2 => ∃ y kvs, σ = [some (.ref l), some (.ref d), some (.ref b), y] ∧ Same H H2 ∧ H2 b = some (.tup (row.map V.str)) ∧ H2 d = some (.dK kvs) ∧ kvs.length ≤ 20 * i + j ∧ ∀ z, valV kvs (Sum.inr z) = if cnt (rs.take i) z + (if z ∈ row.take j then 1 else 0) = 0 then none else some (.int ((cnt (rs.take i) z + (if z ∈ row.take j then 1 else 0) : Nat) : Int)))
        ⟨y, kvs, rfl, s1, hb1, eD, by omega, fun z => by simpa using hval z⟩ (fun j σ H2 _ ⟨y, kvs, _, _, h, _⟩ => SqT.of h) ?_ ?_
      · rintro j v σ H2 hv ⟨y, kvs, rfl, s2, hb2, eD2, hl2, hval2⟩
        rw [List.getElem?_map] at hv
        obtain ⟨z, hz, rfl⟩ := Option.map_eq_some_iff.mp hv
        have hjl : j < row.length := (List.getElem?_eq_some_iff.mp hz).1
        have hzn : z ∉ row.take j := fun hm => by
          obtain ⟨i', hi', e'⟩ := List.getElem_of_mem hm
          rw [List.length_take] at hi'
          rw [List.getElem_take] at e'
          have hj := (List.getElem?_eq_some_iff.mp hz).2
          exact List.pairwise_iff_getElem.mp hnd i' j (by omega) hjl (by omega) (e'.trans hj.symm)
        have ec : (valV kvs (Sum.inr z)).getD (V.int 0) = V.int ((cnt (rs.take i) z : Nat) : Int) := by
          rw [hval2 z, if_neg hzn, Nat.add_zero]
          by_cases h0 : cnt (rs.take i) z = 0
          · rw [if_pos h0, h0]
            rfl
          · rw [if_neg h0]
            rfl
        refine ⟨_, rfl, d, rfl, .inl ⟨_, .inl eD2⟩, _, rfl, _, DGet.k (k := Sum.inr z) eD2, _, _, ec, rfl, ?_⟩
        refine ⟨_, rfl, _, rfl, d, _, rfl, DPut.k (k := Sum.inr z) eD2 (sz (by omega)), ?_⟩
        have nbd : b ≠ d := ne_of hb2 eD2 (fun q => nomatch q)
        refine ⟨_, _, rfl, same_mut s2 hd, by rw [upd_ne nbd]; exact hb2, upd_same, ?_, fun y => ?_⟩
        · exact Nat.le_trans (putK_len _ _ _) (by omega)
        · rw [valV_put]
          have em : (y ∈ row.take (j + 1)) ↔ (y ∈ row.take j ∨ y = z) := by
            rw [take_one hz, List.mem_append, List.mem_singleton]
          by_cases e : y = z
          · subst e
            rw [if_pos rfl, if_pos (em.mpr (.inr rfl)), if_neg (by omega)]
            congr 1
          · rw [if_neg (fun q => e (by injection q)), hval2 y]
            by_cases hm : y ∈ row.take j
            · rw [if_pos hm, if_pos (em.mpr (.inl hm))]
            · rw [if_neg hm, if_neg (fun q => (em.mp q).elim hm e)]
      · rintro σ H2 ⟨y, kvs, rfl, s2, hb2, eD2, hl2, hval2⟩
        rw [List.length_map] at hl2 hval2
        refine ⟨_, _, kvs, rfl, s2, eD2, by omega, fun z => ?_⟩
        rw [hval2 z, cnt_row erow, List.take_of_length_le (Nat.le_refl _)]
    · rintro σ H' ⟨x, y, kvs, rfl, s1, eD, hl, hval⟩
      rw [List.length_map, fl.1, List.take_of_length_le (Nat.le_refl _)] at hval
      exact ⟨_, rfl, k d H' s1 ⟨kvs, eD, hval⟩⟩
end
end Toy

set_option Elab.async false
set_option maxRecDepth 100000
set_option maxHeartbeats 4000000
namespace Toy
open PySem L2
open U (Tm Pt RR tn nms vars addN dd rows cnt)
theorem red (R : VK → Prop) (Qk : VK) {v : V} {H : Hp} (f : ∀ Qv : VK, Qv v H → R Qv) (q : Qk v H) : R Qk := f Qk q
theorem flat_str (l : List Str) : (l.map V.str).all flatV = true := by
  rw [List.all_map, List.all_eq_true]
  exact fun _ _ => rfl
theorem inV_str (x : Str) (l : List Str) : inV (.str x) (l.map V.str) = decide (x ∈ l) := by
  unfold inV
  rw [List.any_map]
  by_cases h : x ∈ l
  · rw [decide_eq_true h, List.any_eq_true]
    exact ⟨x, h, by simp [eqV]⟩
  · rw [decide_eq_false h, List.any_eq_false]
    intro y hy
    simp only [Function.comp, eqV, beq_iff_eq]
    intro e
    exact h (e ▸ hy)
def spRuleInit (A : Ad) : Sp := fun vs H Q _ => ∃ (p dx tp bp : Addr) (name : Str) (sv : V) (sm : Bool) (ts : List Tm) (body : List Pt) (bs : List Addr), vs = [.ref p, .str name, .ref tp, .ref bp, sv] ∧ H p = some (.ins A.C_Rule dx []) ∧ LTms A.C_Term H tp ts ∧ H bp = some (.lst (bs.map V.ref)) ∧
  All2 (LitAt A H) bs body ∧ WfT ts ∧ WfB body ∧ ((sv = .non ∧ sm = false) ∨ ∃ sp xs, sv = .ref sp ∧ H sp = some (.tup xs) ∧ sm = true) ∧ ∀ H', RuleAt A H' p ⟨name, ts, body, sm⟩ → SameX p H H' → Q .non H'
def spAsked (A : Ad) : Sp := fun vs H Q _ => ∃ (a : Addr) (k : Str) (r : RR), vs = [.ref a, .str k] ∧ RuleAt A H a r ∧ Wf r ∧ ∀ t H', Same H H' → H' t = some (.tup ((U.asked r k).map V.str)) → Q (.ref t) H'
section
variable {P : Program} {w : World} {K : PySem.W.Frag} {mg : Str → Option Value} {base : Heap} {A : Ad}
theorem wfT_nms {ts : List Tm} (h : WfT ts) : (nms ts).Nodup ∧ (nms ts).length ≤ 20 := ⟨U.dd_nodup _, Nat.le_trans (U.nms_len ts) h.1⟩
theorem ok_rule_init (T : Txt K mg A) : FnOk P w K mg base CX0 3 A.f_Rule_init A.d_Rule_init ["self", "name", "terms", "body", "summed"] (spRuleInit A) := by
  have G_names_in : FnOk P w K mg base CX0 2 A.f_names_in A.d_names_in ["terms"] (spNamesIn A.C_Term) := ok_names_in T
  have G_how_often : FnOk P w K mg base CX0 1 A.f_how_often A.d_how_often ["rows"] spHow := ok_how T
  have G_Literal_names : FnOk P w K mg base CX0 1 A.f_Literal_names A.d_Literal_names ["self"] (spLitNames A) := ok_lit_names T
  refine T.F_Rule_init.ok sc_Rule_init (fun vs H Q E h => ?_) (fun cdv ar outer s H vs Q E hr h => ?_)
  · obtain ⟨p, dx, tp, bp, name, sv, sm, ts, body, bs, rfl, _⟩ := h
    rfl
  · obtain ⟨p, dx, tp, bp, name, sv, sm, ts, body, bs, rfl, hp, ⟨as, et, ft⟩, eb, fb, hw, hwb, hsv, k⟩ := h
    refine ⟨_, (pss_cons (sfldK K (pv 0) (pv 1) rfl)
      (pss_cons (sfldK K (pv 0) (pe_callTy (tupOf K) (by rfl) T.z_tuple (by decide +kernel) (pa_cons (pv 2) pa_nil)) rfl)
      (pss_cons (sfldK K (pv 0) (pe_callTy (tupOf K) (by rfl) T.z_tuple (by decide +kernel) (pa_cons (pv 3) pa_nil)) rfl)
      (pss_cons (sfldK K (pv 0) (pe_ifExp (pt_cmpR op_isN (pv 4) pe_non (nomark _)) pe_non (pe_callTy (tupOf K) (by rfl) T.z_tuple (by decide +kernel) (pa_cons (pv 4) pa_nil))) rfl)
      (pss_one (sfldK K (pv 0) (pe_call G_how_often (hr.mono (by decide)) (by rfl) T.m_how_often T.F_how_often.kp T.b_how_often .nil pass0 (pa_cons (pe_op op_cat (pe_lst (pa_cons (pe_call G_names_in (hr.mono (by decide)) (by rfl) T.m_names_in T.F_names_in.kp T.b_names_in .nil pass0 (pa_cons (fldK K (pv 0) rfl) pa_nil)) pa_nil)) (pe_lc (own := [("part", 5)]) (by rfl) sc_Rule_init.nd (tupIK K (fldK K (pv 0) rfl)) (blkOk_by (own := [("part", 5)]) (N := N_Rule_init) (sc := defScope s_Rule_init) (by decide +kernel)) (fun _ _ _ _ _ => (pg_name (i := 5) sc_Rule_init.nd rfl (Or.inl rfl))) (fun _ _ _ _ _ => pts_nil) (fun _ _ _ _ _ => (pe_meth0 (pv 5) T.cl_Literal T.e_Literal_names G_Literal_names (hr.mono (by decide)) T.b_Literal_names .nil pass0)))) pa_nil)) rfl)))))), ?_⟩
    have ntp : tp ≠ p := ne_of et hp (fun q => nomatch q)
    have nbp : bp ≠ p := ne_of eb hp (fun q => nomatch q)
    refine ⟨_, rfl, _, rfl, p, _, dx, _, rfl, hp, T.cl_Rule, T.n_Rule_name, (by show 0 < 1000; decide), ?_⟩
    refine ⟨_, rfl, tp, _, rfl, .inl ⟨SqL.of (by rw [upd_ne ntp]; exact et), fun pt hpt => ?_⟩⟩
    have npt : p ≠ pt := ne_of_none upd_same hpt
    have hptH : H pt = none := by
      rw [upd_ne npt.symm] at hpt
      exact hpt
    refine ⟨_, rfl, p, _, dx, _, rfl, (by rw [upd_ne npt, upd_same]), T.cl_Rule, T.n_Rule_terms, (by show 1 < 1000; decide), ?_⟩
    have x1 : SameX p H (upd (upd (upd H p (.ins A.C_Rule dx (putF "name" (.str name) []))) pt (.tup (as.map V.ref))) p (.ins A.C_Rule dx (putF "terms" (.ref pt) (putF "name" (.str name) [])))) :=
      fun b o e nb => by rw [upd_ne nb, upd_ne (ne_of_none e hptH), upd_ne nb]; exact e
    refine ⟨_, rfl, bp, _, rfl, .inl ⟨SqL.of (x1 _ _ eb nbp), fun pb hpb => ?_⟩⟩
    have npb : p ≠ pb := ne_of_none upd_same hpb
    have nptb : pt ≠ pb := ne_of_none (by rw [upd_ne npt.symm, upd_same]) hpb
    refine ⟨_, rfl, p, _, dx, _, rfl, (by rw [upd_ne npb, upd_same]), T.cl_Rule, T.n_Rule_body, (by show 2 < 1000; decide), ?_⟩
    refine ⟨_, rfl, rfl, _, rfl, ?_⟩
    generalize hH3 : upd (upd (upd (upd (upd H p (.ins A.C_Rule dx (putF "name" (.str name) []))) pt (.tup (as.map V.ref))) p (.ins A.C_Rule dx (putF "terms" (.ref pt) (putF "name" (.str name) [])))) pb (.tup (bs.map V.ref))) p _ = H3
    have x3 : SameX p H H3 := fun b o e nb => by
      rw [← hH3, upd_ne nb, upd_ne (ne_of_none (x1 _ _ e nb) hpb)]
      exact x1 _ _ e nb
    have h3p : H3 p = some (.ins A.C_Rule dx (putF "body" (.ref pb) (putF "terms" (.ref pt) (putF "name" (.str name) [])))) := by rw [← hH3, upd_same]
    have h3t : H3 pt = some (.tup (as.map V.ref)) := by rw [← hH3, upd_ne npt.symm, upd_ne nptb, upd_ne npt.symm, upd_same]
    have h3b : H3 pb = some (.tup (bs.map V.ref)) := by rw [← hH3, upd_ne npb.symm, upd_same]
    rcases hsv with ⟨e1, e2⟩ | ⟨sp, xs, e1, es, e2⟩
    all_goals
      subst e1
      first
        | refine iteT ?_
        | refine iteF ⟨_, rfl, sp, _, rfl, .inr ⟨SqT.of (x3 _ _ es (ne_of es hp (fun q => nomatch q))), ?_⟩⟩
      refine ⟨_, rfl, p, _, dx, _, rfl, h3p, T.cl_Rule, T.n_Rule_summed, (by show 3 < 1000; decide), ?_⟩
      generalize hH4 : upd H3 p _ = H4
      have x4 : SameX p H H4 := fun b o e nb => by rw [← hH4, upd_ne nb]; exact x3 _ _ e nb
      obtain ⟨sv', h4p, hsv'⟩ : ∃ sv', H4 p = some (.ins A.C_Rule dx (putF "summed" sv' (putF "body" (.ref pb) (putF "terms" (.ref pt) (putF "name" (.str name) []))))) ∧ decide (sv' = .non) = !sm := ⟨_, by rw [← hH4, upd_same], by rw [e2]; rfl⟩
      have h4t : H4 pt = some (.tup (as.map V.ref)) := by rw [← hH4, upd_ne npt.symm]; exact h3t
      have h4b : H4 pb = some (.tup (bs.map V.ref)) := by rw [← hH4, upd_ne npb.symm]; exact h3b
      have tm4 : TmsAt A.C_Term H4 pt ts := ⟨as, h4t, ft.imp fun a t h => TmAt.upx h x4 (TmAt.ne_bare h hp)⟩
      refine ⟨_, rfl, p, _, dx, _, _, rfl, h4p, T.cl_Rule, T.n_Rule_terms, (by rw [lookup_putF, if_neg (by decide +kernel), lookup_putF, if_neg (by decide +kernel), lookup_putF, if_pos rfl]), pt, ts, rfl, tm4, hw, fun n1 H5 s5 e5 => ?_⟩
      refine ⟨(by show 1 ≤ sizeLine; decide), fun l hl => ?_⟩
      have s6 : Same H4 (upd H5 l (.lst [.ref n1])) := s5.trans (same_new hl)
      refine ⟨_, rfl, p, _, dx, _, _, rfl, s6 _ _ h4p, T.cl_Rule, T.n_Rule_body, (by rw [lookup_putF, if_neg (by decide +kernel), lookup_putF, if_pos rfl]), pb, rfl, ⟨_, SqT.of (s6 _ _ h4b)⟩, fun D hD => ?_⟩
      have st : Stab D fun H y (row : List Str) => ∃ a, y = .ref a ∧ H a = some (.tup (row.map V.str)) := ⟨fun ⟨a, e, h⟩ s => ⟨a, e, s _ _ h⟩, fun hl ⟨a, e, h⟩ => ⟨a, e, by rw [upd_ne (ne_of h hl (fun q => nomatch q))]; exact h⟩⟩
      have fb4 : All2 (LitAt A H4) bs body := fb.imp fun a t h => LitAt.upx h x4 hp
      refine lc_tup (K := K) (a := pb) (xs := bs.map V.ref) (LcI (fun H y (row : List Str) => ∃ a, y = .ref a ∧ H a = some (.tup (row.map V.str))) (fun _ => true) (body.map fun q => nms q.ts) (upd H5 l (.lst [.ref n1])) D) (LcI.start hD) (fun i H' _ h => SqT.of (h.1 _ _ (s6 _ _ h4b))) ?_ ?_
      · rintro i x H' hx h
        obtain ⟨b, q, rfl, eb', eq', hb⟩ := fb4.at hx
        have hb1 := (hb.up s6).up h.1
        obtain ⟨dxb, ptb, pob, gb, _, _⟩ := id hb1
        refine ⟨rfl, _, rfl, b, dxb, _, rfl, gb, lf_names _ _ _ _, b, q, rfl, hb1, fun t ht => ?_⟩
        exact h.yes st hD (by rw [List.length_map]; have := hwb.1; omega) (by rw [List.getElem?_map, eq']; rfl) rfl (fun _ _ e => e) ⟨t, rfl, ht⟩
      · intro H' h
        obtain ⟨ys, s7, eD, hv⟩ := h.fin (by rw [List.length_map, List.length_map, fb.1]; exact Nat.le_refl _)
        obtain ⟨cs, rfl, hc⟩ := hv.refs
        rw [filter_tt] at hc
        have el7 := s7 _ _ (show upd H5 l (.lst [.ref n1]) l = _ from upd_same)
        refine ⟨l, D, _, _, rfl, rfl, el7, eD, ?_, fun m hm => ?_⟩
        · rw [List.length_map, hc.1, List.length_map]
          have := hwb.1
          exact sz' (by show 1 + _ ≤ 1000; omega)
        · have s8 := s7.trans (same_new hm (o := .lst ([V.ref n1] ++ cs.map V.ref)))
          have all : All2 (fun b row => upd H' m (.lst ([V.ref n1] ++ cs.map V.ref)) b = some (.tup (row.map V.str))) (n1 :: cs) (rows ⟨name, ts, body, sm⟩) :=
            .cons (s8 _ _ (same_new hl _ _ e5)) (hc.imp fun a t h => same_new hm _ _ h)
          refine ⟨m, n1 :: cs, _, rfl, upd_same, all, ?_, ?_, fun d H9 s9 hcnt => ?_⟩
          · rw [← all.1, List.length_cons, hc.1, List.length_map]
            have := hwb.1
            omega
          · intro row hrow
            rcases List.mem_cons.mp hrow with rfl | hrow
            · exact wfT_nms hw
            · obtain ⟨q, hq, rfl⟩ := List.mem_map.mp hrow
              exact wfT_nms (hwb.2 q hq).1
          · have s10 : Same H4 H9 := s6.trans (s8.trans s9)
            have h9p := s10 _ _ h4p
            refine ⟨_, rfl, p, _, dx, _, rfl, h9p, T.cl_Rule, T.n_Rule_stands, (by show 4 < 1000; decide), ?_⟩
            obtain ⟨kvs, ekv, hkv⟩ := hcnt
            have x10 : SameX p H (upd H9 p (.ins A.C_Rule dx (rf name pt pb sv' d))) := fun b o e nb => by rw [upd_ne nb]; exact s10 _ _ (x4 _ _ e nb)
            refine k _ ⟨dx, pt, pb, d, sv', bs, upd_same, ⟨as, ?_, ft.imp fun a t h => TmAt.upx h x10 (TmAt.ne_bare h hp)⟩, ?_, fb.imp fun a t h => LitAt.upx h x10 hp, ?_, kvs, ?_, hkv⟩ x10
            · rw [upd_ne npt.symm]
              exact s10 _ _ h4t
            · rw [upd_ne npb.symm]
              exact s10 _ _ h4b
            · exact hsv'
            · rw [upd_ne (ne_of ekv h9p (fun q => nomatch q))]
              exact ekv
theorem ok_asked (T : Txt K mg A) : FnOk P w K mg base CX0 1 A.f_Rule_asked A.d_Rule_asked ["self", "kind"] (spAsked A) := by
  refine T.F_Rule_asked.ok sc_Rule_asked (fun vs H Q E h => ?_) (fun cdv ar outer s H vs Q E hr h => ?_)
  · obtain ⟨a, k, r, rfl, _⟩ := h
    rfl
  · obtain ⟨a, kd, r, rfl, ⟨dx, pt, pb, ps, sv, bs, e, f, g, hb, hs, hc⟩, hw, k⟩ := h
    have hu := hu_of hr
    refine ⟨_, (pss_cons (ps_set (i := 2) sc_Rule_asked.nd rfl (Or.inl rfl) pe_dnewK)
      (pss_cons (ps_for PassesOwn.never rfl (tupIK K (fldK K (pv 0) rfl)) (pg_name (i := 3) sc_Rule_asked.nd rfl (Or.inl rfl))
        (pss_one (ps_if (pt_cmpR op_eq (fldK K (pv 3) rfl) (pv 1) (nomark _))
          (pss_one (ps_dput hu (pv 2) (fldK K (pv 3) rfl) pe_bl rfl))
          pss_nil)))
      (pss_one (ps_ret (pe_callTy (tupDK) (by rfl) T.z_tuple (by decide +kernel) (pa_cons (pv 2) pa_nil)))))), ?_⟩
    refine fun d hd => ⟨_, rfl, a, _, dx, _, _, rfl, (by rw [upd_ne (ne_of_none e hd)]; exact e), T.cl_Rule, T.n_Rule_body, rf_body _ _ _ _ _, pb, rfl, ⟨_, SqT.of (by rw [upd_ne (ne_of_none g hd)]; exact g)⟩, ?_⟩
    refine for_tup (K := K) (a := pb) (xs := bs.map V.ref) (fun i σ H' => ∃ x, σ = [some (.ref a), some (.str kd), some (.ref d), x] ∧ Same H H' ∧ H' d = some (.dK (blD ((((r.body.take i).filter fun q => decide (q.kind = kd)).map fun q => q.name).foldl addN []))))
      ⟨none, rfl, same_new hd, upd_same⟩ (fun i σ H' _ ⟨x, _, s1, _⟩ => SqT.of (s1 _ _ g)) ?_ ?_
    · rintro i v σ H' hv ⟨x, rfl, s1, eD⟩
      obtain ⟨b, q, rfl, eb, eq, hq⟩ := hb.at hv
      obtain ⟨dxb, ptb, pob, gb, _, _⟩ := hq.up s1
      have hi : i < r.body.length := (List.getElem?_eq_some_iff.mp eq).1
      have h20 := hw.body.1
      refine ⟨_, rfl, b, _, dxb, _, _, rfl, gb, T.cl_Literal, T.n_Literal_kind, lf_kind _ _ _ _, _, rfl, rfl, _, rfl, ?_⟩
      rw [dec_str]
      refine iteD (fun hk => ?_) (fun hk => ?_)
      · refine ⟨_, rfl, _, rfl, b, _, dxb, _, _, rfl, gb, T.cl_Literal, T.n_Literal_name, lf_name _ _ _ _, d, _, rfl, DPut.k (k := Sum.inr q.name) eD ?_, _, rfl, same_mut s1 hd, ?_⟩
        · rw [List.length_map]
          have h1 := U.fold_len (xs := ((r.body.take i).filter fun q => decide (q.kind = kd)).map fun q => q.name) (acc := [])
          have h2 := List.length_filter_le (fun q : Pt => decide (q.kind = kd)) (r.body.take i)
          rw [List.length_take] at h2
          rw [List.length_map] at h1
          exact sz (by simp at h1; omega)
        · rw [upd_same, putK_bl, take_one eq, List.filter_append, List.filter_cons_of_pos (by simpa using hk), List.filter_nil, List.map_append, List.foldl_append]
          rfl
      · refine ⟨_, rfl, s1, ?_⟩
        rw [take_one eq, List.filter_append, List.filter_cons_of_neg (by simpa using hk), List.filter_nil, List.append_nil]
        exact eD
    · rintro σ H' ⟨x, rfl, s1, eD⟩
      rw [List.length_map, hb.1, List.take_of_length_le (Nat.le_refl _)] at eD
      refine ⟨_, rfl, d, _, rfl, eD, fun q hq => ?_⟩
      rw [keys_bl]
      exact k q _ (s1.trans (same_new hq)) upd_same
end
end Toy

set_option Elab.async false
set_option maxRecDepth 100000
set_option maxHeartbeats 4000000
namespace Toy
open PySem L2
open U (Tm Pt RR tn nms vars addN dd rows cnt)
theorem cut_take (xs : List V) (n : Nat) : cutV xs none (some (n : Int)) = xs.take n := by
  unfold cutV
  rw [HT.sIx_none, HT.sIx_nat, List.drop_zero, Nat.sub_zero]
  by_cases h : n ≤ xs.length
  · rw [Nat.min_eq_left h]
  · rw [Nat.min_eq_right (by omega), List.take_of_length_le (Nat.le_refl _), List.take_of_length_le (by omega)]
theorem cut_drop (xs : List V) (n : Nat) : cutV xs (some (n : Int)) none = xs.drop n := by
  unfold cutV
  rw [HT.sIx_none, HT.sIx_nat]
  by_cases h : n ≤ xs.length
  · rw [Nat.min_eq_left h, List.take_of_length_le (by rw [List.length_drop]; exact Nat.le_refl _)]
  · rw [Nat.min_eq_right (by omega), List.drop_of_length_le (Nat.le_refl _), List.drop_of_length_le (by omega)]
    exact List.take_nil
theorem All2.drop {α : Type} {R : Addr → α → Prop} {as : List Addr} {ts : List α} (h : All2 R as ts) (n : Nat) : All2 R (as.drop n) (ts.drop n) := by
  refine ⟨by rw [List.length_drop, List.length_drop, h.1], fun i b u e1 e2 => ?_⟩
  rw [List.getElem?_drop] at e1 e2
  exact h.2 _ b u e1 e2
theorem WfT.take {ts : List Tm} (h : WfT ts) (n : Nat) : WfT (ts.take n) := ⟨by have := h.1; rw [List.length_take]; omega, fun t ht => h.2 t (List.mem_of_mem_take ht)⟩
theorem WfT.drop {ts : List Tm} (h : WfT ts) (n : Nat) : WfT (ts.drop n) := ⟨by have := h.1; rw [List.length_drop]; omega, fun t ht => h.2 t (List.mem_of_mem_drop ht)⟩
def BoundAt (H : Hp) (b : Addr) (xs : List Str) : Prop := (∃ kvs : List (Key × V), H b = some (.dK kvs) ∧ ∀ x, (valV kvs (Sum.inr x)).isSome = decide (x ∈ xs)) ∨ H b = some (.lst (xs.map V.str))
theorem BoundAt.up {H H' : Hp} {b : Addr} {xs : List Str} (h : BoundAt H b xs) (s : Same H H') : BoundAt H' b xs := by
  rcases h with ⟨kvs, e, f⟩ | e
  · exact .inl ⟨kvs, s _ _ e, f⟩
  · exact .inr (s _ _ e)
theorem bound_bl {H : Hp} {d : Addr} {l : List Str} (h : H d = some (.dK (blD l))) : BoundAt H d l := .inl ⟨_, h, fun x => by
  rw [valV_bl]
  by_cases hx : x ∈ l
  · rw [if_pos hx, decide_eq_true hx]
    rfl
  · rw [if_neg hx, decide_eq_false hx]
    rfl⟩
def spShared (A : Ad) : Sp := fun vs H Q _ => ∃ (a : Addr) (j : Nat) (x : Str) (r : RR) (q : Pt), vs = [.ref a, .int j, .str x] ∧ RuleAt A H a r ∧ r.body[j]? = some q ∧ Q (.bl (U.shd r q x)) H
def spNeeds (A : Ad) : Sp := fun vs H Q _ => ∃ (a : Addr) (j : Nat) (r : RR) (q : Pt), vs = [.ref a, .int j] ∧ RuleAt A H a r ∧ Wf r ∧ r.body[j]? = some q ∧ ∀ t H', Same H H' → H' t = some (.tup ((U.nd r q).map V.str)) → Q (.ref t) H'
def spGives (A : Ad) : Sp := fun vs H Q _ => ∃ (a : Addr) (j : Nat) (r : RR) (q : Pt), vs = [.ref a, .int j] ∧ RuleAt A H a r ∧ Wf r ∧ r.body[j]? = some q ∧ ∀ t H', Same H H' → H' t = some (.tup ((U.gv q).map V.str)) → Q (.ref t) H'
def spReady (A : Ad) : Sp := fun vs H Q _ => ∃ (a b : Addr) (j : Nat) (r : RR) (q : Pt) (xs : List Str), vs = [.ref a, .int j, .ref b] ∧ RuleAt A H a r ∧ Wf r ∧ r.body[j]? = some q ∧ BoundAt H b xs ∧ ∀ H', Same H H' → Q (.bl (U.rdy r xs q)) H'
theorem nd_len {r : RR} {q : Pt} (h : WfT q.ts) : (U.nd r q).length ≤ 20 := by
  have h1 := (wfT_nms h).2
  unfold U.nd
  split
  · exact h1
  · split
    · exact (wfT_nms (h.drop 1)).2
    · split
      · exact Nat.le_trans (List.length_filter_le _ _) h1
      · exact Nat.zero_le _
theorem gv_len {q : Pt} (h : WfT q.ts) : (U.gv q).length ≤ 20 := by
  unfold U.gv
  split
  · exact (wfT_nms h).2
  · split
    · exact (wfT_nms (h.take 1)).2
    · exact Nat.zero_le _
section
variable {P : Program} {w : World} {K : PySem.W.Frag} {mg : Str → Option Value} {base : Heap} {A : Ad}
theorem ok_shared (T : Txt K mg A) : FnOk P w K mg base CX0 2 A.f_shared A.d_shared ["rule", "number", "name"] (spShared A) := by
  have G_Literal_names : FnOk P w K mg base CX0 1 A.f_Literal_names A.d_Literal_names ["self"] (spLitNames A) := ok_lit_names T
  refine T.F_shared.ok sc_shared (fun vs H Q E h => ?_) (fun cdv ar outer s H vs Q E hr h => ?_)
  · obtain ⟨a, j, x, r, q, rfl, _⟩ := h
    rfl
  · obtain ⟨a, j, x, r, q, rfl, ⟨dx, pt, pb, ps, sv, bs, e, f, g, hb, hs, kvs, ekv, hkv⟩, hq, k⟩ := h
    have hu := hu_of hr
    refine ⟨_, (pss_cons (ps_set (i := 3) sc_shared.nd rfl (Or.inl rfl) (pe_ifExp (pt_cmpR (inSeq K) (pv 2) (pe_meth0 (pe_ix (ixT K) (fldK K (pv 0) rfl) (pv 1) (fun _ _ => rfl)) T.cl_Literal T.e_Literal_names G_Literal_names (hr.mono (by decide)) T.b_Literal_names .nil pass0) (by rfl)) pe_int pe_int))
      (pss_one (ps_ret (pe_cmpR op_gt (pe_dget2 hu (fldK K (pv 0) rfl) (pv 2) pe_int ⟨rfl, rfl, rfl, rfl⟩) (pv 3) (nomark _))))), ?_⟩
    have hj : j < bs.length := by rw [hb.1]; exact (List.getElem?_eq_some_iff.mp hq).1
    have hbj : bs[j]? = some bs[j] := List.getElem?_eq_getElem hj
    have hl := hb.2 j _ q hbj hq
    obtain ⟨dxb, ptb, pob, gb, _, _⟩ := id hl
    refine ⟨_, rfl, _, rfl, a, _, dx, _, _, rfl, e, T.cl_Rule, T.n_Rule_body, rf_body _ _ _ _ _, _, rfl, pb, _, _, _, rfl, rfl, SqT.of g, atI_nat (by rw [List.getElem?_map, hbj]; rfl), bs[j], dxb, _, rfl, gb, lf_names _ _ _ _, bs[j], q, rfl, hl, fun t ht => ?_⟩
    refine ⟨t, _, rfl, .inr (SqT.of ht), rfl, flat_str _, _, rfl, ?_⟩
    rw [if_neg (by decide), inV_str]
    have ec : (valV kvs (Sum.inr x)).getD (V.int 0) = V.int ((cnt (rows r) x : Nat) : Int) := by
      rw [hkv x]
      by_cases h0 : cnt (rows r) x = 0
      · rw [if_pos h0, h0]
        rfl
      · rw [if_neg h0]
        rfl
    refine iteD (fun hx => ?_) (fun hx => ?_)
    · refine ⟨_, rfl, a, _, dx, _, _, rfl, e, T.cl_Rule, T.n_Rule_stands, rf_stands _ _ _ _ _, ps, rfl, .inl ⟨_, .inl ekv⟩, _, rfl, _, DGet.k (k := Sum.inr x) ekv, _, rfl, _, _, ec, rfl, ?_⟩
      have e1 : decide ((1 : Int) < ((cnt (rows r) x : Nat) : Int)) = U.shd r q x := by
        unfold U.shd
        rw [if_pos hx]
        exact decide_eq_decide.mpr (by omega)
      rw [← e1] at k
      exact k
    · refine ⟨_, rfl, a, _, dx, _, _, rfl, e, T.cl_Rule, T.n_Rule_stands, rf_stands _ _ _ _ _, ps, rfl, .inl ⟨_, .inl ekv⟩, _, rfl, _, DGet.k (k := Sum.inr x) ekv, _, rfl, _, _, ec, rfl, ?_⟩
      have e1 : decide ((0 : Int) < ((cnt (rows r) x : Nat) : Int)) = U.shd r q x := by
        unfold U.shd
        rw [if_neg hx]
        exact decide_eq_decide.mpr (by omega)
      rw [← e1] at k
      exact k
theorem ok_needs (T : Txt K mg A) : FnOk P w K mg base CX0 3 A.f_needs A.d_needs ["rule", "number"] (spNeeds A) := by
  have G_Literal_names : FnOk P w K mg base CX0 1 A.f_Literal_names A.d_Literal_names ["self"] (spLitNames A) := ok_lit_names T
  have G_names_in : FnOk P w K mg base CX0 2 A.f_names_in A.d_names_in ["terms"] (spNamesIn A.C_Term) := ok_names_in T
  have G_shared : FnOk P w K mg base CX0 2 A.f_shared A.d_shared ["rule", "number", "name"] (spShared A) := ok_shared T
  refine T.F_needs.ok sc_needs (fun vs H Q E h => ?_) (fun cdv ar outer s H vs Q E hr h => ?_)
  · obtain ⟨a, j, r, q, rfl, _⟩ := h
    rfl
  · obtain ⟨a, j, r, q, rfl, hR, hw, hq, k⟩ := h
    obtain ⟨dx, pt, pb, ps, sv, bs, e, f, g, hb, hs, hc⟩ := id hR
    refine ⟨_, (pss_cons (ps_set (i := 2) sc_needs.nd rfl (Or.inl rfl) (pe_ix (ixT K) (fldK K (pv 0) rfl) (pv 1) (fun _ _ => rfl)))
      (pss_cons (ps_if (pt_cmpR op_eq (fldK K (pv 2) rfl) pe_str (nomark _))
        (pss_one (ps_ret (pe_meth0 (pv 2) T.cl_Literal T.e_Literal_names G_Literal_names (hr.mono (by decide)) T.b_Literal_names .nil pass0)))
        pss_nil)
      (pss_cons (ps_if (pt_cmpR op_eq (fldK K (pv 2) rfl) pe_str (nomark _))
        (pss_one (ps_ret (pe_call G_names_in (hr.mono (by decide)) (by rfl) T.m_names_in T.F_names_in.kp T.b_names_in .nil pass0 (pa_cons (pe_slice (slAK K) (fldK K (pv 2) rfl) (po_some pe_int) po_none) pa_nil))))
        pss_nil)
      (pss_cons (ps_if (pt_cmpR op_eq (fldK K (pv 2) rfl) pe_str (nomark _))
        (pss_one (ps_ret (pe_callTy (tupOf K) (by rfl) T.z_tuple (by decide +kernel) (pa_cons (pe_lc (own := [("name", 3)]) (by rfl) sc_needs.nd (tupIK K (pe_meth0 (pv 2) T.cl_Literal T.e_Literal_names G_Literal_names (hr.mono (by decide)) T.b_Literal_names .nil pass0)) (blkOk_by (own := [("name", 3)]) (N := N_needs) (sc := defScope s_needs) (by decide +kernel)) (fun _ _ _ _ _ => (pg_name (i := 3) sc_needs.nd rfl (Or.inl rfl))) (fun _ _ _ _ _ => (pts_one (pt_val (pe_call G_shared (hr.mono (by decide)) (by rfl) T.m_shared T.F_shared.kp T.b_shared .nil pass0 (pa_cons (pv 0) (pa_cons (pv 1) (pa_cons (pv 3) pa_nil))))))) (fun _ _ _ _ _ => (pv 3))) pa_nil))))
        pss_nil)
      (pss_one (ps_ret (pe_tup pa_nil))))))), ?_⟩
    have hj : j < bs.length := by rw [hb.1]; exact (List.getElem?_eq_some_iff.mp hq).1
    have hbj : bs[j]? = some bs[j] := List.getElem?_eq_getElem hj
    have hl := hb.2 j _ q hbj hq
    have hwq := (hw.body.2 q (List.mem_of_getElem? hq)).1
    obtain ⟨dxb, ptb, pob, gb, ⟨as, eas, fas⟩, _⟩ := id hl
    refine ⟨_, rfl, a, _, dx, _, _, rfl, e, T.cl_Rule, T.n_Rule_body, rf_body _ _ _ _ _, _, rfl, pb, _, _, _, rfl, rfl, SqT.of g, atI_nat (by rw [List.getElem?_map, hbj]; rfl), ?_⟩
    refine ⟨_, rfl, bs[j], _, dxb, _, _, rfl, gb, T.cl_Literal, T.n_Literal_kind, lf_kind _ _ _ _, rfl, _, rfl, ?_⟩
    rw [dec_str]
    refine iteD (fun h1 => ?_) (fun h1 => ?_)
    · have ek : U.nd r q = nms q.ts := if_pos h1
      rw [ek] at k
      exact ⟨_, rfl, bs[j], dxb, _, rfl, gb, lf_names _ _ _ _, bs[j], q, rfl, hl, fun t ht => k t H (fun _ _ e => e) ht⟩
    · refine ⟨_, rfl, bs[j], _, dxb, _, _, rfl, gb, T.cl_Literal, T.n_Literal_kind, lf_kind _ _ _ _, rfl, _, rfl, ?_⟩
      rw [dec_str]
      refine iteD (fun h2 => ?_) (fun h2 => ?_)
      · have ek : U.nd r q = nms (q.ts.drop 1) := by
          unfold U.nd
          rw [if_neg h1, if_pos h2]
        rw [ek] at k
        refine ⟨_, rfl, bs[j], _, dxb, _, _, rfl, gb, T.cl_Literal, T.n_Literal_terms, lf_terms _ _ _ _, _, rfl, ptb, _, rfl, SqT.of eas, fun hwh => ?_, fun _ p hp => ?_⟩
        · have h0 : as.length = 0 := by
            have := hwh.1
            rw [show ((1 : Int)) = ((1 : Nat) : Int) from rfl, HT.sIx_nat, List.length_map] at this
            omega
          have : q.ts = [] := List.eq_nil_of_length_eq_zero (by rw [← fas.1]; exact h0)
          refine ⟨ptb, q.ts.drop 1, rfl, ⟨as, eas, ?_⟩, hwq.drop 1, fun t H' s et => k t H' s et⟩
          rw [this] at fas ⊢
          exact fas
        · refine ⟨p, q.ts.drop 1, rfl, ⟨as.drop 1, ?_, (fas.drop 1).imp fun a t h => TmAt.up h (same_new hp)⟩, hwq.drop 1, fun t H' s et => k t H' ((same_new hp).trans s) et⟩
          rw [upd_same, show ((1 : Int)) = ((1 : Nat) : Int) from rfl, cut_drop, List.map_drop]
      · refine ⟨_, rfl, bs[j], _, dxb, _, _, rfl, gb, T.cl_Literal, T.n_Literal_kind, lf_kind _ _ _ _, rfl, _, rfl, ?_⟩
        rw [dec_str]
        refine iteD (fun h3 => ?_) (fun h3 => ?_)
        · have ek : U.nd r q = (nms q.ts).filter (U.shd r q) := by
            unfold U.nd
            rw [if_neg h1, if_neg h2, if_pos h3]
          rw [ek] at k
          refine ⟨_, rfl, bs[j], dxb, _, rfl, gb, lf_names _ _ _ _, bs[j], q, rfl, hl, fun t ht => ⟨t, rfl, ⟨_, SqT.of ht⟩, fun D hD => ?_⟩⟩
          refine lc_tup (K := K) (a := t) (xs := (nms q.ts).map V.str) (LcI (fun H y (x : Str) => y = .str x) (U.shd r q) (nms q.ts) H D) (LcI.start hD) (fun i H' _ h => SqT.of (h.1 _ _ ht)) ?_ ?_
          · rintro i x H' hx h
            rw [List.getElem?_map] at hx
            obtain ⟨z, hz, rfl⟩ := Option.map_eq_some_iff.mp hx
            refine ⟨rfl, _, rfl, _, rfl, _, rfl, a, j, z, r, q, rfl, hR.up h.1, hq, _, rfl, ?_⟩
            refine iteB (fun hp => ?_) (fun hp => ?_)
            · exact ⟨_, rfl, h.yes (stab_val _) hD (by have := (wfT_nms hwq).2; omega) hz hp (fun _ _ e => e) rfl⟩
            · exact h.no (stab_val _) hz hp (fun _ _ e => e)
          · intro H' h
            obtain ⟨ys, s1, eD, hv⟩ := h.fin (by rw [List.length_map]; exact Nat.le_refl _)
            have ey := VAll.eq (f := V.str) hv
            subst ey
            exact ⟨D, _, rfl, .inl ⟨SqL.of eD, fun u hu => k u _ (s1.trans (same_new hu)) upd_same⟩⟩
        · have ek : U.nd r q = [] := by
            unfold U.nd
            rw [if_neg h1, if_neg h2, if_neg h3]
          rw [ek] at k
          exact ⟨Nat.zero_le _, fun u hu => k u _ (same_new hu) upd_same⟩
theorem ok_gives (T : Txt K mg A) : FnOk P w K mg base CX0 3 A.f_gives A.d_gives ["rule", "number"] (spGives A) := by
  have G_Literal_names : FnOk P w K mg base CX0 1 A.f_Literal_names A.d_Literal_names ["self"] (spLitNames A) := ok_lit_names T
  have G_names_in : FnOk P w K mg base CX0 2 A.f_names_in A.d_names_in ["terms"] (spNamesIn A.C_Term) := ok_names_in T
  refine T.F_gives.ok sc_gives (fun vs H Q E h => ?_) (fun cdv ar outer s H vs Q E hr h => ?_)
  · obtain ⟨a, j, r, q, rfl, _⟩ := h
    rfl
  · obtain ⟨a, j, r, q, rfl, hR, hw, hq, k⟩ := h
    obtain ⟨dx, pt, pb, ps, sv, bs, e, f, g, hb, hs, hc⟩ := id hR
    refine ⟨_, (pss_cons (ps_set (i := 2) sc_gives.nd rfl (Or.inl rfl) (pe_ix (ixT K) (fldK K (pv 0) rfl) (pv 1) (fun _ _ => rfl)))
      (pss_cons (ps_if (pt_cmpR op_eq (fldK K (pv 2) rfl) pe_str (nomark _))
        (pss_one (ps_ret (pe_meth0 (pv 2) T.cl_Literal T.e_Literal_names G_Literal_names (hr.mono (by decide)) T.b_Literal_names .nil pass0)))
        pss_nil)
      (pss_one (ps_ret (pe_ifExp (pt_cmpR op_eq (fldK K (pv 2) rfl) pe_str (nomark _)) (pe_call G_names_in (hr.mono (by decide)) (by rfl) T.m_names_in T.F_names_in.kp T.b_names_in .nil pass0 (pa_cons (pe_slice (slAK K) (fldK K (pv 2) rfl) po_none (po_some pe_int)) pa_nil)) (pe_tup pa_nil)))))), ?_⟩
    have hj : j < bs.length := by rw [hb.1]; exact (List.getElem?_eq_some_iff.mp hq).1
    have hbj : bs[j]? = some bs[j] := List.getElem?_eq_getElem hj
    have hl := hb.2 j _ q hbj hq
    have hwq := (hw.body.2 q (List.mem_of_getElem? hq)).1
    obtain ⟨dxb, ptb, pob, gb, ⟨as, eas, fas⟩, _⟩ := id hl
    refine ⟨_, rfl, a, _, dx, _, _, rfl, e, T.cl_Rule, T.n_Rule_body, rf_body _ _ _ _ _, _, rfl, pb, _, _, _, rfl, rfl, SqT.of g, atI_nat (by rw [List.getElem?_map, hbj]; rfl), ?_⟩
    refine ⟨_, rfl, bs[j], _, dxb, _, _, rfl, gb, T.cl_Literal, T.n_Literal_kind, lf_kind _ _ _ _, rfl, _, rfl, ?_⟩
    rw [dec_str]
    refine iteD (fun h1 => ?_) (fun h1 => ?_)
    · have ek : U.gv q = nms q.ts := if_pos h1
      rw [ek] at k
      exact ⟨_, rfl, bs[j], dxb, _, rfl, gb, lf_names _ _ _ _, bs[j], q, rfl, hl, fun t ht => k t H (fun _ _ e => e) ht⟩
    · refine ⟨_, rfl, bs[j], _, dxb, _, _, rfl, gb, T.cl_Literal, T.n_Literal_kind, lf_kind _ _ _ _, rfl, _, rfl, ?_⟩
      rw [dec_str]
      refine iteD (fun h2 => ?_) (fun h2 => ?_)
      · have ek : U.gv q = nms (q.ts.take 1) := by
          unfold U.gv
          rw [if_neg h1, if_pos h2]
        rw [ek] at k
        refine ⟨_, rfl, bs[j], _, dxb, _, _, rfl, gb, T.cl_Literal, T.n_Literal_terms, lf_terms _ _ _ _, _, rfl, ptb, _, rfl, SqT.of eas, fun hwh => ?_, fun _ p hp => ?_⟩
        · have h0 : as.length ≤ 1 := by
            have := hwh.2
            rw [show ((1 : Int)) = ((1 : Nat) : Int) from rfl, HT.sIx_nat, List.length_map] at this
            omega
          have : q.ts.take 1 = q.ts := List.take_of_length_le (by rw [← fas.1]; exact h0)
          refine ⟨ptb, q.ts.take 1, rfl, ⟨as, eas, ?_⟩, hwq.take 1, fun t H' s et => k t H' s et⟩
          rw [this]
          exact fas
        · refine ⟨p, q.ts.take 1, rfl, ⟨as.take 1, ?_, (fas.take 1).imp fun a t h => TmAt.up h (same_new hp)⟩, hwq.take 1, fun t H' s et => k t H' ((same_new hp).trans s) et⟩
          rw [upd_same, show ((1 : Int)) = ((1 : Nat) : Int) from rfl, cut_take, List.map_take]
      · have ek : U.gv q = [] := by
          unfold U.gv
          rw [if_neg h1, if_neg h2]
        rw [ek] at k
        exact ⟨Nat.zero_le _, fun u hu => k u _ (same_new hu) upd_same⟩
theorem ok_ready (T : Txt K mg A) : FnOk P w K mg base CX0 4 A.f_ready A.d_ready ["rule", "number", "bound"] (spReady A) := by
  have G_needs : FnOk P w K mg base CX0 3 A.f_needs A.d_needs ["rule", "number"] (spNeeds A) := ok_needs T
  refine T.F_ready.ok sc_ready (fun vs H Q E h => ?_) (fun cdv ar outer s H vs Q E hr h => ?_)
  · obtain ⟨a, b, j, r, q, xs, rfl, _⟩ := h
    rfl
  · obtain ⟨a, b, j, r, q, xs, rfl, hR, hw, hq, hB, k⟩ := h
    have hu := hu_of hr
    refine ⟨_, (pss_one (ps_ret (pe_callB (allK K) (by rfl) T.z_all (by decide +kernel) (pa_cons (pe_lc (own := [("name", 3)]) (by rfl) sc_ready.nd (tupIK K (pe_call G_needs (hr.mono (by decide)) (by rfl) T.m_needs T.F_needs.kp T.b_needs .nil pass0 (pa_cons (pv 0) (pa_cons (pv 1) pa_nil)))) (blkOk_by (own := [("name", 3)]) (N := N_ready) (sc := defScope s_ready) (by decide +kernel)) (fun _ _ _ _ _ => (pg_name (i := 3) sc_ready.nd rfl (Or.inl rfl))) (fun _ _ _ _ _ => pts_nil) (fun _ _ _ _ _ => (pe_cmpR (inAny K hu) (pv 3) (pv 2) (by rfl)))) pa_nil)))), ?_⟩
    refine ⟨_, rfl, _, rfl, a, j, r, q, rfl, hR, hw, hq, fun t H1 s1 et => ⟨t, rfl, ⟨_, SqT.of et⟩, fun D hD => ?_⟩⟩
    refine lc_tup (K := K) (a := t) (xs := (U.nd r q).map V.str) (LcI (fun H y (x : Str) => y = .bl (decide (x ∈ xs))) (fun _ => true) (U.nd r q) H1 D) (LcI.start hD) (fun i H' _ h => SqT.of (h.1 _ _ et)) ?_ ?_
    · rintro i x H' hx h
      rw [List.getElem?_map] at hx
      obtain ⟨z, hz, rfl⟩ := Option.map_eq_some_iff.mp hx
      refine ⟨rfl, _, rfl, _, rfl, b, decide (z ∈ xs), rfl, ?_, ?_⟩
      · rcases (hB.up s1).up h.1 with ⟨kvs, e, f⟩ | e
        · exact .inl ⟨_, DGet.k (k := Sum.inr z) e, (f z).symm⟩
        · exact .inr ⟨_, .inl (SqL.of e), rfl, flat_str _, (inV_str _ _).symm⟩
      · exact h.yes (stab_val _) hD (by have := nd_len (r := r) (hw.body.2 q (List.mem_of_getElem? hq)).1; omega) hz rfl (fun _ _ e => e) rfl
    · intro H' h
      obtain ⟨ys, s2, eD, hv⟩ := h.fin (by rw [List.length_map]; exact Nat.le_refl _)
      rw [filter_tt] at hv
      have ey := VAll.eq (f := fun x : Str => V.bl (decide (x ∈ xs))) hv
      subst ey
      refine ⟨D, (U.nd r q).map fun x => decide (x ∈ xs), rfl, SqL.of (by rw [eD, List.map_map]; rfl), ?_⟩
      have e0 : (((U.nd r q).map fun x => decide (x ∈ xs)).all id) = U.rdy r xs q := by
        rw [List.all_map]
        rfl
      rw [e0]
      exact k H' (s1.trans s2)
end
end Toy

set_option Elab.async false
set_option maxRecDepth 100000
set_option maxHeartbeats 4000000
namespace Toy
open PySem L2
open U (Tm Pt RR tn nms vars addN dd rows cnt)
def spLimited (A : Ad) : Sp := fun vs H Q _ => ∃ (a : Addr) (r : RR), vs = [.ref a] ∧ RuleAt A H a r ∧ Wf r ∧ ∀ t H', Same H H' → H' t = some (.tup ((U.lim r).map V.str)) → Q (.ref t) H'
def spLoose (A : Ad) : Sp := fun vs H Q _ => ∃ (a : Addr) (r : RR), vs = [.ref a] ∧ RuleAt A H a r ∧ Wf r ∧ ∀ t H', Same H H' → H' t = some (.tup ((U.ls r).map V.str)) → Q (.ref t) H'
theorem step_len {r : RR} {b : List Str} {q : Pt} (h : WfT q.ts) : (U.step r b q).length ≤ b.length + 20 := by
  unfold U.step
  split
  · have h1 := U.fold_len (xs := U.gv q) (acc := b)
    have h2 := gv_len h
    omega
  · omega
/-- all names of a rule's parts, each once -/
theorem step_sub {r : RR} {U0 b : List Str} {q : Pt} (hg : ∀ x ∈ U.gv q, x ∈ U0) (h : ∀ x ∈ b, x ∈ U0) : ∀ x ∈ U.step r b q, x ∈ U0 := by
  unfold U.step
  split
  · intro x hx
    rcases U.fold_mem.mp hx with z | z
    · exact h x z
    · exact hg x z
  · exact h
theorem gv_sub {q : Pt} {x : Str} (h : x ∈ U.gv q) : x ∈ nms q.ts := by
  unfold U.gv at h
  split at h
  · exact h
  · split at h
    · exact U.nms_mem.mpr (List.mem_of_mem_take (U.nms_mem.mp h))
    · cases h
def allN (r : RR) : List Str := r.body.flatMap fun q => nms q.ts
theorem steps_sub {r : RR} : ∀ (qs : List Pt) {b : List Str}, (∀ q ∈ qs, q ∈ r.body) → (∀ x ∈ b, x ∈ allN r) → ∀ x ∈ qs.foldl (U.step r) b, x ∈ allN r
  | [], _, _, h => h
  | q :: qs, b, hq, h => steps_sub qs (fun q' h' => hq q' (List.mem_cons_of_mem _ h')) (step_sub (fun x hx => List.mem_flatMap.mpr ⟨q, hq q List.mem_cons_self, gv_sub hx⟩) h)
theorem itp_sub (r : RR) : ∀ n, ∀ x ∈ U.itp r n, x ∈ allN r
  | 0 => fun x h => nomatch h
  | n + 1 => steps_sub r.body (fun _ h => h) (itp_sub r n)
theorem flat_le {α β : Type} {f : α → List β} {m : Nat} : ∀ {l : List α}, (∀ x ∈ l, (f x).length ≤ m) → (l.flatMap f).length ≤ m * l.length
  | [], _ => Nat.le_refl _
  | x :: l, h => by
    rw [List.flatMap_cons, List.length_append, List.length_cons, Nat.mul_succ]
    have h1 := h x List.mem_cons_self
    have h2 := flat_le (f := f) (m := m) (l := l) fun y hy => h y (List.mem_cons_of_mem _ hy)
    omega
theorem nodup_le : ∀ {l m : List Str}, l.Nodup → (∀ x ∈ l, x ∈ m) → l.length ≤ m.length
  | [], _, _, _ => Nat.zero_le _
  | x :: l, m, h, hs => by
    have hx := hs x List.mem_cons_self
    have hn := List.nodup_cons.mp h
    have h2 := nodup_le (l := l) (m := m.erase x) hn.2 fun y hy => (List.mem_erase_of_ne (fun e : y = x => hn.1 (by rw [← e]; exact hy))).mpr (hs y (List.mem_cons_of_mem _ hy))
    rw [List.length_erase_of_mem hx] at h2
    have h3 := List.length_pos_of_mem hx
    rw [List.length_cons]
    omega
theorem allN_le {r : RR} (h : Wf r) : (allN r).length ≤ 400 := by
  have h1 := flat_le (f := fun q : Pt => nms q.ts) (m := 20) (l := r.body) fun q hq => (wfT_nms (h.body.2 q hq).1).2
  have h2 := h.body.1
  unfold allN
  omega
section
variable {P : Program} {w : World} {K : PySem.W.Frag} {mg : Str → Option Value} {base : Heap} {A : Ad}
theorem ok_limited (T : Txt K mg A) : FnOk P w K mg base CX0 5 A.f_limited A.d_limited ["rule"] (spLimited A) := by
  have G_ready : FnOk P w K mg base CX0 4 A.f_ready A.d_ready ["rule", "number", "bound"] (spReady A) := ok_ready T
  have G_gives : FnOk P w K mg base CX0 3 A.f_gives A.d_gives ["rule", "number"] (spGives A) := ok_gives T
  refine T.F_limited.ok sc_limited (fun vs H Q E h => ?_) (fun cdv ar outer s H vs Q E hr h => ?_)
  · obtain ⟨a, r, rfl, _⟩ := h
    rfl
  · obtain ⟨a, r, rfl, hR, hw, k⟩ := h
    obtain ⟨dx, pt, pb, ps, sv, bs, e, f, g, hb, hs, hc⟩ := id hR
    have hu := hu_of hr
    refine ⟨_, (pss_cons (ps_set (i := 1) sc_limited.nd rfl (Or.inl rfl) pe_dnewK)
      (pss_cons (ps_set (i := 2) sc_limited.nd rfl (Or.inl rfl) (pe_un un_neg pe_int))
      (pss_cons (ps_while PassesOwn.never (pt_cmpR op_gt (pe_callB call_lenD (by rfl) T.z_len (by decide +kernel) (pa_cons (pv 1) pa_nil)) (pv 2) (nomark _))
        (pss_cons (ps_set (i := 2) sc_limited.nd rfl (Or.inl rfl) (pe_callB call_lenD (by rfl) T.z_len (by decide +kernel) (pa_cons (pv 1) pa_nil)))
        (pss_one (ps_for PassesOwn.never rfl (pi_range1 (by rfl) T.z_range (pa_cons (pe_callB (lenK K) (by rfl) T.z_len (by decide +kernel) (pa_cons (fldK K (pv 0) rfl) pa_nil)) pa_nil)) (pg_name (i := 3) sc_limited.nd rfl (Or.inl rfl))
          (pss_one (ps_if (pt_val (pe_call G_ready (hr.mono (by decide)) (by rfl) T.m_ready T.F_ready.kp T.b_ready .nil pass0 (pa_cons (pv 0) (pa_cons (pv 3) (pa_cons (pv 1) pa_nil)))))
            (pss_one (ps_for PassesOwn.never rfl (tupIK K (pe_call G_gives (hr.mono (by decide)) (by rfl) T.m_gives T.F_gives.kp T.b_gives .nil pass0 (pa_cons (pv 0) (pa_cons (pv 3) pa_nil)))) (pg_name (i := 4) sc_limited.nd rfl (Or.inl rfl))
              (pss_one (ps_dput hu (pv 1) (pv 4) pe_bl rfl))))
            pss_nil))))))
      (pss_one (ps_ret (pe_callTy tupDK (by rfl) T.z_tuple (by decide +kernel) (pa_cons (pv 1) pa_nil))))))), ?_⟩
    have h20 := hw.body.1
    refine fun d hd => ⟨_, rfl, ?_⟩
    refine ⟨fun m σ H' => ∃ n before x y, m = r.body.length + 3 - n ∧ σ = [some (.ref a), some (.ref d), some (.int before), x, y] ∧ Same H H' ∧ H' d = some (.dK (blD (U.itp r n))) ∧ n ≤ r.body.length + 2 ∧ ((n = 0 ∧ before = -1) ∨ ∃ n', n = n' + 1 ∧ before = ((U.itp r n').length : Nat)),
      ⟨_, 0, -1, none, none, rfl, rfl, same_new hd, upd_same, by omega, .inl ⟨rfl, rfl⟩⟩, ?_⟩
    rintro m σ H' ⟨n, before, x, y, rfl, rfl, s1, eD, hn, hbf⟩
    refine ⟨_, rfl, d, _, rfl, eD, _, rfl, _, _, rfl, rfl, _, rfl, ?_⟩
    rw [List.length_map]
    refine iteD (fun hlt => ?_) (fun hge => ?_)
    · -- a pass
      have hn1 : n ≤ r.body.length + 1 := by
        rcases hbf with ⟨rfl, _⟩ | ⟨n', rfl, rfl⟩
        · omega
        · rcases U.itp_or r n' with z | z
          · have := U.full_le r (U.itp r n')
            omega
          · exfalso
            have e1 : U.itp r (n' + 1) = U.itp r n' := z
            rw [e1] at hlt
            omega
      refine ⟨fun σ' H2 => ∃ x y, σ' = [some (.ref a), some (.ref d), some (.int ((U.itp r n).length : Nat)), x, y] ∧ Same H H2 ∧ H2 d = some (.dK (blD (U.itp r (n + 1)))), fun σ' H2 ⟨x, y, e1, e2, e3⟩ => ⟨r.body.length + 3 - (n + 1), by omega, n + 1, _, x, y, rfl, e1, e2, e3, by omega, .inr ⟨n, rfl, rfl⟩⟩, ?_⟩
      refine ⟨_, rfl, d, _, rfl, eD, ?_⟩
      rw [List.length_map]
      refine ⟨_, rfl, a, _, dx, _, _, rfl, s1 _ _ e, T.cl_Rule, T.n_Rule_body, rf_body _ _ _ _ _, pb, _, rfl, .inr (SqT.of (s1 _ _ g)), ?_⟩
      rw [List.length_map, hb.1]
      refine ⟨((r.body.length : Nat) : Int), rfl, by omega, by omega, ?_⟩
      refine for_range (n := ((r.body.length : Nat) : Int).toNat) (fun i σ H2 => ∃ x y, σ = [some (.ref a), some (.ref d), some (.int ((U.itp r n).length : Nat)), x, y] ∧ Same H H2 ∧ H2 d = some (.dK (blD ((r.body.take i).foldl (U.step r) (U.itp r n)))))
        ⟨x, y, rfl, s1, eD⟩ ?_ ?_
      · rintro i σ H2 hi ⟨x, y, rfl, s2, eD2⟩
        rw [Int.toNat_natCast] at hi
        have hq : r.body[i]? = some r.body[i] := List.getElem?_eq_getElem hi
        have hwq := (hw.body.2 _ (List.mem_of_getElem? hq)).1
        have fin : ∀ H3 (x y), Same H H3 → H3 d = some (.dK (blD (U.step r ((r.body.take i).foldl (U.step r) (U.itp r n)) r.body[i]))) →
            (∃ x' y', [some (V.ref a), some (.ref d), some (.int ((U.itp r n).length : Nat)), x, y] = [some (V.ref a), some (.ref d), some (.int ((U.itp r n).length : Nat)), x', y'] ∧ Same H H3 ∧ H3 d = some (.dK (blD ((r.body.take (i + 1)).foldl (U.step r) (U.itp r n))))) := fun H3 x y s e => by
          refine ⟨x, y, rfl, s, ?_⟩
          rw [take_one hq, List.foldl_append]
          exact e
        have ei : ((0 : Int) + (i : Int)) = ((i : Nat) : Int) := by omega
        refine ⟨_, rfl, _, rfl, _, rfl, a, d, i, r, _, _, by rw [ei]; rfl, hR.up s2, hw, hq, bound_bl eD2, fun H3 s3 => ⟨_, rfl, ?_⟩⟩
        have eD3 := s3 _ _ eD2
        refine iteB (fun hrd => ?_) (fun hrd => ?_)
        · refine ⟨_, rfl, _, rfl, a, i, r, _, by rw [ei]; rfl, (hR.up s2).up s3, hw, hq, fun t H4 s4 et => ⟨t, rfl, ⟨_, SqT.of et⟩, ?_⟩⟩
          refine for_tup (K := K) (a := t) (xs := (U.gv r.body[i]).map V.str) (fun j σ H5 => ∃ y, σ = [some (.ref a), some (.ref d), some (.int ((U.itp r n).length : Nat)), some (.int (0 + i)), y] ∧ Same H H5 ∧ H5 t = some (.tup ((U.gv r.body[i]).map V.str)) ∧ H5 d = some (.dK (blD (((U.gv r.body[i]).take j).foldl addN ((r.body.take i).foldl (U.step r) (U.itp r n))))))
            ⟨y, rfl, (s2.trans s3).trans s4, et, s4 _ _ eD3⟩ (fun j σ H5 _ ⟨y, _, _, h, _⟩ => SqT.of h) ?_ ?_
          · rintro j v σ H5 hv ⟨y, rfl, s5, et5, eD5⟩
            rw [List.getElem?_map] at hv
            obtain ⟨z, hz, rfl⟩ := Option.map_eq_some_iff.mp hv
            refine ⟨_, rfl, _, rfl, d, _, rfl, DPut.k (k := Sum.inr z) eD5 ?_, _, rfl, same_mut s5 hd, ?_, ?_⟩
            · rw [List.length_map]
              have nd1 : (((U.gv r.body[i]).take j).foldl addN ((r.body.take i).foldl (U.step r) (U.itp r n))).Nodup := U.fold_nodup (U.steps_nodup r _ (U.itp_nodup r n))
              have sub1 : ∀ x ∈ ((U.gv r.body[i]).take j).foldl addN ((r.body.take i).foldl (U.step r) (U.itp r n)), x ∈ allN r := fun x hx => by
                rcases U.fold_mem.mp hx with z | z
                · exact steps_sub (r.body.take i) (fun q h => List.mem_of_mem_take h) (itp_sub r n) x z
                · exact List.mem_flatMap.mpr ⟨_, List.mem_of_getElem? hq, gv_sub (List.mem_of_mem_take z)⟩
              have l1 := nodup_le nd1 sub1
              have l2 := allN_le hw
              exact sz (by omega)
            · rw [upd_ne (ne_of et5 eD5 (fun q => nomatch q))]
              exact et5
            · rw [upd_same, putK_bl, take_one hz, List.foldl_append]
              rfl
          · rintro σ H5 ⟨y, rfl, s5, et5, eD5⟩
            rw [List.length_map, List.take_of_length_le (Nat.le_refl _)] at eD5
            refine fin H5 _ _ s5 ?_
            rw [show U.step r ((r.body.take i).foldl (U.step r) (U.itp r n)) r.body[i] = (U.gv r.body[i]).foldl addN ((r.body.take i).foldl (U.step r) (U.itp r n)) from if_pos hrd]
            exact eD5
        · refine fin H3 _ _ (s2.trans s3) ?_
          rw [show U.step r ((r.body.take i).foldl (U.step r) (U.itp r n)) r.body[i] = (r.body.take i).foldl (U.step r) (U.itp r n) from if_neg (by rw [hrd]; decide)]
          exact eD3
      · rintro σ H2 ⟨x, y, rfl, s2, eD2⟩
        rw [Int.toNat_natCast, List.take_of_length_le (Nat.le_refl _)] at eD2
        exact ⟨x, y, rfl, s2, eD2⟩
    · -- nothing new
      have elim : U.itp r n = U.lim r := by
        rcases hbf with ⟨rfl, rfl⟩ | ⟨n', rfl, rfl⟩
        · exfalso
          omega
        · have e1 : U.itp r n' = U.itp r (n' + 1) := U.pre_eq (U.pass_pre r _) (by show (U.itp r (n' + 1)).length ≤ _; omega)
          rw [← e1]
          exact U.fix_lim r e1.symm
      rw [elim] at eD
      refine ⟨_, rfl, d, _, rfl, eD, fun q hq => ?_⟩
      rw [keys_bl]
      exact k q _ (s1.trans (same_new hq)) upd_same
end
end Toy

set_option Elab.async false
set_option maxRecDepth 100000
set_option maxHeartbeats 4000000
namespace Toy
open PySem L2
open U (Tm Pt RR tn nms vars addN dd rows cnt)
def spHasVal (A : Ad) : Sp := fun vs H Q _ => ∃ (a : Addr) (j : Nat) (r : RR) (q : Pt), vs = [.ref a, .int j] ∧ RuleAt A H a r ∧ Wf r ∧ r.body[j]? = some q ∧ q.ts ≠ [] ∧ ∀ H', Same H H' → Q (.bl (U.hv r j)) H'
def LetOk (r : RR) : Prop := ∀ q ∈ r.body, q.kind = "let" → q.ts ≠ []
def spTwice (A : Ad) : Sp := fun vs H Q _ => ∃ (a : Addr) (r : RR), vs = [.ref a] ∧ RuleAt A H a r ∧ Wf r ∧ LetOk r ∧ ∀ H', Same H H' → Q (.bl (U.rt r)) H'
theorem pt_at {r : RR} {j : Nat} {q : Pt} (h : r.body[j]? = some q) : U.pt r j = q := by
  unfold U.pt
  rw [List.getD_eq_getElem?_getD, h]
  rfl
section
variable {P : Program} {w : World} {K : PySem.W.Frag} {mg : Str → Option Value} {base : Heap} {A : Ad}
theorem ok_loose (T : Txt K mg A) : FnOk P w K mg base CX0 6 A.f_loose A.d_loose ["rule"] (spLoose A) := by
  have G_limited : FnOk P w K mg base CX0 5 A.f_limited A.d_limited ["rule"] (spLimited A) := ok_limited T
  have G_names_in : FnOk P w K mg base CX0 2 A.f_names_in A.d_names_in ["terms"] (spNamesIn A.C_Term) := ok_names_in T
  have G_needs : FnOk P w K mg base CX0 3 A.f_needs A.d_needs ["rule", "number"] (spNeeds A) := ok_needs T
  refine T.F_loose.ok sc_loose (fun vs H Q E h => ?_) (fun cdv ar outer s H vs Q E hr h => ?_)
  · obtain ⟨a, r, rfl, _⟩ := h
    rfl
  · obtain ⟨a, r, rfl, hR, hw, k⟩ := h
    have hu := hu_of hr
    have h20 := hw.body.1
    refine ⟨_, (pss_cons (ps_set (i := 1) sc_loose.nd rfl (Or.inl rfl) (pe_call G_limited (hr.mono (by decide)) (by rfl) T.m_limited T.F_limited.kp T.b_limited .nil pass0 (pa_cons (pv 0) pa_nil)))
      (pss_cons (ps_set (i := 2) sc_loose.nd rfl (Or.inl rfl) pe_dnewK)
      (pss_cons (ps_for PassesOwn.never rfl (listK K (pe_op op_cat (pe_lst (pa_cons (pe_call G_names_in (hr.mono (by decide)) (by rfl) T.m_names_in T.F_names_in.kp T.b_names_in .nil pass0 (pa_cons (fldK K (pv 0) rfl) pa_nil)) pa_nil)) (pe_lc (own := [("number", 5)]) (by rfl) sc_loose.nd (pi_range1 (by rfl) T.z_range (pa_cons (pe_callB (lenK K) (by rfl) T.z_len (by decide +kernel) (pa_cons (fldK K (pv 0) rfl) pa_nil)) pa_nil)) (blkOk_by (own := [("number", 5)]) (N := N_loose) (sc := defScope s_loose) (by decide +kernel)) (fun _ _ _ _ _ => (pg_name (i := 5) sc_loose.nd rfl (Or.inl rfl))) (fun _ _ _ _ _ => pts_nil) (fun _ _ _ _ _ => (pe_call G_needs (hr.mono (by decide)) (by rfl) T.m_needs T.F_needs.kp T.b_needs .nil pass0 (pa_cons (pv 0) (pa_cons (pv 5) pa_nil))))))) (pg_name (i := 3) sc_loose.nd rfl (Or.inl rfl))
        (pss_one (ps_for PassesOwn.never rfl (tupIK K (pv 3)) (pg_name (i := 4) sc_loose.nd rfl (Or.inl rfl))
          (pss_one (ps_if (pt_cmpR (notInSeq K) (pv 4) (pv 1) (by rfl))
            (pss_one (ps_dput hu (pv 2) (pv 4) pe_bl rfl))
            pss_nil)))))
      (pss_one (ps_ret (pe_callTy tupDK (by rfl) T.z_tuple (by decide +kernel) (pa_cons (pv 2) pa_nil))))))), ?_⟩
    refine ⟨_, rfl, a, r, rfl, hR, hw, fun t H1 s1 et => fun d hd => ?_⟩
    have s2 : Same H (upd H1 d (.dK [])) := s1.trans (same_new hd)
    have et2 := same_new (o := .dK []) hd _ _ et
    have eD2 : upd H1 d (.dK []) d = some (.dK []) := upd_same
    have nd2 : H d = none := s1.free hd
    generalize upd H1 d (.dK []) = H2 at s2 et2 eD2 ⊢
    have hR2 := hR.up s2
    obtain ⟨dx, pt, pb, ps, sv, bs, e, f, g, hb, hs, hc⟩ := id hR2
    refine ⟨_, rfl, a, _, dx, _, _, rfl, e, T.cl_Rule, T.n_Rule_terms, rf_terms _ _ _ _ _, pt, r.ts, rfl, f, hw.ts, fun n1 H3 s3 e3 => ⟨(by show 1 ≤ sizeLine; decide), fun l hl => ?_⟩⟩
    have s4 : Same H2 (upd H3 l (.lst [.ref n1])) := s3.trans (same_new hl)
    have el4 : upd H3 l (.lst [.ref n1]) l = some (.lst [.ref n1]) := upd_same
    have e4 := same_new (o := .lst [.ref n1]) hl _ _ e3
    generalize upd H3 l (.lst [.ref n1]) = H4 at s4 el4 e4 ⊢
    refine ⟨_, rfl, a, _, dx, _, _, rfl, s4 _ _ e, T.cl_Rule, T.n_Rule_body, rf_body _ _ _ _ _, pb, _, rfl, .inr (SqT.of (s4 _ _ g)), ?_⟩
    rw [List.length_map, hb.1]
    refine ⟨((r.body.length : Nat) : Int), rfl, by omega, by omega, fun D hD => ?_⟩
    have st : Stab D fun H y (q : Pt) => ∃ a, y = .ref a ∧ H a = some (.tup ((U.nd r q).map V.str)) := ⟨fun ⟨a, e, h⟩ s => ⟨a, e, s _ _ h⟩, fun hl ⟨a, e, h⟩ => ⟨a, e, by rw [upd_ne (ne_of h hl (fun q => nomatch q))]; exact h⟩⟩
    refine lc_range (n := ((r.body.length : Nat) : Int).toNat) (LcI (fun H y (q : Pt) => ∃ a, y = .ref a ∧ H a = some (.tup ((U.nd r q).map V.str))) (fun _ => true) r.body H4 D) (LcI.start hD) ?_ ?_
    · intro i H5 hi h
      rw [Int.toNat_natCast] at hi
      have hq : r.body[i]? = some r.body[i] := List.getElem?_eq_getElem hi
      have ei : ((0 : Int) + (i : Int)) = ((i : Nat) : Int) := by omega
      refine ⟨rfl, _, rfl, _, rfl, a, i, r, _, by rw [ei]; rfl, (hR2.up s4).up h.1, hw, hq, fun u H6 s6 eu => ?_⟩
      exact h.yes st hD (by omega) hq rfl s6 ⟨u, rfl, eu⟩
    · intro H5 h
      obtain ⟨ys, s5, eD5, hv⟩ := h.fin (by rw [Int.toNat_natCast]; exact Nat.le_refl _)
      obtain ⟨cs, rfl, hcs⟩ := hv.refs
      rw [filter_tt] at hcs
      refine ⟨l, D, _, _, rfl, rfl, s5 _ _ el4, eD5, ?_, fun m hm => ?_⟩
      · rw [List.length_map, hcs.1]
        exact sz' (by show 1 + _ ≤ 1000; omega)
      · have s6 : Same H5 (upd H5 m (.lst ([V.ref n1] ++ cs.map V.ref))) := same_new hm
        have em : upd H5 m (.lst ([V.ref n1] ++ cs.map V.ref)) m = some (.lst ((n1 :: cs).map V.ref)) := upd_same
        have all : All2 (fun b row => upd H5 m (.lst ([V.ref n1] ++ cs.map V.ref)) b = some (.tup (row.map V.str))) (n1 :: cs) (nms r.ts :: r.body.map (U.nd r)) := by
          refine .cons (s6 _ _ (s5 _ _ e4)) ⟨by rw [List.length_map]; exact hcs.1, fun i b row h1 h2 => ?_⟩
          rw [List.getElem?_map] at h2
          obtain ⟨q, hq, rfl⟩ := Option.map_eq_some_iff.mp h2
          exact s6 _ _ (hcs.2 i b q h1 hq)
        have s7 : Same H2 (upd H5 m (.lst ([V.ref n1] ++ cs.map V.ref))) := (s4.trans s5).trans s6
        generalize upd H5 m (.lst ([V.ref n1] ++ cs.map V.ref)) = H7 at em all s7 ⊢
        have len20 : ∀ row ∈ nms r.ts :: r.body.map (U.nd r), row.length ≤ 20 := fun row h => by
          rcases List.mem_cons.mp h with rfl | h
          · exact (wfT_nms hw.ts).2
          · obtain ⟨q, hq, rfl⟩ := List.mem_map.mp h
            exact nd_len (hw.body.2 q hq).1
        have lenR : (nms r.ts :: r.body.map (U.nd r)).length ≤ 21 := by
          rw [List.length_cons, List.length_map]
          omega
        refine ⟨m, rfl, ⟨_, SqL.of em⟩, ?_⟩
        refine for_list (K := K) (a := m) (xs := (n1 :: cs).map V.ref) (fun i σ H8 => ∃ x y F, σ = [some (.ref a), some (.ref t), some (.ref d), x, y, none] ∧ Same H H8 ∧ SameX d H7 H8 ∧ H8 t = some (.tup ((U.lim r).map V.str)) ∧ H8 d = some (.dK (blD F)) ∧ F.length ≤ 20 * i ∧ F = ((((nms r.ts :: r.body.map (U.nd r)).take i).flatten).filter fun x => decide (x ∉ U.lim r)).foldl addN [])
          ⟨none, none, [], rfl, s2.trans s7, SameX.refl d H7, s7 _ _ et2, s7 _ _ eD2, Nat.zero_le _, rfl⟩ ?_ ?_ ?_
        · rintro i σ H8 _ ⟨x, y, F, _, _, s9, _⟩
          have ne : m ≠ d := ne_of em (s7 _ _ eD2) (fun q => nomatch q)
          exact SqL.of (s9 _ _ em ne)
        · rintro i v σ H8 hv ⟨x, y, F, rfl, s8, s9, et8, eD8, hF, eF⟩
          obtain ⟨b, row, rfl, eb, erow, hb8⟩ := all.at hv
          have nb : b ≠ d := ne_of hb8 (s7 _ _ eD2) (fun q => nomatch q)
          have hb9 := s9 _ _ hb8 nb
          have hrow := len20 row (List.mem_of_getElem? erow)
          have hi : i < 21 := Nat.lt_of_lt_of_le (List.getElem?_eq_some_iff.mp erow).1 lenR
          refine ⟨_, rfl, b, rfl, ⟨_, SqT.of hb9⟩, ?_⟩
          refine for_tup (K := K) (a := b) (xs := row.map V.str) (fun j σ H9 => ∃ y F', σ = [some (.ref a), some (.ref t), some (.ref d), some (.ref b), y, none] ∧ Same H H9 ∧ SameX d H7 H9 ∧ H9 b = some (.tup (row.map V.str)) ∧ H9 t = some (.tup ((U.lim r).map V.str)) ∧ H9 d = some (.dK (blD F')) ∧ F'.length ≤ 20 * i + j ∧ F' = ((row.take j).filter fun x => decide (x ∉ U.lim r)).foldl addN F)
            ⟨y, F, rfl, s8, s9, hb9, et8, eD8, by omega, rfl⟩ (fun j σ H9 _ ⟨y, F', _, _, _, h, _⟩ => SqT.of h) ?_ ?_
          · rintro j v σ H9 hv ⟨y, F', rfl, s10, s11, hb10, et10, eD10, hF', eF'⟩
            rw [List.getElem?_map] at hv
            obtain ⟨z, hz, rfl⟩ := Option.map_eq_some_iff.mp hv
            have hj : j < row.length := (List.getElem?_eq_some_iff.mp hz).1
            refine ⟨_, rfl, _, rfl, t, _, rfl, .inr (SqT.of et10), rfl, flat_str _, _, rfl, ?_⟩
            rw [if_pos rfl, inV_str]
            refine iteND (fun hzn => ?_) (fun hzi => ?_)
            · refine ⟨_, rfl, _, rfl, d, _, rfl, DPut.k (k := Sum.inr z) eD10 (by rw [List.length_map]; exact sz (by omega)), _, addN F' z, rfl, same_mut s10 nd2, ?_, ?_, ?_, by rw [upd_same, putK_bl], ?_, ?_⟩
              · intro b' o' e' nb'
                rw [upd_ne nb']
                exact s11 _ _ e' nb'
              · rw [upd_ne (ne_of hb10 eD10 (fun q => nomatch q))]
                exact hb10
              · rw [upd_ne (ne_of et10 eD10 (fun q => nomatch q))]
                exact et10
              · have := U.addN_len (acc := F') (x := z)
                omega
              · rw [eF', take_one hz, List.filter_append, List.filter_cons_of_pos (by simpa using hzn), List.filter_nil, List.foldl_append]
                rfl
            · refine ⟨_, F', rfl, s10, s11, hb10, et10, eD10, by omega, ?_⟩
              rw [eF', take_one hz, List.filter_append, List.filter_cons_of_neg (by simpa using hzi), List.filter_nil, List.append_nil]
          · rintro σ H9 ⟨y, F', rfl, s10, s11, hb10, et10, eD10, hF', eF'⟩
            rw [List.length_map] at hF' eF'
            rw [List.take_of_length_le (Nat.le_refl _)] at eF'
            refine ⟨_, y, F', rfl, s10, s11, et10, eD10, by omega, ?_⟩
            rw [eF', eF, take_one erow, List.flatten_append, List.flatten_singleton, List.filter_append, List.foldl_append]
        · rintro σ H8 ⟨x, y, F, rfl, s8, s9, et8, eD8, hF, eF⟩
          rw [List.length_map, all.1, List.take_of_length_le (Nat.le_refl _)] at eF
          refine ⟨_, rfl, d, _, rfl, eD8, fun q hq => ?_⟩
          rw [keys_bl, eF]
          exact k q _ (s8.trans (same_new hq)) upd_same
theorem ok_hasval (T : Txt K mg A) : FnOk P w K mg base CX0 4 A.f_has_value A.d_has_value ["rule", "number"] (spHasVal A) := by
  have G_gives : FnOk P w K mg base CX0 3 A.f_gives A.d_gives ["rule", "number"] (spGives A) := ok_gives T
  have G_needs : FnOk P w K mg base CX0 3 A.f_needs A.d_needs ["rule", "number"] (spNeeds A) := ok_needs T
  refine T.F_has_value.ok sc_has_value (fun vs H Q E h => ?_) (fun cdv ar outer s H vs Q E hr h => ?_)
  · obtain ⟨a, j, r, q, rfl, _⟩ := h
    rfl
  · obtain ⟨a, j, r, q, rfl, hR, hw, hq, hne, k⟩ := h
    have h20 := hw.body.1
    obtain ⟨dx, pt, pb, ps, sv, bs, e, f, g, hb, hs, hc⟩ := id hR
    refine ⟨_, (pss_cons (ps_set (i := 2) sc_has_value.nd rfl (Or.inr rfl) (fldK K (pe_ix (ixT K) (fldK K (pe_ix (ixT K) (fldK K (pv 0) rfl) (pv 1) (fun _ _ => rfl)) rfl) pe_int (fun _ _ => rfl)) rfl))
      (pss_cons (ps_if (pt_cmpR (inSeq K) (pv 2) (pe_call G_needs (hr.mono (by decide)) (by rfl) T.m_needs T.F_needs.kp T.b_needs .nil pass0 (pa_cons (pv 0) (pa_cons (pv 1) pa_nil))) (by rfl))
        (pss_one (ps_ret pe_bl))
        pss_nil)
      (pss_one (ps_ret (pe_callB (anyK K) (by rfl) T.z_any (by decide +kernel) (pa_cons (pe_lc (own := [("other", 3)]) (by rfl) sc_has_value.nd (pi_range1 (by rfl) T.z_range (pa_cons (pe_callB (lenK K) (by rfl) T.z_len (by decide +kernel) (pa_cons (fldK K (pv 0) rfl) pa_nil)) pa_nil)) (blkOk_by (own := [("other", 3)]) (N := N_has_value) (sc := defScope s_has_value) (by decide +kernel)) (fun _ _ _ _ _ => (pg_name (i := 3) sc_has_value.nd rfl (Or.inl rfl))) (fun _ _ _ _ _ => (pts_one (pt_cmpR op_ne (pv 3) (pv 1) (nomark _)))) (fun _ _ _ _ _ => (pe_cmpR (inSeq K) (pv 2) (pe_call G_gives (hr.mono (by decide)) (by rfl) T.m_gives T.F_gives.kp T.b_gives .nil pass0 (pa_cons (pv 0) (pa_cons (pv 3) pa_nil))) (by rfl)))) pa_nil)))))), ?_⟩
    have hj : j < bs.length := by rw [hb.1]; exact (List.getElem?_eq_some_iff.mp hq).1
    have hbj : bs[j]? = some bs[j] := List.getElem?_eq_getElem hj
    obtain ⟨dxb, ptb, pob, gb, ⟨as, eas, fas⟩, _⟩ := hb.2 j _ q hbj hq
    obtain ⟨t0, tr, eq0⟩ : ∃ t0 tr, q.ts = t0 :: tr := by
      cases h0 : q.ts with
      | nil => exact absurd h0 hne
      | cons t0 tr => exact ⟨t0, tr, rfl⟩
    have ef : U.fst (U.pt r j) = tn t0 := by
      rw [pt_at hq]
      unfold U.fst
      rw [eq0]
      rfl
    have ha0 : 0 < as.length := by rw [fas.1, eq0]; exact Nat.succ_pos _
    have hae : as[0]? = some as[0] := List.getElem?_eq_getElem ha0
    obtain ⟨dxt, gt⟩ := fas.2 0 _ t0 hae (by rw [eq0]; rfl)
    refine ⟨_, rfl, a, _, dx, _, _, rfl, e, T.cl_Rule, T.n_Rule_body, rf_body _ _ _ _ _, _, rfl, pb, _, _, _, rfl, rfl, SqT.of g, atI_nat (by rw [List.getElem?_map, hbj]; rfl), ?_⟩
    refine ⟨bs[j], _, dxb, _, _, rfl, gb, T.cl_Literal, T.n_Literal_terms, lf_terms _ _ _ _, ptb, _, _, _, rfl, rfl, SqT.of eas, atI_nat (j := 0) (by rw [List.getElem?_map, hae]; rfl), ?_⟩
    refine ⟨as[0], _, dxt, _, _, rfl, gt, T.cl_Term, T.n_Term_name, tf_name _ _, ?_⟩
    refine ⟨_, rfl, _, rfl, _, rfl, a, j, r, q, rfl, hR, hw, hq, fun t H1 s1 et => ⟨t, _, rfl, .inr (SqT.of et), rfl, flat_str _, _, rfl, ?_⟩⟩
    rw [if_neg (by decide), inV_str]
    refine iteD (fun h1 => ?_) (fun h1 => ?_)
    · have ek : U.hv r j = true := by
        unfold U.hv
        rw [ef, pt_at hq, decide_eq_true h1]
        rfl
      rw [ek] at k
      exact k H1 s1
    · refine ⟨_, rfl, a, _, dx, _, _, rfl, s1 _ _ e, T.cl_Rule, T.n_Rule_body, rf_body _ _ _ _ _, pb, _, rfl, .inr (SqT.of (s1 _ _ g)), ?_⟩
      rw [List.length_map, hb.1]
      refine ⟨((r.body.length : Nat) : Int), rfl, by omega, by omega, fun D hD => ?_⟩
      refine lc_range (n := ((r.body.length : Nat) : Int).toNat) (LcI (fun _ y (k : Nat) => y = .bl (decide (tn t0 ∈ U.gv (U.pt r k)))) (fun k => decide (k ≠ j)) (List.range r.body.length) H1 D) (LcI.start hD) ?_ ?_
      · intro i H5 hi h
        rw [Int.toNat_natCast] at hi
        have hqi : r.body[i]? = some r.body[i] := List.getElem?_eq_getElem hi
        have ei : ((0 : Int) + (i : Int)) = ((i : Nat) : Int) := by omega
        have eri : (List.range r.body.length)[i]? = some i := List.getElem?_range hi
        refine ⟨rfl, _, rfl, _, rfl, rfl, _, rfl, ?_⟩
        rw [dec_int, ei]
        refine iteND (fun hn => ?_) (fun he => ?_)
        · refine ⟨_, rfl, _, rfl, _, rfl, a, i, r, _, by first | rfl | (rw [ei]; rfl), (hR.up s1).up h.1, hw, hqi, fun u H6 s6 eu => ⟨u, _, rfl, .inr (SqT.of eu), rfl, flat_str _, ?_⟩⟩
          rw [if_neg (by decide), inV_str]
          refine h.yes (stab_val _) hD (by rw [List.length_range]; omega) eri (by simpa using fun z : i = j => hn (by rw [z])) s6 ?_
          rw [pt_at hqi]
        · exact h.no (stab_val _) eri (by simpa using (by omega : i = j)) (fun _ _ e => e)
      · intro H5 h
        obtain ⟨ys, s5, eD5, hv⟩ := h.fin (by rw [Int.toNat_natCast, List.length_range]; exact Nat.le_refl _)
        have ey := VAll.eq (f := fun k : Nat => V.bl (decide (tn t0 ∈ U.gv (U.pt r k)))) hv
        subst ey
        refine ⟨D, ((List.range r.body.length).filter fun k => decide (k ≠ j)).map fun k => decide (tn t0 ∈ U.gv (U.pt r k)), rfl, SqL.of (by rw [eD5, List.map_map]; rfl), ?_⟩
        have e0 : ((((List.range r.body.length).filter fun k => decide (k ≠ j)).map fun k => decide (tn t0 ∈ U.gv (U.pt r k))).any id) = U.hv r j := by
          unfold U.hv
          rw [ef, pt_at hq, decide_eq_false h1, Bool.false_or, List.any_map]
          rfl
        rw [e0]
        exact k H5 (s1.trans s5)
theorem ok_twice (T : Txt K mg A) : FnOk P w K mg base CX0 5 A.f_reckoned_twice A.d_reckoned_twice ["rule"] (spTwice A) := by
  have G_has_value : FnOk P w K mg base CX0 4 A.f_has_value A.d_has_value ["rule", "number"] (spHasVal A) := ok_hasval T
  refine T.F_reckoned_twice.ok sc_reckoned_twice (fun vs H Q E h => ?_) (fun cdv ar outer s H vs Q E hr h => ?_)
  · obtain ⟨a, r, rfl, _⟩ := h
    rfl
  · obtain ⟨a, r, rfl, hR, hw, hlet, k⟩ := h
    have h20 := hw.body.1
    obtain ⟨dx, pt, pb, ps, sv, bs, e, f, g, hb, hs, hc⟩ := id hR
    refine ⟨_, (pss_one (ps_ret (pe_callB (anyK K) (by rfl) T.z_any (by decide +kernel) (pa_cons (pe_lc (own := [("number", 1), ("part", 2)]) (by rfl) sc_reckoned_twice.nd (enumTK K (by rfl) T.z_enumerate (pa_cons (fldK K (pv 0) rfl) pa_nil)) (blkOk_by (own := [("number", 1), ("part", 2)]) (N := N_reckoned_twice) (sc := defScope s_reckoned_twice) (by decide +kernel)) (fun _ _ _ _ _ => (tupK K (n := 2) rfl (pgs_cons (pg_name (i := 1) sc_reckoned_twice.nd rfl (Or.inl rfl)) (pgs_cons (pg_name (i := 2) sc_reckoned_twice.nd rfl (Or.inl rfl)) pgs_nil)))) (fun _ _ _ _ _ => pts_nil) (fun _ _ _ _ _ => (pe_and (pe_cmpR op_eq (fldK K (pv 2) rfl) pe_str (nomark _)) (pe_one (pe_call G_has_value (hr.mono (by decide)) (by rfl) T.m_has_value T.F_has_value.kp T.b_has_value .nil pass0 (pa_cons (pv 0) (pa_cons (pv 1) pa_nil))))))) pa_nil)))), ?_⟩
    refine ⟨_, rfl, a, _, dx, _, _, rfl, e, T.cl_Rule, T.n_Rule_body, rf_body _ _ _ _ _, pb, _, rfl, SqT.of g, fun D hD => ?_⟩
    refine lc_enumT (K := K) (a := pb) (xs := bs.map V.ref) (LcI (fun _ y (j : Nat) => y = .bl (decide ((U.pt r j).kind = "let") && U.hv r j)) (fun _ => true) (List.range r.body.length) H D) (LcI.start hD) (fun i H' _ h => SqT.of (h.1 _ _ g)) ?_ ?_
    · intro i x t1 H5 hx h ht1
      obtain ⟨b, q, rfl, eb, hq, hbq⟩ := hb.at hx
      have hi : i < r.body.length := (List.getElem?_eq_some_iff.mp hq).1
      have s6 : Same H5 (upd H5 t1 (.tup [.int (i : Nat), .ref b])) := same_new ht1
      have eri : (List.range r.body.length)[i]? = some i := List.getElem?_range hi
      obtain ⟨dxb, ptb, pob, gb, _, _⟩ := (hbq.up h.1).up s6
      refine ⟨t1, _, rfl, SqT.of upd_same, rfl, _, _, rfl, _, _, rfl, rfl, rfl, ?_⟩
      refine ⟨_, rfl, b, _, dxb, _, _, rfl, gb, T.cl_Literal, T.n_Literal_kind, lf_kind _ _ _ _, rfl, _, rfl, ?_⟩
      rw [dec_str]
      refine iteD (fun hk => ?_) (fun hk => ?_)
      · refine ⟨_, rfl, _, rfl, a, i, r, q, rfl, (hR.up h.1).up s6, hw, hq, hlet q (List.mem_of_getElem? hq) hk, fun H7 s7 => ?_⟩
        refine h.yes (stab_val _) hD (by rw [List.length_range]; omega) eri rfl (s6.trans s7) ?_
        rw [pt_at hq, decide_eq_true hk, Bool.true_and]
      · refine h.yes (stab_val _) hD (by rw [List.length_range]; omega) eri rfl s6 ?_
        rw [pt_at hq, decide_eq_false hk, Bool.false_and]
    · intro H5 h
      obtain ⟨ys, s5, eD5, hv⟩ := h.fin (by rw [List.length_map, hb.1, List.length_range]; exact Nat.le_refl _)
      rw [filter_tt] at hv
      have ey := VAll.eq (f := fun j : Nat => V.bl (decide ((U.pt r j).kind = "let") && U.hv r j)) hv
      subst ey
      refine ⟨D, (List.range r.body.length).map fun j => decide ((U.pt r j).kind = "let") && U.hv r j, rfl, SqL.of (by rw [eD5, List.map_map]; rfl), ?_⟩
      have e0 : (((List.range r.body.length).map fun j => decide ((U.pt r j).kind = "let") && U.hv r j).any id) = U.rt r := by
        rw [List.any_map]
        rfl
      rw [e0]
      exact k H5 s5
end
end Toy

set_option Elab.async false
set_option maxRecDepth 100000
set_option maxHeartbeats 4000000
namespace Toy
open PySem L2
open U (Tm Pt RR tn nms vars addN dd rows cnt)
theorem len_app (a b : Str) : (a ++ b).length = a.length + b.length := by
  show (a.cps ++ b.cps).size = a.cps.size + b.cps.size
  exact Array.size_append
theorem one_sign {z : Str} (h : z.length = 1) : ∃ c, z = ⟨#[c]⟩ := by
  obtain ⟨cps⟩ := z
  have h : cps.size = 1 := h
  exact ⟨cps[0], congrArg Str.mk (Array.ext (by simpa using h) fun i h1 h2 => by
    have : i = 0 := by omega
    subst this
    rfl)⟩
/-- a comprehension over a text -/
theorem lc_str {x : Str} {g : TG} {tt : TT} {te : TE} {vs : List Nat} {σ : L2.St} {H1 : Hp} {D : Addr} {Qd : Hp → Prop} (Pv : Nat → Hp → Prop) (h0 : Pv 0 (upd H1 D (.lst [])))
    (hs : ∀ i c H, x.cps.toList[i]? = some c → Pv i H → g (.str ⟨#[c]⟩) (wipe σ vs) H fun σ2 H2 => wipe σ2 vs = wipe σ vs ∧ tt σ2 H2 fun b H3 =>
      if b = true then te σ2 H3 fun y H4 => ∃ acc, H4 D = some (.lst acc) ∧ acc.length < sizeLine ∧ Pv (i + 1) (upd H4 D (.lst (acc ++ [y]))) else Pv (i + 1) H3) (hd : ∀ H, Pv x.cps.toList.length H → Qd H) :
    ∃ W : Nat → Nat → Hp → Prop, (∃ m, W 0 m (upd H1 D (.lst []))) ∧ ∀ i m H, W i m H →
      ((Its x).stop i H ∧ Qd H) ∨ ((Its x).go i H ∧ ∃ Nx : Hp → Prop, (∀ H', Nx H' → ∃ m', m' < m ∧ W (i + 1) m' H') ∧ ∀ v H', (Its x).yld i H v H' → g v (wipe σ vs) H' fun σ2 H2 => wipe σ2 vs = wipe σ vs ∧ tt σ2 H2 fun b H3 =>
        if b = true then te σ2 H3 fun y H4 => ∃ acc, H4 D = some (.lst acc) ∧ acc.length < sizeLine ∧ Nx (upd H4 D (.lst (acc ++ [y]))) else Nx H3) := by
  have el : x.cps.toList.length = x.cps.size := by simp
  refine ⟨fun i m H => m = x.cps.size - i ∧ i ≤ x.cps.size ∧ Pv i H, ⟨x.cps.size, by simp, Nat.zero_le _, h0⟩, ?_⟩
  rintro i m H ⟨rfl, hi, p⟩
  by_cases hlt : i < x.cps.size
  · refine .inr ⟨hlt, Pv (i + 1), fun H' p' => ⟨x.cps.size - (i + 1), by omega, rfl, hlt, p'⟩, fun v H' y => ?_⟩
    obtain ⟨rfl, c, hc, rfl⟩ := y
    exact hs i c H' (by rw [Array.getElem?_toList]; exact hc) p
  · have e : i = x.cps.size := by omega
    subst e
    exact .inl ⟨Nat.le_refl _, hd H (by rw [el]; exact p)⟩
def spSmall : Sp := fun vs H Q _ => ∃ z : Str, vs = [.str z] ∧ z.length ≤ 1000 ∧ Q (.bl (U.sml z)) H
def spInner : Sp := fun vs H Q _ => ∃ z : Str, vs = [.str z] ∧ z.length ≤ 1000 ∧ Q (.bl (U.inn z)) H
def spIsName : Sp := fun vs H Q _ => ∃ z : Str, vs = [.str z] ∧ z.length ≤ 900 ∧ ∀ H', Same H H' → Q (.bl (U.isN z)) H'
def MOSTi : Int := 999999999999999999
def spBounded : Sp := fun vs H Q _ => ∃ i : Int, vs = [.int i] ∧ Q (if (decide (-999999999999999999 ≤ i) && decide (i ≤ 999999999999999999)) = true then .int i else .non) H
def spTooLong (A : Ad) : Sp := fun vs H Q _ => ∃ (a : Addr) (t : Tm), vs = [.ref a] ∧ TO A.C_Term H a t ∧ okT t = true ∧ Q (.bl (U.tlong t)) H
def spAllT (A : Ad) : Sp := fun vs H Q _ => ∃ (a : Addr) (r : RR), vs = [.ref a] ∧ RuleAt A H a r ∧ Wf r ∧ ∀ l H', Same H H' → LTms A.C_Term H' l (U.allT r) → Q (.ref l) H'
def spIsFact (A : Ad) : Sp := fun vs H Q _ => ∃ (a : Addr) (r : RR), vs = [.ref a] ∧ RuleAt A H a r ∧ Wf r ∧ ∀ H', Same H H' → Q (.bl (U.isF r)) H'
theorem sml_one (c : Nat) : U.sml ⟨#[c]⟩ = decide (c ∈ U.smallS.cps.toList) := rfl
theorem inn_one (c : Nat) : U.inn ⟨#[c]⟩ = decide (c ∈ U.innerS.cps.toList) := rfl
theorem sml_no {z : Str} (h : z.length ≠ 1) : U.sml z = false := by
  unfold U.sml
  split
  · rename_i c e
    exfalso
    apply h
    show z.cps.size = 1
    rw [← Array.length_toList, e]
    rfl
  · rfl
theorem inn_no {z : Str} (h : z.length ≠ 1) : U.inn z = false := by
  unfold U.inn
  split
  · rename_i c e
    exfalso
    apply h
    show z.cps.size = 1
    rw [← Array.length_toList, e]
    rfl
  · rfl
section
variable {P : Program} {w : World} {K : PySem.W.Frag} {mg : Str → Option Value} {base : Heap} {A : Ad}
theorem ok_small (T : Txt K mg A) : FnOk P w K mg base CX0 1 A.f_is_small A.d_is_small ["sign"] spSmall := by
  refine T.F_is_small.ok sc_is_small (fun vs H Q E h => ?_) (fun cdv ar outer s H vs Q E hr h => ?_)
  · obtain ⟨z, rfl, _⟩ := h
    rfl
  · obtain ⟨z, rfl, hz, k⟩ := h
    refine ⟨_, (pss_one (ps_ret (pe_and (pe_cmpR op_eq (pe_callB call_len_str (by rfl) T.z_len (by decide +kernel) (pa_cons (pv 0) pa_nil)) pe_int (nomark _)) (pe_one (pe_cmpR op_in_sign (pv 0) (pe_glob (v := .str "abcdefghijklmnopqrstuvwxyz") rfl T.g_SMALL ⟨_, rfl⟩) (by rfl)))))), ?_⟩
    refine ⟨_, rfl, _, rfl, sz' hz, rfl, _, rfl, ?_⟩
    rw [dec_int]
    refine iteD (fun h1 => ?_) (fun h1 => ?_)
    · obtain ⟨c, rfl⟩ := one_sign (show z.length = 1 by omega)
      exact ⟨_, rfl, c, _, rfl, rfl, k⟩
    · rw [sml_no (by omega)] at k
      exact k
theorem ok_inner (T : Txt K mg A) : FnOk P w K mg base CX0 1 A.f_is_inner A.d_is_inner ["sign"] spInner := by
  refine T.F_is_inner.ok sc_is_inner (fun vs H Q E h => ?_) (fun cdv ar outer s H vs Q E hr h => ?_)
  · obtain ⟨z, rfl, _⟩ := h
    rfl
  · obtain ⟨z, rfl, hz, k⟩ := h
    refine ⟨_, (pss_one (ps_ret (pe_and (pe_cmpR op_eq (pe_callB call_len_str (by rfl) T.z_len (by decide +kernel) (pa_cons (pv 0) pa_nil)) pe_int (nomark _)) (pe_one (pe_cmpR op_in_sign (pv 0) (pe_glob (v := .str "abcdefghijklmnopqrstuvwxyzABCDEFGHIJKLMNOPQRSTUVWXYZ0123456789_") rfl T.g_INNER ⟨_, rfl⟩) (by rfl)))))), ?_⟩
    refine ⟨_, rfl, _, rfl, sz' hz, rfl, _, rfl, ?_⟩
    rw [dec_int]
    refine iteD (fun h1 => ?_) (fun h1 => ?_)
    · obtain ⟨c, rfl⟩ := one_sign (show z.length = 1 by omega)
      exact ⟨_, rfl, c, _, rfl, rfl, k⟩
    · rw [inn_no (by omega)] at k
      exact k
theorem ok_isname (T : Txt K mg A) : FnOk P w K mg base CX0 2 A.f_is_name A.d_is_name ["name"] spIsName := by
  have G_is_small : FnOk P w K mg base CX0 1 A.f_is_small A.d_is_small ["sign"] spSmall := ok_small T
  have G_is_inner : FnOk P w K mg base CX0 1 A.f_is_inner A.d_is_inner ["sign"] spInner := ok_inner T
  refine T.F_is_name.ok sc_is_name (fun vs H Q E h => ?_) (fun cdv ar outer s H vs Q E hr h => ?_)
  · obtain ⟨z, rfl, _⟩ := h
    rfl
  · obtain ⟨z, rfl, hz, k⟩ := h
    refine ⟨_, (pss_one (ps_ret (pe_and (pe_call G_is_small (hr.mono (by decide)) (by rfl) T.m_is_small T.F_is_small.kp T.b_is_small .nil pass0 (pa_cons (pe_slice sl_str (pv 0) po_none (po_some pe_int)) pa_nil)) (pe_and (pe_cmpR op_ne (pv 0) pe_str (nomark _)) (pe_one (pe_callB (allK K) (by rfl) T.z_all (by decide +kernel) (pa_cons (pe_lc (own := [("sign", 1)]) (by rfl) sc_is_name.nd (pi_str (pv 0)) (blkOk_by (own := [("sign", 1)]) (N := N_is_name) (sc := defScope s_is_name) (by decide +kernel)) (fun _ _ _ _ _ => (pg_name (i := 1) sc_is_name.nd rfl (Or.inl rfl))) (fun _ _ _ _ _ => pts_nil) (fun _ _ _ _ _ => (pe_call G_is_inner (hr.mono (by decide)) (by rfl) T.m_is_inner T.F_is_inner.kp T.b_is_inner .nil pass0 (pa_cons (pv 1) pa_nil)))) pa_nil))))))), ?_⟩
    have hcut : (cutS z none (some 1)).length ≤ 1000 := by
      show (List.toArray _).size ≤ 1000
      rw [List.size_toArray, List.length_take, List.length_drop, Array.length_toList]
      have : z.cps.size ≤ 900 := hz
      omega
    refine ⟨_, rfl, _, rfl, z, rfl, sz' (by omega), _, rfl, hcut, _, rfl, ?_⟩
    refine iteB (fun h1 => ?_) (fun h1 => ?_)
    · refine ⟨_, rfl, rfl, _, rfl, ?_⟩
      rw [dec_str]
      refine iteND (fun h2 => ?_) (fun h2 => ?_)
      · refine ⟨_, rfl, z, rfl, fun D hD => ?_⟩
        refine lc_str (x := z) (LcI (fun _ y (c : Nat) => y = .bl (U.inn ⟨#[c]⟩)) (fun _ => true) z.cps.toList H D) (LcI.start hD) ?_ ?_
        · intro i c H' hc h
          refine ⟨rfl, _, rfl, _, rfl, (by show 1 ≤ 1000; decide), ?_⟩
          refine h.yes (stab_val _) hD ?_ hc rfl (fun _ _ e => e) rfl
          rw [Array.length_toList]
          have : z.cps.size ≤ 900 := hz
          omega
        · intro H' h
          obtain ⟨ys, s5, eD5, hv⟩ := h.fin (Nat.le_refl _)
          rw [filter_tt] at hv
          have ey := VAll.eq (f := fun c : Nat => V.bl (U.inn ⟨#[c]⟩)) hv
          subst ey
          refine ⟨D, z.cps.toList.map fun c => U.inn ⟨#[c]⟩, rfl, SqL.of (by rw [eD5, List.map_map]; rfl), ?_⟩
          have e0 : ((z.cps.toList.map fun c => U.inn ⟨#[c]⟩).all id) = U.isN z := by
            unfold U.isN
            rw [h1, decide_eq_false h2, List.all_map]
            rfl
          rw [e0]
          exact k H' s5
      · have e0 : U.isN z = false := by
          unfold U.isN
          rw [decide_eq_true h2, Bool.not_true, Bool.false_and, Bool.and_false]
        rw [e0] at k
        exact k H (fun _ _ e => e)
    · have e0 : U.isN z = false := by
        unfold U.isN
        rw [h1, Bool.false_and]
      rw [e0] at k
      exact k H (fun _ _ e => e)
theorem ok_bounded (T : Txt K mg A) : FnOk P w K mg base CX0 1 A.f_bounded A.d_bounded ["number"] spBounded := by
  refine T.F_bounded.ok sc_bounded (fun vs H Q E h => ?_) (fun cdv ar outer s H vs Q E hr h => ?_)
  · obtain ⟨i, rfl, _⟩ := h
    rfl
  · obtain ⟨i, rfl, k⟩ := h
    refine ⟨_, (pss_one (ps_ret (pe_ifExp (pt_chain op_le op_le (pe_un un_neg (pe_glob (v := .int 999999999999999999) rfl T.g_MOST ⟨_, rfl⟩)) (pv 0) (pe_glob (v := .int 999999999999999999) rfl T.g_MOST ⟨_, rfl⟩)) (pv 0) pe_non))), ?_⟩
    refine ⟨_, rfl, _, rfl, _, _, rfl, rfl, _, rfl, ?_⟩
    refine iteD (fun h1 => ?_) (fun h1 => ?_)
    · refine ⟨_, _, rfl, rfl, _, rfl, ?_⟩
      refine iteD (fun h2 => ?_) (fun h2 => ?_)
      · rw [decide_eq_true (show -999999999999999999 ≤ i from h1), decide_eq_true h2] at k
        exact ⟨_, rfl, k⟩
      · rw [decide_eq_false h2, Bool.and_false] at k
        exact k
    · rw [decide_eq_false (show ¬ -999999999999999999 ≤ i from h1), Bool.false_and] at k
      exact ⟨_, rfl, iteF k⟩
theorem ok_toolong (T : Txt K mg A) : FnOk P w K mg base CX0 2 A.f_too_long A.d_too_long ["term"] (spTooLong A) := by
  have G_Term_is_variable : FnOk P w K mg base CX0 1 A.f_Term_is_variable A.d_Term_is_variable ["self"] (spIsVar A.C_Term) := ok_is_variable T
  have G_is_number : FnOk P w K mg base CX0 1 A.f_is_number A.d_is_number ["value"] spIsNum := ok_isnum T
  have G_bounded : FnOk P w K mg base CX0 1 A.f_bounded A.d_bounded ["number"] spBounded := ok_bounded T
  refine T.F_too_long.ok sc_too_long (fun vs H Q E h => ?_) (fun cdv ar outer s H vs Q E hr h => ?_)
  · obtain ⟨a, t, rfl, _⟩ := h
    rfl
  · obtain ⟨a, t, rfl, ha, ht, k⟩ := h
    obtain ⟨dx, g⟩ := id ha
    refine ⟨_, (pss_one (ps_ret (pe_and (pe_not (pe_meth0 (pv 0) T.cl_Term T.e_Term_is_variable G_Term_is_variable (hr.mono (by decide)) T.b_Term_is_variable .nil pass0)) (pe_and (pe_call G_is_number (hr.mono (by decide)) (by rfl) T.m_is_number T.F_is_number.kp T.b_is_number .nil pass0 (pa_cons (fldK K (pv 0) rfl) pa_nil)) (pe_one (pe_cmpR op_isN (pe_call G_bounded (hr.mono (by decide)) (by rfl) T.m_bounded T.F_bounded.kp T.b_bounded .nil pass0 (pa_cons (fldK K (pv 0) rfl) pa_nil)) pe_non (nomark _))))))), ?_⟩
    refine ⟨_, rfl, a, dx, _, rfl, g, no_isv _ _, a, _, _, rfl, ha, ?_⟩
    rw [isVar_tn ht]
    cases t with
    | inl s => exact ⟨_, rfl, _, rfl, iteF k⟩
    | inr i =>
      refine ⟨_, rfl, _, rfl, iteT ⟨_, rfl, a, _, dx, _, _, rfl, g, T.cl_Term, T.n_Term_value, tf_value _ _, _, rfl, .inr (.inl ⟨i, rfl, _, rfl, iteT ?_⟩)⟩⟩
      refine ⟨_, rfl, a, _, dx, _, _, rfl, g, T.cl_Term, T.n_Term_value, tf_value _ _, i, rfl, rfl, ?_⟩
      have e0 : decide ((if (decide (-999999999999999999 ≤ i) && decide (i ≤ 999999999999999999)) = true then V.int i else V.non) = V.non) = U.tlong (.inr i) := by
        show _ = !(decide (-999999999999999999 ≤ i) && decide (i ≤ 999999999999999999))
        cases hb : (decide (-999999999999999999 ≤ i) && decide (i ≤ 999999999999999999)) with
        | true => rfl
        | false => rfl
      rw [e0]
      exact k
theorem ok_allT (T : Txt K mg A) : FnOk P w K mg base CX0 1 A.f_all_terms A.d_all_terms ["rule"] (spAllT A) := by
  refine T.F_all_terms.ok sc_all_terms (fun vs H Q E h => ?_) (fun cdv ar outer s H vs Q E hr h => ?_)
  · obtain ⟨a, r, rfl, _⟩ := h
    rfl
  · obtain ⟨a, r, rfl, hR, hw, k⟩ := h
    have h20 := hw.body.1
    obtain ⟨dx, pt, pb, ps, sv, bs, e, ⟨as, eas, fas⟩, g, hb, hs, hc⟩ := id hR
    refine ⟨_, (pss_cons (ps_set (i := 1) sc_all_terms.nd rfl (Or.inl rfl) (pe_callTy (listOf K) (by rfl) T.z_list (by decide +kernel) (pa_cons (fldK K (pv 0) rfl) pa_nil)))
      (pss_cons (ps_for PassesOwn.never rfl (tupIK K (fldK K (pv 0) rfl)) (pg_name (i := 2) sc_all_terms.nd rfl (Or.inl rfl))
        (pss_one (ps_expr (extK K (pv 1) (pa_cons (fldK K (pv 2) rfl) pa_nil)))))
      (pss_one (ps_ret (pv 1))))), ?_⟩
    refine ⟨_, rfl, a, _, dx, _, _, rfl, e, T.cl_Rule, T.n_Rule_terms, rf_terms _ _ _ _ _, pt, _, rfl, .inr (SqT.of eas), fun l hl => ?_⟩
    have s1 : Same H (upd H l (.lst (as.map V.ref))) := same_new hl
    refine ⟨_, rfl, a, _, dx, _, _, rfl, s1 _ _ e, T.cl_Rule, T.n_Rule_body, rf_body _ _ _ _ _, pb, rfl, ⟨_, SqT.of (s1 _ _ g)⟩, ?_⟩
    refine for_tup (K := K) (a := pb) (xs := bs.map V.ref) (fun i σ H' => ∃ x cs, σ = [some (.ref a), some (.ref l), x] ∧ Same H H' ∧ H' l = some (.lst (cs.map V.ref)) ∧ All2 (TO A.C_Term H') cs (r.ts ++ (r.body.take i).flatMap fun q => q.ts))
      ⟨none, as, rfl, s1, upd_same, by rw [List.take_zero, List.flatMap_nil, List.append_nil]; exact fas.imp fun a t h => TmAt.up h s1⟩ (fun i σ H' _ ⟨x, cs, _, s, _⟩ => SqT.of (s _ _ g)) ?_ ?_
    · rintro i v σ H' hv ⟨x, cs, rfl, s2, el, hcs⟩
      obtain ⟨b, q, rfl, eb, eq, hbq⟩ := hb.at hv
      obtain ⟨dxb, ptb, pob, gb, ⟨as2, eas2, fas2⟩, _⟩ := hbq.up s2
      have hi : i < r.body.length := (List.getElem?_eq_some_iff.mp eq).1
      have l1 := hw.ts.1
      have l2 := flat_le (f := fun q : Pt => q.ts) (m := 20) (l := r.body.take i) fun q hq => (hw.body.2 q (List.mem_of_mem_take hq)).1.1
      rw [List.length_take] at l2
      have l3 := (hw.body.2 q (List.mem_of_getElem? eq)).1.1
      refine ⟨_, rfl, .inl ⟨rfl, _, SqL.of el⟩, _, rfl, b, _, dxb, _, _, rfl, gb, T.cl_Literal, T.n_Literal_terms, lf_terms _ _ _ _, l, ptb, _, _, rfl, rfl, el, SqT.of eas2, ?_, ?_⟩
      · rw [List.length_map, List.length_map, hcs.1, fas2.1, List.length_append]
        exact sz' (by omega)
      · refine ⟨_, cs ++ as2, rfl, same_mut s2 hl, by rw [upd_same, List.map_append], ?_⟩
        rw [take_one eq, List.flatMap_append, List.flatMap_cons, List.flatMap_nil, List.append_nil, ← List.append_assoc]
        exact (hcs.app fas2).imp fun a t h => TmAt.wr h el (fun _ _ _ q => nomatch q)
    · rintro σ H' ⟨x, cs, rfl, s2, el, hcs⟩
      rw [List.length_map, hb.1, List.take_of_length_le (Nat.le_refl _)] at hcs
      exact ⟨_, rfl, k l H' s2 ⟨cs, el, hcs⟩⟩
theorem ok_isfact (T : Txt K mg A) : FnOk P w K mg base CX0 3 A.f_is_fact A.d_is_fact ["rule"] (spIsFact A) := by
  have G_names_in : FnOk P w K mg base CX0 2 A.f_names_in A.d_names_in ["terms"] (spNamesIn A.C_Term) := ok_names_in T
  refine T.F_is_fact.ok sc_is_fact (fun vs H Q E h => ?_) (fun cdv ar outer s H vs Q E hr h => ?_)
  · obtain ⟨a, r, rfl, _⟩ := h
    rfl
  · obtain ⟨a, r, rfl, hR, hw, k⟩ := h
    obtain ⟨dx, pt, pb, ps, sv, bs, e, f, g, hb, hs, hc⟩ := id hR
    refine ⟨_, (pss_one (ps_ret (pe_and (pe_cmpR (eqT0 K hr.units0) (fldK K (pv 0) rfl) (pe_tup pa_nil) (nomark _)) (pe_one (pe_cmpR (eqT0 K hr.units0) (pe_call G_names_in (hr.mono (by decide)) (by rfl) T.m_names_in T.F_names_in.kp T.b_names_in .nil pass0 (pa_cons (fldK K (pv 0) rfl) pa_nil)) (pe_tup pa_nil) (nomark _)))))), ?_⟩
    refine ⟨_, rfl, a, _, dx, _, _, rfl, e, T.cl_Rule, T.n_Rule_body, rf_body _ _ _ _ _, Nat.zero_le _, fun m hm => ?_⟩
    have s1 : Same H (upd H m (.tup [])) := same_new hm
    refine ⟨pb, m, _, rfl, rfl, SqT.of (s1 _ _ g), SqT.of upd_same, _, rfl, ?_⟩
    rw [List.length_map, hb.1]
    refine iteD (fun h1 => ?_) (fun h1 => ?_)
    · refine ⟨_, rfl, a, _, dx, _, _, rfl, s1 _ _ e, T.cl_Rule, T.n_Rule_terms, rf_terms _ _ _ _ _, pt, r.ts, rfl, f.up s1, hw.ts, fun t H2 s2 et => ⟨Nat.zero_le _, fun m2 hm2 => ?_⟩⟩
      refine ⟨t, m2, _, rfl, rfl, SqT.of (same_new hm2 _ _ et), SqT.of upd_same, ?_⟩
      rw [List.length_map]
      have e0 : decide ((nms r.ts).length = 0) = U.isF r := by
        unfold U.isF
        rw [decide_eq_true h1, Bool.true_and]
      rw [e0]
      exact k _ ((s1.trans s2).trans (same_new hm2))
    · have e0 : U.isF r = false := by
        unfold U.isF
        rw [decide_eq_false h1, Bool.false_and]
      rw [e0] at k
      exact k _ s1
end
end Toy

set_option Elab.async false
set_option maxRecDepth 100000
set_option maxHeartbeats 4000000
namespace Toy
open PySem L2
open U (Tm Pt RR tn nms vars addN dd rows cnt)
/-! ### what is shown -/
def ShP (H : Hp) (a : Addr) (q : Pt) : Prop := ∃ (t : Addr) (bs : List Addr), H a = some (.tup [.str q.kind, .str q.name, .ref t]) ∧ H t = some (.tup (bs.map V.ref)) ∧ All2 (ShAt H) bs q.ts
theorem ShP.up {H H' : Hp} {a : Addr} {q : Pt} (h : ShP H a q) (s : Same H H') : ShP H' a q := by
  obtain ⟨t, bs, e, f, g⟩ := h
  exact ⟨t, bs, s _ _ e, s _ _ f, g.imp fun a t h => s _ _ h⟩
theorem ShP.wr {H : Hp} {a l : Addr} {q : Pt} {xs : List V} {o : HO} (h : ShP H a q) (hl : H l = some (.lst xs)) : ShP (upd H l o) a q := by
  obtain ⟨t, bs, e, f, g⟩ := h
  exact ⟨t, bs, by rw [upd_ne (ne_of e hl (fun q => nomatch q))]; exact e, by rw [upd_ne (ne_of f hl (fun q => nomatch q))]; exact f, g.imp fun a t h => by
    show upd _ _ _ _ = _
    rw [upd_ne (ne_of h hl (fun q => nomatch q))]
    exact h⟩
def ShR (H : Hp) (a : Addr) (r : RR) : Prop := ∃ (t1 t2 : Addr) (bs cs : List Addr), H a = some (.tup [.str r.name, .ref t1, .non, .ref t2]) ∧ H t1 = some (.tup (bs.map V.ref)) ∧ All2 (ShAt H) bs r.ts ∧ H t2 = some (.tup (cs.map V.ref)) ∧ All2 (ShP H) cs r.body
def dP (q : Pt) : PyData := .tuple [.str q.kind, .str q.name, .tuple (q.ts.map dT)]
def dR (r : RR) : PyData := .tuple [.str r.name, .tuple (r.ts.map dT), .none, .tuple (r.body.map dP)]
theorem dp_all {K : PySem.W.Frag} {H : Hp} {α : Type} {S : Addr → α → Prop} {f : α → PyData} (hf : ∀ a t, S a t → Dp K H (.ref a) (f t)) : ∀ {bs : List Addr} {ts : List α}, All2 S bs ts → DpAll K H (bs.map V.ref) (ts.map f)
  | [], [], _ => .nil
  | b :: bs, t :: ts, h => by
    obtain ⟨r, h⟩ := h.tail
    exact .cons (hf _ _ r) (dp_all hf h)
  | [], _ :: _, g => nomatch g.1
  | _ :: _, [], g => nomatch g.1
theorem dp_P {K : PySem.W.Frag} {H : Hp} {a : Addr} {q : Pt} (h : ShP H a q) : Dp K H (.ref a) (dP q) := by
  obtain ⟨t, bs, e, f, g⟩ := h
  exact .tup (SqT.of e) (.cons (.str _) (.cons (.str _) (.cons (.tup (SqT.of f) (dp_all (fun a t h => dp_T h) g)) .nil)))
theorem dp_R {K : PySem.W.Frag} {H : Hp} {a : Addr} {r : RR} (h : ShR H a r) : Dp K H (.ref a) (dR r) := by
  obtain ⟨t1, t2, bs, cs, e, f, g, f2, g2⟩ := h
  exact .tup (SqT.of e) (.cons (.str _) (.cons (.tup (SqT.of f) (dp_all (fun a t h => dp_T h) g)) (.cons .non (.cons (.tup (SqT.of f2) (dp_all (fun a t h => dp_P h) g2)) .nil))))
def spLitShown (A : Ad) : Sp := fun vs H Q _ => ∃ (a : Addr) (q : Pt), vs = [.ref a] ∧ LitAt A H a q ∧ WfT q.ts ∧ ∀ p H', Same H H' → ShP H' p q → Q (.ref p) H'
def spRuleShown (A : Ad) : Sp := fun vs H Q _ => ∃ (a : Addr) (r : RR), vs = [.ref a] ∧ RuleAt A H a r ∧ Wf r ∧ r.sm = false ∧ ∀ p H', Same H H' → ShR H' p r → Q (.ref p) H'
theorem cat3 {K : PySem.W.Frag} {H : Hp} {a b : Addr} {xs ys : List V} {Q : VK} (ha : H a = some (.tup xs)) (hb : H b = some (.tup ys)) (hz : xs.length + ys.length ≤ sizeLine) (k : ∀ p H', Same H H' → H' p = some (.tup (xs ++ ys)) → Q (.ref p) H') :
    rCatA K (.ref a) (.ref b) H Q := by
  refine ⟨a, b, xs, ys, rfl, rfl, SqT.of ha, SqT.of hb, hz, fun e => ?_, fun _ e => ?_, fun _ _ p hp => k p _ (same_new hp) upd_same⟩
  · exact k b H (fun _ _ e => e) (by rw [e]; exact hb)
  · exact k a H (fun _ _ e => e) (by rw [e, List.append_nil]; exact ha)
def spCheck (A : Ad) : Sp := fun vs H Q E => ∃ (a : Addr) (r : RR), vs = [.ref a] ∧ RuleAt A H a r ∧ Wf r ∧ LetOk r ∧ (U.chk r = .ok → ∀ H', Same H H' → Q (.ref a) H') ∧ (U.chk r = .rule → ∀ H', Same H H' → E (.ref A.C_BadRule) none H') ∧ (U.chk r = .size → ∀ H', Same H H' → E (.ref A.C_BadSize) none H')
def spRow (A : Ad) : Sp := fun vs H Q E => ∃ (a : Addr) (r : RR), vs = [.ref a] ∧ RuleAt A H a r ∧ Wf r ∧ (U.isF r = true → ∀ t H', Same H H' → H' t = some (.tup (r.ts.map tval)) → Q (.ref t) H') ∧ (U.isF r = false → ∀ H', Same H H' → E (.ref A.C_BadRule) none H')
theorem len2 {p z : Str} {a b : Nat} (hp : p.length ≤ a) (hz : z.length ≤ b) (h : a + b ≤ 5000) : (p ++ z).length ≤ sizeLine := by
  rw [len_app, sizeLine_eq]
  omega
theorem strOk_all {l : List Str} (h : ∀ x ∈ l, PyData.strOk x = true) : SeqAt.shaped (.tuple (l.map PyData.str)) = true := by
  have h1 : PyData.canLayAll0 (l.map PyData.str) = true := by
    induction l with
    | nil => rfl
    | cons x l ih =>
      show (PyData.canLay0 (.str x) && PyData.canLayAll0 (l.map PyData.str)) = true
      rw [ih fun y hy => h y (List.mem_cons_of_mem _ hy), Bool.and_true]
      exact h x List.mem_cons_self
  have h2 : PyData.depthAll (l.map PyData.str) = 0 := PyProof.Rows.depthAll_strs' l
  unfold SeqAt.shaped
  rw [Bool.and_eq_true]
  refine ⟨h1, decide_eq_true ?_⟩
  simp only [PyData.depth, h2]
  omega
theorem dp_strs {K : PySem.W.Frag} {H : Hp} : ∀ (l : List Str), DpAll K H (l.map V.str) (l.map PyData.str)
  | [] => .nil
  | x :: l => .cons (.str x) (dp_strs l)
theorem nms_ok {ts : List Tm} (h : WfT ts) {x : Str} (hx : x ∈ nms ts) : okT (.inl x) = true := h.2 _ (U.nms_mem.mp hx)
theorem nd_ok {r : RR} {q : Pt} (h : WfT q.ts) {x : Str} (hx : x ∈ U.nd r q) : okT (.inl x) = true := by
  unfold U.nd at hx
  split at hx
  · exact nms_ok h hx
  · split at hx
    · exact nms_ok (h.drop 1) hx
    · split at hx
      · exact nms_ok h (List.mem_filter.mp hx).1
      · cases hx
theorem ls_ok {r : RR} (h : Wf r) {x : Str} (hx : x ∈ U.ls r) : okT (.inl x) = true := by
  unfold U.ls at hx
  rcases U.fold_mem.mp hx with z | z
  · cases z
  · have z := (List.mem_filter.mp z).1
    unfold U.wanted at z
    obtain ⟨row, hr, hxr⟩ := List.mem_flatten.mp z
    rcases List.mem_cons.mp hr with rfl | hr
    · exact nms_ok h.ts hxr
    · obtain ⟨q, hq, rfl⟩ := List.mem_map.mp hr
      exact nd_ok (h.body.2 q hq).1 hxr
theorem asked_ok {r : RR} {k : Str} (h : Wf r) : (U.asked r k).length ≤ 20 ∧ ∀ x ∈ U.asked r k, x.length ≤ 900 := by
  unfold U.asked
  refine ⟨?_, fun x hx => ?_⟩
  · have h1 := U.dd_len ((r.body.filter fun q => decide (q.kind = k)).map fun q => q.name)
    have h2 := List.length_filter_le (fun q : Pt => decide (q.kind = k)) r.body
    rw [List.length_map] at h1
    have := h.body.1
    omega
  · obtain ⟨q, hq, rfl⟩ := List.mem_map.mp (U.dd_mem.mp hx)
    exact (h.body.2 q (List.mem_filter.mp hq).1).2.1
theorem allT_ok {r : RR} (h : Wf r) : (U.allT r).length ≤ 420 ∧ ∀ t ∈ U.allT r, okT t = true := by
  unfold U.allT
  refine ⟨?_, fun t ht => ?_⟩
  · rw [List.length_append]
    have l1 := h.ts.1
    have l2 := flat_le (f := fun q : Pt => q.ts) (m := 20) (l := r.body) fun q hq => (h.body.2 q hq).1.1
    have := h.body.1
    omega
  · rcases List.mem_append.mp ht with z | z
    · exact h.ts.2 t z
    · obtain ⟨q, hq, hz⟩ := List.mem_flatMap.mp z
      exact (h.body.2 q hq).1.2 t hz
theorem eqv_nil (l : List PyData) : PyData.eqv (.tuple l) (.tuple []) = decide (l = []) := by
  cases l with
  | nil => rfl
  | cons x l => rfl
section
variable {P : Program} {w : World} {K : PySem.W.Frag} {mg : Str → Option Value} {base : Heap} {A : Ad}
theorem ok_lit_shown (T : Txt K mg A) : FnOk P w K mg base CX0 4 A.f_Literal_shown A.d_Literal_shown ["self"] (spLitShown A) := by
  have G_shown_all : FnOk P w K mg base CX0 3 A.f_shown_all A.d_shown_all ["terms"] (spShAll A.C_Term) := ok_shall T
  refine T.F_Literal_shown.ok sc_Literal_shown (fun vs H Q E h => ?_) (fun cdv ar outer s H vs Q E hr h => ?_)
  · obtain ⟨a, q, rfl, _⟩ := h
    rfl
  · obtain ⟨a, q, rfl, ⟨dx, pt, po, e, f, g⟩, hw, k⟩ := h
    refine ⟨_, (pss_one (ps_ret (pe_tup (pa_cons (fldK K (pv 0) rfl) (pa_cons (fldK K (pv 0) rfl) (pa_cons (pe_call G_shown_all (hr.mono (by decide)) (by rfl) T.m_shown_all T.F_shown_all.kp T.b_shown_all .nil pass0 (pa_cons (fldK K (pv 0) rfl) pa_nil)) pa_nil)))))), ?_⟩
    refine ⟨_, rfl, a, _, dx, _, _, rfl, e, T.cl_Literal, T.n_Literal_kind, lf_kind _ _ _ _, _, rfl, a, _, dx, _, _, rfl, e, T.cl_Literal, T.n_Literal_name, lf_name _ _ _ _, _, rfl, a, _, dx, _, _, rfl, e, T.cl_Literal, T.n_Literal_terms, lf_terms _ _ _ _, pt, q.ts, rfl, f, hw, fun t H1 s1 ⟨bs, et, hb⟩ => ⟨(by show 3 ≤ sizeLine; decide), fun p hp => ?_⟩⟩
    exact k p _ (s1.trans (same_new hp)) ⟨t, bs, upd_same, same_new hp _ _ et, hb.imp fun a t h => same_new hp _ _ h⟩
theorem ok_rule_shown (T : Txt K mg A) : FnOk P w K mg base CX0 5 A.f_Rule_shown A.d_Rule_shown ["self"] (spRuleShown A) := by
  have G_shown_all : FnOk P w K mg base CX0 3 A.f_shown_all A.d_shown_all ["terms"] (spShAll A.C_Term) := ok_shall T
  have G_Literal_shown : FnOk P w K mg base CX0 4 A.f_Literal_shown A.d_Literal_shown ["self"] (spLitShown A) := ok_lit_shown T
  refine T.F_Rule_shown.ok sc_Rule_shown (fun vs H Q E h => ?_) (fun cdv ar outer s H vs Q E hr h => ?_)
  · obtain ⟨a, r, rfl, _⟩ := h
    rfl
  · obtain ⟨a, r, rfl, ⟨dx, pt, pb, ps, sv, bs, e, f, g, hb, hs, hc⟩, hw, hsm, k⟩ := h
    have h20 := hw.body.1
    rw [hsm] at hs
    have esv : sv = .non := of_decide_eq_true hs
    refine ⟨_, (pss_one (ps_ret (pe_tup (pa_cons (fldK K (pv 0) rfl) (pa_cons (pe_call G_shown_all (hr.mono (by decide)) (by rfl) T.m_shown_all T.F_shown_all.kp T.b_shown_all .nil pass0 (pa_cons (fldK K (pv 0) rfl) pa_nil)) (pa_cons (fldK K (pv 0) rfl) (pa_cons (pe_callTy (tupOf K) (by rfl) T.z_tuple (by decide +kernel) (pa_cons (pe_lc (own := [("part", 1)]) (by rfl) sc_Rule_shown.nd (tupIK K (fldK K (pv 0) rfl)) (blkOk_by (own := [("part", 1)]) (N := N_Rule_shown) (sc := defScope s_Rule_shown) (by decide +kernel)) (fun _ _ _ _ _ => (pg_name (i := 1) sc_Rule_shown.nd rfl (Or.inl rfl))) (fun _ _ _ _ _ => pts_nil) (fun _ _ _ _ _ => (pe_meth0 (pv 1) T.cl_Literal T.e_Literal_shown G_Literal_shown (hr.mono (by decide)) T.b_Literal_shown .nil pass0))) pa_nil)) pa_nil))))))), ?_⟩
    refine ⟨_, rfl, a, _, dx, _, _, rfl, e, T.cl_Rule, T.n_Rule_name, rf_name _ _ _ _ _, _, rfl, a, _, dx, _, _, rfl, e, T.cl_Rule, T.n_Rule_terms, rf_terms _ _ _ _ _, pt, r.ts, rfl, f, hw.ts, fun t1 H1 s1 ⟨as, et, has⟩ => ?_⟩
    refine ⟨_, rfl, a, _, dx, _, _, rfl, s1 _ _ e, T.cl_Rule, T.n_Rule_summed, rf_summed _ _ _ _ _, _, rfl, a, _, dx, _, _, rfl, s1 _ _ e, T.cl_Rule, T.n_Rule_body, rf_body _ _ _ _ _, pb, rfl, ⟨_, SqT.of (s1 _ _ g)⟩, fun D hD => ?_⟩
    have st : Stab D fun H y (q : Pt) => ∃ a, y = .ref a ∧ ShP H a q := ⟨fun ⟨a, e, h⟩ s => ⟨a, e, h.up s⟩, fun hl ⟨a, e, h⟩ => ⟨a, e, h.wr hl⟩⟩
    refine lc_tup (K := K) (a := pb) (xs := bs.map V.ref) (LcI (fun H y (q : Pt) => ∃ a, y = .ref a ∧ ShP H a q) (fun _ => true) r.body H1 D) (LcI.start hD) (fun i H' _ h => SqT.of (h.1 _ _ (s1 _ _ g))) ?_ ?_
    · rintro i x H' hx h
      obtain ⟨b, q, rfl, eb, eq, hbq⟩ := hb.at hx
      have hb1 := (hbq.up s1).up h.1
      obtain ⟨dxb, ptb, pob, gb, _, _⟩ := id hb1
      refine ⟨rfl, _, rfl, b, dxb, _, rfl, gb, lf_shown _ _ _ _, b, q, rfl, hb1, (hw.body.2 q (List.mem_of_getElem? eq)).1, fun p H2 s2 hp => ?_⟩
      exact h.yes st hD (by omega) eq rfl s2 ⟨p, rfl, hp⟩
    · intro H' h
      obtain ⟨ys, s2, eD, hv⟩ := h.fin (by rw [List.length_map, hb.1]; exact Nat.le_refl _)
      obtain ⟨cs, rfl, hcs⟩ := hv.refs
      rw [filter_tt] at hcs
      refine ⟨D, _, rfl, .inl ⟨SqL.of eD, fun t2 ht2 => ⟨(by show 4 ≤ sizeLine; decide), fun p hp => ?_⟩⟩⟩
      have s3 := (same_new (o := .tup (cs.map V.ref)) ht2).trans (same_new (o := .tup [.str r.name, .ref t1, sv, .ref t2]) hp)
      have s4 := s2.trans s3
      refine k p _ (s1.trans s4) ⟨t1, t2, as, cs, by rw [upd_same, esv], s4 _ _ et, has.imp fun a t h => s4 _ _ h, ?_, hcs.imp fun a t h => h.up s3⟩
      exact same_new hp _ _ upd_same
theorem ok_row (T : Txt K mg A) : FnOk P w K mg base (L2.CX P w) 4 A.f_row_of A.d_row_of ["rule"] (spRow A) := by
  have G_is_fact : FnOk P w K mg base CX0 3 A.f_is_fact A.d_is_fact ["rule"] (spIsFact A) := ok_isfact T
  refine T.F_row_of.okX sc_row_of (fun vs H Q E h => ?_) (fun cdv ar outer s H vs Q E hr h => ?_)
  · obtain ⟨a, r, rfl, _⟩ := h
    rfl
  · obtain ⟨a, r, rfl, hR, hw, k1, k2⟩ := h
    obtain ⟨dx, pt, pb, ps, sv, bs, e, ⟨as, eas, fas⟩, g, hb, hs, hc⟩ := id hR
    refine ⟨_, (pss_cons (ps_if (pt_not (pt_val (pe_call G_is_fact (hr.mono (by decide)) (by rfl) T.m_is_fact T.F_is_fact.kp T.b_is_fact .nil pass0 (pa_cons (pv 0) pa_nil))))
        (pss_one (ps_raise rfl (takes_of rfl rfl rfl rfl) (SkE.pmk_own1 PySem.F.excBase_ValueError T.x_BadRule T.q_BadRule T.k_BadRule (raises_own T.sb_BadRule T.ty_BadRule) rfl (pe_joined (PJ.cons pe_str (PJ.cons (pe_fmt (fldK K (pv 0) rfl)) PJ.nil))))))
        pss_nil)
      (pss_one (ps_ret (pe_callTy (tupOf K) (by rfl) T.z_tuple (by decide +kernel) (pa_cons (pe_lc (own := [("term", 1)]) (by rfl) sc_row_of.nd (tupIK K (fldK K (pv 0) rfl)) (blkOk_by (own := [("term", 1)]) (N := N_row_of) (sc := defScope s_row_of) (by decide +kernel)) (fun _ _ _ _ _ => (pg_name (i := 1) sc_row_of.nd rfl (Or.inl rfl))) (fun _ _ _ _ _ => pts_nil) (fun _ _ _ _ _ => (fldK K (pv 1) rfl))) pa_nil))))), ?_⟩
    refine ⟨_, rfl, a, r, rfl, hR, hw, fun H1 s1 => ⟨_, rfl, ?_⟩⟩
    cases hf : U.isF r with
    | false =>
      refine iteT ⟨_, rfl, (by decide +kernel), _, rfl, a, _, dx, _, _, rfl, s1 _ _ e, T.cl_Rule, T.n_Rule_name, rf_name _ _ _ _ _, .inl ⟨_, rfl, ?_, _, rfl, ?_, k2 hf H1 s1⟩⟩
      · exact sz' (by have := hw.name; omega)
      · exact len2 (a := 100) (b := 900) (by decide +kernel) hw.name (by decide)
    | true =>
      refine iteF ⟨_, rfl, a, _, dx, _, _, rfl, s1 _ _ e, T.cl_Rule, T.n_Rule_terms, rf_terms _ _ _ _ _, pt, rfl, ⟨_, SqT.of (s1 _ _ eas)⟩, fun D hD => ?_⟩
      refine lc_tup (K := K) (a := pt) (xs := as.map V.ref) (LcI (fun _ y (t : Tm) => y = tval t) (fun _ => true) r.ts H1 D) (LcI.start hD) (fun i H' _ h => SqT.of (h.1 _ _ (s1 _ _ eas))) ?_ ?_
      · rintro i x H' hx h
        obtain ⟨b, t, rfl, eb, et, hbt⟩ := fas.at hx
        obtain ⟨dxt, gt⟩ := (TmAt.up hbt s1).up h.1
        refine ⟨rfl, _, rfl, b, _, dxt, _, _, rfl, gt, T.cl_Term, T.n_Term_value, tf_value _ _, ?_⟩
        exact h.yes (stab_val _) hD (by have := hw.ts.1; omega) et rfl (fun _ _ e => e) rfl
      · intro H' h
        obtain ⟨ys, s2, eD, hv⟩ := h.fin (by rw [List.length_map, fas.1]; exact Nat.le_refl _)
        rw [filter_tt] at hv
        have ey := VAll.eq (f := tval) hv
        subst ey
        exact ⟨D, _, rfl, .inl ⟨SqL.of eD, fun u hu => k1 hf u _ ((s1.trans s2).trans (same_new hu)) upd_same⟩⟩
theorem ok_check (T : Txt K mg A) : FnOk P w K mg base (L2.CX P w) 7 A.f_check_rule A.d_check_rule ["rule"] (spCheck A) := by
  have G_Rule_asked : FnOk P w K mg base CX0 1 A.f_Rule_asked A.d_Rule_asked ["self", "kind"] (spAsked A) := ok_asked T
  have G_is_name : FnOk P w K mg base CX0 2 A.f_is_name A.d_is_name ["name"] spIsName := ok_isname T
  have G_all_terms : FnOk P w K mg base CX0 1 A.f_all_terms A.d_all_terms ["rule"] (spAllT A) := ok_allT T
  have G_too_long : FnOk P w K mg base CX0 2 A.f_too_long A.d_too_long ["term"] (spTooLong A) := ok_toolong T
  have G_loose : FnOk P w K mg base CX0 6 A.f_loose A.d_loose ["rule"] (spLoose A) := ok_loose T
  have G_reckoned_twice : FnOk P w K mg base CX0 5 A.f_reckoned_twice A.d_reckoned_twice ["rule"] (spTwice A) := ok_twice T
  refine T.F_check_rule.okX sc_check_rule (fun vs H Q E h => ?_) (fun cdv ar outer s H vs Q E hr h => ?_)
  · obtain ⟨a, r, rfl, _⟩ := h
    rfl
  · obtain ⟨a, r, rfl, hR, hw, hlet, kok, krule, ksize⟩ := h
    obtain ⟨dx, pt, pb, ps, sv, bs, e, f, g, hb, hs, hc⟩ := id hR
    obtain ⟨lp, ap⟩ := asked_ok (k := "pos") hw
    obtain ⟨ln, an⟩ := asked_ok (k := "neg") hw
    refine ⟨_, (pss_cons (ps_for (passes_of rfl) rfl (tupIK K (pe_op (catAK K) (pe_op (catAK K) (pe_tup (pa_cons (fldK K (pv 0) rfl) pa_nil)) (pe_meth (pv 0) T.cl_Rule T.e_Rule_asked G_Rule_asked (hr.mono (by decide)) T.b_Rule_asked .nil pass0 (pa_cons pe_str pa_nil))) (pe_meth (pv 0) T.cl_Rule T.e_Rule_asked G_Rule_asked (hr.mono (by decide)) T.b_Rule_asked .nil pass0 (pa_cons pe_str pa_nil)))) (pg_name (i := 1) sc_check_rule.nd rfl (Or.inl rfl))
        (pss_one (ps_if (pt_not (pt_val (pe_call G_is_name (hr.mono (by decide)) (by rfl) T.m_is_name T.F_is_name.kp T.b_is_name .nil pass0 (pa_cons (pv 1) pa_nil))))
          (pss_one (ps_raise rfl (takes_of rfl rfl rfl rfl) (SkE.pmk_own1 PySem.F.excBase_ValueError T.x_BadRule T.q_BadRule T.k_BadRule (raises_own T.sb_BadRule T.ty_BadRule) rfl (pe_joined (PJ.cons pe_str (PJ.cons (pe_fmt (pv 1)) PJ.nil))))))
          pss_nil)))
      (pss_cons (ps_if (pt_val (pe_callB (anyK K) (by rfl) T.z_any (by decide +kernel) (pa_cons (pe_lc (own := [("term", 3)]) (by rfl) sc_check_rule.nd (listK K (pe_call G_all_terms (hr.mono (by decide)) (by rfl) T.m_all_terms T.F_all_terms.kp T.b_all_terms .nil pass0 (pa_cons (pv 0) pa_nil))) (blkOk_by (own := [("term", 3)]) (N := N_check_rule) (sc := defScope s_check_rule) (by decide +kernel)) (fun _ _ _ _ _ => (pg_name (i := 3) sc_check_rule.nd rfl (Or.inl rfl))) (fun _ _ _ _ _ => pts_nil) (fun _ _ _ _ _ => (pe_call G_too_long (hr.mono (by decide)) (by rfl) T.m_too_long T.F_too_long.kp T.b_too_long .nil pass0 (pa_cons (pv 3) pa_nil)))) pa_nil)))
        (pss_one (ps_raise rfl (takes_of rfl rfl rfl rfl) (SkE.pmk_own1 PySem.F.excBase_ValueError T.x_BadSize T.q_BadSize T.k_BadSize (raises_own T.sb_BadSize T.ty_BadSize) rfl (pe_joined (PJ.cons pe_str (PJ.cons (pe_fmt (fldK K (pv 0) rfl)) PJ.nil))))))
        pss_nil)
      (pss_cons (ps_set (i := 2) sc_check_rule.nd rfl (Or.inl rfl) (pe_call G_loose (hr.mono (by decide)) (by rfl) T.m_loose T.F_loose.kp T.b_loose .nil pass0 (pa_cons (pv 0) pa_nil)))
      (pss_cons (ps_if (pt_cmpR (neD K hr.units) (pv 2) (pe_tup pa_nil) (nomark _))
        (pss_one (ps_raise rfl (takes_of rfl rfl rfl rfl) (SkE.pmk_own1 PySem.F.excBase_ValueError T.x_BadRule T.q_BadRule T.k_BadRule (raises_own T.sb_BadRule T.ty_BadRule) rfl (pe_joined (PJ.cons pe_str (PJ.cons (pe_fmt (fldK K (pv 0) rfl)) (PJ.cons pe_str (PJ.cons (pe_fmt (pe_ix (ixT K) (pv 2) pe_int (fun _ _ => rfl))) PJ.nil))))))))
        pss_nil)
      (pss_cons (ps_if (pt_val (pe_call G_reckoned_twice (hr.mono (by decide)) (by rfl) T.m_reckoned_twice T.F_reckoned_twice.kp T.b_reckoned_twice .nil pass0 (pa_cons (pv 0) pa_nil)))
        (pss_one (ps_raise rfl (takes_of rfl rfl rfl rfl) (SkE.pmk_own1 PySem.F.excBase_ValueError T.x_BadRule T.q_BadRule T.k_BadRule (raises_own T.sb_BadRule T.ty_BadRule) rfl (pe_joined (PJ.cons pe_str (PJ.cons (pe_fmt (fldK K (pv 0) rfl)) PJ.nil))))))
        pss_nil)
      (pss_cons (ps_if (PW.pt (pw_and (pt_cmpR op_notN (fldK K (pv 0) rfl) pe_non (nomark _)) (pw_and1 (pt_cmpR (eqT0 K hr.units0) (fldK K (pv 0) rfl) (pe_tup pa_nil) (nomark _)))))
        (pss_one (ps_raise rfl (takes_of rfl rfl rfl rfl) (SkE.pmk_own1 PySem.F.excBase_ValueError T.x_BadRule T.q_BadRule T.k_BadRule (raises_own T.sb_BadRule T.ty_BadRule) rfl (pe_joined (PJ.cons pe_str (PJ.cons (pe_fmt (fldK K (pv 0) rfl)) PJ.nil))))))
        pss_nil)
      (pss_one (ps_ret (pv 0))))))))), ?_⟩
    refine ⟨_, rfl, a, _, dx, _, _, rfl, e, T.cl_Rule, T.n_Rule_name, rf_name _ _ _ _ _, (by show 1 ≤ sizeLine; decide), fun t0 ht0 => ?_⟩
    have s0 : Same H (upd H t0 (.tup [.str r.name])) := same_new ht0
    have et0 : upd H t0 (.tup [.str r.name]) t0 = some (.tup [.str r.name]) := upd_same
    generalize upd H t0 (.tup [.str r.name]) = H0 at s0 et0 ⊢
    refine ⟨_, rfl, a, dx, _, rfl, s0 _ _ e, rf_asked _ _ _ _ _, a, "pos", r, rfl, hR.up s0, hw, fun t1 H1 s1 e1 => ?_⟩
    refine cat3 (K := K) (s1 _ _ et0) e1 (by rw [List.length_map]; exact sz' (by show 1 + _ ≤ 1000; omega)) fun t2 H2 s2 e2 => ?_
    have s02 : Same H H2 := (s0.trans s1).trans s2
    refine ⟨_, rfl, a, dx, _, rfl, s02 _ _ e, rf_asked _ _ _ _ _, a, "neg", r, rfl, hR.up s02, hw, fun t3 H3 s3 e3 => ?_⟩
    refine cat3 (K := K) (s3 _ _ e2) e3 (by rw [List.length_append, List.length_map, List.length_map]; exact sz' (by show 1 + _ + _ ≤ 1000; omega)) fun t4 H4 s4 e4 => ?_
    have s04 : Same H H4 := (s02.trans s3).trans s4
    have enm : [V.str r.name] ++ (U.asked r "pos").map V.str ++ (U.asked r "neg").map V.str = ((r.name :: U.asked r "pos") ++ U.asked r "neg").map V.str := by simp
    rw [enm] at e4
    have hlen : ∀ x ∈ (r.name :: U.asked r "pos") ++ U.asked r "neg", x.length ≤ 900 := fun x hx => by
      rcases List.mem_append.mp hx with z | z
      · rcases List.mem_cons.mp z with rfl | z
        · exact hw.name
        · exact ap x z
      · exact an x z
    generalize hN : (r.name :: U.asked r "pos") ++ U.asked r "neg" = N at e4 hlen
    refine ⟨t4, rfl, ⟨_, SqT.of e4⟩, ?_⟩
    refine for_tup (K := K) (a := t4) (xs := N.map V.str) (fun i σ H' => ∃ x, σ = [some (.ref a), x, none, none] ∧ Same H H' ∧ H' t4 = some (.tup (N.map V.str)) ∧ (N.take i).all U.isN = true)
      ⟨none, rfl, s04, e4, rfl⟩ (fun i σ H' _ ⟨x, _, _, h, _⟩ => SqT.of h) ?_ ?_
    · rintro i v σ H' hv ⟨x, rfl, s5, e5, hall⟩
      rw [List.getElem?_map] at hv
      obtain ⟨z, hz, rfl⟩ := Option.map_eq_some_iff.mp hv
      have hzm : z ∈ N := List.mem_of_getElem? hz
      refine ⟨_, rfl, z, rfl, hlen z hzm, fun H6 s6 => ⟨_, rfl, ?_⟩⟩
      cases hn : U.isN z with
      | false =>
        refine iteT ⟨_, rfl, (by decide +kernel), _, rfl, .inl ⟨_, rfl, ?_, _, rfl, ?_, ?_⟩⟩
        · exact sz' (by have := hlen z hzm; omega)
        · exact len2 (a := 100) (b := 900) (by decide +kernel) (hlen z hzm) (by decide)
        · refine krule ?_ H6 (s5.trans s6)
          unfold U.chk
          rw [hN, if_pos]
          rw [List.all_eq_false]
          exact ⟨z, hzm, by rw [hn]; decide⟩
      | true =>
        refine iteF ⟨_, rfl, s5.trans s6, s6 _ _ e5, ?_⟩
        rw [take_one hz, List.all_append, hall]
        simp [hn]
    · rintro σ H' ⟨x, rfl, s5, e5, hall⟩
      rw [List.length_map, List.take_of_length_le (Nat.le_refl _)] at hall
      have c1 : ¬ N.all U.isN = false := by rw [hall]; decide
      refine ⟨_, rfl, a, r, rfl, hR.up s5, hw, fun l H6 s6 ⟨as, el, fas⟩ => ⟨l, rfl, ⟨_, SqL.of el⟩, fun D hD => ?_⟩⟩
      obtain ⟨l420, okall⟩ := allT_ok hw
      refine lc_list (K := K) (a := l) (xs := as.map V.ref) (LcI (fun _ y (t : Tm) => y = .bl (U.tlong t)) (fun _ => true) (U.allT r) H6 D) (LcI.start hD) (fun i H' _ h => SqL.of (h.1 _ _ el)) ?_ ?_
      · rintro i y H7 hy h
        obtain ⟨b, t, rfl, eb, et, hbt⟩ := fas.at hy
        refine ⟨rfl, _, rfl, b, t, rfl, TmAt.up hbt h.1, okall t (List.mem_of_getElem? et), ?_⟩
        exact h.yes (stab_val _) hD (by omega) et rfl (fun _ _ e => e) rfl
      · intro H7 h
        obtain ⟨ys, s7, eD, hv⟩ := h.fin (by rw [List.length_map, fas.1]; exact Nat.le_refl _)
        rw [filter_tt] at hv
        have ey := VAll.eq (f := fun t : Tm => V.bl (U.tlong t)) hv
        subst ey
        refine ⟨D, (U.allT r).map U.tlong, rfl, SqL.of (by rw [eD, List.map_map]; rfl), _, rfl, ?_⟩
        have e0 : (((U.allT r).map U.tlong).any id) = (U.allT r).any U.tlong := by
          rw [List.any_map]
          rfl
        rw [e0]
        have s57 : Same H H7 := (s5.trans s6).trans s7
        refine iteB (fun h2 => ?_) (fun h2 => ?_)
        · refine ⟨_, rfl, (by decide +kernel), _, rfl, a, _, dx, _, _, rfl, s57 _ _ e, T.cl_Rule, T.n_Rule_name, rf_name _ _ _ _ _, .inl ⟨_, rfl, ?_, _, rfl, ?_, ksize ?_ H7 s57⟩⟩
          · exact sz' (by have := hw.name; omega)
          · exact len2 (a := 100) (b := 900) (by decide +kernel) hw.name (by decide)
          · unfold U.chk
            rw [hN, if_neg c1, if_pos h2]
        · have c2 : ¬ (U.allT r).any U.tlong = true := by rw [h2]; decide
          refine ⟨_, rfl, a, r, rfl, hR.up s57, hw, fun t5 H8 s8 e8 => ⟨_, rfl, Nat.zero_le _, fun m hm => ?_⟩⟩
          have s9 : Same H8 (upd H8 m (.tup [])) := same_new hm
          have s59 : Same H (upd H8 m (.tup [])) := (s57.trans s8).trans s9
          have e9 := s9 _ _ e8
          refine ⟨.tuple ((U.ls r).map PyData.str), .tuple [], .tup (SqT.of e9) (dp_strs _), .tup (SqT.of upd_same) .nil, strOk_all (fun x hx => okT_ok (ls_ok hw hx)), rfl, _, rfl, ?_⟩
          rw [eqv_nil]
          generalize upd H8 m (.tup []) = H9 at s59 e9 ⊢
          refine iteND (fun h3 => ?_) (fun h3 => ?_)
          · obtain ⟨x0, xr, ex⟩ : ∃ x0 xr, U.ls r = x0 :: xr := by
              cases h0 : U.ls r with
              | nil => exact absurd (by rw [h0]; rfl) h3
              | cons x0 xr => exact ⟨x0, xr, rfl⟩
            have hx0 := okT_len (ls_ok hw (x := x0) (by rw [ex]; exact List.mem_cons_self))
            refine ⟨_, rfl, (by decide +kernel), _, rfl, a, _, dx, _, _, rfl, s59 _ _ e, T.cl_Rule, T.n_Rule_name, rf_name _ _ _ _ _, .inl ⟨_, rfl, ?_, _, rfl, ?_, ?_⟩⟩
            · exact sz' (by have := hw.name; omega)
            · exact len2 (a := 100) (b := 900) (by decide +kernel) hw.name (by decide)
            · refine ⟨_, rfl, ?_, _, rfl, t5, _, _, _, rfl, rfl, SqT.of e9, atI_nat (j := 0) (by rw [ex]; rfl), .inl ⟨_, rfl, ?_, _, rfl, ?_, krule ?_ _ s59⟩⟩
              · exact len2 (a := 1000) (b := 100) (by rw [len_app]; have := hw.name; have h9 : (Str.empty ++ ("loose in " : Str)).length ≤ 100 := by decide +kernel
                                                      omega) (by decide +kernel) (by decide)
              · exact sz' hx0
              · exact len2 (a := 1200) (b := 1000) (by rw [len_app, len_app]; have := hw.name; have h9 : (Str.empty ++ ("loose in " : Str)).length ≤ 100 := by decide +kernel
                                                       have h10 : (": " : Str).length ≤ 100 := by decide +kernel
                                                       omega) hx0 (by decide)
              · unfold U.chk
                rw [hN, if_neg c1, if_neg c2, if_pos (by rw [ex]; exact List.cons_ne_nil _ _)]
          · have c3 : ¬ U.ls r ≠ [] := fun z => z (by simpa using h3)
            refine ⟨_, rfl, a, r, rfl, hR.up s59, hw, hlet, fun H10 s10 => ⟨_, rfl, ?_⟩⟩
            have s510 := s59.trans s10
            refine iteB (fun h4 => ?_) (fun h4 => ?_)
            · refine ⟨_, rfl, (by decide +kernel), _, rfl, a, _, dx, _, _, rfl, s510 _ _ e, T.cl_Rule, T.n_Rule_name, rf_name _ _ _ _ _, .inl ⟨_, rfl, ?_, _, rfl, ?_, krule ?_ H10 s510⟩⟩
              · exact sz' (by have := hw.name; omega)
              · exact len2 (a := 100) (b := 900) (by decide +kernel) hw.name (by decide)
              · unfold U.chk
                rw [hN, if_neg c1, if_neg c2, if_neg c3, if_pos h4]
            · have c4 : ¬ U.rt r = true := by rw [h4]; decide
              refine ⟨_, rfl, a, _, dx, _, _, rfl, s510 _ _ e, T.cl_Rule, T.n_Rule_summed, rf_summed _ _ _ _ _, rfl, _, rfl, ?_⟩
              rw [hs, Bool.not_not]
              have fin : ∀ H11, Same H H11 → ¬ (r.sm = true ∧ r.body = []) → Q (.ref a) H11 := fun H11 s11 c5 => by
                refine kok ?_ H11 s11
                unfold U.chk
                rw [hN, if_neg c1, if_neg c2, if_neg c3, if_neg c4, if_neg c5]
              refine iteB (fun h5 => ?_) (fun h5 => ?_)
              · refine ⟨_, rfl, a, _, dx, _, _, rfl, s510 _ _ e, T.cl_Rule, T.n_Rule_body, rf_body _ _ _ _ _, Nat.zero_le _, fun m2 hm2 => ?_⟩
                have s511 : Same H (upd H10 m2 (.tup [])) := s510.trans (same_new hm2)
                refine ⟨pb, m2, _, rfl, rfl, SqT.of (s511 _ _ g), SqT.of upd_same, _, rfl, ?_⟩
                rw [List.length_map, hb.1]
                refine iteD (fun h6 => ?_) (fun h6 => ?_)
                · refine ⟨_, rfl, (by decide +kernel), _, rfl, a, _, dx, _, _, rfl, s511 _ _ e, T.cl_Rule, T.n_Rule_name, rf_name _ _ _ _ _, .inl ⟨_, rfl, ?_, _, rfl, ?_, krule ?_ _ s511⟩⟩
                  · exact sz' (by have := hw.name; omega)
                  · exact len2 (a := 100) (b := 900) (by decide +kernel) hw.name (by decide)
                  · unfold U.chk
                    rw [hN, if_neg c1, if_neg c2, if_neg c3, if_neg c4, if_pos ⟨h5, List.eq_nil_of_length_eq_zero h6⟩]
                · exact ⟨_, rfl, fin _ s511 fun z => h6 (by rw [z.2]; rfl)⟩
              · exact ⟨_, rfl, fin _ s510 fun z => by rw [h5] at z; cases z.1⟩
end
end Toy

set_option Elab.async false
set_option maxRecDepth 100000
set_option maxHeartbeats 4000000
namespace Toy
open PySem L2
open U (Tm Pt RR tn nms vars addN dd rows cnt)
/-! ### the law's own side -/
def tvv : Tm → V
  | .inl s => .str s
  | .inr i => .int i
def LPt (H : Hp) (a : Addr) (q : Pt) : Prop := ∃ tl, H a = some (.tup [.str q.kind, .str q.name, .ref tl]) ∧ H tl = some (.lst (q.ts.map tvv))
theorem LPt.up {H H' : Hp} {a : Addr} {q : Pt} (h : LPt H a q) (s : Same H H') : LPt H' a q := by
  obtain ⟨tl, e, f⟩ := h
  exact ⟨tl, s _ _ e, s _ _ f⟩
def LPs (H : Hp) (p : Addr) (qs : List Pt) : Prop := ∃ as : List Addr, H p = some (.lst (as.map V.ref)) ∧ All2 (LPt H) as qs
theorem LPs.up {H H' : Hp} {p : Addr} {qs : List Pt} (h : LPs H p qs) (s : Same H H') : LPs H' p qs := by
  obtain ⟨as, e, f⟩ := h
  exact ⟨as, s _ _ e, f.imp fun a t h => h.up s⟩
theorem mem_vars {ts : List Tm} {x : Str} : x ∈ vars ts ↔ (Sum.inl x : Tm) ∈ ts := by
  rw [← U.nms_mem]
  exact U.dd_mem.symm
theorem flat_tv (ts : List Tm) : (ts.map tvv).all flatV = true := by
  rw [List.all_map, List.all_eq_true]
  intro t _
  cases t <;> rfl
theorem inV_tv (x : Str) (ts : List Tm) : inV (.str x) (ts.map tvv) = decide (x ∈ vars ts) := by
  unfold inV
  rw [List.any_map]
  by_cases h : x ∈ vars ts
  · rw [decide_eq_true h, List.any_eq_true]
    exact ⟨_, mem_vars.mp h, by simp [eqV, tvv]⟩
  · rw [decide_eq_false h, List.any_eq_false]
    intro y hy
    cases y with
    | inl s =>
      simp only [Function.comp, tvv, eqV, beq_iff_eq]
      intro e
      exact h (mem_vars.mpr (e ▸ hy))
    | inr i => simp [Function.comp, tvv, eqV]
theorem notIn_fold {b : List Str} : ∀ {xs : List Str}, xs.Nodup → xs.foldl addN b = b ++ xs.filter fun x => decide (x ∉ b)
  | [], _ => by simp
  | x :: xs, h => by
    have hn := List.nodup_cons.mp h
    rw [List.foldl_cons]
    by_cases hx : x ∈ b
    · rw [show addN b x = b from if_pos hx, notIn_fold hn.2, List.filter_cons_of_neg (by simpa using hx)]
    · rw [show addN b x = b ++ [x] from if_neg hx, notIn_fold hn.2, List.filter_cons_of_pos (by simpa using hx), List.append_assoc]
      congr 1
      show x :: xs.filter _ = x :: xs.filter _
      congr 1
      apply List.filter_congr
      intro y hy
      have : y ≠ x := fun e => hn.1 (e ▸ hy)
      simp [this]
theorem gv_nodup (q : Pt) : (U.gv q).Nodup := by
  unfold U.gv
  split
  · exact U.dd_nodup _
  · split
    · exact U.dd_nodup _
    · exact List.nodup_nil
def spFlat : Sp := fun vs H Q _ => ∃ (p : Addr) (bs : List Addr) (ls : List (List V)), vs = [.ref p] ∧ H p = some (.lst (bs.map V.ref)) ∧ All2 (fun b l => H b = some (.lst l)) bs ls ∧ ls.flatten.length ≤ 900 ∧ ∀ q H', Same H H' → H' q = some (.lst ls.flatten) → Q (.ref q) H'
def spLNames : Sp := fun vs H Q _ => ∃ (p : Addr) (ts : List Tm), vs = [.ref p] ∧ H p = some (.lst (ts.map tvv)) ∧ ts.length ≤ 50 ∧ ∀ q H', Same H H' → H' q = some (.lst ((nms ts).map V.str)) → Q (.ref q) H'
/-- the drawn rule -/
abbrev mkR (head : List Tm) (qs : List Pt) : RR := ⟨"h", head, qs, false⟩
def LetS (qs : List Pt) : Prop := ∀ q ∈ qs, q.kind = "let" → ∃ s tr, q.ts = .inl s :: tr
def KindS (qs : List Pt) : Prop := ∀ q ∈ qs, q.kind = "pos" ∨ q.kind = "neg" ∨ q.kind = "cmp" ∨ q.kind = "let"
structure Drawn (head : List Tm) (qs : List Pt) : Prop where
  wf : Wf (mkR head qs)
  lets : LetS qs
  kinds : KindS qs
def spLNeeds : Sp := fun vs H Q _ => ∃ (hd ps : Addr) (j : Nat) (head : List Tm) (qs : List Pt) (q : Pt), vs = [.ref hd, .ref ps, .int j] ∧ H hd = some (.lst (head.map tvv)) ∧ LPs H ps qs ∧ Drawn head qs ∧ qs[j]? = some q ∧
  ∀ l H', Same H H' → H' l = some (.lst ((U.nd (mkR head qs) q).map V.str)) → Q (.ref l) H'
section
variable {P : Program} {w : World} {K : PySem.W.Frag} {mg : Str → Option Value} {base : Heap} {A : Ad}
theorem ok_flat (T : Txt K mg A) : FnOk P w K mg base CX0 1 A.f_l_flat A.d_l_flat ["_law_rows"] spFlat := by
  refine T.F_l_flat.ok sc_l_flat (fun vs H Q E h => ?_) (fun cdv ar outer s H vs Q E hr h => ?_)
  · obtain ⟨p, bs, ls, rfl, _⟩ := h
    rfl
  · obtain ⟨p, bs, ls, rfl, ep, fp, hz, k⟩ := h
    refine ⟨_, (pss_cons (ps_set (i := 1) sc_l_flat.nd rfl (Or.inl rfl) (pe_lst pa_nil))
      (pss_cons (ps_for PassesOwn.never rfl (listK K (pv 0)) (pg_name (i := 2) sc_l_flat.nd rfl (Or.inl rfl))
        (pss_one (ps_set (i := 1) sc_l_flat.nd rfl (Or.inl rfl) (pe_op op_cat (pv 1) (pv 2)))))
      (pss_one (ps_ret (pv 1))))), ?_⟩
    refine ⟨Nat.zero_le _, fun l0 hl0 => ⟨_, rfl, p, rfl, ⟨_, SqL.of (same_new hl0 _ _ ep)⟩, ?_⟩⟩
    refine for_list (K := K) (a := p) (xs := bs.map V.ref) (fun i σ H' => ∃ l x, σ = [some (.ref p), some (.ref l), x] ∧ Same H H' ∧ H' l = some (.lst (ls.take i).flatten))
      ⟨l0, none, rfl, same_new hl0, upd_same⟩ (fun i σ H' _ ⟨l, x, _, s, _⟩ => SqL.of (s _ _ ep)) ?_ ?_
    · rintro i v σ H' hv ⟨l, x, rfl, s1, el⟩
      obtain ⟨b, row, rfl, eb, er, hb⟩ := fp.at hv
      have hle : (ls.take i).flatten.length + row.length ≤ ls.flatten.length := by
        have e1 : (ls.take (i + 1)).flatten.length ≤ ls.flatten.length := by
          conv => rhs; rw [← List.take_append_drop (i + 1) ls, List.flatten_append, List.length_append]
          omega
        rw [take_one er, List.flatten_append, List.length_append, List.flatten_singleton] at e1
        exact e1
      refine ⟨_, rfl, _, rfl, l, b, _, _, rfl, rfl, el, s1 _ _ hb, sz' (by omega), fun m hm => ⟨m, _, rfl, s1.trans (same_new hm), ?_⟩⟩
      rw [upd_same, take_one er, List.flatten_append, List.flatten_singleton]
    · rintro σ H' ⟨l, x, rfl, s1, el⟩
      rw [List.length_map, fp.1, List.take_of_length_le (Nat.le_refl _)] at el
      exact ⟨_, rfl, k l H' s1 el⟩
theorem ok_lnames (T : Txt K mg A) : FnOk P w K mg base CX0 1 A.f_l_names A.d_l_names ["_law_terms"] spLNames := by
  refine T.F_l_names.ok sc_l_names (fun vs H Q E h => ?_) (fun cdv ar outer s H vs Q E hr h => ?_)
  · obtain ⟨p, ts, rfl, _⟩ := h
    rfl
  · obtain ⟨p, ts, rfl, ep, hz, k⟩ := h
    refine ⟨_, (pss_cons (ps_set (i := 1) sc_l_names.nd rfl (Or.inl rfl) (pe_lst pa_nil))
      (pss_cons (ps_for PassesOwn.never rfl (listK K (pv 0)) (pg_name (i := 2) sc_l_names.nd rfl (Or.inl rfl))
        (pss_one (ps_set (i := 1) sc_l_names.nd rfl (Or.inl rfl) (pe_op op_cat (pv 1) (pe_ifExp (PW.pt (pw_and (pt_val (pe_callB (isiK K) (by rfl) T.z_isinstance (by decide +kernel) (pa_cons (pv 2) (pa_cons (pe_bltn (v := .ty "str") (by rfl) T.z_str (by decide +kernel) rfl) pa_nil)))) (pw_and1 (pt_cmpR (notInSeq K) (pv 2) (pv 1) (by rfl))))) (pe_lst (pa_cons (pv 2) pa_nil)) (pe_lst pa_nil))))))
      (pss_one (ps_ret (pv 1))))), ?_⟩
    refine ⟨Nat.zero_le _, fun l0 hl0 => ⟨_, rfl, p, rfl, ⟨_, SqL.of (same_new hl0 _ _ ep)⟩, ?_⟩⟩
    refine for_list (K := K) (a := p) (xs := ts.map tvv) (fun i σ H' => ∃ l x, σ = [some (.ref p), some (.ref l), x] ∧ Same H H' ∧ H' l = some (.lst (((vars (ts.take i)).foldl addN []).map V.str)))
      ⟨l0, none, rfl, same_new hl0, upd_same⟩ (fun i σ H' _ ⟨l, x, _, s, _⟩ => SqL.of (s _ _ ep)) ?_ ?_
    · rintro i v σ H' hv ⟨l, x, rfl, s1, el⟩
      rw [List.getElem?_map] at hv
      obtain ⟨t, ht, rfl⟩ := Option.map_eq_some_iff.mp hv
      have hi : i < ts.length := (List.getElem?_eq_some_iff.mp ht).1
      have hl50 : ((vars (ts.take i)).foldl addN []).length ≤ 50 := by
        have h1 := U.fold_len (xs := vars (ts.take i)) (acc := [])
        have h2 := U.vars_len (ts.take i)
        rw [List.length_take] at h2
        simp at h1
        omega
      have none_ : ∀ m, H' m = none → vars (ts.take (i + 1)) = vars (ts.take i) → ∀ q, upd H' m (.lst []) q = none →
          (∃ l' x, [some (V.ref p), some (V.ref q), some (tvv t)] = [some (V.ref p), some (.ref l'), x] ∧ Same H (upd (upd H' m (.lst [])) q (.lst (((vars (ts.take i)).foldl addN []).map V.str ++ []))) ∧ upd (upd H' m (.lst [])) q (.lst (((vars (ts.take i)).foldl addN []).map V.str ++ [])) l' = some (.lst (((vars (ts.take (i + 1))).foldl addN []).map V.str))) := fun m hm ev q hq =>
        ⟨q, _, rfl, (s1.trans (same_new hm)).trans (same_new hq), by rw [upd_same, ev, List.append_nil]⟩
      cases t with
      | inr n =>
        have ev : vars (ts.take (i + 1)) = vars (ts.take i) := by
          rw [take_one ht, vars_snoc, List.append_nil]
        refine ⟨_, rfl, _, rfl, _, _, _, _, _, rfl, .ty _, .base (.int n), kit_ty (by decide +kernel), _, rfl, iteF ?_⟩
        exact ⟨Nat.zero_le _, fun m hm => ⟨l, m, _, _, rfl, rfl, same_new hm _ _ el, upd_same, (by rw [List.length_map]; exact sz' (by show _ + 0 ≤ 1000; omega)), fun q hq => none_ m hm ev q hq⟩⟩
      | inl z =>
        refine ⟨_, rfl, _, rfl, _, _, _, _, _, rfl, .ty _, .base (.str z), kit_ty (by decide +kernel), _, rfl, iteT ?_⟩
        refine ⟨V.str z, rfl, _, rfl, l, _, rfl, .inl (SqL.of el), rfl, flat_str _, _, rfl, ?_⟩
        rw [if_pos rfl, inV_str]
        have ev : (vars (ts.take (i + 1))).foldl addN [] = addN ((vars (ts.take i)).foldl addN []) z := by
          rw [take_one ht, vars_snoc, List.foldl_append]
          rfl
        refine iteND (fun hzn => ?_) (fun hzi => ?_)
        · refine ⟨_, rfl, (by show 1 ≤ sizeLine; decide), fun m hm => ⟨l, m, _, _, rfl, rfl, same_new hm _ _ el, upd_same, (by rw [List.length_map]; exact sz' (by show _ + 1 ≤ 1000; omega)), fun q hq => ⟨q, _, rfl, (s1.trans (same_new hm)).trans (same_new hq), ?_⟩⟩⟩
          rw [upd_same, ev, show addN ((vars (ts.take i)).foldl addN []) z = (vars (ts.take i)).foldl addN [] ++ [z] from if_neg hzn, List.map_append]
          rfl
        · refine ⟨Nat.zero_le _, fun m hm => ⟨l, m, _, _, rfl, rfl, same_new hm _ _ el, upd_same, (by rw [List.length_map]; exact sz' (by show _ + 0 ≤ 1000; omega)), fun q hq => ⟨q, _, rfl, (s1.trans (same_new hm)).trans (same_new hq), ?_⟩⟩⟩
          rw [upd_same, ev, show addN ((vars (ts.take i)).foldl addN []) z = (vars (ts.take i)).foldl addN [] from if_pos hzi, List.append_nil]
    · rintro σ H' ⟨l, x, rfl, s1, el⟩
      rw [List.length_map, List.take_of_length_le (Nat.le_refl _)] at el
      exact ⟨_, rfl, k l H' s1 el⟩
theorem nd_law {head : List Tm} {qs : List Pt} {j : Nat} {q : Pt} (hk : q.kind = "pos" ∨ q.kind = "neg" ∨ q.kind = "cmp" ∨ q.kind = "let") (hq : qs[j]? = some q) (h1 : ¬ q.kind = "pos") (h2 : ¬ q.kind = "let") :
    U.nd (mkR head qs) q = (nms q.ts).filter fun x => decide (q.kind = "cmp") || decide (x ∈ vars (head ++ (((List.range qs.length).filter fun k => decide (k ≠ j)).map fun k => (U.pt (mkR head qs) k).ts).flatten)) := by
  unfold U.nd
  by_cases h3 : q.kind = "cmp"
  · rw [if_pos h3, decide_eq_true h3]
    simp only [Bool.true_or]
    exact (filter_tt _).symm
  · have h4 : q.kind = "neg" := by
      rcases hk with z | z | z | z
      · exact absurd z h1
      · exact z
      · exact absurd z h3
      · exact absurd z h2
    rw [if_neg h3, if_neg h2, if_pos h4, decide_eq_false h3]
    apply List.filter_congr
    intro x hx
    rw [Bool.false_or]
    have := U.shd_iff (r := mkR head qs) (j := j) (q := q) hq hx
    rw [Bool.eq_iff_iff, this, decide_eq_true_iff, mem_vars, List.mem_append]
    apply or_congr Iff.rfl
    constructor
    · rintro ⟨k, q', hk, hq', hx'⟩
      have hkl : k < qs.length := (List.getElem?_eq_some_iff.mp hq').1
      refine List.mem_flatten.mpr ⟨_, List.mem_map.mpr ⟨k, List.mem_filter.mpr ⟨List.mem_range.mpr hkl, by simpa using hk⟩, rfl⟩, ?_⟩
      rw [pt_at hq']
      exact hx'
    · intro h
      obtain ⟨row, hr, hxr⟩ := List.mem_flatten.mp h
      obtain ⟨k, hk, rfl⟩ := List.mem_map.mp hr
      obtain ⟨hk1, hk2⟩ := List.mem_filter.mp hk
      have hkl : k < qs.length := List.mem_range.mp hk1
      have hq' : qs[k]? = some qs[k] := List.getElem?_eq_getElem hkl
      refine ⟨k, qs[k], by simpa using hk2, hq', ?_⟩
      rw [pt_at (r := mkR head qs) hq'] at hxr
      exact hxr
end
end Toy

set_option Elab.async false
set_option maxRecDepth 100000
set_option maxHeartbeats 4000000
namespace Toy
open PySem L2
open U (Tm Pt RR tn nms vars addN dd rows cnt)
/-- a comprehension over enumerate of a list that stays -/
theorem lc_enum {K : PySem.W.Frag} {a : Addr} {xs : List V} {g : TG} {tt : TT} {te : TE} {vs : List Nat} {σ : L2.St} {H1 : Hp} {D : Addr} {Qd : Hp → Prop} (Pv : Nat → Hp → Prop) (h0 : Pv 0 (upd H1 D (.lst []))) (hl : ∀ i H, i ≤ xs.length → Pv i H → SqL K H a xs)
    (hs : ∀ i x T H, xs[i]? = some x → Pv i H → H T = none → g (.ref T) (wipe σ vs) (upd H T (.tup [.int (i : Nat), x])) fun σ2 H2 => wipe σ2 vs = wipe σ vs ∧ tt σ2 H2 fun b H3 =>
      if b = true then te σ2 H3 fun y H4 => ∃ acc, H4 D = some (.lst acc) ∧ acc.length < sizeLine ∧ Pv (i + 1) (upd H4 D (.lst (acc ++ [y]))) else Pv (i + 1) H3) (hd : ∀ H, Pv xs.length H → Qd H) :
    ∃ W : Nat → Nat → Hp → Prop, (∃ m, W 0 m (upd H1 D (.lst []))) ∧ ∀ i m H, W i m H →
      ((Ite K a).stop i H ∧ Qd H) ∨ ((Ite K a).go i H ∧ ∃ Nx : Hp → Prop, (∀ H', Nx H' → ∃ m', m' < m ∧ W (i + 1) m' H') ∧ ∀ x H', (Ite K a).yld i H x H' → g x (wipe σ vs) H' fun σ2 H2 => wipe σ2 vs = wipe σ vs ∧ tt σ2 H2 fun b H3 =>
        if b = true then te σ2 H3 fun y H4 => ∃ acc, H4 D = some (.lst acc) ∧ acc.length < sizeLine ∧ Nx (upd H4 D (.lst (acc ++ [y]))) else Nx H3) := by
  refine ⟨fun i m H => m = xs.length - i ∧ i ≤ xs.length ∧ Pv i H, ⟨xs.length, by simp, Nat.zero_le _, h0⟩, ?_⟩
  rintro i m H ⟨rfl, hi, p⟩
  have q := hl i H hi p
  by_cases hlt : i < xs.length
  · refine .inr ⟨⟨xs, xs[i], q, by simp [hlt]⟩, Pv (i + 1), fun H' p' => ⟨xs.length - (i + 1), by omega, rfl, hlt, p'⟩, fun x H' y => ?_⟩
    obtain ⟨T, x', rfl, hT, rfl, f⟩ := y
    exact hs i x' T _ (f xs q) p hT
  · have e : i = xs.length := by omega
    subst e
    exact .inl ⟨⟨xs, q, Nat.le_refl _⟩, hd H p⟩

def spLLimited : Sp := fun vs H Q _ => ∃ (hd ps : Addr) (head : List Tm) (qs : List Pt), vs = [.ref hd, .ref ps] ∧ H hd = some (.lst (head.map tvv)) ∧ LPs H ps qs ∧ Drawn head qs ∧ ∀ l H', Same H H' → H' l = some (.lst ((U.lim (mkR head qs)).map V.str)) → Q (.ref l) H'
theorem Drawn.ts {head : List Tm} {qs : List Pt} (h : Drawn head qs) {j : Nat} {q : Pt} (hq : qs[j]? = some q) : WfT q.ts := (h.wf.body.2 q (List.mem_of_getElem? hq)).1
theorem map_flat (head : List Tm) (ls : List (List Tm)) : head.map tvv ++ (ls.map fun l => l.map tvv).flatten = (head ++ ls.flatten).map tvv := by
  rw [List.map_append, List.map_flatten]
theorem flat_len {ls : List (List Tm)} {m : Nat} (h : ∀ l ∈ ls, l.length ≤ m) : ls.flatten.length ≤ m * ls.length := by
  have := flat_le (f := fun l : List Tm => l) (m := m) (l := ls) h
  rw [List.flatMap_id'] at this
  exact this
section
variable {P : Program} {w : World} {K : PySem.W.Frag} {mg : Str → Option Value} {base : Heap} {A : Ad}
theorem ok_lneeds (T : Txt K mg A) : FnOk P w K mg base CX0 2 A.f_l_needs A.d_l_needs ["_law_head", "_law_parts", "_law_j"] spLNeeds := by
  have G_l_names : FnOk P w K mg base CX0 1 A.f_l_names A.d_l_names ["_law_terms"] spLNames := ok_lnames T
  have G_l_flat : FnOk P w K mg base CX0 1 A.f_l_flat A.d_l_flat ["_law_rows"] spFlat := ok_flat T
  refine T.F_l_needs.ok sc_l_needs (fun vs H Q E h => ?_) (fun cdv ar outer s H vs Q E hr h => ?_)
  · obtain ⟨hd, ps, j, head, qs, q, rfl, _⟩ := h
    rfl
  · obtain ⟨hd, ps, j, head, qs, q, rfl, eh, ⟨as, ep, fp⟩, hD0, hq, k⟩ := h
    have h20 : qs.length ≤ 20 := hD0.wf.body.1
    have hh20 : head.length ≤ 20 := hD0.wf.ts.1
    have hts := hD0.ts hq
    refine ⟨_, (pss_cons (ps_asg (pe_ix (ixL K) (pv 1) (pv 2) (fun _ _ => rfl)) (tupK K (n := 3) rfl (pgs_cons (pg_name (i := 3) sc_l_needs.nd rfl (Or.inr rfl)) (pgs_cons (pg_name (i := 4) sc_l_needs.nd rfl (Or.inl rfl)) (pgs_cons (pg_name (i := 5) sc_l_needs.nd rfl (Or.inl rfl)) pgs_nil)))))
      (pss_cons (ps_if (pt_cmpR op_eq (pv 3) pe_str (nomark _))
        (pss_one (ps_ret (pe_lst pa_nil)))
        pss_nil)
      (pss_cons (ps_if (pt_cmpR op_eq (pv 3) pe_str (nomark _))
        (pss_one (ps_ret (pe_call G_l_names (hr.mono (by decide)) (by rfl) T.m_l_names T.F_l_names.kp T.b_l_names .nil pass0 (pa_cons (pe_slice (slL K) (pv 5) (po_some pe_int) po_none) pa_nil))))
        pss_nil)
      (pss_cons (ps_set (i := 6) sc_l_needs.nd rfl (Or.inr rfl) (pe_op op_cat (pv 0) (pe_call G_l_flat (hr.mono (by decide)) (by rfl) T.m_l_flat T.F_l_flat.kp T.b_l_flat .nil pass0 (pa_cons (pe_lc (own := [("_law_k", 7), ("_law_part_here", 8)]) (by rfl) sc_l_needs.nd (enumK K (by rfl) T.z_enumerate (pa_cons (pv 1) pa_nil)) (blkOk_by (own := [("_law_k", 7), ("_law_part_here", 8)]) (N := N_l_needs) (sc := defScope s_l_needs) (by decide +kernel)) (fun _ _ _ _ _ => (tupK K (n := 2) rfl (pgs_cons (pg_name (i := 7) sc_l_needs.nd rfl (Or.inl rfl)) (pgs_cons (pg_name (i := 8) sc_l_needs.nd rfl (Or.inl rfl)) pgs_nil)))) (fun _ _ _ _ _ => (pts_one (pt_cmpR op_ne (pv 7) (pv 2) (nomark _)))) (fun _ _ _ _ _ => (pe_lc (own := [("_law_term", 9)]) (by rfl) sc_l_needs.nd (listK K (pe_ix (ixT K) (pv 8) pe_int (fun _ _ => rfl))) (blkOk_by (own := [("_law_term", 9)]) (N := N_l_needs) (by rfl)) (fun _ _ _ _ _ => (pg_name (i := 9) sc_l_needs.nd rfl (Or.inl rfl))) (fun _ _ _ _ _ => pts_nil) (fun _ _ _ _ _ => (pv 9))))) pa_nil))))
      (pss_one (ps_ret (pe_lc (own := [("_law_one", 10)]) (by rfl) sc_l_needs.nd (listK K (pe_call G_l_names (hr.mono (by decide)) (by rfl) T.m_l_names T.F_l_names.kp T.b_l_names .nil pass0 (pa_cons (pv 5) pa_nil))) (blkOk_by (own := [("_law_one", 10)]) (N := N_l_needs) (sc := defScope s_l_needs) (by decide +kernel)) (fun _ _ _ _ _ => (pg_name (i := 10) sc_l_needs.nd rfl (Or.inl rfl))) (fun _ _ _ _ _ => (pts_one (PW.pt (pw_or (pt_cmpR op_eq (pv 3) pe_str (nomark _)) (pw_or1 (pt_cmpR (inSeq K) (pv 10) (pv 6) (by rfl))))))) (fun _ _ _ _ _ => (pv 10))))))))), ?_⟩
    have hj : j < as.length := by rw [fp.1]; exact (List.getElem?_eq_some_iff.mp hq).1
    have hbj : as[j]? = some as[j] := List.getElem?_eq_getElem hj
    obtain ⟨tl, ea, et⟩ := fp.2 j _ q hbj hq
    refine ⟨_, rfl, _, rfl, ps, _, _, _, rfl, rfl, SqL.of ep, atI_nat (by rw [List.getElem?_map, hbj]; rfl), as[j], _, rfl, SqT.of ea, rfl, _, _, rfl, _, _, rfl, _, _, rfl, rfl, ?_⟩
    refine ⟨_, rfl, rfl, _, rfl, ?_⟩
    rw [dec_str]
    refine iteD (fun h1 => ?_) (fun h1 => ?_)
    · have ek : U.nd (mkR head qs) q = [] := by
        unfold U.nd
        rw [if_neg (by rw [h1]; decide +kernel), if_neg (by rw [h1]; decide +kernel), if_neg (by rw [h1]; decide +kernel)]
      rw [ek] at k
      exact ⟨Nat.zero_le _, fun l hl => k l _ (same_new hl) upd_same⟩
    · refine ⟨_, rfl, rfl, _, rfl, ?_⟩
      rw [dec_str]
      refine iteD (fun h2 => ?_) (fun h2 => ?_)
      · have ek : U.nd (mkR head qs) q = nms (q.ts.drop 1) := by
          unfold U.nd
          rw [if_neg (by rw [h2]; decide +kernel), if_pos h2]
        rw [ek] at k
        refine ⟨_, rfl, _, rfl, tl, _, rfl, SqL.of et, fun m hm => ⟨m, q.ts.drop 1, rfl, ?_, ?_, fun l H' s e => k l H' ((same_new hm).trans s) e⟩⟩
        · rw [upd_same, show ((1 : Int)) = ((1 : Nat) : Int) from rfl, cut_drop, List.map_drop]
        · rw [List.length_drop]
          have := hts.1
          omega
      · have ek := nd_law (head := head) (hD0.kinds q (List.mem_of_getElem? hq)) hq h1 h2
        refine ⟨_, rfl, _, rfl, ps, _, rfl, SqL.of ep, fun D hD => ?_⟩
        have st : Stab D fun H y (k : Nat) => ∃ b, y = .ref b ∧ H b = some (.lst ((U.pt (mkR head qs) k).ts.map tvv)) ∧ b ≠ D := ⟨fun ⟨b, e, h, n⟩ s => ⟨b, e, s _ _ h, n⟩, fun hl ⟨b, e, h, n⟩ => ⟨b, e, by rw [upd_ne n]; exact h, n⟩⟩
        refine lc_enum (K := K) (a := ps) (xs := as.map V.ref) (LcI (fun H y (k : Nat) => ∃ b, y = .ref b ∧ H b = some (.lst ((U.pt (mkR head qs) k).ts.map tvv)) ∧ b ≠ D) (fun k => decide (k ≠ j)) (List.range qs.length) H D) (LcI.start hD) (fun i H' _ h => SqL.of (h.1 _ _ ep)) ?_ ?_
        · intro i x t1 H5 hx h ht1
          obtain ⟨b, q', rfl, eb, hq', tl', ea', et'⟩ := fp.at hx
          have hi : i < qs.length := (List.getElem?_eq_some_iff.mp hq').1
          have s6 : Same H5 (upd H5 t1 (.tup [.int (i : Nat), .ref b])) := same_new ht1
          have eri : (List.range qs.length)[i]? = some i := List.getElem?_range hi
          refine ⟨t1, _, rfl, SqT.of upd_same, rfl, _, _, rfl, _, _, rfl, rfl, rfl, ?_⟩
          refine ⟨_, rfl, _, rfl, rfl, _, rfl, ?_⟩
          rw [dec_int]
          have eD6 := s6 _ _ h.2.choose_spec.1
          refine iteND (fun hn => ?_) (fun he => ?_)
          · refine ⟨_, rfl, b, _, _, _, rfl, rfl, SqT.of (s6 _ _ (h.1 _ _ ea')), atI_nat (j := 2) rfl, tl', rfl, ⟨_, SqL.of (s6 _ _ (h.1 _ _ et'))⟩, fun D2 hD2 => ?_⟩
            refine lc_list (K := K) (a := tl') (xs := q'.ts.map tvv) (LcI (fun _ y (t : Tm) => y = tvv t) (fun _ => true) q'.ts _ D2) (LcI.start hD2) (fun i H' _ h' => SqL.of (h'.1 _ _ (s6 _ _ (h.1 _ _ et')))) ?_ ?_
            · intro i2 y H7 hy h7
              rw [List.getElem?_map] at hy
              obtain ⟨t, ht, rfl⟩ := Option.map_eq_some_iff.mp hy
              exact ⟨rfl, _, rfl, h7.yes (stab_val _) hD2 (by have := (hD0.ts hq').1; omega) ht rfl (fun _ _ e => e) rfl⟩
            · intro H7 h7
              obtain ⟨ys, s7, eD2, hv⟩ := h7.fin (by rw [List.length_map]; exact Nat.le_refl _)
              rw [filter_tt] at hv
              have ey := VAll.eq (f := tvv) hv
              subst ey
              refine h.yes st hD (by rw [List.length_range]; omega) eri (by simpa using fun z : i = j => hn (by rw [z])) (s6.trans s7) ⟨D2, rfl, ?_, (ne_of_none eD6 hD2).symm⟩
              rw [pt_at (r := mkR head qs) hq']
              exact eD2
          · exact h.no st eri (by simpa using (by omega : i = j)) s6
        · intro H5 h
          obtain ⟨ys, s5, eD5, hv⟩ := h.fin (by rw [List.length_map, fp.1, List.length_range]; exact Nat.le_refl _)
          obtain ⟨cs, rfl, hcs⟩ := VAll.refs (R := fun b k => H5 b = some (.lst ((U.pt (mkR head qs) k).ts.map tvv))) (hv.imp fun y k ⟨b, e, h, _⟩ => ⟨b, e, h⟩)
          have hl : ∀ l ∈ (((List.range qs.length).filter fun k => decide (k ≠ j)).map fun k => (U.pt (mkR head qs) k).ts), l.length ≤ 20 := fun l hl => by
            obtain ⟨k, hk, rfl⟩ := List.mem_map.mp hl
            have hkl : k < qs.length := List.mem_range.mp (List.mem_filter.mp hk).1
            have hqk : qs[k]? = some qs[k] := List.getElem?_eq_getElem hkl
            rw [pt_at (r := mkR head qs) hqk]
            exact (hD0.ts hqk).1
          have hll := flat_len hl
          have hlr : ((List.range qs.length).filter fun k => decide (k ≠ j)).length ≤ 20 := Nat.le_trans (List.length_filter_le _ _) (by rw [List.length_range]; exact h20)
          rw [List.length_map] at hll
          refine ⟨D, cs, ((((List.range qs.length).filter fun k => decide (k ≠ j)).map fun k => (U.pt (mkR head qs) k).ts)).map fun l => l.map tvv, rfl, eD5, ⟨by rw [List.length_map, List.length_map]; exact hcs.1, fun i b l h1 h2 => ?_⟩, ?_, fun u H6 s6 eu => ?_⟩
          · rw [List.getElem?_map, List.getElem?_map] at h2
            obtain ⟨l1, h3, rfl⟩ := Option.map_eq_some_iff.mp h2
            obtain ⟨k, h4, rfl⟩ := Option.map_eq_some_iff.mp h3
            exact hcs.2 i b k h1 h4
          · rw [← List.map_flatten, List.length_map]
            omega
          · have s06 := s5.trans s6
            have huz : (((((List.range qs.length).filter fun k => decide (k ≠ j)).map fun k => (U.pt (mkR head qs) k).ts)).map fun l => l.map tvv).flatten.length ≤ 400 := by
              rw [← List.map_flatten, List.length_map]
              omega
            refine ⟨hd, u, _, _, rfl, rfl, s06 _ _ eh, eu, (by rw [List.length_map]; exact sz' (by omega)), fun m hm => ?_⟩
            have s7 := s06.trans (same_new (o := .lst (head.map tvv ++ (((((List.range qs.length).filter fun k => decide (k ≠ j)).map fun k => (U.pt (mkR head qs) k).ts)).map fun l => l.map tvv).flatten)) hm)
            have em : upd H6 m (.lst (head.map tvv ++ (((((List.range qs.length).filter fun k => decide (k ≠ j)).map fun k => (U.pt (mkR head qs) k).ts)).map fun l => l.map tvv).flatten)) m = some (.lst ((head ++ (((List.range qs.length).filter fun k => decide (k ≠ j)).map fun k => (U.pt (mkR head qs) k).ts).flatten).map tvv)) := by
              rw [upd_same, map_flat]
            generalize hOT : head ++ (((List.range qs.length).filter fun k => decide (k ≠ j)).map fun k => (U.pt (mkR head qs) k).ts).flatten = OT at em ek
            generalize upd H6 m (.lst (head.map tvv ++ (((((List.range qs.length).filter fun k => decide (k ≠ j)).map fun k => (U.pt (mkR head qs) k).ts)).map fun l => l.map tvv).flatten)) = H7 at s7 em ⊢
            refine ⟨_, rfl, tl, q.ts, rfl, s7 _ _ et, by have := hts.1; omega, fun l1 H8 s8 e1 => ⟨l1, rfl, ⟨_, SqL.of e1⟩, fun D3 hD3 => ?_⟩⟩
            refine lc_list (K := K) (a := l1) (xs := (nms q.ts).map V.str) (LcI (fun _ y (x : Str) => y = .str x) (fun x => decide (q.kind = "cmp") || decide (x ∈ vars OT)) (nms q.ts) H8 D3) (LcI.start hD3) (fun i H' _ h => SqL.of (h.1 _ _ e1)) ?_ ?_
            · intro i y H9 hy h9
              rw [List.getElem?_map] at hy
              obtain ⟨z, hz, rfl⟩ := Option.map_eq_some_iff.mp hy
              have hzl : (nms q.ts).length ≤ 999 := by have := (wfT_nms hts).2; omega
              refine ⟨rfl, _, rfl, rfl, _, rfl, ?_⟩
              rw [dec_str]
              refine iteD (fun hc => ?_) (fun hc => ?_)
              · exact iteT ⟨_, rfl, h9.yes (stab_val _) hD3 hzl hz (by rw [decide_eq_true hc]; rfl) (fun _ _ e => e) rfl⟩
              · refine ⟨V.str z, rfl, _, rfl, m, _, rfl, .inl (SqL.of (h9.1 _ _ (s8 _ _ em))), rfl, flat_tv _, _, rfl, ?_⟩
                rw [if_neg (by decide), inV_tv]
                refine iteD (fun hm => ?_) (fun hm => ?_)
                · exact ⟨_, rfl, h9.yes (stab_val _) hD3 hzl hz (by rw [decide_eq_true hm, Bool.or_true]) (fun _ _ e => e) rfl⟩
                · exact h9.no (stab_val _) hz (by rw [decide_eq_false hm, decide_eq_false hc]; rfl) (fun _ _ e => e)
            · intro H9 h9
              obtain ⟨ys, s9, eD9, hv⟩ := h9.fin (by rw [List.length_map]; exact Nat.le_refl _)
              have ey := VAll.eq (f := V.str) hv
              subst ey
              rw [ek] at k
              exact k D3 H9 ((s7.trans s8).trans s9) eD9
end
end Toy

set_option Elab.async false
set_option maxRecDepth 100000
set_option maxHeartbeats 4000000
namespace Toy
open PySem L2
open U (Tm Pt RR tn nms vars addN dd rows cnt)
theorem rdy_filter (r : RR) (b : List Str) (q : Pt) : decide (((U.nd r q).filter fun x => decide (x ∉ b)).length = 0) = U.rdy r b q := by
  unfold U.rdy
  rw [Bool.eq_iff_iff, decide_eq_true_iff, List.all_eq_true, List.length_eq_zero_iff, List.filter_eq_nil_iff]
  constructor
  · intro h x hx
    have := h x hx
    simpa using this
  · intro h x hx
    have := h x hx
    simpa using this
theorem gv_let {q : Pt} {s : Str} {tr : List Tm} (hk : q.kind = "let") (ht : q.ts = .inl s :: tr) : U.gv q = [s] := by
  unfold U.gv
  rw [if_neg (by rw [hk]; decide +kernel), if_pos hk, ht]
  rfl
section
variable {P : Program} {w : World} {K : PySem.W.Frag} {mg : Str → Option Value} {base : Heap} {A : Ad}
theorem ok_llimited (T : Txt K mg A) : FnOk P w K mg base CX0 3 A.f_l_limited A.d_l_limited ["_law_head", "_law_parts"] spLLimited := by
  have G_l_names : FnOk P w K mg base CX0 1 A.f_l_names A.d_l_names ["_law_terms"] spLNames := ok_lnames T
  have G_l_needs : FnOk P w K mg base CX0 2 A.f_l_needs A.d_l_needs ["_law_head", "_law_parts", "_law_j"] spLNeeds := ok_lneeds T
  refine T.F_l_limited.ok sc_l_limited (fun vs H Q E h => ?_) (fun cdv ar outer s H vs Q E hr h => ?_)
  · obtain ⟨hd, ps, head, qs, rfl, _⟩ := h
    rfl
  · obtain ⟨hd, ps, head, qs, rfl, eh, ⟨as, ep, fp⟩, hD0, k⟩ := h
    have h20 : qs.length ≤ 20 := hD0.wf.body.1
    refine ⟨_, (C8.pss_cut (ps_set (i := 2) sc_l_limited.nd rfl (Or.inr rfl) (pe_lst pa_nil))
      (C8.pss_cut (ps_for PassesOwn.never rfl (pi_range1 (by rfl) T.z_range (pa_cons (pe_op op_add (pe_callB (lenK K) (by rfl) T.z_len (by decide +kernel) (pa_cons (pv 1) pa_nil)) pe_int) pa_nil)) (pg_name (i := 3) sc_l_limited.nd rfl (Or.inl rfl))
        (pss_one (ps_for PassesOwn.never rfl (pi_range1 (by rfl) T.z_range (pa_cons (pe_callB (lenK K) (by rfl) T.z_len (by decide +kernel) (pa_cons (pv 1) pa_nil)) pa_nil)) (pg_name (i := 4) sc_l_limited.nd rfl (Or.inl rfl))
          (pss_one (ps_if (pt_cmpR (eqL K hr.units0) (pe_lc (own := [("_law_one", 7)]) (by rfl) sc_l_limited.nd (listK K (pe_call G_l_needs (hr.mono (by decide)) (by rfl) T.m_l_needs T.F_l_needs.kp T.b_l_needs .nil pass0 (pa_cons (pv 0) (pa_cons (pv 1) (pa_cons (pv 4) pa_nil))))) (blkOk_by (own := [("_law_one", 7)]) (N := N_l_limited) (sc := defScope s_l_limited) (by decide +kernel)) (fun _ _ _ _ _ => (pg_name (i := 7) sc_l_limited.nd rfl (Or.inl rfl))) (fun _ _ _ _ _ => (pts_one (pt_cmpR (notInSeq K) (pv 7) (pv 2) (by rfl)))) (fun _ _ _ _ _ => (pv 7))) (pe_lst pa_nil) (nomark _))
            (C8.pss_cut (ps_set (i := 5) sc_l_limited.nd rfl (Or.inl rfl) (pe_call G_l_names (hr.mono (by decide)) (by rfl) T.m_l_names T.F_l_names.kp T.b_l_names .nil pass0 (pa_cons (pe_ix (ixT K) (pe_ix (ixL K) (pv 1) (pv 4) (fun _ _ => rfl)) pe_int (fun _ _ => rfl)) pa_nil)))
            (C8.pss_cut (ps_set (i := 6) sc_l_limited.nd rfl (Or.inl rfl) (pe_ifExp (pt_cmpR op_eq (pe_ix (ixT K) (pe_ix (ixL K) (pv 1) (pv 4) (fun _ _ => rfl)) pe_int (fun _ _ => rfl)) pe_str (nomark _)) (pv 5) (pe_ifExp (pt_cmpR op_eq (pe_ix (ixT K) (pe_ix (ixL K) (pv 1) (pv 4) (fun _ _ => rfl)) pe_int (fun _ _ => rfl)) pe_str (nomark _)) (pe_slice (slL K) (pe_ix (ixT K) (pe_ix (ixL K) (pv 1) (pv 4) (fun _ _ => rfl)) pe_int (fun _ _ => rfl)) po_none (po_some pe_int)) (pe_lst pa_nil))))
            (pss_one (ps_set (i := 2) sc_l_limited.nd rfl (Or.inr rfl) (pe_op op_cat (pv 2) (pe_lc (own := [("_law_one", 7)]) (by rfl) sc_l_limited.nd (listK K (pv 6)) (blkOk_by (own := [("_law_one", 7)]) (N := N_l_limited) (sc := defScope s_l_limited) (by decide +kernel)) (fun _ _ _ _ _ => (pg_name (i := 7) sc_l_limited.nd rfl (Or.inl rfl))) (fun _ _ _ _ _ => (pts_one (pt_cmpR (notInSeq K) (pv 7) (pv 2) (by rfl)))) (fun _ _ _ _ _ => (pv 7))))))))
            pss_nil)))))
      (pss_one (ps_ret (pv 2))))), ?_⟩
    refine ⟨fun σ H' => ∃ l, σ = [some (.ref hd), some (.ref ps), some (.ref l), none, none, none, none, none] ∧ Same H H' ∧ H' l = some (.lst []), ⟨Nat.zero_le _, fun l hl => ⟨l, rfl, same_new hl, upd_same⟩⟩, ?_⟩
    rintro σ H1 ⟨l0, rfl, s1, el0⟩
    refine ⟨fun σ H' => ∃ l y3 y4 y5 y6, σ = [some (.ref hd), some (.ref ps), some (.ref l), y3, y4, y5, y6, none] ∧ Same H H' ∧ H' l = some (.lst ((U.lim (mkR head qs)).map V.str)), ?_, ?_⟩
    · refine ⟨_, rfl, ps, _, rfl, .inl (SqL.of (s1 _ _ ep)), _, _, rfl, rfl, ?_⟩
      rw [List.length_map, fp.1]
      refine ⟨_, rfl, by omega, by omega, ?_⟩
      refine for_range (n := ((qs.length : Nat) + 1 : Int).toNat) (fun i σ H' => ∃ l y3 y4 y5 y6, σ = [some (.ref hd), some (.ref ps), some (.ref l), y3, y4, y5, y6, none] ∧ Same H H' ∧ H' l = some (.lst ((U.itp (mkR head qs) i).map V.str)))
        ⟨l0, none, none, none, none, rfl, s1, el0⟩ ?_ ?_
      · rintro i σ H2 hi ⟨l, y3, y4, y5, y6, rfl, s2, el⟩
        have hi2 : i < qs.length + 1 := by omega
        refine ⟨_, rfl, ps, _, rfl, .inl (SqL.of (s2 _ _ ep)), ?_⟩
        rw [List.length_map, fp.1]
        refine ⟨((qs.length : Nat) : Int), rfl, by omega, by omega, ?_⟩
        refine for_range (n := ((qs.length : Nat) : Int).toNat) (fun j σ H' => ∃ l y4 y5 y6, σ = [some (.ref hd), some (.ref ps), some (.ref l), some (.int (0 + i)), y4, y5, y6, none] ∧ Same H H' ∧ H' l = some (.lst (((qs.take j).foldl (U.step (mkR head qs)) (U.itp (mkR head qs) i)).map V.str)))
          ⟨l, y4, y5, y6, rfl, s2, el⟩ ?_ ?_
        · rintro j σ H3 hj ⟨l, y4, y5, y6, rfl, s3, el⟩
          rw [Int.toNat_natCast] at hj
          have hq : qs[j]? = some qs[j] := List.getElem?_eq_getElem hj
          generalize hqe : qs[j] = q at hq
          have hja : j < as.length := by rw [fp.1]; exact hj
          have hbj : as[j]? = some as[j] := List.getElem?_eq_getElem hja
          obtain ⟨tl, ea, et⟩ := fp.2 j _ q hbj hq
          have hts := hD0.ts hq
          have ej : ((0 : Int) + (j : Int)) = ((j : Nat) : Int) := by omega
          generalize hF : (qs.take j).foldl (U.step (mkR head qs)) (U.itp (mkR head qs) i) = F at el
          have hFnd : F.Nodup := by rw [← hF]; exact U.steps_nodup _ _ (U.itp_nodup _ _)
          have hFsub : ∀ x ∈ F, x ∈ allN (mkR head qs) := by rw [← hF]; exact steps_sub (r := mkR head qs) (qs.take j) (fun q h => List.mem_of_mem_take h) (itp_sub _ i)
          have hFl : F.length ≤ 400 := Nat.le_trans (nodup_le hFnd hFsub) (allN_le hD0.wf)
          have estep : (qs.take (j + 1)).foldl (U.step (mkR head qs)) (U.itp (mkR head qs) i) = U.step (mkR head qs) F q := by
            rw [take_one hq, List.foldl_append, hF]
            rfl
          rw [ej]
          refine ⟨_, rfl, _, rfl, _, rfl, hd, ps, j, head, qs, q, rfl, s3 _ _ eh, LPs.up ⟨as, ep, fp⟩ s3, hD0, hq, fun l1 H4 s4 e1 => ⟨l1, rfl, ⟨_, SqL.of e1⟩, fun D hD => ?_⟩⟩
          refine lc_list (K := K) (a := l1) (xs := (U.nd (mkR head qs) q).map V.str) (LcI (fun _ y (x : Str) => y = .str x) (fun x => decide (x ∉ F)) (U.nd (mkR head qs) q) H4 D) (LcI.start hD) (fun i H' _ h => SqL.of (h.1 _ _ e1)) ?_ ?_
          · intro i2 y H5 hy h5
            rw [List.getElem?_map] at hy
            obtain ⟨z, hz, rfl⟩ := Option.map_eq_some_iff.mp hy
            refine ⟨rfl, V.str z, rfl, _, rfl, l, _, rfl, .inl (SqL.of (h5.1 _ _ (s4 _ _ el))), rfl, flat_str _, _, rfl, ?_⟩
            rw [if_pos rfl, inV_str]
            refine iteND (fun hn => ?_) (fun hn => ?_)
            · exact ⟨_, rfl, h5.yes (stab_val _) hD (by have := nd_len (r := mkR head qs) hts; omega) hz (by simpa using hn) (fun _ _ e => e) rfl⟩
            · exact h5.no (stab_val _) hz (by simpa using hn) (fun _ _ e => e)
          · intro H5 h5
            obtain ⟨ys, s5, eD5, hv⟩ := h5.fin (by rw [List.length_map]; exact Nat.le_refl _)
            have ey := VAll.eq (f := V.str) hv
            subst ey
            refine ⟨Nat.zero_le _, fun m hm => ⟨D, m, _, rfl, rfl, SqL.of (same_new hm _ _ eD5), SqL.of upd_same, _, rfl, ?_⟩⟩
            have s6 : Same H (upd H5 m (.lst [])) := ((s3.trans s4).trans s5).trans (same_new hm)
            have el6 := same_new (o := .lst []) hm _ _ (s5 _ _ (s4 _ _ el))
            rw [List.length_map, rdy_filter]
            generalize upd H5 m (.lst []) = H6 at s6 el6 ⊢
            refine iteB (fun hrd => ?_) (fun hrd => ?_)
            · have ix2 : ∀ H7, Same H H7 → H7 ps = some (.lst (as.map V.ref)) ∧ H7 as[j] = some (.tup [.str q.kind, .str q.name, .ref tl]) ∧ H7 tl = some (.lst (q.ts.map tvv)) := fun H7 s7 => ⟨s7 _ _ ep, s7 _ _ ea, s7 _ _ et⟩
              have eix : (as.map V.ref)[j]? = some (.ref as[j]) := by rw [List.getElem?_map, hbj]; rfl
              refine ⟨fun σ H' => ∃ n5, σ = [some (.ref hd), some (.ref ps), some (.ref l), some (.int (0 + i)), some (.int ((j : Nat) : Int)), some (.ref n5), y6, none] ∧ Same H H' ∧ H' l = some (.lst (F.map V.str)) ∧ H' n5 = some (.lst ((nms q.ts).map V.str)), ?_, ?_⟩
              · obtain ⟨p1, p2, p3⟩ := ix2 H6 s6
                exact ⟨_, rfl, _, rfl, ps, _, _, _, rfl, rfl, SqL.of p1, atI_nat eix, as[j], _, _, _, rfl, rfl, SqT.of p2, atI_nat (j := 2) rfl, tl, q.ts, rfl, p3, by have := hts.1; omega, fun n5 H7 s7 e7 => ⟨n5, rfl, s6.trans s7, s7 _ _ el6, e7⟩⟩
              · rintro σ H7 ⟨n5, rfl, s7, el7, en5⟩
                obtain ⟨p1, p2, p3⟩ := ix2 H7 s7
                refine ⟨fun σ H' => ∃ fr, σ = [some (.ref hd), some (.ref ps), some (.ref l), some (.int (0 + i)), some (.int ((j : Nat) : Int)), some (.ref n5), some (.ref fr), none] ∧ Same H H' ∧ H' l = some (.lst (F.map V.str)) ∧ H' fr = some (.lst ((U.gv q).map V.str)), ?_, ?_⟩
                · refine ⟨_, rfl, _, rfl, ps, _, _, _, rfl, rfl, SqL.of p1, atI_nat eix, as[j], _, _, _, rfl, rfl, SqT.of p2, atI_nat (j := 0) rfl, rfl, _, rfl, ?_⟩
                  rw [dec_str]
                  refine iteD (fun hk => ?_) (fun hk => ?_)
                  · refine ⟨_, rfl, n5, rfl, s7, el7, ?_⟩
                    rw [show U.gv q = nms q.ts from if_pos hk]
                    exact en5
                  · refine ⟨_, rfl, _, rfl, ps, _, _, _, rfl, rfl, SqL.of p1, atI_nat eix, as[j], _, _, _, rfl, rfl, SqT.of p2, atI_nat (j := 0) rfl, rfl, _, rfl, ?_⟩
                    rw [dec_str]
                    refine iteD (fun hk2 => ?_) (fun hk2 => ?_)
                    · obtain ⟨s0, tr, hst⟩ := hD0.lets q (List.mem_of_getElem? hq) hk2
                      refine ⟨_, rfl, _, rfl, ps, _, _, _, rfl, rfl, SqL.of p1, atI_nat eix, as[j], _, _, _, rfl, rfl, SqT.of p2, atI_nat (j := 2) rfl, _, rfl, tl, _, rfl, SqL.of p3, fun fr hfr => ⟨fr, rfl, s7.trans (same_new hfr), same_new hfr _ _ el7, ?_⟩⟩
                      rw [upd_same, show ((1 : Int)) = ((1 : Nat) : Int) from rfl, cut_take, gv_let hk2 hst, hst]
                      rfl
                    · refine ⟨Nat.zero_le _, fun fr hfr => ⟨fr, rfl, s7.trans (same_new hfr), same_new hfr _ _ el7, ?_⟩⟩
                      have eg : U.gv q = [] := by
                        unfold U.gv
                        rw [if_neg hk, if_neg hk2]
                      rw [upd_same, eg]
                      rfl
                · rintro σ H8 ⟨fr, rfl, s8, el8, efr⟩
                  refine ⟨_, rfl, _, rfl, fr, rfl, ⟨_, SqL.of efr⟩, fun D2 hD2 => ?_⟩
                  refine lc_list (K := K) (a := fr) (xs := (U.gv q).map V.str) (LcI (fun _ y (x : Str) => y = .str x) (fun x => decide (x ∉ F)) (U.gv q) H8 D2) (LcI.start hD2) (fun i H' _ h => SqL.of (h.1 _ _ efr)) ?_ ?_
                  · intro i2 y H9 hy h9
                    rw [List.getElem?_map] at hy
                    obtain ⟨z, hz, rfl⟩ := Option.map_eq_some_iff.mp hy
                    refine ⟨rfl, V.str z, rfl, _, rfl, l, _, rfl, .inl (SqL.of (h9.1 _ _ el8)), rfl, flat_str _, _, rfl, ?_⟩
                    rw [if_pos rfl, inV_str]
                    refine iteND (fun hn => ?_) (fun hn => ?_)
                    · exact ⟨_, rfl, h9.yes (stab_val _) hD2 (by have := gv_len hts; omega) hz (by simpa using hn) (fun _ _ e => e) rfl⟩
                    · exact h9.no (stab_val _) hz (by simpa using hn) (fun _ _ e => e)
                  · intro H9 h9
                    obtain ⟨ys, s9, eD9, hv⟩ := h9.fin (by rw [List.length_map]; exact Nat.le_refl _)
                    have ey := VAll.eq (f := V.str) hv
                    subst ey
                    refine ⟨l, D2, _, _, rfl, rfl, s9 _ _ el8, eD9, ?_, fun m2 hm2 => ⟨m2, _, _, _, rfl, (s8.trans s9).trans (same_new hm2), ?_⟩⟩
                    · rw [List.length_map, List.length_map]
                      have h1 := List.length_filter_le (fun x => decide (x ∉ F)) (U.gv q)
                      have h2 := gv_len hts
                      exact sz' (by omega)
                    · rw [upd_same, estep, ← List.map_append, show U.step (mkR head qs) F q = (U.gv q).foldl addN F from if_pos hrd, notIn_fold (gv_nodup q)]
            · refine ⟨l, _, _, _, rfl, s6, ?_⟩
              rw [estep, show U.step (mkR head qs) F q = F from if_neg (by rw [hrd]; decide)]
              exact el6
        · rintro σ H3 ⟨l, y4, y5, y6, rfl, s3, el⟩
          rw [Int.toNat_natCast, List.take_of_length_le (Nat.le_refl _)] at el
          exact ⟨l, _, y4, y5, y6, rfl, s3, el⟩
      · rintro σ H2 ⟨l, y3, y4, y5, y6, rfl, s2, el⟩
        refine ⟨l, y3, y4, y5, y6, rfl, s2, ?_⟩
        have e1 : ((qs.length : Nat) + 1 : Int).toNat = qs.length + 1 := by omega
        rw [e1] at el
        exact el
    · rintro σ H2 ⟨l, y3, y4, y5, y6, rfl, s2, el⟩
      exact ⟨_, rfl, k l H2 s2 el⟩
end
end Toy

set_option Elab.async false
set_option maxRecDepth 100000
set_option maxHeartbeats 4000000
namespace Toy
open PySem L2
open U (Tm Pt RR tn nms vars addN dd rows cnt)
/-! ### what is drawn -/
def gT : Tm → Prop
  | .inl s => s = "W" ∨ s = "X" ∨ s = "Y" ∨ s = "Z"
  | .inr i => 0 ≤ i ∧ i ≤ 7
theorem gT_ok {t : Tm} (h : gT t) : okT t = true := by
  cases t with
  | inl s =>
    rcases h with rfl | rfl | rfl | rfl <;> decide +kernel
  | inr i => rfl
theorem gT_short {t : Tm} (h : gT t) : U.tlong t = false := by
  cases t with
  | inl s => rfl
  | inr i =>
    obtain ⟨h1, h2⟩ := h
    show (!(decide (-999999999999999999 ≤ i) && decide (i ≤ 999999999999999999))) = false
    rw [decide_eq_true (by omega), decide_eq_true (by omega)]
    rfl
structure GoodP (q : Pt) : Prop where
  kind : q.kind = "pos" ∨ q.kind = "neg" ∨ q.kind = "cmp" ∨ q.kind = "let"
  lets : q.kind = "let" → ∃ s tr, q.ts = .inl s :: tr
  ts : q.ts.length ≤ 3 ∧ ∀ t ∈ q.ts, gT t
  name : q.name = "p" ∨ q.name = "q" ∨ q.name = "+" ∨ q.name = "<"
  nm : q.kind = "pos" ∨ q.kind = "neg" → q.name = "p" ∨ q.name = "q"
/-- a part as drawn, apart from the dice -/
def LPtX (d : Addr) (H : Hp) (a : Addr) (q : Pt) : Prop := ∃ tl, H a = some (.tup [.str q.kind, .str q.name, .ref tl]) ∧ H tl = some (.lst (q.ts.map tvv)) ∧ tl ≠ d
theorem sign4 {j : Int} (h0 : 0 ≤ j) (h1 : j < 4) : ∃ (s : Str) (c : Nat), gT (.inl s) ∧ atI (("WXYZ" : Str).cps.toList) j = some c ∧ (.str s : V) = .str ⟨#[c]⟩ := by
  have : j = 0 ∨ j = 1 ∨ j = 2 ∨ j = 3 := by omega
  rcases this with rfl | rfl | rfl | rfl
  · exact ⟨"W", 87, .inl rfl, by decide +kernel, by decide +kernel⟩
  · exact ⟨"X", 88, .inr (.inl rfl), by decide +kernel, by decide +kernel⟩
  · exact ⟨"Y", 89, .inr (.inr (.inl rfl)), by decide +kernel, by decide +kernel⟩
  · exact ⟨"Z", 90, .inr (.inr (.inr rfl)), by decide +kernel, by decide +kernel⟩
theorem sign2 {j : Int} (h0 : 0 ≤ j) (h1 : j < 2) : ∃ (s : Str) (c : Nat), (s = "p" ∨ s = "q") ∧ atI (("pq" : Str).cps.toList) j = some c ∧ (.str s : V) = .str ⟨#[c]⟩ := by
  have : j = 0 ∨ j = 1 := by omega
  rcases this with rfl | rfl
  · exact ⟨"p", 112, .inl rfl, by decide +kernel, by decide +kernel⟩
  · exact ⟨"q", 113, .inr rfl, by decide +kernel, by decide +kernel⟩
theorem kind4 {j : Int} (h0 : 0 ≤ j) (h1 : j < 4) : ∃ s : Str, (s = "pos" ∨ s = "neg" ∨ s = "cmp" ∨ s = "let") ∧ atI ([.str "pos", .str "neg", .str "cmp", .str "let"] : List V) j = some (.str s) := by
  have : j = 0 ∨ j = 1 ∨ j = 2 ∨ j = 3 := by omega
  rcases this with rfl | rfl | rfl | rfl
  · exact ⟨"pos", .inl rfl, rfl⟩
  · exact ⟨"neg", .inr (.inl rfl), rfl⟩
  · exact ⟨"cmp", .inr (.inr (.inl rfl)), rfl⟩
  · exact ⟨"let", .inr (.inr (.inr rfl)), rfl⟩
def spPart : Sp := fun vs H Q _ => ∃ d : Addr, vs = [.ref d] ∧ DiceAt H d ∧ ∀ a q tl H', GoodP q → SameX d H H' → DiceAt H' d → H tl = none → tl ≠ d → H' a = some (.tup [.str q.kind, .str q.name, .ref tl]) → H' tl = some (.lst (q.ts.map tvv)) → Q (.ref a) H'
/-- what a comprehension over the dice has made -/
def LcD (d : Addr) (H0 : Hp) (D : Addr) (i : Nat) (H : Hp) : Prop := SameX d H0 H ∧ DiceAt H d ∧ ∃ ts : List Tm, H D = some (.lst (ts.map tvv)) ∧ ts.length = i ∧ ∀ t ∈ ts, gT t
theorem LcD.start {d D : Addr} {H0 : Hp} (hD : H0 D = none) (hd : DiceAt H0 d) : LcD d H0 D 0 (upd H0 D (.lst [])) := ⟨Same.x (same_new hD), hd.up1 (hd.ne hD), [], upd_same, rfl, fun _ h => nomatch h⟩
theorem LcD.yes {d D : Addr} {H0 H H2 : Hp} {i : Nat} {t : Tm} (hD : H0 D = none) (h : LcD d H0 D i H) (hi : i ≤ 900) (s : SameX d H H2) (hd : DiceAt H2 d) (nd : D ≠ d) (ht : gT t) :
    ∃ acc, H2 D = some (.lst acc) ∧ acc.length < sizeLine ∧ LcD d H0 D (i + 1) (upd H2 D (.lst (acc ++ [tvv t]))) := by
  obtain ⟨s1, _, ts, eD, hl, hg⟩ := h
  have e2 := s _ _ eD nd
  refine ⟨ts.map tvv, e2, by rw [List.length_map, hl]; exact sz (by omega), fun b o e nb => ?_, hd.up1 nd.symm, ts ++ [t], ?_, by rw [List.length_append, hl]; rfl, fun u hu => ?_⟩
  · rw [upd_ne (ne_of_none e hD)]
    exact s _ _ (s1 _ _ e nb) nb
  · rw [upd_same, List.map_append]
    rfl
  · rcases List.mem_append.mp hu with z | z
    · exact hg u z
    · rw [List.mem_singleton] at z
      rw [z]
      exact ht
section
variable {P : Program} {w : World} {K : PySem.W.Frag} {mg : Str → Option Value} {base : Heap} {A : Ad}
theorem ok_lpart (T : Txt K mg A) : FnOk P w K mg base CX0 2 A.f_l_part A.d_l_part ["_law_dice_here"] spPart := by
  have G_l_roll : FnOk P w K mg base CX0 1 A.f_l_roll A.d_l_roll ["_law_dice_here", "_law_many"] spRoll := ok_roll T
  refine T.F_l_part.ok sc_l_part (fun vs H Q E h => ?_) (fun cdv ar outer s H vs Q E hr h => ?_)
  · obtain ⟨d, rfl, _⟩ := h
    rfl
  · obtain ⟨d, rfl, hd, k⟩ := h
    refine ⟨_, (pss_cons (ps_set (i := 1) sc_l_part.nd rfl (Or.inl rfl) (pe_ix (ixL K) (pe_lst (pa_cons pe_str (pa_cons pe_str (pa_cons pe_str (pa_cons pe_str pa_nil))))) (pe_call G_l_roll (hr.mono (by decide)) (by rfl) T.m_l_roll T.F_l_roll.kp T.b_l_roll .nil pass0 (pa_cons (pv 0) (pa_cons pe_int pa_nil))) (fun _ _ => rfl)))
      (pss_cons (ps_setLc (i := 2) (own := [("_law_k", 3)]) (by rfl) sc_l_part.nd rfl rfl (sw_true rfl rfl rfl (by decide +kernel)) (pi_range1 (by rfl) T.z_range (pa_cons pe_int pa_nil)) (blkOk_by (own := [("_law_k", 3)]) (N := N_l_part) (sc := defScope s_l_part) (by decide +kernel)) (fun _ _ _ _ _ => (pg_name (i := 3) sc_l_part.nd rfl (Or.inl rfl))) (fun _ _ _ _ _ => pts_nil) (fun _ _ _ _ _ => (pe_ifExp (pt_cmpR op_gt (pe_call G_l_roll (hr.mono (by decide)) (by rfl) T.m_l_roll T.F_l_roll.kp T.b_l_roll .nil pass0 (pa_cons (pv 0) (pa_cons pe_int pa_nil))) pe_int (nomark _)) (pe_ix ix_str pe_str (pe_call G_l_roll (hr.mono (by decide)) (by rfl) T.m_l_roll T.F_l_roll.kp T.b_l_roll .nil pass0 (pa_cons (pv 0) (pa_cons pe_int pa_nil))) (fun _ _ => rfl)) (pe_call G_l_roll (hr.mono (by decide)) (by rfl) T.m_l_roll T.F_l_roll.kp T.b_l_roll .nil pass0 (pa_cons (pv 0) (pa_cons pe_int pa_nil))))))
      (pss_cons (ps_if (pt_cmpR op_eq (pv 1) pe_str (nomark _))
        (pss_one (ps_ret (pe_tup (pa_cons (pv 1) (pa_cons pe_str (pa_cons (pe_op op_cat (pe_lst (pa_cons (pe_ix ix_str pe_str (pe_call G_l_roll (hr.mono (by decide)) (by rfl) T.m_l_roll T.F_l_roll.kp T.b_l_roll .nil pass0 (pa_cons (pv 0) (pa_cons pe_int pa_nil))) (fun _ _ => rfl)) pa_nil)) (pe_slice (slL K) (pv 2) (po_some pe_int) po_none)) pa_nil))))))
        pss_nil)
      (pss_one (ps_ret (pe_tup (pa_cons (pv 1) (pa_cons (pe_ifExp (pt_cmpR op_eq (pv 1) pe_str (nomark _)) pe_str (pe_ix ix_str pe_str (pe_call G_l_roll (hr.mono (by decide)) (by rfl) T.m_l_roll T.F_l_roll.kp T.b_l_roll .nil pass0 (pa_cons (pv 0) (pa_cons pe_int pa_nil))) (fun _ _ => rfl))) (pa_cons (pe_slice (slL K) (pv 2) po_none (po_some pe_int)) pa_nil))))))))), ?_⟩
    refine ⟨(by show 4 ≤ sizeLine; decide), fun l0 hl0 => ?_⟩
    have hd0 : DiceAt (upd H l0 (.lst [.str "pos", .str "neg", .str "cmp", .str "let"])) d := hd.up1 (hd.ne hl0)
    have nl0 : l0 ≠ d := (hd.ne hl0).symm
    refine ⟨_, rfl, d, 4, rfl, hd0, by decide, by decide, fun kk H1 k0 k1 d1 f1 => ?_⟩
    obtain ⟨kd, hkd, hat⟩ := kind4 k0 k1
    refine ⟨l0, _, _, _, rfl, rfl, SqL.of (by rw [f1 l0 nl0, upd_same]), hat, ?_⟩
    have x1 : SameX d H H1 := (Same.x (same_new hl0)).trans (sx_of f1)
    refine ⟨3, rfl, by decide, by decide, fun D hD => ?_⟩
    have ndD : D ≠ d := (d1.ne hD).symm
    refine lc_range (n := 3) (LcD d H1 D) (LcD.start hD d1) ?_ ?_
    · intro i H2 hi h
      obtain ⟨x2, d2, _⟩ := id h
      refine ⟨rfl, _, rfl, d, 5, rfl, d2, by decide, by decide, fun n H3 n0 n1 d3 f3 => ⟨_, _, rfl, rfl, _, rfl, ?_⟩⟩
      refine iteD (fun _ => ?_) (fun _ => ?_)
      · refine ⟨_, rfl, d, 4, rfl, d3, by decide, by decide, fun j H4 j0 j1 d4 f4 => ?_⟩
        obtain ⟨s0, c, hs, hat2, es⟩ := sign4 j0 j1
        refine ⟨_, _, _, rfl, rfl, (by decide +kernel), hat2, ?_⟩
        rw [← es]
        exact LcD.yes (t := .inl s0) hD h (by omega) ((sx_of f3).trans (sx_of f4)) d4 ndD hs
      · refine ⟨_, rfl, d, 3, rfl, d3, by decide, by decide, fun j H4 j0 j1 d4 f4 => ?_⟩
        exact LcD.yes (t := .inr j) hD h (by omega) ((sx_of f3).trans (sx_of f4)) d4 ndD ⟨j0, by omega⟩
    · rintro H2 ⟨x2, d2, ts, eD, hlen, hg⟩
      have x02 := x1.trans x2
      refine ⟨_, rfl, rfl, _, rfl, ?_⟩
      rw [dec_str]
      refine iteD (fun hk => ?_) (fun hk => ?_)
      · refine ⟨_, rfl, _, rfl, d, 4, rfl, d2, by decide, by decide, fun j H4 j0 j1 d4 f4 => ?_⟩
        obtain ⟨s0, c, hs, hat2, es⟩ := sign4 j0 j1
        refine ⟨_, _, _, rfl, rfl, (by decide +kernel), hat2, ?_⟩
        rw [← es]
        refine ⟨(by show 1 ≤ sizeLine; decide), fun l hl => ?_⟩
        have eD4 : H4 D = some (.lst (ts.map tvv)) := by rw [f4 D ndD]; exact eD
        have eD5 := same_new (o := .lst [V.str s0]) hl _ _ eD4
        have d5 := d4.up1 (o := .lst [V.str s0]) (d4.ne hl)
        have el5 : upd H4 l (.lst [V.str s0]) l = some (.lst [V.str s0]) := upd_same
        have x5 : SameX d H (upd H4 l (.lst [V.str s0])) := (x02.trans (sx_of f4)).trans (Same.x (same_new hl))
        generalize upd H4 l (.lst [V.str s0]) = H5 at eD5 d5 el5 x5 ⊢
        refine ⟨_, rfl, _, rfl, D, _, rfl, SqL.of eD5, fun m hm => ?_⟩
        refine ⟨l, m, _, _, rfl, rfl, same_new hm _ _ el5, upd_same, ?_, fun q hq => ⟨(by show 3 ≤ sizeLine; decide), fun p hp => ?_⟩⟩
        · rw [show ((1 : Int)) = ((1 : Nat) : Int) from rfl, cut_drop, List.length_drop, List.length_map, hlen]
          show 1 + 2 ≤ sizeLine
          decide
        · have s6 := ((same_new (o := .lst (cutV (ts.map tvv) (some 1) none)) hm).trans (same_new (o := .lst ([V.str s0] ++ cutV (ts.map tvv) (some 1) none)) hq)).trans (same_new (o := .tup [.str kd, .str "+", .ref q]) hp)
          have nq : d ≠ q := (d5.up (same_new (o := .lst (cutV (ts.map tvv) (some 1) none)) hm)).ne hq
          have hqH : H q = none := (x5.trans (Same.x (same_new (o := .lst (cutV (ts.map tvv) (some 1) none)) hm))).free nq.symm hq
          refine k p ⟨kd, "+", .inl s0 :: ts.drop 1⟩ q _ ⟨hkd, fun _ => ⟨s0, _, rfl⟩, ⟨?_, ?_⟩, .inr (.inr (.inl rfl)), fun z => ?_⟩ (x5.trans (Same.x s6)) (d5.up s6) hqH nq.symm upd_same ?_
          · show (ts.drop 1).length + 1 ≤ 3
            rw [List.length_drop, hlen]
            decide
          · intro t ht
            rcases List.mem_cons.mp ht with rfl | ht
            · exact hs
            · exact hg t (List.mem_of_mem_drop ht)
          · have z : kd = "pos" ∨ kd = "neg" := z
            rw [hk] at z
            exfalso
            revert z
            decide +kernel
          · rw [upd_ne (ne_of_none upd_same hp), upd_same, show ((1 : Int)) = ((1 : Nat) : Int) from rfl, cut_drop, List.map_cons, List.map_drop]
            rfl
      · refine ⟨_, rfl, _, rfl, rfl, _, rfl, ?_⟩
        rw [dec_str]
        have last : ∀ (nm : Str) (H4 : Hp), SameX d H H4 → DiceAt H4 d → H4 D = some (.lst (ts.map tvv)) → (nm = "p" ∨ nm = "q" ∨ nm = "+" ∨ nm = "<") → (kd = "pos" ∨ kd = "neg" → nm = "p" ∨ nm = "q") → ∀ m, H4 m = none → ∀ p, upd H4 m (.lst (cutV (ts.map tvv) none (some 2))) p = none →
            Q (.ref p) (upd (upd H4 m (.lst (cutV (ts.map tvv) none (some 2)))) p (.tup [.str kd, .str nm, .ref m])) := fun nm H4 x4 d4 eD4 hnm hnm2 m hm p hp => by
          have s6 := (same_new (o := .lst (cutV (ts.map tvv) none (some 2))) hm).trans (same_new (o := .tup [.str kd, .str nm, .ref m]) hp)
          refine k p ⟨kd, nm, ts.take 2⟩ m _ ⟨hkd, fun z => absurd z hk, ⟨?_, fun t ht => hg t (List.mem_of_mem_take ht)⟩, hnm, hnm2⟩ (x4.trans (Same.x s6)) (d4.up s6) (x4.free (d4.ne hm).symm hm) (d4.ne hm).symm upd_same ?_
          · show (ts.take 2).length ≤ 3
            rw [List.length_take]
            omega
          · rw [upd_ne (ne_of_none upd_same hp), upd_same, show ((2 : Int)) = ((2 : Nat) : Int) from rfl, cut_take, List.map_take]
        refine iteD (fun hk2 => ?_) (fun hk2 => ?_)
        · refine ⟨_, rfl, _, rfl, D, _, rfl, SqL.of eD, fun m hm => ⟨(by show 3 ≤ sizeLine; decide), fun p hp => ?_⟩⟩
          exact last "<" H2 x02 d2 eD (.inr (.inr (.inr rfl))) (fun z => by
            rw [hk2] at z
            exfalso
            revert z
            decide +kernel) m hm p hp
        · refine ⟨_, rfl, d, 2, rfl, d2, by decide, by decide, fun j H4 j0 j1 d4 f4 => ?_⟩
          obtain ⟨s0, c, hs, hat2, es⟩ := sign2 j0 j1
          refine ⟨_, _, _, rfl, rfl, (by decide +kernel), hat2, ?_⟩
          rw [← es]
          have eD4 : H4 D = some (.lst (ts.map tvv)) := by rw [f4 D ndD]; exact eD
          refine ⟨_, rfl, _, rfl, D, _, rfl, SqL.of eD4, fun m hm => ⟨(by show 3 ≤ sizeLine; decide), fun p hp => ?_⟩⟩
          exact last s0 H4 (x02.trans (sx_of f4)) d4 eD4 (hs.elim .inl (fun z => .inr (.inl z))) (fun _ => hs) m hm p hp
end
end Toy

set_option Elab.async false
set_option maxRecDepth 100000
set_option maxHeartbeats 4000000
namespace Toy
open PySem L2
open U (Tm Pt RR tn nms vars addN dd rows cnt)
def spParted (A : Ad) : Sp := fun vs H Q _ => ∃ (l a b : Addr) (r1 r2 : RR), vs = [.ref l] ∧ H l = some (.lst [.ref a, .ref b]) ∧ RuleAt A H a r1 ∧ RuleAt A H b r2 ∧ Wf r1 ∧ Wf r2 ∧ LetOk r1 ∧ LetOk r2 ∧ U.chk r1 = .ok ∧ U.chk r2 = .ok ∧ U.isF r1 = true ∧ U.isF r2 = false ∧
  ∀ p x y t u H', Same H H' → H' p = some (.tup [.ref x, .ref y]) → H' x = some (.tup [.ref t]) → H' t = some (.tup [.str r1.name, .ref u]) → H' u = some (.tup (r1.ts.map tval)) → H' y = some (.tup [.ref b]) → Q (.ref p) H'
/-- the name that the law's lambdas bear -/
abbrev qL : Str := ("law" : Str) ++ ".<locals>." ++ "<lambda>"
/-- what told answers to each refusal -/
def tlA (A : Ad) : List (Value × Str) := [(.ref A.C_BadSign, "sign"), (.ref A.C_BadRule, "rule"), (.ref A.C_BadKind, "kind"), (.ref A.C_BadLayer, "layer"), (.ref A.C_NoSuch, "no such"), (.ref A.C_BadDeed, "deed"), (.ref A.C_BadGround, "ground"), (.ref A.C_BadStore, "store"), (.ref A.C_Broken, "broken"), (.ref A.C_BadSize, "size")]
section
variable {P : Program} {w : World} {K : PySem.W.Frag} {mg : Str → Option Value} {base : Heap} {A : Ad}
theorem told_rule (T : Txt K mg A) {Q : VK} {H : Hp} (q : Q (.str "rule") H) : LamX.wTold K Q (tlA A) (.ref A.C_BadRule) H :=
  ⟨_, T.m_BadRule_BadSign, fun h => (Bool.noConfusion h : False).elim, fun _ => ⟨_, T.m_BadRule_BadRule, fun _ => q, fun h => (Bool.noConfusion h : False).elim⟩⟩
theorem told_size (T : Txt K mg A) {Q : VK} {H : Hp} (q : Q (.str "size") H) : LamX.wTold K Q (tlA A) (.ref A.C_BadSize) H :=
  ⟨_, T.m_BadSize_BadSign, fun h => (Bool.noConfusion h : False).elim, fun _ => ⟨_, T.m_BadSize_BadRule, fun h => (Bool.noConfusion h : False).elim, fun _ => ⟨_, T.m_BadSize_BadKind, fun h => (Bool.noConfusion h : False).elim, fun _ => ⟨_, T.m_BadSize_BadLayer, fun h => (Bool.noConfusion h : False).elim, fun _ =>
    ⟨_, T.m_BadSize_NoSuch, fun h => (Bool.noConfusion h : False).elim, fun _ => ⟨_, T.m_BadSize_BadDeed, fun h => (Bool.noConfusion h : False).elim, fun _ => ⟨_, T.m_BadSize_BadGround, fun h => (Bool.noConfusion h : False).elim, fun _ => ⟨_, T.m_BadSize_BadStore, fun h => (Bool.noConfusion h : False).elim, fun _ =>
    ⟨_, T.m_BadSize_Broken, fun h => (Bool.noConfusion h : False).elim, fun _ => ⟨_, T.m_BadSize_BadSize, fun _ => q, fun h => (Bool.noConfusion h : False).elim⟩⟩⟩⟩⟩⟩⟩⟩⟩⟩
theorem pe_told (T : Txt K mg A) {X : Cx} (hK : X.K = K) (hmg : X.mg = mg) (TB : LamX.TabB X.base X.mg A.cL A.PL) (hcode : X.env.code = .ref A.cL) (hq : X.env.qual ++ "<lambda>" = qL) (hg : Gl X "_law_told") {k : Nat} (hr : Room (k + 2) X.A) {params : Arguments} {body : Expr} {scope : Scope} {lpos p pos : Pos} {t : XK → TE}
    (L : LamX.LamS X.env.scope scope) (hdef : defaultsOf params X.env = ([], [])) (hbind : ∀ (q : Str) (cl : List (Str × Addr)) (pm cv ctv : Value), bindArgs (PySem.W.kla_fn "<lambda>" q params body scope cl pm cv ctv) ⟨[], []⟩ = pure [])
    (hbody : ∀ (A' : Around) (outer : List Env) (s : Shared) (H : Hp) (E : XK) (f c' : Addr), Room k (A'.deeper (LamX.lamEnv X scope s.heap.objs.size f c')) → PE (LamX.lamCx X A' outer s H E scope f c') body (t E)) :
    PE X (.Call (.Name "_law_told" p) [.Lambda params body scope lpos] [] pos) (LamX.tLam [(A.PL, qL)] (LamX.TTm K (tlA A)) t) := by
  subst hK hmg
  obtain ⟨oc, od, kV, doc, pm, an, cdv, ct, osl, hfd, lk, hcd⟩ := T.F_l_told.ex
  have hb := T.b_l_told
  rw [hfd] at hb lk
  refine LamX.pe_lamcall (x := "_law_told") (a := "_law_what") (Ng := N_l_told) (sg := defScope s_l_told) hg T.m_l_told T.F_l_told.kp lk hcd hb sc_l_told rfl (Or.inl rfl) ?_ TB hcode (by rw [hq]; exact List.mem_cons_self) (fun p hp _ => by rw [List.mem_singleton.mp hp, hq]) hr L hdef hbind hbody
  exact LamX.told_givesM (fun f => rfl) fun s H =>
    .cons ⟨rfl, by decide, .inl T.q_BadSign⟩ (fun _ _ _ _ _ _ _ => pss_one (ps_ret pe_str)) (.cons ⟨rfl, by decide, .inl T.q_BadRule⟩ (fun _ _ _ _ _ _ _ => pss_one (ps_ret pe_str))
    (.cons ⟨rfl, by decide, .inl T.q_BadKind⟩ (fun _ _ _ _ _ _ _ => pss_one (ps_ret pe_str)) (.cons ⟨rfl, by decide, .inl T.q_BadLayer⟩ (fun _ _ _ _ _ _ _ => pss_one (ps_ret pe_str))
    (.cons ⟨rfl, by decide, .inl T.q_NoSuch⟩ (fun _ _ _ _ _ _ _ => pss_one (ps_ret pe_str)) (.cons ⟨rfl, by decide, .inl T.q_BadDeed⟩ (fun _ _ _ _ _ _ _ => pss_one (ps_ret pe_str))
    (.cons ⟨rfl, by decide, .inl T.q_BadGround⟩ (fun _ _ _ _ _ _ _ => pss_one (ps_ret pe_str)) (.cons ⟨rfl, by decide, .inl T.q_BadStore⟩ (fun _ _ _ _ _ _ _ => pss_one (ps_ret pe_str))
    (.cons ⟨rfl, by decide, .inl T.q_Broken⟩ (fun _ _ _ _ _ _ _ => pss_one (ps_ret pe_str)) (.cons ⟨rfl, by decide, .inl T.q_BadSize⟩ (fun _ _ _ _ _ _ _ => pss_one (ps_ret pe_str)) .nil)))))))))
theorem ok_parted (T : Txt K mg A) : FnOk P w K mg base CX0 8 A.f_parted A.d_parted ["rules"] (spParted A) := by
  have G_check_rule : FnOk P w K mg base (L2.CX P w) 7 A.f_check_rule A.d_check_rule ["rule"] (spCheck A) := ok_check T
  have G_row_of : FnOk P w K mg base (L2.CX P w) 4 A.f_row_of A.d_row_of ["rule"] (spRow A) := ok_row T
  have G_is_fact : FnOk P w K mg base CX0 3 A.f_is_fact A.d_is_fact ["rule"] (spIsFact A) := ok_isfact T
  refine T.F_parted.ok sc_parted (fun vs H Q E h => ?_) (fun cdv ar outer s H vs Q E hr h => ?_)
  · obtain ⟨l, a, b, r1, r2, rfl, _⟩ := h
    rfl
  · obtain ⟨l, a, b, r1, r2, rfl, el, hR1, hR2, hw1, hw2, hl1, hl2, hc1, hc2, hf1, hf2, k⟩ := h
    refine ⟨_, (pss_cons (ps_set (i := 1) sc_parted.nd rfl (Or.inl rfl) (pe_lst pa_nil))
      (pss_cons (ps_set (i := 2) sc_parted.nd rfl (Or.inl rfl) (pe_lst pa_nil))
      (pss_cons (ps_for PassesOwn.never rfl (listK K (pv 0)) (pg_name (i := 3) sc_parted.nd rfl (Or.inl rfl))
        (pss_one (ps_if (pt_val (pe_call G_is_fact (hr.mono (by decide)) (by rfl) T.m_is_fact T.F_is_fact.kp T.b_is_fact .nil pass0 (pa_cons (pe_call G_check_rule (hr.mono (by decide)) (by rfl) T.m_check_rule T.F_check_rule.kp T.b_check_rule .nil passL (pa_cons (pv 3) pa_nil)) pa_nil)))
          (pss_one (ps_expr (appK K (pv 1) (pa_cons (pe_tup (pa_cons (fldK K (pv 3) rfl) (pa_cons (pe_call G_row_of (hr.mono (by decide)) (by rfl) T.m_row_of T.F_row_of.kp T.b_row_of .nil passL (pa_cons (pv 3) pa_nil)) pa_nil))) pa_nil))))
          (pss_one (ps_expr (appK K (pv 2) (pa_cons (pv 3) pa_nil)))))))
      (pss_one (ps_ret (pe_tup (pa_cons (pe_callTy (tupOf K) (by rfl) T.z_tuple (by decide +kernel) (pa_cons (pv 1) pa_nil)) (pa_cons (pe_callTy (tupOf K) (by rfl) T.z_tuple (by decide +kernel) (pa_cons (pv 2) pa_nil)) pa_nil)))))))), ?_⟩
    refine ⟨Nat.zero_le _, fun f hf => ⟨Nat.zero_le _, fun o ho => ?_⟩⟩
    have s0 : Same H (upd (upd H f (.lst [])) o (.lst [])) := (same_new hf).trans (same_new ho)
    have nfo : f ≠ o := ne_of_none upd_same ho
    have hoH : H o = none := by rw [upd_ne nfo.symm] at ho; exact ho
    have ef0 : upd (upd H f (.lst [])) o (.lst []) f = some (.lst []) := by rw [upd_ne nfo, upd_same]
    have eo0 : upd (upd H f (.lst [])) o (.lst []) o = some (.lst []) := upd_same
    generalize upd (upd H f (.lst [])) o (.lst []) = H0 at s0 ef0 eo0 ⊢
    refine ⟨_, rfl, l, rfl, ⟨_, SqL.of (s0 _ _ el)⟩, ?_⟩
    refine for_list (K := K) (a := l) (xs := [.ref a, .ref b]) (fun i σ H' => ∃ x, σ = [some (.ref l), some (.ref f), some (.ref o), x] ∧ Same H H' ∧ ((i = 0 ∧ H' f = some (.lst []) ∧ H' o = some (.lst [])) ∨ (0 < i ∧ ∃ t u, H' f = some (.lst [.ref t]) ∧ H' t = some (.tup [.str r1.name, .ref u]) ∧ H' u = some (.tup (r1.ts.map tval)) ∧ H' o = some (.lst (if i = 1 then [] else [.ref b])))))
      ⟨none, rfl, s0, .inl ⟨rfl, ef0, eo0⟩⟩ (fun i σ H' _ ⟨x, _, s, _⟩ => SqL.of (s _ _ el)) ?_ ?_
    · rintro i v σ H' hv ⟨x, rfl, s1, hcase⟩
      rcases hcase with ⟨rfl, ef, eo⟩ | ⟨hpos, t, u, ef, et, eu, eo⟩
      · cases hv
        refine ⟨_, rfl, a, r1, rfl, hR1.up s1, hw1, hl1, fun _ H2 s2 => ?_, (fun z => by rw [hc1] at z; cases z), (fun z => by rw [hc1] at z; cases z)⟩
        refine ⟨a, r1, rfl, (hR1.up s1).up s2, hw1, fun H3 s3 => ⟨_, rfl, ?_⟩⟩
        rw [hf1]
        have s13 := (s1.trans s2).trans s3
        have s23 := s2.trans s3
        obtain ⟨dx, pt, pb, ps, sv, bs, e, _⟩ := hR1.up s13
        refine iteT ⟨_, rfl, .inl ⟨rfl, _, SqL.of (s23 _ _ ef)⟩, _, rfl, a, _, dx, _, _, rfl, e, T.cl_Rule, T.n_Rule_name, rf_name _ _ _ _ _, _, rfl, a, r1, rfl, hR1.up s13, hw1, fun _ u H4 s4 eu => ?_, (fun z => by rw [hf1] at z; cases z)⟩
        refine ⟨(by show 2 ≤ sizeLine; decide), fun t ht => ⟨f, _, _, rfl, rfl, same_new ht _ _ (s4 _ _ (s23 _ _ ef)), (by show 0 < sizeLine; decide), ?_⟩⟩
        have s5 := same_new (o := .tup [.str r1.name, .ref u]) ht
        have ef5 := s5 _ _ (s4 _ _ (s23 _ _ ef))
        refine ⟨_, rfl, same_mut ((s13.trans s4).trans s5) hf, .inr ⟨Nat.one_pos, t, u, upd_same, ?_, ?_, ?_⟩⟩
        · rw [upd_ne (ne_of (upd_same (H := H4) (a := t) (o := .tup [.str r1.name, .ref u])) ef5 (fun q => nomatch q)), upd_same]
        · rw [upd_ne (ne_of (s5 _ _ eu) ef5 (fun q => nomatch q))]
          exact s5 _ _ eu
        · rw [upd_ne nfo.symm, if_pos rfl]
          exact s5 _ _ (s4 _ _ (s23 _ _ eo))
      · have hi : i = 1 := by
          have := (List.getElem?_eq_some_iff.mp hv).1
          have : i < 2 := this
          omega
        subst hi
        cases hv
        rw [if_pos rfl] at eo
        refine ⟨_, rfl, b, r2, rfl, hR2.up s1, hw2, hl2, fun _ H2 s2 => ?_, (fun z => by rw [hc2] at z; cases z), (fun z => by rw [hc2] at z; cases z)⟩
        refine ⟨b, r2, rfl, (hR2.up s1).up s2, hw2, fun H3 s3 => ⟨_, rfl, ?_⟩⟩
        rw [hf2]
        have s23 := s2.trans s3
        refine iteF ⟨_, rfl, .inl ⟨rfl, _, SqL.of (s23 _ _ eo)⟩, _, rfl, o, _, _, rfl, rfl, s23 _ _ eo, (by show 0 < sizeLine; decide), ?_⟩
        have eo3 := s23 _ _ eo
        refine ⟨_, rfl, same_mut (s1.trans s23) hoH, .inr ⟨by decide, t, u, ?_, ?_, ?_, by rw [upd_same]; rfl⟩⟩
        · rw [upd_ne nfo]
          exact s23 _ _ ef
        · rw [upd_ne (ne_of (s23 _ _ et) eo3 (fun q => nomatch q))]
          exact s23 _ _ et
        · rw [upd_ne (ne_of (s23 _ _ eu) eo3 (fun q => nomatch q))]
          exact s23 _ _ eu
    · rintro σ H' ⟨x, rfl, s1, hcase⟩
      rcases hcase with ⟨h0, _⟩ | ⟨_, t, u, ef, et, eu, eo⟩
      · cases h0
      · have eo' : H' o = some (.lst [.ref b]) := eo
        refine ⟨_, rfl, f, _, rfl, .inl ⟨SqL.of ef, fun x hx => ⟨_, rfl, o, _, rfl, .inl ⟨SqL.of (same_new hx _ _ eo'), fun y hy => ⟨(by show 2 ≤ sizeLine; decide), fun p hp => ?_⟩⟩⟩⟩⟩
        have sx := same_new (o := .tup [.ref t]) hx
        have sy := same_new (o := .tup [.ref b]) hy
        have sp := same_new (o := .tup [.ref x, .ref y]) hp
        exact k p x y t u _ (((s1.trans sx).trans sy).trans sp) upd_same (sp _ _ (sy _ _ upd_same)) (sp _ _ (sy _ _ (sx _ _ et))) (sp _ _ (sy _ _ (sx _ _ eu))) (sp _ _ upd_same)
end
end Toy

set_option Elab.async false
set_option maxRecDepth 100000
set_option maxHeartbeats 4000000
namespace Toy
open PySem L2 LamX
open U (Tm Pt RR tn nms vars addN dd rows cnt)
/-! ### sorted words of four -/
def ix4 (s : Str) : Nat := if s = "W" then 0 else if s = "X" then 1 else if s = "Y" then 2 else 3
def is4 (s : Str) : Prop := s = "W" ∨ s = "X" ∨ s = "Y" ∨ s = "Z"
theorem ix4_inj {s t : Str} (hs : is4 s) (ht : is4 t) (h : ix4 s = ix4 t) : s = t := by
  rcases hs with rfl | rfl | rfl | rfl <;> rcases ht with rfl | rfl | rfl | rfl <;> first | rfl | (exfalso; revert h; decide +kernel)
theorem rise4 : ∀ (l : List Str) (p : Str), is4 p → (∀ x ∈ l, is4 x) → PyProof.Rows.risingS p l = true → ((p :: l).map ix4).Pairwise (· ≤ ·)
  | [], p, _, _, _ => by simp
  | x :: l, p, hp, hl, h => by
    have h : (!PySem.Spec.ltCps x.cps.toList p.cps.toList && PyProof.Rows.risingS x l) = true := h
    rw [Bool.and_eq_true] at h
    have hx := hl x List.mem_cons_self
    have ih := rise4 l x hx (fun y hy => hl y (List.mem_cons_of_mem _ hy)) h.2
    have hle : ix4 p ≤ ix4 x := by
      have h1 := h.1
      rcases hp with rfl | rfl | rfl | rfl <;> rcases hx with rfl | rfl | rfl | rfl <;> first | (decide +kernel) | (exfalso; revert h1; decide +kernel)
    rw [List.map_cons, List.pairwise_cons]
    refine ⟨fun y hy => ?_, ih⟩
    rw [List.map_cons] at hy
    rcases List.mem_cons.mp hy with rfl | hy
    · exact hle
    · rw [List.map_cons, List.pairwise_cons] at ih
      exact Nat.le_trans hle (ih.1 y hy)
theorem sort4 {l : List Str} (hl : ∀ x ∈ l, is4 x) (h : PyProof.Rows.sortedS l = true) : (l.map ix4).Pairwise (· ≤ ·) := by
  cases l with
  | nil => simp
  | cons x l => exact rise4 l x (hl x List.mem_cons_self) (fun y hy => hl y (List.mem_cons_of_mem _ hy)) h
theorem map_inj4 : ∀ {l m : List Str}, (∀ x ∈ l, is4 x) → (∀ x ∈ m, is4 x) → l.map ix4 = m.map ix4 → l = m
  | [], [], _, _, _ => rfl
  | x :: l, y :: m, hl, hm, h => by
    rw [List.map_cons, List.map_cons] at h
    injection h with h1 h2
    rw [ix4_inj (hl x List.mem_cons_self) (hm y List.mem_cons_self) h1, map_inj4 (fun z hz => hl z (List.mem_cons_of_mem _ hz)) (fun z hz => hm z (List.mem_cons_of_mem _ hz)) h2]
  | [], _ :: _, _, _, h => nomatch h
  | _ :: _, [], _, _, h => nomatch h
theorem sorted_same {l ys zs : List Str} (hl : ∀ x ∈ l, is4 x) (p1 : ys.Perm l) (p2 : zs.Perm l) (s1 : PyProof.Rows.sortedS ys = true) (s2 : PyProof.Rows.sortedS zs = true) : ys = zs := by
  have h1 : ∀ x ∈ ys, is4 x := fun x hx => hl x (p1.mem_iff.mp hx)
  have h2 : ∀ x ∈ zs, is4 x := fun x hx => hl x (p2.mem_iff.mp hx)
  exact map_inj4 h1 h2 (((p1.trans p2.symm).map ix4).eq_of_pairwise (fun a b _ _ => Nat.le_antisymm) (sort4 h1 s1) (sort4 h2 s2))
/-! ### what stays when a table grows -/
theorem TmAt.n {C : Addr} {H H' : Hp} {a : Addr} {n : Str} {v : V} (h : TmAt C H a n v) (s : ExtN H H') : TmAt C H' a n v := by
  obtain ⟨dx, e⟩ := h
  exact ⟨dx, s _ _ e (fun _ q => nomatch q)⟩
theorem TmsAt.n {C : Addr} {H H' : Hp} {p : Addr} {ts : List Tm} (h : TmsAt C H p ts) (s : ExtN H H') : TmsAt C H' p ts := by
  obtain ⟨as, e, f⟩ := h
  exact ⟨as, s _ _ e (fun _ q => nomatch q), f.imp fun a t h => TmAt.n h s⟩
theorem LitAt.n {A : Ad} {H H' : Hp} {a : Addr} {q : Pt} (h : LitAt A H a q) (s : ExtN H H') : LitAt A H' a q := by
  obtain ⟨dx, pt, po, e, f, g⟩ := h
  exact ⟨dx, pt, po, s _ _ e (fun _ q => nomatch q), f.n s, s _ _ g (fun _ q => nomatch q)⟩
theorem RuleAt.n {A : Ad} {H H' : Hp} {a : Addr} {r : RR} (h : RuleAt A H a r) (s : ExtN H H') : RuleAt A H' a r := by
  obtain ⟨dx, pt, pb, ps, sv, bs, e, f, g, hb, hs, kvs, ek, hk⟩ := h
  exact ⟨dx, pt, pb, ps, sv, bs, s _ _ e (fun _ q => nomatch q), f.n s, s _ _ g (fun _ q => nomatch q), hb.imp fun a t h => h.n s, hs, kvs, s _ _ ek (fun _ q => nomatch q), hk⟩
theorem LPs.n {H H' : Hp} {p : Addr} {qs : List Pt} (h : LPs H p qs) (s : ExtN H H') : LPs H' p qs := by
  obtain ⟨as, e, f⟩ := h
  exact ⟨as, s _ _ e (fun _ q => nomatch q), f.imp fun a t ⟨tl, e, f⟩ => ⟨tl, s _ _ e (fun _ q => nomatch q), s _ _ f (fun _ q => nomatch q)⟩⟩
theorem ShR.n {H H' : Hp} {a : Addr} {r : RR} (h : ShR H a r) (s : ExtN H H') : ShR H' a r := by
  obtain ⟨t1, t2, bs, cs, e, f, g, f2, g2⟩ := h
  refine ⟨t1, t2, bs, cs, s _ _ e (fun _ q => nomatch q), s _ _ f (fun _ q => nomatch q), g.imp fun a t h => s _ _ h (fun _ q => nomatch q), s _ _ f2 (fun _ q => nomatch q), g2.imp fun a q ⟨t, bs, e, f, g⟩ => ⟨t, bs, s _ _ e (fun _ q => nomatch q), s _ _ f (fun _ q => nomatch q), g.imp fun a t h => s _ _ h (fun _ q => nomatch q)⟩⟩
theorem ShR.up {H H' : Hp} {a : Addr} {r : RR} (h : ShR H a r) (s : Same H H') : ShR H' a r := ShR.n h (ExtN.of s)
theorem sqL_n {K : PySem.W.Frag} {H H' : Hp} {a : Addr} {xs : List V} (h : SqL K H a xs) (s : ExtN H H') : SqL K H' a xs := by
  rcases h with (e | ⟨o, e⟩) | h
  · exact .inl (.inl (s _ _ e (fun _ q => nomatch q)))
  · exact .inl (.inr ⟨o, s _ _ e (fun _ q => nomatch q)⟩)
  · exact .inr h
/-- what stands in the law's loop, behind the drawing -/
structure Sit (A : Ad) (H : Hp) (p d ps hd ru : Addr) (head : List Tm) (qs : List Pt) : Prop where
  l : H p = some (.lst [.ref d])
  ps : LPs H ps qs
  hd : H hd = some (.lst (head.map tvv))
  ru : RuleAt A H ru (mkR head qs)
  tb : Tabs [(A.PL, qL)] H
theorem Sit.up {A : Ad} {H H' : Hp} {p d ps hd ru : Addr} {head : List Tm} {qs : List Pt} (h : Sit A H p d ps hd ru head qs) (s : Same H H') : Sit A H' p d ps hd ru head qs := ⟨s _ _ h.l, h.ps.up s, s _ _ h.hd, h.ru.up s, h.tb.ext s⟩
theorem Sit.n {A : Ad} {H H' : Hp} {p d ps hd ru : Addr} {head : List Tm} {qs : List Pt} (h : Sit A H p d ps hd ru head qs) (s : ExtN H H') (t : Tabs [(A.PL, qL)] H') : Sit A H' p d ps hd ru head qs :=
  ⟨s _ _ h.l (fun _ q => nomatch q), h.ps.n s, s _ _ h.hd (fun _ q => nomatch q), h.ru.n s, t⟩
theorem made {H H' : Hp} {x dx : Addr} {C : Addr} (nx : H x = none) (ndx : H dx = none) (s : SameX x (upd (upd H dx (.own x)) x (.ins C dx [])) H') : Same H H' := fun b o e =>
  s b o (by rw [upd_ne (ne_of_none e nx), upd_ne (ne_of_none e ndx)]; exact e) (ne_of_none e nx)
theorem made0 {H : Hp} {x dx : Addr} {C : Addr} (nx : H x = none) (ndx : H dx = none) : Same H (upd (upd H dx (.own x)) x (.ins C dx [])) := fun b o e => by
  rw [upd_ne (ne_of_none e nx), upd_ne (ne_of_none e ndx)]
  exact e
/-- the drawn parts make a rule that may be made -/
theorem gT_wf {ts : List Tm} (hl : ts.length ≤ 20) (h : ∀ t ∈ ts, gT t) : WfT ts := ⟨hl, fun t ht => gT_ok (h t ht)⟩
theorem good_b {q : Pt} (h : GoodP q) : WfT q.ts ∧ q.name.length ≤ 900 ∧ PyData.strOk q.name = true ∧ PyData.strOk q.kind = true := by
  refine ⟨gT_wf (by have := h.ts.1; omega) h.ts.2, ?_, ?_, ?_⟩
  · rcases h.name with e | e | e | e <;> rw [e] <;> decide +kernel
  · rcases h.name with e | e | e | e <;> rw [e] <;> decide +kernel
  · rcases h.kind with e | e | e | e <;> rw [e] <;> decide +kernel
theorem drawn_of {head : List Tm} {qs : List Pt} (hh : head.length ≤ 20) (hg : ∀ t ∈ head, gT t) (hq : qs.length ≤ 20) (hqg : ∀ q ∈ qs, GoodP q) : Drawn head qs :=
  ⟨⟨gT_wf hh hg, ⟨hq, fun q h => good_b (hqg q h)⟩, (by show ("h" : Str).length ≤ 900; decide +kernel), (by show PyData.strOk "h" = true; decide +kernel)⟩, fun q h hk => (hqg q h).lets hk, fun q h => (hqg q h).kind⟩
theorem let_ok {head : List Tm} {qs : List Pt} (h : Drawn head qs) : LetOk (mkR head qs) := fun q hq hk => by
  obtain ⟨s, tr, e⟩ := h.lets q hq hk
  rw [e]
  exact List.cons_ne_nil _ _
theorem lim4 {head : List Tm} {qs : List Pt} (hqg : ∀ q ∈ qs, GoodP q) : ∀ x ∈ U.lim (mkR head qs), is4 x := fun x hx => by
  have := itp_sub (mkR head qs) _ x hx
  obtain ⟨q, hq, hxq⟩ := List.mem_flatMap.mp this
  exact (hqg q hq).ts.2 _ (U.nms_mem.mp hxq)
/-! ### data -/
theorem lay_map {α : Type} {f : α → PyData} : ∀ {l : List α}, (∀ x ∈ l, (f x).canLay0 = true) → PyData.canLayAll0 (l.map f) = true
  | [], _ => rfl
  | x :: l, h => by
    show (PyData.canLay0 (f x) && PyData.canLayAll0 (l.map f)) = true
    rw [h x List.mem_cons_self, lay_map fun y hy => h y (List.mem_cons_of_mem _ hy)]
    rfl
theorem depth_map {α : Type} {f : α → PyData} {n : Nat} : ∀ {l : List α}, (∀ x ∈ l, (f x).depth ≤ n) → PyData.depthAll (l.map f) ≤ n
  | [], _ => by simp [PyData.depthAll]
  | x :: l, h => by
    rw [List.map_cons, PyData.depthAll]
    exact Nat.max_le.mpr ⟨h x List.mem_cons_self, depth_map fun y hy => h y (List.mem_cons_of_mem _ hy)⟩
theorem dT_lay {t : Tm} (h : okT t = true) : (dT t).canLay0 = true ∧ (dT t).depth ≤ 1 := by
  cases t with
  | inl s =>
    refine ⟨?_, by simp [dT, PyData.depth, PyData.depthAll]⟩
    show (PyData.strOk "var" && (PyData.strOk s && true)) = true
    rw [okT_ok h]
    decide +kernel
  | inr i => exact ⟨by show (PyData.strOk "val" && (true && true)) = true; decide +kernel, by simp [dT, PyData.depth, PyData.depthAll]⟩
theorem dP_lay {q : Pt} (h : WfT q.ts ∧ q.name.length ≤ 900 ∧ PyData.strOk q.name = true ∧ PyData.strOk q.kind = true) : (dP q).canLay0 = true ∧ (dP q).depth ≤ 3 := by
  refine ⟨?_, ?_⟩
  · show (PyData.strOk q.kind && (PyData.strOk q.name && (PyData.canLayAll0 (q.ts.map dT) && true))) = true
    rw [h.2.2.1, h.2.2.2, lay_map fun t ht => (dT_lay (h.1.2 t ht)).1]
    rfl
  · have := depth_map (f := dT) (n := 1) (l := q.ts) fun t ht => (dT_lay (h.1.2 t ht)).2
    simp only [dP, PyData.depth, PyData.depthAll]
    omega
theorem dR_shaped {r : RR} (h : Wf r) : SeqAt.shaped (dR r) = true ∧ (dR r).canLay0 = true := by
  have h1 : (dR r).canLay0 = true := by
    show (PyData.strOk r.name && (PyData.canLayAll0 (r.ts.map dT) && (true && (PyData.canLayAll0 (r.body.map dP) && true)))) = true
    rw [h.nok, lay_map fun t ht => (dT_lay (h.ts.2 t ht)).1, lay_map fun q hq => (dP_lay (h.body.2 q hq)).1]
    rfl
  refine ⟨?_, h1⟩
  unfold SeqAt.shaped
  rw [Bool.and_eq_true]
  refine ⟨h1, decide_eq_true ?_⟩
  have d1 := depth_map (f := dT) (n := 1) (l := r.ts) fun t ht => (dT_lay (h.ts.2 t ht)).2
  have d2 := depth_map (f := dP) (n := 3) (l := r.body) fun q hq => (dP_lay (h.body.2 q hq)).2
  simp only [dR, PyData.depth, PyData.depthAll]
  omega
theorem strs_list {l : List Str} (h : ∀ x ∈ l, PyData.strOk x = true) : SeqAt.shaped (.list (l.map PyData.str)) = true := by
  have := strOk_all h
  unfold SeqAt.shaped at this ⊢
  rw [Bool.and_eq_true] at this ⊢
  exact ⟨this.1, by simpa [PyData.depth] using this.2⟩
theorem eqv_strs {l : List Str} (h : ∀ x ∈ l, PyData.strOk x = true) : PyData.eqv (.list (l.map PyData.str)) (.list (l.map PyData.str)) = true := by
  have := strs_list h
  exact SeqAt.eqv_refl _ (by unfold SeqAt.shaped at this; rw [Bool.and_eq_true] at this; exact this.1)
theorem is4_ok {s : Str} (h : is4 s) : PyData.strOk s = true := by
  rcases h with rfl | rfl | rfl | rfl <;> decide +kernel
def dV : Tm → PyData
  | .inl s => .str s
  | .inr i => .int i
theorem dp_tvv {K : PySem.W.Frag} {H : Hp} : ∀ (ts : List Tm), DpAll K H (ts.map tvv) (ts.map dV)
  | [] => .nil
  | .inl s :: ts => .cons (.str s) (dp_tvv ts)
  | .inr i :: ts => .cons (.int i) (dp_tvv ts)
theorem dV_shaped {ts : List Tm} (h : ∀ t ∈ ts, okT t = true) : SeqAt.shaped (.tuple (ts.map dV)) = true ∧ PyData.canLay0 (.tuple (ts.map dV)) = true := by
  have h1 : PyData.canLay0 (.tuple (ts.map dV)) = true := lay_map fun t ht => by
    cases t with
    | inl s => exact okT_ok (h _ ht)
    | inr i => rfl
  refine ⟨?_, h1⟩
  have d1 := depth_map (f := dV) (n := 0) (l := ts) fun t ht => by cases t <;> simp [dV, PyData.depth]
  unfold SeqAt.shaped
  rw [Bool.and_eq_true]
  refine ⟨h1, decide_eq_true ?_⟩
  simp only [PyData.depth]
  omega
theorem tval_tvv {ts : List Tm} (h : (nms ts).length = 0) : ts.map tval = ts.map tvv := by
  apply List.map_congr_left
  intro t ht
  cases t with
  | inl s =>
    exfalso
    have := U.nms_mem.mpr ht
    rw [List.eq_nil_of_length_eq_zero h] at this
    cases this
  | inr i => rfl
end Toy

set_option Elab.async false
set_option maxRecDepth 100000
set_option maxHeartbeats 8000000
namespace Toy
open PySem L2 LamX
open U (Tm Pt RR tn nms vars addN dd rows cnt)
theorem TabS.upx {H H' : Hp} {P d : Addr} {q : Str} (t : TabS H P q) (s : SameX d H H') (hd : DiceAt H d) : TabS H' P q := by
  obtain ⟨ps, h1, h2, h3⟩ := t
  obtain ⟨x, y, z, e⟩ := hd
  refine ⟨ps, s _ _ h1 (ne_of h1 e (fun q => nomatch q)), h2, fun pos cv hc => ?_⟩
  obtain ⟨c, e1, e2⟩ := h3 pos cv hc
  exact ⟨c, e1, s _ _ e2 (ne_of e2 e (fun q => by unfold CodeO at q; cases q))⟩
abbrev rF : RR := ⟨"e", [.inr 1], [], false⟩
abbrev qX : Pt := ⟨"pos", "e", [.inl "X"]⟩
abbrev rO : RR := ⟨"p", [.inl "X"], [qX], false⟩
abbrev qA : Pt := ⟨"pos", "e", []⟩
abbrev qB : Pt := ⟨"neg", "", []⟩
abbrev rA : RR := ⟨"not", [], [qA], false⟩
abbrev rB : RR := ⟨"P", [], [], false⟩
abbrev rC : RR := ⟨"p", [], [qB], false⟩
abbrev rD : RR := ⟨"p", [.inr 1000000000000000000], [], false⟩
abbrev rE : RR := ⟨"p", [.inl "X"], [], true⟩
def wfb (r : RR) : Bool := decide (r.ts.length ≤ 20) && r.ts.all okT && (decide (r.body.length ≤ 20) && r.body.all fun q => (decide (q.ts.length ≤ 20) && q.ts.all okT) && (decide (q.name.length ≤ 900) && (PyData.strOk q.name && PyData.strOk q.kind))) && (decide (r.name.length ≤ 900) && PyData.strOk r.name) && r.body.all fun q => !decide (q.kind = "let")
theorem wfb_wf {r : RR} (h : wfb r = true) : Wf r ∧ LetOk r := by
  unfold wfb at h
  simp only [Bool.and_eq_true, decide_eq_true_eq, List.all_eq_true] at h
  obtain ⟨⟨⟨⟨h1, h2⟩, h3, h4⟩, h5, h6⟩, h7⟩ := h
  refine ⟨⟨⟨h1, h2⟩, ⟨h3, fun q hq => ?_⟩, h5, h6⟩, fun q hq hk => ?_⟩
  · obtain ⟨⟨a, b⟩, c, d, e⟩ := h4 q hq
    exact ⟨⟨a, b⟩, c, d, e⟩
  · have := h7 q hq
    rw [hk] at this
    cases this
theorem wF : Wf rF ∧ LetOk rF := wfb_wf (by decide +kernel)
theorem wO : Wf rO ∧ LetOk rO := wfb_wf (by decide +kernel)
theorem wA : Wf rA ∧ LetOk rA := wfb_wf (by decide +kernel)
theorem wB : Wf rB ∧ LetOk rB := wfb_wf (by decide +kernel)
theorem wC : Wf rC ∧ LetOk rC := wfb_wf (by decide +kernel)
theorem wD : Wf rD ∧ LetOk rD := wfb_wf (by decide +kernel)
theorem wE : Wf rE ∧ LetOk rE := wfb_wf (by decide +kernel)
theorem one_sz : 1 ≤ sizeLine := by decide
theorem two_sz : 2 ≤ sizeLine := by decide
theorem three_sz : 3 ≤ sizeLine := by decide
theorem TmsAt.l {C : Addr} {H : Hp} {p : Addr} {ts : List Tm} (h : LTms C H p ts) {H' : Hp} (s : Same H H') : LTms C H' p ts := by
  obtain ⟨as, e, f⟩ := h
  exact ⟨as, s _ _ e, f.imp fun a t h => TmAt.up h s⟩
theorem ltm1 {C : Addr} {H : Hp} {l a : Addr} {t : Tm} (e : H l = some (.lst [.ref a])) (h : TO C H a t) : LTms C H l [t] := ⟨[a], e, .cons h .nil⟩
theorem ltm0 {C : Addr} {H : Hp} {l : Addr} (e : H l = some (.lst [])) : LTms C H l [] := ⟨[], e, .nil⟩
/-- the lambda of the law stands -/
structure Lm (H : Hp) (f c' : Addr) : Prop where
  f : H f = some (LamO f qL la__law_make lb__law_make ls__law_make c')
  c : H c' = some (CodeO c' qL)
theorem Lm.upx {H H' : Hp} {f c' d : Addr} (h : Lm H f c') (s : SameX d H H') (hd : DiceAt H d) : Lm H' f c' := by
  obtain ⟨x, y, z, e⟩ := hd
  exact ⟨s _ _ h.f (ne_of h.f e (fun q => by unfold LamO at q; cases q)), s _ _ h.c (ne_of h.c e (fun q => by unfold CodeO at q; cases q))⟩
theorem Lm.up {H H' : Hp} {f c' : Addr} (h : Lm H f c') (s : Same H H') : Lm H' f c' := ⟨s _ _ h.f, s _ _ h.c⟩
def LPtD (d D : Addr) (H : Hp) (a : Addr) (q : Pt) : Prop := ∃ tl, H a = some (.tup [.str q.kind, .str q.name, .ref tl]) ∧ H tl = some (.lst (q.ts.map tvv)) ∧ tl ≠ d ∧ tl ≠ D
theorem LPtD.wr {d D : Addr} {H : Hp} {a : Addr} {q : Pt} {xs : List V} {o : HO} (h : LPtD d D H a q) (hl : H D = some (.lst xs)) : LPtD d D (upd H D o) a q := by
  obtain ⟨tl, e, f, g, n⟩ := h
  exact ⟨tl, by rw [upd_ne (ne_of e hl (fun q => nomatch q))]; exact e, by rw [upd_ne n]; exact f, g, n⟩
theorem LPtD.upx {d D : Addr} {H H' : Hp} {a : Addr} {q : Pt} (h : LPtD d D H a q) (s : SameX d H H') (hd : DiceAt H d) : LPtD d D H' a q := by
  obtain ⟨tl, e, f, g, n⟩ := h
  exact ⟨tl, s _ _ e (hd.ne_tup e), s _ _ f g, g, n⟩
def spLaw (K : PySem.W.Frag) (A : Ad) : Sp := fun vs H Q _ => ∃ (a : Addr) (ns : List Int), vs = [.ref a] ∧ SqL K H a (ns.map V.int) ∧ ns.length ≤ 63 ∧ H A.PL = some (.tbl #[]) ∧ ∀ H', Q (.bl true) H'
section
variable {P : Program} {w : World} {K : PySem.W.Frag} {mg : Str → Option Value} {base : Heap} {A : Ad}
theorem ok_law (T : Txt K mg A) (TB : LamX.TabB base mg A.cL A.PL) : FnOk P w K mg base CX0 10 A.f_law A.d_law ["_law_script"] (spLaw K A) := by
  have G_Term_init := ok_init (P := P) (w := w) (base := base) T
  have G_var : FnOk P w K mg base CX0 3 A.f_var A.d_var ["name"] (spVar A.C_Term) := ok_var T
  have G_val : FnOk P w K mg base CX0 3 A.f_val A.d_val ["value"] (spVal A.C_Term) := ok_val T
  have G_l_rounds : FnOk P w K mg base CX0 2 A.f_l_rounds A.d_l_rounds ["_law_script", "_law_most"] (spRounds K) := ok_rounds T
  have G_l_roll : FnOk P w K mg base CX0 1 A.f_l_roll A.d_l_roll ["_law_dice_here", "_law_many"] spRoll := ok_roll T
  have G_l_part : FnOk P w K mg base CX0 2 A.f_l_part A.d_l_part ["_law_dice_here"] spPart := ok_lpart T
  have G_l_names : FnOk P w K mg base CX0 1 A.f_l_names A.d_l_names ["_law_terms"] spLNames := ok_lnames T
  have G_l_flat : FnOk P w K mg base CX0 1 A.f_l_flat A.d_l_flat ["_law_rows"] spFlat := ok_flat T
  have G_l_needs : FnOk P w K mg base CX0 2 A.f_l_needs A.d_l_needs ["_law_head", "_law_parts", "_law_j"] spLNeeds := ok_lneeds T
  have G_l_limited : FnOk P w K mg base CX0 3 A.f_l_limited A.d_l_limited ["_law_head", "_law_parts"] spLLimited := ok_llimited T
  have G_Literal_init : FnOk P w K mg base CX0 3 A.f_Literal_init A.d_Literal_init ["self", "kind", "name", "terms"] (spLitInit A) := ok_lit_init T
  have G_Rule_init : FnOk P w K mg base CX0 3 A.f_Rule_init A.d_Rule_init ["self", "name", "terms", "body", "summed"] (spRuleInit A) := ok_rule_init T
  have G_limited : FnOk P w K mg base CX0 5 A.f_limited A.d_limited ["rule"] (spLimited A) := ok_limited T
  have G_needs : FnOk P w K mg base CX0 3 A.f_needs A.d_needs ["rule", "number"] (spNeeds A) := ok_needs T
  have G_gives : FnOk P w K mg base CX0 3 A.f_gives A.d_gives ["rule", "number"] (spGives A) := ok_gives T
  have G_ready : FnOk P w K mg base CX0 4 A.f_ready A.d_ready ["rule", "number", "bound"] (spReady A) := ok_ready T
  have G_loose : FnOk P w K mg base CX0 6 A.f_loose A.d_loose ["rule"] (spLoose A) := ok_loose T
  have G_shared : FnOk P w K mg base CX0 2 A.f_shared A.d_shared ["rule", "number", "name"] (spShared A) := ok_shared T
  have G_is_fact : FnOk P w K mg base CX0 3 A.f_is_fact A.d_is_fact ["rule"] (spIsFact A) := ok_isfact T
  have G_row_of : FnOk P w K mg base (L2.CX P w) 4 A.f_row_of A.d_row_of ["rule"] (spRow A) := ok_row T
  have G_check_rule : FnOk P w K mg base (L2.CX P w) 7 A.f_check_rule A.d_check_rule ["rule"] (spCheck A) := ok_check T
  have G_parted : FnOk P w K mg base CX0 8 A.f_parted A.d_parted ["rules"] (spParted A) := ok_parted T
  have G_Rule_shown : FnOk P w K mg base CX0 5 A.f_Rule_shown A.d_Rule_shown ["self"] (spRuleShown A) := ok_rule_shown T
  obtain ⟨ds, hv_Rule_init, hb_Rule_init⟩ := T.bd_Rule_init
  refine T.C_law.ok sc_law (fun vs H Q E h => ?_) (fun ar outer s H vs Q E hr h => ?_)
  · obtain ⟨a, ns, rfl, _⟩ := h
    rfl
  · obtain ⟨a, ns, rfl, hS, hl, hP, k⟩ := h
    refine ⟨_, (C8.pss_cut (ps_set (i := 1) sc_law.nd rfl (Or.inr rfl) (LamX.pe_lamdef (T := [(A.PL, qL)]) (params := la__law_make) (body := lb__law_make) (scope := ls__law_make) TB (by rfl) (by exact List.mem_cons_self) (fun p hp _ => by rw [List.mem_singleton.mp hp]; rfl) (by rfl) (by decide +kernel)))
      (C8.pss_cut (ps_for PassesOwn.never rfl (listK K (pe_call G_l_rounds (hr.mono (by decide)) (by rfl) T.m_l_rounds T.F_l_rounds.kp T.b_l_rounds .nil pass0 (pa_cons (pv 0) (pa_cons pe_int pa_nil)))) (pg_name (i := 2) sc_law.nd rfl (Or.inr rfl))
        (C8.pss_cut (ps_set (i := 3) sc_law.nd rfl (Or.inr rfl) (pe_lc (own := [("_law_k", 15)]) (by rfl) sc_law.nd (pi_range1 (by rfl) T.z_range (pa_cons (pe_call G_l_roll (hr.mono (by decide)) (by rfl) T.m_l_roll T.F_l_roll.kp T.b_l_roll .nil pass0 (pa_cons (pv 2) (pa_cons pe_int pa_nil))) pa_nil)) (blkOk_by (own := [("_law_k", 15)]) (N := N_law) (sc := defScope s_law) (by decide +kernel)) (fun _ _ _ _ _ => (pg_name (i := 15) sc_law.nd rfl (Or.inl rfl))) (fun _ _ _ _ _ => pts_nil) (fun _ _ _ _ _ => (pe_call G_l_part (hr.mono (by decide)) (by rfl) T.m_l_part T.F_l_part.kp T.b_l_part .nil pass0 (pa_cons (pv 2) pa_nil)))))
        (C8.pss_cut (ps_set (i := 4) sc_law.nd rfl (Or.inr rfl) (pe_lc (own := [("_law_k", 15)]) (by rfl) sc_law.nd (pi_range1 (by rfl) T.z_range (pa_cons (pe_call G_l_roll (hr.mono (by decide)) (by rfl) T.m_l_roll T.F_l_roll.kp T.b_l_roll .nil pass0 (pa_cons (pv 2) (pa_cons pe_int pa_nil))) pa_nil)) (blkOk_by (own := [("_law_k", 15)]) (N := N_law) (sc := defScope s_law) (by decide +kernel)) (fun _ _ _ _ _ => (pg_name (i := 15) sc_law.nd rfl (Or.inl rfl))) (fun _ _ _ _ _ => pts_nil) (fun _ _ _ _ _ => (pe_ifExp (pt_cmpR op_gt (pe_call G_l_roll (hr.mono (by decide)) (by rfl) T.m_l_roll T.F_l_roll.kp T.b_l_roll .nil pass0 (pa_cons (pv 2) (pa_cons pe_int pa_nil))) pe_int (nomark _)) (pe_ix ix_str pe_str (pe_call G_l_roll (hr.mono (by decide)) (by rfl) T.m_l_roll T.F_l_roll.kp T.b_l_roll .nil pass0 (pa_cons (pv 2) (pa_cons pe_int pa_nil))) (fun _ _ => rfl)) pe_int))))
        (C8.pss_cut (ps_set (i := 5) sc_law.nd rfl (Or.inr rfl) (pe_make T.M_Rule G_Rule_init (hr.mono (by decide)) (by rfl) T.m_Rule hb_Rule_init hv_Rule_init pass0 (pa_cons pe_str (pa_cons (pe_lc (own := [("_law_term", 16)]) (by rfl) sc_law.nd (listK K (pv 4)) (blkOk_by (own := [("_law_term", 16)]) (N := N_law) (sc := defScope s_law) (by decide +kernel)) (fun _ _ _ _ _ => (pg_name (i := 16) sc_law.nd rfl (Or.inl rfl))) (fun _ _ _ _ _ => pts_nil) (fun _ _ _ _ _ => (LamX.pe_lam1 (k := 3) (i := 1) (q := qL) (params := la__law_make) (body := lb__law_make) (scope := ls__law_make) (N := ["_law_term"]) sc_lam__law_make (hr.mono (by decide)) (fun _ _ _ _ => (by rfl)) (fun A' outer s H f c' hr => (pe_ifExp (pt_val (pe_callB (isiK K) (by rfl) T.z_isinstance (by decide +kernel) (pa_cons (pv 0) (pa_cons (pe_bltn (v := .ty "str") (by rfl) T.z_str (by decide +kernel) rfl) pa_nil)))) (pe_call G_var (hr.mono (by decide)) (by rfl) T.m_var T.F_var.kp T.b_var .nil pass0 (pa_cons (pv 0) pa_nil)) (pe_call G_val (hr.mono (by decide)) (by rfl) T.m_val T.F_val.kp T.b_val .nil pass0 (pa_cons (pv 0) pa_nil)))) (by rfl) (by first | exact Or.inl rfl | exact Or.inr (Or.inl rfl) | exact Or.inr (Or.inr rfl)) (pa_cons (pv 16) pa_nil)))) (pa_cons (pe_lc (own := [("_law_kind", 17), ("_law_name", 18), ("_law_terms", 19)]) (by rfl) sc_law.nd (listK K (pv 3)) (blkOk_by (own := [("_law_kind", 17), ("_law_name", 18), ("_law_terms", 19)]) (N := N_law) (sc := defScope s_law) (by decide +kernel)) (fun _ _ _ _ _ => (tupK K (n := 3) rfl (pgs_cons (pg_name (i := 17) sc_law.nd rfl (Or.inl rfl)) (pgs_cons (pg_name (i := 18) sc_law.nd rfl (Or.inl rfl)) (pgs_cons (pg_name (i := 19) sc_law.nd rfl (Or.inl rfl)) pgs_nil))))) (fun _ _ _ _ _ => pts_nil) (fun _ _ _ _ _ => (pe_make T.M_Literal G_Literal_init (hr.mono (by decide)) (by rfl) T.m_Literal T.b_Literal_init .nil pass0 (pa_cons (pv 17) (pa_cons (pv 18) (pa_cons (pe_lc (own := [("_law_term", 16)]) (by rfl) sc_law.nd (listK K (pv 19)) (blkOk_by (own := [("_law_term", 16)]) (N := N_law) (by rfl)) (fun _ _ _ _ _ => (pg_name (i := 16) sc_law.nd rfl (Or.inl rfl))) (fun _ _ _ _ _ => pts_nil) (fun _ _ _ _ _ => (LamX.pe_lam1 (k := 3) (i := 1) (q := qL) (params := la__law_make) (body := lb__law_make) (scope := ls__law_make) (N := ["_law_term"]) sc_lam__law_make (hr.mono (by decide)) (fun _ _ _ _ => (by rfl)) (fun A' outer s H f c' hr => (pe_ifExp (pt_val (pe_callB (isiK K) (by rfl) T.z_isinstance (by decide +kernel) (pa_cons (pv 0) (pa_cons (pe_bltn (v := .ty "str") (by rfl) T.z_str (by decide +kernel) rfl) pa_nil)))) (pe_call G_var (hr.mono (by decide)) (by rfl) T.m_var T.F_var.kp T.b_var .nil pass0 (pa_cons (pv 0) pa_nil)) (pe_call G_val (hr.mono (by decide)) (by rfl) T.m_val T.F_val.kp T.b_val .nil pass0 (pa_cons (pv 0) pa_nil)))) (by rfl) (by first | exact Or.inl rfl | exact Or.inr (Or.inl rfl) | exact Or.inr (Or.inr rfl)) (pa_cons (pv 16) pa_nil)))) pa_nil)))))) pa_nil)))))
        (C8.pss_cut (ps_set (i := 6) sc_law.nd rfl (Or.inr rfl) (pe_call G_l_limited (hr.mono (by decide)) (by rfl) T.m_l_limited T.F_l_limited.kp T.b_l_limited .nil pass0 (pa_cons (pv 4) (pa_cons (pv 3) pa_nil))))
        (C8.pss_cut (ps_if (PW.pt (pw_or (pt_cmpR (neD K hr.units) (pe_callB (cr_sortedT K) (by rfl) T.z_sorted (by decide +kernel) (pa_cons (pe_call G_limited (hr.mono (by decide)) (by rfl) T.m_limited T.F_limited.kp T.b_limited .nil pass0 (pa_cons (pv 5) pa_nil)) pa_nil)) (pe_callB (sortedSK K) (by rfl) T.z_sorted (by decide +kernel) (pa_cons (pv 6) pa_nil)) (nomark _)) (pw_or1 (pt_cmpR (neD K hr.units) (pe_lc (own := [("_law_j", 8)]) (by rfl) sc_law.nd (pi_range1 (by rfl) T.z_range (pa_cons (pe_callB (lenK K) (by rfl) T.z_len (by decide +kernel) (pa_cons (pv 3) pa_nil)) pa_nil)) (blkOk_by (own := [("_law_j", 8)]) (N := N_law) (sc := defScope s_law) (by decide +kernel)) (fun _ _ _ _ _ => (pg_name (i := 8) sc_law.nd rfl (Or.inl rfl))) (fun _ _ _ _ _ => (pts_one (pt_cmpR (neD K hr.units) (pe_callTy (listOf K) (by rfl) T.z_list (by decide +kernel) (pa_cons (pe_call G_needs (hr.mono (by decide)) (by rfl) T.m_needs T.F_needs.kp T.b_needs .nil pass0 (pa_cons (pv 5) (pa_cons (pv 8) pa_nil))) pa_nil)) (pe_call G_l_needs (hr.mono (by decide)) (by rfl) T.m_l_needs T.F_l_needs.kp T.b_l_needs .nil pass0 (pa_cons (pv 4) (pa_cons (pv 3) (pa_cons (pv 8) pa_nil)))) (nomark _)))) (fun _ _ _ _ _ => (pv 8))) (pe_lst pa_nil) (nomark _)))))
          (pss_one (ps_ret pe_bl))
          pss_nil)
        (C8.pss_cut (ps_set (i := 7) sc_law.nd rfl (Or.inr rfl) (pe_call G_l_names (hr.mono (by decide)) (by rfl) T.m_l_names T.F_l_names.kp T.b_l_names .nil pass0 (pa_cons (pv 4) pa_nil)))
        (C8.pss_cut (ps_for PassesOwn.never rfl (pi_range1 (by rfl) T.z_range (pa_cons (pe_callB (lenK K) (by rfl) T.z_len (by decide +kernel) (pa_cons (pv 3) pa_nil)) pa_nil)) (pg_name (i := 8) sc_law.nd rfl (Or.inr rfl))
          (C8.pss_cut (ps_set (i := 7) sc_law.nd rfl (Or.inr rfl) (pe_op op_cat (pv 7) (pe_lc (own := [("_law_one", 20)]) (by rfl) sc_law.nd (listK K (pe_call G_l_needs (hr.mono (by decide)) (by rfl) T.m_l_needs T.F_l_needs.kp T.b_l_needs .nil pass0 (pa_cons (pv 4) (pa_cons (pv 3) (pa_cons (pv 8) pa_nil))))) (blkOk_by (own := [("_law_one", 20)]) (N := N_law) (sc := defScope s_law) (by decide +kernel)) (fun _ _ _ _ _ => (pg_name (i := 20) sc_law.nd rfl (Or.inl rfl))) (fun _ _ _ _ _ => (pts_one (pt_cmpR (notInSeq K) (pv 20) (pv 7) (by rfl)))) (fun _ _ _ _ _ => (pv 20)))))
          (pss_one (ps_if (pt_cmpR op_ne (pe_call G_ready (hr.mono (by decide)) (by rfl) T.m_ready T.F_ready.kp T.b_ready .nil pass0 (pa_cons (pv 5) (pa_cons (pv 8) (pa_cons (pv 6) pa_nil)))) (pe_cmpR (eqL K hr.units0) (pe_lc (own := [("_law_one", 20)]) (by rfl) sc_law.nd (listK K (pe_call G_l_needs (hr.mono (by decide)) (by rfl) T.m_l_needs T.F_l_needs.kp T.b_l_needs .nil pass0 (pa_cons (pv 4) (pa_cons (pv 3) (pa_cons (pv 8) pa_nil))))) (blkOk_by (own := [("_law_one", 20)]) (N := N_law) (sc := defScope s_law) (by decide +kernel)) (fun _ _ _ _ _ => (pg_name (i := 20) sc_law.nd rfl (Or.inl rfl))) (fun _ _ _ _ _ => (pts_one (pt_cmpR (notInSeq K) (pv 20) (pv 6) (by rfl)))) (fun _ _ _ _ _ => (pv 20))) (pe_lst pa_nil) (nomark _)) (nomark _))
            (pss_one (ps_ret pe_bl))
            pss_nil))))
        (C8.pss_cut (ps_if (pt_cmpR (neD K hr.units) (pe_callTy (listOf K) (by rfl) T.z_list (by decide +kernel) (pa_cons (pe_call G_loose (hr.mono (by decide)) (by rfl) T.m_loose T.F_loose.kp T.b_loose .nil pass0 (pa_cons (pv 5) pa_nil)) pa_nil)) (pe_lc (own := [("_law_one", 20)]) (by rfl) sc_law.nd (listK K (pv 7)) (blkOk_by (own := [("_law_one", 20)]) (N := N_law) (sc := defScope s_law) (by decide +kernel)) (fun _ _ _ _ _ => (pg_name (i := 20) sc_law.nd rfl (Or.inl rfl))) (fun _ _ _ _ _ => (pts_one (pt_cmpR (notInSeq K) (pv 20) (pv 6) (by rfl)))) (fun _ _ _ _ _ => (pv 20))) (nomark _))
          (pss_one (ps_ret pe_bl))
          pss_nil)
        (C8.pss_cut (ps_set (i := 9) sc_law.nd rfl (Or.inl rfl) pe_bl)
        (C8.pss_cut (ps_for PassesOwn.never rfl (pi_range1 (by rfl) T.z_range (pa_cons (pe_callB (lenK K) (by rfl) T.z_len (by decide +kernel) (pa_cons (pv 3) pa_nil)) pa_nil)) (pg_name (i := 8) sc_law.nd rfl (Or.inr rfl))
          (pss_one (ps_if (pt_cmpR op_eq (pe_ix (ixT K) (pe_ix (ixL K) (pv 3) (pv 8) (fun _ _ => rfl)) pe_int (fun _ _ => rfl)) pe_str (nomark _))
            (C8.pss_cut (ps_set (i := 10) sc_law.nd rfl (Or.inl rfl) (pe_call G_l_flat (hr.mono (by decide)) (by rfl) T.m_l_flat T.F_l_flat.kp T.b_l_flat .nil pass0 (pa_cons (pe_lc (own := [("_law_k", 15)]) (by rfl) sc_law.nd (pi_range1 (by rfl) T.z_range (pa_cons (pe_callB (lenK K) (by rfl) T.z_len (by decide +kernel) (pa_cons (pv 3) pa_nil)) pa_nil)) (blkOk_by (own := [("_law_k", 15)]) (N := N_law) (sc := defScope s_law) (by decide +kernel)) (fun _ _ _ _ _ => (pg_name (i := 15) sc_law.nd rfl (Or.inl rfl))) (fun _ _ _ _ _ => (pts_one (pt_cmpR op_ne (pv 15) (pv 8) (nomark _)))) (fun _ _ _ _ _ => (pe_lc (own := [("_law_one", 20)]) (by rfl) sc_law.nd (tupIK K (pe_call G_gives (hr.mono (by decide)) (by rfl) T.m_gives T.F_gives.kp T.b_gives .nil pass0 (pa_cons (pv 5) (pa_cons (pv 15) pa_nil)))) (blkOk_by (own := [("_law_one", 20)]) (N := N_law) (by rfl)) (fun _ _ _ _ _ => (pg_name (i := 20) sc_law.nd rfl (Or.inl rfl))) (fun _ _ _ _ _ => pts_nil) (fun _ _ _ _ _ => (pv 20))))) pa_nil)))
            (pss_one (ps_set (i := 9) sc_law.nd rfl (Or.inl rfl) (pe_or (pv 9) (pe_or (pe_cmpR (inSeq K) (pe_ix (ixL K) (pe_ix (ixT K) (pe_ix (ixL K) (pv 3) (pv 8) (fun _ _ => rfl)) pe_int (fun _ _ => rfl)) pe_int (fun _ _ => rfl)) (pv 10) (by rfl)) (pe_one (pe_cmpR (inSeq K) (pe_ix (ixL K) (pe_ix (ixT K) (pe_ix (ixL K) (pv 3) (pv 8) (fun _ _ => rfl)) pe_int (fun _ _ => rfl)) pe_int (fun _ _ => rfl)) (pe_slice (slL K) (pe_ix (ixT K) (pe_ix (ixL K) (pv 3) (pv 8) (fun _ _ => rfl)) pe_int (fun _ _ => rfl)) (po_some pe_int) po_none) (by rfl))))))))
            pss_nil)))
        (C8.pss_cut (ps_set (i := 11) sc_law.nd rfl (Or.inl rfl) (pe_ifExp (PW.pt (pw_or (pt_cmpR (neD K hr.units) (pe_call G_loose (hr.mono (by decide)) (by rfl) T.m_loose T.F_loose.kp T.b_loose .nil pass0 (pa_cons (pv 5) pa_nil)) (pe_tup pa_nil) (nomark _)) (pw_or1 (pt_val (pv 9))))) pe_str (pe_meth0 (pv 5) T.cl_Rule T.e_Rule_shown G_Rule_shown (hr.mono (by decide)) T.b_Rule_shown .nil pass0)))
        (C8.pss_cut (ps_if (pt_cmpR (neD K hr.units) (pe_told T (by rfl) (by rfl) TB (by rfl) (by rfl) (by rfl) (k := 7) (hr.mono (by decide)) (LamX.lamS_by (by rfl)) (by rfl) (fun _ _ _ _ _ => (by rfl)) (fun A' outer s H E f c' hr => (pe_meth0 (pe_call G_check_rule (hr.mono (by decide)) (by rfl) T.m_check_rule T.F_check_rule.kp T.b_check_rule .nil (passes_call (takes_of rfl rfl rfl rfl) (fun _ _ _ _ h => h)) (pa_cons (pv 5) pa_nil)) T.cl_Rule T.e_Rule_shown G_Rule_shown (hr.mono (by decide)) T.b_Rule_shown .nil pass0))) (pv 11) (nomark _))
          (pss_one (ps_ret pe_bl))
          pss_nil)
        (pss_one (ps_if (PW.pt (pw_or (pt_cmpR op_ne (pe_call G_is_fact (hr.mono (by decide)) (by rfl) T.m_is_fact T.F_is_fact.kp T.b_is_fact .nil pass0 (pa_cons (pv 5) pa_nil)) (pe_and (pe_cmpR (eqL K hr.units0) (pv 3) (pe_lst pa_nil) (nomark _)) (pe_one (pe_cmpR (eqL K hr.units0) (pe_call G_l_names (hr.mono (by decide)) (by rfl) T.m_l_names T.F_l_names.kp T.b_l_names .nil pass0 (pa_cons (pv 4) pa_nil)) (pe_lst pa_nil) (nomark _)))) (nomark _)) (pw_or1 (pt_cmpR (neD K hr.units) (pe_told T (by rfl) (by rfl) TB (by rfl) (by rfl) (by rfl) (k := 7) (hr.mono (by decide)) (LamX.lamS_by (by rfl)) (by rfl) (fun _ _ _ _ _ => (by rfl)) (fun A' outer s H E f c' hr => (pe_call G_row_of (hr.mono (by decide)) (by rfl) T.m_row_of T.F_row_of.kp T.b_row_of .nil (passes_call (takes_of rfl rfl rfl rfl) (fun _ _ _ _ h => h)) (pa_cons (pv 5) pa_nil)))) (pe_ifExp (pt_val (pe_call G_is_fact (hr.mono (by decide)) (by rfl) T.m_is_fact T.F_is_fact.kp T.b_is_fact .nil pass0 (pa_cons (pv 5) pa_nil))) (pe_callTy (tupOf K) (by rfl) T.z_tuple (by decide +kernel) (pa_cons (pv 4) pa_nil)) pe_str) (nomark _)))))
          (pss_one (ps_ret pe_bl))
          pss_nil)))))))))))))))
      (C8.pss_cut (ps_par (i := 12) (j := 13) (by rfl) sc_law.nd rfl rfl (by decide) rfl rfl (pa_cons (pe_make T.M_Rule G_Rule_init (hr.mono (by decide)) (by rfl) T.m_Rule hb_Rule_init hv_Rule_init pass0 (pa_cons pe_str (pa_cons (pe_lst (pa_cons (pe_call G_val (hr.mono (by decide)) (by rfl) T.m_val T.F_val.kp T.b_val .nil pass0 (pa_cons pe_int pa_nil)) pa_nil)) (pa_cons (pe_lst pa_nil) pa_nil)))) (pa_cons (pe_make T.M_Rule G_Rule_init (hr.mono (by decide)) (by rfl) T.m_Rule hb_Rule_init hv_Rule_init pass0 (pa_cons pe_str (pa_cons (pe_lst (pa_cons (pe_call G_var (hr.mono (by decide)) (by rfl) T.m_var T.F_var.kp T.b_var .nil pass0 (pa_cons pe_str pa_nil)) pa_nil)) (pa_cons (pe_lst (pa_cons (pe_make T.M_Literal G_Literal_init (hr.mono (by decide)) (by rfl) T.m_Literal T.b_Literal_init .nil pass0 (pa_cons pe_str (pa_cons pe_str (pa_cons (pe_lst (pa_cons (pe_call G_var (hr.mono (by decide)) (by rfl) T.m_var T.F_var.kp T.b_var .nil pass0 (pa_cons pe_str pa_nil)) pa_nil)) pa_nil)))) pa_nil)) pa_nil)))) pa_nil)) (by rfl))
      (C8.pss_cut (ps_if (PW.pt (pw_or (pt_cmpR (neD K hr.units) (pe_ix (ixT K) (pe_call G_parted (hr.mono (by decide)) (by rfl) T.m_parted T.F_parted.kp T.b_parted .nil pass0 (pa_cons (pe_lst (pa_cons (pv 12) (pa_cons (pv 13) pa_nil))) pa_nil)) pe_int (fun _ _ => rfl)) (pe_tup (pa_cons (pe_tup (pa_cons pe_str (pa_cons (pe_tup (pa_cons pe_int pa_nil)) pa_nil))) pa_nil)) (nomark _)) (pw_or1 (pt_cmpR (neD K hr.units) (pe_lc (own := [("_law_one", 20)]) (by rfl) sc_law.nd (tupIK K (pe_ix (ixT K) (pe_call G_parted (hr.mono (by decide)) (by rfl) T.m_parted T.F_parted.kp T.b_parted .nil pass0 (pa_cons (pe_lst (pa_cons (pv 12) (pa_cons (pv 13) pa_nil))) pa_nil)) pe_int (fun _ _ => rfl))) (blkOk_by (own := [("_law_one", 20)]) (N := N_law) (sc := defScope s_law) (by decide +kernel)) (fun _ _ _ _ _ => (pg_name (i := 20) sc_law.nd rfl (Or.inl rfl))) (fun _ _ _ _ _ => pts_nil) (fun _ _ _ _ _ => (fldK K (pv 20) rfl))) (pe_lst (pa_cons pe_str pa_nil)) (nomark _)))))
        (pss_one (ps_ret pe_bl))
        pss_nil)
      (C8.pss_cut (ps_set (i := 14) sc_law.nd rfl (Or.inl rfl) (pe_lst (pa_cons (pe_make T.M_Rule G_Rule_init (hr.mono (by decide)) (by rfl) T.m_Rule hb_Rule_init hv_Rule_init pass0 (pa_cons pe_str (pa_cons (pe_lst pa_nil) (pa_cons (pe_lst (pa_cons (pe_make T.M_Literal G_Literal_init (hr.mono (by decide)) (by rfl) T.m_Literal T.b_Literal_init .nil pass0 (pa_cons pe_str (pa_cons pe_str (pa_cons (pe_lst pa_nil) pa_nil)))) pa_nil)) pa_nil)))) (pa_cons (pe_make T.M_Rule G_Rule_init (hr.mono (by decide)) (by rfl) T.m_Rule hb_Rule_init hv_Rule_init pass0 (pa_cons pe_str (pa_cons (pe_lst pa_nil) (pa_cons (pe_lst pa_nil) pa_nil)))) (pa_cons (pe_make T.M_Rule G_Rule_init (hr.mono (by decide)) (by rfl) T.m_Rule hb_Rule_init hv_Rule_init pass0 (pa_cons pe_str (pa_cons (pe_lst pa_nil) (pa_cons (pe_lst (pa_cons (pe_make T.M_Literal G_Literal_init (hr.mono (by decide)) (by rfl) T.m_Literal T.b_Literal_init .nil pass0 (pa_cons pe_str (pa_cons pe_str (pa_cons (pe_lst pa_nil) pa_nil)))) pa_nil)) pa_nil)))) pa_nil)))))
      (C8.pss_cut (ps_if (PW.pt (pw_or (pt_cmpR (neD K hr.units) (pe_lc (own := [("_law_one", 20)]) (by rfl) sc_law.nd (listK K (pv 14)) (blkOk_by (own := [("_law_one", 20)]) (N := N_law) (sc := defScope s_law) (by decide +kernel)) (fun _ _ _ _ _ => (pg_name (i := 20) sc_law.nd rfl (Or.inr rfl))) (fun _ _ _ _ _ => (pts_one (pt_cmpR op_ne (pe_told T (by rfl) (by rfl) TB (by rfl) (by rfl) (by rfl) (k := 7) (hr.mono (by decide)) (LamX.lamS_by (by rfl)) (by rfl) (fun _ _ _ _ _ => (by rfl)) (fun A' outer s H E f c' hr => (pe_call G_check_rule (hr.mono (by decide)) (by rfl) T.m_check_rule T.F_check_rule.kp T.b_check_rule .nil (passes_call (takes_of rfl rfl rfl rfl) (fun _ _ _ _ h => h)) (pa_cons (pv 20) pa_nil)))) pe_str (nomark _)))) (fun _ _ _ _ _ => (pv 20))) (pe_lst pa_nil) (nomark _)) (pw_or1 (pt_cmpR opNotTrue (pe_call G_shared (hr.mono (by decide)) (by rfl) T.m_shared T.F_shared.kp T.b_shared .nil pass0 (pa_cons (pv 13) (pa_cons pe_int (pa_cons pe_str pa_nil)))) pe_bl (nomark _)))))
        (pss_one (ps_ret pe_bl))
        pss_nil)
      (C8.pss_cut (ps_if (pt_not (pt_cmpR op_eq (pe_told T (by rfl) (by rfl) TB (by rfl) (by rfl) (by rfl) (k := 7) (hr.mono (by decide)) (LamX.lamS_by (by rfl)) (by rfl) (fun _ _ _ _ _ => (by rfl)) (fun A' outer s H E f c' hr => (pe_call G_check_rule (hr.mono (by decide)) (by rfl) T.m_check_rule T.F_check_rule.kp T.b_check_rule .nil (passes_call (takes_of rfl rfl rfl rfl) (fun _ _ _ _ h => h)) (pa_cons (pe_make T.M_Rule G_Rule_init (hr.mono (by decide)) (by rfl) T.m_Rule hb_Rule_init hv_Rule_init pass0 (pa_cons pe_str (pa_cons (pe_lst (pa_cons (pe_call G_val (hr.mono (by decide)) (by rfl) T.m_val T.F_val.kp T.b_val .nil pass0 (pa_cons (pe_op op_pow pe_int pe_int) pa_nil)) pa_nil)) (pa_cons (pe_lst pa_nil) pa_nil)))) pa_nil)))) pe_str (nomark _)))
        (pss_one (ps_ret pe_bl))
        pss_nil)
      (pss_one (ps_ret (pe_cmpR op_eq (pe_told T (by rfl) (by rfl) TB (by rfl) (by rfl) (by rfl) (k := 7) (hr.mono (by decide)) (LamX.lamS_by (by rfl)) (by rfl) (fun _ _ _ _ _ => (by rfl)) (fun A' outer s H E f c' hr => (pe_call G_check_rule (hr.mono (by decide)) (by rfl) T.m_check_rule T.F_check_rule.kp T.b_check_rule .nil (passes_call (takes_of rfl rfl rfl rfl) (fun _ _ _ _ h => h)) (pa_cons (pe_make T.M_Rule G_Rule_init (hr.mono (by decide)) (by rfl) T.m_Rule T.b_Rule_init .nil pass0 (pa_cons pe_str (pa_cons (pe_lst (pa_cons (pe_call G_var (hr.mono (by decide)) (by rfl) T.m_var T.F_var.kp T.b_var .nil pass0 (pa_cons pe_str pa_nil)) pa_nil)) (pa_cons (pe_lst pa_nil) (pa_cons (pe_tup (pa_cons pe_int (pa_cons pe_str pa_nil))) pa_nil))))) pa_nil)))) pe_str (nomark _))))))))))), ?_⟩
    refine ⟨fun σ H' => ∃ f c', σ = [some (.ref a), some (.ref f), none, none, none, none, none, none, none, none, none, none, none, none, none, none, none, none, none, none, none] ∧ SqL K H' a (ns.map V.int) ∧ Lm H' f c' ∧ Tabs [(A.PL, qL)] H', ?_, ?_⟩
    · refine ⟨fun p hp => ?_, fun f c' H1 ext tb hc hf => ?_⟩
      · cases List.mem_singleton.mp hp
        exact TabS.nil hP
      · have s1 : Same H1 (upd H1 f (LamO f qL la__law_make lb__law_make ls__law_make c')) := same_new hf
        exact ⟨f, c', rfl, sqL_n (sqL_n hS ext) (ExtN.of s1), ⟨upd_same, s1 _ _ hc⟩, tb.ext s1⟩
    rintro σ H0 ⟨f, c', rfl, hS0, hL0, tb0⟩
    refine ⟨fun σ H' => (∃ v1 v2 v3 v4 v5 v6 v7 v8 v9 v10 v11 v12 v13 v14 v15 v16 v17 v18 v19 v20, σ = [some (.ref a), v1, v2, v3, v4, v5, v6, v7, v8, v9, v10, v11, v12, v13, v14, v15, v16, v17, v18, v19, v20]) ∧ Tabs [(A.PL, qL)] H', ?_, ?_⟩
    · -- the loop
      refine ⟨_, rfl, a, ns, rfl, hS0, fun p d H1 s1 hp0 hd0 ndp hdice el => ⟨p, rfl, ⟨_, SqL.of el⟩, ?_⟩⟩
      refine for_list (K := K) (a := p) (xs := [.ref d]) (fun i σ H' => H' p = some (.lst [.ref d]) ∧ Tabs [(A.PL, qL)] H' ∧ (∃ v1 v2 v3 v4 v5 v6 v7 v8 v9 v10 v11 v12 v13 v14 v15 v16 v17 v18 v19 v20, σ = [some (.ref a), v1, v2, v3, v4, v5, v6, v7, v8, v9, v10, v11, v12, v13, v14, v15, v16, v17, v18, v19, v20]) ∧ (i = 0 → σ = [some (.ref a), some (.ref f), none, none, none, none, none, none, none, none, none, none, none, none, none, none, none, none, none, none, none] ∧ DiceAt H' d ∧ Lm H' f c'))
        ⟨el, tb0.ext s1, ⟨_, _, _, _, _, _, _, _, _, _, _, _, _, _, _, _, _, _, _, _, rfl⟩, fun _ => ⟨rfl, hdice, hL0.up s1⟩⟩ (fun i σ H' _ h => SqL.of h.1) ?_ ?_
      · rintro i v σ H2 hv ⟨el2, tb2, _, h0⟩
        have hi : i = 0 := by
          have : i < 1 := (List.getElem?_eq_some_iff.mp hv).1
          omega
        subst hi
        cases hv
        obtain ⟨rfl, hd2, hL2⟩ := h0 rfl
        -- parts
        refine ⟨fun σ H' => ∃ (ps : Addr) (as : List Addr) (qs : List Pt), σ = [some (.ref a), some (.ref f), some (.ref d), some (.ref ps), none, none, none, none, none, none, none, none, none, none, none, none, none, none, none, none, none] ∧ H' p = some (.lst [.ref d]) ∧ Tabs [(A.PL, qL)] H' ∧ DiceAt H' d ∧ Lm H' f c' ∧ ps ≠ d ∧ H' ps = some (.lst (as.map V.ref)) ∧ All2 (LPtX d H') as qs ∧ qs.length ≤ 4 ∧ ∀ q ∈ qs, GoodP q, ?_, ?_⟩
        · refine ⟨_, rfl, d, 5, rfl, hd2, by decide, by decide, fun n H3 n0 n1 d3 f3 => ⟨_, rfl, by omega, by omega, fun D hD => ?_⟩⟩
          have x3 : SameX d H2 H3 := sx_of f3
          have ndD : D ≠ d := (d3.ne hD).symm
          refine lc_range (n := n.toNat) (fun i H' => i ≤ n.toNat ∧ SameX d H3 H' ∧ DiceAt H' d ∧ ∃ (as : List Addr) (qs : List Pt), H' D = some (.lst (as.map V.ref)) ∧ All2 (LPtD d D H') as qs ∧ qs.length = i ∧ ∀ q ∈ qs, GoodP q)
            ⟨Nat.zero_le _, Same.x (same_new hD), d3.up1 ndD.symm, [], [], upd_same, .nil, rfl, fun _ h => nomatch h⟩ ?_ ?_
          · rintro i H4 hi ⟨_, x4, d4, as, qs, eD, hall, hlen, hg⟩
            refine ⟨rfl, _, rfl, d, rfl, d4, fun b q tl H5 gq x5 d5 ntl ntd eb etl => ?_⟩
            have eD5 := x5 _ _ eD ndD
            have ntD : tl ≠ D := (ne_of_none eD ntl).symm
            have hnew : LPtD d D H5 b q := ⟨tl, eb, etl, ntd, ntD⟩
            refine ⟨as.map V.ref, eD5, by rw [List.length_map, hall.1]; exact sz (by omega), by omega, fun b' o' e' nb' => ?_, d5.up1 ndD.symm, as ++ [b], qs ++ [q], by rw [upd_same, List.map_append]; rfl, ?_, by rw [List.length_append, hlen]; rfl, fun q' hq' => ?_⟩
            · rw [upd_ne (ne_of_none e' hD)]
              exact x5 _ _ (x4 _ _ e' nb') nb'
            · exact (All2.snoc (hall.imp fun a t h => LPtD.upx h x5 d4) hnew).imp fun a t h => LPtD.wr h eD5
            · rcases List.mem_append.mp hq' with z | z
              · exact hg q' z
              · rw [List.mem_singleton] at z
                rw [z]
                exact gq
          · rintro H4 ⟨_, x4, d4, as, qs, eD, hall, hlen, hg⟩
            have x24 := x3.trans x4
            have npd : p ≠ d := ndp.symm
            have tb3 : Tabs [(A.PL, qL)] H4 := fun q hq => TabS.upx (tb2 q hq) x24 hd2
            exact ⟨D, as, qs, rfl, x24 _ _ el2 npd, tb3, d4, hL2.upx x24 hd2, ndD, eD, hall.imp fun a t ⟨tl, e, f, g, _⟩ => ⟨tl, e, f, g⟩, by omega, hg⟩
        rintro σ H3 ⟨ps, as, qs, rfl, el3, tb3, hd3, hL3, npd, eps, hall3, hq4, hgood⟩
        -- head
        refine ⟨fun σ H' => ∃ (hd : Addr) (head : List Tm), σ = [some (.ref a), some (.ref f), some (.ref d), some (.ref ps), some (.ref hd), none, none, none, none, none, none, none, none, none, none, none, none, none, none, none, none] ∧ H' p = some (.lst [.ref d]) ∧ Tabs [(A.PL, qL)] H' ∧ Lm H' f c' ∧ LPs H' ps qs ∧ H' hd = some (.lst (head.map tvv)) ∧ head.length ≤ 2 ∧ ∀ t ∈ head, gT t, ?_, ?_⟩
        · refine ⟨_, rfl, d, 3, rfl, hd3, by decide, by decide, fun n H4 n0 n1 d4 f4 => ⟨_, rfl, by omega, by omega, fun D hD => ?_⟩⟩
          have x4 : SameX d H3 H4 := sx_of f4
          have ndD : D ≠ d := (d4.ne hD).symm
          refine lc_range (n := n.toNat) (fun i H' => i ≤ n.toNat ∧ LcD d H4 D i H') ⟨Nat.zero_le _, LcD.start hD d4⟩ ?_ ?_
          · rintro i H5 hi ⟨_, h⟩
            obtain ⟨x5, d5, _⟩ := id h
            refine ⟨rfl, _, rfl, d, 4, rfl, d5, by decide, by decide, fun m H6 m0 m1 d6 f6 => ⟨_, _, rfl, rfl, _, rfl, ?_⟩⟩
            refine iteD (fun _ => ?_) (fun _ => ?_)
            · refine ⟨_, rfl, d, 4, rfl, d6, by decide, by decide, fun j H7 j0 j1 d7 f7 => ?_⟩
              obtain ⟨s0, c, hs, hat2, es⟩ := sign4 j0 j1
              refine ⟨_, _, _, rfl, rfl, (by decide +kernel), hat2, ?_⟩
              rw [← es]
              obtain ⟨acc, h1, h2, h3⟩ := LcD.yes (t := .inl s0) hD h (by omega) ((sx_of f6).trans (sx_of f7)) d7 ndD hs
              exact ⟨acc, h1, h2, by omega, h3⟩
            · obtain ⟨acc, h1, h2, h3⟩ := LcD.yes (t := .inr 7) hD h (by omega) (sx_of f6) d6 ndD ⟨by decide, by decide⟩
              exact ⟨acc, h1, h2, by omega, h3⟩
          · rintro H5 ⟨_, x5, d5, head, eD, hlen, hg⟩
            have x35 := x4.trans x5
            have tb5 : Tabs [(A.PL, qL)] H5 := fun q hq => TabS.upx (tb3 q hq) x35 hd3
            exact ⟨D, head, rfl, x35 _ _ el3 ndp.symm, tb5, hL3.upx x35 hd3, ⟨as, x35 _ _ eps npd, hall3.imp fun a t ⟨tl, e, f, g⟩ => ⟨tl, x35 _ _ e (hd3.ne_tup e), x35 _ _ f g⟩⟩, eD, by omega, hg⟩
        rintro σ H4 ⟨hd, head, rfl, el4, tb4, hL4, ⟨as4, eps4, hall4⟩, ehd4, hh2, hgh⟩
        have hDr : Drawn head qs := drawn_of (by omega) hgh (by omega) hgood
        have hwf := hDr.wf
        -- the rule
        refine ⟨fun σ H' => ∃ ru : Addr, σ = [some (.ref a), some (.ref f), some (.ref d), some (.ref ps), some (.ref hd), some (.ref ru), none, none, none, none, none, none, none, none, none, none, none, none, none, none, none] ∧ Sit A H' p d ps hd ru head qs, ?_, ?_⟩
        · refine ⟨_, rfl, hd, rfl, ⟨_, SqL.of ehd4⟩, fun D1 hD1 => ?_⟩
          have st1 : ∀ D, Stab D fun H y (t : Tm) => ∃ x, y = .ref x ∧ TO A.C_Term H x t := fun D => ⟨fun ⟨x, e, h⟩ s => ⟨x, e, TmAt.up h s⟩, fun hl ⟨x, e, h⟩ => ⟨x, e, TmAt.wr h hl (fun _ _ _ q => nomatch q)⟩⟩
          refine lc_list (K := K) (a := hd) (xs := head.map tvv) (LcI (fun H y (t : Tm) => ∃ x, y = .ref x ∧ TO A.C_Term H x t) (fun _ => true) head H4 D1) (LcI.start hD1) (fun i H' _ h => SqL.of (h.1 _ _ ehd4)) ?_ ?_
          · intro i y H5 hy h5
            rw [List.getElem?_map] at hy
            obtain ⟨t, ht, rfl⟩ := Option.map_eq_some_iff.mp hy
            have hL5 := hL4.up h5.1
            refine ⟨rfl, f, c', rfl, hL5.f, _, rfl, rfl, hL5.f, hL5.c, ?_⟩
            cases t with
            | inl z => exact ⟨_, rfl, _, _, _, _, _, rfl, .ty _, .base (.str z), kit_ty (by decide +kernel), _, rfl, iteT ⟨_, rfl, z, rfl, fun x H6 nx hx s6 => h5.yes (st1 D1) hD1 (by omega) ht rfl s6 ⟨x, rfl, hx⟩⟩⟩
            | inr z => exact ⟨_, rfl, _, _, _, _, _, rfl, .ty _, .base (.int z), kit_ty (by decide +kernel), _, rfl, iteF ⟨_, rfl, _, rfl, fun x H6 nx hx s6 => h5.yes (st1 D1) hD1 (by omega) ht rfl s6 ⟨x, rfl, hx⟩⟩⟩
          · intro H5 h5
            obtain ⟨ys, s5, eD1, hv⟩ := h5.fin (by rw [List.length_map]; exact Nat.le_refl _)
            obtain ⟨ts1, rfl, hts1⟩ := hv.refs
            rw [filter_tt] at hts1
            refine ⟨_, rfl, ps, rfl, ⟨_, SqL.of (s5 _ _ eps4)⟩, fun D2 hD2 => ?_⟩
            have st2 : Stab D2 fun H y (q : Pt) => ∃ x, y = .ref x ∧ LitAt A H x q := ⟨fun ⟨x, e, h⟩ s => ⟨x, e, h.up s⟩, fun hl ⟨x, e, h⟩ => ⟨x, e, h.wr hl⟩⟩
            refine lc_list (K := K) (a := ps) (xs := as4.map V.ref) (LcI (fun H y (q : Pt) => ∃ x, y = .ref x ∧ LitAt A H x q) (fun _ => true) qs H5 D2) (LcI.start hD2) (fun i H' _ h => SqL.of (h.1 _ _ (s5 _ _ eps4))) ?_ ?_
            · intro i y H6 hy h6
              obtain ⟨b, q, rfl, eb, eq, tl, ea, et⟩ := hall4.at hy
              have s46 := s5.trans h6.1
              have hwq := hDr.ts eq
              refine ⟨b, _, rfl, SqT.of (s46 _ _ ea), rfl, _, _, rfl, _, _, rfl, _, _, rfl, rfl, rfl, ?_⟩
              refine ⟨_, rfl, _, rfl, _, rfl, tl, rfl, ⟨_, SqL.of (s46 _ _ et)⟩, fun D3 hD3 => ?_⟩
              refine lc_list (K := K) (a := tl) (xs := q.ts.map tvv) (LcI (fun H y (t : Tm) => ∃ x, y = .ref x ∧ TO A.C_Term H x t) (fun _ => true) q.ts H6 D3) (LcI.start hD3) (fun i H' _ h => SqL.of (h.1 _ _ (s46 _ _ et))) ?_ ?_
              · intro i2 y H7 hy h7
                rw [List.getElem?_map] at hy
                obtain ⟨t, ht, rfl⟩ := Option.map_eq_some_iff.mp hy
                have hL7 := (hL4.up s46).up h7.1
                have hl7 : q.ts.length ≤ 999 := by have := hwq.1; omega
                refine ⟨rfl, f, c', rfl, hL7.f, _, rfl, rfl, hL7.f, hL7.c, ?_⟩
                cases t with
                | inl z => exact ⟨_, rfl, _, _, _, _, _, rfl, .ty _, .base (.str z), kit_ty (by decide +kernel), _, rfl, iteT ⟨_, rfl, z, rfl, fun x H8 nx hx s8 => h7.yes (st1 D3) hD3 hl7 ht rfl s8 ⟨x, rfl, hx⟩⟩⟩
                | inr z => exact ⟨_, rfl, _, _, _, _, _, rfl, .ty _, .base (.int z), kit_ty (by decide +kernel), _, rfl, iteF ⟨_, rfl, _, rfl, fun x H8 nx hx s8 => h7.yes (st1 D3) hD3 hl7 ht rfl s8 ⟨x, rfl, hx⟩⟩⟩
              · intro H7 h7
                obtain ⟨ys, s7, eD3, hv⟩ := h7.fin (by rw [List.length_map]; exact Nat.le_refl _)
                obtain ⟨ts2, rfl, hts2⟩ := hv.refs
                rw [filter_tt] at hts2
                refine fun x dx nx ndx nex => ?_
                have s8 := made0 (C := A.C_Literal) nx ndx
                refine ⟨x, dx, D3, q.kind, q.name, q.ts, rfl, upd_same, ⟨ts2, s8 _ _ eD3, hts2.imp fun a t h => TmAt.up h s8⟩, hwq, fun H9 hlit sx => ⟨rfl, ?_⟩⟩
                exact h6.yes st2 hD2 (by omega) eq rfl (s7.trans (made nx ndx sx)) ⟨x, rfl, hlit⟩
            · intro H6 h6
              obtain ⟨ys, s6, eD2, hv⟩ := h6.fin (by rw [List.length_map, hall4.1]; exact Nat.le_refl _)
              obtain ⟨cs, rfl, hcs⟩ := hv.refs
              rw [filter_tt] at hcs
              refine fun x dx nx ndx nex => ?_
              have s8 := made0 (C := A.C_Rule) nx ndx
              have s68 := s6.trans s8
              refine ⟨x, dx, D1, D2, "h", .non, false, head, qs, cs, rfl, upd_same, ⟨ts1, s68 _ _ eD1, hts1.imp fun a t h => TmAt.up h s68⟩, s8 _ _ eD2, hcs.imp fun a t h => h.up s8, hwf.ts, hwf.body, .inl ⟨rfl, rfl⟩, fun H9 hrule sx => ⟨rfl, x, rfl, ?_⟩⟩
              have s9 : Same H4 H9 := (s5.trans s6).trans (made nx ndx sx)
              exact ⟨s9 _ _ el4, LPs.up ⟨as4, eps4, hall4⟩ s9, s9 _ _ ehd4, hrule, tb4.ext s9⟩
        rintro σ H5 ⟨ru, rfl, S5⟩
        have hlimLen : (U.lim (mkR head qs)).length ≤ 60 := by
          have h1 := nodup_le (U.itp_nodup (mkR head qs) _) (itp_sub (mkR head qs) (qs.length + 1))
          have h2 := flat_le (f := fun q : Pt => nms q.ts) (m := 3) (l := qs) fun q hq => Nat.le_trans (U.nms_len _) (hgood q hq).ts.1
          have h3 : (U.lim (mkR head qs)).length ≤ (qs.flatMap fun q => nms q.ts).length := h1
          omega
        have hlimOk : ∀ x ∈ U.lim (mkR head qs), PyData.strOk x = true := fun x hx => is4_ok (lim4 hgood x hx)
        have hbl : (mkR head qs).body.length = qs.length := rfl
        -- good
        refine ⟨fun σ H' => ∃ g : Addr, σ = [some (.ref a), some (.ref f), some (.ref d), some (.ref ps), some (.ref hd), some (.ref ru), some (.ref g), none, none, none, none, none, none, none, none, none, none, none, none, none, none] ∧ Sit A H' p d ps hd ru head qs ∧ H' g = some (.lst ((U.lim (mkR head qs)).map V.str)), ?_, ?_⟩
        · exact ⟨_, rfl, _, rfl, hd, ps, head, qs, rfl, S5.hd, S5.ps, hDr, fun l H6 s6 e6 => ⟨l, rfl, S5.up s6, e6⟩⟩
        rintro σ H6 ⟨g, rfl, S6, eg6⟩
        obtain ⟨as6, eps6, hall6⟩ := id S6.ps
        refine ⟨fun σ H' => σ = [some (.ref a), some (.ref f), some (.ref d), some (.ref ps), some (.ref hd), some (.ref ru), some (.ref g), none, none, none, none, none, none, none, none, none, none, none, none, none, none] ∧ Sit A H' p d ps hd ru head qs ∧ H' g = some (.lst ((U.lim (mkR head qs)).map V.str)), ?_, ?_⟩
        · refine ⟨_, rfl, ru, mkR head qs, rfl, S6.ru, hwf, fun t H7 s7 et => ⟨t, U.lim (mkR head qs), rfl, SqT.of et, by omega, fun ys p1 perm1 srt1 hp1 => ?_⟩⟩
          have s71 := s7.trans (same_new (o := .lst (ys.map V.str)) hp1)
          refine ⟨_, rfl, g, U.lim (mkR head qs), rfl, SqL.of (s71 _ _ eg6), by omega, fun zs p2 perm2 srt2 hp2 => ?_⟩
          have s72 := s71.trans (same_new (o := .lst (zs.map V.str)) hp2)
          have ezs := sorted_same (lim4 hgood) perm1 perm2 srt1 srt2
          subst ezs
          have hyo : ∀ x ∈ ys, PyData.strOk x = true := fun x hx => hlimOk x (perm1.mem_iff.mp hx)
          refine ⟨.list (ys.map PyData.str), .list (ys.map PyData.str), .lst (SqL.of (same_new hp2 _ _ upd_same)) (dp_strs ys), .lst (SqL.of upd_same) (dp_strs ys), strs_list hyo, strs_list hyo, _, rfl, ?_⟩
          rw [eqv_strs hyo]
          refine iteF ⟨_, rfl, ps, _, rfl, .inl (SqL.of (s72 _ _ eps6)), ?_⟩
          rw [List.length_map, hall6.1]
          refine ⟨((qs.length : Nat) : Int), rfl, by omega, by omega, fun D hD => ?_⟩
          generalize upd _ p2 _ = H8 at s72 hD ⊢
          have S8 := S6.up s72
          refine lc_range (n := ((qs.length : Nat) : Int).toNat) (LcI (fun _ _ (_ : Nat) => True) (fun _ => false) (List.range qs.length) H8 D) (LcI.start hD) ?_ ?_
          · intro i H9 hi h
            rw [Int.toNat_natCast] at hi
            have hq : qs[i]? = some qs[i] := List.getElem?_eq_getElem hi
            have ei : ((0 : Int) + (i : Int)) = ((i : Nat) : Int) := by omega
            have S9 := S8.up h.1
            have hts := hDr.ts hq
            have hndo : ∀ x ∈ U.nd (mkR head qs) qs[i], PyData.strOk x = true := fun x hx => okT_ok (nd_ok hts hx)
            refine ⟨rfl, _, rfl, _, rfl, ru, i, mkR head qs, qs[i], by first | rfl | (rw [ei]; rfl), S9.ru, hwf, hq, fun t H10 s10 et => ⟨t, _, rfl, .inr (SqT.of et), fun l1 hl1 => ?_⟩⟩
            have s11 := s10.trans (same_new (o := .lst ((U.nd (mkR head qs) qs[i]).map V.str)) hl1)
            refine ⟨_, rfl, _, rfl, _, rfl, hd, ps, i, head, qs, qs[i], by first | rfl | (rw [ei]; rfl), (S9.up s11).hd, (S9.up s11).ps, hDr, hq, fun l2 H12 s12 e2 => ?_⟩
            refine ⟨.list ((U.nd (mkR head qs) qs[i]).map PyData.str), .list ((U.nd (mkR head qs) qs[i]).map PyData.str), .lst (SqL.of (s12 _ _ upd_same)) (dp_strs _), .lst (SqL.of e2) (dp_strs _), strs_list hndo, strs_list hndo, _, rfl, ?_⟩
            rw [eqv_strs hndo]
            exact iteF (h.no (stab_val _) (List.getElem?_range hi) rfl (s11.trans s12))
          · intro H9 h
            obtain ⟨ys9, s9, eD9, hv⟩ := h.fin (by rw [Int.toNat_natCast, List.length_range]; exact Nat.le_refl _)
            have : ys9 = [] := List.eq_nil_of_length_eq_zero (by rw [hv.1, List.filter_eq_nil_iff.mpr (fun _ _ => by decide)]; rfl)
            subst this
            refine ⟨Nat.zero_le _, fun m hm => ⟨.list [], .list [], .lst (SqL.of (same_new hm _ _ eD9)) .nil, .lst (SqL.of upd_same) .nil, rfl, rfl, _, rfl, iteF ?_⟩⟩
            have s10 := s9.trans (same_new (o := .lst []) hm)
            exact ⟨rfl, S8.up s10, s10 _ _ (s72 _ _ eg6)⟩
        rintro σ H7 ⟨rfl, S7, eg7⟩
        -- wanted
        refine ⟨fun σ H' => ∃ wl : Addr, σ = [some (.ref a), some (.ref f), some (.ref d), some (.ref ps), some (.ref hd), some (.ref ru), some (.ref g), some (.ref wl), none, none, none, none, none, none, none, none, none, none, none, none, none] ∧ Sit A H' p d ps hd ru head qs ∧ H' g = some (.lst ((U.lim (mkR head qs)).map V.str)) ∧ H' wl = some (.lst ((nms head).map V.str)), ?_, ?_⟩
        · exact ⟨_, rfl, hd, head, rfl, S7.hd, by omega, fun l H8 s8 e8 => ⟨l, rfl, S7.up s8, s8 _ _ eg7, e8⟩⟩
        rintro σ H8 ⟨wl0, rfl, S8, eg8, ew8⟩
        obtain ⟨as8, eps8, hall8⟩ := id S8.ps
        refine ⟨fun σ H' => ∃ wl y8, σ = [some (.ref a), some (.ref f), some (.ref d), some (.ref ps), some (.ref hd), some (.ref ru), some (.ref g), some (.ref wl), y8, none, none, none, none, none, none, none, none, none, none, none, none] ∧ Sit A H' p d ps hd ru head qs ∧ H' g = some (.lst ((U.lim (mkR head qs)).map V.str)) ∧ H' wl = some (.lst (((U.wanted (mkR head qs)).foldl addN []).map V.str)), ?_, ?_⟩
        · refine ⟨_, rfl, ps, _, rfl, .inl (SqL.of eps8), ?_⟩
          rw [List.length_map, hall8.1]
          refine ⟨((qs.length : Nat) : Int), rfl, by omega, by omega, ?_⟩
          refine for_range (n := ((qs.length : Nat) : Int).toNat) (fun j σ H' => ∃ wl y8, σ = [some (.ref a), some (.ref f), some (.ref d), some (.ref ps), some (.ref hd), some (.ref ru), some (.ref g), some (.ref wl), y8, none, none, none, none, none, none, none, none, none, none, none, none] ∧ Sit A H' p d ps hd ru head qs ∧ H' g = some (.lst ((U.lim (mkR head qs)).map V.str)) ∧ H' wl = some (.lst ((((nms head :: (qs.take j).map (U.nd (mkR head qs))).flatten).foldl addN []).map V.str)))
            ⟨wl0, none, rfl, S8, eg8, by rw [ew8, List.take_zero, List.map_nil, List.flatten_singleton, notIn_fold (xs := nms head) (U.dd_nodup _), List.nil_append, List.filter_eq_self.mpr (fun _ _ => by simp)]⟩ ?_ ?_
          · rintro j σ H9 hj ⟨wl, y8, rfl, S9, eg9, ew9⟩
            rw [Int.toNat_natCast] at hj
            have hq : qs[j]? = some qs[j] := List.getElem?_eq_getElem hj
            have ej : ((0 : Int) + (j : Int)) = ((j : Nat) : Int) := by omega
            have hts := hDr.ts hq
            have hnl := nd_len (r := mkR head qs) hts
            have hnn : (U.nd (mkR head qs) qs[j]).Nodup := by
              unfold U.nd
              split
              · exact U.dd_nodup _
              · split
                · exact U.dd_nodup _
                · split
                  · exact (U.dd_nodup _).filter _
                  · exact List.nodup_nil
            generalize hF : ((nms head :: (qs.take j).map (U.nd (mkR head qs))).flatten).foldl addN [] = F at ew9
            have hFl : F.length ≤ 800 := by
              rw [← hF]
              refine Nat.le_trans U.fold_len ?_
              have h1 : (((qs.take j).map (U.nd (mkR head qs))).flatten).length ≤ 20 * (qs.take j).length := by
                have := flat_le (f := U.nd (mkR head qs)) (m := 20) (l := qs.take j) fun q hq => nd_len (good_b (hgood q (List.mem_of_mem_take hq))).1
                rw [List.flatMap_def] at this
                exact this
              have h2 := U.nms_len head
              rw [List.length_take] at h1
              rw [List.length_nil, Nat.zero_add, List.flatten_cons, List.length_append]
              omega
            have eF1 : ((nms head :: (qs.take (j + 1)).map (U.nd (mkR head qs))).flatten).foldl addN [] = (U.nd (mkR head qs) qs[j]).foldl addN F := by
              rw [take_one hq, List.map_append, ← List.cons_append, List.flatten_append, List.foldl_append, hF]
              simp
            refine ⟨fun σ H' => ∃ wl, σ = [some (.ref a), some (.ref f), some (.ref d), some (.ref ps), some (.ref hd), some (.ref ru), some (.ref g), some (.ref wl), some (.int ((j : Nat) : Int)), none, none, none, none, none, none, none, none, none, none, none, none] ∧ Sit A H' p d ps hd ru head qs ∧ H' g = some (.lst ((U.lim (mkR head qs)).map V.str)) ∧ H' wl = some (.lst (((U.nd (mkR head qs) qs[j]).foldl addN F).map V.str)), ?_, ?_⟩
            · rw [ej]
              refine ⟨_, rfl, _, rfl, _, rfl, _, rfl, hd, ps, j, head, qs, qs[j], rfl, S9.hd, S9.ps, hDr, hq, fun l1 H10 s10 e1 => ⟨l1, rfl, ⟨_, SqL.of e1⟩, fun D hD => ?_⟩⟩
              refine lc_list (K := K) (a := l1) (xs := (U.nd (mkR head qs) qs[j]).map V.str) (LcI (fun _ y (x : Str) => y = .str x) (fun x => decide (x ∉ F)) (U.nd (mkR head qs) qs[j]) H10 D) (LcI.start hD) (fun i H' _ h => SqL.of (h.1 _ _ e1)) ?_ ?_
              · intro i2 y H11 hy h
                rw [List.getElem?_map] at hy
                obtain ⟨z, hz, rfl⟩ := Option.map_eq_some_iff.mp hy
                refine ⟨rfl, V.str z, rfl, _, rfl, wl, _, rfl, .inl (SqL.of (h.1 _ _ (s10 _ _ ew9))), rfl, flat_str _, _, rfl, ?_⟩
                rw [if_pos rfl, inV_str]
                refine iteND (fun hn => ?_) (fun hn => ?_)
                · exact ⟨_, rfl, h.yes (stab_val _) hD (by omega) hz (by simpa using hn) (fun _ _ e => e) rfl⟩
                · exact h.no (stab_val _) hz (by simpa using hn) (fun _ _ e => e)
              · intro H11 h
                obtain ⟨ys, s11, eD, hv⟩ := h.fin (by rw [List.length_map]; exact Nat.le_refl _)
                have ey := VAll.eq (f := V.str) hv
                subst ey
                have s911 := s10.trans s11
                refine ⟨wl, D, _, _, rfl, rfl, s911 _ _ ew9, eD, ?_, fun m hm => ⟨m, rfl, S9.up (s911.trans (same_new hm)), (s911.trans (same_new hm)) _ _ eg9, ?_⟩⟩
                · rw [List.length_map, List.length_map]
                  have h1 := List.length_filter_le (fun x => decide (x ∉ F)) (U.nd (mkR head qs) qs[j])
                  exact sz' (by omega)
                · rw [upd_same, ← List.map_append, notIn_fold hnn]
            · rintro σ H10 ⟨wl', rfl, S10, eg10, ew10⟩
              refine ⟨_, rfl, _, rfl, _, rfl, ru, g, j, mkR head qs, qs[j], U.lim (mkR head qs), rfl, S10.ru, hwf, hq, .inr eg10, fun H11 s11 => ?_⟩
              have S11 := S10.up s11
              refine ⟨_, rfl, _, rfl, _, rfl, hd, ps, j, head, qs, qs[j], rfl, S11.hd, S11.ps, hDr, hq, fun l1 H12 s12 e1 => ⟨l1, rfl, ⟨_, SqL.of e1⟩, fun D hD => ?_⟩⟩
              refine lc_list (K := K) (a := l1) (xs := (U.nd (mkR head qs) qs[j]).map V.str) (LcI (fun _ y (x : Str) => y = .str x) (fun x => decide (x ∉ U.lim (mkR head qs))) (U.nd (mkR head qs) qs[j]) H12 D) (LcI.start hD) (fun i H' _ h => SqL.of (h.1 _ _ e1)) ?_ ?_
              · intro i2 y H13 hy h
                rw [List.getElem?_map] at hy
                obtain ⟨z, hz, rfl⟩ := Option.map_eq_some_iff.mp hy
                refine ⟨rfl, V.str z, rfl, _, rfl, g, _, rfl, .inl (SqL.of (h.1 _ _ (s12 _ _ (s11 _ _ eg10)))), rfl, flat_str _, _, rfl, ?_⟩
                rw [if_pos rfl, inV_str]
                refine iteND (fun hn => ?_) (fun hn => ?_)
                · exact ⟨_, rfl, h.yes (stab_val _) hD (by omega) hz (by simpa using hn) (fun _ _ e => e) rfl⟩
                · exact h.no (stab_val _) hz (by simpa using hn) (fun _ _ e => e)
              · intro H13 h
                obtain ⟨ys, s13, eD, hv⟩ := h.fin (by rw [List.length_map]; exact Nat.le_refl _)
                have ey := VAll.eq (f := V.str) hv
                subst ey
                have s1113 := s12.trans s13
                refine ⟨Nat.zero_le _, fun m hm => ⟨D, m, _, rfl, rfl, SqL.of (same_new hm _ _ eD), SqL.of upd_same, rfl, _, rfl, ?_⟩⟩
                have s14 := s1113.trans (same_new (o := .lst []) hm)
                rw [List.length_map, rdy_filter, decide_eq_true rfl]
                refine iteF ⟨wl', _, rfl, S11.up s14, s14 _ _ (s11 _ _ eg10), ?_⟩
                rw [eF1]
                exact s14 _ _ (s11 _ _ ew10)
          · rintro σ H9 ⟨wl, y8, rfl, S9, eg9, ew9⟩
            rw [Int.toNat_natCast, List.take_of_length_le (Nat.le_refl _)] at ew9
            exact ⟨wl, y8, rfl, S9, eg9, ew9⟩
        rintro σ H9 ⟨wl, y8, rfl, S9, eg9, ew9⟩
        -- loose
        refine ⟨fun σ H' => ∃ wl y8, σ = [some (.ref a), some (.ref f), some (.ref d), some (.ref ps), some (.ref hd), some (.ref ru), some (.ref g), some (.ref wl), y8, none, none, none, none, none, none, none, none, none, none, none, none] ∧ Sit A H' p d ps hd ru head qs, ?_, ?_⟩
        · refine ⟨_, rfl, ru, mkR head qs, rfl, S9.ru, hwf, fun t H10 s10 et => ⟨t, _, rfl, .inr (SqT.of et), fun l1 hl1 => ?_⟩⟩
          have s11 := s10.trans (same_new (o := .lst ((U.ls (mkR head qs)).map V.str)) hl1)
          have el11 : upd H10 l1 (.lst ((U.ls (mkR head qs)).map V.str)) l1 = some (.lst ((U.ls (mkR head qs)).map V.str)) := upd_same
          generalize upd H10 l1 _ = H11 at s11 el11 ⊢
          have hWl : ((U.wanted (mkR head qs)).foldl addN []).length ≤ 800 := by
            refine Nat.le_trans U.fold_len ?_
            have h1 : (((mkR head qs).body.map (U.nd (mkR head qs))).flatten).length ≤ 20 * qs.length := by
              have := flat_le (f := U.nd (mkR head qs)) (m := 20) (l := qs) fun q hq => nd_len (good_b (hgood q hq)).1
              rw [List.flatMap_def] at this
              exact this
            have h2 := U.nms_len head
            unfold U.wanted
            rw [List.length_nil, Nat.zero_add, List.flatten_cons, List.length_append]
            show (nms head).length + _ ≤ 800
            omega
          refine ⟨_, rfl, wl, rfl, ⟨_, SqL.of (s11 _ _ ew9)⟩, fun D hD => ?_⟩
          refine lc_list (K := K) (a := wl) (xs := ((U.wanted (mkR head qs)).foldl addN []).map V.str) (LcI (fun _ y (x : Str) => y = .str x) (fun x => decide (x ∉ U.lim (mkR head qs))) ((U.wanted (mkR head qs)).foldl addN []) H11 D) (LcI.start hD) (fun i H' _ h => SqL.of (h.1 _ _ (s11 _ _ ew9))) ?_ ?_
          · intro i2 y H13 hy h
            rw [List.getElem?_map] at hy
            obtain ⟨z, hz, rfl⟩ := Option.map_eq_some_iff.mp hy
            refine ⟨rfl, V.str z, rfl, _, rfl, g, _, rfl, .inl (SqL.of (h.1 _ _ (s11 _ _ eg9))), rfl, flat_str _, _, rfl, ?_⟩
            rw [if_pos rfl, inV_str]
            refine iteND (fun hn => ?_) (fun hn => ?_)
            · exact ⟨_, rfl, h.yes (stab_val _) hD (by omega) hz (by simpa using hn) (fun _ _ e => e) rfl⟩
            · exact h.no (stab_val _) hz (by simpa using hn) (fun _ _ e => e)
          · intro H13 h
            obtain ⟨ys, s13, eD, hv⟩ := h.fin (by rw [List.length_map]; exact Nat.le_refl _)
            have ey := VAll.eq (f := V.str) hv
            subst ey
            have els : ((U.wanted (mkR head qs)).foldl addN []).filter (fun x => decide (x ∉ U.lim (mkR head qs))) = U.ls (mkR head qs) := by
              rw [U.pick_fold]
              rfl
            rw [els] at eD
            have hlo : ∀ x ∈ U.ls (mkR head qs), PyData.strOk x = true := fun x hx => okT_ok (ls_ok hwf hx)
            refine ⟨.list ((U.ls (mkR head qs)).map PyData.str), .list ((U.ls (mkR head qs)).map PyData.str), .lst (SqL.of (s13 _ _ el11)) (dp_strs _), .lst (SqL.of eD) (dp_strs _), strs_list hlo, strs_list hlo, _, rfl, ?_⟩
            rw [eqv_strs hlo]
            exact iteF ⟨wl, y8, rfl, S9.up (s11.trans s13)⟩
        rintro σ H10 ⟨wl, y8, rfl, S10⟩
        -- twice
        refine ⟨fun σ H' => σ = [some (.ref a), some (.ref f), some (.ref d), some (.ref ps), some (.ref hd), some (.ref ru), some (.ref g), some (.ref wl), y8, some (.bl false), none, none, none, none, none, none, none, none, none, none, none] ∧ Sit A H' p d ps hd ru head qs, ⟨rfl, S10⟩, ?_⟩
        rintro σ H11 ⟨rfl, S11⟩
        obtain ⟨as11, eps11, hall11⟩ := id S11.ps
        refine ⟨fun σ H' => ∃ y8 y10, σ = [some (.ref a), some (.ref f), some (.ref d), some (.ref ps), some (.ref hd), some (.ref ru), some (.ref g), some (.ref wl), y8, some (.bl (U.rt (mkR head qs))), y10, none, none, none, none, none, none, none, none, none, none] ∧ Sit A H' p d ps hd ru head qs, ?_, ?_⟩
        · refine ⟨_, rfl, ps, _, rfl, .inl (SqL.of eps11), ?_⟩
          rw [List.length_map, hall11.1]
          refine ⟨((qs.length : Nat) : Int), rfl, by omega, by omega, ?_⟩
          refine for_range (n := ((qs.length : Nat) : Int).toNat) (fun j σ H' => ∃ y8 y10, σ = [some (.ref a), some (.ref f), some (.ref d), some (.ref ps), some (.ref hd), some (.ref ru), some (.ref g), some (.ref wl), y8, some (.bl ((List.range j).any fun j => decide ((U.pt (mkR head qs) j).kind = "let") && U.hv (mkR head qs) j)), y10, none, none, none, none, none, none, none, none, none, none] ∧ Sit A H' p d ps hd ru head qs ∧ Same H11 H')
            ⟨y8, none, rfl, S11, fun _ _ e => e⟩ ?_ ?_
          · rintro j σ H12 hj ⟨y8, y10, rfl, S12, s12⟩
            rw [Int.toNat_natCast] at hj
            have hq : qs[j]? = some qs[j] := List.getElem?_eq_getElem hj
            have ej : ((0 : Int) + (j : Int)) = ((j : Nat) : Int) := by omega
            have hja : j < as11.length := by rw [hall11.1]; exact hj
            have hbj : as11[j]? = some as11[j] := List.getElem?_eq_getElem hja
            have eix : (as11.map V.ref)[j]? = some (.ref as11[j]) := by rw [List.getElem?_map, hbj]; rfl
            obtain ⟨tl, ea, et⟩ := hall11.2 j _ _ hbj hq
            have hts := hDr.ts hq
            have hpt : U.pt (mkR head qs) j = qs[j] := pt_at (r := mkR head qs) hq
            generalize htw : ((List.range j).any fun j => decide ((U.pt (mkR head qs) j).kind = "let") && U.hv (mkR head qs) j) = tw
            have enext : ((List.range (j + 1)).any fun j => decide ((U.pt (mkR head qs) j).kind = "let") && U.hv (mkR head qs) j) = (tw || (decide (qs[j].kind = "let") && U.hv (mkR head qs) j)) := by
              rw [List.range_succ, List.any_append, htw, List.any_cons, List.any_nil, Bool.or_false, hpt]
            rw [ej, enext]
            refine ⟨_, rfl, _, rfl, ps, _, _, _, rfl, rfl, SqL.of (s12 _ _ eps11), atI_nat eix, as11[j], _, _, _, rfl, rfl, SqT.of (s12 _ _ ea), atI_nat (j := 0) rfl, rfl, _, rfl, ?_⟩
            rw [dec_str]
            refine iteD (fun hk => ?_) (fun hk => ?_)
            · obtain ⟨z, tr, hz⟩ := hDr.lets _ (List.mem_of_getElem? hq) hk
              refine ⟨fun σ H' => ∃ gl, σ = [some (.ref a), some (.ref f), some (.ref d), some (.ref ps), some (.ref hd), some (.ref ru), some (.ref g), some (.ref wl), some (.int ((j : Nat) : Int)), some (.bl tw), some (.ref gl), none, none, none, none, none, none, none, none, none, none] ∧ Sit A H' p d ps hd ru head qs ∧ Same H11 H' ∧ H' gl = some (.lst ((((List.range qs.length).filter fun k => decide (k ≠ j)).map fun k => U.gv (U.pt (mkR head qs) k)).flatten.map V.str)), ?_, ?_⟩
              · refine ⟨_, rfl, ps, _, rfl, .inl (SqL.of (s12 _ _ eps11)), ?_⟩
                rw [List.length_map, hall11.1]
                refine ⟨((qs.length : Nat) : Int), rfl, by omega, by omega, fun D hD => ?_⟩
                have st : Stab D fun H y (k : Nat) => ∃ b, y = .ref b ∧ H b = some (.lst ((U.gv (U.pt (mkR head qs) k)).map V.str)) ∧ b ≠ D := ⟨fun ⟨b, e, h, n⟩ s => ⟨b, e, s _ _ h, n⟩, fun hl ⟨b, e, h, n⟩ => ⟨b, e, by rw [upd_ne n]; exact h, n⟩⟩
                refine lc_range (n := ((qs.length : Nat) : Int).toNat) (LcI (fun H y (k : Nat) => ∃ b, y = .ref b ∧ H b = some (.lst ((U.gv (U.pt (mkR head qs) k)).map V.str)) ∧ b ≠ D) (fun k => decide (k ≠ j)) (List.range qs.length) H12 D) (LcI.start hD) ?_ ?_
                · intro i H13 hi h
                  rw [Int.toNat_natCast] at hi
                  have hqi : qs[i]? = some qs[i] := List.getElem?_eq_getElem hi
                  have ei : ((0 : Int) + (i : Int)) = ((i : Nat) : Int) := by omega
                  have eri : (List.range qs.length)[i]? = some i := List.getElem?_range hi
                  refine ⟨rfl, _, rfl, _, rfl, rfl, _, rfl, ?_⟩
                  rw [dec_int, ei]
                  refine iteND (fun hn => ?_) (fun he => ?_)
                  · refine ⟨_, rfl, _, rfl, ru, i, mkR head qs, qs[i], by first | rfl | (rw [ei]; rfl), (S12.up h.1).ru, hwf, hqi, fun t H14 s14 et => ⟨t, rfl, ⟨_, SqT.of et⟩, fun D2 hD2 => ?_⟩⟩
                    have eD14 := s14 _ _ h.2.choose_spec.1
                    refine lc_tup (K := K) (a := t) (xs := (U.gv qs[i]).map V.str) (LcI (fun _ y (x : Str) => y = .str x) (fun _ => true) (U.gv qs[i]) H14 D2) (LcI.start hD2) (fun i H' _ h => SqT.of (h.1 _ _ et)) ?_ ?_
                    · intro i2 y H15 hy h15
                      rw [List.getElem?_map] at hy
                      obtain ⟨z2, hz2, rfl⟩ := Option.map_eq_some_iff.mp hy
                      exact ⟨rfl, _, rfl, h15.yes (stab_val _) hD2 (by have := gv_len (hDr.ts hqi); omega) hz2 rfl (fun _ _ e => e) rfl⟩
                    · intro H15 h15
                      obtain ⟨ys, s15, eD2, hv⟩ := h15.fin (by rw [List.length_map]; exact Nat.le_refl _)
                      rw [filter_tt] at hv
                      have ey := VAll.eq (f := V.str) hv
                      subst ey
                      refine h.yes st hD (by rw [List.length_range]; omega) eri (by simpa using fun z : i = j => hn (by rw [z])) (s14.trans s15) ⟨D2, rfl, ?_, (ne_of_none eD14 hD2).symm⟩
                      rw [pt_at (r := mkR head qs) hqi]
                      exact eD2
                  · exact h.no st eri (by simpa using (by omega : i = j)) (fun _ _ e => e)
                · intro H13 h
                  obtain ⟨ys, s13, eD, hv⟩ := h.fin (by rw [Int.toNat_natCast, List.length_range]; exact Nat.le_refl _)
                  obtain ⟨cs, rfl, hcs⟩ := VAll.refs (R := fun b k => H13 b = some (.lst ((U.gv (U.pt (mkR head qs) k)).map V.str))) (hv.imp fun y k ⟨b, e, h, _⟩ => ⟨b, e, h⟩)
                  have hflat : ((((List.range qs.length).filter fun k => decide (k ≠ j)).map fun k => (U.gv (U.pt (mkR head qs) k)).map V.str)).flatten = (((List.range qs.length).filter fun k => decide (k ≠ j)).map fun k => U.gv (U.pt (mkR head qs) k)).flatten.map V.str := by
                    rw [List.map_flatten, List.map_map]
                    rfl
                  refine ⟨D, cs, ((List.range qs.length).filter fun k => decide (k ≠ j)).map fun k => (U.gv (U.pt (mkR head qs) k)).map V.str, rfl, eD, ⟨by rw [List.length_map]; exact hcs.1, fun i b l h1 h2 => ?_⟩, ?_, fun u H14 s14 eu => ⟨u, rfl, S12.up (s13.trans s14), (s12.trans s13).trans s14, ?_⟩⟩
                  · rw [List.getElem?_map] at h2
                    obtain ⟨k, h4, rfl⟩ := Option.map_eq_some_iff.mp h2
                    exact hcs.2 i b k h1 h4
                  · rw [hflat, List.length_map]
                    have h1 := flat_le (f := fun k => U.gv (U.pt (mkR head qs) k)) (m := 20) (l := (List.range qs.length).filter fun k => decide (k ≠ j)) fun k hk => by
                      have hkl : k < qs.length := List.mem_range.mp (List.mem_filter.mp hk).1
                      have hqk : qs[k]? = some qs[k] := List.getElem?_eq_getElem hkl
                      show (U.gv (U.pt (mkR head qs) k)).length ≤ 20
                      rw [pt_at (r := mkR head qs) hqk]
                      exact gv_len (hDr.ts hqk)
                    rw [List.flatMap_def] at h1
                    have h2 := List.length_filter_le (fun k => decide (k ≠ j)) (List.range qs.length)
                    rw [List.length_range] at h2
                    omega
                  · rw [eu, hflat]
              · rintro σ H13 ⟨gl, rfl, S13, s13, egl⟩
                generalize hG : (((List.range qs.length).filter fun k => decide (k ≠ j)).map fun k => U.gv (U.pt (mkR head qs) k)).flatten = G at egl
                have ehv : U.hv (mkR head qs) j = (decide (z ∈ G) || decide (z ∈ vars (qs[j].ts.drop 1))) := by
                  unfold U.hv
                  rw [hpt]
                  have efst : U.fst qs[j] = z := by
                    unfold U.fst
                    rw [hz]
                    rfl
                  have end_ : U.nd (mkR head qs) qs[j] = nms (qs[j].ts.drop 1) := by
                    unfold U.nd
                    rw [if_neg (by rw [hk]; decide +kernel), if_pos hk]
                  rw [efst, end_, Bool.or_comm, hbl]
                  congr 1
                  · rw [Bool.eq_iff_iff, List.any_eq_true, decide_eq_true_iff, ← hG, List.mem_flatten]
                    constructor
                    · rintro ⟨k, hk1, hk2⟩
                      exact ⟨_, List.mem_map.mpr ⟨k, hk1, rfl⟩, of_decide_eq_true hk2⟩
                    · rintro ⟨row, hr1, hr2⟩
                      obtain ⟨k, hk1, rfl⟩ := List.mem_map.mp hr1
                      exact ⟨k, hk1, decide_eq_true hr2⟩
                  · exact decide_eq_decide.mpr U.dd_mem
                have fin : ∀ H14, Same H13 H14 → (∃ y8' y10', [some (.ref a), some (.ref f), some (.ref d), some (.ref ps), some (.ref hd), some (.ref ru), some (V.ref g), some (.ref wl), some (.int ((j : Nat) : Int)), some (.bl (tw || (decide (z ∈ G) || decide (z ∈ vars (qs[j].ts.drop 1))))), some (.ref gl), none, none, none, none, none, none, none, none, none, none] = [some (.ref a), some (.ref f), some (.ref d), some (.ref ps), some (.ref hd), some (.ref ru), some (V.ref g), some (.ref wl), y8', some (.bl (tw || (decide (qs[j].kind = "let") && U.hv (mkR head qs) j))), y10', none, none, none, none, none, none, none, none, none, none] ∧ Sit A H14 p d ps hd ru head qs ∧ Same H11 H14) := fun H14 s14 => by
                  have e1 : (tw || (decide (qs[j].kind = "let") && U.hv (mkR head qs) j)) = (tw || (decide (z ∈ G) || decide (z ∈ vars (qs[j].ts.drop 1)))) := by rw [ehv, decide_eq_true hk, Bool.true_and]
                  exact ⟨some (.int ((j : Nat) : Int)), some (.ref gl), by rw [e1], S13.up s14, s13.trans s14⟩
                have e0 : (qs[j].ts.map tvv)[0]? = some (.str z) := by rw [hz]; rfl
                cases tw with
                | true => exact ⟨_, rfl, _, rfl, iteT (fin H13 (fun _ _ e => e))⟩
                | false =>
                  refine ⟨_, rfl, _, rfl, iteF ⟨_, rfl, _, rfl, ps, _, _, _, rfl, rfl, SqL.of (s13 _ _ eps11), atI_nat eix, as11[j], _, _, _, rfl, rfl, SqT.of (s13 _ _ ea), atI_nat (j := 2) rfl, tl, _, _, V.str z, rfl, rfl, SqL.of (s13 _ _ et), atI_nat (j := 0) e0, _, rfl, gl, _, rfl, .inl (SqL.of egl), rfl, flat_str _, ?_⟩⟩
                  rw [if_neg (by decide), inV_str]
                  cases hb : decide (z ∈ G) with
                  | true =>
                    have := fin H13 (fun _ _ e => e)
                    rw [hb] at this
                    exact ⟨_, rfl, iteT this⟩
                  | false =>
                    refine ⟨_, rfl, iteF ⟨_, rfl, _, rfl, ps, _, _, _, rfl, rfl, SqL.of (s13 _ _ eps11), atI_nat eix, as11[j], _, _, _, rfl, rfl, SqT.of (s13 _ _ ea), atI_nat (j := 2) rfl, tl, _, _, V.str z, rfl, rfl, SqL.of (s13 _ _ et), atI_nat (j := 0) e0, _, rfl, _, rfl, ps, _, _, _, rfl, rfl, SqL.of (s13 _ _ eps11), atI_nat eix, as11[j], _, _, _, rfl, rfl, SqT.of (s13 _ _ ea), atI_nat (j := 2) rfl, _, rfl, tl, _, rfl, SqL.of (s13 _ _ et), fun m hm => ?_⟩⟩
                    have hm1 : upd H13 m (.lst (cutV (qs[j].ts.map tvv) (some 1) none)) m = some (.lst ((qs[j].ts.drop 1).map tvv)) := by
                      rw [upd_same, show ((1 : Int)) = ((1 : Nat) : Int) from rfl, cut_drop, List.map_drop]
                    refine ⟨m, _, rfl, .inl (SqL.of hm1), rfl, flat_tv _, ?_⟩
                    rw [if_neg (by decide), inV_tv]
                    have := fin _ (same_new (o := .lst (cutV (qs[j].ts.map tvv) (some 1) none)) hm)
                    rw [hb] at this
                    exact this
            · rw [decide_eq_false hk, Bool.false_and, Bool.or_false]
              exact ⟨_, _, rfl, S12, s12⟩
          · rintro σ H12 ⟨y8, y10, rfl, S12, s12⟩
            rw [Int.toNat_natCast]
            exact ⟨y8, y10, rfl, S12⟩
        rintro σ H12 ⟨y8, y10, rfl, S12⟩
        have hchk : U.chk (mkR head qs) = if U.ls (mkR head qs) ≠ [] then .rule else if U.rt (mkR head qs) = true then .rule else .ok := by
          have n1 : ((("h" : Str) :: U.asked (mkR head qs) "pos") ++ U.asked (mkR head qs) "neg").all U.isN = true := by
            rw [List.all_eq_true]
            have pq : ∀ k : Str, (k = "pos" ∨ k = "neg") → ∀ x ∈ U.asked (mkR head qs) k, U.isN x = true := fun k hk x hx => by
              obtain ⟨q, hq, rfl⟩ := List.mem_map.mp (U.dd_mem.mp hx)
              obtain ⟨hq1, hq2⟩ := List.mem_filter.mp hq
              have hq2 : q.kind = k := of_decide_eq_true hq2
              rcases (hgood q hq1).nm (by rw [hq2]; exact hk) with e | e <;> rw [e] <;> decide +kernel
            intro x hx
            rcases List.mem_append.mp hx with z | z
            · rcases List.mem_cons.mp z with rfl | z
              · decide +kernel
              · exact pq _ (.inl rfl) x z
            · exact pq _ (.inr rfl) x z
          have n2 : (U.allT (mkR head qs)).any U.tlong = false := by
            rw [List.any_eq_false]
            intro x hx
            rcases List.mem_append.mp hx with z | z
            · rw [gT_short (hgh x z)]; decide
            · obtain ⟨q, hq, hxq⟩ := List.mem_flatMap.mp z
              rw [gT_short ((hgood q hq).ts.2 x hxq)]
              decide
          unfold U.chk
          rw [if_neg (by rw [n1]; decide), if_neg (by rw [n2]; decide), if_neg (c := (mkR head qs).sm = true ∧ (mkR head qs).body = []) (fun z => nomatch z.1)]
        -- due
        refine ⟨fun σ H' => ∃ v, σ = [some (.ref a), some (.ref f), some (.ref d), some (.ref ps), some (.ref hd), some (.ref ru), some (.ref g), some (.ref wl), y8, some (.bl (U.rt (mkR head qs))), y10, some v, none, none, none, none, none, none, none, none, none] ∧ Sit A H' p d ps hd ru head qs ∧ ((U.chk (mkR head qs) = .rule ∧ v = .str "rule") ∨ (U.chk (mkR head qs) = .ok ∧ ∃ sp, v = .ref sp ∧ ShR H' sp (mkR head qs))), ?_, ?_⟩
        · refine ⟨_, rfl, ru, mkR head qs, rfl, S12.ru, hwf, fun t H13 s13 et => ⟨Nat.zero_le _, fun m hm => ?_⟩⟩
          have s14 := s13.trans (same_new (o := .tup []) hm)
          refine ⟨.tuple ((U.ls (mkR head qs)).map PyData.str), .tuple [], .tup (SqT.of (same_new hm _ _ et)) (dp_strs _), .tup (SqT.of upd_same) .nil, strOk_all (fun x hx => okT_ok (ls_ok hwf hx)), rfl, _, rfl, ?_⟩
          rw [eqv_nil]
          generalize upd H13 m (.tup []) = H14 at s14 ⊢
          refine iteND (fun h3 => ?_) (fun h3 => ?_)
          · exact iteT ⟨_, rfl, S12.up s14, .inl ⟨by rw [hchk, if_pos (fun z => h3 (by rw [z]; rfl))], rfl⟩⟩
          · have els : U.ls (mkR head qs) = [] := by simpa using h3
            refine ⟨_, rfl, _, rfl, ?_⟩
            cases hrt : U.rt (mkR head qs) with
            | true =>
              refine iteT ?_
              exact ⟨_, rfl, S12.up s14, .inl ⟨by rw [hchk, if_neg (fun z => z els), if_pos hrt], rfl⟩⟩
            | false =>
              obtain ⟨dx, pt, pb, pst, sv, bs, e, _⟩ := (S12.up s14).ru
              refine iteF ?_
              exact ⟨_, rfl, ru, dx, _, rfl, e, rf_shown _ _ _ _ _, ru, mkR head qs, rfl, (S12.up s14).ru, hwf, rfl, fun sp H15 s15 hsh => ⟨_, rfl, (S12.up s14).up s15, .inr ⟨by rw [hchk, if_neg (fun z => z els), if_neg (by rw [hrt]; decide)], sp, rfl, hsh⟩⟩⟩
        rintro σ H13 ⟨v, rfl, S13, hdue⟩
        -- told
        refine ⟨fun σ H' => σ = [some (.ref a), some (.ref f), some (.ref d), some (.ref ps), some (.ref hd), some (.ref ru), some (.ref g), some (.ref wl), y8, some (.bl (U.rt (mkR head qs))), y10, some v, none, none, none, none, none, none, none, none, none] ∧ Sit A H' p d ps hd ru head qs, ?_, ?_⟩
        · refine ⟨S13.tb, fun H14 ext tb14 => ?_⟩
          have S14 := S13.n ext tb14
          refine ⟨_, rfl, ru, mkR head qs, rfl, S14.ru, hwf, let_ok hDr, fun hok H15 s15 => ?_, fun hrule H15 s15 => ?_, fun hsize => ?_⟩
          · rcases hdue with ⟨h1, _⟩ | ⟨_, sp, rfl, hsh⟩
            · rw [hok] at h1
              cases h1
            · have S15 := S14.up s15
              obtain ⟨dx, pt, pb, pst, sv, bs, e, _⟩ := S15.ru
              refine ⟨ru, dx, _, rfl, e, rf_shown _ _ _ _ _, ru, mkR head qs, rfl, S15.ru, hwf, rfl, fun sp2 H16 s16 hsh2 => ?_⟩
              obtain ⟨hs1, hs2⟩ := dR_shaped hwf
              refine ⟨_, rfl, dR (mkR head qs), dR (mkR head qs), dp_R hsh2, dp_R (((hsh.n ext).up s15).up s16), hs1, hs1, _, rfl, ?_⟩
              rw [SeqAt.eqv_refl _ hs2]
              exact iteF ⟨rfl, S15.up s16⟩
          · rcases hdue with ⟨_, rfl⟩ | ⟨h1, _⟩
            · refine told_rule T ?_
              exact ⟨_, rfl, .str "rule", .str "rule", .str _, .str _, by decide +kernel, by decide +kernel, _, rfl, iteF ⟨rfl, S14.up s15⟩⟩
            · rw [hrule] at h1
              cases h1
          · exfalso
            rw [hchk] at hsize
            split at hsize
            · cases hsize
            · split at hsize <;> cases hsize
        rintro σ H14 ⟨rfl, S14⟩
        -- a fact or not
        obtain ⟨as14, eps14, hall14⟩ := id S14.ps
        refine ⟨_, rfl, ru, mkR head qs, rfl, S14.ru, hwf, fun H15 s15 => ⟨_, rfl, Nat.zero_le _, fun m hm => ?_⟩⟩
        have s16 := s15.trans (same_new (o := .lst []) hm)
        have em16 : upd H15 m (.lst []) m = some (.lst []) := upd_same
        generalize upd H15 m (.lst []) = H16 at s16 em16 ⊢
        refine ⟨ps, m, _, rfl, rfl, SqL.of (s16 _ _ eps14), SqL.of em16, _, rfl, ?_⟩
        rw [List.length_map, hall14.1]
        have last : U.isF (mkR head qs) = (decide (qs.length = 0) && decide ((nms head).length = 0)) := rfl
        have e1 : ∀ B : Bool, U.isF (mkR head qs) = B → (!decide (V.bl (U.isF (mkR head qs)) = V.bl B)) = false := fun B h => by rw [h]; simp
        refine iteD (fun h0 => ?c1) (fun h0 => ?c2)
        case' c1 =>
          refine ⟨_, rfl, hd, head, rfl, s16 _ _ S14.hd, by omega, fun q H17 s17 eq => ⟨Nat.zero_le _, fun m2 hm2 => ⟨q, m2, _, rfl, rfl, SqL.of (same_new hm2 _ _ eq), SqL.of upd_same, ?_⟩⟩⟩
          rw [List.length_map]
          have hfb : U.isF (mkR head qs) = decide ((nms head).length = 0) := by rw [last, decide_eq_true h0, Bool.true_and]
          refine ⟨rfl, _, rfl, ?_⟩
          rw [e1 _ hfb]
          have S := S14.up ((s16.trans s17).trans (same_new (o := .lst []) hm2))
        case' c2 =>
          have hfb : U.isF (mkR head qs) = false := by rw [last, decide_eq_false h0, Bool.false_and]
          refine ⟨rfl, _, rfl, ?_⟩
          rw [e1 _ hfb]
          have S := S14.up s16
        all_goals
          refine iteF ⟨S.tb, fun H20 ext2 tb20 => ?_⟩
          have S20 := S.n ext2 tb20
          refine ⟨_, rfl, ru, mkR head qs, rfl, S20.ru, hwf, fun hf t H21 s21 et => ?_, fun hf H21 s21 => told_rule T ?_⟩
          · have S21 := S20.up s21
            refine ⟨_, rfl, ru, mkR head qs, rfl, S21.ru, hwf, fun H22 s22 => ⟨_, rfl, ?_⟩⟩
            rw [hf]
            have S22 := S21.up s22
            have hnm : (nms head).length = 0 := by
              rw [last, Bool.and_eq_true] at hf
              exact of_decide_eq_true hf.2
            have et2 : H22 t = some (.tup (head.map tvv)) := by rw [s22 _ _ et, tval_tvv hnm]
            refine iteT ⟨_, rfl, hd, _, rfl, .inl ⟨SqL.of S22.hd, fun u hu => ?_⟩⟩
            have s23 := same_new (o := .tup (head.map tvv)) hu
            obtain ⟨hs1, hs2⟩ := dV_shaped (fun t ht => gT_ok (hgh t ht))
            refine ⟨.tuple (head.map dV), .tuple (head.map dV), .tup (SqT.of (s23 _ _ et2)) (dp_tvv _), .tup (SqT.of upd_same) (dp_tvv _), hs1, hs1, _, rfl, ?_⟩
            rw [SeqAt.eqv_refl _ hs2]
            exact iteF ⟨(S22.up s23).l, (S22.up s23).tb, ⟨_, _, _, _, _, _, _, _, _, _, _, _, _, _, _, _, _, _, _, _, rfl⟩, fun z => nomatch z⟩
          · have S21 := S20.up s21
            refine ⟨_, rfl, ru, mkR head qs, rfl, S21.ru, hwf, fun H22 s22 => ⟨_, rfl, ?_⟩⟩
            rw [hf]
            have S22 := S21.up s22
            exact iteF ⟨.str "rule", .str "rule", .str _, .str _, by decide +kernel, by decide +kernel, _, rfl, iteF ⟨S22.l, S22.tb, ⟨_, _, _, _, _, _, _, _, _, _, _, _, _, _, _, _, _, _, _, _, rfl⟩, fun z => nomatch z⟩⟩
      · rintro σ H2 ⟨el2, tb2, hσ, _⟩
        exact ⟨hσ, tb2⟩
    rintro σ H1 ⟨⟨v1, v2, v3, v4, v5, v6, v7, v8, v9, v10, v11, v12, v13, v14, v15, v16, v17, v18, v19, v20, rfl⟩, tb1⟩
    -- a fact and another
    refine ⟨fun σ H' => ∃ rf ro : Addr, σ = [some (.ref a), v1, v2, v3, v4, v5, v6, v7, v8, v9, v10, v11, some (.ref rf), some (.ref ro), v14, v15, v16, v17, v18, v19, v20] ∧ RuleAt A H' rf rF ∧ RuleAt A H' ro rO ∧ Tabs [(A.PL, qL)] H', ?_, ?_⟩
    · refine ⟨.int 1, rfl, fun t1 Ha n1 h1 s1 => ⟨one_sz, fun l1 hl1 => ⟨Nat.zero_le _, fun b1 hb1 => fun x dx nx ndx nex => ?_⟩⟩⟩
      have z1 := same_new (o := .lst [.ref t1]) hl1
      have z2 := same_new (o := .lst []) hb1
      have z3 := made0 (C := A.C_Rule) nx ndx
      refine ⟨x, dx, l1, b1, "e", .non, false, [.inr 1], [], [], rfl, upd_same, ltm1 (z3 _ _ (z2 _ _ upd_same)) (TmAt.up h1 (z1.trans (z2.trans z3))), z3 _ _ upd_same, .nil, wF.1.ts, wF.1.body, .inl ⟨rfl, rfl⟩, fun Hb hF sx => ⟨rfl, ?_⟩⟩
      have sb : Same H1 Hb := s1.trans (z1.trans (z2.trans (made nx ndx sx)))
      refine ⟨"X", rfl, fun t2 Hc n2 h2 s2 => ⟨one_sz, fun l2 hl2 => ⟨"X", rfl, fun t3 Hd n3 h3 s3 => ⟨one_sz, fun l3 hl3 => fun y dy ny ndy ney => ?_⟩⟩⟩⟩
      have y1 := same_new (o := .lst [.ref t2]) hl2
      have y2 := same_new (o := .lst [.ref t3]) hl3
      have y3 := made0 (C := A.C_Literal) ny ndy
      refine ⟨y, dy, l3, "pos", "e", [.inl "X"], rfl, upd_same, ltm1 (y3 _ _ upd_same) (TmAt.up h3 (y2.trans y3)), wO.1.ts, fun He hlit sy => ⟨rfl, one_sz, fun b2 hb2 => fun x2 dx2 nx2 ndx2 nex2 => ?_⟩⟩
      have y4 := made ny ndy sy
      have y5 := same_new (o := .lst [.ref y]) hb2
      have y6 := made0 (C := A.C_Rule) nx2 ndx2
      have yl : LTms A.C_Term _ l2 [.inl "X"] := ltm1 upd_same (TmAt.up h2 y1)
      refine ⟨x2, dx2, l2, b2, "p", .non, false, [.inl "X"], [qX], [y], rfl, upd_same, TmsAt.l yl (s3.trans (y2.trans (y4.trans (y5.trans y6)))), y6 _ _ upd_same, .cons (hlit.up (y5.trans y6)) .nil, wO.1.ts, wO.1.body, .inl ⟨rfl, rfl⟩, fun Hf hO sx2 => ⟨rfl, ?_⟩⟩
      have sf : Same Hb Hf := s2.trans (y1.trans (s3.trans (y2.trans (y4.trans (y5.trans (made nx2 ndx2 sx2))))))
      exact ⟨_, _, rfl, x, x2, rfl, hF.up sf, hO, tb1.ext (sb.trans sf)⟩
    rintro σ H2 ⟨rf, ro, rfl, hF, hO, tb2⟩
    -- parted
    refine ⟨fun σ H' => σ = [some (.ref a), v1, v2, v3, v4, v5, v6, v7, v8, v9, v10, v11, some (.ref rf), some (.ref ro), v14, v15, v16, v17, v18, v19, v20] ∧ RuleAt A H' ro rO ∧ Tabs [(A.PL, qL)] H', ?_, ?_⟩
    · refine ⟨_, rfl, _, rfl, two_sz, fun l hl => ⟨l, rf, ro, rF, rO, rfl, upd_same, hF.up (same_new hl), hO.up (same_new hl), wF.1, wO.1, wF.2, wO.2, by decide +kernel, by decide +kernel, by decide +kernel, by decide +kernel, fun p x y t u H3 s3 ep ex et eu ey => ⟨p, _, _, _, rfl, rfl, SqT.of ep, atI_nat (j := 0) rfl, one_sz, fun u1 hu1 => ⟨two_sz, fun u2 hu2 => ⟨one_sz, fun u3 hu3 => ?_⟩⟩⟩⟩⟩
      have z3 := same_new (o := .tup [.ref u2]) hu3
      have z2 := (same_new (o := .tup [.str "e", .ref u1]) hu2).trans z3
      have z1 := (same_new (o := .tup [.int 1]) hu1).trans z2
      refine ⟨.tuple [.tuple [.str "e", .tuple [.int 1]]], .tuple [.tuple [.str "e", .tuple [.int 1]]], .tup (SqT.of (z1 _ _ ex)) (.cons (.tup (SqT.of (z1 _ _ et)) (.cons (.str _) (.cons (.tup (SqT.of (z1 _ _ eu)) (.cons (.int _) .nil)) .nil))) .nil), .tup (SqT.of upd_same) (.cons (.tup (SqT.of (z3 _ _ upd_same)) (.cons (.str _) (.cons (.tup (SqT.of (z2 _ _ upd_same)) (.cons (.int _) .nil)) .nil))) .nil), by decide +kernel, by decide +kernel, _, rfl, ?_⟩
      rw [SeqAt.eqv_refl _ (by decide +kernel)]
      refine iteF ?_
      have s03 := (same_new (o := .lst [.ref rf, .ref ro]) hl).trans (s3.trans z1)
      have hF3 := hF.up s03
      have hO3 := hO.up s03
      have tb3 := tb2.ext s03
      clear hu1 hu2 hu3 z1 z2 z3
      generalize upd _ u3 _ = H4 at s03 hF3 hO3 tb3 ⊢
      refine ⟨_, rfl, _, rfl, two_sz, fun l2 hl2 => ⟨l2, rf, ro, rF, rO, rfl, upd_same, hF3.up (same_new hl2), hO3.up (same_new hl2), wF.1, wO.1, wF.2, wO.2, by decide +kernel, by decide +kernel, by decide +kernel, by decide +kernel, fun p2 x2 y2 t2 u2 H5 s5 ep2 ex2 et2 eu2 ey2 => ⟨p2, _, _, _, rfl, rfl, SqT.of ep2, atI_nat (j := 1) rfl, y2, rfl, ⟨_, SqT.of ey2⟩, fun D hD => ?_⟩⟩⟩
      have s45 := (same_new (o := .lst [.ref rf, .ref ro]) hl2).trans s5
      have hO5 := hO3.up s45
      have tb5 := tb3.ext s45
      refine lc_tup (K := K) (a := y2) (xs := [.ref ro]) (fun i H' => Same H5 H' ∧ H' D = some (.lst (if i = 0 then [] else [.str "p"]))) ⟨same_new hD, upd_same⟩ (fun i H' _ h => SqT.of (h.1 _ _ ey2)) ?_ ?_
      · rintro i v H6 hv ⟨s6, e6⟩
        have hi : i = 0 := by
          have : i < 1 := (List.getElem?_eq_some_iff.mp hv).1
          omega
        subst hi
        cases hv
        obtain ⟨dx, pt, pb, pst, sv, bs, e, _⟩ := hO5.up s6
        refine ⟨rfl, _, rfl, ro, _, dx, _, _, rfl, e, T.cl_Rule, T.n_Rule_name, rf_name _ _ _ _ _, [], e6, by decide, fun b o eb => ?_, upd_same⟩
        rw [upd_ne (ne_of_none eb hD)]
        exact s6 _ _ eb
      · rintro H6 ⟨s6, e6⟩
        refine ⟨one_sz, fun m hm => ⟨.list [.str "p"], .list [.str "p"], .lst (SqL.of (same_new hm _ _ e6)) (.cons (.str _) .nil), .lst (SqL.of upd_same) (.cons (.str _) .nil), by decide +kernel, by decide +kernel, _, rfl, ?_⟩⟩
        rw [SeqAt.eqv_refl _ (by decide +kernel)]
        have s56 := s6.trans (same_new (o := .lst [.str "p"]) hm)
        exact iteF ⟨rfl, hO5.up s56, tb5.ext s56⟩
    rintro σ H3 ⟨rfl, hO3, tb3⟩
    -- three that are wrong
    refine ⟨fun σ H' => ∃ wr xa xb xc : Addr, σ = [some (.ref a), v1, v2, v3, v4, v5, v6, v7, v8, v9, v10, v11, some (.ref rf), some (.ref ro), some (.ref wr), v15, v16, v17, v18, v19, v20] ∧ H' wr = some (.lst [.ref xa, .ref xb, .ref xc]) ∧ RuleAt A H' xa rA ∧ RuleAt A H' xb rB ∧ RuleAt A H' xc rC ∧ RuleAt A H' ro rO ∧ Tabs [(A.PL, qL)] H', ?_, ?_⟩
    · refine ⟨Nat.zero_le _, fun l1 hl1 => ⟨Nat.zero_le _, fun k1 hk1 => fun y dy ny ndy ney => ?_⟩⟩
      have y1 := same_new (o := .lst []) hl1
      have y2 := same_new (o := .lst []) hk1
      have y3 := made0 (C := A.C_Literal) ny ndy
      refine ⟨y, dy, k1, "pos", "e", [], rfl, upd_same, ltm0 (y3 _ _ upd_same), ⟨Nat.zero_le _, fun _ h => nomatch h⟩, fun He hlit sy => ⟨rfl, one_sz, fun b1 hb1 => fun x dx nx ndx nex => ?_⟩⟩
      have y4 := made ny ndy sy
      have y5 := same_new (o := .lst [.ref y]) hb1
      have y6 := made0 (C := A.C_Rule) nx ndx
      have yl : LTms A.C_Term _ l1 [] := ltm0 (upd_same (H := H3) (a := l1) (o := .lst []))
      refine ⟨x, dx, l1, b1, "not", .non, false, [], [qA], [y], rfl, upd_same, TmsAt.l yl (y2.trans (y4.trans (y5.trans y6))), y6 _ _ upd_same, .cons (hlit.up (y5.trans y6)) .nil, wA.1.ts, wA.1.body, .inl ⟨rfl, rfl⟩, fun H4 hA sx => ⟨rfl, ?_⟩⟩
      have s34 : Same H3 H4 := y1.trans (y2.trans (y4.trans (y5.trans (made nx ndx sx))))
      clear y1 y2 y3 y4 y5 y6 yl
      refine ⟨Nat.zero_le _, fun l2 hl2 => ⟨Nat.zero_le _, fun b2 hb2 => fun x2 dx2 nx2 ndx2 nex2 => ?_⟩⟩
      have z1 := same_new (o := .lst []) hl2
      have z2 := same_new (o := .lst []) hb2
      have z3 := made0 (C := A.C_Rule) nx2 ndx2
      refine ⟨x2, dx2, l2, b2, "P", .non, false, [], [], [], rfl, upd_same, ltm0 (z3 _ _ (z2 _ _ upd_same)), z3 _ _ upd_same, .nil, wB.1.ts, wB.1.body, .inl ⟨rfl, rfl⟩, fun H5 hB sx2 => ⟨rfl, ?_⟩⟩
      have s45 : Same H4 H5 := z1.trans (z2.trans (made nx2 ndx2 sx2))
      clear z1 z2 z3
      refine ⟨Nat.zero_le _, fun l3 hl3 => ⟨Nat.zero_le _, fun k3 hk3 => fun y3 dy3 ny3 ndy3 ney3 => ?_⟩⟩
      have w1 := same_new (o := .lst []) hl3
      have w2 := same_new (o := .lst []) hk3
      have w3 := made0 (C := A.C_Literal) ny3 ndy3
      refine ⟨y3, dy3, k3, "neg", "", [], rfl, upd_same, ltm0 (w3 _ _ upd_same), ⟨Nat.zero_le _, fun _ h => nomatch h⟩, fun He3 hlit3 sy3 => ⟨rfl, one_sz, fun b3 hb3 => fun x3 dx3 nx3 ndx3 nex3 => ?_⟩⟩
      have w4 := made ny3 ndy3 sy3
      have w5 := same_new (o := .lst [.ref y3]) hb3
      have w6 := made0 (C := A.C_Rule) nx3 ndx3
      have wl : LTms A.C_Term _ l3 [] := ltm0 (upd_same (H := H5) (a := l3) (o := .lst []))
      refine ⟨x3, dx3, l3, b3, "p", .non, false, [], [qB], [y3], rfl, upd_same, TmsAt.l wl (w2.trans (w4.trans (w5.trans w6))), w6 _ _ upd_same, .cons (hlit3.up (w5.trans w6)) .nil, wC.1.ts, wC.1.body, .inl ⟨rfl, rfl⟩, fun H6 hC sx3 => ⟨rfl, ?_⟩⟩
      have s56 : Same H5 H6 := w1.trans (w2.trans (w4.trans (w5.trans (made nx3 ndx3 sx3))))
      refine ⟨three_sz, fun wr hwr => ?_⟩
      have s67 := same_new (o := .lst [.ref x, .ref x2, .ref x3]) hwr
      exact ⟨wr, x, x2, x3, rfl, upd_same, hA.up (s45.trans (s56.trans s67)), hB.up (s56.trans s67), hC.up s67, hO3.up (s34.trans (s45.trans (s56.trans s67))), tb3.ext (s34.trans (s45.trans (s56.trans s67)))⟩
    rintro σ H4 ⟨wr, xa, xb, xc, rfl, ew4, hA4, hB4, hC4, hO4, tb4⟩
    -- each is told so
    refine ⟨fun σ H' => σ = [some (.ref a), v1, v2, v3, v4, v5, v6, v7, v8, v9, v10, v11, some (.ref rf), some (.ref ro), some (.ref wr), v15, v16, v17, v18, v19, v20] ∧ Tabs [(A.PL, qL)] H', ?_, ?_⟩
    · refine ⟨_, rfl, wr, rfl, ⟨_, SqL.of ew4⟩, fun D hD => ?_⟩
      refine lc_list (K := K) (a := wr) (xs := [.ref xa, .ref xb, .ref xc]) (fun i H' => H' wr = some (.lst [.ref xa, .ref xb, .ref xc]) ∧ H' D = some (.lst []) ∧ (RuleAt A H' xa rA ∧ RuleAt A H' xb rB ∧ RuleAt A H' xc rC) ∧ RuleAt A H' ro rO ∧ Tabs [(A.PL, qL)] H') ?_ (fun i H' _ h => SqL.of h.1) ?_ ?_
      · have s5 := same_new (o := .lst []) hD
        exact ⟨s5 _ _ ew4, upd_same, ⟨hA4.up s5, hB4.up s5, hC4.up s5⟩, hO4.up s5, tb4.ext s5⟩
      · rintro i v H5 hv ⟨ew5, eD5, ⟨hA5, hB5, hC5⟩, hO5, tb5⟩
        have hx : ∃ x r, v = .ref x ∧ RuleAt A H5 x r ∧ Wf r ∧ LetOk r ∧ U.chk r = .rule := by
          match i, hv with
          | 0, hv => cases hv; exact ⟨xa, rA, rfl, hA5, wA.1, wA.2, by decide +kernel⟩
          | 1, hv => cases hv; exact ⟨xb, rB, rfl, hB5, wB.1, wB.2, by decide +kernel⟩
          | 2, hv => cases hv; exact ⟨xc, rC, rfl, hC5, wC.1, wC.2, by decide +kernel⟩
          | _ + 3, hv => cases hv
        obtain ⟨x, r, rfl, hx, hw, hl, hc⟩ := hx
        refine ⟨rfl, tb5, fun H6 ext6 tb6 => ⟨_, rfl, x, r, rfl, hx.n ext6, hw, hl, (fun z => by rw [hc] at z; cases z), fun _ H7 s7 => told_rule T ?_, (fun z => by rw [hc] at z; cases z)⟩⟩
        refine ⟨rfl, _, rfl, iteF ?_⟩
        have e6 := ext6.trans (ExtN.of s7)
        exact ⟨e6 _ _ ew5 (fun _ q => nomatch q), e6 _ _ eD5 (fun _ q => nomatch q), ⟨hA5.n e6, hB5.n e6, hC5.n e6⟩, hO5.n e6, tb6.ext s7⟩
      · rintro H5 ⟨ew5, eD5, _, hO5, tb5⟩
        refine ⟨Nat.zero_le _, fun m hm => ⟨.list [], .list [], .lst (SqL.of (same_new hm _ _ eD5)) .nil, .lst (SqL.of upd_same) .nil, by decide +kernel, by decide +kernel, _, rfl, ?_⟩⟩
        rw [SeqAt.eqv_refl _ (by decide +kernel)]
        have s5 := same_new (o := .lst []) hm
        refine iteF ⟨_, rfl, ro, 0, "X", rO, qX, rfl, hO5.up s5, rfl, _, rfl, rfl, _, rfl, ?_⟩
        rw [show U.shd rO qX "X" = true by decide +kernel]
        exact iteF ⟨rfl, tb5.ext s5⟩
    rintro σ H5 ⟨rfl, tb5⟩
    -- too large
    refine ⟨fun σ H' => σ = [some (.ref a), v1, v2, v3, v4, v5, v6, v7, v8, v9, v10, v11, some (.ref rf), some (.ref ro), some (.ref wr), v15, v16, v17, v18, v19, v20] ∧ Tabs [(A.PL, qL)] H', ?_, ?_⟩
    · refine ⟨tb5, fun H6 ext6 tb6 => ⟨10, 18, rfl, rfl, ⟨by decide, by decide, by decide⟩, _, rfl, fun t1 Ha n1 h1 s1 => ⟨one_sz, fun l1 hl1 => ⟨Nat.zero_le _, fun b1 hb1 => fun x dx nx ndx nex => ?_⟩⟩⟩⟩
      have z1 := same_new (o := .lst [.ref t1]) hl1
      have z2 := same_new (o := .lst []) hb1
      have z3 := made0 (C := A.C_Rule) nx ndx
      have h1' : TO A.C_Term Ha t1 (.inr 1000000000000000000) := h1
      refine ⟨x, dx, l1, b1, "p", .non, false, [.inr 1000000000000000000], [], [], rfl, upd_same, ltm1 (z3 _ _ (z2 _ _ upd_same)) (TmAt.up h1' (z1.trans (z2.trans z3))), z3 _ _ upd_same, .nil, wD.1.ts, wD.1.body, .inl ⟨rfl, rfl⟩, fun Hb hD sx => ⟨rfl, x, rD, rfl, hD, wD.1, wD.2, ?_, ?_, ?_⟩⟩
      · exact fun z => absurd z (by decide +kernel)
      · exact fun z => absurd z (by decide +kernel)
      · intro _ H7 s7
        have s67 : Same H6 H7 := s1.trans (z1.trans (z2.trans ((made nx ndx sx).trans s7)))
        refine told_size T ⟨rfl, _, rfl, ?_⟩
        exact iteF ⟨rfl, tb6.ext s67⟩
    rintro σ H6 ⟨rfl, tb6⟩
    -- a sum of nothing
    refine ⟨tb6, fun H7 ext7 tb7 => ⟨"X", rfl, fun t1 Ha n1 h1 s1 => ⟨one_sz, fun l1 hl1 => ⟨Nat.zero_le _, fun b1 hb1 => ⟨two_sz, fun sp hsp => fun x dx nx ndx nex => ?_⟩⟩⟩⟩⟩
    have z1 := same_new (o := .lst [.ref t1]) hl1
    have z2 := same_new (o := .lst []) hb1
    have z3 := same_new (o := .tup [.int 0, .str "sum"]) hsp
    have z4 := made0 (C := A.C_Rule) nx ndx
    refine ⟨x, dx, l1, b1, "p", .ref sp, true, [.inl "X"], [], [], rfl, upd_same, ltm1 (z4 _ _ (z3 _ _ (z2 _ _ upd_same))) (TmAt.up h1 (z1.trans (z2.trans (z3.trans z4)))), z4 _ _ (z3 _ _ upd_same), .nil, wE.1.ts, wE.1.body, .inr ⟨sp, _, rfl, z4 _ _ upd_same, rfl⟩, fun Hb hE sx => ⟨rfl, x, rE, rfl, hE, wE.1, wE.2, ?_, ?_, ?_⟩⟩
    · exact fun z => absurd z (by decide +kernel)
    · intro _ H8 s8
      exact told_rule T ⟨rfl, k _⟩
    · exact fun z => absurd z (by decide +kernel)
end
end Toy

set_option Elab.async false
set_option maxRecDepth 100000
set_option maxHeartbeats 4000000
namespace Toy
open PySem L2
/-! ### the end
-/
theorem all_mk {l : PySem.W.OpenLaw} {w : World} {K : PySem.W.Frag} {h : Heap} {mg : Str → Option Value} {fa : Addr} (X : K.In h) (G : h.Ns mainGlobals mg) (hfa : mg "law" = some (.ref fa)) (OT : LamX.OwnTab K fa h)
    {C_Term : Addr}
    {C_Literal : Addr}
    {C_Rule : Addr}
    {f_is_small : Addr} {oc_is_small kV_is_small dc_is_small pm_is_small cd_is_small ct_is_small : Value} {od_is_small an_is_small : Option Addr} {sl_is_small : Array (Option Value)}
    {f_is_inner : Addr} {oc_is_inner kV_is_inner dc_is_inner pm_is_inner cd_is_inner ct_is_inner : Value} {od_is_inner an_is_inner : Option Addr} {sl_is_inner : Array (Option Value)}
    {f_Term_init : Addr} {oc_Term_init kV_Term_init dc_Term_init pm_Term_init cd_Term_init ct_Term_init dV_Term_init : Value} {od_Term_init an_Term_init : Option Addr} {sl_Term_init : Array (Option Value)}
    {f_Term_is_variable : Addr} {oc_Term_is_variable kV_Term_is_variable dc_Term_is_variable pm_Term_is_variable cd_Term_is_variable ct_Term_is_variable : Value} {od_Term_is_variable an_Term_is_variable : Option Addr} {sl_Term_is_variable : Array (Option Value)}
    {f_Term_shown : Addr} {oc_Term_shown kV_Term_shown dc_Term_shown pm_Term_shown cd_Term_shown ct_Term_shown : Value} {od_Term_shown an_Term_shown : Option Addr} {sl_Term_shown : Array (Option Value)}
    {f_var : Addr} {oc_var kV_var dc_var pm_var cd_var ct_var : Value} {od_var an_var : Option Addr} {sl_var : Array (Option Value)}
    {f_val : Addr} {oc_val kV_val dc_val pm_val cd_val ct_val : Value} {od_val an_val : Option Addr} {sl_val : Array (Option Value)}
    {f_is_number : Addr} {oc_is_number kV_is_number dc_is_number pm_is_number cd_is_number ct_is_number : Value} {od_is_number an_is_number : Option Addr} {sl_is_number : Array (Option Value)}
    {f_names_in : Addr} {oc_names_in kV_names_in dc_names_in pm_names_in cd_names_in ct_names_in : Value} {od_names_in an_names_in : Option Addr} {sl_names_in : Array (Option Value)}
    {f_shown_all : Addr} {oc_shown_all kV_shown_all dc_shown_all pm_shown_all cd_shown_all ct_shown_all : Value} {od_shown_all an_shown_all : Option Addr} {sl_shown_all : Array (Option Value)}
    {f_Literal_init : Addr} {oc_Literal_init kV_Literal_init dc_Literal_init pm_Literal_init cd_Literal_init ct_Literal_init : Value} {od_Literal_init an_Literal_init : Option Addr} {sl_Literal_init : Array (Option Value)}
    {f_Literal_names : Addr} {oc_Literal_names kV_Literal_names dc_Literal_names pm_Literal_names cd_Literal_names ct_Literal_names : Value} {od_Literal_names an_Literal_names : Option Addr} {sl_Literal_names : Array (Option Value)}
    {f_Literal_shown : Addr} {oc_Literal_shown kV_Literal_shown dc_Literal_shown pm_Literal_shown cd_Literal_shown ct_Literal_shown : Value} {od_Literal_shown an_Literal_shown : Option Addr} {sl_Literal_shown : Array (Option Value)}
    {f_Rule_init : Addr} {oc_Rule_init kV_Rule_init dc_Rule_init pm_Rule_init cd_Rule_init ct_Rule_init dV_Rule_init : Value} {od_Rule_init an_Rule_init : Option Addr} {sl_Rule_init : Array (Option Value)}
    {f_Rule_names : Addr} {oc_Rule_names kV_Rule_names dc_Rule_names pm_Rule_names cd_Rule_names ct_Rule_names : Value} {od_Rule_names an_Rule_names : Option Addr} {sl_Rule_names : Array (Option Value)}
    {f_Rule_asked : Addr} {oc_Rule_asked kV_Rule_asked dc_Rule_asked pm_Rule_asked cd_Rule_asked ct_Rule_asked : Value} {od_Rule_asked an_Rule_asked : Option Addr} {sl_Rule_asked : Array (Option Value)}
    {f_Rule_reckons : Addr} {oc_Rule_reckons kV_Rule_reckons dc_Rule_reckons pm_Rule_reckons cd_Rule_reckons ct_Rule_reckons : Value} {od_Rule_reckons an_Rule_reckons : Option Addr} {sl_Rule_reckons : Array (Option Value)}
    {f_Rule_shown : Addr} {oc_Rule_shown kV_Rule_shown dc_Rule_shown pm_Rule_shown cd_Rule_shown ct_Rule_shown : Value} {od_Rule_shown an_Rule_shown : Option Addr} {sl_Rule_shown : Array (Option Value)}
    {f_how_often : Addr} {oc_how_often kV_how_often dc_how_often pm_how_often cd_how_often ct_how_often : Value} {od_how_often an_how_often : Option Addr} {sl_how_often : Array (Option Value)}
    {f_bounded : Addr} {oc_bounded kV_bounded dc_bounded pm_bounded cd_bounded ct_bounded : Value} {od_bounded an_bounded : Option Addr} {sl_bounded : Array (Option Value)}
    {f_needs : Addr} {oc_needs kV_needs dc_needs pm_needs cd_needs ct_needs : Value} {od_needs an_needs : Option Addr} {sl_needs : Array (Option Value)}
    {f_gives : Addr} {oc_gives kV_gives dc_gives pm_gives cd_gives ct_gives : Value} {od_gives an_gives : Option Addr} {sl_gives : Array (Option Value)}
    {f_shared : Addr} {oc_shared kV_shared dc_shared pm_shared cd_shared ct_shared : Value} {od_shared an_shared : Option Addr} {sl_shared : Array (Option Value)}
    {f_ready : Addr} {oc_ready kV_ready dc_ready pm_ready cd_ready ct_ready : Value} {od_ready an_ready : Option Addr} {sl_ready : Array (Option Value)}
    {f_limited : Addr} {oc_limited kV_limited dc_limited pm_limited cd_limited ct_limited : Value} {od_limited an_limited : Option Addr} {sl_limited : Array (Option Value)}
    {f_loose : Addr} {oc_loose kV_loose dc_loose pm_loose cd_loose ct_loose : Value} {od_loose an_loose : Option Addr} {sl_loose : Array (Option Value)}
    {f_reckoned_twice : Addr} {oc_reckoned_twice kV_reckoned_twice dc_reckoned_twice pm_reckoned_twice cd_reckoned_twice ct_reckoned_twice : Value} {od_reckoned_twice an_reckoned_twice : Option Addr} {sl_reckoned_twice : Array (Option Value)}
    {f_has_value : Addr} {oc_has_value kV_has_value dc_has_value pm_has_value cd_has_value ct_has_value : Value} {od_has_value an_has_value : Option Addr} {sl_has_value : Array (Option Value)}
    {f_all_terms : Addr} {oc_all_terms kV_all_terms dc_all_terms pm_all_terms cd_all_terms ct_all_terms : Value} {od_all_terms an_all_terms : Option Addr} {sl_all_terms : Array (Option Value)}
    {f_too_long : Addr} {oc_too_long kV_too_long dc_too_long pm_too_long cd_too_long ct_too_long : Value} {od_too_long an_too_long : Option Addr} {sl_too_long : Array (Option Value)}
    {f_check_rule : Addr} {oc_check_rule kV_check_rule dc_check_rule pm_check_rule cd_check_rule ct_check_rule : Value} {od_check_rule an_check_rule : Option Addr} {sl_check_rule : Array (Option Value)}
    {f_is_fact : Addr} {oc_is_fact kV_is_fact dc_is_fact pm_is_fact cd_is_fact ct_is_fact : Value} {od_is_fact an_is_fact : Option Addr} {sl_is_fact : Array (Option Value)}
    {f_row_of : Addr} {oc_row_of kV_row_of dc_row_of pm_row_of cd_row_of ct_row_of : Value} {od_row_of an_row_of : Option Addr} {sl_row_of : Array (Option Value)}
    {f_parted : Addr} {oc_parted kV_parted dc_parted pm_parted cd_parted ct_parted : Value} {od_parted an_parted : Option Addr} {sl_parted : Array (Option Value)}
    {f_is_name : Addr} {oc_is_name kV_is_name dc_is_name pm_is_name cd_is_name ct_is_name : Value} {od_is_name an_is_name : Option Addr} {sl_is_name : Array (Option Value)}
    {f_l_flat : Addr} {oc_l_flat kV_l_flat dc_l_flat pm_l_flat cd_l_flat ct_l_flat : Value} {od_l_flat an_l_flat : Option Addr} {sl_l_flat : Array (Option Value)}
    {f_l_dice : Addr} {oc_l_dice kV_l_dice dc_l_dice pm_l_dice cd_l_dice ct_l_dice : Value} {od_l_dice an_l_dice : Option Addr} {sl_l_dice : Array (Option Value)}
    {f_l_roll : Addr} {oc_l_roll kV_l_roll dc_l_roll pm_l_roll cd_l_roll ct_l_roll : Value} {od_l_roll an_l_roll : Option Addr} {sl_l_roll : Array (Option Value)}
    {f_l_rounds : Addr} {oc_l_rounds kV_l_rounds dc_l_rounds pm_l_rounds cd_l_rounds ct_l_rounds : Value} {od_l_rounds an_l_rounds : Option Addr} {sl_l_rounds : Array (Option Value)}
    {f_l_told : Addr} {oc_l_told kV_l_told dc_l_told pm_l_told cd_l_told ct_l_told : Value} {od_l_told an_l_told : Option Addr} {sl_l_told : Array (Option Value)}
    {f_l_part : Addr} {oc_l_part kV_l_part dc_l_part pm_l_part cd_l_part ct_l_part : Value} {od_l_part an_l_part : Option Addr} {sl_l_part : Array (Option Value)}
    {f_l_names : Addr} {oc_l_names kV_l_names dc_l_names pm_l_names cd_l_names ct_l_names : Value} {od_l_names an_l_names : Option Addr} {sl_l_names : Array (Option Value)}
    {f_l_needs : Addr} {oc_l_needs kV_l_needs dc_l_needs pm_l_needs cd_l_needs ct_l_needs : Value} {od_l_needs an_l_needs : Option Addr} {sl_l_needs : Array (Option Value)}
    {f_l_limited : Addr} {oc_l_limited kV_l_limited dc_l_limited pm_l_limited cd_l_limited ct_l_limited : Value} {od_l_limited an_l_limited : Option Addr} {sl_l_limited : Array (Option Value)}
    {f_law : Addr} {oc_law kV_law dc_law pm_law ct_law : Value} {od_law an_law : Option Addr} {sl_law : Array (Option Value)}
    {t_INNER : Tok}
    {t_MOST : Tok}
    {t_SMALL : Tok}
    {C_BadSign : Addr}
    {C_BadRule : Addr}
    {C_BadKind : Addr}
    {C_BadLayer : Addr}
    {C_NoSuch : Addr}
    {C_BadDeed : Addr}
    {C_BadGround : Addr}
    {C_BadStore : Addr}
    {C_Broken : Addr}
    {C_BadSize : Addr}
    {c_L P_L : Addr}
    (aC_Term : PySem.W.nsIn K mainGlobals "Term" = some (some (.ref C_Term)))
    (pg_Term : PySem.W.plainGet K C_Term Str.empty = true)
    (hd_Term : PySem.W.hasDictIn K C_Term = true)
    (po_Term : PySem.W.plainOver K C_Term = true)
    (sa_Term : PySem.W.findIn K (.ref C_Term) "__setattr__" = some (some (.builtin "object.__setattr__")))
    (mk_Term : PySem.W.makesIn K C_Term = true)
    (kc_Term : PySem.W.keepIn K (.ref C_Term) = true)
    (n_Term_name : PySem.W.findIn K (.ref C_Term) "name" = some none)
    (n_Term_value : PySem.W.findIn K (.ref C_Term) "value" = some none)
    (aC_Literal : PySem.W.nsIn K mainGlobals "Literal" = some (some (.ref C_Literal)))
    (pg_Literal : PySem.W.plainGet K C_Literal Str.empty = true)
    (hd_Literal : PySem.W.hasDictIn K C_Literal = true)
    (po_Literal : PySem.W.plainOver K C_Literal = true)
    (sa_Literal : PySem.W.findIn K (.ref C_Literal) "__setattr__" = some (some (.builtin "object.__setattr__")))
    (mk_Literal : PySem.W.makesIn K C_Literal = true)
    (kc_Literal : PySem.W.keepIn K (.ref C_Literal) = true)
    (n_Literal_kind : PySem.W.findIn K (.ref C_Literal) "kind" = some none)
    (n_Literal_name : PySem.W.findIn K (.ref C_Literal) "name" = some none)
    (n_Literal_terms : PySem.W.findIn K (.ref C_Literal) "terms" = some none)
    (n_Literal_own : PySem.W.findIn K (.ref C_Literal) "own" = some none)
    (aC_Rule : PySem.W.nsIn K mainGlobals "Rule" = some (some (.ref C_Rule)))
    (pg_Rule : PySem.W.plainGet K C_Rule Str.empty = true)
    (hd_Rule : PySem.W.hasDictIn K C_Rule = true)
    (po_Rule : PySem.W.plainOver K C_Rule = true)
    (sa_Rule : PySem.W.findIn K (.ref C_Rule) "__setattr__" = some (some (.builtin "object.__setattr__")))
    (mk_Rule : PySem.W.makesIn K C_Rule = true)
    (kc_Rule : PySem.W.keepIn K (.ref C_Rule) = true)
    (n_Rule_name : PySem.W.findIn K (.ref C_Rule) "name" = some none)
    (n_Rule_terms : PySem.W.findIn K (.ref C_Rule) "terms" = some none)
    (n_Rule_body : PySem.W.findIn K (.ref C_Rule) "body" = some none)
    (n_Rule_summed : PySem.W.findIn K (.ref C_Rule) "summed" = some none)
    (n_Rule_stands : PySem.W.findIn K (.ref C_Rule) "stands" = some none)
    (a_is_small : PySem.W.nsIn K mainGlobals "is_small" = some (some (.ref f_is_small)))
    (l_is_small : K.lookup f_is_small = some ⟨oc_is_small, od_is_small, .func (PySem.W.fnOf "is_small" "is_small" (defArgs s_is_small) (defBody s_is_small) (defScope s_is_small) .none kV_is_small dc_is_small pm_is_small an_is_small cd_is_small ct_is_small), sl_is_small⟩)
    (c_is_small : PySem.W.codeIn K cd_is_small "is_small" = true)
    (k_is_small : PySem.W.keepIn K (.ref f_is_small) = true)
    (a_is_inner : PySem.W.nsIn K mainGlobals "is_inner" = some (some (.ref f_is_inner)))
    (l_is_inner : K.lookup f_is_inner = some ⟨oc_is_inner, od_is_inner, .func (PySem.W.fnOf "is_inner" "is_inner" (defArgs s_is_inner) (defBody s_is_inner) (defScope s_is_inner) .none kV_is_inner dc_is_inner pm_is_inner an_is_inner cd_is_inner ct_is_inner), sl_is_inner⟩)
    (c_is_inner : PySem.W.codeIn K cd_is_inner "is_inner" = true)
    (k_is_inner : PySem.W.keepIn K (.ref f_is_inner) = true)
    (a_Term_init : PySem.W.findIn K (.ref C_Term) "__init__" = some (some (.ref f_Term_init)))
    (i_Term_init : PySem.W.isFn K (.ref f_Term_init) = true)
    (l_Term_init : K.lookup f_Term_init = some ⟨oc_Term_init, od_Term_init, .func (PySem.W.fnOf "__init__" "Term.__init__" (defArgs s_Term_init) (defBody s_Term_init) (defScope s_Term_init) dV_Term_init kV_Term_init dc_Term_init pm_Term_init an_Term_init cd_Term_init ct_Term_init), sl_Term_init⟩)
    (v_Term_init : DflV K dV_Term_init [.non])
    (c_Term_init : PySem.W.codeIn K cd_Term_init "Term.__init__" = true)
    (k_Term_init : PySem.W.keepIn K (.ref f_Term_init) = true)
    (a_Term_is_variable : PySem.W.findIn K (.ref C_Term) "is_variable" = some (some (.ref f_Term_is_variable)))
    (i_Term_is_variable : PySem.W.isFn K (.ref f_Term_is_variable) = true)
    (l_Term_is_variable : K.lookup f_Term_is_variable = some ⟨oc_Term_is_variable, od_Term_is_variable, .func (PySem.W.fnOf "is_variable" "Term.is_variable" (defArgs s_Term_is_variable) (defBody s_Term_is_variable) (defScope s_Term_is_variable) .none kV_Term_is_variable dc_Term_is_variable pm_Term_is_variable an_Term_is_variable cd_Term_is_variable ct_Term_is_variable), sl_Term_is_variable⟩)
    (c_Term_is_variable : PySem.W.codeIn K cd_Term_is_variable "Term.is_variable" = true)
    (k_Term_is_variable : PySem.W.keepIn K (.ref f_Term_is_variable) = true)
    (a_Term_shown : PySem.W.findIn K (.ref C_Term) "shown" = some (some (.ref f_Term_shown)))
    (i_Term_shown : PySem.W.isFn K (.ref f_Term_shown) = true)
    (l_Term_shown : K.lookup f_Term_shown = some ⟨oc_Term_shown, od_Term_shown, .func (PySem.W.fnOf "shown" "Term.shown" (defArgs s_Term_shown) (defBody s_Term_shown) (defScope s_Term_shown) .none kV_Term_shown dc_Term_shown pm_Term_shown an_Term_shown cd_Term_shown ct_Term_shown), sl_Term_shown⟩)
    (c_Term_shown : PySem.W.codeIn K cd_Term_shown "Term.shown" = true)
    (k_Term_shown : PySem.W.keepIn K (.ref f_Term_shown) = true)
    (a_var : PySem.W.nsIn K mainGlobals "var" = some (some (.ref f_var)))
    (l_var : K.lookup f_var = some ⟨oc_var, od_var, .func (PySem.W.fnOf "var" "var" (defArgs s_var) (defBody s_var) (defScope s_var) .none kV_var dc_var pm_var an_var cd_var ct_var), sl_var⟩)
    (c_var : PySem.W.codeIn K cd_var "var" = true)
    (k_var : PySem.W.keepIn K (.ref f_var) = true)
    (a_val : PySem.W.nsIn K mainGlobals "val" = some (some (.ref f_val)))
    (l_val : K.lookup f_val = some ⟨oc_val, od_val, .func (PySem.W.fnOf "val" "val" (defArgs s_val) (defBody s_val) (defScope s_val) .none kV_val dc_val pm_val an_val cd_val ct_val), sl_val⟩)
    (c_val : PySem.W.codeIn K cd_val "val" = true)
    (k_val : PySem.W.keepIn K (.ref f_val) = true)
    (a_is_number : PySem.W.nsIn K mainGlobals "is_number" = some (some (.ref f_is_number)))
    (l_is_number : K.lookup f_is_number = some ⟨oc_is_number, od_is_number, .func (PySem.W.fnOf "is_number" "is_number" (defArgs s_is_number) (defBody s_is_number) (defScope s_is_number) .none kV_is_number dc_is_number pm_is_number an_is_number cd_is_number ct_is_number), sl_is_number⟩)
    (c_is_number : PySem.W.codeIn K cd_is_number "is_number" = true)
    (k_is_number : PySem.W.keepIn K (.ref f_is_number) = true)
    (a_names_in : PySem.W.nsIn K mainGlobals "names_in" = some (some (.ref f_names_in)))
    (l_names_in : K.lookup f_names_in = some ⟨oc_names_in, od_names_in, .func (PySem.W.fnOf "names_in" "names_in" (defArgs s_names_in) (defBody s_names_in) (defScope s_names_in) .none kV_names_in dc_names_in pm_names_in an_names_in cd_names_in ct_names_in), sl_names_in⟩)
    (c_names_in : PySem.W.codeIn K cd_names_in "names_in" = true)
    (k_names_in : PySem.W.keepIn K (.ref f_names_in) = true)
    (a_shown_all : PySem.W.nsIn K mainGlobals "shown_all" = some (some (.ref f_shown_all)))
    (l_shown_all : K.lookup f_shown_all = some ⟨oc_shown_all, od_shown_all, .func (PySem.W.fnOf "shown_all" "shown_all" (defArgs s_shown_all) (defBody s_shown_all) (defScope s_shown_all) .none kV_shown_all dc_shown_all pm_shown_all an_shown_all cd_shown_all ct_shown_all), sl_shown_all⟩)
    (c_shown_all : PySem.W.codeIn K cd_shown_all "shown_all" = true)
    (k_shown_all : PySem.W.keepIn K (.ref f_shown_all) = true)
    (a_Literal_init : PySem.W.findIn K (.ref C_Literal) "__init__" = some (some (.ref f_Literal_init)))
    (i_Literal_init : PySem.W.isFn K (.ref f_Literal_init) = true)
    (l_Literal_init : K.lookup f_Literal_init = some ⟨oc_Literal_init, od_Literal_init, .func (PySem.W.fnOf "__init__" "Literal.__init__" (defArgs s_Literal_init) (defBody s_Literal_init) (defScope s_Literal_init) .none kV_Literal_init dc_Literal_init pm_Literal_init an_Literal_init cd_Literal_init ct_Literal_init), sl_Literal_init⟩)
    (c_Literal_init : PySem.W.codeIn K cd_Literal_init "Literal.__init__" = true)
    (k_Literal_init : PySem.W.keepIn K (.ref f_Literal_init) = true)
    (a_Literal_names : PySem.W.findIn K (.ref C_Literal) "names" = some (some (.ref f_Literal_names)))
    (i_Literal_names : PySem.W.isFn K (.ref f_Literal_names) = true)
    (l_Literal_names : K.lookup f_Literal_names = some ⟨oc_Literal_names, od_Literal_names, .func (PySem.W.fnOf "names" "Literal.names" (defArgs s_Literal_names) (defBody s_Literal_names) (defScope s_Literal_names) .none kV_Literal_names dc_Literal_names pm_Literal_names an_Literal_names cd_Literal_names ct_Literal_names), sl_Literal_names⟩)
    (c_Literal_names : PySem.W.codeIn K cd_Literal_names "Literal.names" = true)
    (k_Literal_names : PySem.W.keepIn K (.ref f_Literal_names) = true)
    (a_Literal_shown : PySem.W.findIn K (.ref C_Literal) "shown" = some (some (.ref f_Literal_shown)))
    (i_Literal_shown : PySem.W.isFn K (.ref f_Literal_shown) = true)
    (l_Literal_shown : K.lookup f_Literal_shown = some ⟨oc_Literal_shown, od_Literal_shown, .func (PySem.W.fnOf "shown" "Literal.shown" (defArgs s_Literal_shown) (defBody s_Literal_shown) (defScope s_Literal_shown) .none kV_Literal_shown dc_Literal_shown pm_Literal_shown an_Literal_shown cd_Literal_shown ct_Literal_shown), sl_Literal_shown⟩)
    (c_Literal_shown : PySem.W.codeIn K cd_Literal_shown "Literal.shown" = true)
    (k_Literal_shown : PySem.W.keepIn K (.ref f_Literal_shown) = true)
    (a_Rule_init : PySem.W.findIn K (.ref C_Rule) "__init__" = some (some (.ref f_Rule_init)))
    (i_Rule_init : PySem.W.isFn K (.ref f_Rule_init) = true)
    (l_Rule_init : K.lookup f_Rule_init = some ⟨oc_Rule_init, od_Rule_init, .func (PySem.W.fnOf "__init__" "Rule.__init__" (defArgs s_Rule_init) (defBody s_Rule_init) (defScope s_Rule_init) dV_Rule_init kV_Rule_init dc_Rule_init pm_Rule_init an_Rule_init cd_Rule_init ct_Rule_init), sl_Rule_init⟩)
    (v_Rule_init : DflV K dV_Rule_init [.non])
    (c_Rule_init : PySem.W.codeIn K cd_Rule_init "Rule.__init__" = true)
    (k_Rule_init : PySem.W.keepIn K (.ref f_Rule_init) = true)
    (a_Rule_names : PySem.W.findIn K (.ref C_Rule) "names" = some (some (.ref f_Rule_names)))
    (i_Rule_names : PySem.W.isFn K (.ref f_Rule_names) = true)
    (l_Rule_names : K.lookup f_Rule_names = some ⟨oc_Rule_names, od_Rule_names, .func (PySem.W.fnOf "names" "Rule.names" (defArgs s_Rule_names) (defBody s_Rule_names) (defScope s_Rule_names) .none kV_Rule_names dc_Rule_names pm_Rule_names an_Rule_names cd_Rule_names ct_Rule_names), sl_Rule_names⟩)
    (c_Rule_names : PySem.W.codeIn K cd_Rule_names "Rule.names" = true)
    (k_Rule_names : PySem.W.keepIn K (.ref f_Rule_names) = true)
    (a_Rule_asked : PySem.W.findIn K (.ref C_Rule) "asked" = some (some (.ref f_Rule_asked)))
    (i_Rule_asked : PySem.W.isFn K (.ref f_Rule_asked) = true)
    (l_Rule_asked : K.lookup f_Rule_asked = some ⟨oc_Rule_asked, od_Rule_asked, .func (PySem.W.fnOf "asked" "Rule.asked" (defArgs s_Rule_asked) (defBody s_Rule_asked) (defScope s_Rule_asked) .none kV_Rule_asked dc_Rule_asked pm_Rule_asked an_Rule_asked cd_Rule_asked ct_Rule_asked), sl_Rule_asked⟩)
    (c_Rule_asked : PySem.W.codeIn K cd_Rule_asked "Rule.asked" = true)
    (k_Rule_asked : PySem.W.keepIn K (.ref f_Rule_asked) = true)
    (a_Rule_reckons : PySem.W.findIn K (.ref C_Rule) "reckons" = some (some (.ref f_Rule_reckons)))
    (i_Rule_reckons : PySem.W.isFn K (.ref f_Rule_reckons) = true)
    (l_Rule_reckons : K.lookup f_Rule_reckons = some ⟨oc_Rule_reckons, od_Rule_reckons, .func (PySem.W.fnOf "reckons" "Rule.reckons" (defArgs s_Rule_reckons) (defBody s_Rule_reckons) (defScope s_Rule_reckons) .none kV_Rule_reckons dc_Rule_reckons pm_Rule_reckons an_Rule_reckons cd_Rule_reckons ct_Rule_reckons), sl_Rule_reckons⟩)
    (c_Rule_reckons : PySem.W.codeIn K cd_Rule_reckons "Rule.reckons" = true)
    (k_Rule_reckons : PySem.W.keepIn K (.ref f_Rule_reckons) = true)
    (a_Rule_shown : PySem.W.findIn K (.ref C_Rule) "shown" = some (some (.ref f_Rule_shown)))
    (i_Rule_shown : PySem.W.isFn K (.ref f_Rule_shown) = true)
    (l_Rule_shown : K.lookup f_Rule_shown = some ⟨oc_Rule_shown, od_Rule_shown, .func (PySem.W.fnOf "shown" "Rule.shown" (defArgs s_Rule_shown) (defBody s_Rule_shown) (defScope s_Rule_shown) .none kV_Rule_shown dc_Rule_shown pm_Rule_shown an_Rule_shown cd_Rule_shown ct_Rule_shown), sl_Rule_shown⟩)
    (c_Rule_shown : PySem.W.codeIn K cd_Rule_shown "Rule.shown" = true)
    (k_Rule_shown : PySem.W.keepIn K (.ref f_Rule_shown) = true)
    (a_how_often : PySem.W.nsIn K mainGlobals "how_often" = some (some (.ref f_how_often)))
    (l_how_often : K.lookup f_how_often = some ⟨oc_how_often, od_how_often, .func (PySem.W.fnOf "how_often" "how_often" (defArgs s_how_often) (defBody s_how_often) (defScope s_how_often) .none kV_how_often dc_how_often pm_how_often an_how_often cd_how_often ct_how_often), sl_how_often⟩)
    (c_how_often : PySem.W.codeIn K cd_how_often "how_often" = true)
    (k_how_often : PySem.W.keepIn K (.ref f_how_often) = true)
    (a_bounded : PySem.W.nsIn K mainGlobals "bounded" = some (some (.ref f_bounded)))
    (l_bounded : K.lookup f_bounded = some ⟨oc_bounded, od_bounded, .func (PySem.W.fnOf "bounded" "bounded" (defArgs s_bounded) (defBody s_bounded) (defScope s_bounded) .none kV_bounded dc_bounded pm_bounded an_bounded cd_bounded ct_bounded), sl_bounded⟩)
    (c_bounded : PySem.W.codeIn K cd_bounded "bounded" = true)
    (k_bounded : PySem.W.keepIn K (.ref f_bounded) = true)
    (a_needs : PySem.W.nsIn K mainGlobals "needs" = some (some (.ref f_needs)))
    (l_needs : K.lookup f_needs = some ⟨oc_needs, od_needs, .func (PySem.W.fnOf "needs" "needs" (defArgs s_needs) (defBody s_needs) (defScope s_needs) .none kV_needs dc_needs pm_needs an_needs cd_needs ct_needs), sl_needs⟩)
    (c_needs : PySem.W.codeIn K cd_needs "needs" = true)
    (k_needs : PySem.W.keepIn K (.ref f_needs) = true)
    (a_gives : PySem.W.nsIn K mainGlobals "gives" = some (some (.ref f_gives)))
    (l_gives : K.lookup f_gives = some ⟨oc_gives, od_gives, .func (PySem.W.fnOf "gives" "gives" (defArgs s_gives) (defBody s_gives) (defScope s_gives) .none kV_gives dc_gives pm_gives an_gives cd_gives ct_gives), sl_gives⟩)
    (c_gives : PySem.W.codeIn K cd_gives "gives" = true)
    (k_gives : PySem.W.keepIn K (.ref f_gives) = true)
    (a_shared : PySem.W.nsIn K mainGlobals "shared" = some (some (.ref f_shared)))
    (l_shared : K.lookup f_shared = some ⟨oc_shared, od_shared, .func (PySem.W.fnOf "shared" "shared" (defArgs s_shared) (defBody s_shared) (defScope s_shared) .none kV_shared dc_shared pm_shared an_shared cd_shared ct_shared), sl_shared⟩)
    (c_shared : PySem.W.codeIn K cd_shared "shared" = true)
    (k_shared : PySem.W.keepIn K (.ref f_shared) = true)
    (a_ready : PySem.W.nsIn K mainGlobals "ready" = some (some (.ref f_ready)))
    (l_ready : K.lookup f_ready = some ⟨oc_ready, od_ready, .func (PySem.W.fnOf "ready" "ready" (defArgs s_ready) (defBody s_ready) (defScope s_ready) .none kV_ready dc_ready pm_ready an_ready cd_ready ct_ready), sl_ready⟩)
    (c_ready : PySem.W.codeIn K cd_ready "ready" = true)
    (k_ready : PySem.W.keepIn K (.ref f_ready) = true)
    (a_limited : PySem.W.nsIn K mainGlobals "limited" = some (some (.ref f_limited)))
    (l_limited : K.lookup f_limited = some ⟨oc_limited, od_limited, .func (PySem.W.fnOf "limited" "limited" (defArgs s_limited) (defBody s_limited) (defScope s_limited) .none kV_limited dc_limited pm_limited an_limited cd_limited ct_limited), sl_limited⟩)
    (c_limited : PySem.W.codeIn K cd_limited "limited" = true)
    (k_limited : PySem.W.keepIn K (.ref f_limited) = true)
    (a_loose : PySem.W.nsIn K mainGlobals "loose" = some (some (.ref f_loose)))
    (l_loose : K.lookup f_loose = some ⟨oc_loose, od_loose, .func (PySem.W.fnOf "loose" "loose" (defArgs s_loose) (defBody s_loose) (defScope s_loose) .none kV_loose dc_loose pm_loose an_loose cd_loose ct_loose), sl_loose⟩)
    (c_loose : PySem.W.codeIn K cd_loose "loose" = true)
    (k_loose : PySem.W.keepIn K (.ref f_loose) = true)
    (a_reckoned_twice : PySem.W.nsIn K mainGlobals "reckoned_twice" = some (some (.ref f_reckoned_twice)))
    (l_reckoned_twice : K.lookup f_reckoned_twice = some ⟨oc_reckoned_twice, od_reckoned_twice, .func (PySem.W.fnOf "reckoned_twice" "reckoned_twice" (defArgs s_reckoned_twice) (defBody s_reckoned_twice) (defScope s_reckoned_twice) .none kV_reckoned_twice dc_reckoned_twice pm_reckoned_twice an_reckoned_twice cd_reckoned_twice ct_reckoned_twice), sl_reckoned_twice⟩)
    (c_reckoned_twice : PySem.W.codeIn K cd_reckoned_twice "reckoned_twice" = true)
    (k_reckoned_twice : PySem.W.keepIn K (.ref f_reckoned_twice) = true)
    (a_has_value : PySem.W.nsIn K mainGlobals "has_value" = some (some (.ref f_has_value)))
    (l_has_value : K.lookup f_has_value = some ⟨oc_has_value, od_has_value, .func (PySem.W.fnOf "has_value" "has_value" (defArgs s_has_value) (defBody s_has_value) (defScope s_has_value) .none kV_has_value dc_has_value pm_has_value an_has_value cd_has_value ct_has_value), sl_has_value⟩)
    (c_has_value : PySem.W.codeIn K cd_has_value "has_value" = true)
    (k_has_value : PySem.W.keepIn K (.ref f_has_value) = true)
    (a_all_terms : PySem.W.nsIn K mainGlobals "all_terms" = some (some (.ref f_all_terms)))
    (l_all_terms : K.lookup f_all_terms = some ⟨oc_all_terms, od_all_terms, .func (PySem.W.fnOf "all_terms" "all_terms" (defArgs s_all_terms) (defBody s_all_terms) (defScope s_all_terms) .none kV_all_terms dc_all_terms pm_all_terms an_all_terms cd_all_terms ct_all_terms), sl_all_terms⟩)
    (c_all_terms : PySem.W.codeIn K cd_all_terms "all_terms" = true)
    (k_all_terms : PySem.W.keepIn K (.ref f_all_terms) = true)
    (a_too_long : PySem.W.nsIn K mainGlobals "too_long" = some (some (.ref f_too_long)))
    (l_too_long : K.lookup f_too_long = some ⟨oc_too_long, od_too_long, .func (PySem.W.fnOf "too_long" "too_long" (defArgs s_too_long) (defBody s_too_long) (defScope s_too_long) .none kV_too_long dc_too_long pm_too_long an_too_long cd_too_long ct_too_long), sl_too_long⟩)
    (c_too_long : PySem.W.codeIn K cd_too_long "too_long" = true)
    (k_too_long : PySem.W.keepIn K (.ref f_too_long) = true)
    (a_check_rule : PySem.W.nsIn K mainGlobals "check_rule" = some (some (.ref f_check_rule)))
    (l_check_rule : K.lookup f_check_rule = some ⟨oc_check_rule, od_check_rule, .func (PySem.W.fnOf "check_rule" "check_rule" (defArgs s_check_rule) (defBody s_check_rule) (defScope s_check_rule) .none kV_check_rule dc_check_rule pm_check_rule an_check_rule cd_check_rule ct_check_rule), sl_check_rule⟩)
    (c_check_rule : PySem.W.codeIn K cd_check_rule "check_rule" = true)
    (k_check_rule : PySem.W.keepIn K (.ref f_check_rule) = true)
    (a_is_fact : PySem.W.nsIn K mainGlobals "is_fact" = some (some (.ref f_is_fact)))
    (l_is_fact : K.lookup f_is_fact = some ⟨oc_is_fact, od_is_fact, .func (PySem.W.fnOf "is_fact" "is_fact" (defArgs s_is_fact) (defBody s_is_fact) (defScope s_is_fact) .none kV_is_fact dc_is_fact pm_is_fact an_is_fact cd_is_fact ct_is_fact), sl_is_fact⟩)
    (c_is_fact : PySem.W.codeIn K cd_is_fact "is_fact" = true)
    (k_is_fact : PySem.W.keepIn K (.ref f_is_fact) = true)
    (a_row_of : PySem.W.nsIn K mainGlobals "row_of" = some (some (.ref f_row_of)))
    (l_row_of : K.lookup f_row_of = some ⟨oc_row_of, od_row_of, .func (PySem.W.fnOf "row_of" "row_of" (defArgs s_row_of) (defBody s_row_of) (defScope s_row_of) .none kV_row_of dc_row_of pm_row_of an_row_of cd_row_of ct_row_of), sl_row_of⟩)
    (c_row_of : PySem.W.codeIn K cd_row_of "row_of" = true)
    (k_row_of : PySem.W.keepIn K (.ref f_row_of) = true)
    (a_parted : PySem.W.nsIn K mainGlobals "parted" = some (some (.ref f_parted)))
    (l_parted : K.lookup f_parted = some ⟨oc_parted, od_parted, .func (PySem.W.fnOf "parted" "parted" (defArgs s_parted) (defBody s_parted) (defScope s_parted) .none kV_parted dc_parted pm_parted an_parted cd_parted ct_parted), sl_parted⟩)
    (c_parted : PySem.W.codeIn K cd_parted "parted" = true)
    (k_parted : PySem.W.keepIn K (.ref f_parted) = true)
    (a_is_name : PySem.W.nsIn K mainGlobals "is_name" = some (some (.ref f_is_name)))
    (l_is_name : K.lookup f_is_name = some ⟨oc_is_name, od_is_name, .func (PySem.W.fnOf "is_name" "is_name" (defArgs s_is_name) (defBody s_is_name) (defScope s_is_name) .none kV_is_name dc_is_name pm_is_name an_is_name cd_is_name ct_is_name), sl_is_name⟩)
    (c_is_name : PySem.W.codeIn K cd_is_name "is_name" = true)
    (k_is_name : PySem.W.keepIn K (.ref f_is_name) = true)
    (a_l_flat : PySem.W.nsIn K mainGlobals "_law_flat" = some (some (.ref f_l_flat)))
    (l_l_flat : K.lookup f_l_flat = some ⟨oc_l_flat, od_l_flat, .func (PySem.W.fnOf "_law_flat" "_law_flat" (defArgs s_l_flat) (defBody s_l_flat) (defScope s_l_flat) .none kV_l_flat dc_l_flat pm_l_flat an_l_flat cd_l_flat ct_l_flat), sl_l_flat⟩)
    (c_l_flat : PySem.W.codeIn K cd_l_flat "_law_flat" = true)
    (k_l_flat : PySem.W.keepIn K (.ref f_l_flat) = true)
    (a_l_dice : PySem.W.nsIn K mainGlobals "_law_dice" = some (some (.ref f_l_dice)))
    (l_l_dice : K.lookup f_l_dice = some ⟨oc_l_dice, od_l_dice, .func (PySem.W.fnOf "_law_dice" "_law_dice" (defArgs s_l_dice) (defBody s_l_dice) (defScope s_l_dice) .none kV_l_dice dc_l_dice pm_l_dice an_l_dice cd_l_dice ct_l_dice), sl_l_dice⟩)
    (c_l_dice : PySem.W.codeIn K cd_l_dice "_law_dice" = true)
    (k_l_dice : PySem.W.keepIn K (.ref f_l_dice) = true)
    (a_l_roll : PySem.W.nsIn K mainGlobals "_law_roll" = some (some (.ref f_l_roll)))
    (l_l_roll : K.lookup f_l_roll = some ⟨oc_l_roll, od_l_roll, .func (PySem.W.fnOf "_law_roll" "_law_roll" (defArgs s_l_roll) (defBody s_l_roll) (defScope s_l_roll) .none kV_l_roll dc_l_roll pm_l_roll an_l_roll cd_l_roll ct_l_roll), sl_l_roll⟩)
    (c_l_roll : PySem.W.codeIn K cd_l_roll "_law_roll" = true)
    (k_l_roll : PySem.W.keepIn K (.ref f_l_roll) = true)
    (a_l_rounds : PySem.W.nsIn K mainGlobals "_law_rounds" = some (some (.ref f_l_rounds)))
    (l_l_rounds : K.lookup f_l_rounds = some ⟨oc_l_rounds, od_l_rounds, .func (PySem.W.fnOf "_law_rounds" "_law_rounds" (defArgs s_l_rounds) (defBody s_l_rounds) (defScope s_l_rounds) .none kV_l_rounds dc_l_rounds pm_l_rounds an_l_rounds cd_l_rounds ct_l_rounds), sl_l_rounds⟩)
    (c_l_rounds : PySem.W.codeIn K cd_l_rounds "_law_rounds" = true)
    (k_l_rounds : PySem.W.keepIn K (.ref f_l_rounds) = true)
    (a_l_told : PySem.W.nsIn K mainGlobals "_law_told" = some (some (.ref f_l_told)))
    (l_l_told : K.lookup f_l_told = some ⟨oc_l_told, od_l_told, .func (PySem.W.fnOf "_law_told" "_law_told" (defArgs s_l_told) (defBody s_l_told) (defScope s_l_told) .none kV_l_told dc_l_told pm_l_told an_l_told cd_l_told ct_l_told), sl_l_told⟩)
    (c_l_told : PySem.W.codeIn K cd_l_told "_law_told" = true)
    (k_l_told : PySem.W.keepIn K (.ref f_l_told) = true)
    (a_l_part : PySem.W.nsIn K mainGlobals "_law_part" = some (some (.ref f_l_part)))
    (l_l_part : K.lookup f_l_part = some ⟨oc_l_part, od_l_part, .func (PySem.W.fnOf "_law_part" "_law_part" (defArgs s_l_part) (defBody s_l_part) (defScope s_l_part) .none kV_l_part dc_l_part pm_l_part an_l_part cd_l_part ct_l_part), sl_l_part⟩)
    (c_l_part : PySem.W.codeIn K cd_l_part "_law_part" = true)
    (k_l_part : PySem.W.keepIn K (.ref f_l_part) = true)
    (a_l_names : PySem.W.nsIn K mainGlobals "_law_names" = some (some (.ref f_l_names)))
    (l_l_names : K.lookup f_l_names = some ⟨oc_l_names, od_l_names, .func (PySem.W.fnOf "_law_names" "_law_names" (defArgs s_l_names) (defBody s_l_names) (defScope s_l_names) .none kV_l_names dc_l_names pm_l_names an_l_names cd_l_names ct_l_names), sl_l_names⟩)
    (c_l_names : PySem.W.codeIn K cd_l_names "_law_names" = true)
    (k_l_names : PySem.W.keepIn K (.ref f_l_names) = true)
    (a_l_needs : PySem.W.nsIn K mainGlobals "_law_needs" = some (some (.ref f_l_needs)))
    (l_l_needs : K.lookup f_l_needs = some ⟨oc_l_needs, od_l_needs, .func (PySem.W.fnOf "_law_needs" "_law_needs" (defArgs s_l_needs) (defBody s_l_needs) (defScope s_l_needs) .none kV_l_needs dc_l_needs pm_l_needs an_l_needs cd_l_needs ct_l_needs), sl_l_needs⟩)
    (c_l_needs : PySem.W.codeIn K cd_l_needs "_law_needs" = true)
    (k_l_needs : PySem.W.keepIn K (.ref f_l_needs) = true)
    (a_l_limited : PySem.W.nsIn K mainGlobals "_law_limited" = some (some (.ref f_l_limited)))
    (l_l_limited : K.lookup f_l_limited = some ⟨oc_l_limited, od_l_limited, .func (PySem.W.fnOf "_law_limited" "_law_limited" (defArgs s_l_limited) (defBody s_l_limited) (defScope s_l_limited) .none kV_l_limited dc_l_limited pm_l_limited an_l_limited cd_l_limited ct_l_limited), sl_l_limited⟩)
    (c_l_limited : PySem.W.codeIn K cd_l_limited "_law_limited" = true)
    (k_l_limited : PySem.W.keepIn K (.ref f_l_limited) = true)
    (a_law : PySem.W.nsIn K mainGlobals "law" = some (some (.ref f_law)))
    (l_law : K.lookup f_law = some ⟨oc_law, od_law, .func (PySem.W.fnOf "law" "law" (defArgs s_law) (defBody s_law) (defScope s_law) .none kV_law dc_law pm_law an_law (.ref c_L) ct_law), sl_law⟩)
    (c_law : PySem.W.codeIn K (.ref c_L) "law" = true)
    (k_law : PySem.W.keepIn K (.ref f_law) = true)
    (z_abs : PySem.W.nsIn K mainGlobals "abs" = some none)
    (z_all : PySem.W.nsIn K mainGlobals "all" = some none)
    (z_any : PySem.W.nsIn K mainGlobals "any" = some none)
    (z_enumerate : PySem.W.nsIn K mainGlobals "enumerate" = some none)
    (z_int : PySem.W.nsIn K mainGlobals "int" = some none)
    (z_isinstance : PySem.W.nsIn K mainGlobals "isinstance" = some none)
    (z_len : PySem.W.nsIn K mainGlobals "len" = some none)
    (z_list : PySem.W.nsIn K mainGlobals "list" = some none)
    (z_range : PySem.W.nsIn K mainGlobals "range" = some none)
    (z_sorted : PySem.W.nsIn K mainGlobals "sorted" = some none)
    (z_str : PySem.W.nsIn K mainGlobals "str" = some none)
    (z_tuple : PySem.W.nsIn K mainGlobals "tuple" = some none)
    (g_INNER : PySem.W.nsIn K mainGlobals "INNER" = some (some (.str "abcdefghijklmnopqrstuvwxyzABCDEFGHIJKLMNOPQRSTUVWXYZ0123456789_" t_INNER)))
    (g_MOST : PySem.W.nsIn K mainGlobals "MOST" = some (some (.int (999999999999999999) t_MOST)))
    (g_SMALL : PySem.W.nsIn K mainGlobals "SMALL" = some (some (.str "abcdefghijklmnopqrstuvwxyz" t_SMALL)))
    (q_BadSign : PySem.W.nsIn K mainGlobals "BadSign" = some (some (.ref C_BadSign)))
    (q_BadRule : PySem.W.nsIn K mainGlobals "BadRule" = some (some (.ref C_BadRule)))
    (q_BadKind : PySem.W.nsIn K mainGlobals "BadKind" = some (some (.ref C_BadKind)))
    (q_BadLayer : PySem.W.nsIn K mainGlobals "BadLayer" = some (some (.ref C_BadLayer)))
    (q_NoSuch : PySem.W.nsIn K mainGlobals "NoSuch" = some (some (.ref C_NoSuch)))
    (q_BadDeed : PySem.W.nsIn K mainGlobals "BadDeed" = some (some (.ref C_BadDeed)))
    (q_BadGround : PySem.W.nsIn K mainGlobals "BadGround" = some (some (.ref C_BadGround)))
    (q_BadStore : PySem.W.nsIn K mainGlobals "BadStore" = some (some (.ref C_BadStore)))
    (q_Broken : PySem.W.nsIn K mainGlobals "Broken" = some (some (.ref C_Broken)))
    (q_BadSize : PySem.W.nsIn K mainGlobals "BadSize" = some (some (.ref C_BadSize)))
    (x_BadRule : PySem.W.excIn K C_BadRule [.type "ValueError", .type "Exception", .type "BaseException", .type "object"] "ValueError.__new__" = true)
    (k_BadRule : PySem.W.keepIn K (.ref C_BadRule) = true)
    (sb_BadRule : PySem.W.subIn K (.ref C_BadRule) (.type "BaseException") = some true)
    (ty_BadRule : PySem.W.typeIn K (.ref C_BadRule) = some (.type "type"))
    (m_BadRule_BadSign : PySem.W.exmOne K (.ref C_BadRule) (.ref C_BadSign) = some false)
    (m_BadRule_BadRule : PySem.W.exmOne K (.ref C_BadRule) (.ref C_BadRule) = some true)
    (x_BadSize : PySem.W.excIn K C_BadSize [.type "ValueError", .type "Exception", .type "BaseException", .type "object"] "ValueError.__new__" = true)
    (k_BadSize : PySem.W.keepIn K (.ref C_BadSize) = true)
    (sb_BadSize : PySem.W.subIn K (.ref C_BadSize) (.type "BaseException") = some true)
    (ty_BadSize : PySem.W.typeIn K (.ref C_BadSize) = some (.type "type"))
    (m_BadSize_BadSign : PySem.W.exmOne K (.ref C_BadSize) (.ref C_BadSign) = some false)
    (m_BadSize_BadRule : PySem.W.exmOne K (.ref C_BadSize) (.ref C_BadRule) = some false)
    (m_BadSize_BadKind : PySem.W.exmOne K (.ref C_BadSize) (.ref C_BadKind) = some false)
    (m_BadSize_BadLayer : PySem.W.exmOne K (.ref C_BadSize) (.ref C_BadLayer) = some false)
    (m_BadSize_NoSuch : PySem.W.exmOne K (.ref C_BadSize) (.ref C_NoSuch) = some false)
    (m_BadSize_BadDeed : PySem.W.exmOne K (.ref C_BadSize) (.ref C_BadDeed) = some false)
    (m_BadSize_BadGround : PySem.W.exmOne K (.ref C_BadSize) (.ref C_BadGround) = some false)
    (m_BadSize_BadStore : PySem.W.exmOne K (.ref C_BadSize) (.ref C_BadStore) = some false)
    (m_BadSize_Broken : PySem.W.exmOne K (.ref C_BadSize) (.ref C_Broken) = some false)
    (m_BadSize_BadSize : PySem.W.exmOne K (.ref C_BadSize) (.ref C_BadSize) = some true)
    (h_law : PySem.W.codeHdIn K c_L P_L = true)
    (n_law : K.lookup P_L = none) :
    LamX.LawAtS l w K CX0 10 63 "_law_script" mg fa h := by
  have ef : f_law = fa := by
    have e := hfa.symm.trans (PySem.W.mg_of X G a_law)
    injection e with e
    injection e with e
    exact e.symm
  subst ef
  let A : Ad := ⟨t_INNER, t_MOST, t_SMALL, C_BadSign, C_BadRule, C_BadKind, C_BadLayer, C_NoSuch, C_BadDeed, C_BadGround, C_BadStore, C_Broken, C_BadSize, c_L, P_L, f_is_small, (PySem.W.fnOf "is_small" "is_small" (defArgs s_is_small) (defBody s_is_small) (defScope s_is_small) .none kV_is_small dc_is_small pm_is_small an_is_small cd_is_small ct_is_small), f_is_inner, (PySem.W.fnOf "is_inner" "is_inner" (defArgs s_is_inner) (defBody s_is_inner) (defScope s_is_inner) .none kV_is_inner dc_is_inner pm_is_inner an_is_inner cd_is_inner ct_is_inner), f_Term_init, (PySem.W.fnOf "__init__" "Term.__init__" (defArgs s_Term_init) (defBody s_Term_init) (defScope s_Term_init) dV_Term_init kV_Term_init dc_Term_init pm_Term_init an_Term_init cd_Term_init ct_Term_init), f_Term_is_variable, (PySem.W.fnOf "is_variable" "Term.is_variable" (defArgs s_Term_is_variable) (defBody s_Term_is_variable) (defScope s_Term_is_variable) .none kV_Term_is_variable dc_Term_is_variable pm_Term_is_variable an_Term_is_variable cd_Term_is_variable ct_Term_is_variable), f_Term_shown, (PySem.W.fnOf "shown" "Term.shown" (defArgs s_Term_shown) (defBody s_Term_shown) (defScope s_Term_shown) .none kV_Term_shown dc_Term_shown pm_Term_shown an_Term_shown cd_Term_shown ct_Term_shown), f_var, (PySem.W.fnOf "var" "var" (defArgs s_var) (defBody s_var) (defScope s_var) .none kV_var dc_var pm_var an_var cd_var ct_var), f_val, (PySem.W.fnOf "val" "val" (defArgs s_val) (defBody s_val) (defScope s_val) .none kV_val dc_val pm_val an_val cd_val ct_val), f_is_number, (PySem.W.fnOf "is_number" "is_number" (defArgs s_is_number) (defBody s_is_number) (defScope s_is_number) .none kV_is_number dc_is_number pm_is_number an_is_number cd_is_number ct_is_number), f_names_in, (PySem.W.fnOf "names_in" "names_in" (defArgs s_names_in) (defBody s_names_in) (defScope s_names_in) .none kV_names_in dc_names_in pm_names_in an_names_in cd_names_in ct_names_in), f_shown_all, (PySem.W.fnOf "shown_all" "shown_all" (defArgs s_shown_all) (defBody s_shown_all) (defScope s_shown_all) .none kV_shown_all dc_shown_all pm_shown_all an_shown_all cd_shown_all ct_shown_all), f_Literal_init, (PySem.W.fnOf "__init__" "Literal.__init__" (defArgs s_Literal_init) (defBody s_Literal_init) (defScope s_Literal_init) .none kV_Literal_init dc_Literal_init pm_Literal_init an_Literal_init cd_Literal_init ct_Literal_init), f_Literal_names, (PySem.W.fnOf "names" "Literal.names" (defArgs s_Literal_names) (defBody s_Literal_names) (defScope s_Literal_names) .none kV_Literal_names dc_Literal_names pm_Literal_names an_Literal_names cd_Literal_names ct_Literal_names), f_Literal_shown, (PySem.W.fnOf "shown" "Literal.shown" (defArgs s_Literal_shown) (defBody s_Literal_shown) (defScope s_Literal_shown) .none kV_Literal_shown dc_Literal_shown pm_Literal_shown an_Literal_shown cd_Literal_shown ct_Literal_shown), f_Rule_init, (PySem.W.fnOf "__init__" "Rule.__init__" (defArgs s_Rule_init) (defBody s_Rule_init) (defScope s_Rule_init) dV_Rule_init kV_Rule_init dc_Rule_init pm_Rule_init an_Rule_init cd_Rule_init ct_Rule_init), f_Rule_names, (PySem.W.fnOf "names" "Rule.names" (defArgs s_Rule_names) (defBody s_Rule_names) (defScope s_Rule_names) .none kV_Rule_names dc_Rule_names pm_Rule_names an_Rule_names cd_Rule_names ct_Rule_names), f_Rule_asked, (PySem.W.fnOf "asked" "Rule.asked" (defArgs s_Rule_asked) (defBody s_Rule_asked) (defScope s_Rule_asked) .none kV_Rule_asked dc_Rule_asked pm_Rule_asked an_Rule_asked cd_Rule_asked ct_Rule_asked), f_Rule_reckons, (PySem.W.fnOf "reckons" "Rule.reckons" (defArgs s_Rule_reckons) (defBody s_Rule_reckons) (defScope s_Rule_reckons) .none kV_Rule_reckons dc_Rule_reckons pm_Rule_reckons an_Rule_reckons cd_Rule_reckons ct_Rule_reckons), f_Rule_shown, (PySem.W.fnOf "shown" "Rule.shown" (defArgs s_Rule_shown) (defBody s_Rule_shown) (defScope s_Rule_shown) .none kV_Rule_shown dc_Rule_shown pm_Rule_shown an_Rule_shown cd_Rule_shown ct_Rule_shown), f_how_often, (PySem.W.fnOf "how_often" "how_often" (defArgs s_how_often) (defBody s_how_often) (defScope s_how_often) .none kV_how_often dc_how_often pm_how_often an_how_often cd_how_often ct_how_often), f_bounded, (PySem.W.fnOf "bounded" "bounded" (defArgs s_bounded) (defBody s_bounded) (defScope s_bounded) .none kV_bounded dc_bounded pm_bounded an_bounded cd_bounded ct_bounded), f_needs, (PySem.W.fnOf "needs" "needs" (defArgs s_needs) (defBody s_needs) (defScope s_needs) .none kV_needs dc_needs pm_needs an_needs cd_needs ct_needs), f_gives, (PySem.W.fnOf "gives" "gives" (defArgs s_gives) (defBody s_gives) (defScope s_gives) .none kV_gives dc_gives pm_gives an_gives cd_gives ct_gives), f_shared, (PySem.W.fnOf "shared" "shared" (defArgs s_shared) (defBody s_shared) (defScope s_shared) .none kV_shared dc_shared pm_shared an_shared cd_shared ct_shared), f_ready, (PySem.W.fnOf "ready" "ready" (defArgs s_ready) (defBody s_ready) (defScope s_ready) .none kV_ready dc_ready pm_ready an_ready cd_ready ct_ready), f_limited, (PySem.W.fnOf "limited" "limited" (defArgs s_limited) (defBody s_limited) (defScope s_limited) .none kV_limited dc_limited pm_limited an_limited cd_limited ct_limited), f_loose, (PySem.W.fnOf "loose" "loose" (defArgs s_loose) (defBody s_loose) (defScope s_loose) .none kV_loose dc_loose pm_loose an_loose cd_loose ct_loose), f_reckoned_twice, (PySem.W.fnOf "reckoned_twice" "reckoned_twice" (defArgs s_reckoned_twice) (defBody s_reckoned_twice) (defScope s_reckoned_twice) .none kV_reckoned_twice dc_reckoned_twice pm_reckoned_twice an_reckoned_twice cd_reckoned_twice ct_reckoned_twice), f_has_value, (PySem.W.fnOf "has_value" "has_value" (defArgs s_has_value) (defBody s_has_value) (defScope s_has_value) .none kV_has_value dc_has_value pm_has_value an_has_value cd_has_value ct_has_value), f_all_terms, (PySem.W.fnOf "all_terms" "all_terms" (defArgs s_all_terms) (defBody s_all_terms) (defScope s_all_terms) .none kV_all_terms dc_all_terms pm_all_terms an_all_terms cd_all_terms ct_all_terms), f_too_long, (PySem.W.fnOf "too_long" "too_long" (defArgs s_too_long) (defBody s_too_long) (defScope s_too_long) .none kV_too_long dc_too_long pm_too_long an_too_long cd_too_long ct_too_long), f_check_rule, (PySem.W.fnOf "check_rule" "check_rule" (defArgs s_check_rule) (defBody s_check_rule) (defScope s_check_rule) .none kV_check_rule dc_check_rule pm_check_rule an_check_rule cd_check_rule ct_check_rule), f_is_fact, (PySem.W.fnOf "is_fact" "is_fact" (defArgs s_is_fact) (defBody s_is_fact) (defScope s_is_fact) .none kV_is_fact dc_is_fact pm_is_fact an_is_fact cd_is_fact ct_is_fact), f_row_of, (PySem.W.fnOf "row_of" "row_of" (defArgs s_row_of) (defBody s_row_of) (defScope s_row_of) .none kV_row_of dc_row_of pm_row_of an_row_of cd_row_of ct_row_of), f_parted, (PySem.W.fnOf "parted" "parted" (defArgs s_parted) (defBody s_parted) (defScope s_parted) .none kV_parted dc_parted pm_parted an_parted cd_parted ct_parted), f_is_name, (PySem.W.fnOf "is_name" "is_name" (defArgs s_is_name) (defBody s_is_name) (defScope s_is_name) .none kV_is_name dc_is_name pm_is_name an_is_name cd_is_name ct_is_name), f_l_flat, (PySem.W.fnOf "_law_flat" "_law_flat" (defArgs s_l_flat) (defBody s_l_flat) (defScope s_l_flat) .none kV_l_flat dc_l_flat pm_l_flat an_l_flat cd_l_flat ct_l_flat), f_l_dice, (PySem.W.fnOf "_law_dice" "_law_dice" (defArgs s_l_dice) (defBody s_l_dice) (defScope s_l_dice) .none kV_l_dice dc_l_dice pm_l_dice an_l_dice cd_l_dice ct_l_dice), f_l_roll, (PySem.W.fnOf "_law_roll" "_law_roll" (defArgs s_l_roll) (defBody s_l_roll) (defScope s_l_roll) .none kV_l_roll dc_l_roll pm_l_roll an_l_roll cd_l_roll ct_l_roll), f_l_rounds, (PySem.W.fnOf "_law_rounds" "_law_rounds" (defArgs s_l_rounds) (defBody s_l_rounds) (defScope s_l_rounds) .none kV_l_rounds dc_l_rounds pm_l_rounds an_l_rounds cd_l_rounds ct_l_rounds), f_l_told, (PySem.W.fnOf "_law_told" "_law_told" (defArgs s_l_told) (defBody s_l_told) (defScope s_l_told) .none kV_l_told dc_l_told pm_l_told an_l_told cd_l_told ct_l_told), f_l_part, (PySem.W.fnOf "_law_part" "_law_part" (defArgs s_l_part) (defBody s_l_part) (defScope s_l_part) .none kV_l_part dc_l_part pm_l_part an_l_part cd_l_part ct_l_part), f_l_names, (PySem.W.fnOf "_law_names" "_law_names" (defArgs s_l_names) (defBody s_l_names) (defScope s_l_names) .none kV_l_names dc_l_names pm_l_names an_l_names cd_l_names ct_l_names), f_l_needs, (PySem.W.fnOf "_law_needs" "_law_needs" (defArgs s_l_needs) (defBody s_l_needs) (defScope s_l_needs) .none kV_l_needs dc_l_needs pm_l_needs an_l_needs cd_l_needs ct_l_needs), f_l_limited, (PySem.W.fnOf "_law_limited" "_law_limited" (defArgs s_l_limited) (defBody s_l_limited) (defScope s_l_limited) .none kV_l_limited dc_l_limited pm_l_limited an_l_limited cd_l_limited ct_l_limited), f_law, (PySem.W.fnOf "law" "law" (defArgs s_law) (defBody s_law) (defScope s_law) .none kV_law dc_law pm_law an_law (.ref c_L) ct_law), C_Term, C_Literal, C_Rule⟩
  have F_is_small := fun_mk (st := s_is_small) l_is_small c_is_small k_is_small
  have b_is_small := F_is_small.binds (ps := ["sign"]) fun _ _ _ _ _ _ us hl => match us, hl with | [_], _ => rfl
  have F_is_inner := fun_mk (st := s_is_inner) l_is_inner c_is_inner k_is_inner
  have b_is_inner := F_is_inner.binds (ps := ["sign"]) fun _ _ _ _ _ _ us hl => match us, hl with | [_], _ => rfl
  have F_Term_init : FunD K "__init__" "Term.__init__" (defArgs s_Term_init) (defBody s_Term_init) (defScope s_Term_init) [.non] [] A.f_Term_init A.d_Term_init := ⟨⟨_, _, _, _, _, _, _, _, _, _, rfl, l_Term_init, c_Term_init, v_Term_init, .inl rfl⟩, k_Term_init⟩
  have b_Term_init : Binds K A.d_Term_init ["self", "name", "value"] [] := by
    obtain ⟨ds, hv, hb⟩ := F_Term_init.binds1 (ps := ["self", "name", "value"]) 3 1 (by decide) rfl fun _ _ _ _ _ _ _ us its hl hi => match us, its, hl, hi with | [_, _, _], [_], _, _ => ⟨_, rfl, rfl⟩
    cases hv
    exact hb
  have bd_Term_init := F_Term_init.binds1 (ps := ["self", "name", "value"]) 2 0 (by decide) rfl fun _ _ _ _ _ _ _ us its hl hi => match us, its, hl, hi with | [_, _], [_], _, _ => ⟨_, rfl, rfl⟩
  have F_Term_is_variable := fun_mk (st := s_Term_is_variable) l_Term_is_variable c_Term_is_variable k_Term_is_variable
  have b_Term_is_variable := F_Term_is_variable.binds (ps := ["self"]) fun _ _ _ _ _ _ us hl => match us, hl with | [_], _ => rfl
  have F_Term_shown := fun_mk (st := s_Term_shown) l_Term_shown c_Term_shown k_Term_shown
  have b_Term_shown := F_Term_shown.binds (ps := ["self"]) fun _ _ _ _ _ _ us hl => match us, hl with | [_], _ => rfl
  have F_var := fun_mk (st := s_var) l_var c_var k_var
  have b_var := F_var.binds (ps := ["name"]) fun _ _ _ _ _ _ us hl => match us, hl with | [_], _ => rfl
  have F_val := fun_mk (st := s_val) l_val c_val k_val
  have b_val := F_val.binds (ps := ["value"]) fun _ _ _ _ _ _ us hl => match us, hl with | [_], _ => rfl
  have F_is_number := fun_mk (st := s_is_number) l_is_number c_is_number k_is_number
  have b_is_number := F_is_number.binds (ps := ["value"]) fun _ _ _ _ _ _ us hl => match us, hl with | [_], _ => rfl
  have F_names_in := fun_mk (st := s_names_in) l_names_in c_names_in k_names_in
  have b_names_in := F_names_in.binds (ps := ["terms"]) fun _ _ _ _ _ _ us hl => match us, hl with | [_], _ => rfl
  have F_shown_all := fun_mk (st := s_shown_all) l_shown_all c_shown_all k_shown_all
  have b_shown_all := F_shown_all.binds (ps := ["terms"]) fun _ _ _ _ _ _ us hl => match us, hl with | [_], _ => rfl
  have F_Literal_init := fun_mk (st := s_Literal_init) l_Literal_init c_Literal_init k_Literal_init
  have b_Literal_init := F_Literal_init.binds (ps := ["self", "kind", "name", "terms"]) fun _ _ _ _ _ _ us hl => match us, hl with | [_, _, _, _], _ => rfl
  have F_Literal_names := fun_mk (st := s_Literal_names) l_Literal_names c_Literal_names k_Literal_names
  have b_Literal_names := F_Literal_names.binds (ps := ["self"]) fun _ _ _ _ _ _ us hl => match us, hl with | [_], _ => rfl
  have F_Literal_shown := fun_mk (st := s_Literal_shown) l_Literal_shown c_Literal_shown k_Literal_shown
  have b_Literal_shown := F_Literal_shown.binds (ps := ["self"]) fun _ _ _ _ _ _ us hl => match us, hl with | [_], _ => rfl
  have F_Rule_init : FunD K "__init__" "Rule.__init__" (defArgs s_Rule_init) (defBody s_Rule_init) (defScope s_Rule_init) [.non] [] A.f_Rule_init A.d_Rule_init := ⟨⟨_, _, _, _, _, _, _, _, _, _, rfl, l_Rule_init, c_Rule_init, v_Rule_init, .inl rfl⟩, k_Rule_init⟩
  have b_Rule_init : Binds K A.d_Rule_init ["self", "name", "terms", "body", "summed"] [] := by
    obtain ⟨ds, hv, hb⟩ := F_Rule_init.binds1 (ps := ["self", "name", "terms", "body", "summed"]) 5 1 (by decide) rfl fun _ _ _ _ _ _ _ us its hl hi => match us, its, hl, hi with | [_, _, _, _, _], [_], _, _ => ⟨_, rfl, rfl⟩
    cases hv
    exact hb
  have bd_Rule_init := F_Rule_init.binds1 (ps := ["self", "name", "terms", "body", "summed"]) 4 0 (by decide) rfl fun _ _ _ _ _ _ _ us its hl hi => match us, its, hl, hi with | [_, _, _, _], [_], _, _ => ⟨_, rfl, rfl⟩
  have F_Rule_names := fun_mk (st := s_Rule_names) l_Rule_names c_Rule_names k_Rule_names
  have b_Rule_names := F_Rule_names.binds (ps := ["self"]) fun _ _ _ _ _ _ us hl => match us, hl with | [_], _ => rfl
  have F_Rule_asked := fun_mk (st := s_Rule_asked) l_Rule_asked c_Rule_asked k_Rule_asked
  have b_Rule_asked := F_Rule_asked.binds (ps := ["self", "kind"]) fun _ _ _ _ _ _ us hl => match us, hl with | [_, _], _ => rfl
  have F_Rule_reckons := fun_mk (st := s_Rule_reckons) l_Rule_reckons c_Rule_reckons k_Rule_reckons
  have b_Rule_reckons := F_Rule_reckons.binds (ps := ["self"]) fun _ _ _ _ _ _ us hl => match us, hl with | [_], _ => rfl
  have F_Rule_shown := fun_mk (st := s_Rule_shown) l_Rule_shown c_Rule_shown k_Rule_shown
  have b_Rule_shown := F_Rule_shown.binds (ps := ["self"]) fun _ _ _ _ _ _ us hl => match us, hl with | [_], _ => rfl
  have F_how_often := fun_mk (st := s_how_often) l_how_often c_how_often k_how_often
  have b_how_often := F_how_often.binds (ps := ["rows"]) fun _ _ _ _ _ _ us hl => match us, hl with | [_], _ => rfl
  have F_bounded := fun_mk (st := s_bounded) l_bounded c_bounded k_bounded
  have b_bounded := F_bounded.binds (ps := ["number"]) fun _ _ _ _ _ _ us hl => match us, hl with | [_], _ => rfl
  have F_needs := fun_mk (st := s_needs) l_needs c_needs k_needs
  have b_needs := F_needs.binds (ps := ["rule", "number"]) fun _ _ _ _ _ _ us hl => match us, hl with | [_, _], _ => rfl
  have F_gives := fun_mk (st := s_gives) l_gives c_gives k_gives
  have b_gives := F_gives.binds (ps := ["rule", "number"]) fun _ _ _ _ _ _ us hl => match us, hl with | [_, _], _ => rfl
  have F_shared := fun_mk (st := s_shared) l_shared c_shared k_shared
  have b_shared := F_shared.binds (ps := ["rule", "number", "name"]) fun _ _ _ _ _ _ us hl => match us, hl with | [_, _, _], _ => rfl
  have F_ready := fun_mk (st := s_ready) l_ready c_ready k_ready
  have b_ready := F_ready.binds (ps := ["rule", "number", "bound"]) fun _ _ _ _ _ _ us hl => match us, hl with | [_, _, _], _ => rfl
  have F_limited := fun_mk (st := s_limited) l_limited c_limited k_limited
  have b_limited := F_limited.binds (ps := ["rule"]) fun _ _ _ _ _ _ us hl => match us, hl with | [_], _ => rfl
  have F_loose := fun_mk (st := s_loose) l_loose c_loose k_loose
  have b_loose := F_loose.binds (ps := ["rule"]) fun _ _ _ _ _ _ us hl => match us, hl with | [_], _ => rfl
  have F_reckoned_twice := fun_mk (st := s_reckoned_twice) l_reckoned_twice c_reckoned_twice k_reckoned_twice
  have b_reckoned_twice := F_reckoned_twice.binds (ps := ["rule"]) fun _ _ _ _ _ _ us hl => match us, hl with | [_], _ => rfl
  have F_has_value := fun_mk (st := s_has_value) l_has_value c_has_value k_has_value
  have b_has_value := F_has_value.binds (ps := ["rule", "number"]) fun _ _ _ _ _ _ us hl => match us, hl with | [_, _], _ => rfl
  have F_all_terms := fun_mk (st := s_all_terms) l_all_terms c_all_terms k_all_terms
  have b_all_terms := F_all_terms.binds (ps := ["rule"]) fun _ _ _ _ _ _ us hl => match us, hl with | [_], _ => rfl
  have F_too_long := fun_mk (st := s_too_long) l_too_long c_too_long k_too_long
  have b_too_long := F_too_long.binds (ps := ["term"]) fun _ _ _ _ _ _ us hl => match us, hl with | [_], _ => rfl
  have F_check_rule := fun_mk (st := s_check_rule) l_check_rule c_check_rule k_check_rule
  have b_check_rule := F_check_rule.binds (ps := ["rule"]) fun _ _ _ _ _ _ us hl => match us, hl with | [_], _ => rfl
  have F_is_fact := fun_mk (st := s_is_fact) l_is_fact c_is_fact k_is_fact
  have b_is_fact := F_is_fact.binds (ps := ["rule"]) fun _ _ _ _ _ _ us hl => match us, hl with | [_], _ => rfl
  have F_row_of := fun_mk (st := s_row_of) l_row_of c_row_of k_row_of
  have b_row_of := F_row_of.binds (ps := ["rule"]) fun _ _ _ _ _ _ us hl => match us, hl with | [_], _ => rfl
  have F_parted := fun_mk (st := s_parted) l_parted c_parted k_parted
  have b_parted := F_parted.binds (ps := ["rules"]) fun _ _ _ _ _ _ us hl => match us, hl with | [_], _ => rfl
  have F_is_name := fun_mk (st := s_is_name) l_is_name c_is_name k_is_name
  have b_is_name := F_is_name.binds (ps := ["name"]) fun _ _ _ _ _ _ us hl => match us, hl with | [_], _ => rfl
  have F_l_flat := fun_mk (st := s_l_flat) l_l_flat c_l_flat k_l_flat
  have b_l_flat := F_l_flat.binds (ps := ["_law_rows"]) fun _ _ _ _ _ _ us hl => match us, hl with | [_], _ => rfl
  have F_l_dice := fun_mk (st := s_l_dice) l_l_dice c_l_dice k_l_dice
  have b_l_dice := F_l_dice.binds (ps := ["_law_cell"]) fun _ _ _ _ _ _ us hl => match us, hl with | [_], _ => rfl
  have F_l_roll := fun_mk (st := s_l_roll) l_l_roll c_l_roll k_l_roll
  have b_l_roll := F_l_roll.binds (ps := ["_law_dice_here", "_law_many"]) fun _ _ _ _ _ _ us hl => match us, hl with | [_, _], _ => rfl
  have F_l_rounds := fun_mk (st := s_l_rounds) l_l_rounds c_l_rounds k_l_rounds
  have b_l_rounds := F_l_rounds.binds (ps := ["_law_script", "_law_most"]) fun _ _ _ _ _ _ us hl => match us, hl with | [_, _], _ => rfl
  have F_l_told := fun_mk (st := s_l_told) l_l_told c_l_told k_l_told
  have b_l_told := F_l_told.binds (ps := ["_law_what"]) fun _ _ _ _ _ _ us hl => match us, hl with | [_], _ => rfl
  have F_l_part := fun_mk (st := s_l_part) l_l_part c_l_part k_l_part
  have b_l_part := F_l_part.binds (ps := ["_law_dice_here"]) fun _ _ _ _ _ _ us hl => match us, hl with | [_], _ => rfl
  have F_l_names := fun_mk (st := s_l_names) l_l_names c_l_names k_l_names
  have b_l_names := F_l_names.binds (ps := ["_law_terms"]) fun _ _ _ _ _ _ us hl => match us, hl with | [_], _ => rfl
  have F_l_needs := fun_mk (st := s_l_needs) l_l_needs c_l_needs k_l_needs
  have b_l_needs := F_l_needs.binds (ps := ["_law_head", "_law_parts", "_law_j"]) fun _ _ _ _ _ _ us hl => match us, hl with | [_, _, _], _ => rfl
  have F_l_limited := fun_mk (st := s_l_limited) l_l_limited c_l_limited k_l_limited
  have b_l_limited := F_l_limited.binds (ps := ["_law_head", "_law_parts"]) fun _ _ _ _ _ _ us hl => match us, hl with | [_, _], _ => rfl
  have F_law := fun_mk (st := s_law) l_law c_law k_law
  have b_law := F_law.binds (ps := ["_law_script"]) fun _ _ _ _ _ _ us hl => match us, hl with | [_], _ => rfl
  have T : Txt K mg A := {
    F_is_small := F_is_small,
    b_is_small := b_is_small,
    m_is_small := PySem.W.mg_of X G a_is_small,
    F_is_inner := F_is_inner,
    b_is_inner := b_is_inner,
    m_is_inner := PySem.W.mg_of X G a_is_inner,
    F_Term_init := F_Term_init,
    b_Term_init := b_Term_init,
    bd_Term_init := bd_Term_init,
    F_Term_is_variable := F_Term_is_variable,
    b_Term_is_variable := b_Term_is_variable,
    e_Term_is_variable := ⟨a_Term_is_variable, i_Term_is_variable, k_Term_is_variable⟩,
    F_Term_shown := F_Term_shown,
    b_Term_shown := b_Term_shown,
    e_Term_shown := ⟨a_Term_shown, i_Term_shown, k_Term_shown⟩,
    F_var := F_var,
    b_var := b_var,
    m_var := PySem.W.mg_of X G a_var,
    F_val := F_val,
    b_val := b_val,
    m_val := PySem.W.mg_of X G a_val,
    F_is_number := F_is_number,
    b_is_number := b_is_number,
    m_is_number := PySem.W.mg_of X G a_is_number,
    F_names_in := F_names_in,
    b_names_in := b_names_in,
    m_names_in := PySem.W.mg_of X G a_names_in,
    F_shown_all := F_shown_all,
    b_shown_all := b_shown_all,
    m_shown_all := PySem.W.mg_of X G a_shown_all,
    F_Literal_init := F_Literal_init,
    b_Literal_init := b_Literal_init,
    F_Literal_names := F_Literal_names,
    b_Literal_names := b_Literal_names,
    e_Literal_names := ⟨a_Literal_names, i_Literal_names, k_Literal_names⟩,
    F_Literal_shown := F_Literal_shown,
    b_Literal_shown := b_Literal_shown,
    e_Literal_shown := ⟨a_Literal_shown, i_Literal_shown, k_Literal_shown⟩,
    F_Rule_init := F_Rule_init,
    b_Rule_init := b_Rule_init,
    bd_Rule_init := bd_Rule_init,
    F_Rule_names := F_Rule_names,
    b_Rule_names := b_Rule_names,
    e_Rule_names := ⟨a_Rule_names, i_Rule_names, k_Rule_names⟩,
    F_Rule_asked := F_Rule_asked,
    b_Rule_asked := b_Rule_asked,
    e_Rule_asked := ⟨a_Rule_asked, i_Rule_asked, k_Rule_asked⟩,
    F_Rule_reckons := F_Rule_reckons,
    b_Rule_reckons := b_Rule_reckons,
    e_Rule_reckons := ⟨a_Rule_reckons, i_Rule_reckons, k_Rule_reckons⟩,
    F_Rule_shown := F_Rule_shown,
    b_Rule_shown := b_Rule_shown,
    e_Rule_shown := ⟨a_Rule_shown, i_Rule_shown, k_Rule_shown⟩,
    F_how_often := F_how_often,
    b_how_often := b_how_often,
    m_how_often := PySem.W.mg_of X G a_how_often,
    F_bounded := F_bounded,
    b_bounded := b_bounded,
    m_bounded := PySem.W.mg_of X G a_bounded,
    F_needs := F_needs,
    b_needs := b_needs,
    m_needs := PySem.W.mg_of X G a_needs,
    F_gives := F_gives,
    b_gives := b_gives,
    m_gives := PySem.W.mg_of X G a_gives,
    F_shared := F_shared,
    b_shared := b_shared,
    m_shared := PySem.W.mg_of X G a_shared,
    F_ready := F_ready,
    b_ready := b_ready,
    m_ready := PySem.W.mg_of X G a_ready,
    F_limited := F_limited,
    b_limited := b_limited,
    m_limited := PySem.W.mg_of X G a_limited,
    F_loose := F_loose,
    b_loose := b_loose,
    m_loose := PySem.W.mg_of X G a_loose,
    F_reckoned_twice := F_reckoned_twice,
    b_reckoned_twice := b_reckoned_twice,
    m_reckoned_twice := PySem.W.mg_of X G a_reckoned_twice,
    F_has_value := F_has_value,
    b_has_value := b_has_value,
    m_has_value := PySem.W.mg_of X G a_has_value,
    F_all_terms := F_all_terms,
    b_all_terms := b_all_terms,
    m_all_terms := PySem.W.mg_of X G a_all_terms,
    F_too_long := F_too_long,
    b_too_long := b_too_long,
    m_too_long := PySem.W.mg_of X G a_too_long,
    F_check_rule := F_check_rule,
    b_check_rule := b_check_rule,
    m_check_rule := PySem.W.mg_of X G a_check_rule,
    F_is_fact := F_is_fact,
    b_is_fact := b_is_fact,
    m_is_fact := PySem.W.mg_of X G a_is_fact,
    F_row_of := F_row_of,
    b_row_of := b_row_of,
    m_row_of := PySem.W.mg_of X G a_row_of,
    F_parted := F_parted,
    b_parted := b_parted,
    m_parted := PySem.W.mg_of X G a_parted,
    F_is_name := F_is_name,
    b_is_name := b_is_name,
    m_is_name := PySem.W.mg_of X G a_is_name,
    F_l_flat := F_l_flat,
    b_l_flat := b_l_flat,
    m_l_flat := PySem.W.mg_of X G a_l_flat,
    F_l_dice := F_l_dice,
    b_l_dice := b_l_dice,
    m_l_dice := PySem.W.mg_of X G a_l_dice,
    F_l_roll := F_l_roll,
    b_l_roll := b_l_roll,
    m_l_roll := PySem.W.mg_of X G a_l_roll,
    F_l_rounds := F_l_rounds,
    b_l_rounds := b_l_rounds,
    m_l_rounds := PySem.W.mg_of X G a_l_rounds,
    F_l_told := F_l_told,
    b_l_told := b_l_told,
    m_l_told := PySem.W.mg_of X G a_l_told,
    F_l_part := F_l_part,
    b_l_part := b_l_part,
    m_l_part := PySem.W.mg_of X G a_l_part,
    F_l_names := F_l_names,
    b_l_names := b_l_names,
    m_l_names := PySem.W.mg_of X G a_l_names,
    F_l_needs := F_l_needs,
    b_l_needs := b_l_needs,
    m_l_needs := PySem.W.mg_of X G a_l_needs,
    F_l_limited := F_l_limited,
    b_l_limited := b_l_limited,
    m_l_limited := PySem.W.mg_of X G a_l_limited,
    F_law := F_law,
    b_law := b_law,
    m_law := PySem.W.mg_of X G a_law,
    m_Term := PySem.W.mg_of X G aC_Term,
    cl_Term := ⟨pg_Term, hd_Term, po_Term, sa_Term⟩,
    M_Term := ⟨mk_Term, a_Term_init, i_Term_init, kc_Term⟩,
    n_Term_name := n_Term_name,
    n_Term_value := n_Term_value,
    m_Literal := PySem.W.mg_of X G aC_Literal,
    cl_Literal := ⟨pg_Literal, hd_Literal, po_Literal, sa_Literal⟩,
    M_Literal := ⟨mk_Literal, a_Literal_init, i_Literal_init, kc_Literal⟩,
    n_Literal_kind := n_Literal_kind,
    n_Literal_name := n_Literal_name,
    n_Literal_terms := n_Literal_terms,
    n_Literal_own := n_Literal_own,
    m_Rule := PySem.W.mg_of X G aC_Rule,
    cl_Rule := ⟨pg_Rule, hd_Rule, po_Rule, sa_Rule⟩,
    M_Rule := ⟨mk_Rule, a_Rule_init, i_Rule_init, kc_Rule⟩,
    n_Rule_name := n_Rule_name,
    n_Rule_terms := n_Rule_terms,
    n_Rule_body := n_Rule_body,
    n_Rule_summed := n_Rule_summed,
    n_Rule_stands := n_Rule_stands,
    g_INNER := PySem.W.mg_of X G g_INNER,
    g_MOST := PySem.W.mg_of X G g_MOST,
    g_SMALL := PySem.W.mg_of X G g_SMALL,
    q_BadSign := PySem.W.mg_of X G q_BadSign,
    q_BadRule := PySem.W.mg_of X G q_BadRule,
    q_BadKind := PySem.W.mg_of X G q_BadKind,
    q_BadLayer := PySem.W.mg_of X G q_BadLayer,
    q_NoSuch := PySem.W.mg_of X G q_NoSuch,
    q_BadDeed := PySem.W.mg_of X G q_BadDeed,
    q_BadGround := PySem.W.mg_of X G q_BadGround,
    q_BadStore := PySem.W.mg_of X G q_BadStore,
    q_Broken := PySem.W.mg_of X G q_Broken,
    q_BadSize := PySem.W.mg_of X G q_BadSize,
    x_BadRule := x_BadRule,
    k_BadRule := k_BadRule,
    sb_BadRule := sb_BadRule,
    ty_BadRule := ty_BadRule,
    m_BadRule_BadSign := m_BadRule_BadSign,
    m_BadRule_BadRule := m_BadRule_BadRule,
    x_BadSize := x_BadSize,
    k_BadSize := k_BadSize,
    sb_BadSize := sb_BadSize,
    ty_BadSize := ty_BadSize,
    m_BadSize_BadSign := m_BadSize_BadSign,
    m_BadSize_BadRule := m_BadSize_BadRule,
    m_BadSize_BadKind := m_BadSize_BadKind,
    m_BadSize_BadLayer := m_BadSize_BadLayer,
    m_BadSize_NoSuch := m_BadSize_NoSuch,
    m_BadSize_BadDeed := m_BadSize_BadDeed,
    m_BadSize_BadGround := m_BadSize_BadGround,
    m_BadSize_BadStore := m_BadSize_BadStore,
    m_BadSize_Broken := m_BadSize_Broken,
    m_BadSize_BadSize := m_BadSize_BadSize,
    C_law := ⟨⟨_, _, _, _, _, _, _, _, rfl, l_law, c_law⟩⟩,
    H_law := h_law,
    z_abs := PySem.W.mg_none_of X G z_abs,
    z_all := PySem.W.mg_none_of X G z_all,
    z_any := PySem.W.mg_none_of X G z_any,
    z_enumerate := PySem.W.mg_none_of X G z_enumerate,
    z_int := PySem.W.mg_none_of X G z_int,
    z_isinstance := PySem.W.mg_none_of X G z_isinstance,
    z_len := PySem.W.mg_none_of X G z_len,
    z_list := PySem.W.mg_none_of X G z_list,
    z_range := PySem.W.mg_none_of X G z_range,
    z_sorted := PySem.W.mg_none_of X G z_sorted,
    z_str := PySem.W.mg_none_of X G z_str,
    z_tuple := PySem.W.mg_none_of X G z_tuple }
  refine ⟨A.d_law, [(c_L, P_L)], spLaw K A, fun p hp => ?_, fun p hp => ?_, fun p hp => ?_, fun s v => .of_eq rfl, fun H a ns hl _ hT hS => ⟨a, ns, rfl, hS, hl, hT _ List.mem_cons_self, fun _ => rfl⟩, fun base _ _ TB => ok_law T (TB _ List.mem_cons_self)⟩
  · cases List.mem_singleton.mp hp
    exact FunC.tab (T.C_law) h_law OT
  · cases List.mem_singleton.mp hp
    exact n_law
  · cases List.mem_singleton.mp hp
    exact PySem.W.codeHd_of_K X h_law
end Toy

open PySem PySem.W PyProof.Rows in
set_option maxRecDepth 100000 in
set_option maxHeartbeats 0 in
theorem PySem.Challenge.cw_deducehall_k06_safe_rules_holds : PySem.Challenge.rw_deducehall_k06_safe_rules.Holds := by
  w_on; o_law; k_head; (case hw => w_witness2)
  k_fill
  refine LamX.walk_ofOwn (l := PySem.Challenge.rw_deducehall_k06_safe_rules) (n := 63) (k := 10) (x := "_law_script") (CX := fun _ => L2.CX0) rfl (by decide) rfl ⟨rfl, by decide, by decide⟩ rfl (fun w h Y => (by first | exact PySem.W.km_in_of Y | exact PySem.W.kIn_of Y)) ?F fun _ _ _ _ _ z => z
  case F =>
    intro w mg fa h Y KX G hmg OT
    refine' Toy.all_mk (P_L := 518) KX G hmg OT ?aC_Term ?pg_Term ?hd_Term ?po_Term ?sa_Term ?mk_Term ?kc_Term ?n_Term_name ?n_Term_value ?aC_Literal ?pg_Literal ?hd_Literal ?po_Literal ?sa_Literal ?mk_Literal ?kc_Literal ?n_Literal_kind ?n_Literal_name ?n_Literal_terms ?n_Literal_own ?aC_Rule ?pg_Rule ?hd_Rule ?po_Rule ?sa_Rule ?mk_Rule ?kc_Rule ?n_Rule_name ?n_Rule_terms ?n_Rule_body ?n_Rule_summed ?n_Rule_stands ?a_is_small ?l_is_small ?c_is_small ?k_is_small ?a_is_inner ?l_is_inner ?c_is_inner ?k_is_inner ?a_Term_init ?i_Term_init ?l_Term_init ?v_Term_init ?c_Term_init ?k_Term_init ?a_Term_is_variable ?i_Term_is_variable ?l_Term_is_variable ?c_Term_is_variable ?k_Term_is_variable ?a_Term_shown ?i_Term_shown ?l_Term_shown ?c_Term_shown ?k_Term_shown ?a_var ?l_var ?c_var ?k_var ?a_val ?l_val ?c_val ?k_val ?a_is_number ?l_is_number ?c_is_number ?k_is_number ?a_names_in ?l_names_in ?c_names_in ?k_names_in ?a_shown_all ?l_shown_all ?c_shown_all ?k_shown_all ?a_Literal_init ?i_Literal_init ?l_Literal_init ?c_Literal_init ?k_Literal_init ?a_Literal_names ?i_Literal_names ?l_Literal_names ?c_Literal_names ?k_Literal_names ?a_Literal_shown ?i_Literal_shown ?l_Literal_shown ?c_Literal_shown ?k_Literal_shown ?a_Rule_init ?i_Rule_init ?l_Rule_init ?v_Rule_init ?c_Rule_init ?k_Rule_init ?a_Rule_names ?i_Rule_names ?l_Rule_names ?c_Rule_names ?k_Rule_names ?a_Rule_asked ?i_Rule_asked ?l_Rule_asked ?c_Rule_asked ?k_Rule_asked ?a_Rule_reckons ?i_Rule_reckons ?l_Rule_reckons ?c_Rule_reckons ?k_Rule_reckons ?a_Rule_shown ?i_Rule_shown ?l_Rule_shown ?c_Rule_shown ?k_Rule_shown ?a_how_often ?l_how_often ?c_how_often ?k_how_often ?a_bounded ?l_bounded ?c_bounded ?k_bounded ?a_needs ?l_needs ?c_needs ?k_needs ?a_gives ?l_gives ?c_gives ?k_gives ?a_shared ?l_shared ?c_shared ?k_shared ?a_ready ?l_ready ?c_ready ?k_ready ?a_limited ?l_limited ?c_limited ?k_limited ?a_loose ?l_loose ?c_loose ?k_loose ?a_reckoned_twice ?l_reckoned_twice ?c_reckoned_twice ?k_reckoned_twice ?a_has_value ?l_has_value ?c_has_value ?k_has_value ?a_all_terms ?l_all_terms ?c_all_terms ?k_all_terms ?a_too_long ?l_too_long ?c_too_long ?k_too_long ?a_check_rule ?l_check_rule ?c_check_rule ?k_check_rule ?a_is_fact ?l_is_fact ?c_is_fact ?k_is_fact ?a_row_of ?l_row_of ?c_row_of ?k_row_of ?a_parted ?l_parted ?c_parted ?k_parted ?a_is_name ?l_is_name ?c_is_name ?k_is_name ?a_l_flat ?l_l_flat ?c_l_flat ?k_l_flat ?a_l_dice ?l_l_dice ?c_l_dice ?k_l_dice ?a_l_roll ?l_l_roll ?c_l_roll ?k_l_roll ?a_l_rounds ?l_l_rounds ?c_l_rounds ?k_l_rounds ?a_l_told ?l_l_told ?c_l_told ?k_l_told ?a_l_part ?l_l_part ?c_l_part ?k_l_part ?a_l_names ?l_l_names ?c_l_names ?k_l_names ?a_l_needs ?l_l_needs ?c_l_needs ?k_l_needs ?a_l_limited ?l_l_limited ?c_l_limited ?k_l_limited ?a_law ?l_law ?c_law ?k_law ?z_abs ?z_all ?z_any ?z_enumerate ?z_int ?z_isinstance ?z_len ?z_list ?z_range ?z_sorted ?z_str ?z_tuple ?g_INNER ?g_MOST ?g_SMALL ?q_BadSign ?q_BadRule ?q_BadKind ?q_BadLayer ?q_NoSuch ?q_BadDeed ?q_BadGround ?q_BadStore ?q_Broken ?q_BadSize ?x_BadRule ?k_BadRule ?sb_BadRule ?ty_BadRule ?m_BadRule_BadSign ?m_BadRule_BadRule ?x_BadSize ?k_BadSize ?sb_BadSize ?ty_BadSize ?m_BadSize_BadSign ?m_BadSize_BadRule ?m_BadSize_BadKind ?m_BadSize_BadLayer ?m_BadSize_NoSuch ?m_BadSize_BadDeed ?m_BadSize_BadGround ?m_BadSize_BadStore ?m_BadSize_Broken ?m_BadSize_BadSize ?h_law ?n_law
    (case aC_Term => k_is)
    (case pg_Term => k_is)
    (case hd_Term => k_is)
    (case po_Term => k_is)
    (case sa_Term => k_is)
    (case mk_Term => k_is)
    (case kc_Term => k_is)
    (case n_Term_name => k_is)
    (case n_Term_value => k_is)
    (case aC_Literal => k_is)
    (case pg_Literal => k_is)
    (case hd_Literal => k_is)
    (case po_Literal => k_is)
    (case sa_Literal => k_is)
    (case mk_Literal => k_is)
    (case kc_Literal => k_is)
    (case n_Literal_kind => k_is)
    (case n_Literal_name => k_is)
    (case n_Literal_terms => k_is)
    (case n_Literal_own => k_is)
    (case aC_Rule => k_is)
    (case pg_Rule => k_is)
    (case hd_Rule => k_is)
    (case po_Rule => k_is)
    (case sa_Rule => k_is)
    (case mk_Rule => k_is)
    (case kc_Rule => k_is)
    (case n_Rule_name => k_is)
    (case n_Rule_terms => k_is)
    (case n_Rule_body => k_is)
    (case n_Rule_summed => k_is)
    (case n_Rule_stands => k_is)
    (case a_is_small => k_is)
    (case l_is_small => k_is)
    (case c_is_small => k_is)
    (case k_is_small => k_is)
    (case a_is_inner => k_is)
    (case l_is_inner => k_is)
    (case c_is_inner => k_is)
    (case k_is_inner => k_is)
    (case a_Term_init => k_is)
    (case i_Term_init => k_is)
    (case l_Term_init => k_is)
    (case v_Term_init => exact .inr ⟨by decide, _, _, _, _, rfl, (by k_is), rfl, .cons rfl .nil⟩)
    (case c_Term_init => k_is)
    (case k_Term_init => k_is)
    (case a_Term_is_variable => k_is)
    (case i_Term_is_variable => k_is)
    (case l_Term_is_variable => k_is)
    (case c_Term_is_variable => k_is)
    (case k_Term_is_variable => k_is)
    (case a_Term_shown => k_is)
    (case i_Term_shown => k_is)
    (case l_Term_shown => k_is)
    (case c_Term_shown => k_is)
    (case k_Term_shown => k_is)
    (case a_var => k_is)
    (case l_var => k_is)
    (case c_var => k_is)
    (case k_var => k_is)
    (case a_val => k_is)
    (case l_val => k_is)
    (case c_val => k_is)
    (case k_val => k_is)
    (case a_is_number => k_is)
    (case l_is_number => k_is)
    (case c_is_number => k_is)
    (case k_is_number => k_is)
    (case a_names_in => k_is)
    (case l_names_in => k_is)
    (case c_names_in => k_is)
    (case k_names_in => k_is)
    (case a_shown_all => k_is)
    (case l_shown_all => k_is)
    (case c_shown_all => k_is)
    (case k_shown_all => k_is)
    (case a_Literal_init => k_is)
    (case i_Literal_init => k_is)
    (case l_Literal_init => k_is)
    (case c_Literal_init => k_is)
    (case k_Literal_init => k_is)
    (case a_Literal_names => k_is)
    (case i_Literal_names => k_is)
    (case l_Literal_names => k_is)
    (case c_Literal_names => k_is)
    (case k_Literal_names => k_is)
    (case a_Literal_shown => k_is)
    (case i_Literal_shown => k_is)
    (case l_Literal_shown => k_is)
    (case c_Literal_shown => k_is)
    (case k_Literal_shown => k_is)
    (case a_Rule_init => k_is)
    (case i_Rule_init => k_is)
    (case l_Rule_init => k_is)
    (case v_Rule_init => exact .inr ⟨by decide, _, _, _, _, rfl, (by k_is), rfl, .cons rfl .nil⟩)
    (case c_Rule_init => k_is)
    (case k_Rule_init => k_is)
    (case a_Rule_names => k_is)
    (case i_Rule_names => k_is)
    (case l_Rule_names => k_is)
    (case c_Rule_names => k_is)
    (case k_Rule_names => k_is)
    (case a_Rule_asked => k_is)
    (case i_Rule_asked => k_is)
    (case l_Rule_asked => k_is)
    (case c_Rule_asked => k_is)
    (case k_Rule_asked => k_is)
    (case a_Rule_reckons => k_is)
    (case i_Rule_reckons => k_is)
    (case l_Rule_reckons => k_is)
    (case c_Rule_reckons => k_is)
    (case k_Rule_reckons => k_is)
    (case a_Rule_shown => k_is)
    (case i_Rule_shown => k_is)
    (case l_Rule_shown => k_is)
    (case c_Rule_shown => k_is)
    (case k_Rule_shown => k_is)
    (case a_how_often => k_is)
    (case l_how_often => k_is)
    (case c_how_often => k_is)
    (case k_how_often => k_is)
    (case a_bounded => k_is)
    (case l_bounded => k_is)
    (case c_bounded => k_is)
    (case k_bounded => k_is)
    (case a_needs => k_is)
    (case l_needs => k_is)
    (case c_needs => k_is)
    (case k_needs => k_is)
    (case a_gives => k_is)
    (case l_gives => k_is)
    (case c_gives => k_is)
    (case k_gives => k_is)
    (case a_shared => k_is)
    (case l_shared => k_is)
    (case c_shared => k_is)
    (case k_shared => k_is)
    (case a_ready => k_is)
    (case l_ready => k_is)
    (case c_ready => k_is)
    (case k_ready => k_is)
    (case a_limited => k_is)
    (case l_limited => k_is)
    (case c_limited => k_is)
    (case k_limited => k_is)
    (case a_loose => k_is)
    (case l_loose => k_is)
    (case c_loose => k_is)
    (case k_loose => k_is)
    (case a_reckoned_twice => k_is)
    (case l_reckoned_twice => k_is)
    (case c_reckoned_twice => k_is)
    (case k_reckoned_twice => k_is)
    (case a_has_value => k_is)
    (case l_has_value => k_is)
    (case c_has_value => k_is)
    (case k_has_value => k_is)
    (case a_all_terms => k_is)
    (case l_all_terms => k_is)
    (case c_all_terms => k_is)
    (case k_all_terms => k_is)
    (case a_too_long => k_is)
    (case l_too_long => k_is)
    (case c_too_long => k_is)
    (case k_too_long => k_is)
    (case a_check_rule => k_is)
    (case l_check_rule => k_is)
    (case c_check_rule => k_is)
    (case k_check_rule => k_is)
    (case a_is_fact => k_is)
    (case l_is_fact => k_is)
    (case c_is_fact => k_is)
    (case k_is_fact => k_is)
    (case a_row_of => k_is)
    (case l_row_of => k_is)
    (case c_row_of => k_is)
    (case k_row_of => k_is)
    (case a_parted => k_is)
    (case l_parted => k_is)
    (case c_parted => k_is)
    (case k_parted => k_is)
    (case a_is_name => k_is)
    (case l_is_name => k_is)
    (case c_is_name => k_is)
    (case k_is_name => k_is)
    (case a_l_flat => k_is)
    (case l_l_flat => k_is)
    (case c_l_flat => k_is)
    (case k_l_flat => k_is)
    (case a_l_dice => k_is)
    (case l_l_dice => k_is)
    (case c_l_dice => k_is)
    (case k_l_dice => k_is)
    (case a_l_roll => k_is)
    (case l_l_roll => k_is)
    (case c_l_roll => k_is)
    (case k_l_roll => k_is)
    (case a_l_rounds => k_is)
    (case l_l_rounds => k_is)
    (case c_l_rounds => k_is)
    (case k_l_rounds => k_is)
    (case a_l_told => k_is)
    (case l_l_told => k_is)
    (case c_l_told => k_is)
    (case k_l_told => k_is)
    (case a_l_part => k_is)
    (case l_l_part => k_is)
    (case c_l_part => k_is)
    (case k_l_part => k_is)
    (case a_l_names => k_is)
    (case l_l_names => k_is)
    (case c_l_names => k_is)
    (case k_l_names => k_is)
    (case a_l_needs => k_is)
    (case l_l_needs => k_is)
    (case c_l_needs => k_is)
    (case k_l_needs => k_is)
    (case a_l_limited => k_is)
    (case l_l_limited => k_is)
    (case c_l_limited => k_is)
    (case k_l_limited => k_is)
    (case a_law => k_is)
    (case l_law => k_is)
    (case c_law => k_is)
    (case k_law => k_is)
    (case z_abs => k_is)
    (case z_all => k_is)
    (case z_any => k_is)
    (case z_enumerate => k_is)
    (case z_int => k_is)
    (case z_isinstance => k_is)
    (case z_len => k_is)
    (case z_list => k_is)
    (case z_range => k_is)
    (case z_sorted => k_is)
    (case z_str => k_is)
    (case z_tuple => k_is)
    (case g_INNER => k_is)
    (case g_MOST => k_is)
    (case g_SMALL => k_is)
    (case q_BadSign => k_is)
    (case q_BadRule => k_is)
    (case q_BadKind => k_is)
    (case q_BadLayer => k_is)
    (case q_NoSuch => k_is)
    (case q_BadDeed => k_is)
    (case q_BadGround => k_is)
    (case q_BadStore => k_is)
    (case q_Broken => k_is)
    (case q_BadSize => k_is)
    (case x_BadRule => k_exc)
    (case k_BadRule => k_is)
    (case sb_BadRule => k_is)
    (case ty_BadRule => k_is)
    (case m_BadRule_BadSign => exact PySem.W.exm_ref (by k_is) (by k_is) (by k_is) (by k_is))
    (case m_BadRule_BadRule => exact PySem.W.exm_ref (by k_is) (by k_is) (by k_is) (by k_is))
    (case x_BadSize => k_exc)
    (case k_BadSize => k_is)
    (case sb_BadSize => k_is)
    (case ty_BadSize => k_is)
    (case m_BadSize_BadSign => exact PySem.W.exm_ref (by k_is) (by k_is) (by k_is) (by k_is))
    (case m_BadSize_BadRule => exact PySem.W.exm_ref (by k_is) (by k_is) (by k_is) (by k_is))
    (case m_BadSize_BadKind => exact PySem.W.exm_ref (by k_is) (by k_is) (by k_is) (by k_is))
    (case m_BadSize_BadLayer => exact PySem.W.exm_ref (by k_is) (by k_is) (by k_is) (by k_is))
    (case m_BadSize_NoSuch => exact PySem.W.exm_ref (by k_is) (by k_is) (by k_is) (by k_is))
    (case m_BadSize_BadDeed => exact PySem.W.exm_ref (by k_is) (by k_is) (by k_is) (by k_is))
    (case m_BadSize_BadGround => exact PySem.W.exm_ref (by k_is) (by k_is) (by k_is) (by k_is))
    (case m_BadSize_BadStore => exact PySem.W.exm_ref (by k_is) (by k_is) (by k_is) (by k_is))
    (case m_BadSize_Broken => exact PySem.W.exm_ref (by k_is) (by k_is) (by k_is) (by k_is))
    (case m_BadSize_BadSize => exact PySem.W.exm_ref (by k_is) (by k_is) (by k_is) (by k_is))
    (case h_law => first | kernel_rfl | rfl)
    (case n_law => first | kernel_rfl | rfl)

